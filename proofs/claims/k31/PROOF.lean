import PyProof.Rows.All
import Wide.All
import OpenK.AllK
import Wide.FinOn
import HandS.ForMost
import HandS.Exc
import HandS.TryOnly
import HandS.ExcOwn
import HandS.WordsExc
import HandS.TupAny
import HandS.StrMore
import HandS.IsInst
import HandS.Flow
import HandS.Style
import HandS.Codes
import HandS.NoneIn
import HandS.RevRange
import HandS.Deep
import HandS.RaiseMore
import HandS.ExcCtx
import HandS.More
import HandS.Wide
import HandS.Conv
import HandS.ExcInit
import HandS.FStr
import HandS.ExcIs
import HandS.ExcField
import HandS.HotCalls
import KE.KExcIs
import HandS.Iter
import HandS.Zip
import HandS.Walk
import PySem.Challenge.RW_duewrits_k31_a_hundred_entries
set_option linter.all false
set_option Elab.async false
set_option maxRecDepth 100000
/-! Ev: a small evaluator over pure data and a store of own objects, and its soundness over the hand layer. -/
namespace Ev
open PySem L2

/-! ### data -/
/-- data that nobody changes: scr is the script's list -/
inductive D where
  | non | bl (b : Bool) | int (i : Int) | str (x : Str) | scr (ns : List Int)
  | tup (ds : List D) | lst (ds : List D)
inductive Val where
  | d (x : D) | ref (n : Nat) | vt (vs : List Val)
  /-- a caught exception: its address, its own dict's, the names and data of its fields -/
  | exc (a : Addr) (d : Option Addr) (nm : List Str) (fs : List D)
inductive Cell where
  | lst (ds : List D) | lck (ds : List D) | dic (ks : List Key) (ds : List D) | obj (c : Nat) (fs : List Val)
  /-- a dict while it is walked -/
  | ldk (ks : List Key) (ds : List D)
  /-- a dict whose keys are tuples, and while it is walked -/
  | dit (ks : List (List Key)) (ds : List D) | ldt (ks : List (List Key)) (ds : List D)
abbrev Store := List Cell
/-- an exception: its class's number, the data of its fields -/
structure Ex where
  k : Nat
  fs : List D
inductive R (α : Type) where
  | ok (a : α) (S : Store) | ex (x : Ex) (S : Store) | bad
abbrev Loc := List (Option Val)
inductive SR where
  | nx (L : Loc) (S : Store) | rt (v : Val) (S : Store) | bk (L : Loc) (S : Store) | ct (L : Loc) (S : Store) | ex (x : Ex) (L : Loc) (S : Store) | bad
abbrev SE := Loc → Store → R Val
abbrev SB := Loc → Store → R Bool
abbrev SA := Loc → Store → R (List Val)
abbrev SS := Loc → Store → SR

/-- what is fixed for a program: the classes' addresses, the names of their fields, those of the exceptions -/
structure PC where
  K : PySem.W.Frag
  cls : Nat → Addr
  fld : Nat → List Str
  xcl : Nat → Addr
  xfl : Nat → List Str

/-! ### how data lies in the abstract heap; A: the addresses of own objects -/
section
variable (K : PySem.W.Frag) (A : Addr → Prop) (H : Hp)
mutual
def RepD : D → V → Prop
  | .non, v => v = .non
  | .bl b, v => v = .bl b
  | .int i, v => v = .int i
  | .str x, v => v = .str x
  | .scr ns, v => ∃ a, v = .ref a ∧ ((Rd H a (.lst (ns.map V.int)) ∧ ¬ A a) ∨ ∀ H', SqL K H' a (ns.map V.int))
  | .tup ds, v => ∃ a vs, v = .ref a ∧ SqT K H a vs ∧ RepDs ds vs
  | .lst ds, v => ∃ a vs, v = .ref a ∧ H a = some (.lst vs) ∧ ¬ A a ∧ RepDs ds vs
def RepDs : List D → List V → Prop
  | [], vs => vs = []
  | d :: ds, vs => ∃ v r, vs = v :: r ∧ RepD d v ∧ RepDs ds r
end
/-- as RepD, but a list may be an own one -/
def RepT : D → V → Prop
  | .lst ds, v => ∃ a vs, v = .ref a ∧ H a = some (.lst vs) ∧ RepDs K A H ds vs
  | d, v => RepD K A H d v
variable (ρ : List Addr)
mutual
def RepV : Val → V → Prop
  | .d x, v => RepD K A H x v
  | .ref n, v => ∃ a, ρ[n]? = some a ∧ v = .ref a
  | .vt vs, v => ∃ a ws, v = .ref a ∧ SqT K H a ws ∧ RepVs vs ws
  | .exc a d nm fs, v => v = .ref a ∧ ((d = none ∧ fs = []) ∨ ∃ dx vs, d = some dx ∧ H dx = some (.xd (nm.zip vs)) ∧ RepDs K A H fs vs)
def RepVs : List Val → List V → Prop
  | [], ws => ws = []
  | v :: vs, ws => ∃ w r, ws = w :: r ∧ RepV v w ∧ RepVs vs r
end
end
/-- what a cell is at its address -/
def RepC (G : PC) (A : Addr → Prop) (H : Hp) (ρ : List Addr) (a : Addr) : Cell → Prop
  | .lst ds => ∃ vs, H a = some (.lst vs) ∧ RepDs G.K A H ds vs
  | .lck ds => ∃ vs, H a = some (.lst vs) ∧ RepDs G.K A H ds vs
  | .dic ks ds => ∃ vs, H a = some (.dK (ks.zip vs)) ∧ ks.length = ds.length ∧ RepDs G.K A H ds vs
  | .ldk ks ds => ∃ vs, (∃ od, H a = some (.frz od (.dK (ks.zip vs)))) ∧ ks.length = ds.length ∧ RepDs G.K A H ds vs
  | .dit ks ds => ∃ vs, H a = some (.dT (ks.zip vs)) ∧ ks.length = ds.length ∧ RepDs G.K A H ds vs
  | .ldt ks ds => ∃ vs, (∃ od, H a = some (.frz od (.dT (ks.zip vs)))) ∧ ks.length = ds.length ∧ RepDs G.K A H ds vs
  | .obj c fs => ∃ dx vs, H a = some (.ins (G.cls c) dx (((G.fld c).take fs.length).zip vs)) ∧ fs.length ≤ (G.fld c).length ∧ RepVs G.K A H ρ fs vs

/-- between two states -/
structure Ext (F A : Addr → Prop) (ρ : List Addr) (H : Hp) (A' : Addr → Prop) (ρ' : List Addr) (H' : Hp) : Prop where
  pre : ρ <+: ρ'
  fr : ∀ a o, (a ∈ ρ → F a) → H a = some o → H' a = some o
  st : ∀ a, H' a = none → H a = none
  up : ∀ a, A a → A' a
  nw : ∀ a, A' a → A a ∨ H a = none
  nr : ∀ a, a ∈ ρ' → a ∈ ρ ∨ H a = none
def isOwn : HO → Prop
  | .lst _ => True
  | .dK _ => True
  | .ins _ _ _ => True
  | .frz _ (.dK _) => True
  | .dT _ => True
  | .frz _ (.dT _) => True
  | _ => False
/-- what is locked -/
@[reducible] def isLk : Cell → Prop
  | .lck _ => True
  | .ldk _ _ => True
  | .ldt _ _ => True
  | _ => False
structure RS (G : PC) (F A : Addr → Prop) (ρ : List Addr) (S : Store) (H : Hp) : Prop where
  sub : ∀ a, a ∈ ρ → A a
  trk : ∀ a, A a → ∃ o, H a = some o
  nd : ρ.Nodup
  len : ρ.length = S.length
  own : ∀ a, a ∈ ρ → ∃ o, H a = some o ∧ isOwn o
  fin : ∀ a, F a → a ∈ ρ
  lk : ∀ (n : Nat) (a : Addr) (c : Cell), ρ[n]? = some a → S[n]? = some c → (F a ↔ isLk c)
  cells : ∀ (n : Nat) (c : Cell), S[n]? = some c → ∃ a, ρ[n]? = some a ∧ RepC G A H ρ a c

variable {F F1 A A1 A2 : Addr → Prop} {ρ ρ1 ρ2 : List Addr} {H H1 H2 : Hp} {K : PySem.W.Frag} {G : PC} {S S1 S2 : Store}
theorem Ext.refl : Ext F A ρ H A ρ H :=
  ⟨List.prefix_refl _, fun _ _ _ h => h, fun _ h => h, fun _ h => h, fun _ h => .inl h, fun _ h => .inl h⟩
theorem Ext.trans (x : Ext F A ρ H A1 ρ1 H1) (y : Ext F A1 ρ1 H1 A2 ρ2 H2) : Ext F A ρ H A2 ρ2 H2 where
  pre := x.pre.trans y.pre
  fr := fun a o n h => y.fr a o (fun z => (x.nr a z).elim n fun q => by rw [q] at h; cases h) (x.fr a o n h)
  st := fun a h => x.st a (y.st a h)
  up := fun a h => y.up a (x.up a h)
  nw := fun a h => (y.nw a h).elim (x.nw a) fun q => .inr (x.st a q)
  nr := fun a h => (y.nr a h).elim (x.nr a) fun q => .inr (x.st a q)
/-- no own object is a tuple or a known thing -/
def NoTup (ρ : List Addr) (H : Hp) : Prop := ∀ a, a ∈ ρ → ∃ o, H a = some o ∧ isOwn o
theorem RS.noTup (r : RS G F A ρ S H) : NoTup ρ H := r.own
theorem Ext.sqT (x : Ext F A ρ H A1 ρ1 H1) (n : NoTup ρ H) {a : Addr} {vs : List V} (h : SqT K H a vs) : SqT K H1 a vs := by
  have ne : ∀ o, H a = some o → ¬ isOwn o → a ∈ ρ → F a := fun o e q z => by
    obtain ⟨o', e', w⟩ := n a z
    rw [e] at e'; cases e'; exact (q w).elim
  rcases h with (h | ⟨o, h⟩) | h
  · exact .inl (.inl (x.fr a _ (ne _ h fun z => z) h))
  · exact .inl (.inr ⟨o, x.fr a _ (ne _ h fun z => z) h⟩)
  · exact .inr h
theorem Ext.back (x : Ext F A ρ H A1 ρ1 H1) {a : Addr} {o : HO} (h : H a = some o) (n : ¬ A a) : ¬ A1 a := fun z =>
  (x.nw a z).elim n fun q => by rw [h] at q; cases q
theorem Ext.rd (x : Ext F A ρ H A1 ρ1 H1) {a : Addr} {o : HO} (na : a ∈ ρ → F a) (h : Rd H a o) : Rd H1 a o := by
  rcases h with h | ⟨o', h⟩
  · exact .inl (x.fr a _ na h)
  · exact .inr ⟨o', x.fr a _ na h⟩
theorem Rd.some {a : Addr} {u : HO} (h : Rd H a u) : ∃ o, H a = some o := h.elim (fun h => ⟨_, h⟩) fun ⟨_, h⟩ => ⟨_, h⟩
/-- what is asked of a state where values move -/
structure RN (A : Addr → Prop) (ρ : List Addr) (H : Hp) : Prop where
  sub : ∀ a, a ∈ ρ → A a
  own : NoTup ρ H
theorem RS.rn (r : RS G F A ρ S H) : RN A ρ H := ⟨r.sub, r.own⟩
mutual
theorem RepD.mvN (x : Ext F A ρ H A1 ρ1 H1) (r : RN A ρ H) : ∀ (d : D) (v : V), RepD K A H d v → RepD K A1 H1 d v
  | .non, v, h => h
  | .bl b, v, h => h
  | .int i, v, h => h
  | .str y, v, h => h
  | .scr ns, v, h => by
    obtain ⟨a, e, q⟩ := h
    rcases q with ⟨q, na⟩ | q
    · obtain ⟨o, e'⟩ := Rd.some q
      exact ⟨a, e, .inl ⟨x.rd (fun z => (na (r.sub a z)).elim) q, x.back e' na⟩⟩
    · exact ⟨a, e, .inr q⟩
  | .tup ds, v, h => by
    obtain ⟨a, vs, e, q, p⟩ := h
    exact ⟨a, vs, e, x.sqT r.own q, RepDs.mvN x r ds vs p⟩
  | .lst ds, v, h => by
    obtain ⟨a, vs, e, q, na, p⟩ := h
    exact ⟨a, vs, e, x.fr a _ (fun z => (na (r.sub a z)).elim) q, x.back q na, RepDs.mvN x r ds vs p⟩
theorem RepDs.mvN (x : Ext F A ρ H A1 ρ1 H1) (r : RN A ρ H) : ∀ (ds : List D) (vs : List V), RepDs K A H ds vs → RepDs K A1 H1 ds vs
  | [], vs, h => h
  | d :: ds, vs, h => by
    obtain ⟨v, t, e, p, q⟩ := h
    exact ⟨v, t, e, RepD.mvN x r d v p, RepDs.mvN x r ds t q⟩
end
mutual
theorem RepV.mv' {τ τ1 : List Addr} (x : Ext F A τ H A1 τ1 H1) (r : RN A τ H) (pre : ρ <+: ρ1) : ∀ (d : Val) (v : V), RepV K A H ρ d v → RepV K A1 H1 ρ1 d v
  | .d y, v, h => RepD.mvN x r y v h
  | .ref n, v, h => by
    obtain ⟨a, e, q⟩ := h
    refine ⟨a, ?_, q⟩
    obtain ⟨t, rfl⟩ := pre
    rw [List.getElem?_append_left (List.getElem?_eq_some_iff.mp e).1]
    exact e
  | .vt vs, v, h => by
    obtain ⟨a, ws, e, q, p⟩ := h
    exact ⟨a, ws, e, x.sqT r.own q, RepVs.mv' x r pre vs ws p⟩
  | .exc a d nm fs, v, h => by
    obtain ⟨e, q⟩ := h
    refine ⟨e, q.imp (fun q => q) fun ⟨dx, vs, e1, e2, p⟩ => ⟨dx, vs, e1, x.fr dx _ (fun z => ?_) e2, RepDs.mvN x r fs vs p⟩⟩
    obtain ⟨o, e3, w⟩ := r.own dx z
    rw [e2] at e3; cases e3
    exact w.elim
theorem RepVs.mv' {τ τ1 : List Addr} (x : Ext F A τ H A1 τ1 H1) (r : RN A τ H) (pre : ρ <+: ρ1) : ∀ (ds : List Val) (vs : List V), RepVs K A H ρ ds vs → RepVs K A1 H1 ρ1 ds vs
  | [], vs, h => h
  | d :: ds, vs, h => by
    obtain ⟨v, t, e, p, q⟩ := h
    exact ⟨v, t, e, RepV.mv' x r pre d v p, RepVs.mv' x r pre ds t q⟩
end
theorem RepD.mv (x : Ext F A ρ H A1 ρ1 H1) (r : RS G F A ρ S H) (d : D) (v : V) (h : RepD K A H d v) : RepD K A1 H1 d v := RepD.mvN x r.rn d v h
theorem RepDs.mv (x : Ext F A ρ H A1 ρ1 H1) (r : RS G F A ρ S H) (ds : List D) (vs : List V) (h : RepDs K A H ds vs) : RepDs K A1 H1 ds vs := RepDs.mvN x r.rn ds vs h
theorem RepV.mv (x : Ext F A ρ H A1 ρ1 H1) (r : RS G F A ρ S H) (d : Val) (v : V) (h : RepV K A H ρ d v) : RepV K A1 H1 ρ1 d v := RepV.mv' x r.rn x.pre d v h
theorem RepVs.mv (x : Ext F A ρ H A1 ρ1 H1) (r : RS G F A ρ S H) (d : List Val) (v : List V) (h : RepVs K A H ρ d v) : RepVs K A1 H1 ρ1 d v := RepVs.mv' x r.rn x.pre d v h
mutual
theorem RepD.weak (w : ∀ a, A1 a → A a) : ∀ (d : D) (v : V), RepD K A H d v → RepD K A1 H d v
  | .non, v, h => h
  | .bl b, v, h => h
  | .int i, v, h => h
  | .str y, v, h => h
  | .scr ns, v, h => by
    obtain ⟨a, e, q⟩ := h
    exact ⟨a, e, q.imp (fun ⟨q, na⟩ => ⟨q, fun z => na (w a z)⟩) fun q => q⟩
  | .tup ds, v, h => by
    obtain ⟨a, vs, e, q, p⟩ := h
    exact ⟨a, vs, e, q, RepDs.weak w ds vs p⟩
  | .lst ds, v, h => by
    obtain ⟨a, vs, e, q, na, p⟩ := h
    exact ⟨a, vs, e, q, fun z => na (w a z), RepDs.weak w ds vs p⟩
theorem RepDs.weak (w : ∀ a, A1 a → A a) : ∀ (ds : List D) (vs : List V), RepDs K A H ds vs → RepDs K A1 H ds vs
  | [], vs, h => h
  | d :: ds, vs, h => by
    obtain ⟨v, t, e, p, q⟩ := h
    exact ⟨v, t, e, RepD.weak w d v p, RepDs.weak w ds t q⟩
end
mutual
/-- the own addresses of a state that is left may be forgotten -/
theorem RepV.weak (w : ∀ a, A1 a → A a) : ∀ (d : Val) (v : V), RepV K A H ρ d v → RepV K A1 H ρ d v
  | .d y, v, h => RepD.weak w y v h
  | .ref n, v, h => h
  | .vt vs, v, h => by
    obtain ⟨a, ws, e, q, p⟩ := h
    exact ⟨a, ws, e, q, RepVs.weak w vs ws p⟩
  | .exc a d nm fs, v, h => ⟨h.1, h.2.imp (fun q => q) fun ⟨dx, vs, e1, e2, p⟩ => ⟨dx, vs, e1, e2, RepDs.weak w fs vs p⟩⟩
theorem RepVs.weak (w : ∀ a, A1 a → A a) : ∀ (ds : List Val) (vs : List V), RepVs K A H ρ ds vs → RepVs K A1 H ρ ds vs
  | [], vs, h => h
  | d :: ds, vs, h => by
    obtain ⟨v, t, e, p, q⟩ := h
    exact ⟨v, t, e, RepV.weak w d v p, RepVs.weak w ds t q⟩
end
theorem RepDs.len : ∀ {ds : List D} {vs : List V}, RepDs K A H ds vs → vs.length = ds.length
  | [], vs, h => by rw [show vs = [] from h]; rfl
  | d :: ds, vs, h => by
    obtain ⟨v, t, rfl, p, q⟩ := h
    exact congrArg (· + 1) (RepDs.len q)
theorem RepVs.len : ∀ {ds : List Val} {vs : List V}, RepVs K A H ρ ds vs → vs.length = ds.length
  | [], vs, h => by rw [show vs = [] from h]; rfl
  | d :: ds, vs, h => by
    obtain ⟨v, t, rfl, p, q⟩ := h
    exact congrArg (· + 1) (RepVs.len q)
theorem RepDs.get : ∀ {ds : List D} {vs : List V} {i : Nat} {d : D}, RepDs K A H ds vs → ds[i]? = some d → ∃ v, vs[i]? = some v ∧ RepD K A H d v
  | [], vs, i, d, h, e => by simp at e
  | x :: ds, vs, 0, d, h, e => by
    obtain ⟨v, t, rfl, p, q⟩ := h
    simp at e; subst e
    exact ⟨v, rfl, p⟩
  | x :: ds, vs, i + 1, d, h, e => by
    obtain ⟨v, t, rfl, p, q⟩ := h
    obtain ⟨u, e1, e2⟩ := RepDs.get (i := i) (d := d) q (by simpa using e)
    exact ⟨u, by simpa using e1, e2⟩
theorem RepVs.get : ∀ {ds : List Val} {vs : List V} {i : Nat} {d : Val}, RepVs K A H ρ ds vs → ds[i]? = some d → ∃ v, vs[i]? = some v ∧ RepV K A H ρ d v
  | [], vs, i, d, h, e => by simp at e
  | x :: ds, vs, 0, d, h, e => by
    obtain ⟨v, t, rfl, p, q⟩ := h
    simp at e; subst e
    exact ⟨v, rfl, p⟩
  | x :: ds, vs, i + 1, d, h, e => by
    obtain ⟨v, t, rfl, p, q⟩ := h
    obtain ⟨u, e1, e2⟩ := RepVs.get (i := i) (d := d) q (by simpa using e)
    exact ⟨u, by simpa using e1, e2⟩
theorem RepDs.app : ∀ {ds es : List D} {vs us : List V}, RepDs K A H ds vs → RepDs K A H es us → RepDs K A H (ds ++ es) (vs ++ us)
  | [], es, vs, us, h, g => by rw [show vs = [] from h]; exact g
  | d :: ds, es, vs, us, h, g => by
    obtain ⟨v, t, rfl, p, q⟩ := h
    exact ⟨v, t ++ us, rfl, p, RepDs.app q g⟩
theorem RepDs.take : ∀ {ds : List D} {vs : List V} (n : Nat), RepDs K A H ds vs → RepDs K A H (ds.take n) (vs.take n)
  | ds, vs, 0, h => by rw [List.take_zero, List.take_zero]; exact rfl
  | [], vs, n + 1, h => by rw [show vs = [] from h, List.take_nil, List.take_nil]; exact rfl
  | d :: ds, vs, n + 1, h => by
    obtain ⟨v, t, rfl, p, q⟩ := h
    exact ⟨v, t.take n, rfl, p, RepDs.take n q⟩
theorem RepDs.drop : ∀ {ds : List D} {vs : List V} (n : Nat), RepDs K A H ds vs → RepDs K A H (ds.drop n) (vs.drop n)
  | ds, vs, 0, h => h
  | [], vs, n + 1, h => by rw [show vs = [] from h, List.drop_nil, List.drop_nil]; exact rfl
  | d :: ds, vs, n + 1, h => by
    obtain ⟨v, t, rfl, p, q⟩ := h
    exact RepDs.drop (ds := ds) (vs := t) n q
theorem RepDs.set : ∀ {ds : List D} {vs : List V} {d : D} {v : V} (i : Nat), RepDs K A H ds vs → RepD K A H d v → RepDs K A H (ds.set i d) (vs.set i v)
  | [], vs, d, v, i, h, g => by rw [show vs = [] from h]; exact rfl
  | x :: ds, vs, d, v, 0, h, g => by
    obtain ⟨u, t, rfl, p, q⟩ := h
    exact ⟨v, t, rfl, g, q⟩
  | x :: ds, vs, d, v, i + 1, h, g => by
    obtain ⟨u, t, rfl, p, q⟩ := h
    exact ⟨u, t.set i v, rfl, p, RepDs.set i q g⟩
theorem RepVs.setv : ∀ {ds : List Val} {vs : List V} {d : Val} {v : V} (i : Nat), RepVs K A H ρ ds vs → RepV K A H ρ d v → RepVs K A H ρ (ds.set i d) (vs.set i v)
  | [], vs, d, v, i, h, g => by rw [show vs = [] from h]; exact rfl
  | x :: ds, vs, d, v, 0, h, g => by
    obtain ⟨u, t, rfl, p, q⟩ := h
    exact ⟨v, t, rfl, g, q⟩
  | x :: ds, vs, d, v, i + 1, h, g => by
    obtain ⟨u, t, rfl, p, q⟩ := h
    exact ⟨u, t.set i v, rfl, p, RepVs.setv i q g⟩
theorem RepVs.app : ∀ {ds es : List Val} {vs us : List V}, RepVs K A H ρ ds vs → RepVs K A H ρ es us → RepVs K A H ρ (ds ++ es) (vs ++ us)
  | [], es, vs, us, h, g => by rw [show vs = [] from h]; exact g
  | d :: ds, es, vs, us, h, g => by
    obtain ⟨v, t, rfl, p, q⟩ := h
    exact ⟨v, t ++ us, rfl, p, RepVs.app q g⟩
theorem RepT.of : ∀ {d : D} {v : V}, RepD K A H d v → RepT K A H d v
  | .non, v, h => h
  | .bl b, v, h => h
  | .int i, v, h => h
  | .str y, v, h => h
  | .scr ns, v, h => h
  | .tup ds, v, h => h
  | .lst ds, v, h => by
    obtain ⟨a, vs, e, q, na, p⟩ := h
    exact ⟨a, vs, e, q, p⟩
theorem RepC.mv' {τ τ1 : List Addr} (x : Ext F A τ H A1 τ1 H1) (r : RN A τ H) (pre : ρ <+: ρ1) {a : Addr} : ∀ {c : Cell}, H1 a = H a → RepC G A H ρ a c → RepC G A1 H1 ρ1 a c
  | .lst ds, e, ⟨vs, h, q⟩ => ⟨vs, e.trans h, RepDs.mvN x r ds vs q⟩
  | .lck ds, e, ⟨vs, h, q⟩ => ⟨vs, e.trans h, RepDs.mvN x r ds vs q⟩
  | .dic ks ds, e, ⟨vs, h, l, q⟩ => ⟨vs, e.trans h, l, RepDs.mvN x r ds vs q⟩
  | .ldk ks ds, e, ⟨vs, ⟨od, h⟩, l, q⟩ => ⟨vs, ⟨od, e.trans h⟩, l, RepDs.mvN x r ds vs q⟩
  | .dit ks ds, e, ⟨vs, h, l, q⟩ => ⟨vs, e.trans h, l, RepDs.mvN x r ds vs q⟩
  | .ldt ks ds, e, ⟨vs, ⟨od, h⟩, l, q⟩ => ⟨vs, ⟨od, e.trans h⟩, l, RepDs.mvN x r ds vs q⟩
  | .obj c fs, e, ⟨dx, vs, h, l, q⟩ => ⟨dx, vs, e.trans h, l, RepVs.mv' x r pre fs vs q⟩
theorem RepC.mv (x : Ext F A ρ H A1 ρ1 H1) (r : RS G F A ρ S H) {a : Addr} {c : Cell} (e : H1 a = H a) (h : RepC G A H ρ a c) : RepC G A1 H1 ρ1 a c := RepC.mv' x r.rn x.pre e h
theorem RepC.weak (w : ∀ a, A1 a → A a) {a : Addr} : ∀ {c : Cell}, RepC G A H ρ a c → RepC G A1 H ρ a c
  | .lst ds, ⟨vs, h, q⟩ => ⟨vs, h, RepDs.weak w ds vs q⟩
  | .lck ds, ⟨vs, h, q⟩ => ⟨vs, h, RepDs.weak w ds vs q⟩
  | .dic ks ds, ⟨vs, h, l, q⟩ => ⟨vs, h, l, RepDs.weak w ds vs q⟩
  | .ldk ks ds, ⟨vs, h, l, q⟩ => ⟨vs, h, l, RepDs.weak w ds vs q⟩
  | .dit ks ds, ⟨vs, h, l, q⟩ => ⟨vs, h, l, RepDs.weak w ds vs q⟩
  | .ldt ks ds, ⟨vs, h, l, q⟩ => ⟨vs, h, l, RepDs.weak w ds vs q⟩
  | .obj c fs, ⟨dx, vs, h, l, q⟩ => ⟨dx, vs, h, l, RepVs.weak w fs vs q⟩
end Ev
set_option linter.all false
set_option Elab.async false
set_option maxRecDepth 100000
namespace Ev
open PySem L2
variable {F F1 A A1 A2 : Addr → Prop} {ρ ρ1 ρ2 : List Addr} {H H1 H2 : Hp} {K : PySem.W.Frag} {G : PC} {S S1 S2 : Store}

/-- what was there is there; A may grow by new addresses -/
theorem RS.same (r : RS G F A ρ S H) (k : ∀ a o, H a = some o → H1 a = some o) (up : ∀ a, A a → A1 a) (nw : ∀ a, A1 a → A a ∨ H a = none) (tr : ∀ a, A1 a → ∃ o, H1 a = some o) :
    Ext F A ρ H A1 ρ H1 ∧ RS G F A1 ρ S H1 := by
  have x : Ext F A ρ H A1 ρ H1 := ⟨List.prefix_refl _, fun a o _ h => k a o h, fun a h => (by
    cases e : H a with
    | none => rfl
    | some o => rw [k a o e] at h; cases h), up, nw, fun a h => .inl h⟩
  refine ⟨x, fun a h => up a (r.sub a h), tr, r.nd, r.len, fun a h => ?_, r.fin, r.lk, fun n c e => ?_⟩
  · obtain ⟨o, e, w⟩ := r.own a h
    exact ⟨o, k a o e, w⟩
  · obtain ⟨a, e1, q⟩ := r.cells n c e
    obtain ⟨o, e2, w⟩ := r.own a (List.mem_of_getElem? e1)
    exact ⟨a, e1, q.mv x r ((k a o e2).trans e2.symm)⟩
theorem RS.laid (r : RS G F A ρ S H) {p : Addr} (hp : H p = none) (o : HO) : Ext F A ρ H A ρ (upd H p o) ∧ RS G F A ρ S (upd H p o) := by
  have k : ∀ a u, H a = some u → upd H p o a = some u := fun a u e => by rw [upd_ne (ne_of_none e hp)]; exact e
  exact r.same k (fun _ h => h) (fun _ h => .inl h) fun a h => let ⟨u, e⟩ := r.trk a h; ⟨u, k a u e⟩
theorem RS.notA (r : RS G F A ρ S H) {p : Addr} (hp : H p = none) : ¬ A p := fun z => by
  obtain ⟨o, e⟩ := r.trk p z
  rw [hp] at e; cases e
/-- a new own object -/
theorem RS.push (r : RS G F A ρ S H) {p : Addr} (hp : H p = none) {o : HO} {c : Cell} (ho : isOwn o) (nl : Unit → ¬ isLk c)
    (hc : Ext F A ρ H (fun a => A a ∨ a = p) (ρ ++ [p]) (upd H p o) → RepC G (fun a => A a ∨ a = p) (upd H p o) (ρ ++ [p]) p c) :
    Ext F A ρ H (fun a => A a ∨ a = p) (ρ ++ [p]) (upd H p o) ∧ RS G F (fun a => A a ∨ a = p) (ρ ++ [p]) (S ++ [c]) (upd H p o) := by
  have k : ∀ a u, H a = some u → upd H p o a = some u := fun a u e => by rw [upd_ne (ne_of_none e hp)]; exact e
  have x : Ext F A ρ H (fun a => A a ∨ a = p) (ρ ++ [p]) (upd H p o) := by
    refine ⟨List.prefix_append _ _, fun a u _ h => k a u h, fun a h => ?_, fun a h => .inl h, fun a h => ?_, fun a h => ?_⟩
    · cases e : H a with
      | none => rfl
      | some u => rw [k a u e] at h; cases h
    · exact h.imp (fun h => h) fun h => by rw [h]; exact hp
    · rcases List.mem_append.mp h with h | h
      · exact .inl h
      · rw [List.mem_singleton.mp h]; exact .inr hp
  refine ⟨x, fun a h => ?_, fun a h => ?_, ?_, ?_, fun a h => ?_, fun a h => List.mem_append_left _ (r.fin a h), fun n a c' e1 e2 => ?_, fun n c' e => ?_⟩
  · rcases List.mem_append.mp h with h | h
    · exact .inl (r.sub a h)
    · exact .inr (List.mem_singleton.mp h)
  · rcases h with h | h
    · obtain ⟨u, e⟩ := r.trk a h
      exact ⟨u, k a u e⟩
    · rw [h]; exact ⟨o, upd_same⟩
  · refine List.nodup_append.mpr ⟨r.nd, by simp, fun a h b hb => ?_⟩
    rw [List.mem_singleton.mp hb]
    rintro rfl
    exact r.notA hp (r.sub _ h)
  · rw [List.length_append, List.length_append, r.len]; rfl
  · rcases List.mem_append.mp h with h | h
    · obtain ⟨u, e, w⟩ := r.own a h
      exact ⟨u, k a u e, w⟩
    · rw [List.mem_singleton.mp h]; exact ⟨o, upd_same, ho⟩
  · by_cases hn : n < S.length
    · rw [List.getElem?_append_left hn] at e2
      rw [List.getElem?_append_left (by rw [r.len]; exact hn)] at e1
      exact r.lk n a c' e1 e2
    · have hl := (List.getElem?_eq_some_iff.mp e2).1
      rw [List.length_append, List.length_singleton] at hl
      have hn' : n = S.length := by omega
      subst hn'
      rw [List.getElem?_append_right (Nat.le_refl _), Nat.sub_self] at e2
      cases e2
      rw [List.getElem?_append_right (by rw [r.len]; exact Nat.le_refl _), r.len, Nat.sub_self] at e1
      cases e1
      refine ⟨fun z => ?_, fun z => (nl () z).elim⟩
      exact (r.notA hp (r.sub _ (r.fin _ z))).elim
  · by_cases hn : n < S.length
    · rw [List.getElem?_append_left hn] at e
      obtain ⟨a, e1, q⟩ := r.cells n c' e
      obtain ⟨u, e2, w⟩ := r.own a (List.mem_of_getElem? e1)
      refine ⟨a, ?_, q.mv x r ((k a u e2).trans e2.symm)⟩
      rw [List.getElem?_append_left (by rw [r.len]; exact hn)]
      exact e1
    · have hl := (List.getElem?_eq_some_iff.mp e).1
      rw [List.length_append, List.length_singleton] at hl
      have hn' : n = S.length := by omega
      subst hn'
      rw [List.getElem?_append_right (Nat.le_refl _), Nat.sub_self] at e
      cases e
      refine ⟨p, ?_, hc x⟩
      rw [List.getElem?_append_right (by rw [r.len]; exact Nat.le_refl _), r.len, Nat.sub_self]
      rfl
/-- an own object is changed -/
theorem RS.write (r : RS G F A ρ S H) {a : Addr} {n : Nat} (ea : ρ[n]? = some a) {o : HO} {c c0 : Cell} (ho : isOwn o) (e0 : S[n]? = some c0) (n0 : Unit → ¬ isLk c0) (nl : Unit → ¬ isLk c)
    (hc : Ext F A ρ H A ρ (upd H a o) → RepC G A (upd H a o) ρ a c) : Ext F A ρ H A ρ (upd H a o) ∧ RS G F A ρ (S.set n c) (upd H a o) := by
  have ma := List.mem_of_getElem? ea
  have nF : ¬ F a := fun z => by
    exact n0 () ((r.lk n a c0 ea e0).mp z)
  have x : Ext F A ρ H A ρ (upd H a o) := by
    refine ⟨List.prefix_refl _, fun b u nb h => (by
    by_cases hb : b = a
    · subst hb; exact (nF (nb ma)).elim
    · rw [upd_ne hb]; exact h), fun b h => ?_, fun b h => h, fun b h => .inl h, fun b h => .inl h⟩
    · by_cases hb : b = a
      · rw [hb, upd_same] at h; cases h
      · rw [upd_ne hb] at h; exact h
  have k : ∀ b, b ≠ a → upd H a o b = H b := fun b hb => upd_ne hb
  refine ⟨x, r.sub, fun b h => ?_, r.nd, by rw [List.length_set]; exact r.len, fun b h => ?_, r.fin, fun m b c' e1 e2 => ?_, fun m c' e => ?_⟩
  · by_cases hb : b = a
    · rw [hb]; exact ⟨o, upd_same⟩
    · obtain ⟨u, e⟩ := r.trk b h
      exact ⟨u, (k b hb).trans e⟩
  · by_cases hb : b = a
    · rw [hb]; exact ⟨o, upd_same, ho⟩
    · obtain ⟨u, e, w⟩ := r.own b h
      exact ⟨u, (k b hb).trans e, w⟩
  · by_cases hm : m = n
    · subst hm
      have hl := (List.getElem?_eq_some_iff.mp e2).1
      rw [List.length_set] at hl
      rw [List.getElem?_set_self hl] at e2
      cases e2
      rw [ea] at e1; cases e1
      exact ⟨fun z => (nF z).elim, fun z => (nl () z).elim⟩
    · rw [List.getElem?_set_ne (Ne.symm hm)] at e2
      exact r.lk m b c' e1 e2
  · by_cases hm : m = n
    · subst hm
      have hl := (List.getElem?_eq_some_iff.mp e).1
      rw [List.length_set] at hl
      rw [List.getElem?_set_self hl] at e
      cases e
      exact ⟨a, ea, hc x⟩
    · rw [List.getElem?_set_ne (Ne.symm hm)] at e
      obtain ⟨b, e1, q⟩ := r.cells m c' e
      refine ⟨b, e1, q.mv x r (k b ?_)⟩
      rintro rfl
      obtain ⟨h1, e1⟩ := List.getElem?_eq_some_iff.mp e1
      obtain ⟨h2, e2⟩ := List.getElem?_eq_some_iff.mp ea
      exact hm ((List.getElem_inj r.nd).mp (e1.trans e2.symm))

/-! ### frames -/
def RL (K : PySem.W.Frag) (A : Addr → Prop) (H : Hp) (ρ : List Addr) (L : Loc) (σ : St) : Prop :=
  L.length = σ.length ∧ ∀ (i : Nat) (w : Val), L[i]? = some (some w) → ∃ v, σ[i]? = some (some v) ∧ RepV K A H ρ w v
theorem RL.mv (x : Ext F A ρ H A1 ρ1 H1) (r : RS G F A ρ S H) {L : Loc} {σ : St} (h : RL K A H ρ L σ) : RL K A1 H1 ρ1 L σ :=
  ⟨h.1, fun i w e => let ⟨v, e1, q⟩ := h.2 i w e; ⟨v, e1, q.mv x r⟩⟩
theorem RL.set {L : Loc} {σ : St} (h : RL K A H ρ L σ) (i : Nat) {w : Val} {v : V} (q : RepV K A H ρ w v) : RL K A H ρ (L.set i (some w)) (σ.set i (some v)) := by
  refine ⟨by rw [List.length_set, List.length_set]; exact h.1, fun j u e => ?_⟩
  by_cases hj : j = i
  · subst hj
    have hl := (List.getElem?_eq_some_iff.mp e).1
    rw [List.length_set] at hl
    rw [List.getElem?_set_self hl] at e
    cases e
    exact ⟨v, List.getElem?_set_self (by rw [← h.1]; exact hl), q⟩
  · rw [List.getElem?_set_ne (Ne.symm hj)] at e
    obtain ⟨v', e1, q'⟩ := h.2 j u e
    exact ⟨v', by rw [List.getElem?_set_ne (Ne.symm hj)]; exact e1, q'⟩
theorem RL.unset {L : Loc} {σ : St} (h : RL K A H ρ L σ) (i : Nat) (o : Option V) : RL K A H ρ (L.set i none) (σ.set i o) := by
  refine ⟨by rw [List.length_set, List.length_set]; exact h.1, fun j u e => ?_⟩
  by_cases hj : j = i
  · subst hj
    have hl := (List.getElem?_eq_some_iff.mp e).1
    rw [List.length_set] at hl
    rw [List.getElem?_set_self hl] at e
    cases e
  · rw [List.getElem?_set_ne (Ne.symm hj)] at e
    obtain ⟨v', e1, q'⟩ := h.2 j u e
    exact ⟨v', by rw [List.getElem?_set_ne (Ne.symm hj)]; exact e1, q'⟩

/-- an exception of this class with these fields -/
def RepX (G : PC) (x : Ex) (H : Hp) (cls : Value) (d : Option Addr) : Prop :=
  cls = .ref (G.xcl x.k) ∧ ((d = none ∧ x.fs = []) ∨ ∃ dx vs, d = some dx ∧ H dx = some (.xd ((G.xfl x.k).zip vs)) ∧ RepDs G.K (fun _ => True) H x.fs vs)

/-! ### what the evaluator's answers promise -/
section
variable (G : PC)
def EvOk {α : Type} (F : Addr → Prop) (P : (Addr → Prop) → List Addr → Hp → α → Prop) (W : Value → Option Addr → Hp → Prop) (A : Addr → Prop) (ρ : List Addr) (H : Hp) : R α → Prop
  | .ok v S' => ∀ A' ρ' H', Ext F A ρ H A' ρ' H' → RS G F A' ρ' S' H' → P A' ρ' H' v
  | .ex x S' => ∀ A' ρ' H' cls d, Ext F A ρ H A' ρ' H' → RS G F A' ρ' S' H' → RepX G x H' cls d → W cls d H'
  | .bad => False
def tE (W : WX) (f : SE) : TE := fun σ H Q => ∃ F A ρ L S, RL G.K A H ρ L σ ∧ RS G F A ρ S H ∧
  EvOk G F (fun A' ρ' H' v => ∀ w, RepV G.K A' H' ρ' v w → Q w H') (fun cls d H' => W cls d σ H') A ρ H (f L S)
def tB' (W : WX) (f : SB) : TT := fun σ H Q => ∃ F A ρ L S, RL G.K A H ρ L σ ∧ RS G F A ρ S H ∧
  EvOk G F (fun A' ρ' H' b => Q b H') (fun cls d H' => W cls d σ H') A ρ H (f L S)
def tA' (W : WX) (f : SA) : TA := fun σ H Q => ∃ F A ρ L S, RL G.K A H ρ L σ ∧ RS G F A ρ S H ∧
  EvOk G F (fun A' ρ' H' vs => ∀ ws, RepVs G.K A' H' ρ' vs ws → Q ws H') (fun cls d H' => W cls d σ H') A ρ H (f L S)
def StOk (F : Addr → Prop) (W : WX) (D : Ends) (A : Addr → Prop) (ρ : List Addr) (H : Hp) : SR → Prop
  | .nx L S' => ∀ A' ρ' H' σ', Ext F A ρ H A' ρ' H' → RS G F A' ρ' S' H' → RL G.K A' H' ρ' L σ' → D.nx σ' H'
  | .bk L S' => ∀ A' ρ' H' σ', Ext F A ρ H A' ρ' H' → RS G F A' ρ' S' H' → RL G.K A' H' ρ' L σ' → D.bk σ' H'
  | .ct L S' => ∀ A' ρ' H' σ', Ext F A ρ H A' ρ' H' → RS G F A' ρ' S' H' → RL G.K A' H' ρ' L σ' → D.ct σ' H'
  | .rt v S' => ∀ A' ρ' H' w, Ext F A ρ H A' ρ' H' → RS G F A' ρ' S' H' → RepV G.K A' H' ρ' v w → D.rt w H'
  | .ex x L S' => ∀ A' ρ' H' σ' cls d, Ext F A ρ H A' ρ' H' → RS G F A' ρ' S' H' → RL G.K A' H' ρ' L σ' → RepX G x H' cls d → W cls d σ' H'
  | .bad => False
def tS (W : WX) (f : SS) : TS := fun D σ H => ∃ F A ρ L S, RL G.K A H ρ L σ ∧ RS G F A ρ S H ∧ StOk G F W D A ρ H (f L S)
end

theorem EvOk.mono {α : Type} {P P' : (Addr → Prop) → List Addr → Hp → α → Prop} {W W' : Value → Option Addr → Hp → Prop} (h : ∀ A' ρ' H' v, P A' ρ' H' v → P' A' ρ' H' v) (hw : ∀ c d H, W c d H → W' c d H) :
    ∀ {r : R α}, EvOk G F P W A ρ H r → EvOk G F P' W' A ρ H r
  | .ok v S', q => fun A' ρ' H' x r => h _ _ _ _ (q A' ρ' H' x r)
  | .ex y S', q => fun A' ρ' H' c d x r z => hw _ _ _ (q A' ρ' H' c d x r z)
  | .bad, q => q
/-- a first step, then what it leads to -/
def R.bind {α β : Type} (r : R α) (k : α → Store → R β) : R β := match r with
  | .ok a S => k a S
  | .ex x S => .ex x S
  | .bad => .bad
theorem EvOk.shift {α : Type} {P : (Addr → Prop) → List Addr → Hp → α → Prop} {W : Value → Option Addr → Hp → Prop} (x : Ext F A ρ H A1 ρ1 H1) : ∀ {r : R α}, EvOk G F P W A ρ H r → EvOk G F P W A1 ρ1 H1 r
  | .ok v S', q => fun A' ρ' H' y r => q A' ρ' H' (x.trans y) r
  | .ex e S', q => fun A' ρ' H' c d y r z => q A' ρ' H' c d (x.trans y) r z
  | .bad, q => q
theorem EvOk.bind {α β : Type} {P : (Addr → Prop) → List Addr → Hp → β → Prop} {P1 : (Addr → Prop) → List Addr → Hp → α → Prop} {W : Value → Option Addr → Hp → Prop} {k : α → Store → R β} :
    ∀ {r : R α}, EvOk G F P W A ρ H (r.bind k) → (∀ v S' A' ρ' H', Ext F A ρ H A' ρ' H' → RS G F A' ρ' S' H' → EvOk G F P W A' ρ' H' (k v S') → P1 A' ρ' H' v) → EvOk G F P1 W A ρ H r
  | .ok v S', q, h => fun A' ρ' H' y r => h v S' A' ρ' H' y r (EvOk.shift y q)
  | .ex e S', q, _ => q
  | .bad, q, _ => q
theorem StOk.shift {W : WX} {D : Ends} (x : Ext F A ρ H A1 ρ1 H1) : ∀ {r : SR}, StOk G F W D A ρ H r → StOk G F W D A1 ρ1 H1 r
  | .nx .., q => fun A' ρ' H' σ y => q A' ρ' H' σ (x.trans y)
  | .bk .., q => fun A' ρ' H' σ y => q A' ρ' H' σ (x.trans y)
  | .ct .., q => fun A' ρ' H' σ y => q A' ρ' H' σ (x.trans y)
  | .rt .., q => fun A' ρ' H' w y => q A' ρ' H' w (x.trans y)
  | .ex .., q => fun A' ρ' H' σ c d y => q A' ρ' H' σ c d (x.trans y)
  | .bad, q => q
end Ev
set_option linter.all false
set_option Elab.async false
set_option maxRecDepth 100000
namespace Ev
open PySem L2
variable {F F1 A A1 A2 : Addr → Prop} {ρ ρ1 ρ2 : List Addr} {H H1 H2 : Hp} {K : PySem.W.Frag} {G : PC} {S S1 S2 : Store} {X : Cx} {W : WX}

theorem PE.imp {e : Expr} {t t' : TE} (h : PE X e t) (i : ∀ σ H Q, t' σ H Q → t σ H Q) : PE X e t' := ⟨fun pins s σ H Q I q => h.run pins s σ H Q I (i σ H Q q)⟩
theorem PT.imp {e : Expr} {t t' : TT} (h : PT X e t) (i : ∀ σ H Q, t' σ H Q → t σ H Q) : PT X e t' := ⟨fun pins s σ H Q I q => h.run pins s σ H Q I (i σ H Q q)⟩
theorem PW.imp {e : Expr} {t t' : TT} (h : PW X e t) (i : ∀ σ H Q, t' σ H Q → t σ H Q) : PW X e t' := ⟨fun wh pins s σ H Q I q => h.run wh pins s σ H Q I (i σ H Q q)⟩
theorem PA.imp {e : List Expr} {t t' : TA} (h : PA X e t) (i : ∀ σ H Q, t' σ H Q → t σ H Q) : PA X e t' := ⟨fun p pins s σ H Q I q => h.run p pins s σ H Q I (i σ H Q q)⟩
theorem PS.imp {e : Stmt} {t t' : TS} (h : PS X e t) (i : ∀ D σ H, t' D σ H → t D σ H) : PS X e t' := ⟨fun pins s σ H D I q => h.run pins s σ H D I (i D σ H q)⟩
theorem PSs.imp {e : List Stmt} {t t' : TS} (h : PSs X e t) (i : ∀ D σ H, t' D σ H → t D σ H) : PSs X e t' := ⟨fun pins s σ H D I q => h.run pins s σ H D I (i D σ H q)⟩
theorem PO.imp {e : Option Expr} {t t' : TO} (h : PO X e t) (i : ∀ σ H Q, t' σ H Q → t σ H Q) : PO X e t' := ⟨fun pins s σ H Q I q => h.run pins s σ H Q I (i σ H Q q)⟩

/-! ### names and constants -/
def eV (i : Nat) : SE := fun L S => match L[i]? with
  | some (some v) => .ok v S
  | _ => .bad
def eC (x : D) : SE := fun _ S => .ok (.d x) S
theorem v_ {i : Nat} {e : Expr} (h : PE X e (tVar i)) : PE X e (tE G W (eV i)) := PE.imp h fun σ H Q ⟨F, A, ρ, L, S, l, r, q⟩ => by
  unfold eV at q
  split at q
  · rename_i v e
    obtain ⟨w, e1, p⟩ := l.2 i v e
    exact ⟨w, e1, q A ρ H Ext.refl r w p⟩
  · exact q.elim
/-- a fixed datum: what represents it in every state -/
def Always (K : PySem.W.Frag) (x : D) (v : V) : Prop := ∀ (A : Addr → Prop) (H : Hp), RepD K A H x v
theorem c_ {e : Expr} {x : D} {v : V} (h : PE X e (tC v)) (a : Always G.K x v) : PE X e (tE G W (eC x)) := PE.imp h fun σ H Q ⟨F, A, ρ, L, S, l, r, q⟩ => q A ρ H Ext.refl r v (a A H)
theorem ci_ {i : Int} {j pos} : PE X (.Constant (.int i) j pos) (tE G W (eC (.int i))) := c_ pe_int fun _ _ => rfl
theorem cb_ {b : Bool} {j pos} : PE X (.Constant (.bool b) j pos) (tE G W (eC (.bl b))) := c_ pe_bl fun _ _ => rfl
theorem cn_ {j pos} : PE X (.Constant .none j pos) (tE G W (eC .non)) := c_ pe_non fun _ _ => rfl
theorem cs_ {x : Str} {j pos} : PE X (.Constant (.str x) j pos) (tE G W (eC (.str x))) := c_ pe_str fun _ _ => rfl
theorem g_ {x : Str} {d : D} {v : V} {u : Value} {pos : Pos} (hg : Gl X x) (hm : X.mg x = some u) (r : RelV v u) (a : Always G.K d v) (hd : (x == ("__debug__" : Str)) = false := by decide) : PE X (.Name x pos) (tE G W (eC d)) := c_ (pe_glob hg hm r hd) a

/-! ### operations upon data -/
/-- the datum that a value is at the moment (an own list: its content) -/
def top (S : Store) : Val → Option D
  | .d x => some x
  | .ref n => match S[n]? with
    | some (.lst ds) => some (.lst ds)
    | some (.lck ds) => some (.lst ds)
    | _ => none
  | .vt _ => none
  | .exc .. => none
theorem RS.top (r : RS G F A ρ S H) {v : Val} {w : V} {x : D} (h : RepV G.K A H ρ v w) (e : top S v = some x) : RepT G.K A H x w := by
  cases v with
  | d y => cases e; exact RepT.of h
  | vt vs => cases e
  | exc _ _ _ _ => cases e
  | ref n =>
    obtain ⟨a, e1, rfl⟩ := h
    unfold Ev.top at e
    simp only at e
    split at e
    · rename_i ds e2
      cases e
      obtain ⟨a', e3, vs, h1, h2⟩ := r.cells n _ e2
      rw [e1] at e3; cases e3
      exact ⟨a, vs, rfl, h1, h2⟩
    · rename_i ds e2
      cases e
      obtain ⟨a', e3, vs, h1, h2⟩ := r.cells n _ e2
      rw [e1] at e3; cases e3
      exact ⟨a, vs, rfl, h1, h2⟩
    · cases e
def R.of (o : Option D) (S : Store) : R Val := match o with
  | some z => .ok (.d z) S
  | none => .bad
def eOp1 (f : D → Option D) (a : SE) : SE := fun L S => (a L S).bind fun v S1 => match top S1 v with
  | some x => R.of (f x) S1
  | none => .bad
def eOp2 (f : D → D → Option D) (a b : SE) : SE := fun L S => (a L S).bind fun v S1 => (b L S1).bind fun w S2 => match top S2 v, top S2 w with
  | some x, some y => R.of (f x y) S2
  | _, _ => .bad
/-- a rule of the layer does what the operation upon data says -/
def Snd1 (K : PySem.W.Frag) (r : V → Hp → VK → Prop) (f : D → Option D) : Prop := ∀ (G : PC) (F A : Addr → Prop) (ρ : List Addr) (S : Store) (H : Hp) (x z : D) (v : V) (Q : VK), G.K = K → RS G F A ρ S H → RepT K A H x v → f x = some z →
  (∀ H' u, Ext F A ρ H A ρ H' → RS G F A ρ S H' → RepD K A H' z u → Q u H') → r v H Q
def Snd2 (K : PySem.W.Frag) (r : R2) (f : D → D → Option D) : Prop := ∀ (G : PC) (F A : Addr → Prop) (ρ : List Addr) (S : Store) (H : Hp) (x y z : D) (v w : V) (Q : VK), G.K = K → RS G F A ρ S H → RepT K A H x v → RepT K A H y w → f x y = some z →
  (∀ H' u, Ext F A ρ H A ρ H' → RS G F A ρ S H' → RepD K A H' z u → Q u H') → r v w H Q
theorem of_ok {P : (Addr → Prop) → List Addr → Hp → Val → Prop} {E : Value → Option Addr → Hp → Prop} {o : Option D} (q : EvOk G F P E A ρ H (R.of o S)) : ∃ z, o = some z ∧ EvOk G F P E A ρ H (.ok (.d z) S) := by
  cases o with
  | none => exact q.elim
  | some z => exact ⟨z, rfl, q⟩
theorem tOp_of {r : R2} {f : D → D → Option D} {fa fb : SE} (hs : Snd2 G.K r f) : ∀ σ H Q, tE G W (eOp2 f fa fb) σ H Q → tOp r (tE G W fa) (tE G W fb) σ H Q := fun σ H Q ⟨F, A, ρ, L, S, l, r0, q⟩ => by
  refine ⟨F, A, ρ, L, S, l, r0, EvOk.bind q fun v S1 A1 ρ1 H1 x1 r1 q1 w rw1 => ?_⟩
  refine ⟨F, A1, ρ1, L, S1, l.mv x1 r0, r1, EvOk.bind q1 fun v2 S2 A2 ρ2 H2 x2 r2 q2 w2 rw2 => ?_⟩
  have rw1' := rw1.mv x2 r1
  split at q2
  · rename_i x y e1 e2
    obtain ⟨z, ez, q3⟩ := of_ok q2
    exact hs G F A2 ρ2 S2 H2 x y z w w2 Q rfl r2 (r2.top rw1' e1) (r2.top rw2 e2) ez fun H' u xe re rd => q3 A2 ρ2 H' xe re u rd
  · exact q2.elim
theorem tUn_of {r : V → Hp → VK → Prop} {f : D → Option D} {fa : SE} (hs : Snd1 G.K r f) : ∀ σ H Q, tE G W (eOp1 f fa) σ H Q → tUn r (tE G W fa) σ H Q := fun σ H Q ⟨F, A, ρ, L, S, l, r0, q⟩ => by
  refine ⟨F, A, ρ, L, S, l, r0, EvOk.bind q fun v S1 A1 ρ1 H1 x1 r1 q1 w rw1 => ?_⟩
  split at q1
  · rename_i x e1
    obtain ⟨z, ez, q3⟩ := of_ok q1
    exact hs G F A1 ρ1 S1 H1 x z w Q rfl r1 (r1.top rw1 e1) ez fun H' u xe re rd => q3 A1 ρ1 H' xe re u rd
  · exact q1.elim
section
variable {a b : Expr} {fa fb : SE} {pos : Pos}
theorem bin_ {op : Operator} {r : R2} {f : D → D → Option D} (ho : OpR X (binaryOp op) r) (hs : Snd2 G.K r f) (ha : PE X a (tE G W fa)) (hb : PE X b (tE G W fb)) : PE X (.BinOp a op b pos) (tE G W (eOp2 f fa fb)) := PE.imp (pe_op ho ha hb) (tOp_of hs)
theorem cmp_ {op : CmpOp} {r : R2} {f : D → D → Option D} (ho : OpR X (compareOp op) r) (hs : Snd2 G.K r f) (ha : PE X a (tE G W fa)) (hb : PE X b (tE G W fb)) (hm : behindInMarks op b = false) : PE X (.Compare a [op] [b] pos) (tE G W (eOp2 f fa fb)) := PE.imp (pe_cmpR ho ha hb hm) (tOp_of hs)
theorem ix_ {r : R2} {f : D → D → Option D} (ho : IxR X r) (hs : Snd2 G.K r f) (ha : PE X a (tE G W fa)) (hb : PE X b (tE G W fb)) (hp : PlainIx b) : PE X (.Subscript a b pos) (tE G W (eOp2 f fa fb)) := PE.imp (pe_ix ho ha hb hp) (tOp_of hs)
theorem un_ {op : UnaryOp} {r : V → Hp → VK → Prop} {f : D → Option D} (ho : UnR X (unaryOp op) r) (hs : Snd1 G.K r f) (ha : PE X a (tE G W fa)) : PE X (.UnaryOp op a pos) (tE G W (eOp1 f fa)) := PE.imp (pe_un ho ha) (tUn_of hs)
end
theorem Snd2.or {r r' : R2} {f f' : D → D → Option D} (h : Snd2 K r f) (h' : Snd2 K r' f') : Snd2 K (fun x y H Q => r x y H Q ∨ r' x y H Q) (fun x y => (f x y).orElse fun _ => f' x y) := fun G F A ρ S H x y z v w Q e rs h1 h2 ez q => by
  have ez : ((f x y).orElse fun _ => f' x y) = some z := ez
  cases e1 : f x y with
  | none => rw [e1] at ez; exact .inr (h' G F A ρ S H x y z v w Q e rs h1 h2 ez q)
  | some u => rw [e1] at ez; cases ez; exact .inl (h G F A ρ S H x y _ v w Q e rs h1 h2 e1 q)

/-! ### the operations: ints -/
def opI (C : Int → Int → Prop) [∀ i j, Decidable (C i j)] (g : Int → Int → D) : D → D → Option D
  | .int i, .int j => if C i j then some (g i j) else none
  | _, _ => none
def opI0 (g : Int → Int → D) : D → D → Option D
  | .int i, .int j => some (g i j)
  | _, _ => none
def DV : D → V
  | .non => .non
  | .bl b => .bl b
  | .int i => .int i
  | .str x => .str x
  | _ => .non
theorem repT_int {i : Int} {v : V} (h : RepT K A H (.int i) v) : v = .int i := h
theorem repT_str {x : Str} {v : V} (h : RepT K A H (.str x) v) : v = .str x := h
theorem snd_I {C : Int → Int → Prop} [∀ i j, Decidable (C i j)] {g : Int → Int → D} {gv : Int → Int → V} (hg : ∀ i j A H, RepD K A H (g i j) (gv i j)) : Snd2 K (rI C gv) (opI C g) := fun G F A ρ S H x y z v w Q _ rs h1 h2 ez q => by
  cases x with
  | int i =>
    cases y with
    | int j =>
      by_cases c : C i j
      · have e : opI C g (.int i) (.int j) = some (g i j) := if_pos c
        rw [e] at ez; cases ez
        exact ⟨i, j, repT_int h1, repT_int h2, c, q H _ Ext.refl rs (hg i j A H)⟩
      · have e : opI C g (.int i) (.int j) = none := if_neg c
        rw [e] at ez; cases ez
    | _ => simp [opI] at ez
  | _ => simp [opI] at ez
theorem snd_I0 {g : Int → Int → D} {gv : Int → Int → V} (hg : ∀ i j A H, RepD K A H (g i j) (gv i j)) : Snd2 K (rI0 gv) (opI0 g) := fun G F A ρ S H x y z v w Q _ rs h1 h2 ez q => by
  cases x with
  | int i =>
    cases y with
    | int j =>
      cases ez
      exact ⟨i, j, repT_int h1, repT_int h2, q H _ Ext.refl rs (hg i j A H)⟩
    | _ => cases ez
  | _ => cases ez
instance {i j : Int} : Decidable (CMul i j) := by unfold CMul; infer_instance
instance {i j : Int} : Decidable (CDiv i j) := by unfold CDiv; infer_instance
instance {i j : Int} : Decidable (CPow i j) := by unfold CPow; infer_instance
def subD := opI0 fun i j => .int (i - j)
def mulI := opI CMul fun i j => .int (i * j)
def fdivD := opI CDiv fun i j => .int (i / j)
def modD := opI (fun _ j => 0 < j) fun i j => .int (i % j)
def powD := opI CPow fun i j => .int (i ^ j.toNat)
def addI := opI0 fun i j => .int (i + j)
def ltD := opI0 fun i j => .bl (decide (i < j))
def leD := opI0 fun i j => .bl (decide (i ≤ j))
def gtD := opI0 fun i j => .bl (decide (j < i))
def geD := opI0 fun i j => .bl (decide (j ≤ i))
section
variable {a b : Expr} {fa fb : SE} {pos : Pos} (ha : PE X a (tE G W fa)) (hb : PE X b (tE G W fb))
include ha hb
theorem sub_ : PE X (.BinOp a .Sub b pos) (tE G W (eOp2 subD fa fb)) := bin_ op_sub (snd_I0 fun _ _ _ _ => rfl) ha hb
theorem mul_ : PE X (.BinOp a .Mult b pos) (tE G W (eOp2 mulI fa fb)) := bin_ op_mul (snd_I fun _ _ _ _ => rfl) ha hb
theorem fdiv_ : PE X (.BinOp a .FloorDiv b pos) (tE G W (eOp2 fdivD fa fb)) := bin_ op_fdiv (snd_I fun _ _ _ _ => rfl) ha hb
theorem mod_ : PE X (.BinOp a .Mod b pos) (tE G W (eOp2 modD fa fb)) := bin_ op_mod (snd_I fun _ _ _ _ => rfl) ha hb
theorem pow_ : PE X (.BinOp a .Pow b pos) (tE G W (eOp2 powD fa fb)) := bin_ op_pow (snd_I fun _ _ _ _ => rfl) ha hb
theorem lt_ : PE X (.Compare a [.Lt] [b] pos) (tE G W (eOp2 ltD fa fb)) := cmp_ op_lt (snd_I0 fun _ _ _ _ => rfl) ha hb (nomark _)
theorem le_ : PE X (.Compare a [.LtE] [b] pos) (tE G W (eOp2 leD fa fb)) := cmp_ op_le (snd_I0 fun _ _ _ _ => rfl) ha hb (nomark _)
theorem gt_ : PE X (.Compare a [.Gt] [b] pos) (tE G W (eOp2 gtD fa fb)) := cmp_ op_gt (snd_I0 fun _ _ _ _ => rfl) ha hb (nomark _)
theorem ge_ : PE X (.Compare a [.GtE] [b] pos) (tE G W (eOp2 geD fa fb)) := cmp_ op_ge (snd_I0 fun _ _ _ _ => rfl) ha hb (nomark _)
end
end Ev
set_option linter.all false
set_option Elab.async false
set_option maxRecDepth 100000
namespace Ev
open PySem L2
variable {F F1 A A1 A2 : Addr → Prop} {ρ ρ1 ρ2 : List Addr} {H H1 H2 : Hp} {K : PySem.W.Frag} {G : PC} {S S1 S2 : Store} {X : Cx} {W : WX}

/-- a new list or tuple of pure data -/
theorem new_lst (r : RS G F A ρ S H) {ds : List D} {vs : List V} (h : RepDs K A H ds vs) {p : Addr} (hp : H p = none) :
    Ext F A ρ H A ρ (upd H p (.lst vs)) ∧ RS G F A ρ S (upd H p (.lst vs)) ∧ RepD K A (upd H p (.lst vs)) (.lst ds) (.ref p) :=
  let ⟨x, r'⟩ := r.laid hp (.lst vs)
  ⟨x, r', p, vs, rfl, upd_same, r.notA hp, h.mv x r⟩
theorem new_tup (r : RS G F A ρ S H) {ds : List D} {vs : List V} (h : RepDs K A H ds vs) {p : Addr} (hp : H p = none) :
    Ext F A ρ H A ρ (upd H p (.tup vs)) ∧ RS G F A ρ S (upd H p (.tup vs)) ∧ RepD K A (upd H p (.tup vs)) (.tup ds) (.ref p) :=
  let ⟨x, r'⟩ := r.laid hp (.tup vs)
  ⟨x, r', p, vs, rfl, SqT.of upd_same, h.mv x r⟩

/-! ### + -/
def addD : D → D → Option D
  | .int i, .int j => some (.int (i + j))
  | .str x, .str y => if x.length + y.length ≤ sizeLine then some (.str (x ++ y)) else none
  | .lst xs, .lst ys => if xs.length + ys.length ≤ sizeLine then some (.lst (xs ++ ys)) else none
  | .tup xs, .tup ys => if xs.length + ys.length ≤ sizeLine then some (.tup (xs ++ ys)) else none
  | _, _ => none
theorem op_addD : OpR X (binaryOp .Add) (fun x y H Q => rI0 (fun i j => V.int (i + j)) x y H Q ∨ (∃ i j, x = .str i ∧ y = .str j ∧ i.length + j.length ≤ sizeLine ∧ Q (.str (i ++ j)) H) ∨ rCat x y H Q ∨ rCatA X.K x y H Q) :=
  op_add.or (op_add_str.or (op_cat.or op_catA))
theorem snd_add : Snd2 K (fun x y H Q => rI0 (fun i j => V.int (i + j)) x y H Q ∨ (∃ i j, x = .str i ∧ y = .str j ∧ i.length + j.length ≤ sizeLine ∧ Q (.str (i ++ j)) H) ∨ rCat x y H Q ∨ rCatA K x y H Q) addD := fun G F A ρ S H x y z v w Q eK rs h1 h2 ez q => by
  cases x with
  | int i => cases y with
    | int j => cases ez; exact .inl ⟨i, j, h1, h2, q H _ Ext.refl rs rfl⟩
    | _ => simp [addD] at ez
  | str i => cases y with
    | str j =>
      by_cases c : i.length + j.length ≤ sizeLine
      · simp only [addD, if_pos c] at ez; cases ez; exact .inr (.inl ⟨i, j, h1, h2, c, q H _ Ext.refl rs rfl⟩)
      · simp only [addD, if_neg c] at ez; cases ez
    | _ => simp [addD] at ez
  | lst xs => cases y with
    | lst ys =>
      by_cases c : xs.length + ys.length ≤ sizeLine
      · simp only [addD, if_pos c] at ez; cases ez
        obtain ⟨a, vs, rfl, e1, p1⟩ := h1
        obtain ⟨b, us, rfl, e2, p2⟩ := h2
        refine .inr (.inr (.inl ⟨a, b, vs, us, rfl, rfl, e1, e2, by rw [p1.len, p2.len]; exact c, fun p hp => ?_⟩))
        obtain ⟨x, r', d⟩ := new_lst rs (p1.app p2) hp
        exact q _ _ x r' d
      · simp only [addD, if_neg c] at ez; cases ez
    | _ => simp [addD] at ez
  | tup xs => cases y with
    | tup ys =>
      by_cases c : xs.length + ys.length ≤ sizeLine
      · simp only [addD, if_pos c] at ez; cases ez
        obtain ⟨a, vs, rfl, e1, p1⟩ := h1
        obtain ⟨b, us, rfl, e2, p2⟩ := h2
        refine .inr (.inr (.inr ⟨a, b, vs, us, rfl, rfl, e1, e2, by rw [p1.len, p2.len]; exact c, fun z => ?_, fun _ z => ?_, fun _ _ p hp => ?_⟩))
        · subst z
          have := p1.len
          have z : xs = [] := List.eq_nil_of_length_eq_zero (by rw [← this]; rfl)
          subst z
          exact q _ _ Ext.refl rs ⟨b, us, rfl, e2, p2⟩
        · subst z
          have := p2.len
          have z : ys = [] := List.eq_nil_of_length_eq_zero (by rw [← this]; rfl)
          subst z
          exact q _ _ Ext.refl rs ⟨a, vs, rfl, e1, by rw [List.append_nil]; exact p1⟩
        · obtain ⟨x, r', d⟩ := new_tup rs (p1.app p2) hp
          exact q _ _ x r' d
      · simp only [addD, if_neg c] at ez; cases ez
    | _ => simp [addD] at ez
  | _ => simp [addD] at ez
/-! ### * of texts and lists by ints -/
/-! ### == and != -/
mutual
def D.py : D → PyData
  | .non => .none
  | .bl b => .bool b
  | .int i => .int i
  | .str x => .str x
  | .scr ns => .list (ns.map .int)
  | .tup ds => .tuple (D.pys ds)
  | .lst ds => .list (D.pys ds)
def D.pys : List D → List PyData
  | [] => []
  | d :: ds => d.py :: D.pys ds
end
mutual
theorem RepD.dp : ∀ {d : D} {v : V}, RepD K A H d v → Dp K H v d.py
  | .non, v, h => by rw [show v = _ from h]; exact .non
  | .bl b, v, h => by rw [show v = _ from h]; exact .bl b
  | .int i, v, h => by rw [show v = _ from h]; exact .int i
  | .str x, v, h => by rw [show v = _ from h]; exact .str x
  | .scr ns, v, h => by
    obtain ⟨a, rfl, q⟩ := h
    refine .lst (xs := ns.map V.int) (q.elim (fun q => .inl q.1) fun q => q H) ?_
    have all : ∀ ns : List Int, DpAll K H (ns.map V.int) (ns.map PyData.int) := fun ns => by
      induction ns with
      | nil => exact .nil
      | cons n r ih => exact .cons (.int n) ih
    exact all ns
  | .tup ds, v, h => by
    obtain ⟨a, vs, rfl, e, p⟩ := h
    exact .tup e (RepDs.dp p)
  | .lst ds, v, h => by
    obtain ⟨a, vs, rfl, e, na, p⟩ := h
    exact .lst (SqL.of e) (RepDs.dp p)
theorem RepDs.dp : ∀ {ds : List D} {vs : List V}, RepDs K A H ds vs → DpAll K H vs (D.pys ds)
  | [], vs, h => by rw [show vs = [] from h]; exact .nil
  | d :: ds, vs, h => by
    obtain ⟨v, t, rfl, p, q⟩ := h
    exact .cons (RepD.dp p) (RepDs.dp q)
end
theorem RepT.dp {d : D} {v : V} (h : RepT K A H d v) : Dp K H v d.py := by
  cases d with
  | lst ds =>
    obtain ⟨a, vs, rfl, e, p⟩ := h
    exact .lst (SqL.of e) (RepDs.dp p)
  | _ => exact RepD.dp (A := A) h
def eqD : D → D → Option Bool
  | .int i, .int j => some (decide (i = j))
  | .str i, .str j => some (decide (i = j))
  | .bl i, .bl j => some (decide (i = j))
  | .non, .non => some true
  | .non, .int _ => some false
  | .non, .str _ => some false
  | .non, .bl _ => some false
  | .int _, .non => some false
  | .str _, .non => some false
  | .bl _, .non => some false
  | .int _, .str _ => some false
  | .str _, .int _ => some false
  | .bl _, .str _ => some false
  | .str _, .bl _ => some false
  | x, y => if SeqAt.shaped x.py = true ∧ SeqAt.shaped y.py = true then some (PyData.eqv x.py y.py) else none
def eqD' (x y : D) : Option D := (eqD x y).map .bl
def neD' (x y : D) : Option D := (eqD x y).map fun b => .bl (!b)
theorem eqD_cases {x y : D} {b : Bool} (h : eqD x y = some b) : (∃ v w, (∀ K A H u, RepT K A H x u → u = v) ∧ (∀ K A H u, RepT K A H y u → u = w) ∧ scal v w = true ∧ b = decide (v = w)) ∨
    (SeqAt.shaped x.py = true ∧ SeqAt.shaped y.py = true ∧ b = PyData.eqv x.py y.py) := by
  have fin : (if SeqAt.shaped x.py = true ∧ SeqAt.shaped y.py = true then some (PyData.eqv x.py y.py) else none) = some b → (∃ v w, (∀ K A H u, RepT K A H x u → u = v) ∧ (∀ K A H u, RepT K A H y u → u = w) ∧ scal v w = true ∧ b = decide (v = w)) ∨
    (SeqAt.shaped x.py = true ∧ SeqAt.shaped y.py = true ∧ b = PyData.eqv x.py y.py) := fun h => by
    split at h
    · rename_i c
      cases h
      exact .inr ⟨c.1, c.2, rfl⟩
    · cases h
  cases x <;> cases y <;> first
    | exact fin h
    | (refine .inl ⟨_, _, fun _ _ _ _ q => q, fun _ _ _ _ q => q, rfl, ?_⟩
       have h := Option.some.inj h
       rw [← h]
       simp)
theorem snd_eq : Snd2 K (fun x y H Q => rEq x y H Q ∨ rEqD K x y H Q) eqD' := fun G F A ρ S H x y z v w Q eK rs h1 h2 ez q => by
  unfold eqD' at ez
  cases e : eqD x y with
  | none => rw [e] at ez; cases ez
  | some b =>
    rw [e] at ez; cases ez
    rcases eqD_cases e with ⟨v', w', e1, e2, sc, eb⟩ | ⟨s1, s2, eb⟩
    · rw [e1 _ _ _ _ h1, e2 _ _ _ _ h2]
      refine .inl ⟨sc, ?_⟩
      rw [← eb]
      exact q H _ Ext.refl rs rfl
    · refine .inr ⟨_, _, h1.dp, h2.dp, s1, s2, ?_⟩
      rw [← eb]
      exact q H _ Ext.refl rs rfl
theorem snd_ne : Snd2 K (fun x y H Q => rNe x y H Q ∨ rNeD K x y H Q) neD' := fun G F A ρ S H x y z v w Q eK rs h1 h2 ez q => by
  unfold neD' at ez
  cases e : eqD x y with
  | none => rw [e] at ez; cases ez
  | some b =>
    rw [e] at ez; cases ez
    rcases eqD_cases e with ⟨v', w', e1, e2, sc, eb⟩ | ⟨s1, s2, eb⟩
    · rw [e1 _ _ _ _ h1, e2 _ _ _ _ h2]
      refine .inl ⟨sc, ?_⟩
      rw [← eb]
      exact q H _ Ext.refl rs rfl
    · refine .inr ⟨_, _, h1.dp, h2.dp, s1, s2, ?_⟩
      rw [← eb]
      exact q H _ Ext.refl rs rfl
/-! ### in -/
def flatD : D → Bool
  | .non => true
  | .bl _ => true
  | .int _ => true
  | .str _ => true
  | _ => false
theorem flat_rep {d : D} {v : V} (f : flatD d = true) (h : RepD K A H d v) : v = DV d := by
  cases d with
  | non => exact h
  | bl _ => exact h
  | int _ => exact h
  | str _ => exact h
  | _ => cases f
theorem flat_reps : ∀ {ds : List D} {vs : List V}, ds.all flatD = true → RepDs K A H ds vs → vs = ds.map DV
  | [], vs, _, h => h
  | d :: ds, vs, f, h => by
    obtain ⟨v, t, rfl, p, q⟩ := h
    rw [List.all_cons, Bool.and_eq_true] at f
    rw [flat_rep f.1 p, flat_reps f.2 q]
    rfl
theorem flatV_DV (d : D) : flatV (DV d) = true := by cases d <;> rfl
/-- == of flat data -/
def eqF (x y : D) : Bool := eqV (DV x) (DV y)
def inF (neg : Bool) (x : D) (ds : List D) : Option D := if flatD x = true ∧ ds.all flatD = true then some (.bl (if neg then !(ds.any fun y => eqF y x) else ds.any fun y => eqF y x)) else none
def inS (neg : Bool) (x z : Str) : Option D := match x.cps.toList with
  | [c] => some (.bl (if neg then !decide (c ∈ z.cps.toList) else decide (c ∈ z.cps.toList)))
  | _ => none
def inD (neg : Bool) : D → D → Option D
  | .str x, .str z => inS neg x z
  | x, .lst ds => inF neg x ds
  | x, .tup ds => inF neg x ds
  | _, _ => none
def rSgn (neg : Bool) : R2 := fun x y H Q => ∃ (c : Nat) (z : Str), x = .str ⟨#[c]⟩ ∧ y = .str z ∧ Q (.bl (if neg then !decide (c ∈ z.cps.toList) else decide (c ∈ z.cps.toList))) H
theorem op_inD' : OpR X (compareOp .In) (fun x y H Q => rSgn false x y H Q ∨ rIn X.K false x y H Q) := OpR.or op_in_sign op_in_seq
theorem op_notInD' : OpR X (compareOp .NotIn) (fun x y H Q => rSgn true x y H Q ∨ rIn X.K true x y H Q) := OpR.or op_notIn_sign op_notIn_seq
theorem snd_in (neg : Bool) : Snd2 K (fun x y H Q => rSgn neg x y H Q ∨ rIn K neg x y H Q) (inD neg) := fun G F A ρ S H x y z v w Q eK rs h1 h2 ez q => by
  have seq : ∀ (ds : List D) (p : Addr) (vs : List V), w = .ref p → (SqL K H p vs ∨ SqT K H p vs) → RepDs K A H ds vs → inF neg x ds = some z → rIn K neg v w H Q := fun ds p vs e sq rd ei => by
    unfold inF at ei
    split at ei
    · rename_i c
      cases ei
      have e1 : v = DV x := by
        have c1 := c.1
        cases x with
        | non => exact h1
        | bl _ => exact h1
        | int _ => exact h1
        | str _ => exact h1
        | _ => cases c1
      have e2 := flat_reps c.2 rd
      subst e1 e2
      refine ⟨p, _, e, sq, flatV_DV x, ?_, ?_⟩
      · rw [List.all_map]
        exact List.all_eq_true.mpr fun d _ => flatV_DV d
      · have ee : inV (DV x) (ds.map DV) = ds.any fun y => eqF y x := by
          unfold inV
          rw [List.any_map]
          rfl
        rw [ee]
        exact q H _ Ext.refl rs rfl
    · cases ei
  cases y with
  | lst ds =>
    obtain ⟨a, vs, rfl, e, p⟩ := h2
    refine .inr (seq ds a vs rfl (.inl (SqL.of e)) p ?_)
    cases x <;> exact ez
  | tup ds =>
    obtain ⟨a, vs, rfl, e, p⟩ := h2
    refine .inr (seq ds a vs rfl (.inr e) p ?_)
    cases x <;> exact ez
  | str y =>
    cases x with
    | str x =>
      have ez : inS neg x y = some z := ez
      unfold inS at ez
      split at ez
      · rename_i c e
        cases ez
        have e1 : x = ⟨#[c]⟩ := by
          obtain ⟨⟨l⟩⟩ := x
          simp at e
          subst e
          rfl
        refine .inl ⟨c, y, ?_, h2, q H _ Ext.refl rs rfl⟩
        rw [← e1]
        exact h1
      · cases ez
    | _ => simp [inD] at ez
  | _ => cases x <;> simp [inD] at ez
/-! ### items -/
def idxD : D → D → Option D
  | .lst ds, .int i => atI ds i
  | .tup ds, .int i => atI ds i
  | .scr ns, .int i => (atI ns i).map .int
  | .str z, .int i => if z.length ≤ sizeLine then (atI z.cps.toList i).map fun c => .str ⟨#[c]⟩ else none
  | _, _ => none
theorem atI_len {α β : Type} {xs : List α} {ys : List β} (e : xs.length = ys.length) {i : Int} {x : α} (h : atI xs i = some x) : ∃ j, ixN ys.length i = some j ∧ xs[j]? = some x := by
  unfold atI at h
  rw [← e]
  cases q : ixN xs.length i with
  | none => rw [q] at h; cases h
  | some j => rw [q] at h; exact ⟨j, rfl, h⟩
theorem atI_rep {ds : List D} {vs : List V} {i : Int} {d : D} (h : RepDs K A H ds vs) (e : atI ds i = some d) : ∃ v, atI vs i = some v ∧ RepD K A H d v := by
  obtain ⟨j, e1, e2⟩ := atI_len h.len.symm e
  obtain ⟨v, e3, p⟩ := h.get e2
  exact ⟨v, by unfold atI; rw [e1]; exact e3, p⟩
theorem atI_map {α β : Type} (f : α → β) (xs : List α) (i : Int) : atI (xs.map f) i = (atI xs i).map f := by
  unfold atI
  rw [List.length_map]
  cases ixN xs.length i with
  | none => rfl
  | some j => simp [List.getElem?_map]
theorem snd_ix : Snd2 K (rIx K) idxD := fun G F A ρ S H x y z v w Q eK rs h1 h2 ez q => by
  cases y with
  | int i =>
    cases x with
    | lst ds =>
      obtain ⟨a, vs, rfl, e, p⟩ := h1
      obtain ⟨u, e1, p1⟩ := atI_rep p ez
      exact .inl ⟨a, vs, i, u, rfl, h2, SqL.of e, e1, q H _ Ext.refl rs p1⟩
    | tup ds =>
      obtain ⟨a, vs, rfl, e, p⟩ := h1
      obtain ⟨u, e1, p1⟩ := atI_rep p ez
      exact .inr (.inl ⟨a, vs, i, u, rfl, h2, e, e1, q H _ Ext.refl rs p1⟩)
    | scr ns =>
      obtain ⟨a, rfl, p⟩ := h1
      cases e : atI ns i with
      | none => simp [idxD, e] at ez
      | some n =>
        simp [idxD, e] at ez; subst ez
        exact .inl ⟨a, _, i, .int n, rfl, h2, p.elim (fun p => .inl p.1) fun p => p H, by rw [atI_map, e]; rfl, q H _ Ext.refl rs rfl⟩
    | str s =>
      by_cases c : s.length ≤ sizeLine
      · simp only [idxD, if_pos c] at ez
        cases e : atI s.cps.toList i with
        | none => rw [e] at ez; cases ez
        | some n =>
          rw [e] at ez; cases ez
          exact .inr (.inr ⟨s, i, n, h1, h2, c, e, q H _ Ext.refl rs rfl⟩)
      · simp only [idxD, if_neg c] at ez; cases ez
    | _ => simp [idxD] at ez
  | _ => cases x <;> simp [idxD] at ez
end Ev
set_option linter.all false
set_option Elab.async false
set_option maxRecDepth 100000
namespace Ev
open PySem L2
variable {F F1 A A1 A2 : Addr → Prop} {ρ ρ1 ρ2 : List Addr} {H H1 H2 : Hp} {K : PySem.W.Frag} {G : PC} {S S1 S2 : Store} {X : Cx} {W : WX}

section
variable {a b c : Expr} {fa fb fc : SE} {pos : Pos}
/-- hK: the program's written part is the context's -/
theorem add_ (hK : X.K = G.K) (ha : PE X a (tE G W fa)) (hb : PE X b (tE G W fb)) : PE X (.BinOp a .Add b pos) (tE G W (eOp2 addD fa fb)) := bin_ op_addD (hK ▸ snd_add) ha hb
theorem eq_ (hK : X.K = G.K) (hu : X.A.units + 64 < cLine) (ha : PE X a (tE G W fa)) (hb : PE X b (tE G W fb)) : PE X (.Compare a [.Eq] [b] pos) (tE G W (eOp2 eqD' fa fb)) := cmp_ (OpR.or op_eq (op_eqD hu)) (hK ▸ snd_eq) ha hb (nomark _)
theorem ne_ (hK : X.K = G.K) (hu : X.A.units + 64 < cLine) (ha : PE X a (tE G W fa)) (hb : PE X b (tE G W fb)) : PE X (.Compare a [.NotEq] [b] pos) (tE G W (eOp2 neD' fa fb)) := cmp_ (OpR.or op_ne (op_neD hu)) (hK ▸ snd_ne) ha hb (nomark _)
theorem in_ (hK : X.K = G.K) (ha : PE X a (tE G W fa)) (hb : PE X b (tE G W fb)) (hm : behindInMarks .In b = false) : PE X (.Compare a [.In] [b] pos) (tE G W (eOp2 (inD false) fa fb)) := cmp_ op_inD' (hK ▸ snd_in false) ha hb hm
theorem notin_ (hK : X.K = G.K) (ha : PE X a (tE G W fa)) (hb : PE X b (tE G W fb)) (hm : behindInMarks .NotIn b = false) : PE X (.Compare a [.NotIn] [b] pos) (tE G W (eOp2 (inD true) fa fb)) := cmp_ op_notInD' (hK ▸ snd_in true) ha hb hm

/-! ### is None -/
def isN : Val → Bool
  | .d .non => true
  | _ => false
def eIsN (neg : Bool) (a : SE) : SE := fun L S => (a L S).bind fun v S1 => .ok (.d (.bl (if neg then !isN v else isN v))) S1
theorem isN_rep {v : Val} {w : V} (h : RepV K A H ρ v w) : decide (w = .non) = isN v := by
  cases v with
  | d x => cases x with
    | non => rw [show w = _ from h]; rfl
    | bl _ => rw [show w = _ from h]; simp [isN]
    | int _ => rw [show w = _ from h]; simp [isN]
    | str _ => rw [show w = _ from h]; simp [isN]
    | scr _ => obtain ⟨a, rfl, _⟩ := h; simp [isN]
    | tup _ => obtain ⟨a, vs, rfl, _⟩ := h; simp [isN]
    | lst _ => obtain ⟨a, vs, rfl, _⟩ := h; simp [isN]
  | ref n => obtain ⟨a, _, rfl⟩ := h; simp [isN]
  | vt vs => obtain ⟨a, vs, rfl, _⟩ := h; simp [isN]
  | exc a d nm fs => obtain ⟨rfl, _⟩ := h; simp [isN]
theorem isn_t : ∀ σ H Q, tE G W (eIsN false fa) σ H Q → tIsN (tE G W fa) σ H Q := fun σ H Q ⟨F, A, ρ, L, S, l, r0, q⟩ => by
  refine ⟨F, A, ρ, L, S, l, r0, EvOk.bind q fun v S1 A1 ρ1 H1 x1 r1 q1 w rw1 => ?_⟩
  have := q1 A1 ρ1 H1 Ext.refl r1 (.bl (isN v)) rfl
  show Q (.bl (decide (w = .non))) H1
  rw [isN_rep rw1]
  exact this
theorem isnn_t : ∀ σ H Q, tE G W (eIsN true fa) σ H Q → tNotN (tE G W fa) σ H Q := fun σ H Q ⟨F, A, ρ, L, S, l, r0, q⟩ => by
  refine ⟨F, A, ρ, L, S, l, r0, EvOk.bind q fun v S1 A1 ρ1 H1 x1 r1 q1 w rw1 => ?_⟩
  have := q1 A1 ρ1 H1 Ext.refl r1 (.bl (!isN v)) rfl
  show Q (.bl (!decide (w = .non))) H1
  rw [isN_rep rw1]
  exact this
theorem isn_ {j pos'} (ha : PE X a (tE G W fa)) : PE X (.Compare a [.Is] [.Constant .none j pos'] pos) (tE G W (eIsN false fa)) := PE.imp (pe_cmp (pc_isN ha)) isn_t
theorem isnn_ {j pos'} (ha : PE X a (tE G W fa)) : PE X (.Compare a [.IsNot] [.Constant .none j pos'] pos) (tE G W (eIsN true fa)) := PE.imp (pe_cmp (pc_notN ha)) isnn_t

/-! ### items, slices -/
def eIdx (a b : SE) : SE := fun L S => (a L S).bind fun v S1 => (b L S1).bind fun w S2 => match v with
  | .vt vs => match w with
    | .d (.int i) => match atI vs i with
      | some u => .ok u S2
      | none => .bad
    | _ => .bad
  | _ => match top S2 v, top S2 w with
    | some x, some y => R.of (idxD x y) S2
    | _, _ => .bad
theorem atI_repV {ds : List Val} {vs : List V} {i : Int} {d : Val} (h : RepVs K A H ρ ds vs) (e : atI ds i = some d) : ∃ v, atI vs i = some v ∧ RepV K A H ρ d v := by
  obtain ⟨j, e1, e2⟩ := atI_len h.len.symm e
  obtain ⟨v, e3, p⟩ := h.get e2
  exact ⟨v, by unfold atI; rw [e1]; exact e3, p⟩
theorem idx_t : ∀ σ H Q, tE G W (eIdx fa fb) σ H Q → tOp (rIx G.K) (tE G W fa) (tE G W fb) σ H Q := fun σ H Q ⟨F, A, ρ, L, S, l, r0, q⟩ => by
  refine ⟨F, A, ρ, L, S, l, r0, EvOk.bind q fun v S1 A1 ρ1 H1 x1 r1 q1 w rw1 => ?_⟩
  refine ⟨F, A1, ρ1, L, S1, l.mv x1 r0, r1, EvOk.bind q1 fun v2 S2 A2 ρ2 H2 x2 r2 q2 w2 rw2 => ?_⟩
  have rw1' := rw1.mv x2 r1
  split at q2
  · rename_i vs
    split at q2
    · rename_i i
      split at q2
      · rename_i u e
        obtain ⟨a, ws, rfl, sq, p⟩ := rw1'
        obtain ⟨z, e1, pz⟩ := atI_repV p e
        exact .inr (.inl ⟨a, ws, i, z, rfl, rw2, sq, e1, q2 A2 ρ2 H2 Ext.refl r2 z pz⟩)
      · exact q2.elim
    · exact q2.elim
  · split at q2
    · rename_i x y e1 e2
      obtain ⟨z, ez, q3⟩ := of_ok q2
      exact snd_ix G F A2 ρ2 S2 H2 x y z w w2 Q rfl r2 (r2.top rw1' e1) (r2.top rw2 e2) ez fun H' u xe re rd => q3 A2 ρ2 H' xe re u rd
    · exact q2.elim
theorem idx_ (hK : X.K = G.K) (ha : PE X a (tE G W fa)) (hb : PE X b (tE G W fb)) (hp : PlainIx b) : PE X (.Subscript a b pos) (tE G W (eIdx fa fb)) := PE.imp (pe_ix (hK ▸ ix_seq) ha hb hp) idx_t

abbrev SO := Loc → Store → R (Option Int)
def tO' (G : PC) (W : WX) (f : SO) : TO := fun σ H Q => ∃ F A ρ L S, RL G.K A H ρ L σ ∧ RS G F A ρ S H ∧ EvOk G F (fun A' ρ' H' b => Q b H') (fun cls d H' => W cls d σ H') A ρ H (f L S)
def oN : SO := fun _ S => .ok none S
def oE (a : SE) : SO := fun L S => (a L S).bind fun v S1 => match v with
  | .d (.int i) => .ok (some i) S1
  | _ => .bad
theorem oN_ : PO X none (tO' G W oN) := PO.imp po_none fun σ H Q ⟨F, A, ρ, L, S, l, r, q⟩ => q A ρ H Ext.refl r
theorem oE_ (ha : PE X a (tE G W fa)) : PO X (some a) (tO' G W (oE fa)) := PO.imp (po_some ha) fun σ H Q ⟨F, A, ρ, L, S, l, r0, q⟩ => by
  refine ⟨F, A, ρ, L, S, l, r0, EvOk.bind q fun v S1 A1 ρ1 H1 x1 r1 q1 w rw1 => ?_⟩
  split at q1
  · rename_i i
    exact ⟨i, rw1, q1 A1 ρ1 H1 Ext.refl r1⟩
  · exact q1.elim
def cutD {α : Type} (xs : List α) (lo hi : Option Int) : List α := (xs.drop (HT.sIx xs.length 0 lo)).take (HT.sIx xs.length xs.length hi - HT.sIx xs.length 0 lo)
def slD : D → Option Int → Option Int → Option D
  | .lst ds, lo, hi => some (.lst (cutD ds lo hi))
  | .tup ds, lo, hi => some (.tup (cutD ds lo hi))
  | .str z, lo, hi => if z.length ≤ sizeLine then some (.str (cutS z lo hi)) else none
  | _, _, _ => none
def eSl (a : SE) (lo hi : SO) : SE := fun L S => (a L S).bind fun v S1 => (lo L S1).bind fun l S2 => (hi L S2).bind fun h S3 => match top S3 v with
  | some x => R.of (slD x l h) S3
  | none => .bad
def rSl (K : PySem.W.Frag) : V → Option Int → Option Int → Hp → VK → Prop := fun x lo hi H Q => rSlL K x lo hi H Q ∨ rSlA K x lo hi H Q ∨ rSlS x lo hi H Q
theorem cut_rep {ds : List D} {vs : List V} (h : RepDs K A H ds vs) (lo hi : Option Int) : RepDs K A H (cutD ds lo hi) (cutV vs lo hi) := by
  unfold cutD cutV
  rw [h.len]
  exact (h.drop _).take _
theorem cut_all {ds : List D} {lo hi : Option Int} (h : HT.sIx ds.length 0 lo = 0 ∧ HT.sIx ds.length ds.length hi = ds.length) : cutD ds lo hi = ds := by
  unfold cutD
  rw [h.1, h.2, List.drop_zero, Nat.sub_zero, List.take_length]
theorem sl_t {lo hi : SO} : ∀ σ H Q, tE G W (eSl fa lo hi) σ H Q → tSl (rSl G.K) (tE G W fa) (tO' G W lo) (tO' G W hi) σ H Q := fun σ H Q ⟨F, A, ρ, L, S, l, r0, q⟩ => by
  refine ⟨F, A, ρ, L, S, l, r0, EvOk.bind q fun v S1 A1 ρ1 H1 x1 r1 q1 w rw1 => ?_⟩
  refine ⟨F, A1, ρ1, L, S1, l.mv x1 r0, r1, EvOk.bind q1 fun i S2 A2 ρ2 H2 x2 r2 q2 => ?_⟩
  have l2 := (l.mv x1 r0).mv x2 r1
  refine ⟨F, A2, ρ2, L, S2, l2, r2, EvOk.bind q2 fun j S3 A3 ρ3 H3 x3 r3 q3 => ?_⟩
  have rw3 := (rw1.mv x2 r1).mv x3 r2
  split at q3
  · rename_i x e1
    obtain ⟨z, ez, q4⟩ := of_ok q3
    have t := r3.top rw3 e1
    cases x with
    | lst ds =>
      cases ez
      obtain ⟨a, vs, rfl, e, p⟩ := t
      refine .inl ⟨a, vs, rfl, SqL.of e, fun p' hp => ?_⟩
      obtain ⟨x, r', d⟩ := new_lst r3 (cut_rep p i j) hp
      exact q4 _ _ _ x r' _ d
    | tup ds =>
      cases ez
      obtain ⟨a, vs, rfl, e, p⟩ := t
      refine .inr (.inl ⟨a, vs, rfl, e, fun h => ?_, fun _ p' hp => ?_⟩)
      · rw [p.len] at h
        rw [cut_all h] at q4
        exact q4 _ _ _ Ext.refl r3 _ ⟨a, vs, rfl, e, p⟩
      · obtain ⟨x, r', d⟩ := new_tup r3 (cut_rep p i j) hp
        exact q4 _ _ _ x r' _ d
    | str s =>
      by_cases c : s.length ≤ sizeLine
      · simp only [slD, if_pos c] at ez; cases ez
        exact .inr (.inr ⟨s, t, c, q4 _ _ _ Ext.refl r3 _ rfl⟩)
      · simp only [slD, if_neg c] at ez; cases ez
    | _ => simp [slD] at ez
  · exact q3.elim
theorem sl_ {lo hi : Option Expr} {fl fh : SO} {p2 : Pos} (hK : X.K = G.K) (ha : PE X a (tE G W fa)) (hl : PO X lo (tO' G W fl)) (hh : PO X hi (tO' G W fh)) : PE X (.Subscript a (.Slice lo hi none p2) pos) (tE G W (eSl fa fl fh)) :=
  PE.imp (pe_slice (r := rSl G.K) (hK ▸ SlR.or sl_list (SlR.or sl_tupA sl_str)) ha hl hh) sl_t

/-! ### tests -/
def bE (e : SE) : SB := fun L S => (e L S).bind fun v S1 => match v with
  | .d (.bl b) => .ok b S1
  | _ => .bad
theorem bE_t : ∀ σ H Q, tB' G W (bE fa) σ H Q → tE G W fa σ H fun x H' => ∃ k, x = .bl k ∧ Q k H' := fun σ H Q ⟨F, A, ρ, L, S, l, r0, q⟩ => by
  refine ⟨F, A, ρ, L, S, l, r0, EvOk.bind q fun v S1 A1 ρ1 H1 x1 r1 q1 w rw1 => ?_⟩
  split at q1
  · rename_i b
    exact ⟨b, rw1, q1 A1 ρ1 H1 Ext.refl r1⟩
  · exact q1.elim
theorem tcmp_ {op : CmpOp} {r : R2} {f : D → D → Option D} (ho : OpR X (compareOp op) r) (hs : Snd2 G.K r f) (ha : PE X a (tE G W fa)) (hb : PE X b (tE G W fb)) (hm : behindInMarks op b = false) : PT X (.Compare a [op] [b] pos) (tB' G W (bE (eOp2 f fa fb))) :=
  PT.imp (pt_cmpR ho ha hb hm) fun σ H Q q => tOp_of hs σ H _ (bE_t σ H Q q)
theorem tisn_ {j pos'} (ha : PE X a (tE G W fa)) : PT X (.Compare a [.Is] [.Constant .none j pos'] pos) (tB' G W (bE (eIsN false fa))) := PT.imp (pt_cmp (pc_isN ha)) fun σ H Q q => isn_t σ H _ (bE_t σ H Q q)
theorem tisnn_ {j pos'} (ha : PE X a (tE G W fa)) : PT X (.Compare a [.IsNot] [.Constant .none j pos'] pos) (tB' G W (bE (eIsN true fa))) := PT.imp (pt_cmp (pc_notN ha)) fun σ H Q q => isnn_t σ H _ (bE_t σ H Q q)
theorem tlt_ (ha : PE X a (tE G W fa)) (hb : PE X b (tE G W fb)) : PT X (.Compare a [.Lt] [b] pos) (tB' G W (bE (eOp2 ltD fa fb))) := tcmp_ op_lt (snd_I0 fun _ _ _ _ => rfl) ha hb (nomark _)
theorem tle_ (ha : PE X a (tE G W fa)) (hb : PE X b (tE G W fb)) : PT X (.Compare a [.LtE] [b] pos) (tB' G W (bE (eOp2 leD fa fb))) := tcmp_ op_le (snd_I0 fun _ _ _ _ => rfl) ha hb (nomark _)
theorem tgt_ (ha : PE X a (tE G W fa)) (hb : PE X b (tE G W fb)) : PT X (.Compare a [.Gt] [b] pos) (tB' G W (bE (eOp2 gtD fa fb))) := tcmp_ op_gt (snd_I0 fun _ _ _ _ => rfl) ha hb (nomark _)
theorem tge_ (ha : PE X a (tE G W fa)) (hb : PE X b (tE G W fb)) : PT X (.Compare a [.GtE] [b] pos) (tB' G W (bE (eOp2 geD fa fb))) := tcmp_ op_ge (snd_I0 fun _ _ _ _ => rfl) ha hb (nomark _)
theorem teq_ (hK : X.K = G.K) (hu : X.A.units + 64 < cLine) (ha : PE X a (tE G W fa)) (hb : PE X b (tE G W fb)) : PT X (.Compare a [.Eq] [b] pos) (tB' G W (bE (eOp2 eqD' fa fb))) := tcmp_ (OpR.or op_eq (op_eqD hu)) (hK ▸ snd_eq) ha hb (nomark _)
theorem tne_ (hK : X.K = G.K) (hu : X.A.units + 64 < cLine) (ha : PE X a (tE G W fa)) (hb : PE X b (tE G W fb)) : PT X (.Compare a [.NotEq] [b] pos) (tB' G W (bE (eOp2 neD' fa fb))) := tcmp_ (OpR.or op_ne (op_neD hu)) (hK ▸ snd_ne) ha hb (nomark _)
theorem tin_ (hK : X.K = G.K) (ha : PE X a (tE G W fa)) (hb : PE X b (tE G W fb)) (hm : behindInMarks .In b = false) : PT X (.Compare a [.In] [b] pos) (tB' G W (bE (eOp2 (inD false) fa fb))) := tcmp_ op_inD' (hK ▸ snd_in false) ha hb hm
theorem tnotin_ (hK : X.K = G.K) (ha : PE X a (tE G W fa)) (hb : PE X b (tE G W fb)) (hm : behindInMarks .NotIn b = false) : PT X (.Compare a [.NotIn] [b] pos) (tB' G W (bE (eOp2 (inD true) fa fb))) := tcmp_ op_notInD' (hK ▸ snd_in true) ha hb hm
/-- a call (or a name, an item ..) that gives a bool -/
theorem tval_ (ha : PE X a (tE G W fa)) (he : ∀ whole, isTrue a X.env whole = (do let v ← whole; standAt a.pos; holding [v] (truthy v)) := by intro _; rfl) : PT X a (tB' G W (bE fa)) := PT.imp (pt_val ha he) fun σ H Q q => bE_t σ H Q q
/-- truth of a value -/
def truD : D → Option Bool
  | .non => some false
  | .bl b => some b
  | .int i => some (i != 0)
  | .str y => if y.length ≤ sizeLine then some ((y.length : Int) != 0) else none
  | .scr ns => some (!ns.isEmpty)
  | .lst ds => some (!ds.isEmpty)
  | .tup ds => some (!ds.isEmpty)
def bTr (e : SE) : SB := fun L S => (e L S).bind fun v S1 => match top S1 v with
  | some x => match truD x with
    | some b => .ok b S1
    | none => .bad
  | none => match v with
    | .ref n => match S1[n]? with
      | some (.dic ks ds) => .ok (!ks.isEmpty) S1
      | _ => .bad
    | _ => .bad
theorem ttru_ (hK : X.K = G.K) (ha : PE X a (tE G W fa)) (he : ∀ whole, isTrue a X.env whole = (do let v ← whole; standAt a.pos; holding [v] (truthy v)) := by intro _; rfl) : PT X a (tB' G W (bTr fa)) := PT.imp (pt_truth ha he) fun σ H Q ⟨F, A, ρ, L, S, l, r0, q⟩ => by
  refine ⟨F, A, ρ, L, S, l, r0, EvOk.bind q fun v S1 A1 ρ1 H1 x1 r1 q1 w rw1 => ?_⟩
  rw [hK]
  split at q1
  · rename_i x e
    have t := r1.top rw1 e
    split at q1
    · rename_i b eb
      refine ⟨b, ?_, q1 A1 ρ1 H1 Ext.refl r1⟩
      cases x with
      | non => cases eb; rw [show w = _ from t]; rfl
      | bl _ => cases eb; rw [show w = _ from t]; rfl
      | int _ => cases eb; rw [show w = _ from t]; rfl
      | str y =>
        rw [show w = _ from t]
        by_cases c : y.length ≤ sizeLine
        · simp only [truD, if_pos c] at eb; cases eb; exact ⟨c, rfl⟩
        · simp only [truD, if_neg c] at eb; cases eb
      | scr ns =>
        cases eb
        obtain ⟨a, rfl, p⟩ := t
        exact .inl ⟨_, p.elim (fun p => .inl p.1) (fun p => p H1), by cases ns <;> rfl⟩
      | lst ds =>
        cases eb
        obtain ⟨a, vs, rfl, e, p⟩ := t
        refine .inl ⟨_, SqL.of e, ?_⟩
        have := p.len
        cases ds <;> cases vs <;> first | rfl | (simp at this)
      | tup ds =>
        cases eb
        obtain ⟨a, vs, rfl, e, p⟩ := t
        refine .inr (.inl ⟨_, e, ?_⟩)
        have := p.len
        cases ds <;> cases vs <;> first | rfl | (simp at this)
    · exact q1.elim
  · split at q1
    · rename_i n _
      split at q1
      · rename_i ks ds e
        obtain ⟨a, e1, rfl⟩ := rw1
        obtain ⟨a', e2, vs, h1, h2, h3⟩ := r1.cells n _ e
        rw [e1] at e2; cases e2
        refine ⟨_, .inr (.inr ⟨_, h1, rfl⟩), ?_⟩
        have e3 : (ks.zip vs).isEmpty = ks.isEmpty := by
          have := h3.len
          cases ks <;> cases vs <;> first | rfl | (simp at h2 this; omega)
        rw [e3]
        exact q1 A1 ρ1 H1 Ext.refl r1
      · exact q1.elim
    · exact q1.elim
def bNot (f : SB) : SB := fun L S => (f L S).bind fun b S1 => .ok (!b) S1
def bAnd (f g : SB) : SB := fun L S => (f L S).bind fun b S1 => if b = true then g L S1 else .ok false S1
def bOr (f g : SB) : SB := fun L S => (f L S).bind fun b S1 => if b = true then .ok true S1 else g L S1
theorem tnot_ {f : SB} (h : PT X a (tB' G W f)) : PT X (.UnaryOp .Not a pos) (tB' G W (bNot f)) := PT.imp (pt_not h) fun σ H Q ⟨F, A, ρ, L, S, l, r0, q⟩ =>
  ⟨F, A, ρ, L, S, l, r0, EvOk.bind q fun v S1 A1 ρ1 H1 x1 r1 q1 => q1 A1 ρ1 H1 Ext.refl r1⟩
theorem and_t {f g : SB} : ∀ σ H Q, tB' G W (bAnd f g) σ H Q → tAnd (tB' G W f) (tB' G W g) σ H Q := fun σ H Q ⟨F, A, ρ, L, S, l, r0, q⟩ => by
  refine ⟨F, A, ρ, L, S, l, r0, EvOk.bind q fun b S1 A1 ρ1 H1 x1 r1 q1 => ?_⟩
  cases b with
  | true => exact ⟨F, A1, ρ1, L, S1, l.mv x1 r0, r1, q1⟩
  | false => exact q1 A1 ρ1 H1 Ext.refl r1
theorem or_t {f g : SB} : ∀ σ H Q, tB' G W (bOr f g) σ H Q → tOr (tB' G W f) (tB' G W g) σ H Q := fun σ H Q ⟨F, A, ρ, L, S, l, r0, q⟩ => by
  refine ⟨F, A, ρ, L, S, l, r0, EvOk.bind q fun b S1 A1 ρ1 H1 x1 r1 q1 => ?_⟩
  cases b with
  | false => exact ⟨F, A1, ρ1, L, S1, l.mv x1 r0, r1, q1⟩
  | true => exact q1 A1 ρ1 H1 Ext.refl r1
theorem wand1_ {f : SB} (h : PT X a (tB' G W f)) : PW X (.BoolOp .And [a] pos) (tB' G W f) := pw_and1 h
theorem wor1_ {f : SB} (h : PT X a (tB' G W f)) : PW X (.BoolOp .Or [a] pos) (tB' G W f) := pw_or1 h
theorem wand_ {f g : SB} {es : List Expr} (h : PT X a (tB' G W f)) (h' : PW X (.BoolOp .And (b :: es) pos) (tB' G W g)) : PW X (.BoolOp .And (a :: b :: es) pos) (tB' G W (bAnd f g)) := PW.imp (pw_and h h') and_t
theorem wor_ {f g : SB} {es : List Expr} (h : PT X a (tB' G W f)) (h' : PW X (.BoolOp .Or (b :: es) pos) (tB' G W g)) : PW X (.BoolOp .Or (a :: b :: es) pos) (tB' G W (bOr f g)) := PW.imp (pw_or h h') or_t
/-- as values: all of them bools -/
def eAnd (f g : SE) : SE := fun L S => (f L S).bind fun v S1 => match v with
  | .d (.bl true) => g L S1
  | .d (.bl false) => .ok (.d (.bl false)) S1
  | _ => .bad
def eOr (f g : SE) : SE := fun L S => (f L S).bind fun v S1 => match v with
  | .d (.bl false) => g L S1
  | .d (.bl true) => .ok (.d (.bl true)) S1
  | _ => .bad
def eNot (f : SE) : SE := fun L S => (f L S).bind fun v S1 => match v with
  | .d (.bl b) => .ok (.d (.bl (!b))) S1
  | _ => .bad
theorem and1_ {op : BoolOp} (h : PE X a (tE G W fa)) : PE X (.BoolOp op [a] pos) (tE G W fa) := pe_one h
theorem and_ {es : List Expr} (h : PE X a (tE G W fa)) (h' : PE X (.BoolOp .And (b :: es) pos) (tE G W fb)) : PE X (.BoolOp .And (a :: b :: es) pos) (tE G W (eAnd fa fb)) := PE.imp (pe_and h h') fun σ H Q ⟨F, A, ρ, L, S, l, r0, q⟩ => by
  refine ⟨F, A, ρ, L, S, l, r0, EvOk.bind q fun v S1 A1 ρ1 H1 x1 r1 q1 w rw1 => ?_⟩
  split at q1
  · exact ⟨true, rw1, F, A1, ρ1, L, S1, l.mv x1 r0, r1, q1⟩
  · exact ⟨false, rw1, q1 A1 ρ1 H1 Ext.refl r1 _ rfl⟩
  · exact q1.elim
theorem or_ {es : List Expr} (h : PE X a (tE G W fa)) (h' : PE X (.BoolOp .Or (b :: es) pos) (tE G W fb)) : PE X (.BoolOp .Or (a :: b :: es) pos) (tE G W (eOr fa fb)) := PE.imp (pe_or h h') fun σ H Q ⟨F, A, ρ, L, S, l, r0, q⟩ => by
  refine ⟨F, A, ρ, L, S, l, r0, EvOk.bind q fun v S1 A1 ρ1 H1 x1 r1 q1 w rw1 => ?_⟩
  split at q1
  · exact ⟨false, rw1, F, A1, ρ1, L, S1, l.mv x1 r0, r1, q1⟩
  · exact ⟨true, rw1, q1 A1 ρ1 H1 Ext.refl r1 _ rfl⟩
  · exact q1.elim
theorem not_ (h : PE X a (tE G W fa)) : PE X (.UnaryOp .Not a pos) (tE G W (eNot fa)) := PE.imp (pe_not h) fun σ H Q ⟨F, A, ρ, L, S, l, r0, q⟩ => by
  refine ⟨F, A, ρ, L, S, l, r0, EvOk.bind q fun v S1 A1 ρ1 H1 x1 r1 q1 w rw1 => ?_⟩
  split at q1
  · rename_i b
    exact ⟨b, rw1, q1 A1 ρ1 H1 Ext.refl r1 _ rfl⟩
  · exact q1.elim
def eIf (c : SB) (f g : SE) : SE := fun L S => (c L S).bind fun b S1 => if b = true then f L S1 else g L S1
theorem if_ {f : SB} (h : PT X c (tB' G W f)) (ha : PE X a (tE G W fa)) (hb : PE X b (tE G W fb)) : PE X (.IfExp c a b pos) (tE G W (eIf f fa fb)) := PE.imp (pe_ifExp h ha hb) fun σ H Q ⟨F, A, ρ, L, S, l, r0, q⟩ => by
  refine ⟨F, A, ρ, L, S, l, r0, EvOk.bind q fun b S1 A1 ρ1 H1 x1 r1 q1 => ?_⟩
  cases b with
  | true => exact ⟨F, A1, ρ1, L, S1, l.mv x1 r0, r1, q1⟩
  | false => exact ⟨F, A1, ρ1, L, S1, l.mv x1 r0, r1, q1⟩
/-- a op b op' c -/
def eChain (f f' : D → D → Option D) (a b c : SE) : SE := fun L S => (a L S).bind fun v S1 => (b L S1).bind fun w S2 => match top S2 v, top S2 w with
  | some x, some y => match f x y with
    | some (.bl true) => (c L S2).bind fun u S3 => match top S3 w, top S3 u with
      | some y, some z => R.of (f' y z) S3
      | _, _ => .bad
    | some (.bl false) => .ok (.d (.bl false)) S2
    | _ => .bad
  | _, _ => .bad
theorem chain_t {r r' : R2} {f f' : D → D → Option D} (hs : Snd2 G.K r f) (hs' : Snd2 G.K r' f') : ∀ σ H Q, tE G W (eChain f f' fa fb fc) σ H Q → tChain r r' (tE G W fa) (tE G W fb) (tE G W fc) σ H Q := fun σ H Q ⟨F, A, ρ, L, S, l, r0, q⟩ => by
  refine ⟨F, A, ρ, L, S, l, r0, EvOk.bind q fun v S1 A1 ρ1 H1 x1 r1 q1 w rw1 => ?_⟩
  have l1 := l.mv x1 r0
  refine ⟨F, A1, ρ1, L, S1, l1, r1, EvOk.bind q1 fun v2 S2 A2 ρ2 H2 x2 r2 q2 w2 rw2 => ?_⟩
  have rw1' := rw1.mv x2 r1
  have l2 := l1.mv x2 r1
  split at q2
  · rename_i x y e1 e2
    split at q2
    · rename_i e3
      refine hs G F A2 ρ2 S2 H2 x y _ w w2 _ rfl r2 (r2.top rw1' e1) (r2.top rw2 e2) e3 fun H' u xe re rd => ⟨true, rd, ?_⟩
      refine ⟨F, A2, ρ2, L, S2, l2.mv xe r2, re, EvOk.bind (EvOk.shift xe q2) fun v3 S3 A3 ρ3 H3 x3 r3 q3 w3 rw3 => ?_⟩
      split at q3
      · rename_i y' z e4 e5
        obtain ⟨z', ez, q4⟩ := of_ok q3
        exact hs' G F A3 ρ3 S3 H3 y' z z' w2 w3 Q rfl r3 (r3.top ((rw2.mv xe r2).mv x3 re) e4) (r3.top rw3 e5) ez fun H4 u4 xe4 re4 rd4 => q4 A3 ρ3 H4 xe4 re4 u4 rd4
      · exact q3.elim
    · rename_i e3
      refine hs G F A2 ρ2 S2 H2 x y _ w w2 _ rfl r2 (r2.top rw1' e1) (r2.top rw2 e2) e3 fun H' u xe re rd => ⟨false, rd, ?_⟩
      exact q2 A2 ρ2 H' xe re _ rfl
    · exact q2.elim
  · exact q2.elim
theorem chain_ {op op' : CmpOp} {r r' : R2} {f f' : D → D → Option D} (ho : OpR X (compareOp op) r) (ho' : OpR X (compareOp op') r') (hs : Snd2 G.K r f) (hs' : Snd2 G.K r' f')
    (ha : PE X a (tE G W fa)) (hb : PE X b (tE G W fb)) (hc : PE X c (tE G W fc)) (hm : lastMarks [op, op'] [b, c] = false := by with_unfolding_all rfl) : PE X (.Compare a [op, op'] [b, c] pos) (tE G W (eChain f f' fa fb fc)) := PE.imp (pe_chain ho ho' ha hb hc hm) (chain_t hs hs')
theorem tchain_ {op op' : CmpOp} {r r' : R2} {f f' : D → D → Option D} (ho : OpR X (compareOp op) r) (ho' : OpR X (compareOp op') r') (hs : Snd2 G.K r f) (hs' : Snd2 G.K r' f')
    (ha : PE X a (tE G W fa)) (hb : PE X b (tE G W fb)) (hc : PE X c (tE G W fc)) (hm : lastMarks [op, op'] [b, c] = false := by with_unfolding_all rfl) : PT X (.Compare a [op, op'] [b, c] pos) (tB' G W (bE (eChain f f' fa fb fc))) :=
  PT.imp (pt_chain ho ho' ha hb hc hm) fun σ H Q q => chain_t hs hs' σ H _ (bE_t σ H Q q)
end
end Ev
set_option linter.all false
set_option Elab.async false
set_option maxRecDepth 100000
namespace Ev
open PySem L2
variable {F F1 A A1 A2 : Addr → Prop} {ρ ρ1 ρ2 : List Addr} {H H1 H2 : Hp} {K : PySem.W.Frag} {G : PC} {S S1 S2 : Store} {X : Cx} {W : WX}

/-! ### argument lists, displays -/
def aN : SA := fun _ S => .ok [] S
def aC (f : SE) (g : SA) : SA := fun L S => (f L S).bind fun v S1 => (g L S1).bind fun vs S2 => .ok (v :: vs) S2
section
variable {a b c : Expr} {es : List Expr} {fa fb fc : SE} {as : SA} {pos : Pos}
theorem aN_ : PA X [] (tA' G W aN) := PA.imp pa_nil fun σ H Q ⟨F, A, ρ, L, S, l, r0, q⟩ => q A ρ H Ext.refl r0 [] rfl
theorem aC_ (ha : PE X a (tE G W fa)) (hb : PA X es (tA' G W as)) (hs : starEach (a :: es) X.env = (false, eval a X.env) :: starEach es X.env := by rfl) : PA X (a :: es) (tA' G W (aC fa as)) := PA.imp (pa_cons ha hb hs) fun σ H Q ⟨F, A, ρ, L, S, l, r0, q⟩ => by
  refine ⟨F, A, ρ, L, S, l, r0, EvOk.bind q fun v S1 A1 ρ1 H1 x1 r1 q1 w rw1 => ?_⟩
  refine ⟨F, A1, ρ1, L, S1, l.mv x1 r0, r1, EvOk.bind q1 fun vs S2 A2 ρ2 H2 x2 r2 q2 ws rws => ?_⟩
  exact q2 A2 ρ2 H2 Ext.refl r2 (w :: ws) ⟨w, ws, rfl, rw1.mv x2 r1, rws⟩
def allD : List Val → Option (List D)
  | [] => some []
  | .d x :: vs => (allD vs).map (x :: ·)
  | _ :: _ => none
theorem allD_rep : ∀ {vs : List Val} {ws : List V} {ds : List D}, RepVs K A H ρ vs ws → allD vs = some ds → RepDs K A H ds ws
  | [], ws, ds, h, e => by cases e; exact h
  | .d x :: vs, ws, ds, h, e => by
    obtain ⟨w, t, rfl, p, q⟩ := h
    unfold allD at e
    cases e1 : allD vs with
    | none => rw [e1] at e; cases e
    | some es => rw [e1] at e; cases e; exact ⟨w, t, rfl, p, allD_rep q e1⟩
  | .ref n :: vs, ws, ds, h, e => by cases e
  | .vt n :: vs, ws, ds, h, e => by cases e
  | .exc .. :: vs, ws, ds, h, e => by cases e
def eTup (as : SA) : SE := fun L S => (as L S).bind fun vs S1 => if vs.length ≤ 1000 then (match allD vs with
  | some ds => .ok (.d (.tup ds)) S1
  | none => .ok (.vt vs) S1) else .bad
theorem le_line {n : Nat} (h : n ≤ 1000) : n ≤ sizeLine := Nat.le_of_lt (small1000 h)
theorem tup_ {x1} (h : PA X es (tA' G W as)) : PE X (.Tuple es x1 pos) (tE G W (eTup as)) := PE.imp (pe_tup h) fun σ H Q ⟨F, A, ρ, L, S, l, r0, q⟩ => by
  refine ⟨F, A, ρ, L, S, l, r0, EvOk.bind q fun vs S1 A1 ρ1 H1 x1 r1 q1 ws rws => ?_⟩
  split at q1
  · rename_i c
    refine ⟨le_line (by rw [rws.len]; exact c), fun p hp => ?_⟩
    split at q1
    · rename_i ds e
      obtain ⟨x, r', d⟩ := new_tup r1 (allD_rep rws e) hp
      exact q1 _ _ _ x r' _ d
    · obtain ⟨x, r'⟩ := r1.laid hp (.tup ws)
      exact q1 _ _ _ x r' _ ⟨p, ws, rfl, SqT.of upd_same, rws.mv x r1⟩
  · exact q1.elim
/-- a list that nobody changes -/
def eLst (as : SA) : SE := fun L S => (as L S).bind fun vs S1 => if vs.length ≤ 1000 then (match allD vs with
  | some ds => .ok (.d (.lst ds)) S1
  | none => .bad) else .bad
theorem lst_ (h : PA X es (tA' G W as)) : PE X (.List es pos) (tE G W (eLst as)) := PE.imp (pe_lst h) fun σ H Q ⟨F, A, ρ, L, S, l, r0, q⟩ => by
  refine ⟨F, A, ρ, L, S, l, r0, EvOk.bind q fun vs S1 A1 ρ1 H1 x1 r1 q1 ws rws => ?_⟩
  split at q1
  · rename_i c
    refine ⟨le_line (by rw [rws.len]; exact c), fun p hp => ?_⟩
    split at q1
    · rename_i ds e
      obtain ⟨x, r', d⟩ := new_lst r1 (allD_rep rws e) hp
      exact q1 _ _ _ x r' _ d
    · exact q1.elim
  · exact q1.elim
theorem push_lst (r : RS G F A ρ S H) {ds : List D} {vs : List V} (h : RepDs G.K A H ds vs) {p : Addr} (hp : H p = none) :
    Ext F A ρ H (fun a => A a ∨ a = p) (ρ ++ [p]) (upd H p (.lst vs)) ∧ RS G F (fun a => A a ∨ a = p) (ρ ++ [p]) (S ++ [.lst ds]) (upd H p (.lst vs)) ∧ RepV G.K (fun a => A a ∨ a = p) (upd H p (.lst vs)) (ρ ++ [p]) (.ref S.length) (.ref p) := by
  obtain ⟨x, r'⟩ := r.push (c := .lst ds) hp (o := .lst vs) True.intro (fun _ z => nomatch z) fun x => ⟨vs, upd_same, h.mv x r⟩
  refine ⟨x, r', p, ?_, rfl⟩
  rw [List.getElem?_append_right (by rw [r.len]; exact Nat.le_refl _), r.len, Nat.sub_self]
  rfl
/-- a list of one's own -/
def eLstO (as : SA) : SE := fun L S => (as L S).bind fun vs S1 => if vs.length ≤ 1000 then (match allD vs with
  | some ds => .ok (.ref S1.length) (S1 ++ [.lst ds])
  | none => .bad) else .bad
theorem lstO_ (h : PA X es (tA' G W as)) : PE X (.List es pos) (tE G W (eLstO as)) := PE.imp (pe_lst h) fun σ H Q ⟨F, A, ρ, L, S, l, r0, q⟩ => by
  refine ⟨F, A, ρ, L, S, l, r0, EvOk.bind q fun vs S1 A1 ρ1 H1 x1 r1 q1 ws rws => ?_⟩
  split at q1
  · rename_i c
    refine ⟨le_line (by rw [rws.len]; exact c), fun p hp => ?_⟩
    split at q1
    · rename_i ds e
      obtain ⟨x, r', d⟩ := push_lst r1 (allD_rep rws e) hp
      exact q1 _ _ _ x r' _ d
    · exact q1.elim
  · exact q1.elim

/-! ### built-in calls upon data -/
theorem tCB1_of {r : List V → Hp → VK → Prop} {f : D → Option D} (hs : Snd1 G.K (fun v H Q => r [v] H Q) f) : ∀ σ H Q, tE G W (eOp1 f fa) σ H Q → tCB r (tCons (tE G W fa) tNil) σ H Q := fun σ H Q q => tUn_of hs σ H Q q
theorem tCB2_of {r : List V → Hp → VK → Prop} {f : D → D → Option D} (hs : Snd2 G.K (fun v w H Q => r [v, w] H Q) f) : ∀ σ H Q, tE G W (eOp2 f fa fb) σ H Q → tCB r (tCons (tE G W fa) (tCons (tE G W fb) tNil)) σ H Q := fun σ H Q q => tOp_of hs σ H Q q
theorem cb1_ {e : Expr} {r : List V → Hp → VK → Prop} {f : D → Option D} (h : PE X e (tCB r (tCons (tE G W fa) tNil))) (hs : Snd1 G.K (fun v H Q => r [v] H Q) f) : PE X e (tE G W (eOp1 f fa)) := PE.imp h (tCB1_of hs)
theorem cb2_ {e : Expr} {r : List V → Hp → VK → Prop} {f : D → D → Option D} (h : PE X e (tCB r (tCons (tE G W fa) (tCons (tE G W fb) tNil)))) (hs : Snd2 G.K (fun v w H Q => r [v, w] H Q) f) : PE X e (tE G W (eOp2 f fa fb)) := PE.imp h (tCB2_of hs)
def rInt : List V → Hp → VK → Prop := fun xs H Q => ((∃ i, xs = [V.int i] ∧ Q (.int i) H) ∨ ∃ k, xs = [.bl k] ∧ Q (.int (if k then 1 else 0)) H) ∨ ∃ a n, xs = [.str a] ∧ PySem.intText? a = some n ∧ a.length ≤ 640 ∧ Q (.int n) H
def rStrC : List V → Hp → VK → Prop := fun xs H Q => (∃ i : Int, xs = [V.int i] ∧ i.natAbs.log2 < 1920 ∧ Q (.str (toString i)) H) ∨ ∃ a, xs = [.str a] ∧ Q (.str a) H
def rLen (K : PySem.W.Frag) : List V → Hp → VK → Prop := fun xs H Q => (∃ p ys, xs = [V.ref p] ∧ (SqL K H p ys ∨ SqT K H p ys) ∧ Q (.int ys.length) H) ∨ ∃ z, xs = [.str z] ∧ z.length ≤ sizeLine ∧ Q (.int z.length) H
def rListC (K : PySem.W.Frag) : List V → Hp → VK → Prop := fun xs H Q => ∃ p ys, xs = [V.ref p] ∧ (SqL K H p ys ∨ SqT K H p ys) ∧ ∀ l, H l = none → Q (.ref l) (upd H l (.lst ys))
def rTupleC (K : PySem.W.Frag) : List V → Hp → VK → Prop := fun xs H Q => ∃ p ys, xs = [V.ref p] ∧ ((SqL K H p ys ∧ ∀ l, H l = none → Q (.ref l) (upd H l (.tup ys))) ∨ (SqT K H p ys ∧ Q (.ref p) H))
def rAbs : List V → Hp → VK → Prop := fun xs H Q => ∃ i, xs = [V.int i] ∧ Q (.int (if i < 0 then -i else i)) H
def rMax2 : List V → Hp → VK → Prop := fun xs H Q => ∃ i j, xs = [V.int i, .int j] ∧ Q (.int (if j > i then j else i)) H
def rMin2 : List V → Hp → VK → Prop := fun xs H Q => ∃ i j, xs = [V.int i, .int j] ∧ Q (.int (if j < i then j else i)) H
/-- int(x), str(x), len(x), tuple(x), list(x), all(x) -/
def intD : D → Option D
  | .int i => some (.int i)
  | .bl b => some (.int (if b then 1 else 0))
  | .str a => if a.length ≤ 640 then (PySem.intText? a).map .int else none
  | _ => none
theorem snd_int : Snd1 K (fun v H Q =>  rInt [v] H Q) intD := fun G F A ρ S H x z v Q eK rs h ez q => by
  cases x with
  | int i => cases ez; exact .inl (.inl ⟨i, by rw [show v = _ from h], q H _ Ext.refl rs rfl⟩)
  | bl b => cases ez; exact .inl (.inr ⟨b, by rw [show v = _ from h], q H _ Ext.refl rs rfl⟩)
  | str a =>
    by_cases c : a.length ≤ 640
    · simp only [intD, if_pos c] at ez
      cases e : PySem.intText? a with
      | none => rw [e] at ez; cases ez
      | some n => rw [e] at ez; cases ez; exact .inr ⟨a, n, by rw [show v = _ from h], e, c, q H _ Ext.refl rs rfl⟩
    · simp only [intD, if_neg c] at ez; cases ez
  | _ => simp [intD] at ez
def strD : D → Option D
  | .int i => if i.natAbs.log2 < 1920 then some (.str (toString i)) else none
  | .str a => some (.str a)
  | _ => none
theorem call_str_sX : CallR X (.type "str") (fun xs H Q => ∃ a, xs = [.str a] ∧ Q (.str a) H) := SkE.call_str_str
theorem snd_str : Snd1 K (fun v H Q =>  rStrC [v] H Q) strD := fun G F A ρ S H x z v Q eK rs h ez q => by
  cases x with
  | int i =>
    by_cases c : i.natAbs.log2 < 1920
    · simp only [strD, if_pos c] at ez; cases ez
      exact .inl ⟨i, by rw [show v = _ from h], c, q H _ Ext.refl rs rfl⟩
    · simp only [strD, if_neg c] at ez; cases ez
  | str a => cases ez; exact .inr ⟨a, by rw [show v = _ from h], q H _ Ext.refl rs rfl⟩
  | _ => simp [strD] at ez
def lenD : D → Option D
  | .str x => if x.length ≤ sizeLine then some (.int (x.length : Int)) else none
  | .lst ds => some (.int (ds.length : Int))
  | .tup ds => some (.int (ds.length : Int))
  | .scr ns => some (.int (ns.length : Int))
  | _ => none
theorem snd_len : Snd1 K (fun v H Q =>  (rLen K) [v] H Q) lenD := fun G F A ρ S H x z v Q eK rs h ez q => by
  cases x with
  | str a =>
    by_cases c : a.length ≤ sizeLine
    · simp only [lenD, if_pos c] at ez; cases ez
      exact .inr ⟨a, by rw [show v = _ from h], c, q H _ Ext.refl rs rfl⟩
    · simp only [lenD, if_neg c] at ez; cases ez
  | lst ds =>
    cases ez
    obtain ⟨a, vs, rfl, e, p⟩ := h
    exact .inl ⟨a, vs, rfl, .inl (SqL.of e), q H _ Ext.refl rs (by rw [p.len]; rfl)⟩
  | tup ds =>
    cases ez
    obtain ⟨a, vs, rfl, e, p⟩ := h
    exact .inl ⟨a, vs, rfl, .inr e, q H _ Ext.refl rs (by rw [p.len]; rfl)⟩
  | scr ns =>
    cases ez
    obtain ⟨a, rfl, p⟩ := h
    exact .inl ⟨a, _, rfl, .inl (p.elim (fun p => .inl p.1) fun p => p H), q H _ Ext.refl rs (by rw [List.length_map]; rfl)⟩
  | _ => simp [lenD] at ez
def listD : D → Option D
  | .lst ds => some (.lst ds)
  | .tup ds => some (.lst ds)
  | _ => none
theorem snd_list : Snd1 K (fun v H Q =>  (rListC K) [v] H Q) listD := fun G F A ρ S H x z v Q eK rs h ez q => by
  cases x with
  | lst ds =>
    cases ez
    obtain ⟨a, vs, rfl, e, p⟩ := h
    refine ⟨a, vs, rfl, .inl (SqL.of e), fun l hl => ?_⟩
    obtain ⟨x, r', d⟩ := new_lst rs p hl
    exact q _ _ x r' d
  | tup ds =>
    cases ez
    obtain ⟨a, vs, rfl, e, p⟩ := h
    refine ⟨a, vs, rfl, .inr e, fun l hl => ?_⟩
    obtain ⟨x, r', d⟩ := new_lst rs p hl
    exact q _ _ x r' d
  | _ => simp [listD] at ez
def tupleD : D → Option D
  | .lst ds => some (.tup ds)
  | .tup ds => some (.tup ds)
  | _ => none
theorem snd_tuple : Snd1 K (fun v H Q =>  (rTupleC K) [v] H Q) tupleD := fun G F A ρ S H x z v Q eK rs h ez q => by
  cases x with
  | lst ds =>
    cases ez
    obtain ⟨a, vs, rfl, e, p⟩ := h
    refine ⟨a, vs, rfl, .inl ⟨SqL.of e, fun l hl => ?_⟩⟩
    obtain ⟨x, r', d⟩ := new_tup rs p hl
    exact q _ _ x r' d
  | tup ds =>
    cases ez
    obtain ⟨a, vs, rfl, e, p⟩ := h
    exact ⟨a, vs, rfl, .inr ⟨e, q H _ Ext.refl rs ⟨a, vs, rfl, e, p⟩⟩⟩
  | _ => simp [tupleD] at ez
def bools : List D → Option (List Bool)
  | [] => some []
  | .bl b :: ds => (bools ds).map (b :: ·)
  | _ :: _ => none
theorem bools_rep : ∀ {ds : List D} {vs : List V} {bs : List Bool}, RepDs K A H ds vs → bools ds = some bs → vs = bs.map V.bl
  | [], ws, ds, h, e => by cases e; exact h
  | .bl x :: vs, ws, ds, h, e => by
    obtain ⟨w, t, rfl, p, q⟩ := h
    unfold bools at e
    cases e1 : bools vs with
    | none => rw [e1] at e; cases e
    | some es => rw [e1] at e; cases e; rw [bools_rep q e1, show w = _ from p]; rfl
  | .non :: vs, ws, ds, h, e => by cases e
  | .int _ :: vs, ws, ds, h, e => by cases e
  | .str _ :: vs, ws, ds, h, e => by cases e
  | .scr _ :: vs, ws, ds, h, e => by cases e
  | .tup _ :: vs, ws, ds, h, e => by cases e
  | .lst _ :: vs, ws, ds, h, e => by cases e
def allB : D → Option D
  | .lst ds => (bools ds).map fun bs => .bl (bs.all id)
  | _ => none
def anyB : D → Option D
  | .lst ds => (bools ds).map fun bs => .bl (bs.any id)
  | _ => none
theorem snd_all : Snd1 K (fun v H Q => rAll K [v] H Q) allB := fun G F A ρ S H x z v Q eK rs h ez q => by
  cases x with
  | lst ds =>
    obtain ⟨a, vs, rfl, e, p⟩ := h
    cases e1 : bools ds with
    | none => simp [allB, e1] at ez
    | some bs =>
      simp [allB, e1] at ez; subst ez
      refine ⟨a, bs, rfl, by rw [← bools_rep p e1]; exact SqL.of e, q H _ Ext.refl rs rfl⟩
  | _ => simp [allB] at ez
theorem snd_any : Snd1 K (fun v H Q => rAny K [v] H Q) anyB := fun G F A ρ S H x z v Q eK rs h ez q => by
  cases x with
  | lst ds =>
    obtain ⟨a, vs, rfl, e, p⟩ := h
    cases e1 : bools ds with
    | none => simp [anyB, e1] at ez
    | some bs =>
      simp [anyB, e1] at ez; subst ez
      refine ⟨a, bs, rfl, by rw [← bools_rep p e1]; exact SqL.of e, q H _ Ext.refl rs rfl⟩
  | _ => simp [anyB] at ez
def absD : D → Option D
  | .int i => some (.int (if i < 0 then -i else i))
  | _ => none
theorem snd_abs : Snd1 K (fun v H Q =>  rAbs [v] H Q) absD := fun G F A ρ S H x z v Q eK rs h ez q => by
  cases x with
  | int i => cases ez; exact ⟨i, by rw [show v = _ from h], q H _ Ext.refl rs rfl⟩
  | _ => simp [absD] at ez
def max2 := opI0 fun i j => .int (if j > i then j else i)
def min2 := opI0 fun i j => .int (if j < i then j else i)
theorem snd_max2 : Snd2 K (fun v w H Q =>  rMax2 [v, w] H Q) max2 := fun G F A ρ S H x y z v w Q eK rs h1 h2 ez q => by
  cases x with
  | int i => cases y with
    | int j => cases ez; exact ⟨i, j, by rw [show v = _ from h1, show w = _ from h2], q H _ Ext.refl rs rfl⟩
    | _ => cases ez
  | _ => cases ez
theorem snd_min2 : Snd2 K (fun v w H Q =>  rMin2 [v, w] H Q) min2 := fun G F A ρ S H x y z v w Q eK rs h1 h2 ez q => by
  cases x with
  | int i => cases y with
    | int j => cases ez; exact ⟨i, j, by rw [show v = _ from h1, show w = _ from h2], q H _ Ext.refl rs rfl⟩
    | _ => cases ez
  | _ => cases ez
theorem call_intD : CallR X (.type "int")  rInt := CallR.or call_int1 call_int_str
theorem call_strD : CallR X (.type "str")  rStrC := CallR.or call_str_int call_str_sX
theorem call_lenD' : CallR X (.builtin "len") (rLen X.K) := CallR.or call_len_seq call_len_str
section
variable {e : Expr} {as : SA}
theorem int_ (h : PE X e (tCB rInt (tCons (tE G W fa) tNil))) : PE X e (tE G W (eOp1 intD fa)) := cb1_ h snd_int
theorem str_ (h : PE X e (tCB rStrC (tCons (tE G W fa) tNil))) : PE X e (tE G W (eOp1 strD fa)) := cb1_ h snd_str
theorem len_ (hK : X.K = G.K) (h : PE X e (tCB (rLen X.K) (tCons (tE G W fa) tNil))) : PE X e (tE G W (eOp1 lenD fa)) := cb1_ h (hK ▸ snd_len)
theorem list_ (hK : X.K = G.K) (h : PE X e (tCB (rListC X.K) (tCons (tE G W fa) tNil))) : PE X e (tE G W (eOp1 listD fa)) := cb1_ h (hK ▸ snd_list)
theorem tuple_ (hK : X.K = G.K) (h : PE X e (tCB (rTupleC X.K) (tCons (tE G W fa) tNil))) : PE X e (tE G W (eOp1 tupleD fa)) := cb1_ h (hK ▸ snd_tuple)
theorem all_ (hK : X.K = G.K) (h : PE X e (tCB (rAll X.K) (tCons (tE G W fa) tNil))) : PE X e (tE G W (eOp1 allB fa)) := cb1_ h (hK ▸ snd_all)
theorem any_ (hK : X.K = G.K) (h : PE X e (tCB (rAny X.K) (tCons (tE G W fa) tNil))) : PE X e (tE G W (eOp1 anyB fa)) := cb1_ h (hK ▸ snd_any)
theorem abs_ (h : PE X e (tCB rAbs (tCons (tE G W fa) tNil))) : PE X e (tE G W (eOp1 absD fa)) := cb1_ h snd_abs
theorem max2_ (h : PE X e (tCB rMax2 (tCons (tE G W fa) (tCons (tE G W fb) tNil)))) : PE X e (tE G W (eOp2 max2 fa fb)) := cb2_ h snd_max2
theorem min2_ (h : PE X e (tCB rMin2 (tCons (tE G W fa) (tCons (tE G W fb) tNil)))) : PE X e (tE G W (eOp2 min2 fa fb)) := cb2_ h snd_min2
end

/-! ### isinstance against a built-in type -/
inductive Ty where | int | bool | str | list | tuple | dict
def Ty.name : Ty → String
  | .int => "int" | .bool => "bool" | .str => "str" | .list => "list" | .tuple => "tuple" | .dict => "dict"
def tyOf : D → String
  | .non => "NoneType" | .bl _ => "bool" | .int _ => "int" | .str _ => "str" | .scr _ => "list" | .tup _ => "tuple" | .lst _ => "list"
def isTy : Ty → D → Bool
  | .int, .int _ => true
  | .int, .bl _ => true
  | .bool, .bl _ => true
  | .str, .str _ => true
  | .list, .lst _ => true
  | .list, .scr _ => true
  | .tuple, .tup _ => true
  | _, _ => false
theorem kit_D (t : Ty) (d : D) : PySem.W.kitOne K (.type (tyOf d)) (.type t.name) = some (isTy t d) := by
  cases t <;> cases d <;> exact kit_ty rfl
def isTyV (S : Store) (t : Ty) : Val → Option Bool
  | .d x => some (isTy t x)
  | .vt _ => some (isTy t (.tup []))
  | .exc .. => none
  | .ref n => match S[n]? with
    | some (.lst _) => some (isTy t (.lst []))
    | some (.lck _) => some (isTy t (.lst []))
    | _ => none
def eIs (t : Ty) (a : SE) : SE := fun L S => (a L S).bind fun v S1 => match isTyV S1 t v with
  | some b => .ok (.d (.bl b)) S1
  | none => .bad
theorem ty_tup {a : Addr} {vs : List V} (h : SqT K H a vs) : TyX K H (.ref a) (.type "tuple") := by
  rcases h with (h | ⟨o, h⟩) | ⟨o, its, n, h, c, _⟩
  · exact .base (.tup h)
  · exact .fTuple h
  · exact .kTuple h c
theorem ty_lst {a : Addr} {vs : List V} (h : SqL K H a vs) : TyX K H (.ref a) (.type "list") := by
  rcases h with (h | ⟨o, h⟩) | ⟨o, its, n, h, c, _⟩
  · exact .base (.lst h)
  · exact .base (.frz h)
  · exact .kList h c
theorem RepD.ty {d : D} {v : V} (h : RepD K A H d v) : TyX K H v (.type (tyOf d)) := by
  cases d with
  | non => rw [show v = _ from h]; exact .base .non
  | bl b => rw [show v = _ from h]; exact .base (.bl b)
  | int i => rw [show v = _ from h]; exact .base (.int i)
  | str x => rw [show v = _ from h]; exact .base (.str x)
  | scr ns =>
    obtain ⟨a, rfl, p⟩ := h
    exact ty_lst (p.elim (fun p => .inl p.1) fun p => p H)
  | tup ds =>
    obtain ⟨a, vs, rfl, e, p⟩ := h
    exact ty_tup e
  | lst ds =>
    obtain ⟨a, vs, rfl, e, p⟩ := h
    exact .base (.lst e)
theorem RS.ty (r : RS G F A ρ S H) {t : Ty} {v : Val} {w : V} {b : Bool} (h : RepV G.K A H ρ v w) (e : isTyV S t v = some b) : ∃ T, TyX G.K H w T ∧ PySem.W.kitOne G.K T (.type t.name) = some b := by
  cases v with
  | d x => cases e; exact ⟨_, RepD.ty h, kit_D t x⟩
  | exc _ _ _ _ => cases e
  | vt vs =>
    cases e
    obtain ⟨a, ws, rfl, q, _⟩ := h
    exact ⟨_, ty_tup q, kit_D t (.tup [])⟩
  | ref n =>
    obtain ⟨a, e1, rfl⟩ := h
    unfold isTyV at e
    simp only at e
    split at e
    · rename_i ds e2
      cases e
      obtain ⟨a', e3, vs, h1, _⟩ := r.cells n _ e2
      rw [e1] at e3; cases e3
      exact ⟨_, ty_lst (SqL.of h1), kit_D t (.lst [])⟩
    · rename_i ds e2
      cases e
      obtain ⟨a', e3, vs, h1, _⟩ := r.cells n _ e2
      rw [e1] at e3; cases e3
      exact ⟨_, ty_lst (SqL.of h1), kit_D t (.lst [])⟩
    · cases e
theorem is_ {t : Ty} {e : Expr} (hK : X.K = G.K) (h : PE X e (tCB (rIsi X.K) (tCons (tE G W fa) (tCons (tC (.ty t.name)) tNil)))) : PE X e (tE G W (eIs t fa)) := PE.imp h fun σ H Q ⟨F, A, ρ, L, S, l, r0, q⟩ => by
  refine ⟨F, A, ρ, L, S, l, r0, EvOk.bind q fun v S1 A1 ρ1 H1 x1 r1 q1 w rw1 => ?_⟩
  split at q1
  · rename_i b e
    obtain ⟨T, h1, h2⟩ := r1.ty rw1 e
    exact ⟨w, _, T, _, b, rfl, .ty _, hK ▸ h1, hK ▸ h2, q1 A1 ρ1 H1 Ext.refl r1 _ rfl⟩
  · exact q1.elim
end
end Ev
set_option linter.all false
set_option Elab.async false
set_option maxRecDepth 100000
namespace Ev
open PySem L2 PySem.Spec
variable {F F1 A A1 A2 : Addr → Prop} {ρ ρ1 ρ2 : List Addr} {H H1 H2 : Hp} {K : PySem.W.Frag} {G : PC} {S S1 S2 : Store} {X : Cx} {W : WX}
variable {a b c e : Expr} {es : List Expr} {fa fb fc : SE} {as : SA} {pos : Pos}

/-! ### methods of texts -/
def eStrM (f : Str → D → Option D) (a b : SE) : SE := fun L S => (a L S).bind fun v S1 => match v with
  | .d (.str x) => (b L S1).bind fun w S2 => match top S2 w with
    | some y => R.of (f x y) S2
    | none => .bad
  | _ => .bad
def SndM (K : PySem.W.Frag) (r : V → List V → Hp → VK → Prop) (f : Str → D → Option D) : Prop := ∀ (G : PC) (F A : Addr → Prop) (ρ : List Addr) (S : Store) (H : Hp) (x : Str) (y z : D) (w : V) (Q : VK), G.K = K → RS G F A ρ S H → RepT K A H y w → f x y = some z →
  (∀ H' u, Ext F A ρ H A ρ H' → RS G F A ρ S H' → RepD K A H' z u → Q u H') → r (.str x) [w] H Q
theorem strM_ {r : V → List V → Hp → VK → Prop} {f : Str → D → Option D} (hK : X.K = G.K) (h : PE X e (tBM X.K "str" r (tE G W fa) (tCons (tE G W fb) tNil))) (hs : SndM G.K r f) : PE X e (tE G W (eStrM f fa fb)) := PE.imp h fun σ H Q ⟨F, A, ρ, L, S, l, r0, q⟩ => by
  refine ⟨F, A, ρ, L, S, l, r0, EvOk.bind q fun v S1 A1 ρ1 H1 x1 r1 q1 w rw1 => ?_⟩
  split at q1
  · rename_i x
    rw [show w = _ from rw1]
    refine ⟨rfl, F, A1, ρ1, L, S1, l.mv x1 r0, r1, EvOk.bind q1 fun v2 S2 A2 ρ2 H2 x2 r2 q2 w2 rw2 => ?_⟩
    split at q2
    · rename_i y e2
      obtain ⟨z, ez, q3⟩ := of_ok q2
      exact hs G F A2 ρ2 S2 H2 x y z w2 Q rfl r2 (r2.top rw2 e2) ez fun H' u xe re rd => q3 A2 ρ2 H' xe re u rd
    · exact q2.elim
  · exact q1.elim
def txts : List D → Option (List Str)
  | [] => some []
  | .str b :: ds => (txts ds).map (b :: ·)
  | _ :: _ => none
theorem txts_rep : ∀ {ds : List D} {vs : List V} {bs : List Str}, RepDs K A H ds vs → txts ds = some bs → vs = bs.map V.str
  | [], ws, ds, h, e => by cases e; exact h
  | .str x :: vs, ws, ds, h, e => by
    obtain ⟨w, t, rfl, p, q⟩ := h
    unfold txts at e
    cases e1 : txts vs with
    | none => rw [e1] at e; cases e
    | some es => rw [e1] at e; cases e; rw [txts_rep q e1, show w = _ from p]; rfl
  | .non :: vs, ws, ds, h, e => by cases e
  | .int _ :: vs, ws, ds, h, e => by cases e
  | .bl _ :: vs, ws, ds, h, e => by cases e
  | .scr _ :: vs, ws, ds, h, e => by cases e
  | .tup _ :: vs, ws, ds, h, e => by cases e
  | .lst _ :: vs, ws, ds, h, e => by cases e
theorem txts_map (xs : List Str) : txts (xs.map D.str) = some xs := by
  induction xs with
  | nil => rfl
  | cons x r ih => simp [txts, ih]
theorem txts_of {ds : List D} {xs : List Str} (e : txts ds = some xs) : ds = xs.map D.str := by
  induction ds generalizing xs with
  | nil => cases e; rfl
  | cons d r ih =>
    cases d with
    | str x =>
      unfold txts at e
      cases e1 : txts r with
      | none => rw [e1] at e; cases e
      | some ys => rw [e1] at e; cases e; rw [ih e1]; rfl
    | _ => cases e
theorem txts_reps (xs : List Str) : RepDs K A H (xs.map D.str) (xs.map V.str) := by
  induction xs with
  | nil => rfl
  | cons x r ih => exact ⟨_, _, rfl, rfl, ih⟩
def joinD (a : Str) : D → Option D
  | .lst ds => match txts ds with
    | some ys => if (ys.map (·.length)).sum + ys.length * a.length ≤ 16777216 then some (.str (Txt.join a ys)) else none
    | none => none
  | .tup ds => match txts ds with
    | some ys => if (ys.map (·.length)).sum + ys.length * a.length ≤ 16777216 then some (.str (Txt.join a ys)) else none
    | none => none
  | _ => none
def rJoin (K : PySem.W.Frag) : V → List V → Hp → VK → Prop := fun x xs H Q => ∃ a p, ∃ ys : List Str, x = .str a ∧ xs = [.ref p] ∧ (SqL K H p (ys.map V.str) ∨ SqT K H p (ys.map V.str)) ∧ (ys.map (·.length)).sum + ys.length * a.length ≤ 16777216 ∧ Q (.str (Txt.join a ys)) H
theorem snd_join : SndM K (rJoin K) joinD := fun G F A ρ S H x y z w Q eK rs h ez q => by
  have fin : ∀ (ds : List D) (p : Addr) (vs : List V), w = .ref p → (SqL K H p vs ∨ SqT K H p vs) → RepDs K A H ds vs → (match txts ds with
    | some ys => if (ys.map (·.length)).sum + ys.length * x.length ≤ 16777216 then some (D.str (Txt.join x ys)) else none
    | none => none) = some z → rJoin K (.str x) [w] H Q := fun ds p vs e sq rd ei => by
    split at ei
    · rename_i ys e1
      split at ei
      · rename_i c
        cases ei
        have e2 := txts_rep rd e1
        subst e2
        exact ⟨x, p, ys, rfl, by rw [e], sq, c, q H _ Ext.refl rs rfl⟩
      · cases ei
    · cases ei
  cases y with
  | lst ds =>
    obtain ⟨a, vs, rfl, e, p⟩ := h
    exact fin ds a vs rfl (.inl (SqL.of e)) p ez
  | tup ds =>
    obtain ⟨a, vs, rfl, e, p⟩ := h
    exact fin ds a vs rfl (.inr e) p ez
  | _ => simp [joinD] at ez
theorem mt_join' : MtR X "str.join" (rJoin X.K) := mt_join
def splitD (a : Str) : D → Option D
  | .str b => if (b.length == 0) = false ∧ a.length + 2 ≤ sizeLine then some (.lst ((Txt.split a b).map .str)) else none
  | _ => none
def rSplit : V → List V → Hp → VK → Prop := fun x xs H Q => ∃ a b, x = .str a ∧ xs = [.str b] ∧ (b.length == 0) = false ∧ a.length + 2 ≤ sizeLine ∧ rNewStrs (Txt.split a b) H Q
theorem snd_split : SndM K rSplit splitD := fun G F A ρ S H x y z w Q eK rs h ez q => by
  cases y with
  | str b =>
    by_cases c : (b.length == 0) = false ∧ x.length + 2 ≤ sizeLine
    · simp only [splitD, if_pos c] at ez; cases ez
      refine ⟨x, b, rfl, by rw [show w = _ from h], c.1, c.2, fun p hp => ?_⟩
      obtain ⟨y, r', d⟩ := new_lst rs (txts_reps _) hp
      exact q _ _ y r' d
    · simp only [splitD, if_neg c] at ez; cases ez
  | _ => simp [splitD] at ez
def rempD (a : Str) : D → Option D
  | .str b => if a.length ≤ sizeLine then some (.str (Txt.removeprefix a b)) else none
  | _ => none
def rRemp : V → List V → Hp → VK → Prop := fun x xs H Q => ∃ a b, x = .str a ∧ xs = [.str b] ∧ a.length ≤ sizeLine ∧ Q (.str (Txt.removeprefix a b)) H
theorem snd_remp : SndM K rRemp rempD := fun G F A ρ S H x y z w Q eK rs h ez q => by
  cases y with
  | str b =>
    by_cases c : x.length ≤ sizeLine
    · simp only [rempD, if_pos c] at ez; cases ez
      exact ⟨x, b, rfl, by rw [show w = _ from h], c, q H _ Ext.refl rs rfl⟩
    · simp only [rempD, if_neg c] at ez; cases ez
  | _ => simp [rempD] at ez
def startsD (a : Str) : D → Option D
  | .str b => some (.bl (Txt.startswith a b))
  | _ => none
def rStarts : V → List V → Hp → VK → Prop := fun x xs H Q => ∃ a b, x = .str a ∧ xs = [.str b] ∧ Q (.bl (Txt.startswith a b)) H
theorem snd_starts : SndM K rStarts startsD := fun G F A ρ S H x y z w Q eK rs h ez q => by
  cases y with
  | str b => cases ez; exact ⟨x, b, rfl, by rw [show w = _ from h], q H _ Ext.refl rs rfl⟩
  | _ => simp [startsD] at ez

/-! ### own lists: append, extend, pop -/
def isL (S : Store) : Val → Bool
  | .ref n => match S[n]? with
    | some (.lst _) => true
    | some (.lck _) => true
    | _ => false
  | _ => false
theorem RS.isL (r : RS G F A ρ S H) {v : Val} {w : V} (h : RepV G.K A H ρ v w) (e : isL S v = true) : tyV G.K "list" w H := by
  cases v with
  | ref n =>
    obtain ⟨a, e1, rfl⟩ := h
    unfold Ev.isL at e
    simp only at e
    split at e
    · rename_i ds e2
      obtain ⟨a', e3, vs, h1, _⟩ := r.cells n _ e2
      rw [e1] at e3; cases e3
      exact .inl ⟨rfl, vs, SqL.of h1⟩
    · rename_i ds e2
      obtain ⟨a', e3, vs, h1, _⟩ := r.cells n _ e2
      rw [e1] at e3; cases e3
      exact .inl ⟨rfl, vs, SqL.of h1⟩
    · cases e
  | _ => cases e
def eAppend (a b : SE) : SE := fun L S => (a L S).bind fun v S1 => if isL S1 v = true then (b L S1).bind fun w S2 => match v, w with
  | .ref n, .d x => match S2[n]? with
    | some (.lst ds) => if ds.length < sizeLine then .ok (.d .non) (S2.set n (.lst (ds ++ [x]))) else .bad
    | _ => .bad
  | _, _ => .bad else .bad
theorem append_ (hK : X.K = G.K) (h : PE X e (tBM X.K "list" rAppend (tE G W fa) (tCons (tE G W fb) tNil))) : PE X e (tE G W (eAppend fa fb)) := PE.imp h fun σ H Q ⟨F, A, ρ, L, S, l, r0, q⟩ => by
  refine ⟨F, A, ρ, L, S, l, r0, EvOk.bind q fun v S1 A1 ρ1 H1 x1 r1 q1 w rw1 => ?_⟩
  split at q1
  · rename_i c
    refine ⟨hK ▸ r1.isL rw1 c, F, A1, ρ1, L, S1, l.mv x1 r0, r1, EvOk.bind q1 fun v2 S2 A2 ρ2 H2 x2 r2 q2 w2 rw2 => ?_⟩
    have rw1' := rw1.mv x2 r1
    split at q2
    · rename_i n x
      split at q2
      · rename_i ds e2
        split at q2
        · rename_i c2
          obtain ⟨a, e1, rfl⟩ := rw1'
          obtain ⟨a', e3, vs, h1, h2⟩ := r2.cells n _ e2
          rw [e1] at e3; cases e3
          refine ⟨a, vs, w2, rfl, rfl, h1, by rw [h2.len]; exact c2, ?_⟩
          obtain ⟨x', r'⟩ := r2.write e1 (o := .lst (vs ++ [w2])) (c := .lst (ds ++ [x])) True.intro e2 (fun _ z => nomatch z) (fun _ z => nomatch z) fun x' => ⟨vs ++ [w2], upd_same, (RepDs.app h2 (us := [w2]) (es := [x]) ⟨w2, [], rfl, rw2, rfl⟩).mv x' r2⟩
          exact q2 A2 ρ2 _ x' r' _ rfl
        · exact q2.elim
      · exact q2.elim
    · exact q2.elim
  · exact q1.elim
def eExtend (a b : SE) : SE := fun L S => (a L S).bind fun v S1 => if isL S1 v = true then (b L S1).bind fun w S2 => match v, top S2 w with
  | .ref n, some (.lst xs) => match S2[n]? with
    | some (.lst ds) => if ds.length + xs.length ≤ sizeLine then .ok (.d .non) (S2.set n (.lst (ds ++ xs))) else .bad
    | _ => .bad
  | _, _ => .bad else .bad
theorem extend_ (hK : X.K = G.K) (h : PE X e (tBM X.K "list" rExtend (tE G W fa) (tCons (tE G W fb) tNil))) : PE X e (tE G W (eExtend fa fb)) := PE.imp h fun σ H Q ⟨F, A, ρ, L, S, l, r0, q⟩ => by
  refine ⟨F, A, ρ, L, S, l, r0, EvOk.bind q fun v S1 A1 ρ1 H1 x1 r1 q1 w rw1 => ?_⟩
  split at q1
  · rename_i c
    refine ⟨hK ▸ r1.isL rw1 c, F, A1, ρ1, L, S1, l.mv x1 r0, r1, EvOk.bind q1 fun v2 S2 A2 ρ2 H2 x2 r2 q2 w2 rw2 => ?_⟩
    have rw1' := rw1.mv x2 r1
    split at q2
    · rename_i n xs e0
      split at q2
      · rename_i ds e2
        split at q2
        · rename_i c2
          obtain ⟨a, e1, rfl⟩ := rw1'
          obtain ⟨a', e3, vs, h1, h2⟩ := r2.cells n _ e2
          rw [e1] at e3; cases e3
          obtain ⟨b, us, rfl, g1, g2⟩ := r2.top rw2 e0
          refine ⟨a, b, vs, us, rfl, rfl, h1, g1, by rw [h2.len, g2.len]; exact c2, ?_⟩
          obtain ⟨x', r'⟩ := r2.write e1 (o := .lst (vs ++ us)) (c := .lst (ds ++ xs)) True.intro e2 (fun _ z => nomatch z) (fun _ z => nomatch z) fun x' => ⟨vs ++ us, upd_same, (h2.app g2).mv x' r2⟩
          exact q2 A2 ρ2 _ x' r' _ rfl
        · exact q2.elim
      · exact q2.elim
    · exact q2.elim
  · exact q1.elim
def ePop (a : SE) : SE := fun L S => (a L S).bind fun v S1 => match v with
  | .ref n => match S1[n]? with
    | some (.lst ds) => match ds[ds.length - 1]? with
      | some x => .ok (.d x) (S1.set n (.lst ds.dropLast))
      | none => .bad
    | _ => .bad
  | _ => .bad
theorem RepDs.dropLast {ds : List D} {vs : List V} (h : RepDs K A H ds vs) : RepDs K A H ds.dropLast vs.dropLast := by
  rw [List.dropLast_eq_take, List.dropLast_eq_take, h.len]
  exact h.take _
theorem pop_ (hK : X.K = G.K) (h : PE X e (tBM0 X.K "list" rPop (tE G W fa))) : PE X e (tE G W (ePop fa)) := PE.imp h fun σ H Q ⟨F, A, ρ, L, S, l, r0, q⟩ => by
  refine ⟨F, A, ρ, L, S, l, r0, EvOk.bind q fun v S1 A1 ρ1 H1 x1 r1 q1 w rw1 => ?_⟩
  split at q1
  · rename_i n
    split at q1
    · rename_i ds e2
      split at q1
      · rename_i x e0
        obtain ⟨a, e1, rfl⟩ := rw1
        obtain ⟨a', e3, vs, h1, h2⟩ := r1.cells n _ e2
        rw [e1] at e3; cases e3
        obtain ⟨u, e4, p⟩ := h2.get e0
        refine ⟨.inl ⟨rfl, vs, SqL.of h1⟩, a, vs, u, rfl, rfl, h1, by rw [h2.len]; exact e4, ?_⟩
        obtain ⟨x', r'⟩ := r1.write e1 (o := .lst vs.dropLast) (c := .lst ds.dropLast) True.intro e2 (fun _ z => nomatch z) (fun _ z => nomatch z) fun x' => ⟨vs.dropLast, upd_same, h2.dropLast.mv x' r1⟩
        exact q1 A1 ρ1 _ x' r' _ (p.mv x' r1)
      · exact q1.elim
    · exact q1.elim
  · exact q1.elim
end Ev
set_option linter.all false
set_option Elab.async false
set_option maxRecDepth 100000
namespace Ev
open PySem L2 PySem.Spec
variable {F F1 A A1 A2 : Addr → Prop} {ρ ρ1 ρ2 : List Addr} {H H1 H2 : Hp} {K : PySem.W.Frag} {G : PC} {S S1 S2 : Store} {X : Cx} {W : WX}
variable {a b c e : Expr} {es : List Expr} {fa fb fc : SE} {as : SA} {pos : Pos}

/-! ### own functions -/
abbrev Fn := List Val → Store → R Val
/-- what a def promises whose answers are those of g -/
def spF (G : PC) (n : Nat) (g : Fn) : Sp := fun vs H Q E => ∃ F A ρ args S, RepVs G.K A H ρ args vs ∧ args.length = n ∧ RS G F A ρ S H ∧
  EvOk G F (fun A' ρ' H' v => ∀ w, RepV G.K A' H' ρ' v w → Q w H') (fun cls d H' => E cls d H') A ρ H (g args S)
theorem spF_len {n : Nat} {g : Fn} : ∀ vs H Q E, spF G n g vs H Q E → vs.length = n := fun vs H Q E ⟨_, _, _, args, _, h, e, _⟩ => h.len.trans e
/-- a call in the same store -/
def eCall (g : Fn) (n : Nat) (as : SA) : SE := fun L S => (as L S).bind fun vs S1 => if vs.length = n then g vs S1 else .bad
theorem call_ {n : Nat} {g : Fn} (h : PE X e (tCallS (spF G n g) (WE W) (tA' G W as))) : PE X e (tE G W (eCall g n as)) := PE.imp h fun σ H Q ⟨F, A, ρ, L, S, l, r0, q⟩ => by
  refine ⟨F, A, ρ, L, S, l, r0, EvOk.bind q fun vs S1 A1 ρ1 H1 x1 r1 q1 ws rws => ?_⟩
  split at q1
  · rename_i c
    exact ⟨F, A1, ρ1, vs, S1, rws, c, r1, q1⟩
  · exact q1.elim
mutual
def dview (S : Store) : Val → Option D
  | .d x => some x
  | .ref n => match S[n]? with
    | some (.lst ds) => some (.lst ds)
    | some (.lck ds) => some (.lst ds)
    | _ => none
  | .vt vs => (dviews S vs).map .tup
  | .exc .. => none
def dviews (S : Store) : List Val → Option (List D)
  | [] => some []
  | v :: vs => (dview S v).bind fun x => (dviews S vs).map (x :: ·)
end
section
variable {B : Addr → Prop} (r : RS G F A ρ S H) (h1 : ∀ a, B a → A a) (h2 : ∀ a, a ∈ ρ → ¬ B a)
include r h1 h2
mutual
theorem dview_rep : ∀ (v : Val) (w : V) (x : D), RepV G.K A H ρ v w → dview S v = some x → RepD G.K B H x w
  | .d y, w, x, h, e => by
    unfold dview at e
    cases e
    exact RepD.weak h1 y w h
  | .ref n, w, x, h, e => by
    obtain ⟨a, e1, rfl⟩ := h
    unfold dview at e
    split at e
    · rename_i ds e2
      cases e
      obtain ⟨a', e3, vs, g1, g2⟩ := r.cells n _ e2
      rw [e1] at e3; cases e3
      exact ⟨a, vs, rfl, g1, h2 a (List.mem_of_getElem? e1), RepDs.weak h1 ds vs g2⟩
    · rename_i ds e2
      cases e
      obtain ⟨a', e3, vs, g1, g2⟩ := r.cells n _ e2
      rw [e1] at e3; cases e3
      exact ⟨a, vs, rfl, g1, h2 a (List.mem_of_getElem? e1), RepDs.weak h1 ds vs g2⟩
    · cases e
  | .exc .., w, x, h, e => by unfold dview at e; cases e
  | .vt vs, w, x, h, e => by
    obtain ⟨a, ws, rfl, q, p⟩ := h
    unfold dview at e
    cases e1 : dviews S vs with
    | none => rw [e1] at e; cases e
    | some ds =>
      rw [e1] at e; cases e
      exact ⟨a, ws, rfl, q, dviews_rep vs ws ds p e1⟩
theorem dviews_rep : ∀ (vs : List Val) (ws : List V) (xs : List D), RepVs G.K A H ρ vs ws → dviews S vs = some xs → RepDs G.K B H xs ws
  | [], ws, xs, h, e => by
    unfold dviews at e
    cases e
    exact h
  | v :: vs, ws, xs, h, e => by
    obtain ⟨w, t, rfl, p, q⟩ := h
    unfold dviews at e
    cases e1 : dview S v with
    | none => rw [e1] at e; cases e
    | some x =>
      rw [e1] at e
      cases e2 : dviews S vs with
      | none => rw [e2] at e; cases e
      | some ys =>
        rw [e2] at e; cases e
        exact ⟨w, t, rfl, dview_rep v w x p e1, dviews_rep vs t ys q e2⟩
end
end
def pureV : Val → Bool
  | .d _ => true
  | _ => false
theorem repVs_d : ∀ {ds : List D} {ws : List V}, RepDs K A H ds ws → RepVs K A H ρ (ds.map Val.d) ws
  | [], ws, h => h
  | d :: ds, ws, h => by
    obtain ⟨w, t, rfl, p, q⟩ := h
    exact ⟨w, t, rfl, p, repVs_d q⟩
theorem flat_any {x : D} {w : V} {B : Addr → Prop} (f : flatD x = true) (h : RepD K A H x w) : RepD K B H x w := by
  cases x with
  | non => exact h
  | bl _ => exact h
  | int _ => exact h
  | str _ => exact h
  | _ => cases f
theorem pure_rep : ∀ {vs : List Val} {ws : List V} {ds : List D}, RepVs K A H ρ vs ws → vs.all pureV = true → dviews S vs = some ds → RepDs K A H ds ws
  | [], ws, ds, h, _, e => by
    unfold dviews at e; cases e; exact h
  | .d x :: vs, ws, ds, h, f, e => by
    obtain ⟨w, t, rfl, p, q⟩ := h
    unfold dviews dview at e
    cases e2 : dviews S vs with
    | none => rw [e2] at e; cases e
    | some ys =>
      rw [e2] at e; cases e
      rw [List.all_cons, Bool.and_eq_true] at f
      exact ⟨w, t, rfl, p, pure_rep q f.2 e2⟩
  | .ref n :: vs, ws, ds, h, f, e => by simp [pureV] at f
  | .vt n :: vs, ws, ds, h, f, e => by simp [pureV] at f
  | .exc .. :: vs, ws, ds, h, f, e => by simp [pureV] at f
theorem RS.empty (tr : ∀ a, A a → ∃ o, H a = some o) : RS G (fun _ => False) A [] [] H :=
  ⟨fun _ h => (nomatch h), tr, .nil, rfl, fun _ h => (nomatch h), fun _ h => h.elim, fun _ _ _ h => (nomatch h), fun _ _ h => (nomatch h)⟩
theorem Ext.keep0 (x : Ext F1 A [] H A1 ρ1 H1) : ∀ a o, H a = some o → H1 a = some o := fun a o h => x.fr a o (fun z => nomatch z) h
/-- a call in a store of its own: data in, a datum out -/
def isoF (pureArgs : Bool) (r : R Val) (S1 : Store) : R Val := match r with
  | .ok v S' => match dview S' v with
    | some x => if (pureArgs || flatD x) = true then .ok (.d x) S1 else .bad
    | none => .bad
  | .ex x _ => .ex x S1
  | .bad => .bad
def eCallI (g : Fn) (n : Nat) (as : SA) : SE := fun L S => (as L S).bind fun vs S1 => match dviews S1 vs with
  | some ds => if vs.length = n then isoF (vs.all pureV) (g (ds.map Val.d) []) S1 else .bad
  | none => .bad
theorem dviews_len : ∀ {vs : List Val} {ds : List D}, dviews S vs = some ds → ds.length = vs.length
  | [], ds, e => by unfold dviews at e; cases e; rfl
  | v :: vs, ds, e => by
    unfold dviews at e
    cases e1 : dview S v with
    | none => rw [e1] at e; cases e
    | some x =>
      rw [e1] at e
      cases e2 : dviews S vs with
      | none => rw [e2] at e; cases e
      | some ys => rw [e2] at e; cases e; simp [dviews_len e2]
theorem iso_ok {P : (Addr → Prop) → List Addr → Hp → Val → Prop} {E : Value → Option Addr → Hp → Prop} {g : R Val} {B : Addr → Prop} {pa : Bool} (r1 : RS G F A ρ S H) (hB : (pa = true → B = A) ∧ ∀ a, B a → A a)
    (q : EvOk G F P E A ρ H (isoF pa g S)) :
    EvOk G (fun _ => False) (fun A' ρ' H' v => ∀ w, RepV G.K A' H' ρ' v w → ∃ x, Ext F A ρ H A ρ H' ∧ RS G F A ρ S H' ∧ RepD G.K A H' x w ∧ P A ρ H' (.d x)) E B [] H g := by
  cases g with
  | bad => exact q
  | ex x S' =>
    intro A' ρ' H' cls d x1 r2 rx
    obtain ⟨x2, r3⟩ := r1.same x1.keep0 (fun _ h => h) (fun _ h => .inl h) fun a h => let ⟨o, e⟩ := r1.trk a h; ⟨o, x1.keep0 a o e⟩
    exact q A ρ H' cls d x2 r3 rx
  | ok v S' =>
    intro A' ρ' H' x1 r2 w rw
    unfold isoF at q
    simp only at q
    split at q
    · rename_i x ex
      split at q
      · rename_i c
        obtain ⟨x2, r3⟩ := r1.same x1.keep0 (fun _ h => h) (fun _ h => .inl h) fun a h => let ⟨o, e⟩ := r1.trk a h; ⟨o, x1.keep0 a o e⟩
        have rd : RepD G.K A H' x w := by
          rw [Bool.or_eq_true] at c
          rcases c with c | c
          · have e := hB.1 c
            subst e
            refine dview_rep r2 x1.up (fun a ha z => ?_) v w x rw ex
            rcases x1.nr a ha with h | h
            · cases h
            · obtain ⟨o, ho⟩ := r1.trk a z
              rw [h] at ho; cases ho
          · exact flat_any c (dview_rep (B := fun _ => False) r2 (fun _ h => h.elim) (fun _ _ h => h) v w x rw ex)
        exact ⟨x, x2, r3, rd, q A ρ H' x2 r3⟩
      · exact q.elim
    · exact q.elim
theorem callI_ {n : Nat} {g : Fn} (h : PE X e (tCallS (spF G n g) (WE W) (tA' G W as))) : PE X e (tE G W (eCallI g n as)) := PE.imp h fun σ H Q ⟨F, A, ρ, L, S, l, r0, q⟩ => by
  refine ⟨F, A, ρ, L, S, l, r0, EvOk.bind q fun vs S1 A1 ρ1 H1 x1 r1 q1 ws rws => ?_⟩
  split at q1
  · rename_i ds ed
    split at q1
    · rename_i c
      cases hp : vs.all pureV with
      | true =>
        rw [hp] at q1
        have h := iso_ok (B := A1) r1 ⟨fun _ => rfl, fun _ h => h⟩ q1
        refine ⟨fun _ => False, A1, [], ds.map Val.d, [], repVs_d (pure_rep rws hp ed), ?_, RS.empty r1.trk, h.mono (fun A' ρ' H' v k w rw => ?_) fun _ _ _ z => z⟩
        · rw [List.length_map, dviews_len ed]; exact c
        · obtain ⟨x, _, _, rd, p⟩ := k w rw
          exact p w rd
      | false =>
        rw [hp] at q1
        have h := iso_ok (pa := false) (B := fun _ => False) r1 ⟨fun z => (nomatch z), fun _ h => h.elim⟩ q1
        refine ⟨fun _ => False, fun _ => False, [], ds.map Val.d, [], repVs_d (dviews_rep r1 (fun _ h => h.elim) (fun _ _ h => h) vs ws ds rws ed), ?_, RS.empty fun _ h => h.elim, h.mono (fun A' ρ' H' v k w rw => ?_) fun _ _ _ z => z⟩
        · rw [List.length_map, dviews_len ed]; exact c
        · obtain ⟨x, _, _, rd, p⟩ := k w rw
          exact p w rd
    · exact q1.elim
  · exact q1.elim
/-- without arguments -/
def eCall0 (g : Fn) : SE := fun L S => match isoF true (g [] []) S with
  | .ex _ _ => .bad
  | r => r
theorem call0_ {g : Fn} (h : PE X e (tCall (spF G 0 g) [] E0 tNil)) : PE X e (tE G W (eCall0 g)) := PE.imp h fun σ H Q ⟨F, A, ρ, L, S, l, r0, q⟩ => by
  have q1 : EvOk G F (fun A' ρ' H' v => ∀ w, RepV G.K A' H' ρ' v w → Q w H') (fun _ _ _ => False) A ρ H (isoF true (g [] []) S) := by
    unfold eCall0 at q
    revert q
    cases isoF true (g [] []) S with
    | ok v S' => exact fun q => q
    | ex x S' => exact fun q => q.elim
    | bad => exact fun q => q
  have h := iso_ok (B := A) r0 ⟨fun _ => rfl, fun _ h => h⟩ q1
  refine ⟨fun _ => False, A, [], [], [], rfl, rfl, RS.empty r0.trk, h.mono (fun A' ρ' H' v k w rw => ?_) fun _ _ _ z => z.elim⟩
  obtain ⟨x, _, _, rd, p⟩ := k w rw
  exact p w rd

/-! ### a call whose new own objects come into the caller's store -/
mutual
def shiftV (k : Nat) : Val → Val
  | .d x => .d x
  | .ref n => .ref (k + n)
  | .vt vs => .vt (shiftVs k vs)
  | .exc a d nm fs => .exc a d nm fs
def shiftVs (k : Nat) : List Val → List Val
  | [] => []
  | v :: vs => shiftV k v :: shiftVs k vs
end
def shiftC (k : Nat) : Cell → Cell
  | .obj c fs => .obj c (shiftVs k fs)
  | c => c
mutual
theorem shift_rep : ∀ (v : Val) (w : V), RepV K A H ρ1 v w → RepV K A H (ρ ++ ρ1) (shiftV ρ.length v) w
  | .d x, w, h => by unfold shiftV; exact h
  | .ref n, w, h => by
    obtain ⟨a, e, rfl⟩ := h
    unfold shiftV
    refine ⟨a, ?_, rfl⟩
    rw [List.getElem?_append_right (Nat.le_add_right _ _), Nat.add_sub_cancel_left]
    exact e
  | .exc .., w, h => by unfold shiftV; exact h
  | .vt vs, w, h => by
    obtain ⟨a, ws, rfl, q, p⟩ := h
    unfold shiftV
    exact ⟨a, ws, rfl, q, shift_reps vs ws p⟩
theorem shift_reps : ∀ (vs : List Val) (ws : List V), RepVs K A H ρ1 vs ws → RepVs K A H (ρ ++ ρ1) (shiftVs ρ.length vs) ws
  | [], ws, h => by unfold shiftVs; exact h
  | v :: vs, ws, h => by
    obtain ⟨w, t, rfl, p, q⟩ := h
    unfold shiftVs
    exact ⟨w, t, rfl, shift_rep v w p, shift_reps vs t q⟩
end
theorem shiftVs_len (k : Nat) : ∀ vs : List Val, (shiftVs k vs).length = vs.length
  | [] => by unfold shiftVs; rfl
  | v :: vs => by unfold shiftVs; simp [shiftVs_len k vs]
theorem shiftC_rep : ∀ {c : Cell}, RepC G A H ρ1 a' c → RepC G A H (ρ ++ ρ1) a' (shiftC ρ.length c)
  | .lst ds, h => h
  | .lck ds, h => h
  | .dic ks ds, h => h
  | .ldk ks ds, h => h
  | .dit ks ds, h => h
  | .ldt ks ds, h => h
  | .obj c fs, ⟨dx, vs, h, l, q⟩ => ⟨dx, vs, by rw [shiftVs_len]; exact h, by rw [shiftVs_len]; exact l, shift_reps fs vs q⟩
theorem RS.join (r1 : RS G F A ρ S H) (x : Ext (fun _ => False) A [] H A1 ρ1 H1) (r2 : RS G (fun _ => False) A1 ρ1 S1 H1) :
    Ext F A ρ H A1 (ρ ++ ρ1) H1 ∧ RS G F A1 (ρ ++ ρ1) (S ++ S1.map (shiftC ρ.length)) H1 := by
  have new : ∀ a, a ∈ ρ1 → H a = none := fun a h => (x.nr a h).elim (fun z => nomatch z) fun z => z
  have x' : Ext F A ρ H A1 (ρ ++ ρ1) H1 := ⟨List.prefix_append _ _, fun a o _ h => x.keep0 a o h, x.st, x.up, x.nw, fun a h => (List.mem_append.mp h).imp (fun h => h) (new a)⟩
  refine ⟨x', fun a h => ?_, r2.trk, ?_, ?_, fun a h => ?_, fun a h => List.mem_append_left _ (r1.fin a h), fun n a c e1 e2 => ?_, fun n c e => ?_⟩
  · exact (List.mem_append.mp h).elim (fun h => x.up a (r1.sub a h)) (r2.sub a)
  · refine List.nodup_append.mpr ⟨r1.nd, r2.nd, fun a h b hb z => ?_⟩
    subst z
    obtain ⟨o, e⟩ := r1.trk a (r1.sub a h)
    rw [new a hb] at e; cases e
  · rw [List.length_append, List.length_append, List.length_map, r1.len, r2.len]
  · rcases List.mem_append.mp h with h | h
    · obtain ⟨o, e, w⟩ := r1.own a h
      exact ⟨o, x.keep0 a o e, w⟩
    · exact r2.own a h
  · by_cases hn : n < S.length
    · rw [List.getElem?_append_left hn] at e2
      rw [List.getElem?_append_left (by rw [r1.len]; exact hn)] at e1
      exact r1.lk n a c e1 e2
    · have hn : S.length ≤ n := Nat.le_of_not_lt hn
      rw [List.getElem?_append_right hn, List.getElem?_map] at e2
      rw [List.getElem?_append_right (by rw [r1.len]; exact hn), r1.len] at e1
      cases e3 : S1[n - S.length]? with
      | none => rw [e3] at e2; cases e2
      | some c' =>
        rw [e3] at e2
        simp only [Option.map_some, Option.some.injEq] at e2
        subst e2
        have hl := r2.lk _ a c' e1 e3
        refine ⟨fun z => ?_, fun z => ?_⟩
        · have m := List.mem_of_getElem? e1
          obtain ⟨o, e⟩ := r1.trk a (r1.sub a (r1.fin a z))
          rw [new a m] at e; cases e
        · cases c' with
          | lck es => exact (hl.mpr True.intro).elim
          | ldk _ _ => exact (hl.mpr True.intro).elim
          | ldt _ _ => exact (hl.mpr True.intro).elim
          | dit _ _ => cases z
          | lst es => cases z
          | dic _ _ => cases z
          | obj _ _ => cases z
  · by_cases hn : n < S.length
    · rw [List.getElem?_append_left hn] at e
      obtain ⟨a, e1, q⟩ := r1.cells n c e
      obtain ⟨o, e2, w⟩ := r1.own a (List.mem_of_getElem? e1)
      refine ⟨a, ?_, q.mv x' r1 ((x.keep0 a o e2).trans e2.symm)⟩
      rw [List.getElem?_append_left (by rw [r1.len]; exact hn)]
      exact e1
    · have hn : S.length ≤ n := Nat.le_of_not_lt hn
      rw [List.getElem?_append_right hn, List.getElem?_map] at e
      cases e3 : S1[n - S.length]? with
      | none => rw [e3] at e; cases e
      | some c' =>
        rw [e3] at e
        simp only [Option.map_some, Option.some.injEq] at e
        subst e
        obtain ⟨a, e1, q⟩ := r2.cells _ c' e3
        refine ⟨a, ?_, shiftC_rep q⟩
        rw [List.getElem?_append_right (by rw [r1.len]; exact hn), r1.len]
        exact e1
def newF (r : R Val) (S1 : Store) : R Val := match r with
  | .ok v S' => .ok (shiftV S1.length v) (S1 ++ S'.map (shiftC S1.length))
  | .ex x _ => .ex x S1
  | .bad => .bad
def eCallN (g : Fn) (n : Nat) (as : SA) : SE := fun L S => (as L S).bind fun vs S1 => match allD vs with
  | some ds => if vs.length = n then newF (g (ds.map Val.d) []) S1 else .bad
  | none => .bad
theorem allD_len : ∀ {vs : List Val} {ds : List D}, allD vs = some ds → ds.length = vs.length
  | [], ds, e => by cases e; rfl
  | .d x :: vs, ds, e => by
    unfold allD at e
    cases e1 : allD vs with
    | none => rw [e1] at e; cases e
    | some es => rw [e1] at e; cases e; simp [allD_len e1]
  | .ref n :: vs, ds, e => by cases e
  | .vt n :: vs, ds, e => by cases e
  | .exc .. :: vs, ds, e => by cases e
theorem callN_ {n : Nat} {g : Fn} (h : PE X e (tCallS (spF G n g) (WE W) (tA' G W as))) : PE X e (tE G W (eCallN g n as)) := PE.imp h fun σ H Q ⟨F, A, ρ, L, S, l, r0, q⟩ => by
  refine ⟨F, A, ρ, L, S, l, r0, EvOk.bind q fun vs S1 A1 ρ1 H1 x1 r1 q1 ws rws => ?_⟩
  split at q1
  · rename_i ds ed
    split at q1
    · rename_i c
      refine ⟨fun _ => False, A1, [], ds.map Val.d, [], repVs_d (allD_rep rws ed), ?_, RS.empty r1.trk, ?_⟩
      · rw [List.length_map, allD_len ed]; exact c
      · revert q1
        cases g (ds.map Val.d) [] with
        | bad => exact fun q => q
        | ex y S' =>
          intro q A' ρ' H' cls d x2 r2 rx
          obtain ⟨x3, r3⟩ := r1.same x2.keep0 (fun _ h => h) (fun _ h => .inl h) fun a h => let ⟨o, e⟩ := r1.trk a h; ⟨o, x2.keep0 a o e⟩
          exact q A1 ρ1 H' cls d x3 r3 rx
        | ok v S' =>
          intro q A' ρ' H' x2 r2 w rw
          obtain ⟨x3, r3⟩ := r1.join x2 r2
          rw [r1.len] at r3
          refine q A' (ρ1 ++ ρ') H' x3 r3 w ?_
          rw [← r1.len]
          exact shift_rep v w rw
    · exact q1.elim
  · exact q1.elim
end Ev
set_option linter.all false
set_option Elab.async false
set_option maxRecDepth 100000
namespace Ev
open PySem L2 PySem.Spec
variable {F F1 A A1 A2 : Addr → Prop} {ρ ρ1 ρ2 : List Addr} {H H1 H2 : Hp} {K : PySem.W.Frag} {G : PC} {S S1 S2 : Store} {X : Cx} {W : WX}
variable {a b c e : Expr} {es : List Expr} {fa fb fc : SE} {as : SA} {pos : Pos}

/-! ### targets -/
abbrev SG := Val → Loc → Option Loc
abbrev SGs := List Val → Loc → Option Loc
def tG (G : PC) (g : SG) : TG := fun v σ H Q => ∃ A ρ L w, RL G.K A H ρ L σ ∧ RepV G.K A H ρ w v ∧ ∃ L', g w L = some L' ∧ ∀ σ', RL G.K A H ρ L' σ' → Q σ' H
def tGs (G : PC) (g : SGs) : TGs := fun v σ H Q => ∃ A ρ L w, RL G.K A H ρ L σ ∧ RepVs G.K A H ρ w v ∧ ∃ L', g w L = some L' ∧ ∀ σ', RL G.K A H ρ L' σ' → Q σ' H
theorem PG.imp {t t' : TG} (h : PG X e t) (i : ∀ v σ H Q, t' v σ H Q → t v σ H Q) : PG X e t' := ⟨fun pins s σ H v u Q I r q => h.run pins s σ H v u Q I r (i v σ H Q q)⟩
theorem PGs.imp {t t' : TGs} (h : PGs X es t) (i : ∀ v σ H Q, t' v σ H Q → t v σ H Q) : PGs X es t' := ⟨fun pins s σ H v u Q I r q => h.run pins s σ H v u Q I r (i v σ H Q q)⟩
def gN (i : Nat) : SG := fun w L => some (L.set i (some w))
theorem gN_t {i : Nat} : ∀ v σ H Q, tG G (gN i) v σ H Q → gName i v σ H Q := fun v σ H Q ⟨A, ρ, L, w, l, rw, L', e, q⟩ => by
  cases e
  exact q _ (l.set i rw)
theorem gN_ {i : Nat} (h : PG X e (gName i)) : PG X e (tG G (gN i)) := PG.imp h gN_t
def gsN : SGs := fun ws L => match ws with
  | [] => some L
  | _ => none
def gsC (g : SG) (gs : SGs) : SGs := fun ws L => match ws with
  | w :: r => (g w L).bind (gs r)
  | [] => none
theorem gsN_ : PGs X [] (tGs G gsN) := PGs.imp pgs_nil fun v σ H Q ⟨A, ρ, L, w, l, rw, L', e, q⟩ => by
  cases w with
  | nil => cases e; exact ⟨rw, q σ l⟩
  | cons _ _ => cases e
theorem gsC_ {g : SG} {gs : SGs} (h : PGs X es (gCons (tG G g) (tGs G gs))) : PGs X es (tGs G (gsC g gs)) := PGs.imp h fun v σ H Q ⟨A, ρ, L, w, l, rw, L', e, q⟩ => by
  cases w with
  | nil => cases e
  | cons w r =>
    obtain ⟨v', t, rfl, p, p2⟩ := rw
    unfold gsC at e
    simp only at e
    cases e1 : g w L with
    | none => rw [e1] at e; cases e
    | some L1 =>
      rw [e1] at e
      exact ⟨v', t, rfl, A, ρ, L, w, l, p, L1, e1, fun σ' l' => ⟨A, ρ, L1, r, l', p2, L', e, q⟩⟩
def unp : Val → Option (List Val)
  | .d (.tup ds) => some (ds.map .d)
  | .vt vs => some vs
  | _ => none
def gT (n : Nat) (gs : SGs) : SG := fun w L => match unp w with
  | some vs => if vs.length = n then gs vs L else none
  | none => none
theorem unp_rep {w : Val} {vs : List Val} {v : V} (h : RepV K A H ρ w v) (e : unp w = some vs) : ∃ a ws, v = .ref a ∧ SqT K H a ws ∧ RepVs K A H ρ vs ws := by
  cases w with
  | d x => cases x with
    | tup ds =>
      cases e
      obtain ⟨a, ws, rfl, q, p⟩ := h
      exact ⟨a, ws, rfl, q, repVs_d p⟩
    | _ => cases e
  | vt us =>
    cases e
    obtain ⟨a, ws, rfl, q, p⟩ := h
    exact ⟨a, ws, rfl, q, p⟩
  | ref n => cases e
  | exc _ _ _ _ => cases e
theorem gT_ {gs : SGs} {n : Nat} (hK : X.K = G.K) (h : PG X e (gTup X.K n (tGs G gs))) : PG X e (tG G (gT n gs)) := PG.imp h fun v σ H Q ⟨A, ρ, L, w, l, rw, L', e, q⟩ => by
  unfold gT at e
  split at e
  · rename_i vs e1
    split at e
    · rename_i c
      obtain ⟨a, ws, rfl, sq, p⟩ := unp_rep rw e1
      exact ⟨a, ws, rfl, hK ▸ sq, p.len.trans c, A, ρ, L, vs, l, p, L', e, q⟩
    · cases e
  · cases e

/-! ### statements -/
section
variable {st : Stmt} {sts : List Stmt} {f g : SS}
def sNx : SS := fun L S => .nx L S
def sSeq (f g : SS) : SS := fun L S => match f L S with
  | .nx L1 S1 => g L1 S1
  | r => r
def sBad : SS := fun _ _ => .bad
def sBk : SS := fun L S => .bk L S
def sCt : SS := fun L S => .ct L S
def R.to {α : Type} (r : R α) (L : Loc) (k : α → Store → SR) : SR := match r with
  | .ok v S1 => k v S1
  | .ex x S1 => .ex x L S1
  | .bad => .bad
def sEx (e : SE) : SS := fun L S => (e L S).to L fun _ S1 => .nx L S1
def sRt (e : SE) : SS := fun L S => (e L S).to L fun v S1 => .rt v S1
def sRtN : SS := fun _ S => .rt (.d .non) S
def sIf (c : SB) (f g : SS) : SS := fun L S => (c L S).to L fun b S1 => if b = true then f L S1 else g L S1
def sAsg (e : SE) (g : SG) : SS := fun L S => (e L S).to L fun v S1 => match g v L with
  | some L1 => .nx L1 S1
  | none => .bad
theorem st_ok {α : Type} {D : Ends} {r : R α} {L : Loc} {σ : St} {k : α → Store → SR} {P : (Addr → Prop) → List Addr → Hp → α → Prop} (r0 : RS G F A ρ S H) (l : RL G.K A H ρ L σ) (q : StOk G F W D A ρ H (r.to L k))
    (h : ∀ v S' A' ρ' H', Ext F A ρ H A' ρ' H' → RS G F A' ρ' S' H' → StOk G F W D A' ρ' H' (k v S') → P A' ρ' H' v) : EvOk G F P (fun cls d H' => W cls d σ H') A ρ H r := by
  cases r with
  | bad => exact q.elim
  | ok v S' => exact fun A' ρ' H' x r' => h v S' A' ρ' H' x r' (StOk.shift x q)
  | ex y S' => exact fun A' ρ' H' cls d x r' rx => q A' ρ' H' σ cls d x r' (l.mv x r0) rx
theorem nx_ (h : PS X st tNext) : PS X st (tS G W sNx) := PS.imp h fun D σ H ⟨F, A, ρ, L, S, l, r, q⟩ => q A ρ H σ Ext.refl r l
theorem nil_ : PSs X [] (tS G W sNx) := PSs.imp pss_nil fun D σ H ⟨F, A, ρ, L, S, l, r, q⟩ => q A ρ H σ Ext.refl r l
theorem bk_ (h : PS X st tBreak) : PS X st (tS G W sBk) := PS.imp h fun D σ H ⟨F, A, ρ, L, S, l, r, q⟩ => q A ρ H σ Ext.refl r l
theorem ct_ (h : PS X st tCont) : PS X st (tS G W sCt) := PS.imp h fun D σ H ⟨F, A, ρ, L, S, l, r, q⟩ => q A ρ H σ Ext.refl r l
theorem bad_ : PS X st (tS G W sBad) := PS.imp ps_never fun D σ H ⟨F, A, ρ, L, S, l, r, q⟩ => q.elim
theorem seq_ (h1 : PS X st (tS G W f)) (h2 : PSs X sts (tS G W g)) : PSs X (st :: sts) (tS G W (sSeq f g)) := PSs.imp (pss_cons h1 h2) fun D σ H ⟨F, A, ρ, L, S, l, r, q⟩ => by
  refine ⟨F, A, ρ, L, S, l, r, ?_⟩
  unfold sSeq at q
  revert q
  cases f L S with
  | nx L1 S1 => exact fun q A' ρ' H' σ' x r' l' => ⟨F, A', ρ', L1, S1, l', r', StOk.shift x q⟩
  | rt v S1 => exact fun q => q
  | bk L1 S1 => exact fun q => q
  | ct L1 S1 => exact fun q => q
  | ex x L1 S1 => exact fun q => q
  | bad => exact fun q => q
theorem one_ (h : PS X st (tS G W f)) : PSs X [st] (tS G W f) := pss_one h
theorem ex_ (h : PS X st (tDrop (tE G W fa))) : PS X st (tS G W (sEx fa)) := PS.imp h fun D σ H ⟨F, A, ρ, L, S, l, r, q⟩ =>
  ⟨F, A, ρ, L, S, l, r, st_ok r l q fun v S' A' ρ' H' x r' q' w rw => q' A' ρ' H' σ Ext.refl r' (l.mv x r)⟩
theorem rt_ (h : PS X st (tRet (tE G W fa))) : PS X st (tS G W (sRt fa)) := PS.imp h fun D σ H ⟨F, A, ρ, L, S, l, r, q⟩ =>
  ⟨F, A, ρ, L, S, l, r, st_ok r l q fun v S' A' ρ' H' x r' q' w rw => q' A' ρ' H' w Ext.refl r' rw⟩
theorem rtN_ (h : PS X st tRetN) : PS X st (tS G W sRtN) := PS.imp h fun D σ H ⟨F, A, ρ, L, S, l, r, q⟩ => q A ρ H .non Ext.refl r rfl
theorem sif_ {c : Expr} {x y : List Stmt} {f : SB} {g h : SS} {pos : Pos} (hc : PT X c (tB' G W f)) (hx : PSs X x (tS G W g)) (hy : PSs X y (tS G W h)) : PS X (.If c x y pos) (tS G W (sIf f g h)) := PS.imp (ps_if hc hx hy) fun D σ H ⟨F, A, ρ, L, S, l, r, q⟩ => by
  refine ⟨F, A, ρ, L, S, l, r, st_ok r l q fun b S' A' ρ' H' x r' q' => ?_⟩
  cases b with
  | true => exact ⟨F, A', ρ', L, S', l.mv x r, r', q'⟩
  | false => exact ⟨F, A', ρ', L, S', l.mv x r, r', q'⟩
theorem asg_ {g : SG} (h : PS X st (tAsg (tE G W fa) (tG G g))) : PS X st (tS G W (sAsg fa g)) := PS.imp h fun D σ H ⟨F, A, ρ, L, S, l, r, q⟩ => by
  refine ⟨F, A, ρ, L, S, l, r, st_ok r l q fun v S' A' ρ' H' x r' q' w rw => ?_⟩
  split at q'
  · rename_i L1 e
    exact ⟨A', ρ', L, v, l.mv x r, rw, L1, e, fun σ' l' => q' A' ρ' H' σ' Ext.refl r' l'⟩
  · exact q'.elim
theorem set_ {i : Nat} (h : PS X st (tAsg (tE G W fa) (gName i))) : PS X st (tS G W (sAsg fa (gN i))) := PS.imp h fun D σ H ⟨F, A, ρ, L, S, l, r, q⟩ =>
  ⟨F, A, ρ, L, S, l, r, st_ok r l q fun v S' A' ρ' H' x r' q' w rw => q' A' ρ' H' _ Ext.refl r' ((l.mv x r).set i rw)⟩
end

/-! ### what is walked -/
def ItRep0 (K : PySem.W.Frag) (F A : Addr → Prop) (ρ : List Addr) (H : Hp) (J : It) (ds : List D) : Prop := ∃ vs, RepDs K A H ds vs ∧ ∀ A2 ρ2 H2, Ext F A ρ H A2 ρ2 H2 →
  (∀ i, i < vs.length → J.go i H2) ∧ (∀ i, vs.length ≤ i → J.stop i H2) ∧ ∀ i x H3, i < vs.length → J.yld i H2 x H3 → H3 = H2 ∧ vs[i]? = some x
/-- what is walked yields fresh tuples -/
def ItRepT (K : PySem.W.Frag) (F A : Addr → Prop) (ρ : List Addr) (H : Hp) (J : It) (ds : List D) : Prop := ∃ (dss : List (List D)) (vss : List (List V)), ds = dss.map D.tup ∧ vss.length = dss.length ∧ (∀ (i : Nat) (es : List D) (vs : List V), dss[i]? = some es → vss[i]? = some vs → RepDs K A H es vs) ∧ ∀ A2 ρ2 H2, Ext F A ρ H A2 ρ2 H2 →
  (∀ i, i < ds.length → J.go i H2) ∧ (∀ i, ds.length ≤ i → J.stop i H2) ∧ ∀ i x H3, i < ds.length → J.yld i H2 x H3 → ∃ T vs, x = .ref T ∧ H2 T = none ∧ H3 = upd H2 T (.tup vs) ∧ vss[i]? = some vs
def ItRep (K : PySem.W.Frag) (F A : Addr → Prop) (ρ : List Addr) (H : Hp) (J : It) (ds : List D) : Prop := ItRep0 K F A ρ H J ds ∨ ItRepT K F A ρ H J ds
theorem ItRep.use {J : It} {ds : List D} (r1 : RS G F A1 ρ1 S1 H1) (h : ItRep G.K F A1 ρ1 H1 J ds) {A' : Addr → Prop} {ρ' : List Addr} {S' : Store} {H' : Hp} (x' : Ext F A1 ρ1 H1 A' ρ' H') (r' : RS G F A' ρ' S' H') :
    (∀ i, i < ds.length → J.go i H') ∧ (∀ i, ds.length ≤ i → J.stop i H') ∧ ∀ i v H3 d, ds[i]? = some d → J.yld i H' v H3 → Ext F A' ρ' H' A' ρ' H3 ∧ RS G F A' ρ' S' H3 ∧ RepD G.K A' H3 d v := by
  rcases h with ⟨vs, rd, it⟩ | ⟨dss, vss, rfl, hl, rd, it⟩
  · have hl := rd.len
    obtain ⟨go, stop, yld⟩ := it A' ρ' H' x'
    refine ⟨fun i hi => go i (by omega), fun i hi => stop i (by omega), fun i v H3 d hd y => ?_⟩
    have hi : i < ds.length := (List.getElem?_eq_some_iff.mp hd).1
    obtain ⟨rfl, hv⟩ := yld i v H3 (by omega) y
    obtain ⟨v', e1, p⟩ := rd.get hd
    rw [hv] at e1; cases e1
    exact ⟨Ext.refl, r', p.mv x' r1⟩
  · obtain ⟨go, stop, yld⟩ := it A' ρ' H' x'
    refine ⟨go, stop, fun i v H3 d hd y => ?_⟩
    have hi := (List.getElem?_eq_some_iff.mp hd).1
    obtain ⟨T, vs, rfl, hT, rfl, hv⟩ := yld i v H3 hi y
    rw [List.getElem?_map] at hd
    cases he : dss[i]? with
    | none => rw [he] at hd; cases hd
    | some es =>
      rw [he] at hd
      cases hd
      obtain ⟨x3, r3⟩ := r'.laid hT (.tup vs)
      exact ⟨x3, r3, T, vs, rfl, SqT.of upd_same, RepDs.mv x3 r' es vs (RepDs.mv x' r1 es vs (rd i es vs he hv))⟩
abbrev SI := Loc → Store → R (List D)
def tI (G : PC) (W : WX) (f : SI) : TI := fun σ H Q => ∃ F A ρ L S, RL G.K A H ρ L σ ∧ RS G F A ρ S H ∧
  EvOk G F (fun A' ρ' H' ds => ∀ J, ItRep G.K F A' ρ' H' J ds → Q J H') (fun cls d H' => W cls d σ H') A ρ H (f L S)
theorem PI.imp {tg it : Expr} {t t' : TI} (h : PI X tg it t) (i : ∀ σ H Q, t' σ H Q → t σ H Q) : PI X tg it t' := ⟨fun pins s σ H R I q => h.run pins s σ H R I (i σ H R q)⟩
def iL (e : SE) : SI := fun L S => (e L S).bind fun v S1 => match v with
  | .d (.lst ds) => .ok ds S1
  | .d (.scr ns) => .ok (ns.map .int) S1
  | _ => .bad
def iT (e : SE) : SI := fun L S => (e L S).bind fun v S1 => match v with
  | .d (.tup ds) => .ok ds S1
  | _ => .bad
def iS (e : SE) : SI := fun L S => (e L S).bind fun v S1 => match v with
  | .d (.str x) => .ok (x.cps.toList.map fun c => .str ⟨#[c]⟩) S1
  | _ => .bad
def rng (lo : Int) (n : Nat) : List D := (List.range n).map fun (i : Nat) => .int (lo + i)
def iR1 (e : SE) : SI := fun L S => (e L S).bind fun v S1 => match v with
  | .d (.int j) => if -(2 ^ 62) ≤ j ∧ j < 2 ^ 62 then .ok (rng 0 j.toNat) S1 else .bad
  | _ => .bad
def iR2 (e e' : SE) : SI := fun L S => (e L S).bind fun v S1 => (e' L S1).bind fun w S2 => match v, w with
  | .d (.int i), .d (.int j) => if (-(2 ^ 62) ≤ i ∧ i < 2 ^ 62) ∧ -(2 ^ 62) ≤ j ∧ j < 2 ^ 62 then .ok (rng i (j - i).toNat) S2 else .bad
  | _, _ => .bad
theorem itl_rep {a : Addr} {ds : List D} {vs : List V} (h : RepDs K A H ds vs) (k : ∀ A2 ρ2 H2, Ext F A ρ H A2 ρ2 H2 → SqL K H2 a vs) : ItRep K F A ρ H (Itl K a) ds :=
  .inl ⟨vs, h, fun A2 ρ2 H2 x => ⟨fun i hi => ⟨vs, vs[i], k A2 ρ2 H2 x, List.getElem?_eq_getElem hi⟩, fun i hi => ⟨vs, k A2 ρ2 H2 x, hi⟩, fun i y H3 _ z => ⟨z.1, z.2 vs (k A2 ρ2 H2 x)⟩⟩⟩
theorem itt_rep {a : Addr} {ds : List D} {vs : List V} (h : RepDs K A H ds vs) (k : ∀ A2 ρ2 H2, Ext F A ρ H A2 ρ2 H2 → SqT K H2 a vs) : ItRep K F A ρ H (Itt K a) ds :=
  .inl ⟨vs, h, fun A2 ρ2 H2 x => ⟨fun i hi => ⟨vs, vs[i], k A2 ρ2 H2 x, List.getElem?_eq_getElem hi⟩, fun i hi => ⟨vs, k A2 ρ2 H2 x, hi⟩, fun i y H3 _ z => ⟨z.1, z.2 vs (k A2 ρ2 H2 x)⟩⟩⟩
theorem ints_rep : ∀ ns : List Int, RepDs K A H (ns.map D.int) (ns.map V.int)
  | [] => rfl
  | n :: r => ⟨_, _, rfl, rfl, ints_rep r⟩
theorem iL_t : ∀ σ H Q, tI G W (iL fa) σ H Q → iList G.K (tE G W fa) σ H Q := fun σ H Q ⟨F, A, ρ, L, S, l, r, q⟩ => by
  refine ⟨F, A, ρ, L, S, l, r, EvOk.bind q fun v S1 A1 ρ1 H1 x1 r1 q1 w rw1 => ?_⟩
  split at q1
  · rename_i ds
    obtain ⟨a, vs, rfl, e1, na, p⟩ := rw1
    exact ⟨a, rfl, ⟨vs, SqL.of e1⟩, q1 A1 ρ1 H1 Ext.refl r1 _ (itl_rep p fun A2 ρ2 H2 x => SqL.of (x.fr a _ (fun z => (na (r1.sub a z)).elim) e1))⟩
  · rename_i ns
    obtain ⟨a, rfl, p⟩ := rw1
    refine ⟨a, rfl, ⟨ns.map V.int, p.elim (fun p => .inl p.1) fun p => p H1⟩, q1 A1 ρ1 H1 Ext.refl r1 _ (itl_rep (ints_rep ns) fun A2 ρ2 H2 x => ?_)⟩
    rcases p with ⟨p, na⟩ | p
    · exact .inl (x.rd (fun z => (na (r1.sub a z)).elim) p)
    · exact p H2
  · exact q1.elim
theorem iL_ {tg : Expr} (hK : X.K = G.K) (h : PI X tg e (iList X.K (tE G W fa))) : PI X tg e (tI G W (iL fa)) := PI.imp h fun σ H Q q => hK ▸ iL_t σ H Q q
theorem iT_ {tg : Expr} (hK : X.K = G.K) (h : PI X tg e (iTup X.K (tE G W fa))) : PI X tg e (tI G W (iT fa)) := PI.imp h fun σ H Q ⟨F, A, ρ, L, S, l, r, q⟩ => by
  refine ⟨F, A, ρ, L, S, l, r, EvOk.bind q fun v S1 A1 ρ1 H1 x1 r1 q1 w rw1 => ?_⟩
  rw [hK]
  split at q1
  · rename_i ds
    obtain ⟨a, vs, rfl, e1, p⟩ := rw1
    exact ⟨a, rfl, ⟨vs, e1⟩, q1 A1 ρ1 H1 Ext.refl r1 _ (itt_rep p fun A2 ρ2 H2 x => x.sqT r1.noTup e1)⟩
  · exact q1.elim
theorem rng_rep (lo : Int) (n : Nat) : RepDs K A H (rng lo n) ((List.range n).map fun (i : Nat) => V.int (lo + (i : Nat))) := by
  unfold rng
  have all : ∀ ks : List Nat, RepDs K A H (ks.map fun (i : Nat) => D.int (lo + (i : Nat))) (ks.map fun (i : Nat) => V.int (lo + (i : Nat))) := fun ks => by
    induction ks with
    | nil => rfl
    | cons k r ih => exact ⟨_, _, rfl, rfl, ih⟩
  exact all _
theorem itr_rep (lo : Int) (n : Nat) : ItRep K F A ρ H (Itr lo n) (rng lo n) :=
  .inl ⟨_, rng_rep lo n, fun A2 ρ2 H2 x => ⟨fun i hi => (show i < n by simpa using hi), fun i hi => (show n ≤ i by simpa using hi), fun i y H3 hi z => ⟨z.1, by
    have hi : i < n := by simpa using hi
    rw [z.2, List.getElem?_map, List.getElem?_range hi]; rfl⟩⟩⟩
theorem iR1_ {tg : Expr} (h : PI X tg e (iRng1 (tCons (tE G W fa) tNil))) : PI X tg e (tI G W (iR1 fa)) := PI.imp h fun σ H Q ⟨F, A, ρ, L, S, l, r, q⟩ => by
  refine ⟨F, A, ρ, L, S, l, r, EvOk.bind q fun v S1 A1 ρ1 H1 x1 r1 q1 w rw1 => ?_⟩
  split at q1
  · rename_i j
    split at q1
    · rename_i c
      rw [show w = _ from rw1]
      exact ⟨j, rfl, c.1, c.2, q1 A1 ρ1 H1 Ext.refl r1 _ (itr_rep 0 j.toNat)⟩
    · exact q1.elim
  · exact q1.elim
theorem iR2_ {tg : Expr} (h : PI X tg e (iRng2 (tCons (tE G W fa) (tCons (tE G W fb) tNil)))) : PI X tg e (tI G W (iR2 fa fb)) := PI.imp h fun σ H Q ⟨F, A, ρ, L, S, l, r, q⟩ => by
  refine ⟨F, A, ρ, L, S, l, r, EvOk.bind q fun v S1 A1 ρ1 H1 x1 r1 q1 w rw1 => ?_⟩
  refine ⟨F, A1, ρ1, L, S1, l.mv x1 r, r1, EvOk.bind q1 fun v2 S2 A2 ρ2 H2 x2 r2 q2 w2 rw2 => ?_⟩
  split at q2
  · rename_i i j
    split at q2
    · rename_i c
      rw [show w = _ from rw1, show w2 = _ from rw2]
      exact ⟨i, j, rfl, ⟨c.1.1, c.1.2, c.2.1, c.2.2⟩, q2 A2 ρ2 H2 Ext.refl r2 _ (itr_rep i (j - i).toNat)⟩
    · exact q2.elim
  · exact q2.elim
theorem iS_ {tg : Expr} (h : PI X tg e (iStr (tE G W fa))) : PI X tg e (tI G W (iS fa)) := PI.imp h fun σ H Q ⟨F, A, ρ, L, S, l, r, q⟩ => by
  refine ⟨F, A, ρ, L, S, l, r, EvOk.bind q fun v S1 A1 ρ1 H1 x1 r1 q1 w rw1 => ?_⟩
  split at q1
  · rename_i x
    refine ⟨x, rw1, q1 A1 ρ1 H1 Ext.refl r1 _ <| .inl ⟨x.cps.toList.map fun c => V.str ⟨#[c]⟩, ?_, fun A2 ρ2 H2 y => ⟨fun i hi => ?_, fun i hi => ?_, fun i z H3 _ q => ⟨q.1, ?_⟩⟩⟩⟩
    · have all : ∀ cs : List Nat, RepDs G.K A1 H1 (cs.map fun c => D.str ⟨#[c]⟩) (cs.map fun c => V.str ⟨#[c]⟩) := fun cs => by
        induction cs with
        | nil => rfl
        | cons k r ih => exact ⟨_, _, rfl, rfl, ih⟩
      exact all _
    · show i < x.cps.size
      simpa using hi
    · show x.cps.size ≤ i
      simpa using hi
    · obtain ⟨_, c, e, rfl⟩ := q
      rw [List.getElem?_map]
      simp [e]
  · exact q1.elim
end Ev
set_option linter.all false
set_option Elab.async false
set_option maxRecDepth 100000
namespace Ev
open PySem L2 PySem.Spec
variable {F F1 A A1 A2 : Addr → Prop} {ρ ρ1 ρ2 : List Addr} {H H1 H2 : Hp} {K : PySem.W.Frag} {G : PC} {S S1 S2 : Store} {X : Cx} {W : WX}
variable {a b c e : Expr} {es : List Expr} {fa fb fc : SE} {as : SA} {pos : Pos} {st : Stmt}

/-! ### for -/
def forL (g : SG) (b : SS) : List D → SS
  | [] => fun L S => .nx L S
  | d :: ds => fun L S => match g (.d d) L with
    | none => .bad
    | some L1 => match b L1 S with
      | .nx L2 S2 => forL g b ds L2 S2
      | .ct L2 S2 => forL g b ds L2 S2
      | .bk L2 S2 => .nx L2 S2
      | r => r
def sFor (f : SI) (g : SG) (b : SS) : SS := fun L S => (f L S).to L fun ds S1 => forL g b ds L S1
theorem for_ {f : SI} {g : SG} {b : SS} (h : PS X st (tFor (tI G W f) (tG G g) (tS G W b))) : PS X st (tS G W (sFor f g b)) := PS.imp h fun D σ H ⟨F, A, ρ, L, S, l, r, q⟩ => by
  refine ⟨F, A, ρ, L, S, l, r, st_ok r l q fun ds S1 A1 ρ1 H1 x1 r1 q1 J it => ?_⟩
  refine ⟨fun i m σ' H' => i ≤ ds.length ∧ m = ds.length - i ∧ ∃ A' ρ' L' S', Ext F A1 ρ1 H1 A' ρ' H' ∧ RL G.K A' H' ρ' L' σ' ∧ RS G F A' ρ' S' H' ∧ StOk G F W D A' ρ' H' (forL g b (ds.drop i) L' S'), ⟨ds.length, Nat.zero_le _, rfl, A1, ρ1, L, S1, Ext.refl, l.mv x1 r, r1, q1⟩, ?_⟩
  rintro i m σ' H' ⟨hi, rfl, A', ρ', L', S', x', l', r', q'⟩
  obtain ⟨go, stop, yld⟩ := it.use r1 x' r'
  by_cases e : i = ds.length
  · left
    refine ⟨stop i (Nat.le_of_eq e.symm), ?_⟩
    rw [List.drop_eq_nil_of_le (by omega)] at q'
    exact q' A' ρ' H' σ' Ext.refl r' l'
  · right
    have hi' : i < ds.length := by omega
    refine ⟨go i hi', _, fun σ2 H2 z => ⟨ds.length - (i + 1), by omega, z⟩, fun v H3 y => ?_⟩
    have hd : i < ds.length := by omega
    obtain ⟨x3, r3, p⟩ := yld i v H3 _ (List.getElem?_eq_getElem hd) y
    have l' := l'.mv x3 r'
    have x' := x'.trans x3
    have q' := StOk.shift x3 q'
    have r' := r3
    rw [List.drop_eq_getElem_cons hd] at q'
    have q2 : StOk G F W D A' ρ' H3 (match g (.d ds[i]) L' with
      | none => .bad
      | some L1 => match b L1 S' with
        | .nx L2 S2 => forL g b (ds.drop (i + 1)) L2 S2
        | .ct L2 S2 => forL g b (ds.drop (i + 1)) L2 S2
        | .bk L2 S2 => .nx L2 S2
        | r => r) := q'
    cases eg : g (.d ds[i]) L' with
    | none => rw [eg] at q2; exact q2.elim
    | some L1 =>
      rw [eg] at q2
      refine ⟨A', ρ', L', .d ds[i], l', p, L1, eg, fun σ2 l2 => ⟨F, A', ρ', L1, S', l2, r', ?_⟩⟩
      revert q2
      show StOk G F W D A' ρ' H3 (match b L1 S' with
        | .nx L2 S2 => forL g b (ds.drop (i + 1)) L2 S2
        | .ct L2 S2 => forL g b (ds.drop (i + 1)) L2 S2
        | .bk L2 S2 => .nx L2 S2
        | r => r) → _
      cases b L1 S' with
      | nx L2 S2 => exact fun q A4 ρ4 H4 σ4 x4 r4 l4 => ⟨by omega, rfl, A4, ρ4, L2, S2, x'.trans x4, l4, r4, StOk.shift x4 q⟩
      | ct L2 S2 => exact fun q A4 ρ4 H4 σ4 x4 r4 l4 => ⟨by omega, rfl, A4, ρ4, L2, S2, x'.trans x4, l4, r4, StOk.shift x4 q⟩
      | bk L2 S2 => exact fun q => q
      | rt v S2 => exact fun q => q
      | ex y L2 S2 => exact fun q => q
      | bad => exact fun q => q

/-! ### comprehensions -/
theorem wipe_in {σ : St} {i : Nat} : ∀ {vs : List Nat}, i ∈ vs → (wipe σ vs)[i]? = if i < σ.length then some none else none
  | v :: vs, h => by
    unfold wipe
    by_cases e : i = v
    · subst e
      by_cases hl : i < σ.length
      · rw [if_pos hl, List.getElem?_set_self (by rw [wipe_length]; exact hl)]
      · rw [if_neg hl]
        exact List.getElem?_eq_none (by rw [List.length_set, wipe_length]; omega)
    · rw [List.getElem?_set_ne (Ne.symm e), wipe_in (by
        rcases List.mem_cons.mp h with h | h
        · exact (e h).elim
        · exact h)]
theorem wipe_outE {σ : St} {i : Nat} : ∀ {vs : List Nat}, i ∉ vs → (wipe σ vs)[i]? = σ[i]?
  | [], _ => rfl
  | v :: vs, h => by
    unfold wipe
    rw [List.getElem?_set_ne (fun e => h (by rw [e]; exact List.mem_cons_self)), wipe_outE fun z => h (List.mem_cons_of_mem _ z)]
theorem wipe_setE {σ : St} {i : Nat} {x : Option V} {vs : List Nat} (h : i ∈ vs) : wipe (σ.set i x) vs = wipe σ vs := by
  apply List.ext_getElem?
  intro j
  by_cases hj : j ∈ vs
  · rw [wipe_in hj, wipe_in hj, List.length_set]
  · rw [wipe_outE hj, wipe_outE hj, List.getElem?_set_ne (by rintro rfl; exact hj h)]
theorem wipe_wipe {σ : St} {vs : List Nat} : wipe (wipe σ vs) vs = wipe σ vs := by
  apply List.ext_getElem?
  intro j
  by_cases hj : j ∈ vs
  · rw [wipe_in hj, wipe_in hj, wipe_length]
  · rw [wipe_outE hj]
def wipeL (L : Loc) : List Nat → Loc
  | [] => L
  | v :: vs => (wipeL L vs).set v none
theorem RL.wipe {L : Loc} {σ : St} (h : RL K A H ρ L σ) : ∀ vs : List Nat, RL K A H ρ (wipeL L vs) (wipe σ vs)
  | [] => h
  | v :: vs => (RL.wipe h vs).unset v none
/-- a target of a comprehension: its slots are among vs -/
def tGw (G : PC) (vs : List Nat) (g : SG) : TG := fun v σ H Q => ∃ A ρ L w, RL G.K A H ρ L σ ∧ RepV G.K A H ρ w v ∧ ∃ L', g w L = some L' ∧ ∀ σ', RL G.K A H ρ L' σ' → wipe σ' vs = wipe σ vs → Q σ' H
def tGws (G : PC) (vs : List Nat) (g : SGs) : TGs := fun v σ H Q => ∃ A ρ L w, RL G.K A H ρ L σ ∧ RepVs G.K A H ρ w v ∧ ∃ L', g w L = some L' ∧ ∀ σ', RL G.K A H ρ L' σ' → wipe σ' vs = wipe σ vs → Q σ' H
theorem gNw_ {i : Nat} {vs : List Nat} (hi : i ∈ vs) (h : PG X e (gName i)) : PG X e (tGw G vs (gN i)) := PG.imp h fun v σ H Q ⟨A, ρ, L, w, l, rw, L', e, q⟩ => by
  cases e
  exact q _ (l.set i rw) (wipe_setE hi)
theorem gsNw_ {vs : List Nat} : PGs X [] (tGws G vs gsN) := PGs.imp pgs_nil fun v σ H Q ⟨A, ρ, L, w, l, rw, L', e, q⟩ => by
  cases w with
  | nil => cases e; exact ⟨rw, q σ l rfl⟩
  | cons _ _ => cases e
theorem gsCw_ {g : SG} {gs : SGs} {vs : List Nat} (h : PGs X es (gCons (tGw G vs g) (tGws G vs gs))) : PGs X es (tGws G vs (gsC g gs)) := PGs.imp h fun v σ H Q ⟨A, ρ, L, w, l, rw, L', e, q⟩ => by
  cases w with
  | nil => cases e
  | cons w r =>
    obtain ⟨v', t, rfl, p, p2⟩ := rw
    unfold gsC at e
    simp only at e
    cases e1 : g w L with
    | none => rw [e1] at e; cases e
    | some L1 =>
      rw [e1] at e
      exact ⟨v', t, rfl, A, ρ, L, w, l, p, L1, e1, fun σ' l' w1 => ⟨A, ρ, L1, r, l', p2, L', e, fun σ2 l2 w2 => q σ2 l2 (w2.trans w1)⟩⟩
theorem gTw_ {gs : SGs} {n : Nat} {vs : List Nat} (hK : X.K = G.K) (h : PG X e (gTup X.K n (tGws G vs gs))) : PG X e (tGw G vs (gT n gs)) := PG.imp h fun v σ H Q ⟨A, ρ, L, w, l, rw, L', e, q⟩ => by
  unfold gT at e
  split at e
  · rename_i us e1
    split at e
    · rename_i c
      obtain ⟨a, ws, rfl, sq, p⟩ := unp_rep rw e1
      exact ⟨a, ws, rfl, hK ▸ sq, p.len.trans c, A, ρ, L, us, l, p, L', e, q⟩
    · cases e
  · cases e
def R.nox {α : Type} (r : R α) : R α := match r with
  | .ex _ _ => .bad
  | r => r
theorem EvOk.nox {α : Type} {P : (Addr → Prop) → List Addr → Hp → α → Prop} {E E' : Value → Option Addr → Hp → Prop} : ∀ {r : R α}, EvOk G F P E A ρ H r.nox → EvOk G F P E' A ρ H r
  | .ok v S, q => q
  | .ex y S, q => q.elim
  | .bad, q => q
theorem EvOk.bind0 {α β : Type} {P : (Addr → Prop) → List Addr → Hp → β → Prop} {P1 : (Addr → Prop) → List Addr → Hp → α → Prop} {E : Value → Option Addr → Hp → Prop} {k : α → Store → R β} (y : Ext F A ρ H A1 ρ1 H1) :
    ∀ {r : R α}, EvOk G F P E A ρ H (r.bind k) → (∀ v S' A' ρ' H', Ext F A1 ρ1 H1 A' ρ' H' → RS G F A' ρ' S' H' → EvOk G F P E A ρ H (k v S') → P1 A' ρ' H' v) → EvOk G F P1 E A1 ρ1 H1 r
  | .ok v S', q, h => fun A' ρ' H' x r => h v S' A' ρ' H' x r q
  | .ex e S', q, _ => fun A' ρ' H' c d x r z => q A' ρ' H' c d (y.trans x) r z
  | .bad, q, _ => q
def compL (g : SG) (t : SB) (e : SE) (Lw : Loc) : List D → List D → Store → R (List D)
  | [], acc, S => .ok acc S
  | d :: ds, acc, S => match g (.d d) Lw with
    | none => .bad
    | some L1 => (t L1 S).nox.bind fun b S1 => if b = true then (e L1 S1).nox.bind fun v S2 => match v with
      | .d x => compL g t e Lw ds (acc ++ [x]) S2
      | _ => .bad else compL g t e Lw ds acc S1
def bYes : SB := fun _ S => .ok true S
def eComp (f : SI) (g : SG) (t : SB) (e : SE) (vs : List Nat) : SE := fun L S => (f L S).bind fun ds S1 => if ds.length ≤ sizeLine then (compL g t e (wipeL L vs) ds [] S1).bind fun acc S2 => .ok (.d (.lst acc)) S2 else .bad
/-- the list that a comprehension makes is changed -/
theorem RS.poke (r : RS G F A ρ S H) {p : Addr} {acc : List D} {vacc vs : List V} (np : p ∉ ρ) (hA : A p) (e : H p = some (.lst vacc)) (rd : RepDs G.K A H acc vacc) :
    RS G F A ρ S (upd H p (.lst vs)) ∧ (∀ ds us, RepDs G.K A H ds us → RepDs G.K A (upd H p (.lst vs)) ds us) ∧ ∀ {A0 : Addr → Prop} {ρ0 : List Addr} {H0 : Hp}, H0 p = none → Ext F A0 ρ0 H0 A ρ H → Ext F A0 ρ0 H0 A ρ (upd H p (.lst vs)) := by
  have rp : RS G (fun _ => False) A [p] [.lst acc] H := by
    refine ⟨fun a h => ?_, r.trk, by simp, rfl, fun a h => ?_, fun _ h => h.elim, fun n a c e1 e2 => ?_, fun n c e1 => ?_⟩
    · rw [List.mem_singleton.mp h]; exact hA
    · rw [List.mem_singleton.mp h]; exact ⟨_, e, True.intro⟩
    · refine ⟨fun z => z.elim, fun z => ?_⟩
      cases n with
      | zero => cases e2; exact z
      | succ n => cases e2
    · cases n with
      | zero => cases e1; exact ⟨p, rfl, vacc, e, rd⟩
      | succ n => cases e1
  have xp : Ext (fun _ => False) A [p] H A [p] (upd H p (.lst vs)) := by
    refine ⟨List.prefix_refl _, fun a o h1 h2 => ?_, fun a h => ?_, fun a h => h, fun a h => .inl h, fun a h => .inl h⟩
    · rw [upd_ne (fun z => h1 (by rw [z]; simp))]; exact h2
    · by_cases z : a = p
      · rw [z, upd_same] at h; cases h
      · rw [upd_ne z] at h; exact h
  have k : ∀ a, a ≠ p → upd H p (.lst vs) a = H a := fun a h => upd_ne h
  have ne : ∀ a, a ∈ ρ → a ≠ p := fun a h z => np (z ▸ h)
  refine ⟨⟨r.sub, fun a h => ?_, r.nd, r.len, fun a h => ?_, r.fin, r.lk, fun n c e1 => ?_⟩, fun ds us h => RepDs.mv xp rp ds us h, fun {A0 ρ0 H0} h0 x => ⟨x.pre, fun a o h1 h2 => ?_, fun a h => ?_, x.up, x.nw, x.nr⟩⟩
  · by_cases z : a = p
    · rw [z]; exact ⟨_, upd_same⟩
    · rw [k a z]; exact r.trk a h
  · rw [k a (ne a h)]; exact r.own a h
  · obtain ⟨a, e2, q⟩ := r.cells n c e1
    exact ⟨a, e2, RepC.mv' xp rp.rn (List.prefix_refl _) (k a (ne a (List.mem_of_getElem? e2))) q⟩
  · rw [k a (fun z => by rw [z, h0] at h2; cases h2)]; exact x.fr a o h1 h2
  · by_cases z : a = p
    · rw [z]; exact h0
    · rw [k a z] at h; exact x.st a h
theorem comp_t {f : SI} {g : SG} {t : SB} {e : SE} {vs : List Nat} : ∀ σ H Q, tE G W (eComp f g t e vs) σ H Q →
    tLc (tI G W f) (tGw G vs g) (tB' G (fun _ _ _ _ => False) t) (tE G (fun _ _ _ _ => False) e) vs σ H Q := fun σ H Q ⟨F, A, ρ, L, S, l, r, q⟩ => by
  refine ⟨F, A, ρ, L, S, l, r, EvOk.bind q fun ds S1 A1 ρ1 H1 x1 r1 q1 J it p hp => ?_⟩
  split at q1
  · rename_i hz
    have l1 := l.mv x1 r
    have kk : ∀ a o, H1 a = some o → upd H1 p (.lst []) a = some o := fun a o h => by rw [upd_ne (ne_of_none h hp)]; exact h
    obtain ⟨x0, r0⟩ := r1.same (A1 := fun a => A1 a ∨ a = p) kk (fun _ h => .inl h) (fun a h => h.imp (fun h => h) fun h => by rw [h]; exact hp) fun a h => by
      rcases h with h | h
      · obtain ⟨o, e⟩ := r1.trk a h; exact ⟨o, kk a o e⟩
      · rw [h]; exact ⟨_, upd_same⟩
    have np0 : p ∉ ρ1 := fun z => by
      obtain ⟨o, e⟩ := r1.trk p (r1.sub p z)
      rw [hp] at e; cases e
    refine ⟨fun i m H' => i ≤ ds.length ∧ m = ds.length - i ∧ ∃ A' ρ' S' acc vacc, Ext F A1 ρ1 H1 A' ρ' H' ∧ RS G F A' ρ' S' H' ∧ A' p ∧ p ∉ ρ' ∧ H' p = some (.lst vacc) ∧ RepDs G.K A' H' acc vacc ∧ acc.length ≤ i ∧
      EvOk G F (fun A' ρ' H' v => ∀ w, RepV G.K A' H' ρ' v w → Q w H') (fun cls d H' => W cls d σ H') A1 ρ1 H1 ((compL g t e (wipeL L vs) (ds.drop i) acc S').bind fun acc S2 => .ok (.d (.lst acc)) S2),
      ⟨ds.length, Nat.zero_le _, rfl, _, ρ1, S1, [], [], x0, r0, .inr rfl, np0, upd_same, rfl, Nat.le_refl _, q1⟩, ?_⟩
    rintro i m H' ⟨hi, rfl, A', ρ', S', acc, vacc, x', r', hA, np, ea, ra, hacc, q'⟩
    obtain ⟨go, stop, yld⟩ := it.use r1 x' r'
    by_cases ei : i = ds.length
    · left
      refine ⟨stop i (Nat.le_of_eq ei.symm), ?_⟩
      rw [List.drop_eq_nil_of_le (by omega)] at q'
      have xd : Ext F A1 ρ1 H1 (fun a => A' a ∧ a ≠ p) ρ' H' := ⟨x'.pre, x'.fr, x'.st, fun a h => ⟨x'.up a h, fun z => by
        obtain ⟨o, e⟩ := r1.trk a h
        rw [z, hp] at e; cases e⟩, fun a h => x'.nw a h.1, x'.nr⟩
      have rdp : RS G F (fun a => A' a ∧ a ≠ p) ρ' S' H' := ⟨fun a h => ⟨r'.sub a h, fun z => np (z ▸ h)⟩, fun a h => r'.trk a h.1, r'.nd, r'.len, r'.own, r'.fin, r'.lk, fun n c e => by
        obtain ⟨a, e1, q⟩ := r'.cells n c e
        exact ⟨a, e1, q.weak fun _ h => h.1⟩⟩
      exact q' _ ρ' H' xd rdp (.ref p) ⟨p, vacc, rfl, ea, fun z => z.2 rfl, ra.weak fun _ h => h.1⟩
    · right
      have hi' : i < ds.length := by omega
      refine ⟨go i hi', _, fun H2 z => ⟨ds.length - (i + 1), by omega, z⟩, fun v H3 y => ?_⟩
      have hd : i < ds.length := by omega
      obtain ⟨x3, r3, pv⟩ := yld i v H3 _ (List.getElem?_eq_getElem hd) y
      have x' := x'.trans x3
      have ea := x3.fr p _ (fun z => (np z).elim) ea
      have ra := RepDs.mv x3 r' _ _ ra
      have r' := r3
      rw [List.drop_eq_getElem_cons hd] at q'
      unfold compL at q'
      cases eg : g (.d ds[i]) (wipeL L vs) with
      | none => rw [eg] at q'; exact q'.elim
      | some L1 =>
        rw [eg] at q'
        refine ⟨A', ρ', wipeL L vs, .d ds[i], (l1.mv x' r1).wipe vs, pv, L1, eg, fun σ2 l2 w2 => ⟨w2.trans wipe_wipe, F, A', ρ', L1, S', l2, r', ?_⟩⟩
        simp only at q'
        have q2 : EvOk G F (fun A' ρ' H' v => ∀ w, RepV G.K A' H' ρ' v w → Q w H') (fun cls d H' => W cls d σ H') A1 ρ1 H1 (((t L1 S').nox).bind fun b S1 => ((if b = true then (e L1 S1).nox.bind fun v S2 => match v with
            | .d x => compL g t e (wipeL L vs) (ds.drop (i + 1)) (acc ++ [x]) S2
            | _ => .bad else compL g t e (wipeL L vs) (ds.drop (i + 1)) acc S1) : R (List D)).bind fun acc S2 => .ok (.d (.lst acc)) S2) := by
          revert q'
          cases (t L1 S').nox with
          | ok b S2 => exact fun q => q
          | ex y S2 => exact fun q => q
          | bad => exact fun q => q
        refine EvOk.nox (EvOk.bind0 x' q2 fun b S3 A3 ρ3 H4 x3 r3 q3 => ?_)
        have np3 : p ∉ ρ3 := fun z => (x3.nr p z).elim np fun z => by rw [ea] at z; cases z
        have ea3 : H4 p = some (.lst vacc) := x3.fr p _ (fun z => (np z).elim) ea
        have ra3 := ra.mv x3 r'
        cases b with
        | false =>
          exact ⟨by omega, rfl, A3, ρ3, S3, acc, vacc, x'.trans x3, r3, x3.up p hA, np3, ea3, ra3, by omega, q3⟩
        | true =>
          refine ⟨F, A3, ρ3, L1, S3, l2.mv x3 r', r3, ?_⟩
          have q4 : EvOk G F (fun A' ρ' H' v => ∀ w, RepV G.K A' H' ρ' v w → Q w H') (fun cls d H' => W cls d σ H') A1 ρ1 H1 (((e L1 S3).nox).bind fun v S2 => ((match v with
              | .d x => compL g t e (wipeL L vs) (ds.drop (i + 1)) (acc ++ [x]) S2
              | _ => .bad) : R (List D)).bind fun acc S2 => .ok (.d (.lst acc)) S2) := by
            revert q3
            show EvOk G F _ _ A1 ρ1 H1 ((((e L1 S3).nox).bind _).bind _) → _
            cases (e L1 S3).nox with
            | ok b S2 => exact fun q => q
            | ex y S2 => exact fun q => q
            | bad => exact fun q => q
          refine EvOk.nox (EvOk.bind0 (x'.trans x3) q4 fun v S4 A4 ρ4 H5 x4 r4 q5 w rw => ?_)
          cases v with
          | d y =>
            have np4 : p ∉ ρ4 := fun z => (x4.nr p z).elim np3 fun z => by rw [ea3] at z; cases z
            have ea4 : H5 p = some (.lst vacc) := x4.fr p _ (fun z => (np3 z).elim) ea3
            have ra4 := ra3.mv x4 r3
            have hA4 := x4.up p (x3.up p hA)
            obtain ⟨r5, mv5, ex5⟩ := r4.poke (vs := vacc ++ [w]) np4 hA4 ea4 ra4
            refine ⟨vacc, ea4, ?_, by omega, rfl, A4, ρ4, S4, acc ++ [y], vacc ++ [w], ex5 hp ((x'.trans x3).trans x4), r5, hA4, np4, upd_same, mv5 _ _ (ra4.app (us := [w]) (es := [y]) ⟨w, [], rfl, rw, rfl⟩), ?_, q5⟩
            · rw [ra4.len]
              omega
            · rw [List.length_append, List.length_singleton]
              omega
          | ref n => exact q5.elim
          | vt n => exact q5.elim
          | exc _ _ _ _ => exact q5.elim
  · exact q1.elim
theorem comp_ {f : SI} {g : SG} {t : SB} {e' : SE} {vs : List Nat} (h : PE X e (tLc (tI G W f) (tGw G vs g) (tB' G (fun _ _ _ _ => False) t) (tE G (fun _ _ _ _ => False) e') vs)) : PE X e (tE G W (eComp f g t e' vs)) := PE.imp h comp_t
theorem setComp_ {i : Nat} {f : SI} {g : SG} {t : SB} {e' : SE} {vs : List Nat} (h : PS X st (tAsg (tLc (tI G W f) (tGw G vs g) (tB' G (fun _ _ _ _ => False) t) (tE G (fun _ _ _ _ => False) e') vs) (gName i))) : PS X st (tS G W (sAsg (eComp f g t e' vs) (gN i))) :=
  set_ (PS.imp h fun D σ H q => comp_t σ H _ q)

/-! ### the body of a def -/
def runFn (np nl : Nat) (body : SS) : Fn := fun args S => if args.length = np then (match body (args.map some ++ List.replicate (nl - np) none) S with
  | .nx _ S' => .ok (.d .non) S'
  | .rt v S' => .ok v S'
  | .ex x _ S' => .ex x S'
  | _ => .bad) else .bad
theorem start_rep : ∀ {args : List Val} {vs : List V}, RepVs K A H ρ args vs → ∀ n, RL K A H ρ (args.map some ++ List.replicate n none) (vs.map some ++ List.replicate n none) := fun {args vs} h n => by
  refine ⟨by simp [h.len], fun i w e => ?_⟩
  by_cases hi : i < args.length
  · rw [List.getElem?_append_left (by simpa using hi), List.getElem?_map] at e
    cases e1 : args[i]? with
    | none => rw [e1] at e; cases e
    | some u =>
      rw [e1] at e
      cases e
      obtain ⟨v, e2, p⟩ := h.get e1
      exact ⟨v, by rw [List.getElem?_append_left (by rw [List.length_map, h.len]; exact hi), List.getElem?_map, e2]; rfl, p⟩
  · rw [List.getElem?_append_right (by simpa using Nat.le_of_not_lt hi), List.getElem?_replicate] at e
    split at e <;> cases e
theorem okN {P : Program} {w : World} {mg : Str → Option Value} {base : Heap} {x qual : Str} {f : Addr} {fd : FuncData} {N ps : List Str} {k : Nat} {sp : Sp} (Fu : Fun G.K x qual st f fd) (Sc : FnScope N ps (defScope st)) (hl : ∀ us H Q E, sp us H Q E → us.length = ps.length)
    (hb : ∀ (cd : Value) (B : Around) (out : List Env) (s : Shared) (H : Hp) (us : List V) (Q : VK) (E : XK), Room k (B.deeper (PyProof.Rows.envOfC qual (defScope st) s.heap.objs.size f cd)) → sp us H Q E →
      ∃ t, PSs (cxOf (L2N.CX P w) P w G.K mg base N qual (defScope st) f cd B out s H E) (defBody st) t ∧ t { nx := fun _ H' => Q .non H', rt := Q } (L2.start N us) H) : FnOk P w G.K mg base (L2N.CX P w) (k + 1) f fd ps sp := by
  obtain ⟨_, _, _, _, _, _, cd, _, _, e, lk, hc⟩ := Fu.ex
  subst e
  exact fn_of lk hc Sc hl fun B out s H us Q E => hb cd B out s H us Q E
theorem fn_ {P : Program} {w : World} {mg : Str → Option Value} {base : Heap} {x qual : Str} {f : Addr} {fd : FuncData} {N ps : List Str} {k np nl : Nat} {body : SS} (Fu : Fun G.K x qual st f fd) (Sc : FnScope N ps (defScope st)) (hp : ps.length = np) (hn : N.length = nl)
    (hb : ∀ (cdv : Value) (A : Around) (outer : List Env) (s : Shared) (H : Hp) (E : XK), Room k (A.deeper (PyProof.Rows.envOfC qual (defScope st) s.heap.objs.size f cdv)) →
      PSs (cxOf (L2N.CX P w) P w G.K mg base N qual (defScope st) f cdv A outer s H E) (defBody st) (tS G (fun cls d _ H => E cls d H) body)) :
    FnOk P w G.K mg base (L2N.CX P w) (k + 1) f fd ps (spF G np (runFn np nl body)) := by
  refine okN Fu Sc (fun vs H Q E h => (spF_len vs H Q E h).trans hp.symm) fun cdv A outer s H vs Q E hr h => ⟨_, hb cdv A outer s H E hr, ?_⟩
  obtain ⟨F, A, ρ, args, S, ra, el, rs, q⟩ := h
  refine ⟨F, A, ρ, args.map some ++ List.replicate (nl - np) none, S, ?_, rs, ?_⟩
  · have := start_rep ra (nl - np)
    unfold L2.start
    rw [hn, ra.len, el]
    exact this
  · revert q
    unfold runFn
    simp only [el, if_true]
    cases body (args.map some ++ List.replicate (nl - np) none) S with
    | nx L S' => exact fun q A' ρ' H' σ' x r _ => q A' ρ' H' x r .non rfl
    | rt v S' => exact fun q A' ρ' H' w x r rw => q A' ρ' H' x r w rw
    | ex y L S' => exact fun q A' ρ' H' σ' cls d x r _ rx => q A' ρ' H' cls d x r rx
    | bk _ _ => exact fun q => q.elim
    | ct _ _ => exact fun q => q.elim
    | bad => exact fun q => q.elim
end Ev
set_option linter.all false
set_option Elab.async false
set_option maxRecDepth 100000
namespace Ev
open PySem L2 PySem.Spec
variable {F F1 A A1 A2 : Addr → Prop} {ρ ρ1 ρ2 : List Addr} {H H1 H2 : Hp} {K : PySem.W.Frag} {G : PC} {S S1 S2 : Store} {X : Cx} {W : WX}
variable {a b c e : Expr} {es : List Expr} {fa fb fc : SE} {as : SA} {pos : Pos} {st : Stmt}

/-! ### * -/
theorem mulOk_small {x : Str} {n : Int} (h1 : x.length ≤ 1000) (h2 : -1000 ≤ n) (h3 : n ≤ 1000) : MulOk x n := by
  refine ⟨?_, fun h _ => ?_, fun h _ => ?_⟩
  · rw [decide_eq_false (by omega), decide_eq_false (by omega)]; rfl
  · have : (1000 : Int) ≤ (2 ^ 63 - 1) / n := by
      rw [Int.le_ediv_iff_mul_le (by omega)]
      omega
    omega
  · have h4 : x.length * n.toNat ≤ 1000 * 1000 := Nat.mul_le_mul h1 (by omega)
    unfold PySem.Builtin.Str.tooLong
    simp only [decide_eq_false_iff_not]
    have := sizeLine_eq
    omega
instance {i j : Int} : Decidable (CMulW i j) := by unfold CMulW; infer_instance
def CMulA (i j : Int) : Prop := CMul i j ∨ CMulW i j
theorem op_mulA : OpR X (binaryOp .Mult) (rI CMulA fun i j => .int (i * j)) := by
  intro pins s σ H x y v u Q I rx ry h
  obtain ⟨i, j, e1, e2, c, q⟩ := h
  rcases c with c | c
  · exact op_mul pins s σ H x y v u Q I rx ry ⟨i, j, e1, e2, c, q⟩
  · exact op_mulW pins s σ H x y v u Q I rx ry ⟨i, j, e1, e2, c, q⟩
def mulD : D → D → Option D
  | .int i, .int j => if CMul i j then some (.int (i * j)) else if CMulW i j then some (.int (i * j)) else none
  | .str x, .int n => if x.length ≤ 1000 ∧ -1000 ≤ n ∧ n ≤ 1000 then some (.str (Txt.mul x n)) else none
  | _, _ => none
def rMulS : R2 := fun x y H Q => ∃ s n, x = .str s ∧ y = .int n ∧ MulOk s n ∧ Q (.str (Txt.mul s n)) H
theorem op_mulS : OpR X (binaryOp .Mult) rMulS := by
  intro pins s σ H x y v u Q I rx ry h
  obtain ⟨z, n, rfl, rfl, ok, q⟩ := h
  obtain ⟨t, rfl⟩ := rx
  obtain ⟨t', rfl⟩ := ry
  exact SB.mul ok fun t2 k => ⟨.str _, H, I.tok _, ⟨_, rfl⟩, q⟩
theorem snd_mul : Snd2 K (fun x y H Q => rI CMulA (fun i j => V.int (i * j)) x y H Q ∨ rMulS x y H Q) mulD := fun G F A ρ S H x y z v w Q eK rs h1 h2 ez q => by
  cases x with
  | int i => cases y with
    | int j =>
      by_cases c : CMul i j
      · simp only [mulD, if_pos c] at ez; cases ez
        exact .inl ⟨i, j, h1, h2, .inl c, q H _ Ext.refl rs rfl⟩
      · by_cases c2 : CMulW i j
        · simp only [mulD, if_neg c, if_pos c2] at ez; cases ez
          exact .inl ⟨i, j, h1, h2, .inr c2, q H _ Ext.refl rs rfl⟩
        · simp only [mulD, if_neg c, if_neg c2] at ez; cases ez
    | _ => simp [mulD] at ez
  | str s => cases y with
    | int n =>
      by_cases c : s.length ≤ 1000 ∧ -1000 ≤ n ∧ n ≤ 1000
      · simp only [mulD, if_pos c] at ez; cases ez
        exact .inr ⟨s, n, h1, h2, mulOk_small c.1 c.2.1 c.2.2, q H _ Ext.refl rs rfl⟩
      · simp only [mulD, if_neg c] at ez; cases ez
    | _ => simp [mulD] at ez
  | _ => simp [mulD] at ez
theorem mulG_ (ha : PE X a (tE G W fa)) (hb : PE X b (tE G W fb)) : PE X (.BinOp a .Mult b pos) (tE G W (eOp2 mulD fa fb)) := bin_ (OpR.or op_mulA op_mulS) snd_mul ha hb

/-! ### tables of the module -/
structure KD (K : PySem.W.Frag) (w : World) (d : Addr) (tbl : List (Str × D)) : Prop where
  ex : ∃ es n, KDict K w d es n ∧ Paired (fun (e : DictEntry) (kv : Str × D) => ∃ t v, e.key = .str kv.1 t ∧ RelV v e.val ∧ Always K kv.2 v) es.toList tbl
theorem kd_find {tbl : List (Str × D)} {K : PySem.W.Frag} : ∀ {es : List DictEntry} {tbl : List (Str × D)} (z : Str), Paired (fun (e : DictEntry) (kv : Str × D) => ∃ t v, e.key = .str kv.1 t ∧ RelV v e.val ∧ Always K kv.2 v) es tbl →
    (match tbl.lookup z with
      | some x => ∃ e v, es.find? (·.key.isStr z) = some e ∧ RelV v e.val ∧ Always K x v
      | none => es.find? (·.key.isStr z) = none) ∧ es.any (·.refKey) = false
  | _, _, z, .nil => ⟨rfl, rfl⟩
  | e :: es, (k, x) :: tbl, z, .cons ⟨t, v, h1, h2, h3⟩ h => by
    obtain ⟨ih, ih2⟩ := kd_find (tbl := tbl) z h
    have e1 : e.key.isStr z = (k == z) := by rw [h1]; rfl
    refine ⟨?_, ?_⟩
    · rw [List.lookup_cons]
      by_cases hk : z = k
      · subst hk
        simp only [beq_self_eq_true]
        exact ⟨e, v, by rw [List.find?_cons, e1, beq_self_eq_true], h2, h3⟩
      · have n1 : (z == k) = false := by simpa using hk
        have n2 : (k == z) = false := by simpa using fun q => hk q.symm
        simp only [n1]
        revert ih
        cases tbl.lookup z with
        | none => intro ih; show (e :: es).find? _ = none; rw [List.find?_cons, e1, n2]; exact ih
        | some y => intro ⟨e', v', i1, i2, i3⟩; exact ⟨e', v', by rw [List.find?_cons, e1, n2]; exact i1, i2, i3⟩
    · rw [List.any_cons, ih2, Bool.or_false]
      unfold DictEntry.refKey
      rw [h1]
theorem KD.ns {w : World} {d : Addr} {tbl : List (Str × D)} (h : KD K w d tbl) (z : Str) : match tbl.lookup z with
    | some x => ∃ u v, PySem.W.nsIn K d z = some (some u) ∧ RelV v u ∧ Always K x v
    | none => PySem.W.nsIn K d z = some none := by
  obtain ⟨es, n, kd, p⟩ := h.ex
  obtain ⟨f, g⟩ := kd_find (tbl := tbl) z p
  have e1 : PySem.W.nsIn K d z = (match es.toList.find? (·.key.isStr z) with
      | some e => some (some e.val)
      | none => if es.toList.any (·.refKey) then none else some none) := by
    unfold PySem.W.nsIn
    rw [kd.at_]
    rfl
  revert f
  cases tbl.lookup z with
  | none =>
    intro f
    have f : es.toList.find? (·.key.isStr z) = none := f
    show PySem.W.nsIn K d z = some none
    rw [e1]
    simp only [f]
    show (if es.toList.any (·.refKey) then none else some none) = some none
    rw [g]
    rfl
  | some x =>
    intro ⟨e, v, i1, i2, i3⟩
    refine ⟨e.val, v, ?_, i2, i3⟩
    rw [e1]
    simp only [i1]
def kInD (neg : Bool) (tbl : List (Str × D)) : D → Option D
  | .str z => some (.bl (if neg then !(tbl.lookup z).isSome else (tbl.lookup z).isSome))
  | _ => none
def kGetD (tbl : List (Str × D)) : D → Option D
  | .str z => tbl.lookup z
  | _ => none
theorem kin_t {w : World} {d : Addr} {tbl : List (Str × D)} {neg : Bool} (h : KD G.K w d tbl) : ∀ σ H Q, tE G W (eOp1 (kInD neg tbl) fa) σ H Q →
    tOp (fun x y H Q => ∃ (z : Str) (r : Option Value), x = .str z ∧ y = .ref d ∧ PySem.W.nsIn G.K d z = some r ∧ Q (.bl (if neg then !r.isSome else r.isSome)) H) (tE G W fa) (tC (.ref d)) σ H Q := fun σ H Q q => by
  refine tUn_of (r := fun x H Q => ∃ (z : Str) (r : Option Value), x = .str z ∧ V.ref d = .ref d ∧ PySem.W.nsIn G.K d z = some r ∧ Q (.bl (if neg then !r.isSome else r.isSome)) H) ?_ σ H Q q
  intro G' F A ρ S H x z v Q eK rs hx ez q
  cases x with
  | str s =>
    cases ez
    have n := h.ns s
    revert n q
    cases tbl.lookup s with
    | none => intro q n; exact ⟨s, none, hx, rfl, n, q H _ Ext.refl rs rfl⟩
    | some y => intro q ⟨u, v, n, _⟩; exact ⟨s, some u, hx, rfl, n, q H _ Ext.refl rs rfl⟩
  | _ => cases ez
theorem kin_ {w : World} {d : Addr} {tbl : List (Str × D)} {x : Str} {p : Pos} (hK : X.K = G.K) (hw : X.w = w) (h : KD G.K w d tbl) (hg : Gl X x) (hm : X.mg x = some (.ref d)) (ha : PE X a (tE G W fa)) (hb : behindInMarks .In (.Name x p) = false) (hd : (x == ("__debug__" : Str)) = false := by decide) :
    PE X (.Compare a [.In] [.Name x p] pos) (tE G W (eOp1 (kInD false tbl) fa)) := by
  obtain ⟨es, n, kd, _⟩ := h.ex
  subst hw
  rw [← hK] at kd
  refine PE.imp (pe_cmpR (op_in_kd kd) ha (pe_glob (v := .ref d) hg hm rfl hd) hb) ?_
  rw [hK]
  exact kin_t (neg := false) h
theorem knotin_ {w : World} {d : Addr} {tbl : List (Str × D)} {x : Str} {p : Pos} (hK : X.K = G.K) (hw : X.w = w) (h : KD G.K w d tbl) (hg : Gl X x) (hm : X.mg x = some (.ref d)) (ha : PE X a (tE G W fa)) (hb : behindInMarks .NotIn (.Name x p) = false) (hd : (x == ("__debug__" : Str)) = false := by decide) :
    PE X (.Compare a [.NotIn] [.Name x p] pos) (tE G W (eOp1 (kInD true tbl) fa)) := by
  obtain ⟨es, n, kd, _⟩ := h.ex
  subst hw
  rw [← hK] at kd
  refine PE.imp (pe_cmpR (op_notIn_kd kd) ha (pe_glob (v := .ref d) hg hm rfl hd) hb) ?_
  rw [hK]
  exact kin_t (neg := true) h
theorem tkin_ {w : World} {d : Addr} {tbl : List (Str × D)} {x : Str} {p : Pos} (hK : X.K = G.K) (hw : X.w = w) (h : KD G.K w d tbl) (hg : Gl X x) (hm : X.mg x = some (.ref d)) (ha : PE X a (tE G W fa)) (hb : behindInMarks .In (.Name x p) = false) (hd : (x == ("__debug__" : Str)) = false := by decide) :
    PT X (.Compare a [.In] [.Name x p] pos) (tB' G W (bE (eOp1 (kInD false tbl) fa))) := by
  obtain ⟨es, n, kd, _⟩ := h.ex
  subst hw
  rw [← hK] at kd
  refine PT.imp (pt_cmpR (op_in_kd kd) ha (pe_glob (v := .ref d) hg hm rfl hd) hb) fun σ H Q q => ?_
  rw [hK]
  exact kin_t (neg := false) h σ H _ (bE_t σ H Q q)
theorem tknotin_ {w : World} {d : Addr} {tbl : List (Str × D)} {x : Str} {p : Pos} (hK : X.K = G.K) (hw : X.w = w) (h : KD G.K w d tbl) (hg : Gl X x) (hm : X.mg x = some (.ref d)) (ha : PE X a (tE G W fa)) (hb : behindInMarks .NotIn (.Name x p) = false) (hd : (x == ("__debug__" : Str)) = false := by decide) :
    PT X (.Compare a [.NotIn] [.Name x p] pos) (tB' G W (bE (eOp1 (kInD true tbl) fa))) := by
  obtain ⟨es, n, kd, _⟩ := h.ex
  subst hw
  rw [← hK] at kd
  refine PT.imp (pt_cmpR (op_notIn_kd kd) ha (pe_glob (v := .ref d) hg hm rfl hd) hb) fun σ H Q q => ?_
  rw [hK]
  exact kin_t (neg := true) h σ H _ (bE_t σ H Q q)
theorem kget_ {w : World} {d : Addr} {tbl : List (Str × D)} {x : Str} {p : Pos} (hK : X.K = G.K) (hw : X.w = w) (h : KD G.K w d tbl) (hg : Gl X x) (hm : X.mg x = some (.ref d)) (hb : PE X b (tE G W fb)) (hp : PlainIx b) (hd : (x == ("__debug__" : Str)) = false := by decide) :
    PE X (.Subscript (.Name x p) b pos) (tE G W (eOp1 (kGetD tbl) fb)) := by
  refine PE.imp (pe_ix ix_kdict (pe_glob (v := .ref d) hg hm rfl hd) hb hp) fun σ H Q q => ?_
  refine tUn_of (r := fun y H Q => rIxD X.K X.w (.ref d) y H Q) ?_ σ H Q q
  intro G' F A ρ S H x z v Q eK rs hx ez q
  cases x with
  | str s =>
    have n := h.ns s
    have ez : tbl.lookup s = some z := ez
    rw [ez] at n
    obtain ⟨u, v', n1, n2, n3⟩ := n
    obtain ⟨es, k, kd, _⟩ := h.ex
    subst hw
    rw [← hK] at kd n1
    refine ⟨d, s, v', rfl, hx, ⟨es, k, u, kd.at_, kd.lit, n1, n2⟩, q H _ Ext.refl rs ?_⟩
    exact n3 A H
  | _ => cases ez
/-- a written tuple of texts and ints -/
theorem always_tup {a : Addr} {o : Obj} {its : Array Value} {n : Nat} {ds : List D} {vs : List V} (h : K.lookup a = some o) (hc : o.cls = .type "tuple") (hd : o.data = .seq its n) (hz : its.size ≤ sizeLine) (hv : Vals vs its.toList) (hr : ∀ A H, RepDs K A H ds vs) : Always K (.tup ds) (.ref a) :=
  fun A H => ⟨a, vs, rfl, .inr ⟨o, its, n, h, hc, hd, hz, hv⟩, hr A H⟩
theorem txts_always (xs : List Str) : ∀ A H, RepDs K A H (xs.map D.str) (xs.map V.str) := fun A H => txts_reps xs
end Ev
set_option linter.all false
set_option Elab.async false
set_option maxRecDepth 100000
namespace Ev
open PySem L2 PySem.Spec
variable {F F1 A A1 A2 : Addr → Prop} {ρ ρ1 ρ2 : List Addr} {H H1 H2 : Hp} {K : PySem.W.Frag} {G : PC} {S S1 S2 : Store} {X : Cx} {W : WX}
variable {a b c e : Expr} {es : List Expr} {fa fb fc : SE} {as : SA} {pos : Pos} {st : Stmt}
theorem gs_ {x z : Str} {p : Pos} (hg : Gl X x) (hm : ∃ t, X.mg x = some (.str z t)) (hd : (x == ("__debug__" : Str)) = false := by decide) : PE X (.Name x p) (tE G W (eC (.str z))) := by
  obtain ⟨t, hm⟩ := hm
  exact g_ (v := .str z) hg hm ⟨t, rfl⟩ (fun _ _ => rfl) hd
theorem gi_ {x : Str} {i : Int} {p : Pos} (hg : Gl X x) (hm : ∃ t, X.mg x = some (.int i t)) (hd : (x == ("__debug__" : Str)) = false := by decide) : PE X (.Name x p) (tE G W (eC (.int i))) := by
  obtain ⟨t, hm⟩ := hm
  exact g_ (v := .int i) hg hm ⟨t, rfl⟩ (fun _ _ => rfl) hd
theorem gtup_ {x : Str} {d : D} {a : Addr} {p : Pos} (hg : Gl X x) (hm : X.mg x = some (.ref a)) (al : Always G.K d (.ref a)) (hd : (x == ("__debug__" : Str)) = false := by decide) : PE X (.Name x p) (tE G W (eC d)) :=
  g_ (v := .ref a) hg hm rfl al hd
def negD : D → Option D
  | .int i => some (.int (-i))
  | _ => none
theorem snd_neg : Snd1 K (rU fun i => .int (-i)) negD := fun G F A ρ S H x z v Q eK rs h ez q => by
  cases x with
  | int i => cases ez; exact ⟨i, h, q H _ Ext.refl rs rfl⟩
  | _ => cases ez
theorem neg_ (ha : PE X a (tE G W fa)) : PE X (.UnaryOp .USub a pos) (tE G W (eOp1 negD fa)) := un_ un_neg snd_neg ha
theorem tsN_ : PTs X [] (tB' G W bYes) := ⟨fun pins s σ H Q I ⟨F, A, ρ, L, S, l, r, q⟩ => pts_nil.run pins s σ H Q I (q A ρ H Ext.refl r)⟩
theorem ts1_ {f : SB} (h : PT X c (tB' G W f)) : PTs X [c] (tB' G W f) := pts_one h
theorem bt_int : bootBuiltins "int" = some (.type "int") := by decide +kernel
theorem bt_str : bootBuiltins "str" = some (.type "str") := by decide +kernel
theorem bt_bool : bootBuiltins "bool" = some (.type "bool") := by decide +kernel
theorem bt_list : bootBuiltins "list" = some (.type "list") := by decide +kernel
theorem bt_tuple : bootBuiltins "tuple" = some (.type "tuple") := by decide +kernel
theorem bt_dict : bootBuiltins "dict" = some (.type "dict") := by decide +kernel
theorem bt_len : bootBuiltins "len" = some (.builtin "len") := by decide +kernel
theorem bt_isinstance : bootBuiltins "isinstance" = some (.builtin "isinstance") := by decide +kernel
theorem bt_all : bootBuiltins "all" = some (.builtin "all") := by decide +kernel
theorem bt_any : bootBuiltins "any" = some (.builtin "any") := by decide +kernel
theorem bt_abs : bootBuiltins "abs" = some (.builtin "abs") := by decide +kernel
theorem bt_max : bootBuiltins "max" = some (.builtin "max") := by decide +kernel
theorem bt_min : bootBuiltins "min" = some (.builtin "min") := by decide +kernel
theorem bt_sum : bootBuiltins "sum" = some (.builtin "sum") := by decide +kernel
theorem bt_sorted : bootBuiltins "sorted" = some (.builtin "sorted") := by decide +kernel
/-- what is known of a def of the program: its number's address, its data -/
structure FnAt (K : PySem.W.Frag) (mg : Str → Option Value) (x qual : Str) (st : Stmt) (ps : List Str) (f : Addr) (fd : FuncData) : Prop where
  fn : Fun K x qual st f fd
  mg : mg x = some (.ref f)
  bi : Binds K fd ps []
theorem FnAt.kp {mg : Str → Option Value} {x qual : Str} {ps : List Str} {f : Addr} {fd : FuncData} (h : FnAt K mg x qual st ps f fd) : PySem.W.keepIn K (.ref f) = true := h.fn.kp
end Ev
set_option linter.all false
set_option Elab.async false
set_option maxRecDepth 100000
namespace Ev
open PySem L2 PySem.Spec
variable {F F1 A A1 A2 : Addr → Prop} {ρ ρ1 ρ2 : List Addr} {H H1 H2 : Hp} {K : PySem.W.Frag} {G : PC} {S S1 S2 : Store} {X : Cx} {W : WX}
variable {a b c e o : Expr} {es : List Expr} {fa fb fc : SE} {as : SA} {pos : Pos} {st : Stmt}

/-! ### own objects: their fields -/
/-- what the text says of an own class -/
structure ClsAt (G : PC) (c : Nat) : Prop where
  cl : Cls G.K (G.cls c)
  nd : (G.fld c).Nodup
  na : ∀ f ∈ G.fld c, NoAttr G.K (G.cls c) f
  sz : (G.fld c).length ≤ 900
theorem lookup_zip : ∀ {ns : List Str} {vs : List V} {j : Nat} {f : Str} {u : V}, ns.Nodup → ns[j]? = some f → vs[j]? = some u → (ns.zip vs).lookup f = some u
  | [], vs, j, f, u, _, h, _ => by simp at h
  | n :: ns, [], j, f, u, _, _, h => by simp at h
  | n :: ns, v :: vs, 0, f, u, nd, h, g => by
    simp at h g; subst h; subst g
    simp [List.lookup]
  | n :: ns, v :: vs, j + 1, f, u, nd, h, g => by
    have h' : ns[j]? = some f := by simpa using h
    have g' : vs[j]? = some u := by simpa using g
    have hn : f ≠ n := fun z => (List.nodup_cons.mp nd).1 (z ▸ List.mem_of_getElem? h')
    have e : (f == n) = false := by simpa using hn
    rw [List.zip_cons_cons, List.lookup_cons]
    simp only [e]
    exact lookup_zip (List.nodup_cons.mp nd).2 h' g'
theorem lookup_zip_none : ∀ {ns : List Str} {vs : List V} {f : Str}, f ∉ ns → (ns.zip vs).lookup f = none
  | [], vs, f, _ => by simp [List.lookup]
  | n :: ns, [], f, _ => by simp [List.lookup]
  | n :: ns, v :: vs, f, h => by
    have e : (f == n) = false := by simpa using fun (z : f = n) => h (z ▸ List.mem_cons_self)
    rw [List.zip_cons_cons, List.lookup_cons]
    simp only [e]
    exact lookup_zip_none fun z => h (List.mem_cons_of_mem _ z)
theorem putF_old : ∀ {ns : List Str} {vs : List V} {j : Nat} {f : Str} {u : V}, ns.Nodup → ns[j]? = some f → j < vs.length → putF f u (ns.zip vs) = ns.zip (vs.set j u)
  | [], vs, j, f, u, _, h, _ => by simp at h
  | n :: ns, [], j, f, u, _, _, h => by simp at h
  | n :: ns, v :: vs, 0, f, u, nd, h, g => by
    simp at h; subst h
    simp [putF]
  | n :: ns, v :: vs, j + 1, f, u, nd, h, g => by
    have h' : ns[j]? = some f := by simpa using h
    have hn : n ≠ f := fun z => (List.nodup_cons.mp nd).1 (z ▸ List.mem_of_getElem? h')
    rw [List.zip_cons_cons, putF, if_neg hn, putF_old (List.nodup_cons.mp nd).2 h' (by simpa using g)]
    rfl
theorem putF_new : ∀ {ns : List Str} {vs : List V} {f : Str} {u : V}, ns.Nodup → ns[vs.length]? = some f → putF f u ((ns.take vs.length).zip vs) = (ns.take (vs.length + 1)).zip (vs ++ [u])
  | [], vs, f, u, _, h => by simp at h
  | n :: ns, [], f, u, nd, h => by
    simp at h; subst h
    simp [putF]
  | n :: ns, v :: vs, f, u, nd, h => by
    have h' : ns[vs.length]? = some f := by simpa using h
    have hn : n ≠ f := fun z => (List.nodup_cons.mp nd).1 (z ▸ List.mem_of_getElem? h')
    have ih := putF_new (vs := vs) (u := u) (List.nodup_cons.mp nd).2 h'
    rw [List.length_cons, List.take_succ_cons, List.zip_cons_cons, putF, if_neg hn, ih]
    rfl
def fldC (c j : Nat) (o : Option Cell) : Option Val := match o with
  | some (.obj c' fs) => if c' = c then fs[j]? else none
  | _ => none
def eFld (c j : Nat) (a : SE) : SE := fun L S => (a L S).bind fun v S1 => match v with
  | .ref n => (match fldC c j S1[n]? with
    | some w => .ok w S1
    | none => .bad)
  | _ => .bad
theorem fldC_some {c j : Nat} {o : Option Cell} {w : Val} (h : fldC c j o = some w) : ∃ fs, o = some (.obj c fs) ∧ fs[j]? = some w := by
  unfold fldC at h
  split at h
  · rename_i c' fs
    split at h
    · rename_i e; subst e; exact ⟨fs, rfl, h⟩
    · cases h
  · cases h
/-- an own object, as it lies -/
theorem RS.obj (r : RS G F A ρ S H) {n c : Nat} {fs : List Val} {w : V} (e : S[n]? = some (.obj c fs)) (h : RepV G.K A H ρ (.ref n) w) :
    ∃ a dx vs, w = .ref a ∧ ρ[n]? = some a ∧ H a = some (.ins (G.cls c) dx (((G.fld c).take fs.length).zip vs)) ∧ fs.length ≤ (G.fld c).length ∧ RepVs G.K A H ρ fs vs := by
  obtain ⟨a, e1, rfl⟩ := h
  obtain ⟨a', e3, dx, vs, h1, h2, h3⟩ := r.cells n _ e
  rw [e1] at e3; cases e3
  exact ⟨a, dx, vs, rfl, e1, h1, h2, h3⟩
theorem fld_ {f : Str} {c j : Nat} (hK : X.K = G.K) (hc : ClsAt G c) (hj : (G.fld c)[j]? = some f) (h : PE X e (tFld X.K (tE G W fa) f)) : PE X e (tE G W (eFld c j fa)) := PE.imp h fun σ H Q ⟨F, A, ρ, L, S, l, r0, q⟩ => by
  refine ⟨F, A, ρ, L, S, l, r0, EvOk.bind q fun v S1 A1 ρ1 H1 x1 r1 q1 w rw1 => ?_⟩
  rw [hK]
  cases v with
  | ref n =>
    simp only at q1
    split at q1
    · rename_i u eu
      obtain ⟨fs, e1, e2⟩ := fldC_some eu
      obtain ⟨a, dx, vs, rfl, ea, h1, h2, h3⟩ := r1.obj e1 rw1
      obtain ⟨y, e3, p⟩ := h3.get e2
      have hl : j < fs.length := (List.getElem?_eq_some_iff.mp e2).1
      exact ⟨a, _, dx, _, y, rfl, h1, hc.cl, hc.na f (List.mem_of_getElem? hj), lookup_zip (hc.nd.sublist (List.take_sublist _ _)) (by rw [List.getElem?_take_of_lt hl]; exact hj) e3, q1 A1 ρ1 H1 Ext.refl r1 y p⟩
    · exact q1.elim
  | d _ => exact q1.elim
  | vt _ => exact q1.elim
  | exc _ _ _ _ => exact q1.elim
def setC (c j : Nat) (w : Val) (o : Option Cell) : Option Cell := match o with
  | some (.obj c' fs) => if c' = c then (if j < fs.length then some (.obj c (fs.set j w)) else if j = fs.length then some (.obj c (fs ++ [w])) else none) else none
  | _ => none
def sSetF (c j : Nat) (o e : SE) : SS := fun L S => (e L S).to L fun w S1 => (o L S1).to L fun v S2 => match v with
  | .ref n => (match setC c j w S2[n]? with
    | some c' => .nx L (S2.set n c')
    | none => .bad)
  | _ => .bad
theorem setF_ {f : Str} {c j : Nat} (hK : X.K = G.K) (hc : ClsAt G c) (hj : (G.fld c)[j]? = some f) (h : PS X st (sFld X.K (tE G W fa) (tE G W fb) f)) : PS X st (tS G W (sSetF c j fa fb)) := PS.imp h fun D σ H ⟨F, A, ρ, L, S, l, r0, q⟩ => by
  refine ⟨F, A, ρ, L, S, l, r0, st_ok r0 l q fun w S1 A1 ρ1 H1 x1 r1 q1 y rw1 => ?_⟩
  refine ⟨F, A1, ρ1, L, S1, l.mv x1 r0, r1, st_ok r1 (l.mv x1 r0) q1 fun v S2 A2 ρ2 H2 x2 r2 q2 z rw2 => ?_⟩
  rw [hK]
  have l2 := (l.mv x1 r0).mv x2 r1
  have rw1' := rw1.mv x2 r1
  cases v with
  | ref n =>
    simp only at q2
    split at q2
    · rename_i c' ec
      unfold setC at ec
      split at ec
      · rename_i c0 fs e1
        split at ec
        · rename_i ecc
          subst ecc
          obtain ⟨a, dx, vs, rfl, ea, h1, h2, h3⟩ := r2.obj e1 rw2
          have hvl := h3.len
          have na := hc.na f (List.mem_of_getElem? hj)
          have ndt : ((G.fld c0).take fs.length).Nodup := hc.nd.sublist (List.take_sublist _ _)
          have hlen : (((G.fld c0).take fs.length).zip vs).length < 1000 := by
            rw [List.length_zip, List.length_take]
            have := hc.sz
            omega
          refine ⟨a, _, dx, _, rfl, h1, hc.cl, na, hlen, ?_⟩
          split at ec
          · rename_i hl
            cases ec
            rw [putF_old ndt (by rw [List.getElem?_take_of_lt hl]; exact hj) (by omega)]
            obtain ⟨x3, r3⟩ := r2.write (o := .ins (G.cls c0) dx (((G.fld c0).take fs.length).zip (vs.set j y))) (c := .obj c0 (fs.set j w)) ea True.intro e1 (fun _ z => nomatch z) (fun _ z => nomatch z) fun x => ⟨dx, vs.set j y, by rw [List.length_set]; exact upd_same, by rw [List.length_set]; exact h2, (RepVs.setv j h3 rw1').mv x r2⟩
            exact q2 A2 ρ2 _ σ x3 r3 (l2.mv x3 r2)
          · rename_i hl
            split at ec
            · rename_i hl'
              subst hl'
              cases ec
              have hj' : fs.length < (G.fld c0).length := (List.getElem?_eq_some_iff.mp hj).1
              have e5 := putF_new (ns := G.fld c0) (vs := vs) (f := f) (u := y) hc.nd (by rw [hvl]; exact hj)
              rw [hvl] at e5
              rw [e5]
              obtain ⟨x3, r3⟩ := r2.write (o := .ins (G.cls c0) dx (((G.fld c0).take (fs.length + 1)).zip (vs ++ [y]))) (c := .obj c0 (fs ++ [w])) ea True.intro e1 (fun _ z => nomatch z) (fun _ z => nomatch z) fun x => ⟨dx, vs ++ [y], by rw [List.length_append]; exact upd_same, by rw [List.length_append, List.length_singleton]; omega, (RepVs.app (es := [w]) (us := [y]) h3 ⟨y, [], rfl, rw1', rfl⟩).mv x r2⟩
              exact q2 A2 ρ2 _ σ x3 r3 (l2.mv x3 r2)
            · cases ec
        · cases ec
      · cases ec
    · exact q2.elim
  | d _ => exact q2.elim
  | vt _ => exact q2.elim
  | exc _ _ _ _ => exact q2.elim

/-! ### methods, new objects -/
def isOb (c : Nat) (v : Val) (S : Store) : Bool := match v with
  | .ref n => (match S[n]? with
    | some (.obj c' _) => decide (c' = c)
    | _ => false)
  | _ => false
theorem isOb_some {c : Nat} {v : Val} (h : isOb c v S = true) : ∃ n fs, v = .ref n ∧ S[n]? = some (.obj c fs) := by
  unfold isOb at h
  split at h
  · rename_i n
    split at h
    · rename_i c' fs e
      have e' := of_decide_eq_true h
      subst e'
      exact ⟨n, fs, rfl, e⟩
    · cases h
  · cases h
def eMeth (c : Nat) (g : Fn) (n : Nat) (o : SE) (as : SA) : SE := fun L S => (o L S).bind fun v S1 => if isOb c v S1 = true then (as L S1).bind fun vs S2 => if vs.length = n then g (v :: vs) S2 else .bad else .bad
/-- o.m(..), what is raised wished for at the slots -/
def tMethW (C : Addr) (m : Str) (sp : Sp) (E : St → XK) (ta : TE) (t : TA) : TE := fun σ H Q => ta σ H fun x H1 => ∃ a dx fs, x = .ref a ∧ H1 a = some (.ins C dx fs) ∧ fs.lookup m = none ∧ t σ H1 fun vs H2 => sp (x :: vs) H2 Q (E σ)
section
variable {CX : CXT} {k : Nat} {f C : Addr} {fd : FuncData} {ps : List Str} {sp : Sp} {E : St → XK} {m : Str} {apos : Pos} {ta : TE} {t : TA}
theorem pe_methW {pl : Sem Bool} (he : PE X o ta) (c : Cls X.K C) (hm : Meth X.K C m f) (Fk : FnOk X.prog X.w X.K X.mg X.base CX k f fd ps sp) (hr : Room k X.A) (hb : Binds X.K fd ps []) (hx : ∀ σ, PassesAt CX X σ (E σ)) (ha : PA X (e :: es) t)
    (h1 : starEach (e :: es) X.env = (false, eval e X.env) :: starEach es X.env := by rfl) (h2 : (backTo pos (starEach es X.env)).any (·.1) = false := by rfl)
    (ht : eval (.Call (.Attribute o m apos) (e :: es) [] pos) X.env = (do
      let ov ← eval o X.env
      standAt apos.atName
      let (f, first) ← holding [ov] (getMethod ov m pl)
      callWith pos f first (backTo pos (starEach (e :: es) X.env)) (backToKw pos (keywordEach [] X.env))) := by rfl) : PE X (.Call (.Attribute o m apos) (e :: es) [] pos) (tMethW C m sp E ta t) := by
  constructor
  intro pins s σ H Q I h
  refine PySem.W.methodCall_KW (pl := pl) (thn (he.run pins s σ H _ I h) fun u s1 hh => ?_) ht
  obtain ⟨x, H1, I1, rx, a, dx, fs, ex, ea, l, q⟩ := hh
  subst ex
  obtain rfl : u = Value.ref a := rx
  refine getmeth_ok I1 ea c hm l (PySem.W.callWith_K (first := [.ref a]) (h₀ := X.base) I.ok.mod.kin hm.kp (thn (ha.run pos pins s1 σ H1 _ I1 q) fun us s2 hh2 => ?_) h1 h2)
  obtain ⟨vs, H2, I2, r, q2⟩ := hh2
  exact ⟨I2.kIn, run_fnS (us := .ref a :: us) (vs := .ref a :: vs) Fk hr hb (hx σ) I2 (.cons rfl r) q2⟩
theorem pe_methW0 {pl : Sem Bool} (he : PE X o ta) (c : Cls X.K C) (hm : Meth X.K C m f) (Fk : FnOk X.prog X.w X.K X.mg X.base CX k f fd ps sp) (hr : Room k X.A) (hb : Binds X.K fd ps []) (hx : ∀ σ, PassesAt CX X σ (E σ))
    (ht : eval (.Call (.Attribute o m apos) [] [] pos) X.env = (do
      let ov ← eval o X.env
      standAt apos.atName
      let (f, first) ← holding [ov] (getMethod ov m pl)
      callWith pos f first (backTo pos (starEach [] X.env)) (backToKw pos (keywordEach [] X.env))) := by rfl) : PE X (.Call (.Attribute o m apos) [] [] pos) (tMethW C m sp E ta tNil) := by
  constructor
  intro pins s σ H Q I h
  refine PySem.W.methodCall_KW (pl := pl) (thn (he.run pins s σ H _ I h) fun u s1 hh => ?_) ht
  obtain ⟨x, H1, I1, rx, a, dx, fs, ex, ea, l, q⟩ := hh
  subst ex
  obtain rfl : u = Value.ref a := rx
  exact getmeth_ok I1 ea c hm l (PySem.W.callWith_K0 (first := [.ref a]) I1.kIn hm.kp (run_fnS (us := [.ref a]) (vs := [.ref a]) Fk hr hb (hx σ) I1 (.cons rfl .nil) q))
end
/-- a method of the text -/
structure MtAt (K : PySem.W.Frag) (C : Addr) (m qual : Str) (st : Stmt) (ps : List Str) (f : Addr) (fd : FuncData) : Prop where
  fn : Fun K m qual st f fd
  mt : Meth K C m f
  bi : Binds K fd ps []
theorem meth_ {n c : Nat} {g : Fn} {m : Str} (hc : ClsAt G c) (hm : m ∉ G.fld c) (h : PE X e (tMethW (G.cls c) m (spF G (n + 1) g) (WE W) (tE G W fa) (tA' G W as))) : PE X e (tE G W (eMeth c g n fa as)) := PE.imp h fun σ H Q ⟨F, A, ρ, L, S, l, r0, q⟩ => by
  refine ⟨F, A, ρ, L, S, l, r0, EvOk.bind q fun v S1 A1 ρ1 H1 x1 r1 q1 w rw1 => ?_⟩
  split at q1
  · rename_i ob
    obtain ⟨k, fs, rfl, e1⟩ := isOb_some ob
    obtain ⟨a, dx, vs, rfl, ea, h1, h2, h3⟩ := r1.obj e1 rw1
    refine ⟨a, dx, _, rfl, h1, lookup_zip_none fun z => hm (List.mem_of_mem_take z), F, A1, ρ1, L, S1, l.mv x1 r0, r1, EvOk.bind q1 fun us S2 A2 ρ2 H2 x2 r2 q2 ws rws => ?_⟩
    split at q2
    · rename_i hn
      exact ⟨F, A2, ρ2, .ref k :: us, S2, ⟨_, ws, rfl, rw1.mv x2 r1, rws⟩, by rw [List.length_cons, hn], r2, q2⟩
    · exact q2.elim
  · exact q1.elim
theorem meth0_ {c : Nat} {g : Fn} {m : Str} (hc : ClsAt G c) (hm : m ∉ G.fld c) (h : PE X e (tMethW (G.cls c) m (spF G 1 g) (WE W) (tE G W fa) tNil)) : PE X e (tE G W (eMeth c g 0 fa aN)) := PE.imp h fun σ H Q ⟨F, A, ρ, L, S, l, r0, q⟩ => by
  refine ⟨F, A, ρ, L, S, l, r0, EvOk.bind q fun v S1 A1 ρ1 H1 x1 r1 q1 w rw1 => ?_⟩
  split at q1
  · rename_i ob
    obtain ⟨k, fs, rfl, e1⟩ := isOb_some ob
    obtain ⟨a, dx, vs, rfl, ea, h1, h2, h3⟩ := r1.obj e1 rw1
    have q2 : EvOk G F (fun A' ρ' H' v => ∀ w, RepV G.K A' H' ρ' v w → Q w H') (fun cls d H' => W cls d σ H') A1 ρ1 H1 (g [.ref k] S1) := q1
    exact ⟨a, dx, _, rfl, h1, lookup_zip_none fun z => hm (List.mem_of_mem_take z), F, A1, ρ1, [.ref k], S1, ⟨_, [], rfl, rw1, rfl⟩, rfl, r1, q2⟩
  · exact q1.elim
/-- C(..): a new object in the same store, then its __init__ -/
def newR (N : Nat) (r : R Val) : R Val := match r with
  | .ok (.d .non) S' => .ok (.ref N) S'
  | _ => .bad
def eNew (c : Nat) (g : Fn) (n : Nat) (as : SA) : SE := fun L S => (as L S).bind fun vs S1 => if vs.length = n then newR S1.length (g (.ref S1.length :: vs) (S1 ++ [.obj c []])) else .bad
theorem RS.make (r : RS G F A ρ S H) {c : Nat} {x dx : Addr} (hx : H x = none) (hd : H dx = none) (ne : dx ≠ x) :
    Ext F A ρ H (fun a => A a ∨ a = x) (ρ ++ [x]) (upd (upd H dx (.own x)) x (.ins (G.cls c) dx [])) ∧ RS G F (fun a => A a ∨ a = x) (ρ ++ [x]) (S ++ [.obj c []]) (upd (upd H dx (.own x)) x (.ins (G.cls c) dx [])) := by
  obtain ⟨x1, r1⟩ := r.laid hd (.own x)
  have hx' : upd H dx (.own x) x = none := by rw [upd_ne (Ne.symm ne)]; exact hx
  obtain ⟨x2, r2⟩ := r1.push (o := .ins (G.cls c) dx []) (c := .obj c []) hx' True.intro (fun _ z => nomatch z) fun _ => ⟨dx, [], by rw [upd_same]; simp, Nat.zero_le _, rfl⟩
  exact ⟨x1.trans x2, r2⟩
theorem new_t {n c : Nat} {g : Fn} : ∀ σ H Q, tE G W (eNew c g n as) σ H Q → (tA' G W as) σ H fun vs H1 => ∀ x dx, H1 x = none → H1 dx = none → dx ≠ x →
    spF G (n + 1) g (.ref x :: vs) (upd (upd H1 dx (.own x)) x (.ins (G.cls c) dx [])) (fun v H2 => v = .non ∧ Q (.ref x) H2) E0 := fun σ H Q ⟨F, A, ρ, L, S, l, r0, q⟩ => by
  refine ⟨F, A, ρ, L, S, l, r0, EvOk.bind q fun vs S1 A1 ρ1 H1 x1 r1 q1 ws rws x dx hx hd ne => ?_⟩
  split at q1
  · rename_i hn
    obtain ⟨x2, r2⟩ := r1.make (c := c) hx hd ne
    have ex : (ρ1 ++ [x])[S1.length]? = some x := by
      rw [List.getElem?_append_right (by rw [r1.len]; exact Nat.le_refl _), r1.len, Nat.sub_self]
      rfl
    refine ⟨F, _, ρ1 ++ [x], .ref S1.length :: vs, S1 ++ [.obj c []], ⟨_, ws, rfl, ⟨x, ex, rfl⟩, rws.mv x2 r1⟩, by rw [List.length_cons, hn], r2, ?_⟩
    have q2 := EvOk.shift x2 q1
    revert q2
    cases g (.ref S1.length :: vs) (S1 ++ [.obj c []]) with
    | bad => exact fun q => q.elim
    | ex y S' => exact fun q => q.elim
    | ok v S' =>
      cases v with
      | ref _ => exact fun q => q.elim
      | vt _ => exact fun q => q.elim
      | exc _ _ _ _ => exact fun q => q.elim
      | d y =>
        cases y with
        | non =>
          intro q2 A' ρ' H' x3 r3 w rw
          refine ⟨rw, q2 A' ρ' H' x3 r3 (.ref x) ⟨x, ?_, rfl⟩⟩
          obtain ⟨t, e⟩ := x3.pre
          rw [← e, List.getElem?_append_left (List.getElem?_eq_some_iff.mp ex).1]
          exact ex
        | _ => exact fun q => q.elim
  · exact q1.elim
theorem new_ {n c : Nat} {g : Fn} (h : PE X e (tMake (G.cls c) (spF G (n + 1) g) [] E0 (tA' G W as))) : PE X e (tE G W (eNew c g n as)) := PE.imp h fun σ H Q q => by
  obtain ⟨F, A, ρ, L, S, l, r0, q⟩ := new_t σ H Q q
  exact ⟨F, A, ρ, L, S, l, r0, EvOk.mono (fun A' ρ' H' v k ws rws x dx h1 h2 h3 => by rw [List.append_nil]; exact k ws rws x dx h1 h2 h3) (fun _ _ _ z => z) q⟩
theorem new0_ {c : Nat} {g : Fn} (h : PE X e (tMake (G.cls c) (spF G 1 g) [] E0 tNil)) : PE X e (tE G W (eNew c g 0 aN)) := PE.imp h fun σ H Q q => by
  obtain ⟨F, A, ρ, L, S, l, r0, q⟩ := new_t σ H Q q
  exact q A ρ H Ext.refl r0 [] rfl

/-! ### own dicts -/
def keyD : D → Option Key
  | .int i => some (.inl i)
  | .str x => some (.inr x)
  | _ => none
def dLook (ks : List Key) (ds : List D) (k : Key) : Option D := ((ks.zip ds).find? fun kv => decide (kv.1 = k)).map (·.2)
def hasK (ks : List Key) (k : Key) : Bool := ks.any fun x => decide (x = k)
def setDs (ks : List Key) (ds : List D) (k : Key) (d : D) : List D := match ks, ds with
  | a :: ks, x :: ds => (if a = k then d else x) :: setDs ks ds k d
  | _, _ => []
def putC (ks : List Key) (ds : List D) (k : Key) (d : D) : Cell := if hasK ks k = true then .dic ks (setDs ks ds k d) else .dic (ks ++ [k]) (ds ++ [d])
theorem keyD_rep {x : D} {k : Key} {v : V} (e : keyD x = some k) (h : RepD K A H x v) : v = kV k := by
  cases x with
  | int i => cases e; exact h
  | str s => cases e; exact h
  | _ => cases e
theorem dLook_rep {ks : List Key} : ∀ {ds : List D} {vs : List V} {k : Key}, ks.length = ds.length → RepDs K A H ds vs →
    match dLook ks ds k with
    | some d => ∃ v, valV (ks.zip vs) k = some v ∧ RepD K A H d v
    | none => valV (ks.zip vs) k = none := by
  induction ks with
  | nil => intro ds vs k _ _; exact rfl
  | cons a ks ih =>
    intro ds vs k hl h
    cases ds with
    | nil => simp at hl
    | cons d ds =>
      obtain ⟨v, t, rfl, p, q⟩ := h
      have ih := ih (ds := ds) (vs := t) (k := k) (by simpa using hl) q
      unfold dLook valV at ih ⊢
      rw [List.zip_cons_cons, List.zip_cons_cons, List.find?_cons, List.find?_cons]
      by_cases hk : a = k
      · simp only [hk, decide_true]
        exact ⟨v, rfl, p⟩
      · simp only [hk, decide_false]
        exact ih
theorem setDs_rep : ∀ {ks : List Key} {ds : List D} {vs : List V} {k : Key} {d : D} {v : V}, ks.length = ds.length → RepDs K A H ds vs → RepD K A H d v →
    ∃ vs', (ks.zip vs).map (fun kv => if kv.1 = k then (kv.1, v) else kv) = ks.zip vs' ∧ (setDs ks ds k d).length = ds.length ∧ RepDs K A H (setDs ks ds k d) vs'
  | [], [], vs, k, d, v, _, _, _ => ⟨[], by simp, rfl, rfl⟩
  | [], _ :: _, _, _, _, _, h, _, _ => by simp at h
  | _ :: _, [], _, _, _, _, h, _, _ => by simp at h
  | a :: ks, x :: ds, vs, k, d, v, hl, h, g => by
    obtain ⟨u, t, rfl, p, q⟩ := h
    obtain ⟨vs', e1, e2, e3⟩ := setDs_rep (ks := ks) (ds := ds) (vs := t) (k := k) (by simpa using hl) q g
    unfold setDs
    by_cases hk : a = k
    · refine ⟨v :: vs', ?_, by rw [List.length_cons, e2, List.length_cons], v, vs', rfl, by rw [if_pos hk]; exact g, e3⟩
      rw [List.zip_cons_cons, List.map_cons, e1, List.zip_cons_cons, if_pos hk]
    · refine ⟨u :: vs', ?_, by rw [List.length_cons, e2, List.length_cons], u, vs', rfl, by rw [if_neg hk]; exact p, e3⟩
      rw [List.zip_cons_cons, List.map_cons, e1, List.zip_cons_cons, if_neg hk]
theorem any_zip {ks : List Key} : ∀ {vs : List V} {k : Key}, ks.length = vs.length → (ks.zip vs).any (fun kv => decide (kv.1 = k)) = hasK ks k := by
  induction ks with
  | nil => intro vs k _; rfl
  | cons a ks ih =>
    intro vs k hl
    cases vs with
    | nil => simp at hl
    | cons v vs =>
      have := ih (vs := vs) (k := k) (by simpa using hl)
      unfold hasK at this ⊢
      rw [List.zip_cons_cons, List.any_cons, List.any_cons, this]
def eDicO : SE := fun _ S => .ok (.ref S.length) (S ++ [.dic [] []])
theorem dicO_ (h : PE X e tDNewK) : PE X e (tE G W eDicO) := PE.imp h fun σ H Q ⟨F, A, ρ, L, S, l, r0, q⟩ p hp => by
  obtain ⟨x, r'⟩ := r0.push (c := .dic [] []) hp (o := .dK []) True.intro (fun _ z => nomatch z) fun x => ⟨[], by rw [upd_same]; rfl, rfl, rfl⟩
  refine q _ _ _ x r' (.ref p) ⟨p, ?_, rfl⟩
  rw [List.getElem?_append_right (by rw [r0.len]; exact Nat.le_refl _), r0.len, Nat.sub_self]
  rfl
def dicOf (o : Option Cell) : Option (List Key × List D) := match o with
  | some (.dic ks ds) => some (ks, ds)
  | some (.ldk ks ds) => some (ks, ds)
  | _ => none
def dicV (S : Store) (v : Val) : Option (List Key × List D) := match v with
  | .ref n => dicOf S[n]?
  | _ => none
theorem dicV_some {v : Val} {ks : List Key} {ds : List D} (h : dicV S v = some (ks, ds)) : ∃ n, v = .ref n ∧ (S[n]? = some (.dic ks ds) ∨ S[n]? = some (.ldk ks ds)) := by
  unfold dicV at h
  split at h
  · rename_i n
    unfold dicOf at h
    split at h
    · rename_i ks' ds' e; cases h; exact ⟨n, rfl, .inl e⟩
    · rename_i ks' ds' e; cases h; exact ⟨n, rfl, .inr e⟩
    · cases h
  · cases h
theorem RS.dicR (r : RS G F A ρ S H) {n : Nat} {ks : List Key} {ds : List D} {w : V} (e : S[n]? = some (.dic ks ds) ∨ S[n]? = some (.ldk ks ds)) (h : RepV G.K A H ρ (.ref n) w) :
    ∃ a vs, w = .ref a ∧ ρ[n]? = some a ∧ Rd H a (.dK (ks.zip vs)) ∧ ks.length = ds.length ∧ RepDs G.K A H ds vs := by
  obtain ⟨a, e1, rfl⟩ := h
  rcases e with e | e
  · obtain ⟨a', e3, vs, h1, h2, h3⟩ := r.cells n _ e
    rw [e1] at e3; cases e3
    exact ⟨a, vs, rfl, e1, .inl h1, h2, h3⟩
  · obtain ⟨a', e3, vs, h1, h2, h3⟩ := r.cells n _ e
    rw [e1] at e3; cases e3
    exact ⟨a, vs, rfl, e1, .inr h1, h2, h3⟩
/-- what may be written -/
def dicWOf (o : Option Cell) : Option (List Key × List D) := match o with
  | some (.dic ks ds) => some (ks, ds)
  | _ => none
def dicWV (S : Store) (v : Val) : Option (List Key × List D) := match v with
  | .ref n => dicWOf S[n]?
  | _ => none
theorem dicWV_some {v : Val} {ks : List Key} {ds : List D} (h : dicWV S v = some (ks, ds)) : ∃ n, v = .ref n ∧ S[n]? = some (.dic ks ds) := by
  unfold dicWV at h
  split at h
  · rename_i n
    unfold dicWOf at h
    split at h
    · rename_i ks' ds' e; cases h; exact ⟨n, rfl, e⟩
    · cases h
  · cases h
theorem RS.dic (r : RS G F A ρ S H) {n : Nat} {ks : List Key} {ds : List D} {w : V} (e : S[n]? = some (.dic ks ds)) (h : RepV G.K A H ρ (.ref n) w) :
    ∃ a vs, w = .ref a ∧ ρ[n]? = some a ∧ H a = some (.dK (ks.zip vs)) ∧ ks.length = ds.length ∧ RepDs G.K A H ds vs := by
  obtain ⟨a, e1, rfl⟩ := h
  obtain ⟨a', e3, vs, h1, h2, h3⟩ := r.cells n _ e
  rw [e1] at e3; cases e3
  exact ⟨a, vs, rfl, e1, h1, h2, h3⟩
def keyV (v : Val) : Option Key := match v with
  | .d x => keyD x
  | _ => none
theorem keyV_rep {v : Val} {k : Key} {w : V} (e : keyV v = some k) (h : RepV K A H ρ v w) : w = kV k := by
  cases v with
  | d x => exact keyD_rep e h
  | ref _ => cases e
  | vt _ => cases e
  | exc _ _ _ _ => cases e
def inDic (neg : Bool) (k : Option Key) (d : Option (List Key × List D)) (S : Store) : R Val := match k, d with
  | some k, some (ks, ds) => .ok (.d (.bl (if neg then !(dLook ks ds k).isSome else (dLook ks ds k).isSome))) S
  | _, _ => .bad
def eInDic (neg : Bool) (a b : SE) : SE := fun L S => (a L S).bind fun v S1 => (b L S1).bind fun w S2 => inDic neg (keyV v) (dicV S2 w) S2
theorem inDic_t {neg : Bool} : ∀ σ H Q, tE G W (eInDic neg fa fb) σ H Q → tE G W fa σ H fun y H1 => tE G W fb σ H1 fun x H2 => ∃ a o, x = .ref a ∧ DGet H2 a y o ∧ Q (.bl (if neg then !o.isSome else o.isSome)) H2 := fun σ H Q ⟨F, A, ρ, L, S, l, r0, q⟩ => by
  refine ⟨F, A, ρ, L, S, l, r0, EvOk.bind q fun v S1 A1 ρ1 H1 x1 r1 q1 y rw1 => ?_⟩
  refine ⟨F, A1, ρ1, L, S1, l.mv x1 r0, r1, EvOk.bind q1 fun v2 S2 A2 ρ2 H2 x2 r2 q2 w rw2 => ?_⟩
  unfold inDic at q2
  split at q2
  · rename_i k ks ds e1 e2
    obtain ⟨n, rfl, e3⟩ := dicV_some e2
    obtain ⟨a, vs, rfl, ea, h1, h2, h3⟩ := r2.dicR e3 rw2
    have hy := keyV_rep e1 rw1
    subst hy
    refine ⟨a, _, rfl, .inl ⟨_, _, h1, rfl, rfl⟩, ?_⟩
    have hd := dLook_rep (k := k) h2 h3
    have e : (valV (ks.zip vs) k).isSome = (dLook ks ds k).isSome := by
      revert hd
      cases dLook ks ds k with
      | none => intro hd; rw [show valV (ks.zip vs) k = none from hd]; rfl
      | some d => intro ⟨v, hv, _⟩; rw [hv]; rfl
    rw [e]
    exact q2 A2 ρ2 H2 Ext.refl r2 _ rfl
  · exact q2.elim
theorem din_ (hu : X.A.units + 1 < cLine) (ha : PE X a (tE G W fa)) (hb : PE X b (tE G W fb)) (hm : behindInMarks .In b = false) : PE X (.Compare a [.In] [b] pos) (tE G W (eInDic false fa fb)) := PE.imp (pe_cmp (pc_din hu ha hb) hm) fun σ H Q q => inDic_t σ H Q q
theorem dnotin_ (hu : X.A.units + 1 < cLine) (ha : PE X a (tE G W fa)) (hb : PE X b (tE G W fb)) (hm : behindInMarks .NotIn b = false) : PE X (.Compare a [.NotIn] [b] pos) (tE G W (eInDic true fa fb)) := PE.imp (pe_cmp (pc_dnotin hu ha hb) hm) fun σ H Q q => inDic_t σ H Q q
theorem tdin_ (hu : X.A.units + 1 < cLine) (ha : PE X a (tE G W fa)) (hb : PE X b (tE G W fb)) (hm : behindInMarks .In b = false) : PT X (.Compare a [.In] [b] pos) (tB' G W (bE (eInDic false fa fb))) := PT.imp (pt_cmp (pc_din hu ha hb) hm) fun σ H Q q => inDic_t σ H _ (bE_t σ H Q q)
theorem tdnotin_ (hu : X.A.units + 1 < cLine) (ha : PE X a (tE G W fa)) (hb : PE X b (tE G W fb)) (hm : behindInMarks .NotIn b = false) : PT X (.Compare a [.NotIn] [b] pos) (tB' G W (bE (eInDic true fa fb))) := PT.imp (pt_cmp (pc_dnotin hu ha hb) hm) fun σ H Q q => inDic_t σ H _ (bE_t σ H Q q)
def getDic (d : Option (List Key × List D)) (k : Option Key) (S : Store) : R Val := match d, k with
  | some (ks, ds), some k => R.of (dLook ks ds k) S
  | _, _ => .bad
def eGetDic (a b : SE) : SE := fun L S => (a L S).bind fun v S1 => (b L S1).bind fun w S2 => getDic (dicV S2 v) (keyV w) S2
theorem getdic_ (hu : X.A.units + 1 < cLine) (ha : PE X a (tE G W fa)) (hb : PE X b (tE G W fb)) (hs : NoSl b) : PE X (.Subscript a b pos) (tE G W (eGetDic fa fb)) := PE.imp (pe_dget hu ha hb hs) fun σ H Q ⟨F, A, ρ, L, S, l, r0, q⟩ => by
  refine ⟨F, A, ρ, L, S, l, r0, EvOk.bind q fun v S1 A1 ρ1 H1 x1 r1 q1 y rw1 => ?_⟩
  refine ⟨F, A1, ρ1, L, S1, l.mv x1 r0, r1, EvOk.bind q1 fun v2 S2 A2 ρ2 H2 x2 r2 q2 w rw2 => ?_⟩
  unfold getDic at q2
  split at q2
  · rename_i ks ds k e2 e1
    obtain ⟨n, rfl, e3⟩ := dicV_some e2
    obtain ⟨a, vs, rfl, ea, h1, h2, h3⟩ := r2.dicR e3 (rw1.mv x2 r1)
    have hy := keyV_rep e1 rw2
    subst hy
    obtain ⟨z, ez, q3⟩ := of_ok q2
    have hd := dLook_rep (k := k) h2 h3
    rw [ez] at hd
    obtain ⟨v, hv, p⟩ := hd
    exact ⟨a, v, rfl, hv ▸ .inl ⟨_, _, h1, rfl, rfl⟩, q3 A2 ρ2 H2 Ext.refl r2 v p⟩
  · exact q2.elim
def putDic (L : Loc) (v : Val) (d : Option (List Key × List D)) (k : Option Key) (w : Val) (S : Store) : SR := match v, d, k, w with
  | .ref n, some (ks, ds), some k, .d x => if ks.length < sizeLine then .nx L (S.set n (putC ks ds k x)) else .bad
  | _, _, _, _ => .bad
def sPutDic (o k e : SE) : SS := fun L S => (e L S).to L fun w S1 => (o L S1).to L fun v S2 => (k L S2).to L fun u S3 => putDic L v (dicWV S3 v) (keyV u) w S3
theorem putdic_ (h : PS X st (sDPut (tE G W fa) (tE G W fb) (tE G W fc))) : PS X st (tS G W (sPutDic fa fb fc)) := PS.imp h fun D σ H ⟨F, A, ρ, L, S, l, r0, q⟩ => by
  refine ⟨F, A, ρ, L, S, l, r0, st_ok r0 l q fun w S1 A1 ρ1 H1 x1 r1 q1 y rw1 => ?_⟩
  have l1 := l.mv x1 r0
  refine ⟨F, A1, ρ1, L, S1, l1, r1, st_ok r1 l1 q1 fun v S2 A2 ρ2 H2 x2 r2 q2 z rw2 => ?_⟩
  have l2 := l1.mv x2 r1
  refine ⟨F, A2, ρ2, L, S2, l2, r2, st_ok r2 l2 q2 fun u S3 A3 ρ3 H3 x3 r3 q3 t rw3 => ?_⟩
  have l3 := l2.mv x3 r2
  cases v with
  | d _ => exact q3.elim
  | vt _ => exact q3.elim
  | exc _ _ _ _ => exact q3.elim
  | ref n =>
    cases e2 : dicWV S3 (.ref n) with
    | none => rw [e2] at q3; exact q3.elim
    | some p =>
      obtain ⟨ks, ds⟩ := p
      rw [e2] at q3
      cases e1 : keyV u with
      | none => rw [e1] at q3; exact q3.elim
      | some k =>
        rw [e1] at q3
        cases w with
        | ref _ => exact q3.elim
        | vt _ => exact q3.elim
        | exc _ _ _ _ => exact q3.elim
        | d x =>
          obtain ⟨n', en, e3⟩ := dicWV_some e2
          cases en
          obtain ⟨a, vs, rfl, ea, h1, h2, h3⟩ := r3.dic e3 (rw2.mv x3 r2)
          have hy := keyV_rep e1 rw3
          subst hy
          have hvl := h3.len
          have px : RepD G.K A3 H3 x y := RepD.mv x3 r2 x y (RepD.mv x2 r1 x y rw1)
          have q4 : StOk G F W D A3 ρ3 H3 (if ks.length < sizeLine then .nx L (S3.set n (putC ks ds k x)) else .bad) := q3
          by_cases hz : ks.length < sizeLine
          · rw [if_pos hz] at q4
            have kl : (ks.zip vs).length < sizeLine := by rw [List.length_zip]; omega
            refine ⟨a, _, rfl, DPut.k h1 kl, ?_⟩
            unfold putK
            rw [any_zip (by omega)]
            unfold putC at q4
            by_cases hk : hasK ks k = true
            · rw [if_pos hk] at q4 ⊢
              obtain ⟨vs', g1, g2, g3⟩ := setDs_rep (k := k) h2 h3 px
              rw [g1]
              obtain ⟨x4, r4⟩ := r3.write (o := .dK (ks.zip vs')) (c := .dic ks (setDs ks ds k x)) ea True.intro e3 (fun _ z => nomatch z) (fun _ z => nomatch z) fun x => ⟨vs', upd_same, by rw [g2]; exact h2, RepDs.mv x r3 _ _ g3⟩
              exact q4 A3 ρ3 _ σ x4 r4 (l3.mv x4 r3)
            · rw [if_neg hk] at q4 ⊢
              have ez : ks.zip vs ++ [(k, y)] = (ks ++ [k]).zip (vs ++ [y]) := by rw [List.zip_append (by omega)]; rfl
              rw [ez]
              obtain ⟨x4, r4⟩ := r3.write (o := .dK ((ks ++ [k]).zip (vs ++ [y]))) (c := .dic (ks ++ [k]) (ds ++ [x])) ea True.intro e3 (fun _ z => nomatch z) (fun _ z => nomatch z) fun x' => ⟨vs ++ [y], upd_same, by simp [h2], RepDs.mv x' r3 _ _ (h3.app (es := [x]) (us := [y]) ⟨y, [], rfl, px, rfl⟩)⟩
              exact q4 A3 ρ3 _ σ x4 r4 (l3.mv x4 r3)
          · rw [if_neg hz] at q4; exact q4.elim

/-! ### for i in reversed(range(n)) -/
def rngR : Nat → List D
  | 0 => []
  | n + 1 => .int n :: rngR n
theorem rngR_get : ∀ {n i : Nat}, i < n → (rngR n)[i]? = some (.int ((n : Int) - 1 - i))
  | n + 1, 0, _ => by
    show some (D.int (n : Int)) = _
    congr 2; omega
  | n + 1, i + 1, h => by
    show (rngR n)[i]? = _
    rw [rngR_get (by omega)]
    congr 2; omega
theorem rngR_len : ∀ n, (rngR n).length = n
  | 0 => rfl
  | n + 1 => by show (rngR n).length + 1 = _; rw [rngR_len n]
theorem rngR_rep : ∀ n : Nat, ∃ vs, RepDs K A H (rngR n) vs ∧ vs.length = n ∧ ∀ i, i < n → vs[i]? = some (.int ((n : Int) - 1 - i))
  | 0 => ⟨[], rfl, rfl, fun i h => absurd h (by omega)⟩
  | n + 1 => by
    obtain ⟨vs, h1, h2, h3⟩ := rngR_rep n
    refine ⟨.int n :: vs, ⟨_, vs, rfl, rfl, h1⟩, by rw [List.length_cons, h2], fun i h => ?_⟩
    cases i with
    | zero => rw [List.getElem?_cons_zero]; congr 2; omega
    | succ i => rw [List.getElem?_cons_succ, h3 i (by omega)]; congr 2; omega
def revR (v : Val) (S : Store) : R (List D) := match v with
  | .d (.int j) => if -(2 ^ 62) ≤ j ∧ j < 2 ^ 62 then .ok (rngR j.toNat) S else .bad
  | _ => .bad
def iRv1 (e : SE) : SI := fun L S => (e L S).bind revR
theorem iRv1_ {tg : Expr} (h : PI X tg e (iRevR (tRg1 (tE G W fa)))) : PI X tg e (tI G W (iRv1 fa)) := PI.imp h fun σ H Q ⟨F, A, ρ, L, S, l, r, q⟩ => by
  refine ⟨F, A, ρ, L, S, l, r, EvOk.bind (k := revR) q fun v S1 A1 ρ1 H1 x1 r1 q1 w rw1 => ?_⟩
  unfold revR at q1
  split at q1
  · rename_i j
    split at q1
    · rename_i c
      rw [show w = _ from rw1]
      refine ⟨j, rfl, by decide, by decide, c.1, c.2, ?_⟩
      rw [Int.sub_zero]
      obtain ⟨vs, h1, h2, h3⟩ := rngR_rep (K := G.K) (A := A1) (H := H1) j.toNat
      refine q1 A1 ρ1 H1 Ext.refl r1 _ <| .inl ⟨vs, h1, fun A2 ρ2 H2 x => ⟨fun i hi => (show i < j.toNat by omega), fun i hi => (show j.toNat ≤ i by omega), fun i y H3 hi z => ⟨z.1, ?_⟩⟩⟩
      rw [z.2, h3 i (by omega)]
      congr 2; omega
    · exact q1.elim
  · exact q1.elim

/-! ### a op b op' c op'' d -/
def bThen (o : Option D) (k : R Val) (S : Store) : R Val := match o with
  | some (.bl true) => k
  | some (.bl false) => .ok (.d (.bl false)) S
  | _ => .bad
def opt2 (f : D → D → Option D) (x y : Option D) : Option D := match x, y with
  | some x, some y => f x y
  | _, _ => none
theorem opt2_some {f : D → D → Option D} {x y : Option D} {z : D} (h : opt2 f x y = some z) : ∃ x' y', x = some x' ∧ y = some y' ∧ f x' y' = some z := by
  unfold opt2 at h
  split at h
  · exact ⟨_, _, rfl, rfl, h⟩
  · cases h
def eChain3 (f f' f'' : D → D → Option D) (a b c d : SE) : SE := fun L S => (a L S).bind fun v S1 => (b L S1).bind fun w S2 => bThen (opt2 f (top S2 v) (top S2 w)) ((c L S2).bind fun u S3 => bThen (opt2 f' (top S3 w) (top S3 u)) ((d L S3).bind fun t S4 => R.of (opt2 f'' (top S4 u) (top S4 t)) S4) S3) S2
def tChain3 (r r' r'' : R2) (ta tb tc td : TE) : TE := fun σ H Q => ta σ H fun x H1 => tb σ H1 fun y H2 => r x y H2 fun z H3 => ∃ k, z = .bl k ∧
  (if k = true then tc σ H3 fun w' H4 => r' y w' H4 fun z' H5 => ∃ k', z' = .bl k' ∧ (if k' = true then td σ H5 fun v' H6 => r'' w' v' H6 Q else Q (.bl false) H5) else Q (.bl false) H3)
open PyProof.Rows in
theorem pe_chain3 {d : Expr} {ta tb tc td : TE} {op op' op'' : CmpOp} {r r' r'' : R2} (ho : OpR X (compareOp op) r) (ho' : OpR X (compareOp op') r') (ho'' : OpR X (compareOp op'') r'') (ha : PE X a ta) (hb : PE X b tb) (hc : PE X c tc) (hd : PE X d td)
    (hm : lastMarks [op, op', op''] [b, c, d] = false := by with_unfolding_all rfl) : PE X (.Compare a [op, op', op''] [b, c, d] pos) (tChain3 r r' r'' ta tb tc td) := by
  constructor
  intro pins s σ H Q I h
  refine PyProof.Rows.Compare_chain (thn (ha.run pins s σ H _ I h) fun v s1 g1 => ?_) hm
  obtain ⟨x, H1, I1, r1, q1⟩ := g1
  refine PyProof.Rows.chain_link (thn (hb.run pins s1 σ H1 _ I1 q1) fun u s2 g2 => ?_)
  obtain ⟨y, H2, I2, r2, q2⟩ := g2
  refine thn (ho pins s2 σ H2 x y v u _ I2 r1 r2 q2) fun d0 s3 g3 => ?_
  obtain ⟨z, H3, I3, r3, k, e, q3⟩ := g3
  subst e
  cases r3
  refine wpAny_truthy_bool ?_
  cases k with
  | false => exact ite_ff ⟨.bl false, H3, I3, rfl, q3⟩
  | true =>
    refine ite_tt (PyProof.Rows.chain_link (thn (hc.run pins s3 σ H3 _ I3 q3) fun u2 s4 g4 => ?_))
    obtain ⟨y2, H4, I4, r4, q4⟩ := g4
    refine thn (ho' pins s4 σ H4 y y2 u u2 _ I4 r2 r4 q4) fun d1 s5 g5 => ?_
    obtain ⟨z2, H5, I5, r5, k2, e2, q5⟩ := g5
    subst e2
    cases r5
    refine wpAny_truthy_bool ?_
    cases k2 with
    | false => exact ite_ff ⟨.bl false, H5, I5, rfl, q5⟩
    | true =>
      refine ite_tt (PyProof.Rows.chain_last (thn (hd.run pins s5 σ H5 _ I5 q5) fun u3 s6 g6 => ?_))
      obtain ⟨y3, H6, I6, r6, q6⟩ := g6
      exact ho'' pins s6 σ H6 y2 y3 u2 u3 Q I6 r4 r6 q6
theorem bThen_ok {P : (Addr → Prop) → List Addr → Hp → Val → Prop} {E : Value → Option Addr → Hp → Prop} {o : Option D} {k : R Val} (q : EvOk G F P E A ρ H (bThen o k S)) :
    (o = some (.bl true) ∧ EvOk G F P E A ρ H k) ∨ (o = some (.bl false) ∧ EvOk G F P E A ρ H (.ok (.d (.bl false)) S)) := by
  unfold bThen at q
  split at q
  · exact .inl ⟨rfl, q⟩
  · exact .inr ⟨rfl, q⟩
  · exact q.elim
theorem chain3_t {fd : SE} {r r' r'' : R2} {f f' f'' : D → D → Option D} (hs : Snd2 G.K r f) (hs' : Snd2 G.K r' f') (hs'' : Snd2 G.K r'' f'') : ∀ σ H Q, tE G W (eChain3 f f' f'' fa fb fc fd) σ H Q → tChain3 r r' r'' (tE G W fa) (tE G W fb) (tE G W fc) (tE G W fd) σ H Q := fun σ H Q ⟨F, A, ρ, L, S, l, r0, q⟩ => by
  refine ⟨F, A, ρ, L, S, l, r0, EvOk.bind q fun v S1 A1 ρ1 H1 x1 r1 q1 w rw1 => ?_⟩
  have l1 := l.mv x1 r0
  refine ⟨F, A1, ρ1, L, S1, l1, r1, EvOk.bind q1 fun v2 S2 A2 ρ2 H2 x2 r2 q2 w2 rw2 => ?_⟩
  have rw1' := rw1.mv x2 r1
  have l2 := l1.mv x2 r1
  rcases bThen_ok q2 with ⟨e0, q3⟩ | ⟨e0, q3⟩
  · obtain ⟨x, y, e1, e2, e3⟩ := opt2_some e0
    refine hs G F A2 ρ2 S2 H2 x y _ w w2 _ rfl r2 (r2.top rw1' e1) (r2.top rw2 e2) e3 fun H' u xe re rd => ⟨true, rd, ?_⟩
    refine ⟨F, A2, ρ2, L, S2, l2.mv xe r2, re, EvOk.bind (EvOk.shift xe q3) fun v3 S3 A3 ρ3 H3 x3 r3 q4 w3 rw3 => ?_⟩
    have rw2' := (rw2.mv xe r2).mv x3 re
    have l3 := (l2.mv xe r2).mv x3 re
    rcases bThen_ok q4 with ⟨e4, q5⟩ | ⟨e4, q5⟩
    · obtain ⟨y', z, e5, e6, e7⟩ := opt2_some e4
      refine hs' G F A3 ρ3 S3 H3 y' z _ w2 w3 _ rfl r3 (r3.top rw2' e5) (r3.top rw3 e6) e7 fun H4 u4 xe4 re4 rd4 => ⟨true, rd4, ?_⟩
      refine ⟨F, A3, ρ3, L, S3, l3.mv xe4 r3, re4, EvOk.bind (EvOk.shift xe4 q5) fun v5 S5 A5 ρ5 H5 x5 r5 q6 w5 rw5 => ?_⟩
      obtain ⟨z', ez, q7⟩ := of_ok q6
      obtain ⟨z1, z2, e8, e9, e10⟩ := opt2_some ez
      exact hs'' G F A5 ρ5 S5 H5 z1 z2 z' w3 w5 Q rfl r5 (r5.top ((rw3.mv xe4 r3).mv x5 re4) e8) (r5.top rw5 e9) e10 fun H6 u6 xe6 re6 rd6 => q7 A5 ρ5 H6 xe6 re6 u6 rd6
    · obtain ⟨y', z, e5, e6, e7⟩ := opt2_some e4
      refine hs' G F A3 ρ3 S3 H3 y' z _ w2 w3 _ rfl r3 (r3.top rw2' e5) (r3.top rw3 e6) e7 fun H4 u4 xe4 re4 rd4 => ⟨false, rd4, ?_⟩
      exact q5 A3 ρ3 H4 xe4 re4 _ rfl
  · obtain ⟨x, y, e1, e2, e3⟩ := opt2_some e0
    refine hs G F A2 ρ2 S2 H2 x y _ w w2 _ rfl r2 (r2.top rw1' e1) (r2.top rw2 e2) e3 fun H' u xe re rd => ⟨false, rd, ?_⟩
    exact q3 A2 ρ2 H' xe re _ rfl
theorem chain3_ {d : Expr} {fd : SE} {op op' op'' : CmpOp} {r r' r'' : R2} {f f' f'' : D → D → Option D} (ho : OpR X (compareOp op) r) (ho' : OpR X (compareOp op') r') (ho'' : OpR X (compareOp op'') r'') (hs : Snd2 G.K r f) (hs' : Snd2 G.K r' f') (hs'' : Snd2 G.K r'' f'')
    (ha : PE X a (tE G W fa)) (hb : PE X b (tE G W fb)) (hc : PE X c (tE G W fc)) (hd : PE X d (tE G W fd)) (hm : lastMarks [op, op', op''] [b, c, d] = false := by with_unfolding_all rfl) : PE X (.Compare a [op, op', op''] [b, c, d] pos) (tE G W (eChain3 f f' f'' fa fb fc fd)) :=
  PE.imp (pe_chain3 ho ho' ho'' ha hb hc hd hm) (chain3_t hs hs' hs'')
end Ev
set_option linter.all false
set_option Elab.async false
set_option maxRecDepth 100000
/-! own lists that are walked: locked for as long -/
namespace Ev
open PySem L2 PySem.Spec
variable {F F1 A A1 A2 : Addr → Prop} {ρ ρ1 ρ2 : List Addr} {H H1 H2 : Hp} {K : PySem.W.Frag} {G : PC} {S S1 S2 : Store} {X : Cx} {W : WX}
variable {a b c e o : Expr} {es : List Expr} {fa fb fc : SE} {as : SA} {pos : Pos} {st : Stmt}
abbrev plus (F : Addr → Prop) (x : Addr) : Addr → Prop := fun a => F a ∨ a = x
theorem Ext.less {x : Addr} (h : Ext (plus F x) A ρ H A1 ρ1 H1) : Ext F A ρ H A1 ρ1 H1 :=
  ⟨h.pre, fun a o n e => h.fr a o (fun z => .inl (n z)) e, h.st, h.up, h.nw, h.nr⟩
theorem RS.lock (r : RS G F A ρ S H) {n : Nat} {x : Addr} {ds : List D} (ex : ρ[n]? = some x) (e0 : S[n]? = some (.lst ds)) : RS G (plus F x) A ρ (S.set n (.lck ds)) H := by
  have hn := (List.getElem?_eq_some_iff.mp e0).1
  refine ⟨r.sub, r.trk, r.nd, by rw [List.length_set]; exact r.len, r.own, fun a h => h.elim (r.fin a) fun h => by rw [h]; exact List.mem_of_getElem? ex, fun m a c e1 e2 => ?_, fun m c e => ?_⟩
  · by_cases hm : m = n
    · subst hm
      rw [List.getElem?_set_self hn] at e2
      cases e2
      rw [ex] at e1; cases e1
      exact ⟨fun _ => True.intro, fun _ => .inr rfl⟩
    · rw [List.getElem?_set_ne (Ne.symm hm)] at e2
      have hl := r.lk m a c e1 e2
      refine ⟨fun z => z.elim hl.mp fun z => ?_, fun z => .inl (hl.mpr z)⟩
      subst z
      obtain ⟨h1, e1⟩ := List.getElem?_eq_some_iff.mp e1
      obtain ⟨h2, e3⟩ := List.getElem?_eq_some_iff.mp ex
      exact (hm ((List.getElem_inj r.nd).mp (e1.trans e3.symm))).elim
  · by_cases hm : m = n
    · subst hm
      rw [List.getElem?_set_self hn] at e
      cases e
      obtain ⟨a, e1, vs, h1, h2⟩ := r.cells m _ e0
      exact ⟨a, e1, vs, h1, h2⟩
    · rw [List.getElem?_set_ne (Ne.symm hm)] at e
      exact r.cells m c e
theorem RS.unlock (r : RS G F A ρ S H) {n : Nat} {x : Addr} {ds : List D} (ex : ρ[n]? = some x) (e0 : S[n]? = some (.lst ds)) (y : Ext (plus F x) A ρ H A1 ρ1 H1) (r1 : RS G (plus F x) A1 ρ1 S1 H1) : RS G F A1 ρ1 (S1.set n (.lst ds)) H1 := by
  have nF : ¬ F x := fun z => (r.lk n x _ ex e0).mp z
  have ex1 : ρ1[n]? = some x := by
    obtain ⟨t, e⟩ := y.pre
    rw [← e, List.getElem?_append_left (List.getElem?_eq_some_iff.mp ex).1]
    exact ex
  have hn : n < S1.length := by
    rw [← r1.len]
    exact (List.getElem?_eq_some_iff.mp ex1).1
  refine ⟨r1.sub, r1.trk, r1.nd, by rw [List.length_set]; exact r1.len, r1.own, fun a h => r1.fin a (.inl h), fun m a c e1 e2 => ?_, fun m c e => ?_⟩
  · by_cases hm : m = n
    · subst hm
      rw [List.getElem?_set_self hn] at e2
      cases e2
      rw [ex1] at e1; cases e1
      exact ⟨fun z => (nF z).elim, fun z => z.elim⟩
    · rw [List.getElem?_set_ne (Ne.symm hm)] at e2
      have hl := r1.lk m a c e1 e2
      refine ⟨fun z => hl.mp (.inl z), fun z => (hl.mpr z).elim (fun z => z) fun z => ?_⟩
      subst z
      obtain ⟨h1, e1⟩ := List.getElem?_eq_some_iff.mp e1
      obtain ⟨h2, e3⟩ := List.getElem?_eq_some_iff.mp ex1
      exact (hm ((List.getElem_inj r1.nd).mp (e1.trans e3.symm))).elim
  · by_cases hm : m = n
    · subst hm
      rw [List.getElem?_set_self hn] at e
      cases e
      obtain ⟨a, e1, vs, h1, h2⟩ := r.cells m _ e0
      rw [ex] at e1; cases e1
      exact ⟨x, ex1, vs, y.fr x _ (fun _ => .inr rfl) h1, RepDs.mv y.less r ds vs h2⟩
    · rw [List.getElem?_set_ne (Ne.symm hm)] at e
      exact r1.cells m c e
def SR.mapS (f : Store → Store) : SR → SR
  | .nx L S => .nx L (f S)
  | .rt v S => .rt v (f S)
  | .bk L S => .bk L (f S)
  | .ct L S => .ct L (f S)
  | .ex x L S => .ex x L (f S)
  | .bad => .bad
def lkC (n : Nat) (s : SS) (L : Loc) (S : Store) (c : Option Cell) : SR := match c with
  | some (.lst ds) => (s L (S.set n (.lck ds))).mapS fun S1 => S1.set n (.lst ds)
  | _ => .bad
def lkV (s : SS) (L : Loc) (S : Store) (v : Option (Option Val)) : SR := match v with
  | some (some (.ref n)) => lkC n s L S S[n]?
  | some (some (.d _)) => s L S
  | _ => .bad
/-- a statement while the own list in slot i is locked -/
def sLk (i : Nat) (s : SS) : SS := fun L S => lkV s L S L[i]?
theorem slk_ {i : Nat} {s : SS} (h : PS X st (tS G W s)) : PS X st (tS G W (sLk i s)) := PS.imp h fun D σ H ⟨F, A, ρ, L, S, l, r, q⟩ => by
  unfold sLk lkV at q
  split at q
  · rename_i n el
    unfold lkC at q
    split at q
    · rename_i ds e0
      obtain ⟨w, _, a, ex, _⟩ := l.2 i _ el
      refine ⟨plus F a, A, ρ, L, S.set n (.lck ds), l, r.lock ex e0, ?_⟩
      revert q
      cases s L (S.set n (.lck ds)) with
      | bad => exact fun q => q
      | nx L1 S1 => exact fun q A' ρ' H' σ' x r' l' => q A' ρ' H' σ' x.less (r.unlock ex e0 x r') l'
      | bk L1 S1 => exact fun q A' ρ' H' σ' x r' l' => q A' ρ' H' σ' x.less (r.unlock ex e0 x r') l'
      | ct L1 S1 => exact fun q A' ρ' H' σ' x r' l' => q A' ρ' H' σ' x.less (r.unlock ex e0 x r') l'
      | rt v S1 => exact fun q A' ρ' H' w x r' rw => q A' ρ' H' w x.less (r.unlock ex e0 x r') rw
      | ex y L1 S1 => exact fun q A' ρ' H' σ' cls d x r' l' rx => q A' ρ' H' σ' cls d x.less (r.unlock ex e0 x r') l' rx
    · exact q.elim
  · exact ⟨F, A, ρ, L, S, l, r, q⟩
  · exact q.elim
def itK (v : Val) (S : Store) : R (List D) := match v with
  | .ref n => (match S[n]? with
    | some (.lck ds) => .ok ds S
    | _ => .bad)
  | .d (.lst ds) => .ok ds S
  | .d (.scr ns) => .ok (ns.map .int) S
  | _ => .bad
/-- the items of a locked own list, or of one that nobody changes -/
def iLk (e : SE) : SI := fun L S => (e L S).bind itK
theorem iLk_ {tg : Expr} (hK : X.K = G.K) (h : PI X tg e (iList X.K (tE G W fa))) : PI X tg e (tI G W (iLk fa)) := PI.imp h fun σ H Q ⟨F, A, ρ, L, S, l, r, q⟩ => by
  refine ⟨F, A, ρ, L, S, l, r, EvOk.bind (k := itK) q fun v S1 A1 ρ1 H1 x1 r1 q1 w rw1 => ?_⟩
  rw [hK]
  unfold itK at q1
  split at q1
  · rename_i n
    split at q1
    · rename_i ds e2
      obtain ⟨a, e1, rfl⟩ := rw1
      obtain ⟨a', e3, vs, h1, h2⟩ := r1.cells n _ e2
      rw [e1] at e3; cases e3
      have hF : F a := (r1.lk n a _ e1 e2).mpr True.intro
      exact ⟨a, rfl, ⟨vs, SqL.of h1⟩, q1 A1 ρ1 H1 Ext.refl r1 _ (itl_rep h2 fun A2 ρ2 H2 x => SqL.of (x.fr a _ (fun _ => hF) h1))⟩
    · exact q1.elim
  · rename_i ds
    obtain ⟨a, vs, rfl, e1, na, p⟩ := rw1
    exact ⟨a, rfl, ⟨vs, SqL.of e1⟩, q1 A1 ρ1 H1 Ext.refl r1 _ (itl_rep p fun A2 ρ2 H2 x => SqL.of (x.fr a _ (fun z => (na (r1.sub a z)).elim) e1))⟩
  · rename_i ns
    obtain ⟨a, rfl, p⟩ := rw1
    refine ⟨a, rfl, ⟨ns.map V.int, p.elim (fun p => .inl p.1) fun p => p H1⟩, q1 A1 ρ1 H1 Ext.refl r1 _ (itl_rep (ints_rep ns) fun A2 ρ2 H2 x => ?_)⟩
    rcases p with ⟨p, na⟩ | p
    · exact .inl (x.rd (fun z => (na (r1.sub a z)).elim) p)
    · exact p H2
  · exact q1.elim
end Ev
set_option linter.all false
set_option Elab.async false
set_option maxRecDepth 100000
/-! own exceptions, raised -/
namespace Ev
open PySem L2 PySem.Spec
variable {F F1 A A1 A2 : Addr → Prop} {ρ ρ1 ρ2 : List Addr} {H H1 H2 : Hp} {K : PySem.W.Frag} {G : PC} {S S1 S2 : Store} {X : Cx} {W : WX}
variable {a b c e o : Expr} {es : List Expr} {fa fb fc : SE} {as : SA} {pos : Pos} {st : Stmt}

/-! ### raise X('..') -/
/-- what the text says of an own exception class, number k, without a maker of its own -/
structure XAt (G : PC) (k : Nat) : Prop where
  xc : PySem.W.excIn G.K (G.xcl k) [.type "ValueError", .type "Exception", .type "BaseException", .type "object"] "ValueError.__new__" = true
  kp : PySem.W.keepIn G.K (.ref (G.xcl k)) = true
  sb : PySem.W.subIn G.K (.ref (G.xcl k)) (.type "BaseException") = some true
  ty : PySem.W.typeIn G.K (.ref (G.xcl k)) = some (.type "type")
def sRaise (k : Nat) : SS := fun L S => .ex ⟨k, []⟩ L S
theorem raise_ {k : Nat} (h : PS X st (fun _ σ H => W (.ref (G.xcl k)) none σ H)) : PS X st (tS G W (sRaise k)) := PS.imp h fun D σ H q => by
  obtain ⟨F, A, ρ, L, S, l, r, q⟩ := q
  exact q A ρ H σ (.ref (G.xcl k)) none Ext.refl r l ⟨rfl, .inl ⟨rfl, rfl⟩⟩

/-! ### an exception class with a maker of its own, which takes an int -/
/-- an own class that has its base's maker -/
structure BaseInit (K : PySem.W.Frag) (C : Addr) : Prop where
  ga : PySem.W.specialIn K (.ref C) "__getattribute__" = some (some (.builtin "type.__getattribute__"))
  ty : PySem.W.typeIn K (.ref C) = some (.type "type")
  rd : PySem.W.readsIn K C (.type "type") = true
  fd : PySem.W.findCls K (.ref C) (.type "type") "__init__" = some (.val (.builtin "ValueError.__init__"))
open PyProof.Rows in
/-- W.__init__(self, ..), W an own class with its base's maker -/
theorem pe_winit {C : Addr} {x : Str} {ta : TA} {p1 p2 : Pos} {pl : Sem Bool} (hg : Gl X x) (hm : X.mg x = some (.ref C)) (bi : BaseInit X.K C) (ha : PA X (e :: es) ta) (hd : (x == ("__debug__" : Str)) = false := by decide)
    (hc : eval (.Call (.Attribute (.Name x p1) "__init__" p2) (e :: es) [] pos) X.env = (do
      let ov ← eval (.Name x p1) X.env
      standAt p2.atName
      let (f, first) ← holding [ov] (getMethod ov "__init__" pl)
      callWith pos f first (backTo pos (starEach (e :: es) X.env)) (backToKw pos (keywordEach [] X.env))) := by rfl)
    (h1 : starEach (e :: es) X.env = (false, eval e X.env) :: starEach es X.env := by rfl) (h2 : (backTo pos (starEach es X.env)).any (·.1) = false := by rfl) : PE X (.Call (.Attribute (.Name x p1) "__init__" p2) (e :: es) [] pos) (tVeI X.K ta) := by
  constructor
  intro pins s σ H Q I h
  refine PySem.W.methodCall_KW (ld_glob I hg hm ?_ hd) hc
  obtain ⟨m, fr⟩ := I.fr
  refine PySem.W.method_of_cls fr I.ok.mod.kin bi.ga (PySem.W.cls_val fr I.ok.mod.kin bi.ty bi.rd bi.fd (by decide +kernel) ?_)
  show wpAny _ _ (callWith pos (Value.builtin "ValueError.__init__") [] (backTo pos (starEach (e :: es) X.env)) []) _ _ _
  refine callWith_method1 (thn (ha.run pos pins _ σ H _ (I.tok _) h) fun us s1 hh => ?_) h1 h2
  obtain ⟨vs, H1, I1, r1, a, C2, ws, ev, hl, T, ea, q⟩ := hh
  subst ev
  cases r1 with
  | @cons _ u0 _ ur ra rw' =>
    obtain rfl : u0 = Value.ref a := ra
    have hlen : ur.length ≤ sizeLine := by
      rw [← Paired.length rw', sizeLine_eq]
      omega
    exact oinit_ok T I1 ea hlen fun s' J => ⟨.non, H1, J, rfl, q⟩
/-- the promise of a maker that keeps one int in a field -/
def spXI (K : PySem.W.Frag) (f : Str) : Sp := fun vs H Q _ => ∃ (a C : Addr) (i : Int), vs = [.ref a, .int i] ∧ (0 ≤ i ∧ i ≤ 1000000) ∧ OexC K C ∧ PySem.W.findIn K (.ref C) f = some none ∧ H a = some (exo a C none) ∧
  ∀ dx, H dx = none → dx ≠ a → Q .non (upd (upd H dx (exd dx [(f, .int i)])) a (exo a C (some dx)))
/-- its body's reading: base.__init__(self, f'a{x}b'); self.f = x -/
def tXI (K : PySem.W.Frag) (f a b : Str) : TS := tSeq (tDrop (tVeI K (tCons (tVar 0) (tCons (fun σ H Q => tJs [tC (.str a), tFmt (tVar 1), tC (.str b)] Str.empty σ H fun out H1 => Q (.str out) H1) tNil)))) (tOst K f (tVar 0) (tVar 1))
theorem txt_small {i : Int} (h0 : 0 ≤ i) (h1 : i ≤ 1000000) : (Str.ofString (toString i)).length ≤ 7 ∧ i.natAbs.log2 < 1920 := by
  refine ⟨PyProof.Rows.toString_length_le h0 (by decide) (by omega), ?_⟩
  by_cases h : i.natAbs = 0
  · rw [h]; decide
  · have := (Nat.log2_lt h (k := 20)).mpr (by omega)
    omega
theorem txi_ok {f a b : Str} (hz : a.length + b.length ≤ 1000) {vs : List V} {H : Hp} {Q : VK} {E : XK} (h : spXI K f vs H Q E) : tXI K f a b { nx := fun _ H' => Q .non H', rt := Q } (vs.map some) H := by
  obtain ⟨x, C, i, rfl, ⟨h0, h1⟩, T, hn, hx, q⟩ := h
  obtain ⟨t1, t2⟩ := txt_small h0 h1
  have big : ∀ n : Nat, n ≤ 2000 → n ≤ sizeLine := fun n hn => by
    rw [sizeLine_eq]
    omega
  have le : (Str.empty : Str).length = 0 := rfl
  have la : ∀ x y : Str, (x ++ y).length = x.length + y.length := fun x y => Array.size_append
  refine ⟨_, rfl, a, rfl, big _ (by rw [la, le]; omega), _, rfl, .inr ⟨i, rfl, t2, ?_⟩⟩
  refine ⟨_, rfl, big _ (by rw [la, la, le]; omega), b, rfl, big _ (by rw [la, la, la, le]; omega), ?_⟩
  refine ⟨x, C, _, rfl, by simp, T, hx, ?_⟩
  refine ⟨_, rfl, _, rfl, x, C, rfl, T, hn, .inl ⟨hx, fun dx n ne => q dx n ne⟩⟩
/-- what the text says of such a class -/
structure XIAt (G : PC) (k : Nat) (fI : Addr) : Prop where
  ox : OexC G.K (G.xcl k)
  ii : PySem.W.findIn G.K (.ref (G.xcl k)) "__init__" = some (some (.ref fI))
  ti : PySem.W.typeIn G.K (.ref fI) = some (.type "function")
def sRaiseI (k : Nat) (e : SE) : SS := fun L S => (e L S).to L fun v S1 => match v with
  | .d (.int i) => if 0 ≤ i ∧ i ≤ 1000000 then .ex ⟨k, [.int i]⟩ L S1 else .bad
  | _ => .bad
theorem raiseI_ {k : Nat} {f : Str} (hf : G.xfl k = [f]) (hx : XIAt G k fI) (hn : PySem.W.findIn G.K (.ref (G.xcl k)) f = some none) (h : PS X st (fun _ σ H => tMkO (G.xcl k) (spXI G.K f) [] (tCons (tE G W fa) tNil) σ H fun cls d H' => W cls d σ H')) : PS X st (tS G W (sRaiseI k fa)) := PS.imp h fun D σ H q => by
  obtain ⟨F, A, ρ, L, S, l, r, q⟩ := q
  refine ⟨F, A, ρ, L, S, l, r, st_ok r l q fun v S1 A1 ρ1 H1 x1 r1 q1 w rw => ?_⟩
  split at q1
  · rename_i i
    split at q1
    · rename_i c
      have ew : w = .int i := rw
      subst ew
      refine ⟨by simp, fun a ha => ?_⟩
      refine ⟨a, G.xcl k, i, rfl, c, hx.ox, hn, upd_same, fun dx hdx ne => ?_⟩
      have hd : H1 dx = none := by rw [upd_ne ne] at hdx; exact hdx
      refine ⟨rfl, dx, [(f, .int i)], upd_same, by rw [upd_ne ne, upd_same], hd, ?_⟩
      have eH : upd (del (upd (upd (upd H1 a (exo a (G.xcl k) none)) dx (exd dx [(f, .int i)])) a (exo a (G.xcl k) (some dx))) a) dx (.xd [(f, .int i)]) = upd H1 dx (.xd [(f, .int i)]) := by
        funext b
        by_cases h1 : b = dx
        · rw [h1, upd_same, upd_same]
        · rw [upd_ne h1, upd_ne h1]
          by_cases h2 : b = a
          · rw [h2, del_same, ha]
          · rw [del_ne h2, upd_ne h2, upd_ne h1, upd_ne h2]
      rw [eH]
      obtain ⟨x2, r2⟩ := r1.laid hd (.xd [(f, .int i)])
      exact q1 A1 ρ1 _ σ (.ref (G.xcl k)) (some dx) x2 r2 ((l.mv x1 r).mv x2 r1) ⟨rfl, .inr ⟨dx, [.int i], rfl, by rw [upd_same, hf]; rfl, _, [], rfl, rfl, rfl⟩⟩
    · exact q1.elim
  · exact q1.elim
end Ev
set_option linter.all false
set_option Elab.async false
set_option maxRecDepth 100000
/-! try: body, except C as n: suite -/
namespace Ev
open PySem L2 PySem.Spec
variable {F F1 A A1 A2 : Addr → Prop} {ρ ρ1 ρ2 : List Addr} {H H1 H2 : Hp} {K : PySem.W.Frag} {G : PC} {S S1 S2 : Store} {X : Cx} {W : WX}
variable {a b c e o : Expr} {es : List Expr} {fa fb fc : SE} {as : SA} {pos : Pos} {st : Stmt}

/-- what an answer is wherever the caught exception lies -/
noncomputable def allR (f : Addr → Option Addr → SR) : SR := open Classical in if h : ∃ r, ∀ a d, f a d = r then h.choose else .bad
theorem allR_const (r : SR) : allR (fun _ _ => r) = r := by
  have h : ∃ r', ∀ (a : Addr) (d : Option Addr), (fun _ _ => r : Addr → Option Addr → SR) a d = r' := ⟨r, fun _ _ => rfl⟩
  unfold allR
  rw [dif_pos h]
  exact (h.choose_spec 0 none).symm
theorem allR_at {f : Addr → Option Addr → SR} {D : Ends} (q : StOk G F W D A ρ H (allR f)) (a : Addr) (d : Option Addr) : StOk G F W D A ρ H (f a d) := by
  unfold allR at q
  split at q
  · rename_i h
    rw [h.choose_spec a d]
    exact q
  · exact q.elim
def SR.unset (i : Nat) : SR → SR
  | .nx L S => .nx (L.set i none) S
  | .rt v S => .rt v S
  | .bk L S => .bk (L.set i none) S
  | .ct L S => .ct (L.set i none) S
  | _ => .bad
/-- xf: the names of the classes' fields; m: which classes are caught; i: the slot of the clause's name -/
noncomputable def sTry (xf : Nat → List Str) (f : SS) (m : Nat → Option Bool) (i : Nat) (h : Addr → Nat → SS) : SS := fun L S => match f L S with
  | .ex x L1 S1 => (match m x.k with
    | some true => allR fun a d => (h a x.k (L1.set i (some (.exc a d (xf x.k) x.fs))) S1).unset i
    | some false => .ex x L1 S1
    | none => .bad)
  | r => r
def noW : WX := fun _ _ _ _ => False
/-- the suite's reading -/
def tsX (G : PC) (h : Addr → Nat → SS) (a : Addr) (cls : Value) (d : Option Addr) : TS := fun D σ H => ∃ k, cls = .ref (G.xcl k) ∧ tS G noW (h a k) D σ H
theorem tsX_ {h : Addr → Nat → SS} {a : Addr} {cls : Value} {d : Option Addr} {sts : List Stmt} (g : ∀ k, cls = .ref (G.xcl k) → PSs X sts (tS G noW (h a k))) : PSs X sts (tsX G h a cls d) :=
  ⟨fun pins s σ H D I q => by
    obtain ⟨k, e, q⟩ := q
    exact (g k e).run pins s σ H D I q⟩
theorem unset_ok {D : Ends} {i : Nat} : ∀ {r : SR}, StOk G F W D A ρ H (r.unset i) → StOk G F noW { nx := fun σ' H' => D.nx (σ'.set i none) H', rt := D.rt, bk := fun σ' H' => D.bk (σ'.set i none) H', ct := fun σ' H' => D.ct (σ'.set i none) H' } A ρ H r
  | .nx L S, q => fun A' ρ' H' σ' x r l => q A' ρ' H' (σ'.set i none) x r (l.unset i none)
  | .bk L S, q => fun A' ρ' H' σ' x r l => q A' ρ' H' (σ'.set i none) x r (l.unset i none)
  | .ct L S, q => fun A' ρ' H' σ' x r l => q A' ρ' H' (σ'.set i none) x r (l.unset i none)
  | .rt v S, q => q
  | .ex .., q => q.elim
  | .bad, q => q
theorem try_ {xf : Nat → List Str} {f : SS} {m : Nat → Option Bool} {i : Nat} {h : Addr → Nat → SS} {C : Value} (hK : X.K = G.K) (hx : ∀ k, G.xfl k = xf k) (hm : ∀ k b, m k = some b → PySem.W.exmOne G.K (.ref (G.xcl k)) C = some b)
    (hp : PS X st (fun D σ H => tS G (wAs X.K C i (tsX G h) W D) f D σ H)) : PS X st (tS G W (sTry xf f m i h)) := PS.imp hp fun D σ H q => by
  obtain ⟨F, A, ρ, L, S, l, r, q⟩ := q
  refine ⟨F, A, ρ, L, S, l, r, ?_⟩
  revert q
  unfold sTry
  cases f L S with
  | nx L1 S1 => exact fun q => q
  | bk L1 S1 => exact fun q => q
  | ct L1 S1 => exact fun q => q
  | rt v S1 => exact fun q => q
  | bad => exact fun q => q
  | ex x L1 S1 =>
    intro q A' ρ' H' σ' cls d x1 r1 l1 rx
    obtain ⟨rfl, rx⟩ := rx
    have q : StOk G F W D A ρ H (match m x.k with
      | some true => allR fun a d => (h a x.k (L1.set i (some (.exc a d (xf x.k) x.fs))) S1).unset i
      | some false => .ex x L1 S1
      | none => .bad) := q
    cases e : m x.k with
    | none => rw [e] at q; exact q.elim
    | some b =>
      rw [e] at q
      refine ⟨b, by rw [hK]; exact hm _ _ e, fun hb a ha => ?_, fun hb => ?_⟩
      · subst hb
        have q1 := StOk.shift x1 (allR_at q a d)
        refine ⟨x.k, rfl, F, A', ρ', _, S1, l1.set i (w := .exc a d (xf x.k) x.fs) (v := .ref a) ⟨rfl, ?_⟩, r1, unset_ok q1⟩
        refine rx.imp (fun z => z) fun z => ?_
        obtain ⟨dx, vs, e1, e2, p⟩ := z
        exact ⟨dx, vs, e1, by rw [← hx]; exact e2, RepDs.weak (fun _ _ => True.intro) _ _ p⟩
      · subst hb
        exact q A' ρ' H' σ' (.ref (G.xcl x.k)) d x1 r1 l1 ⟨rfl, rx⟩

/-! ### in the suite: isinstance(e, C), e.f -/
/-- a caught exception of class number k lies at a -/
structure Pin (X : Cx) (G : PC) (a : Addr) (k : Nat) : Prop where
  ex : ∃ (oe : Obj) (d : Option Addr), (a, oe) ∈ X.pn ∧ Zc (.ref (G.xcl k)) d oe ∧ ∃ vs, oe.data = .fields vs
def isXV (a : Addr) (b : Option Bool) (v : Val) (S : Store) : R Val := match v, b with
  | .exc a' _ _ _, some b => if a' = a then .ok (.d (.bl b)) S else .bad
  | _, _ => .bad
def eIsX (a : Addr) (b : Option Bool) (e : SE) : SE := fun L S => (e L S).bind (isXV a b)
def xatV (a : Addr) (j : Nat) (f : Str) (v : Val) (S : Store) : R Val := match v with
  | .exc a' _ nm fs => if a' = a ∧ nm[j]? = some f ∧ nm.Nodup then R.of fs[j]? S else .bad
  | _ => .bad
def eXat (a : Addr) (j : Nat) (f : Str) (e : SE) : SE := fun L S => (e L S).bind (xatV a j f)
theorem pe_xfP {C x : Addr} {k : Nat} {te : TE} {n : Str} (T : XfC X.K (G.xcl k)) (hno : PySem.W.findIn X.K (.ref (G.xcl k)) n = some none) (hp : Pin X G x k) (he : PE X e te) (hb : attributeBase e n X.env (eval e X.env) = eval e X.env := by rfl) :
    PE X (.Attribute e n pos) (fun σ H Q => te σ H fun y H1 => y = .ref x ∧ ∃ (dd : Addr) (fs : List (Str × V)) (v : V), (∀ oe d, (x, oe) ∈ X.pn → Zc (.ref (G.xcl k)) d oe → d = some dd) ∧ H1 dd = some (.xd fs) ∧ fs.lookup n = some v ∧ Q v H1) := by
  constructor
  intro pins s σ H Q I h
  refine attr_of hb (thn (he.run pins s σ H _ I h) fun u s1 hh => ?_)
  obtain ⟨y, H1, I1, rx, ex, dd, fs, v, ed, ea, l, q⟩ := hh
  subst ex
  obtain rfl : u = Value.ref x := rx
  obtain ⟨oe, d, hm, hz, vs, hd⟩ := hp.ex
  obtain rfl := ed oe d hm hz
  obtain ⟨ha, _⟩ := I1.pin (x, oe) (List.mem_append_left _ hm)
  have hx : ObjOk X.prog X.w H1 s1.heap dd (.xd fs) := I1.hok dd _ ea
  obtain ⟨mA, hns, hr⟩ := hx
  obtain ⟨od, ho, hl⟩ := lookIn_ns hns
  obtain ⟨u2, hu, ru⟩ := RelO.some_of (v := v) (o := mA n) (by rw [← l]; exact hr n)
  have J : PySem.W.InstAt s1.heap x oe (G.xcl k) (some od) := ⟨ha, hz.1, by unfold PySem.W.notCls; rw [hd] <;> rfl, by rw [hz.2]; exact ho⟩
  exact HandSPX.exc_get I1.kIn J T.ga T.gg T.exC (PySem.W.findObj_own T.hdC hno rfl (by rw [hl, hu])) (handed_of ru) ⟨v, H1, I1.tok _, ru, q⟩
end Ev
set_option linter.all false
set_option Elab.async false
set_option maxRecDepth 100000
set_option maxHeartbeats 2000000
/-! while an exception is handled: a list's end, comprehensions, calls; try with named clauses -/
namespace Ev
open PySem L2 PySem.Spec PyProof.Rows

/-! ### the end of a list's walk -/
section
variable {P : Program} {w : World} {B : Around} {E : Value → Shared → Prop} {s : Shared}
theorem listEnd {it l x1 : Addr} {i : Nat} {its : Array Value} {Q : Option Value → Shared → Prop} (hot : HotX.HotAt B x1 s.heap) (hi : s.heap.IsListIter it l i) (hl : s.heap.IsList l its) (hx : its[i]? = none)
    (k : ∀ h, Heap.ExtBut it s.heap h → Q none { s with heap := h }) : wpAny (model P w) B (pyNext (.ref it)) Q E s := by
  have hT := hi.typeIs
  obtain ⟨hh, ox, vx, gx, dx, cx⟩ := hot
  obtain ⟨oi, gi, ci, di⟩ := id hi
  obtain ⟨ol, gl, _, nl, dl⟩ := hl
  have ne : x1 ≠ it := fun e => by
    subst e
    rw [gx] at gi
    cases gi
    rw [dx] at di
    cases di
    cases cx
  unfold pyNext
  refine wpAny_bind (wpAny_attempt (wpAny_callSpecial?_slot (name := Str.ofString "__next__") hT slot_listiter_next (wpAny_call_entry slot_listiter_next hT entry_listiter_next ?_ (args_listiter_next _))))
  show wpAny _ _ (field (Value.ref it) 0 >>= _) _ _ _
  refine wpAny_bind (wpAny_field gi di (x := Value.ref l) rfl ?_)
  have nn : ¬ ((Value.ref l == Value.none) = true) := Bool.false_ne_true
  show wpAny _ _ (if (Value.ref l == Value.none) = true then _ else _) _ _ _
  rw [if_neg nn]
  show wpAny _ _ (field (Value.ref it) 1 >>= _) _ _ _
  refine wpAny_bind (wpAny_field gi di (x := Value.int i 0) rfl ?_)
  show wpAny _ _ (seqItems? (Value.ref l) >>= _) _ _ _
  refine wpAny_bind (wpAny_seqItems gl dl ?_)
  simp only [Int.toNat_natCast, hx]
  refine wpAny_bind (wpAny_rule (wpAny_bind (wpAny_setField gi di (by simp) ?_)))
  generalize hu : s.heap.update it (Obj.mapFields (·.setIfInBounds 0 .none)) = h0
  have g0 : ∀ b o, b ≠ it → s.heap.get? b = some o → h0.get? b = some o := fun b o nb e => by
    rw [← hu, Heap.get?_update_other _ _ (Ne.symm nb)]
    exact e
  show wpAny _ _ (newExc (Value.type "StopIteration") [] >>= _) _ _ _
  refine wpAny_bind ?_
  simp only [newExc, newTuple]
  refine wpAny_bind (wpAny_newObj_type ?_ (by size_fits))
  refine wpAny_bind (m := firstArgMember _ _) (wpAny_of_eq (a := Value.none) (by first | rfl | (simp only [firstArgMember]; rfl)) ?_)
  refine wpAny_newObj_type ?_ (by size_fits)
  have gx0 := g0 x1 ox ne gx
  have gx2 := fun (p q : Obj) => Heap.get?_push_of_some q (Heap.get?_push_of_some p gx0)
  refine HotX.raiseNew_hot ⟨hh, ox, vx, gx2 _ _, dx, cx⟩ (Nat.ne_of_lt (Heap.lt_size (Heap.get?_push_of_some _ gx0))) (Heap.get?_push_size _ rfl) rfl (by first | (simp; done) | (simp; omega)) ?_
  refine wpAny_bind (wpAny_isInstance (T := "StopIteration") (b := true) ⟨_, Heap.get?_update_self _ (Heap.get?_push_size _ rfl) rfl, rfl⟩ isSubtype_stop ?_)
  refine wpAny_pure (k _ fun b o nb e => ?_)
  have at1 := fun (p : Obj) => Heap.get?_push_of_some p (g0 b o nb e)
  rw [Heap.get?_update_other _ _ (Nat.ne_of_gt (Heap.lt_size (at1 _)))]
  exact Heap.get?_push_of_some _ (at1 _)
end

/-! ### a walk that ends while an exception is handled -/
/-- as the layer's Turn; the end asks that the handled exception stands -/
structure TurnQ (P : Program) (w : World) (K : PySem.W.Frag) (tg : Expr) (J : It) (fp : List Addr) (it : Addr) (tn : Nat → Heap → Prop) : Prop where
  me : it ∈ fp
  ob : ∀ i h, tn i h → ∀ b ∈ fp, ∃ o, h.get? b = some o ∧ ∀ v, o.data ≠ .cell v
  kp : ∀ i h h1, tn i h → (∀ b ∈ fp, ∀ o, h.get? b = some o → h1.get? b = some o) → tn i h1
  nx : ∀ (X : Cx), X.prog = P → X.w = w → X.K = K → ∀ (i : Nat) (pins : List (Addr × Obj)) (s : Shared) (σ : L2.St) (H : Hp) (E : Value → Shared → Prop), Inv X pins σ H s → (∀ b ∈ fp, FpOk X pins H b) → tn i s.heap → J.go i H →
    wpAny (model P w) X.A (pyNext (.ref it)) (fun r s1 => ∃ u, r = some u ∧ wpAny (model P w) X.A (letOwnedTupleGo tg (.ref it) u) (fun _ s2 => ∃ x H1, Inv X pins σ H1 s2 ∧ RelV x u ∧ J.yld i H x H1 ∧ tn (i + 1) s2.heap ∧ ∀ b ∈ fp, H1 b = none) E s1) E s
  en : ∀ (X : Cx), X.prog = P → X.w = w → X.K = K → ∀ (i : Nat) (x1 : Addr) (pins : List (Addr × Obj)) (s : Shared) (σ : L2.St) (H : Hp) (E : Value → Shared → Prop), Inv X pins σ H s → (∀ b ∈ fp, FpOk X pins H b) → tn i s.heap → J.stop i H → HotX.HotAt X.A x1 s.heap →
    wpAny (model P w) X.A (pyNext (.ref it)) (fun r s1 => r = none ∧ Inv X pins σ H s1) E s
  se : ∀ (B : Around) (i : Nat) (s : Shared) (Q E : Value → Shared → Prop), tn i s.heap → Q (.ref it) s → wpAny (model P w) B (pyIter (.ref it)) Q E s
theorem turnQ_list {P : Program} {w : World} {K : PySem.W.Frag} {tg : Expr} (a it : Addr) : TurnQ P w K tg (Itl K a) [it] it (fun i h => h.IsListIter it a i) where
  me := List.mem_singleton.mpr rfl
  ob := (turn_list (P := P) (w := w) (K := K) (tg := tg) a it).obj
  kp := (turn_list (P := P) (w := w) (K := K) (tg := tg) a it).keep
  se := (turn_list (P := P) (w := w) (K := K) (tg := tg) a it).self
  nx := fun X hP hw hK i pins s σ H E I hf st ⟨xs, x, hq, hx⟩ => by
    cases hP; cases hw; cases hK
    obtain ⟨us, rv, pl, _⟩ := I.list hq
    obtain ⟨u, hu, ru⟩ := rv.get hx
    have F0 := hf it (List.mem_singleton.mpr rfl)
    refine wpAny_pyNext_list_item st pl.isList (x := u) (by simpa using hu) fun h1 st1 sb => ⟨u, rfl, ?_⟩
    have J1 : Inv X pins σ H { s with heap := h1 } := I.turned (t' := s.toks) (fun b o hb e => (sb.2 b hb).trans e) F0.1 F0.2.1 F0.2.2.2.1 F0.2.2.2.2.1 F0.2.2.2.2.2
    obtain ⟨oi, gi, ci, di⟩ := id st1
    exact go_of (s := { s with heap := h1 }) gi ci di (by decide) ⟨x, H, J1, ru, ⟨rfl, fun ys hy => I.list_inj hy hq ▸ hx⟩, st1, fun b hb => (hf b hb).1⟩
  en := fun X hP hw hK i x1 pins s σ H E I hf st ⟨xs, hq, hx⟩ hot => by
    cases hP; cases hw; cases hK
    obtain ⟨us, rv, pl, _⟩ := I.list hq
    have ll := rv.length
    have hx : xs.length ≤ i := hx
    have F0 := hf it (List.mem_singleton.mpr rfl)
    exact listEnd hot st pl.isList (Array.getElem?_eq_none (by rw [List.size_toArray]; omega)) fun h1 eb => ⟨rfl, I.turned (t' := s.toks) (fun b o hb e => eb b o hb e) F0.1 F0.2.1 F0.2.2.2.1 F0.2.2.2.2.1 F0.2.2.2.2.2⟩
def PIEQ (X : Cx) (pins : List (Addr × Obj)) (σ : L2.St) (tg : Expr) (R : It → Hp → Prop) (v : Value) (s : Shared) : Prop :=
  ∃ (it : Addr) (fp : List Addr) (tn : Nat → Heap → Prop) (J : It) (H1 : Hp), v = .ref it ∧ Inv X pins σ H1 s ∧ TurnQ X.prog X.w X.K tg J fp it tn ∧ tn 0 s.heap ∧ (∀ b ∈ fp, FpOk X pins H1 b) ∧ R J H1
structure PIQ (X : Cx) (tg e : Expr) (wi : TI) : Prop where
  go : ∀ (pins : List (Addr × Obj)) (s : Shared) (σ : L2.St) (H : Hp) (R : It → Hp → Prop), Inv X pins σ H s → wi σ H R → wpAny (model X.prog X.w) X.A (eval e X.env) (fun v s1 => wpAny (model X.prog X.w) X.A (pyIter v) (PIEQ X pins σ tg R) X.xe s1) X.xe s
theorem piq_list {X : Cx} {tg e : Expr} {te : TE} (he : PE X e te) : PIQ X tg e (iList X.K te) := ⟨fun pins s σ H R I h => thn (he.run pins s σ H _ I h) fun u s1 z => by
  obtain ⟨y, H1, J1, ry, a, ey, ⟨ys, sq⟩, q⟩ := z
  cases ey
  cases ry
  obtain ⟨us, _, pl, _⟩ := J1.list sq
  have sz : ∀ o, (s1.heap.push o).get? s1.heap.objs.size = some o → True := fun _ _ => True.intro
  refine wpAny_pyIter_list pl.isList ⟨s1.heap.objs.size, [s1.heap.objs.size], _, _, H1, rfl, J1.kept (t' := s1.toks) fun b o e => Heap.get?_push_of_some _ e, turnQ_list a _, ⟨_, Heap.get?_push_size _ rfl, rfl, rfl⟩, fun b hb => ?_, q⟩
  cases List.mem_singleton.mp hb
  exact J1.fpOk (Nat.le_refl _) (J1.hok.fresh (Nat.le_refl _))⟩

/-! ### a list comprehension while an exception is handled -/
section
variable {X : Cx} {elt tg iter : Expr} {ifs : List Expr} {scope : Scope} {own : List (Str × Nat)} {pos : Pos} {wi : TI} {g : TG} {tt : TT} {te : TE}
/-- what a block starts from: its turns' states -/
def Blk (X : Cx) (s : Shared) (H : Hp) (scope : Scope) (ce : Env) (fp : List Addr) (vs : List Nat) (tn : Nat → Heap → Prop) (W : Nat → Nat → Hp → Prop) (σ : L2.St) (n : Nat) (s1 : Shared) : Prop :=
  ∃ i H1, Inv (X.blk s H scope ce fp) [] (wipe σ vs) H1 s1 ∧ tn i s1.heap ∧ (∀ b ∈ fp, H1 b = none) ∧ W i n H1
theorem blk_hot {pins : List (Addr × Obj)} {s s1 : Shared} {σ σ1 : L2.St} {H H1 : Hp} {ce : Env} {fp : List Addr} (hot : L2H.HotC X) (I : Inv X pins σ H s) (hp : ∀ b ∈ fp, FpOk X pins H b) (hs : X.stack = X.env :: X.outer) (hf : X.env.frame = some X.env.locals) (J : Inv (X.blk s H scope ce fp) [] σ1 H1 s1) :
    ∃ x1, HotX.HotAt X.A x1 s1.heap := by
  obtain ⟨p, ⟨hh, vs, dv, cv⟩, hm⟩ := hot
  obtain ⟨gp, np, nl, nf, _⟩ := I.pin p (List.mem_append_left _ hm)
  refine ⟨p.1, hh, p.2, vs, J.base.keep p.1 p.2 gp np (fun z => ?_) (fun z => ?_), dv, cv⟩
  · have z : p.1 ∈ frs X.stack := z
    rcases List.mem_cons.mp (I.stkSub p.1 z) with e | e
    · exact nl e
    · exact nf e
  · exact (hp p.1 z).2.2.2.2.2 p (List.mem_append_left _ hm) rfl
theorem lcQ (hot : L2H.HotC X) (hst : X.stack = X.env :: X.outer) (hfr : X.env.frame = some X.env.locals) (hN : X.N.Nodup) (hi : PIQ X tg iter wi) (ok : BlkOk X.N X.env.scope scope own)
    (hg : ∀ (s : Shared) (H : Hp) (C : Addr) (cl : List (Str × Addr)) (fp : List Addr), PG (X.blk s H scope (compEnvC scope cl C X.env) fp) tg g) (ht : ∀ (s : Shared) (H : Hp) (C : Addr) (cl : List (Str × Addr)) (fp : List Addr), PTs (X.blk s H scope (compEnvC scope cl C X.env) fp) ifs tt)
    (he : ∀ (s : Shared) (H : Hp) (C : Addr) (cl : List (Str × Addr)) (fp : List Addr), PE (X.blk s H scope (compEnvC scope cl C X.env) fp) elt te) (hf : ∀ x, foldedSetIterable iter X.env x = pure x := by intro _; rfl) :
    PE X (.ListComp elt [⟨tg, iter, ifs, 0⟩] scope pos) (tLc wi g tt te (own.map (·.2))) := by
  constructor
  intro pins s σ H Q I h
  rw [eval_ListComp]
  have fre : ∀ y ∈ scope.names, y.2 = .free → ∃ c, X.env.cells.lookup y.1 = some c := fun y hy e => (ok.free y hy e).elim (fun k => I.ok.has _ (.inl k)) (fun k => I.ok.has _ (.inr k))
  refine wpAny_comprehension_free (use := none) rfl hf (closure_ok fre) ok.kind (fun y hy e => by rw [ok.uniq y hy, e]) (thn (hi.go pins s σ H _ I h) fun _ s1 z1 => thn z1 fun _ s2 z2 => ?_)
  obtain ⟨it, fp, tn, J, H2, rfl, I2, T, t2, F2, q⟩ := z2
  refine wpAny_newObj_type (newEnv_comp ?_) (by show 0 ≤ sizeLine; decide)
  have hDn : H2 s2.heap.objs.size = none := I2.hok.fresh (Nat.le_refl _)
  obtain ⟨W, ⟨m0, w0⟩, turn⟩ := q _ hDn
  -- the new list
  have kk : ∀ b o, s2.heap.get? b = some o → (s2.heap.push { cls := .type "list", data := .seq ([] : List Value).toArray }).get? b = some o := fun b o e => Heap.get?_push_of_some _ e
  have I3 : Inv X pins σ (upd H2 s2.heap.objs.size (.lst [])) { s2 with heap := s2.heap.push { cls := .type "list", data := .seq ([] : List Value).toArray } } :=
    I2.laid (t' := s2.toks) kk (Nat.le_refl _) ⟨Nat.zero_le _, [], 0, .nil, Heap.get?_push_size _ rfl⟩
  have F3 : ∀ b ∈ fp, FpOk X pins (upd H2 s2.heap.objs.size (.lst [])) b ∧ b < (s2.heap.push { cls := .type "list", data := .seq ([] : List Value).toArray }).objs.size := fun b hb => by
    obtain ⟨ob, e, _⟩ := T.ob _ _ t2 b hb
    have lt := Heap.lt_size e
    exact ⟨⟨by rw [upd_ne (Nat.ne_of_lt lt)]; exact (F2 b hb).1, (F2 b hb).2⟩, by rw [Heap.size_push]; exact Nat.lt_succ_of_lt lt⟩
  have t3 : tn 0 (s2.heap.push { cls := .type "list", data := .seq ([] : List Value).toArray }) := T.kp _ _ _ t2 fun b _ o e => kk b o e
  generalize hs3 : ({ s2 with heap := s2.heap.push { cls := .type "list", data := .seq ([] : List Value).toArray } } : Shared) = s3 at I3
  have h3 : s3.heap = s2.heap.push { cls := .type "list", data := .seq ([] : List Value).toArray } := by rw [← hs3]
  rw [← h3] at F3 t3
  have B4 := block_start I3 ok hN F3
  have G1 := fun cl => hg s3 (upd H2 s2.heap.objs.size (.lst [])) s3.heap.objs.size cl fp
  have G2 := fun cl => ht s3 (upd H2 s2.heap.objs.size (.lst [])) s3.heap.objs.size cl fp
  have G3 := fun cl => he s3 (upd H2 s2.heap.objs.size (.lst [])) s3.heap.objs.size cl fp
  show codeAny _ _ (.compStart (.ListComp elt [⟨tg, iter, ifs, 0⟩] scope pos) 0 (.ref it) (.ref s2.heap.objs.size) (compEnvC scope (cellsFrom (s3.heap.objs.size + 1) scope.names (cloFrom X.env.cells scope.names [])) s3.heap.objs.size X.env)) (compPost (model X.prog X.w) X.A X.xe none (EP X pins σ Q) (.ref s2.heap.objs.size) s3.heap.objs.size) { s3 with heap := pushCells (s3.heap.push { cls := .type "dict", data := .dict #[] }) scope.names }
  have no3 : ∀ b ∈ fp, (upd H2 s2.heap.objs.size (.lst [])) b = none := fun b hb => (F3 b hb).1.1
  generalize s2.heap.objs.size = D at *
  generalize cellsFrom (s3.heap.objs.size + 1) scope.names (cloFrom X.env.cells scope.names []) = cl at *
  have G1 := G1 cl
  have G2 := G2 cl
  have G3 := G3 cl
  have cL : (compEnvC scope cl s3.heap.objs.size X.env).locals = s3.heap.objs.size := rfl
  generalize compEnvC scope cl s3.heap.objs.size X.env = ce at *
  generalize upd H2 D (.lst []) = H3 at *
  have t4 : tn 0 (pushCells (s3.heap.push { cls := .type "dict", data := .dict #[] }) scope.names) := T.kp _ _ _ t3 fun b _ o e => pushCells_keeps _ _ _ _ (Heap.get?_push_of_some _ e)
  have fpo : ∀ {τ : L2.St} {H5 : Hp} {s5 : Shared}, Inv (X.blk s3 H3 scope ce fp) [] τ H5 s5 → (∀ b ∈ fp, H5 b = none) → ∀ b ∈ fp, FpOk (X.blk s3 H3 scope ce fp) [] H5 b := fun {τ H5 s5} J5 n5 b hb =>
    ⟨n5 b hb, (J5.ok.exf b hb).1, J5.ok.exfs b hb, .inl hb, fun x c e => (J5.ok.exf b hb).2 x c e, fun p hp => by cases hp⟩
  have loop : codeAny (model X.prog X.w) X.A (.compLoop (.ListComp elt [⟨tg, iter, ifs, 0⟩] scope pos) 0 (.ref it) (.ref D) ce) (compPost (model X.prog X.w) X.A X.xe none (EP X pins σ Q) (.ref D) s3.heap.objs.size) { s3 with heap := pushCells (s3.heap.push { cls := .type "dict", data := .dict #[] }) scope.names } := by
    refine compLoop_any (Blk X s3 H3 scope ce fp (own.map (·.2)) tn W σ) (fun n s5 ⟨i, H5, J5, t5, n5, w5⟩ => ?_) m0 ⟨0, H3, B4, t4, no3, w0⟩
    rcases turn i n H5 w5 with ⟨stop, qq⟩ | ⟨go, Nx, hNx, step⟩
    · obtain ⟨x1, ha⟩ := blk_hot hot I3 (fun b hb => (F3 b hb).1) hst hfr J5
      refine thnF (T.en (X.blk s3 H3 scope ce fp) rfl rfl rfl i x1 [] s5 _ H5 (fun _ _ => False) J5 (fpo J5 n5) t5 stop ha) fun r s6 ⟨hr, J6⟩ => ?_
      cases hr
      have K6 : Inv X pins σ H5 s6 := I3.call' (ch := fp) J6.os J6.base J6.hok J6.bare fun b hb => ⟨(F3 b hb).1.2.2.2.1, (F3 b hb).1.2.1, (F3 b hb).1.2.2.2.2.1, (F3 b hb).1.2.2.2.2.2⟩
      have nC : H5 s3.heap.objs.size = none := cL ▸ (show H5 ce.locals = none from J6.free)
      obtain ⟨m, hn, _⟩ := J6.loc
      obtain ⟨f0, f1, f2, f3, f4, f5⟩ := I3.fpOk (H' := H5) (Nat.le_refl _) nC
      exact ⟨m, cL ▸ hn, fun h7 sb => ⟨.ref D, H5, K6.turned (t' := s6.toks) (fun b o hb e => (sb.2 b hb).trans e) f0 f1 f3 f4 f5, rfl, qq⟩⟩
    · refine thnF (T.nx (X.blk s3 H3 scope ce fp) rfl rfl rfl i [] s5 _ H5 (fun _ _ => False) J5 (fpo J5 n5) t5 go) fun r s6 ⟨u, hr, z6⟩ => ?_
      cases hr
      refine thnF z6 fun _ s7 ⟨x, H7, J7, r7, y7, t7, n7⟩ => ?_
      refine thnF (G1.run _ s7 _ H7 x u _ (J7.pinned (fpo J7 n7) (T.ob _ _ t7)) r7 (step x H7 y7)) fun _ s8 ⟨τ, H8, J8, hw, q8⟩ => ?_
      refine thnF (G2.run _ s8 τ H8 _ J8 q8) fun b s9 ⟨H9, J9, q9⟩ => ?_
      have fin : ∀ {s' : Shared} {H' : Hp}, Inv (X.blk s3 H3 scope ce fp) ([] ++ pinsAt fp s7.heap) τ H' s' → Nx H' → ∃ m, m < n ∧ Blk X s3 H3 scope ce fp (own.map (·.2)) tn W σ m s' := fun {s' H'} J' nx => by
        obtain ⟨m1, lt, w1⟩ := hNx H' nx
        have at1 : ∀ b ∈ fp, ∀ o, s7.heap.get? b = some o → s'.heap.get? b = some o ∧ H' b = none := fun b hb o e => by
          have z := J'.pin (b, o) (List.mem_append_right _ (List.mem_append_right _ (mem_pinsAt hb e)))
          exact ⟨z.1, z.2.1⟩
        refine ⟨m1, lt, i + 1, H', (J'.unpinned (pins := [])).weak (by rw [← hw, wipe_length]) (fun j v e => (wipe_some (hw ▸ e)).1), T.kp _ _ _ t7 fun b hb o e => (at1 b hb o e).1, fun b hb => ?_, w1⟩
        obtain ⟨o, e, _⟩ := T.ob _ _ t7 b hb
        exact (at1 b hb o e).2
      cases b with
      | false => exact fin J9 (by simpa using q9)
      | true =>
        have q9 := (by simpa using q9 : te τ H9 fun y H4 => ∃ acc, H4 D = some (.lst acc) ∧ acc.length < sizeLine ∧ Nx (upd H4 D (.lst (acc ++ [y]))))
        exact thnF (G3.run _ s9 τ H9 _ J9 q9) fun z s10 ⟨yv, H10, J10, r10, acc, hD10, hz10, nx⟩ => app_ok (X := X.blk s3 H3 scope ce fp) J10 hD10 hz10 r10 fun s11 J11 => fin J11 nx
  exact codeAny_compStart_list loop (T.se X.A 0 _ _ _ t4 loop)
end
end Ev
namespace Ev
open PySem L2 PySem.Spec PyProof.Rows
/-! ### defs that are called while the exception p is handled -/
structure FnX (P : Program) (w : World) (K : PySem.W.Frag) (mg : Str → Option Value) (base : Heap) (CX : CXT) (p : Addr × Obj) (k : Nat) (f : Addr) (fd : FuncData) (ps : List Str) (sp : Sp) : Prop where
  ln : ∀ us H Q E, sp us H Q E → us.length = ps.length
  go : ∀ (B : Around) (out : List Env) (s : Shared) (H : Hp) (args : Args) (ws : List Value) (us : List V) (Q : VK) (E : XK), L2H.RoomH k B → L2H.Hot1 B p → L2H.PinOk out H s p → Env0 P w K mg base B out s H → BindsTo s fd args (ps.zip ws) → Vals us ws → sp us H Q E →
    codeAny (model P w) B (.call (.ref f) args) (CR CX out P w H s Q E) s
theorem fnX_ {G : PC} {st : Stmt} {P : Program} {w : World} {mg : Str → Option Value} {base : Heap} {x qual : Str} {f : Addr} {fd : FuncData} {N ps : List Str} {k np nl : Nat} {p : Addr × Obj} {body : SS} (Fu : Fun G.K x qual st f fd) (Sc : FnScope N ps (defScope st)) (hp : ps.length = np) (hn : N.length = nl)
    (hb : ∀ (cd : Value) (B : Around) (out : List Env) (s : Shared) (H : Hp) (E : XK), L2H.Hot1 B p → L2H.RoomH k (B.deeper (envOfC qual (defScope st) s.heap.objs.size f cd)) →
      PSs (L2H.cxH (L2N.CX P w) P w G.K mg base N qual (defScope st) f cd B out s H E p) (defBody st) (tS G (fun c d _ H => E c d H) body)) : FnX P w G.K mg base (L2N.CX P w) p (k + 1) f fd ps (spF G np (runFn np nl body)) := by
  obtain ⟨_, _, _, _, _, _, cd, _, _, e, lk, hc⟩ := Fu.ex
  subst e
  have sl : ∀ us H Q E, spF G np (runFn np nl body) us H Q E → us.length = ps.length := fun us H Q E h => (spF_len us H Q E h).trans hp.symm
  refine ⟨sl, fun B out s H args ws us Q E hr hot hpin e0 hbi r hsp => ?_⟩
  have KX : G.K.In s.heap := e0.mod.kin.keeps fun b o e => (e0.bs b o e).1
  have nl0 : s.heap.NoLimit := e0.mod.nolimit.keeps fun b o e => (e0.bs b o e).1
  refine codeAny_call_function hr.depth (KX _ _ lk) rfl Sc.co Sc.gen rfl (PySem.W.codeRec_of KX hc) (hbi _ _ _ _ ?_)
  refine wpAny_newFunctionEnv_cells Sc.kind (fun y hy => ?_) fun env he s1 z => ?_
  · rcases Sc.par y.1 (List.of_mem_zip (show (y.1, y.2) ∈ _ from hy)).1 with q | q
    · exact .inl q
    · exact .inr ⟨q, PySem.W.cellsFrom_some _ _ _ (.inl q)⟩
  subst he
  refine ⟨nl0.keeps z.toInCall.keep, codeAny_func ?_⟩
  have I := L2H.inv_startH (CX := L2N.CX P w) (E := E) (cd := cd) (f := f) (qual := qual) Sc hpin e0 (sl _ _ _ _ hsp) r z
  have t := (hb cd B out s H E hot (hr.deeper _)).run [] s1 (L2.start N us) H { nx := fun _ H' => Q .non H', rt := Q } I (by
    obtain ⟨F, A, ρ, as, S, ra, el, rs, q⟩ := hsp
    refine ⟨F, A, ρ, as.map some ++ List.replicate (nl - np) none, S, ?_, rs, ?_⟩
    · have := start_rep ra (nl - np)
      unfold L2.start
      rw [hn, ra.len, el]
      exact this
    · revert q
      unfold runFn
      simp only [el, if_true]
      cases body (as.map some ++ List.replicate (nl - np) none) S with
      | nx L S' => exact fun q A' ρ' H' _ x r _ => q A' ρ' H' x r .non rfl
      | rt v S' => exact fun q A' ρ' H' w x r rw => q A' ρ' H' x r w rw
      | ex y L S' => exact fun q A' ρ' H' _ c d x r _ rx => q A' ρ' H' c d x r rx
      | bk _ _ => exact fun q => q.elim
      | ct _ _ => exact fun q => q.elim
      | bad => exact fun q => q.elim)
  refine wpAny_mono t (fun fl s2 h2 => ?_) fun _ _ h2 => h2
  cases fl with
  | next =>
    obtain ⟨_, H2, J, q⟩ := h2
    exact ⟨.non, H2, J.os, J.bare, J.base, J.hok, rfl, q⟩
  | ret u =>
    obtain ⟨v, _, H2, J, rv, q⟩ := h2
    exact ⟨v, H2, J.os, J.bare, J.base, J.hok, rv, q⟩
  | brk => obtain ⟨_, _, _, q⟩ := h2; exact q.elim
  | cont => obtain ⟨_, _, _, q⟩ := h2; exact q.elim
/-- the context holds the handled exception p -/
structure HotP (X : Cx) (p : Addr × Obj) : Prop where
  h1 : L2H.Hot1 X.A p
  pn : p ∈ X.pn
theorem HotP.c {X : Cx} {p : Addr × Obj} (h : HotP X p) : L2H.HotC X := ⟨p, h.h1, h.pn⟩
theorem pe_callX {X : Cx} {CX : CXT} {p : Addr × Obj} {k : Nat} {f : Addr} {fd : FuncData} {ps : List Str} {sp : Sp} {E : L2.St → XK} {x : Str} {q pos : Pos} {e : Expr} {es : List Expr} {t : TA} (Fu : FnX X.prog X.w X.K X.mg X.base CX p k f fd ps sp) (hr : L2H.RoomH k X.A) (hp : HotP X p) (hg : Gl X x) (hm : X.mg x = some (.ref f))
    (hk : PySem.W.keepIn X.K (.ref f) = true) (hb : Binds X.K fd ps []) (hx : ∀ σ, PassesAt CX X σ (E σ)) (ha : PA X (e :: es) t) (hd : (x == ("__debug__" : Str)) = false := by decide) (h1 : starEach (e :: es) X.env = (false, eval e X.env) :: starEach es X.env := by rfl)
    (h2 : (backTo pos (starEach es X.env)).any (·.1) = false := by rfl) : PE X (.Call (.Name x q) (e :: es) [] pos) (tCallS sp E t) := by
  constructor
  intro pins s σ H Q I h
  refine wpAny_Call_Name_kw (ld_glob I hg hm (PySem.W.callWith_K (h₀ := X.base) I.ok.mod.kin hk (thn (ha.run pos pins s σ H _ I h) fun ws s1 z => ?_) h1 h2) hd)
  obtain ⟨us, H1, J, r, q⟩ := z
  refine ⟨J.kIn, ?_⟩
  have b := hb s1 ws J.kIn (by rw [List.append_nil, ← r.length]; exact Fu.ln _ _ _ _ q)
  rw [List.append_nil] at b
  obtain ⟨g1, g2, g3, g4, g5⟩ := J.pin p (List.mem_append_left _ hp.pn)
  refine wpAny_call (codeAny_mono (Fu.go X.A X.stack s1 H1 ⟨ws, []⟩ ws us Q (E σ) hr hp.h1 ⟨g1, g2, fun hm => (List.mem_cons.mp (J.stkSub p.1 hm)).elim g3 g4, g5⟩ J.env0 b r q) fun r s2 z => ?_)
  match r, z with
  | .error e, z => exact hx σ pins H1 s1 e s2 J z
  | .ok (.ret u), z => exact J.after z
  | .ok .next, z => exact z.elim
  | .ok .brk, z => exact z.elim
  | .ok .cont, z => exact z.elim
end Ev
set_option linter.all false
set_option Elab.async false
set_option maxRecDepth 100000
set_option maxHeartbeats 2000000
/-! try with several except clauses, each with a name or without one -/
namespace Ev
open PySem L2 PySem.Spec PyProof.Rows
def unE (D : Ends) (i : Nat) : Ends := { nx := fun σ H => D.nx (σ.set i none) H, rt := D.rt, bk := fun σ H => D.bk (σ.set i none) H, ct := fun σ H => D.ct (σ.set i none) H }
abbrev TC := Addr → Value → Option Addr → TS
def tsO (o : Option Nat) (ts : TC) (a : Addr) (cls : Value) (d : Option Addr) (D : Ends) (σ : L2.St) (H : Hp) : Prop := match o with
  | none => ts a cls d D σ H
  | some i => ts a cls d (unE D i) (σ.set i (some (.ref a))) H
def wN (K : PySem.W.Frag) (Wout : WX) (D : Ends) : List (Value × Option Nat × TC) → WX
  | [] => Wout
  | (c, o, ts) :: r => fun cls d σ H => ∃ b, PySem.W.exmOne K cls c = some b ∧ (b = true → ∀ a, H a = none → tsO o ts a cls d D σ H) ∧ (b = false → wN K Wout D r cls d σ H)
/-- the clauses, as written and as read -/
inductive HsN (X : Cx) : List ExceptHandler → List (Value × Option Nat × TC) → Prop
  | nil : HsN X [] []
  | as {x n : Str} {i : Nat} {c : Value} {ts : TC} {b0 : Stmt} {bs : List Stmt} {p1 p2 : Pos} {hs : List ExceptHandler} {l : List (Value × Option Nat × TC)} (hi : X.N[i]? = some n) (hl : X.env.kindOf n = some .local) (hc : Names X x c)
      (su : ∀ (a : Addr) (o : Obj) (cls : Value) (d : Option Addr) (pn : List (Addr × Obj)), L2N.Zn cls d o → (∃ vs, o.data = .fields vs) → PSs (X.suite a ((a, o) :: pn)) (b0 :: bs) (ts a cls d)) (r : HsN X hs l) : HsN X (.ExceptHandler (some (.Name x p1)) (some n) (b0 :: bs) p2 :: hs) ((c, some i, ts) :: l)
  | no {x : Str} {c : Value} {ts : TC} {b0 : Stmt} {bs : List Stmt} {p1 p2 : Pos} {hs : List ExceptHandler} {l : List (Value × Option Nat × TC)} (hc : Names X x c)
      (su : ∀ (a : Addr) (o : Obj) (cls : Value) (d : Option Addr) (pn : List (Addr × Obj)), L2N.Zn cls d o → (∃ vs, o.data = .fields vs) → PSs (X.suite a ((a, o) :: pn)) (b0 :: bs) (ts a cls d)) (r : HsN X hs l) : HsN X (.ExceptHandler (some (.Name x p1)) none (b0 :: bs) p2 :: hs) ((c, none, ts) :: l)
section
variable {X : Cx} {body : List Stmt} {h0 : ExceptHandler} {hs : List ExceptHandler} {l : List (Value × Option Nat × TC)} {pos : Pos} {tb : WX → TS} {Wout : WX} {pins : List (Addr × Obj)} {D : Ends}
/-- the exception lies on the ground of the def's state; the clauses are asked in turn -/
theorem clauses {a : Addr} {B : Heap} {cls : Value} {d : Option Addr} {sI s0 : Shared} {h : Heap} {σ : L2.St} {H : Hp} (ok : X.Ok) (hst : X.stack = X.env :: X.outer) (hf : X.env.frame = some X.env.locals) (hN : X.N.Nodup) (tk : L2N.Takes X Wout)
    (J : Inv X pins σ H sI) (nb : ∀ b o, sI.heap.get? b = some o → b ∉ frs X.stack → B.get? b = some o) (na : H a = none) (os : s0.os = sI.os) (ag : AllBare s0.gens) (fl : HandSPX.FlyingZ B (X.env :: X.outer) a (L2N.Zn cls d) h) (up : sI.heap.UpToSlots h) :
    ∀ {hs : List ExceptHandler} {l : List (Value × Option Nat × TC)}, HsN X hs l → wN X.K Wout D l cls d σ H → wpAny (model X.prog X.w) X.A (handleBy (.ref a) X.env hs) (SP X pins D) X.xe { s0 with heap := h } := by
  have away : ∀ {h1 : Heap} {o : Obj} {vs : Array Value}, h1.FunFrames B (X.env :: X.outer) → h1.get? a = some o → o.data = .fields vs → a ∉ frs (X.env :: X.outer) := fun {h1 o vs} ff e dd hm => by
    obtain ⟨_, o1, e1, q⟩ := ff.mem hm
    rw [e] at e1
    cases e1
    exact q _ dd
  obtain ⟨o3, v3, g3, z3, d3⟩ := fl.there
  have nfr := away fl.2.2.1 g3 d3
  have nL : a ≠ X.env.locals := fun z => nfr (List.mem_filterMap.mpr ⟨_, List.mem_cons_self, hf.trans (congrArg some z.symm)⟩)
  have nF : a ∉ X.fs := fun hm => by
    obtain ⟨e, he, q⟩ := List.mem_filterMap.mp hm
    exact nfr (List.mem_filterMap.mpr ⟨e, .tail _ he, q⟩)
  have J3 : Inv X pins σ H { s0 with heap := h } := J.landed nb fl.1 up os ag
  have S3 := J3.suite g3 d3 na nL nF
  have LT : PySem.W.Looks (model X.prog X.w) h (typeOf (.ref a)) cls := fun A Q E s k q => wpAny_typeOf_ref (k _ _ g3) (by rw [z3.1]; exact q)
  have ask : ∀ {x : Str} {c : Value} {p1 : Pos} {Q : Value → Shared → Prop} {E : Value → Shared → Prop}, Names X x c → Q c { s0 with heap := h } → wpAny (model X.prog X.w) (X.A.mark (some (.ref a))) (eval (.Name x p1) X.env) Q E { s0 with heap := h } := fun {x c p1 Q E} hc q => by
    obtain ⟨hg, hdb, hm | ⟨hm, hv, hn⟩⟩ := hc
    · exact ld_glob (X := X.suite a ((a, o3) :: (X.pn ++ pins))) S3 hg hm q hdb
    · exact ld_blt (X := X.suite a ((a, o3) :: (X.pn ++ pins))) S3 hg hm hv q hn hdb
  intro hs l hk
  induction hk with
  | nil =>
    intro w
    refine wpAny_handleBy_nil ?_
    obtain ⟨_, _, _, ot, vt, T, _, _, gt, _, dt, t1, _⟩ := id fl
    have nn : ¬ ((Value.ref T == Value.none) = true) := by simp
    have fin : wpAny (model X.prog X.w) X.A (setFlight (.ref a) X.env.frame) (fun _ s4 => wpAny (model X.prog X.w) X.A (throw (.ref a) : Sem Flow) (SP X pins D) X.xe s4) X.xe { s0 with heap := h } := hf ▸
      HandSPX.setFlight_upZ fl fun h4 hh4 up4 => wpAny_throw (tk _ _ ⟨a, B, sI, pins, σ, H, cls, d, rfl, J, nb, up.trans up4, .inr (.inr (hst ▸ hh4)), na, os, ag, w⟩)
    unfold PySem.passOn
    refine wpAny_bind (wpAny_field gt dt t1 ?_)
    rw [if_neg nn]
    first
      | exact wpAny_bind (wpAny_pure (wpAny_bind fin))
      | exact wpAny_bind fin
  | @as x n i c ts b0 bs p1 p2 hs l hi hl hc su r ih =>
    intro ⟨b, e1, yes, no⟩
    refine wpAny_handleBy_cons (codeAny_handlers_test (ask hc ((PySem.W.exm_one (M := model X.prog X.w) J3.kIn LT e1).here ?_))) (by intro q; cases q)
    cases b with
    | false => exact ih (no rfl)
    | true =>
      refine codeAny_handlers_suite_as (HandSPX.lands_againZ fl fun h4 fl4 up4 => ?_)
      obtain ⟨o4, v4, g4, z4, d4⟩ := fl4.there
      have J4 : Inv X pins σ H { s0 with heap := h4 } := J.landed nb fl4.1 (up.trans up4) os ag
      refine store_ok (X := X.suite a ((a, o4) :: (X.pn ++ pins))) (v := .ref a) (J4.suite g4 d4 na nL nF) hN hi (.inl hl) rfl (fun s5 S5 => ?_) (.inr hl)
      have out : ∀ {s6 : Shared} {σ6 : L2.St} {H6 : Hp} {Q : Shared → Prop}, Inv (X.suite a ((a, o4) :: (X.pn ++ pins))) [] σ6 H6 s6 → (∀ s7, Inv X pins (σ6.set i none) H6 s7 → Q s7) → wpAny (model X.prog X.w) X.A (do bindName X.env n .none; unbindBehindTheSuite X.env n p2) (fun _ s7 => Q s7) X.xe s6 :=
        fun {s6 σ6 H6 Q} S6 hq => gone_ok (S6.unsuite ok) hN hi hl hq
      refine wpAny_mono ((su a o4 cls d (X.pn ++ pins) z4 ⟨_, d4⟩).run [] s5 _ H _ S5 (yes rfl a na)) (fun f s6 z => ?_) (fun _ _ z => z.elim)
      match f, z with
      | .next, ⟨_, _, S6, q6⟩ => exact out S6 fun s7 J7 => ⟨_, _, J7, q6⟩
      | .brk, ⟨_, _, S6, q6⟩ => exact out S6 fun s7 J7 => ⟨_, _, J7, q6⟩
      | .cont, ⟨_, _, S6, q6⟩ => exact out S6 fun s7 J7 => ⟨_, _, J7, q6⟩
      | .ret u, ⟨_, _, _, S6, r6, q6⟩ => exact out S6 fun s7 J7 => ⟨_, _, _, J7, r6, q6⟩
  | @no x c ts b0 bs p1 p2 hs l hc su r ih =>
    intro ⟨b, e1, yes, no⟩
    refine wpAny_handleBy_cons (codeAny_handlers_test (ask hc ((PySem.W.exm_one (M := model X.prog X.w) J3.kIn LT e1).here ?_))) (by intro q; cases q)
    cases b with
    | false => exact ih (no rfl)
    | true =>
      refine codeAny_handlers_suite (HandSPX.lands_againZ fl fun h4 fl4 up4 => ?_)
      obtain ⟨o4, v4, g4, z4, d4⟩ := fl4.there
      have J4 : Inv X pins σ H { s0 with heap := h4 } := J.landed nb fl4.1 (up.trans up4) os ag
      refine wpAny_mono ((su a o4 cls d (X.pn ++ pins) z4 ⟨_, d4⟩).run [] _ _ H _ (J4.suite g4 d4 na nL nF) (yes rfl a na)) (fun f s6 z => ?_) (fun _ _ z => z.elim)
      match f, z with
      | .next, ⟨_, _, S6, q6⟩ => exact ⟨_, _, S6.unsuite ok, q6⟩
      | .brk, ⟨_, _, S6, q6⟩ => exact ⟨_, _, S6.unsuite ok, q6⟩
      | .cont, ⟨_, _, S6, q6⟩ => exact ⟨_, _, S6.unsuite ok, q6⟩
      | .ret u, ⟨_, _, _, S6, r6, q6⟩ => exact ⟨_, _, _, S6.unsuite ok, r6, q6⟩
theorem ps_tryN (hst : X.stack = X.env :: X.outer) (hf : X.env.frame = some X.env.locals) (hN : X.N.Nodup) (tk : L2N.Takes X Wout)
    (hb : ∀ (W : WX) (pn : List (Addr × Obj)) (xe : Value → Shared → Prop), L2N.Takes (X.tr pn xe) W → PassesOwn (model X.prog X.w) X.A X.env xe → PSs (X.tr pn xe) body (tb W)) (hh : HsN X (h0 :: hs) l) :
    PS X (.Try body (h0 :: hs) [] [] pos) (fun D σ H => tb (wN X.K Wout D l) D σ H) := by
  constructor
  intro pins s σ H D I h
  have ok := I.ok
  have hfr : X.A.frames = some (X.env :: X.outer) := by rw [ok.frames, hst]
  let after := fun e s1 => wpAny (model X.prog X.w) X.A (noteFrame e X.env) (fun _ s2 => wpAny (model X.prog X.w) X.A (setFlight e none) (fun _ s3 => wpAny (model X.prog X.w) X.A (handleBy e X.env (h0 :: hs)) (SP X pins D) X.xe s3) X.xe s2) X.xe s1
  have body_ := (hb (wN X.K Wout D l) (X.pn ++ pins) after (fun u s1 xx => ?_) PassesOwn.looking).run [] s σ H D (I.toTry _) h
  · refine wpAny_Try_except (wpAny_mono body_ (fun f s1 z => ?_) fun _ _ z => z)
    match f, z with
    | .next, ⟨σ1, H1, J1, q⟩ => exact wpAny_execs_nil ⟨σ1, H1, J1.ofTry ok, q⟩
    | .brk, ⟨σ1, H1, J1, q⟩ => exact ⟨σ1, H1, J1.ofTry ok, q⟩
    | .cont, ⟨σ1, H1, J1, q⟩ => exact ⟨σ1, H1, J1.ofTry ok, q⟩
    | .ret u, ⟨v, σ1, H1, J1, r, q⟩ => exact ⟨v, σ1, H1, J1.ofTry ok, r, q⟩
  · obtain ⟨a, B, sI, pins1, σ1, H1, cls, d, rfl, J1, nb, up, sky, na, os, ag, w⟩ := xx
    have sky1 : Sky B (X.env :: X.outer) a (L2N.Zn cls d) X.env.locals s1.heap := hst ▸ sky
    show wpAny (model X.prog X.w) X.A (noteFrame (.ref a) X.env) _ _ _
    refine L2N.Sky.land L2N.Zn.steady hfr hf sky1 fun h3 fl3 up3 => ?_
    exact clauses (s0 := s1) ok hst hf hN tk (J1.ofTry ok) nb na os ag fl3 (up.trans up3) hh w
end
end Ev
set_option linter.all false
set_option Elab.async false
set_option maxRecDepth 100000
set_option maxHeartbeats 2000000
/-! what a try says of the evaluator; the caught exception's class and fields -/
namespace Ev
open PySem L2 PySem.Spec
variable {F F1 A A1 A2 : Addr → Prop} {ρ ρ1 ρ2 : List Addr} {H H1 H2 : Hp} {K : PySem.W.Frag} {G : PC} {S S1 S2 : Store} {X : Cx} {W : WX}
variable {a b c e o : Expr} {es : List Expr} {fa fb fc : SE} {as : SA} {pos : Pos} {st : Stmt}
/-- a caught exception: its address, its dict's, its class's number -/
structure Cau where
  a : Addr
  d : Option Addr
  k : Nat
/-- an except clause: which classes it catches, the slot of its name, its suite -/
structure Cl where
  m : Nat → Option Bool
  o : Option Nat
  h : Cau → SS
def SR.noex : SR → SR
  | .ex .. => .bad
  | r => r
noncomputable def catchN (xf : Nat → List Str) (x : Ex) (L : Loc) (S : Store) : List Cl → SR
  | [] => .ex x L S
  | c :: r => match c.m x.k with
    | some true => allR fun a d => (match c.o with
      | some i => (c.h ⟨a, d, x.k⟩ (L.set i (some (.exc a d (xf x.k) x.fs))) S).unset i
      | none => (c.h ⟨a, d, x.k⟩ L S).noex)
    | some false => catchN xf x L S r
    | none => .bad
noncomputable def sTryN (xf : Nat → List Str) (f : SS) (cl : List Cl) : SS := fun L S => match f L S with
  | .ex x L1 S1 => catchN xf x L1 S1 cl
  | r => r
def tsY (G : PC) (h : Cau → SS) : TC := fun a cls d D σ H => ∃ k, cls = .ref (G.xcl k) ∧ tS G noW (h ⟨a, d, k⟩) D σ H
inductive HsT (G : PC) : List Cl → List (Value × Option Nat × TC) → Prop
  | nil : HsT G [] []
  | cons {c : Cl} {C : Value} {r : List Cl} {l : List (Value × Option Nat × TC)} (hm : ∀ k b, c.m k = some b → PySem.W.exmOne G.K (.ref (G.xcl k)) C = some b) (t : HsT G r l) : HsT G (c :: r) ((C, c.o, tsY G c.h) :: l)
theorem noex_ok {D : Ends} : ∀ {r : SR}, StOk G F W D A ρ H r.noex → StOk G F noW D A ρ H r
  | .nx .., q => q
  | .bk .., q => q
  | .ct .., q => q
  | .rt .., q => q
  | .ex .., q => q.elim
  | .bad, q => q
theorem catch_ok {xf : Nat → List Str} {D : Ends} {x : Ex} {L : Loc} {σ : L2.St} {cls : Value} {d : Option Addr} (hx : ∀ k, G.xfl k = xf k) (l : RL G.K A H ρ L σ) (rs : RS G F A ρ S H) (rx : RepX G x H cls d) :
    ∀ {cl : List Cl} {ts : List (Value × Option Nat × TC)}, HsT G cl ts → StOk G F W D A ρ H (catchN xf x L S cl) → wN G.K W D ts cls d σ H := fun {cl ts} ht => by
  obtain ⟨rfl, rx⟩ := rx
  induction ht with
  | nil => exact fun q => q A ρ H σ (.ref (G.xcl x.k)) d Ext.refl rs l ⟨rfl, rx⟩
  | @cons c C r l' hm t ih =>
    unfold catchN
    cases e : c.m x.k with
    | none => exact fun q => q.elim
    | some b =>
      refine fun q => ⟨b, hm _ _ e, fun hb a ha => ?_, fun hb => ih (by subst hb; exact q)⟩
      subst hb
      have q := allR_at q a d
      unfold tsO
      revert q
      cases c.o with
      | none => exact fun q => ⟨x.k, rfl, F, A, ρ, L, S, l, rs, noex_ok q⟩
      | some i =>
        intro q
        refine ⟨x.k, rfl, F, A, ρ, _, S, l.set i (w := .exc a d (xf x.k) x.fs) (v := .ref a) ⟨rfl, ?_⟩, rs, unset_ok q⟩
        refine rx.imp (fun z => z) fun z => ?_
        obtain ⟨dx, vs, e1, e2, p⟩ := z
        exact ⟨dx, vs, e1, by rw [← hx]; exact e2, RepDs.weak (fun _ _ => True.intro) _ _ p⟩
theorem tryN_ {xf : Nat → List Str} {f : SS} {cl : List Cl} {ts : List (Value × Option Nat × TC)} (hx : ∀ k, G.xfl k = xf k) (ht : HsT G cl ts) (hp : PS X st (fun D σ H => tS G (wN G.K W D ts) f D σ H)) : PS X st (tS G W (sTryN xf f cl)) := PS.imp hp fun D σ H q => by
  obtain ⟨F, A, ρ, L, S, l, r, q⟩ := q
  refine ⟨F, A, ρ, L, S, l, r, ?_⟩
  revert q
  unfold sTryN
  cases f L S with
  | nx L1 S1 => exact fun q => q
  | bk L1 S1 => exact fun q => q
  | ct L1 S1 => exact fun q => q
  | rt v S1 => exact fun q => q
  | bad => exact fun q => q
  | ex x L1 S1 => exact fun q A' ρ' H' σ' cls d x1 r1 l1 rx => catch_ok hx l1 r1 rx ht (StOk.shift x1 q)
theorem tsY_ {h : Cau → SS} {a : Addr} {cls : Value} {d : Option Addr} {sts : List Stmt} (g : ∀ k, cls = .ref (G.xcl k) → PSs X sts (tS G noW (h ⟨a, d, k⟩))) : PSs X sts (tsY G h a cls d) :=
  ⟨fun pins s σ H D I ⟨k, e, q⟩ => (g k e).run pins s σ H D I q⟩

/-! ### isinstance(e, C), e.f -/
/-- p holds the caught exception y -/
structure PinX (G : PC) (p : Addr × Obj) (y : Cau) : Prop where
  a : p.1 = y.a
  z : L2N.Zn (.ref (G.xcl y.k)) y.d p.2
  f : ∃ vs, p.2.data = .fields vs
def isY (y : Cau) (b : Option Bool) (v : Val) (S : Store) : R Val := match v, b with
  | .exc a d _ _, some b => if a = y.a ∧ d = y.d then .ok (.d (.bl b)) S else .bad
  | _, _ => .bad
def eIsY (y : Cau) (t : Nat → Option Bool) (e : SE) : SE := fun L S => (e L S).bind (isY y (t y.k))
def atY (y : Cau) (j : Nat) (f : Str) (v : Val) (S : Store) : R Val := match v with
  | .exc a d nm fs => if a = y.a ∧ d = y.d ∧ nm[j]? = some f ∧ nm.Nodup then R.of fs[j]? S else .bad
  | _ => .bad
def eAtY (y : Cau) (j : Nat) (f : Str) (e : SE) : SE := fun L S => (e L S).bind (atY y j f)
def rIsY (K : PySem.W.Frag) (y : Cau) (D : Addr) : List V → Hp → VK → Prop := fun xs H Q => ∃ (c : V) (cv : Value) (b : Bool), xs = [.ref y.a, c] ∧ (∀ u, RelV c u → u = cv) ∧ (∀ dx, y.d = some dx → ∃ fs, H dx = some (.xd fs)) ∧ PySem.W.kitOne K (.ref D) cv = some b ∧ Q (.bl b) H
theorem call_isY {p : Addr × Obj} {y : Cau} (hK : X.K = G.K) (C : ExcC X.K (G.xcl y.k)) (hp : p ∈ X.pn) (hy : PinX G p y) : CallR X (.builtin "isinstance") (rIsY X.K y (G.xcl y.k)) := fun pins s σ H xs us Q I r h => by
  obtain ⟨c, cv, b, rfl, hc, hd, e, q⟩ := h
  obtain ⟨u1, u2, rfl, r1, r2⟩ := vals2 r
  cases (show u1 = Value.ref y.a from r1)
  cases hc _ r2
  obtain ⟨ga, _⟩ := I.pin p (List.mem_append_left _ hp)
  obtain ⟨cd, hcd, _⟩ := PySem.W.any_some C.hd
  have hcl : (PySem.W.clsIn X.K (G.xcl y.k)).isSome = true := by rw [hcd]; rfl
  obtain ⟨vs, hv⟩ := hy.f
  have no : PySem.W.notCls p.2 = true := by unfold PySem.W.notCls; rw [hv] <;> rfl
  rw [hy.a] at ga
  have : ∃ od, PySem.W.InstAt s.heap y.a p.2 (G.xcl y.k) od := by
    have dz := hy.z.2.1
    cases dq : y.d with
    | none => exact ⟨none, ga, hy.z.1, no, by rw [dz, dq]; exact True.intro⟩
    | some dx =>
      obtain ⟨fs, hf⟩ := hd dx dq
      obtain ⟨mA, hns, _⟩ := (show ObjOk X.prog X.w H s.heap dx (.xd fs) from I.hok dx _ hf)
      obtain ⟨od, ho, _⟩ := lookIn_ns hns
      exact ⟨some od, ga, hy.z.1, no, by rw [dz, dq]; exact ho⟩
  obtain ⟨od, J⟩ := this
  exact PySem.W.kia_one (PySem.W.kitx_exc hcl C.hg C.hk C.hs C.ha C.hn C.ht C.hm) I.kIn J e (fun z => nomatch z) fun tk => ⟨.bl b, H, I.tok tk, rfl, q⟩
theorem isY_ {y : Cau} {t : Nat → Option Bool} {c : V} {cv : Value} (hK : X.K = G.K) (hc : ∀ u, RelV c u → u = cv) (ht : ∀ k b, t k = some b → PySem.W.kitOne G.K (.ref (G.xcl k)) cv = some b)
    (h : PE X e (tCB (rIsY X.K y (G.xcl y.k)) (tCons (tE G W fa) (tCons (tC c) tNil)))) : PE X e (tE G W (eIsY y t fa)) := PE.imp h fun σ H Q q => by
  obtain ⟨F, A, ρ, L, S, l, r0, q⟩ := q
  refine ⟨F, A, ρ, L, S, l, r0, EvOk.bind q fun v S1 A1 ρ1 H1 x1 r1 q1 w rw => ?_⟩
  unfold isY at q1
  split at q1
  · rename_i a d nm fs b e
    split at q1
    · rename_i z
      obtain ⟨rfl, rfl⟩ := z
      obtain ⟨ew, k⟩ := rw
      subst ew
      refine ⟨c, cv, b, rfl, hc, fun dx ed => ?_, hK ▸ ht _ _ e, q1 A1 ρ1 H1 Ext.refl r1 _ rfl⟩
      rcases k with ⟨k, _⟩ | ⟨dx1, vs, e1, e2, _⟩
      · rw [k] at ed; cases ed
      · rw [e1] at ed; cases ed
        exact ⟨_, e2⟩
    · exact q1.elim
  · exact q1.elim
theorem pe_atP {p : Addr × Obj} {y : Cau} {te : TE} {f : Str} (T : XfC X.K (G.xcl y.k)) (hno : PySem.W.findIn X.K (.ref (G.xcl y.k)) f = some none) (hp : p ∈ X.pn) (hy : PinX G p y) (he : PE X e te) (hb : attributeBase e f X.env (eval e X.env) = eval e X.env := by rfl) :
    PE X (.Attribute e f pos) (fun σ H Q => te σ H fun x H1 => x = .ref y.a ∧ ∃ (dd : Addr) (fs : List (Str × V)) (v : V), y.d = some dd ∧ H1 dd = some (.xd fs) ∧ fs.lookup f = some v ∧ Q v H1) := by
  constructor
  intro pins s σ H Q I h
  refine attr_of hb (thn (he.run pins s σ H _ I h) fun u s1 ⟨x, H1, J, rx, ex, dd, fs, v, ed, ea, l, q⟩ => ?_)
  subst ex
  cases (show u = Value.ref y.a from rx)
  obtain ⟨ga, _⟩ := J.pin p (List.mem_append_left _ hp)
  rw [hy.a] at ga
  obtain ⟨vs, hv⟩ := hy.f
  obtain ⟨mA, hns, hr⟩ := (show ObjOk X.prog X.w H1 s1.heap dd (.xd fs) from J.hok dd _ ea)
  obtain ⟨od, ho, hl⟩ := lookIn_ns hns
  obtain ⟨u2, hu, ru⟩ := RelO.some_of (v := v) (o := mA f) (by rw [← l]; exact hr f)
  have no : PySem.W.notCls p.2 = true := by unfold PySem.W.notCls; rw [hv] <;> rfl
  have K1 : PySem.W.InstAt s1.heap y.a p.2 (G.xcl y.k) (some od) := ⟨ga, hy.z.1, no, by rw [hy.z.2.1, ed]; exact ho⟩
  have fo := PySem.W.findObj_own T.hdC hno rfl (by rw [hl, hu])
  exact HandSPX.exc_get J.kIn K1 T.ga T.gg T.exC fo (handed_of ru) ⟨v, H1, J.tok _, ru, q⟩
theorem atY_ {p : Addr × Obj} {y : Cau} {j : Nat} {f : Str} (hK : X.K = G.K) (T : XfC X.K (G.xcl y.k)) (hno : PySem.W.findIn X.K (.ref (G.xcl y.k)) f = some none) (hp : p ∈ X.pn) (hy : PinX G p y) (he : PE X e (tE G W fa)) (hb : attributeBase e f X.env (eval e X.env) = eval e X.env := by rfl) :
    PE X (.Attribute e f pos) (tE G W (eAtY y j f fa)) := PE.imp (pe_atP T hno hp hy he hb) fun σ H Q q => by
  obtain ⟨F, A, ρ, L, S, l, r0, q⟩ := q
  refine ⟨F, A, ρ, L, S, l, r0, EvOk.bind q fun v S1 A1 ρ1 H1 x1 r1 q1 w rw => ?_⟩
  unfold atY at q1
  split at q1
  · rename_i a d nm fs
    split at q1
    · rename_i z
      obtain ⟨rfl, rfl, z1, z2⟩ := z
      obtain ⟨z, ez, q3⟩ := of_ok q1
      obtain ⟨ew, k⟩ := rw
      subst ew
      rcases k with ⟨_, k⟩ | ⟨dx, vs, e1, e2, p⟩
      · rw [k] at ez; cases ez
      · obtain ⟨u, eu, ru⟩ := p.get ez
        exact ⟨rfl, dx, _, u, e1, e2, lookup_zip z2 z1 eu, q3 A1 ρ1 H1 Ext.refl r1 _ ru⟩
    · exact q1.elim
  · exact q1.elim

/-! ### raise C(e, ..), C an own class with a maker of its own -/
theorem pmkN {CX : CXT} {x : Str} {C fI : Addr} {k : Nat} {fd : FuncData} {ps : List Str} {sp : Sp} {ta : TA} {q1 : Pos} (T : OexC X.K C) (iC : PySem.W.findIn X.K (.ref C) "__init__" = some (some (.ref fI))) (tI : PySem.W.typeIn X.K (.ref fI) = some (.type "function"))
    (Fk : FnOk X.prog X.w X.K X.mg X.base CX k fI fd ps sp) (hr : Room (k + 1) X.A) (hb : Binds X.K fd ps []) (hx : Passes CX X (fun _ _ _ => False)) (hg : Gl X x) (hm : X.mg x = some (.ref C)) (ha : PA X (e :: es) ta)
    (hd : (x == ("__debug__" : Str)) = false := by decide) (h1 : starEach (e :: es) X.env = (false, eval e X.env) :: starEach es X.env := by rfl) (h2 : (backTo pos (starEach es X.env)).any (·.1) = false := by rfl) :
    L2N.PMk X (.Call (.Name x q1) (e :: es) [] pos) (tMkO C sp [] ta) := fun pins s σ H Q I h => by
  obtain ⟨_, _, _, _, bm, _, _, _, _, _, _, _, _, _, _, hC, hbm⟩ := T.cls
  refine wpAny_Call_Name_kw (ld_glob I hg hm (PySem.W.callWith_K (h₀ := X.base) I.ok.mod.kin T.kC (thn (ha.run pos pins s σ H _ I h) fun us s1 z => ?_) h1 h2) hd)
  obtain ⟨vs, H1, J, r, _, z⟩ := z
  refine ⟨J.kIn, ?_⟩
  obtain ⟨hp, g, dr, tk, os⟩ := s1
  show wpAny _ _ (call (.ref C) us) _ _ _
  have le : hp.objs.size ≤ hp.objs.size + 1 := Nat.le_succ _
  have z := z (hp.objs.size + 1) (J.hok.fresh le)
  rw [List.append_nil] at z
  have two : ∀ b o, hp.get? b = some o → ((hp.push (PySem.W.kdv_tup us)).push (PySem.HandSPX.excO C hp.objs.size)).get? b = some o := fun b o e => Heap.get?_push_of_some _ (Heap.get?_push_of_some _ e)
  have J2 : Inv X pins σ (upd H1 (hp.objs.size + 1) (exo (hp.objs.size + 1) C none)) ⟨(hp.push (PySem.W.kdv_tup us)).push (PySem.HandSPX.excO C hp.objs.size), g, dr, tk, os⟩ :=
    J.laid (t' := tk) (a := hp.objs.size + 1) (o := exo (hp.objs.size + 1) C none) (h' := (hp.push (PySem.W.kdv_tup us)).push (PySem.HandSPX.excO C hp.objs.size)) two le (exo_ok (by heap_get))
  have r2 : Vals (V.ref (hp.objs.size + 1) :: vs) (Value.ref (hp.objs.size + 1) :: us) := .cons rfl r
  have ln : (Value.ref (hp.objs.size + 1) :: us ++ []).length = ps.length := by
    rw [List.append_nil, ← r2.length]
    exact Fk.len _ _ _ _ z
  have small : us.length ≤ sizeLine := by
    rw [← Paired.length r, sizeLine_eq]
    omega
  have b2 := hb _ (Value.ref (hp.objs.size + 1) :: us) J2.kIn ln
  rw [List.append_nil] at b2
  refine wpAny_call (PySem.HandSPX.call_own F.excBase_ValueError (fun Y => PySem.HandSPX.refsVE_contains Y bm hbm) (J.kIn _ _ hC) (PySem.W.looks_findIn J.kIn iC) (fun self => PySem.W.bind_fn J.kIn self tI) small
    (codeAny_mono (Fk.run _ X.stack _ _ ⟨Value.ref (hp.objs.size + 1) :: us, []⟩ (Value.ref (hp.objs.size + 1) :: us) _ _ (fun _ _ _ => False) (hr.make C us []) (J2.env0.make C us []) b2 r2 z) fun r s2 z2 => ?_))
  match r, z2 with
  | .error er, z2 => exact hx pins σ _ _ er s2 J2 z2
  | .ok (.ret u), z2 =>
    obtain ⟨v, H2, os2, bare2, un2, hok2, rv, ev, d, fs, ea, ed, hd1, q2⟩ := z2
    subst ev
    obtain ⟨h2, g2, d2, t2, os3⟩ := s2
    obtain ⟨t0, G2, J3, kG, ge, hoe, na⟩ := mk_end0 (d2 := d2) (t2 := t2) J le two un2 hok2 os2 bare2 ea ed hd1
    exact ⟨rv, hp.objs.size + 1, _, _, ⟨G2, g2, d2, t2, os3⟩, _, .ref C, some d, rfl, J3, kG, ge, hoe, ⟨rfl, rfl, fun vs hv => by cases hv; rfl⟩, rfl, rfl, na, rfl, bare2, raises_own T.exC T.tyC, q2⟩
  | .ok .next, z2 => exact z2.elim
  | .ok .brk, z2 => exact z2.elim
  | .ok .cont, z2 => exact z2.elim
end Ev
set_option linter.all false
set_option Elab.async false
set_option maxRecDepth 100000
set_option maxHeartbeats 2000000
/-! an exception class with a maker of its own, which takes two texts and keeps them as a pair -/
namespace Ev
open PySem L2 PySem.Spec
variable {F F1 A A1 A2 : Addr → Prop} {ρ ρ1 ρ2 : List Addr} {H H1 H2 : Hp} {K : PySem.W.Frag} {G : PC} {S S1 S2 : Store} {X : Cx} {W : WX}
variable {a b c e o : Expr} {es : List Expr} {fa fb fc : SE} {as : SA} {pos : Pos} {st : Stmt}
/-- the promise of a maker that keeps two texts in a field -/
def spXP (K : PySem.W.Frag) (f : Str) : Sp := fun vs H Q _ => ∃ (a C : Addr) (x y : Str), vs = [.ref a, .str x, .str y] ∧ (x.length ≤ 1000 ∧ y.length ≤ 1000) ∧ OexC K C ∧ PySem.W.findIn K (.ref C) f = some none ∧ H a = some (exo a C none) ∧
  ∀ p, H p = none → ∀ dx, upd H p (.tup [.str x, .str y]) dx = none → dx ≠ a → Q .non (upd (upd (upd H p (.tup [.str x, .str y])) dx (exd dx [(f, .ref p)])) a (exo a C (some dx)))
/-- its body's reading: base.__init__(self, f'u{x}v{y}'); self.f = (x, y) -/
def tXP (K : PySem.W.Frag) (f u v : Str) : TS := tSeq (tDrop (tVeI K (tCons (tVar 0) (tCons (fun σ H Q => tJs [tC (.str u), tFmt (tVar 1), tC (.str v), tFmt (tVar 2)] Str.empty σ H fun out H1 => Q (.str out) H1) tNil)))) (tOst K f (tVar 0) (tTup (tCons (tVar 1) (tCons (tVar 2) tNil))))
theorem txp_ok {f u v : Str} (hz : u.length + v.length ≤ 1000) {vs : List V} {H : Hp} {Q : VK} {E : XK} (h : spXP K f vs H Q E) : tXP K f u v { nx := fun _ H' => Q .non H', rt := Q } (vs.map some) H := by
  obtain ⟨a, C, x, y, rfl, ⟨h0, h1⟩, T, hn, hx, q⟩ := h
  have big : ∀ n : Nat, n ≤ 5000 → n ≤ sizeLine := fun n hn => by
    rw [sizeLine_eq]
    omega
  have le : (Str.empty : Str).length = 0 := rfl
  have la : ∀ x y : Str, (x ++ y).length = x.length + y.length := fun x y => Array.size_append
  refine ⟨_, rfl, u, rfl, big _ (by rw [la, le]; omega), _, rfl, .inl ⟨x, rfl, big _ (by omega), ?_⟩⟩
  refine ⟨_, rfl, big _ (by rw [la, la, le]; omega), v, rfl, big _ (by rw [la, la, la, le]; omega), _, rfl, .inl ⟨y, rfl, big _ (by omega), ?_⟩⟩
  refine ⟨_, rfl, big _ (by rw [la, la, la, la, le]; omega), ?_⟩
  refine ⟨a, C, _, rfl, by simp, T, hx, ?_⟩
  refine ⟨_, rfl, _, rfl, big _ (by simp), fun p hp => ?_⟩
  have pa : p ≠ a := fun z => by rw [z, hx] at hp; cases hp
  refine ⟨_, rfl, a, C, rfl, T, hn, .inl ⟨by rw [upd_ne (Ne.symm pa)]; exact hx, fun dx n ne => q p hp dx n ne⟩⟩
def raiP (k : Nat) (L : Loc) (v : Val) (S : Store) : SR := match v with
  | .d (.tup [.str x, .str y]) => if x.length ≤ 1000 ∧ y.length ≤ 1000 then .ex ⟨k, [.tup [.str x, .str y]]⟩ L S else .bad
  | _ => .bad
def sRaiseP (k : Nat) (e : SE) : SS := fun L S => (e L S).to L (raiP k L)
theorem allD_two {vs : List Val} {x y : D} (h : allD vs = some [x, y]) : vs = [.d x, .d y] := by
  match vs, h with
  | [], h => cases h
  | .d a :: r, h =>
    rw [show allD (.d a :: r) = (allD r).map (a :: ·) from rfl] at h
    match r, h with
    | [], h => cases h
    | .d b :: r, h =>
      rw [show allD (.d b :: r) = (allD r).map (b :: ·) from rfl] at h
      match r, h with
      | [], h => cases h; rfl
      | .d c :: r, h =>
        rw [show allD (.d c :: r) = (allD r).map (c :: ·) from rfl] at h
        cases e : allD r with
        | none => rw [e] at h; cases h
        | some z => rw [e] at h; cases h
      | .ref _ :: r, h => cases h
      | .vt _ :: r, h => cases h
      | .exc .. :: r, h => cases h
    | .ref _ :: r, h => cases h
    | .vt _ :: r, h => cases h
    | .exc .. :: r, h => cases h
  | .ref _ :: r, h => cases h
  | .vt _ :: r, h => cases h
  | .exc .. :: r, h => cases h
theorem raiP_some {k : Nat} {L : Loc} {v : Val} {S : Store} (h : raiP k L v S ≠ .bad) : ∃ x y : Str, v = .d (.tup [.str x, .str y]) ∧ (x.length ≤ 1000 ∧ y.length ≤ 1000) ∧ raiP k L v S = .ex ⟨k, [.tup [.str x, .str y]]⟩ L S := by
  unfold raiP at h ⊢
  split at h
  · rename_i x y
    split at h
    · rename_i c
      exact ⟨x, y, rfl, c, if_pos c⟩
    · exact (h rfl).elim
  · exact (h rfl).elim
theorem raise2_ {k : Nat} {f : Str} (hf : G.xfl k = [f]) (hx : XIAt G k fI) (hn : PySem.W.findIn G.K (.ref (G.xcl k)) f = some none) (h : PS X st (fun _ σ H => tMkO (G.xcl k) (spXP G.K f) [] (tA' G W as) σ H fun cls d H' => W cls d σ H')) : PS X st (tS G W (sRaiseP k (eTup as))) := PS.imp h fun D σ H q => by
  obtain ⟨F, A, ρ, L, S, l, r, q⟩ := q
  refine ⟨F, A, ρ, L, S, l, r, ?_⟩
  have q0 : StOk G F W D A ρ H ((as L S).to L fun vs S1 => (eTup (fun _ _ => .ok vs S1) L S1).to L (raiP k L)) := by
    have e : sRaiseP k (eTup as) L S = ((as L S).to L fun vs S1 => (eTup (fun _ _ => .ok vs S1) L S1).to L (raiP k L)) := by
      unfold sRaiseP eTup
      cases as L S <;> rfl
    rw [← e]; exact q
  refine st_ok r l q0 fun vs S1 A1 ρ1 H1 x1 r1 q1 ws rws => ?_
  have q2 : StOk G F W D A1 ρ1 H1 ((if vs.length ≤ 1000 then (match allD vs with
    | some ds => (.ok (.d (.tup ds)) S1 : R Val)
    | none => .ok (.vt vs) S1) else .bad).to L (raiP k L)) := q1
  split at q2
  · rename_i c
    cases e : allD vs with
    | none => rw [e] at q2; exact q2.elim
    | some ds =>
      rw [e] at q2
      have q3 : StOk G F W D A1 ρ1 H1 (raiP k L (.d (.tup ds)) S1) := q2
      by_cases hb : raiP k L (.d (.tup ds)) S1 = .bad
      · rw [hb] at q3; exact q3.elim
      · obtain ⟨x, y, ev, hl, er⟩ := raiP_some hb
        rw [er] at q3
        cases ev
        have ew := allD_two e
        subst ew
        obtain ⟨w1, t1, rfl, p1, w2, t2, rfl, p2, e3⟩ := rws
        cases e3
        have p1 : w1 = .str x := p1
        have p2 : w2 = .str y := p2
        subst p1 p2
        refine ⟨by simp, fun a ha => ?_⟩
        refine ⟨a, G.xcl k, x, y, rfl, hl, hx.ox, hn, upd_same, fun p hp dx hdx ne => ?_⟩
        have pa : p ≠ a := fun z => by rw [z, upd_same] at hp; cases hp
        have hp1 : H1 p = none := by rw [upd_ne pa] at hp; exact hp
        have dp : dx ≠ p := fun z => by rw [z, upd_same] at hdx; cases hdx
        have hd : H1 dx = none := by rw [upd_ne dp, upd_ne ne] at hdx; exact hdx
        refine ⟨rfl, dx, [(f, .ref p)], upd_same, by rw [upd_ne ne, upd_same], hd, ?_⟩
        have eH : upd (del (upd (upd (upd (upd H1 a (exo a (G.xcl k) none)) p (.tup [.str x, .str y])) dx (exd dx [(f, .ref p)])) a (exo a (G.xcl k) (some dx))) a) dx (.xd [(f, .ref p)]) = upd (upd H1 p (.tup [.str x, .str y])) dx (.xd [(f, .ref p)]) := by
          funext b
          by_cases h1 : b = dx
          · rw [h1, upd_same, upd_same]
          · rw [upd_ne h1, upd_ne h1]
            by_cases h2 : b = a
            · rw [h2, del_same, upd_ne (Ne.symm pa), ha]
            · rw [del_ne h2, upd_ne h2, upd_ne h1]
              by_cases h3 : b = p
              · rw [h3, upd_same, upd_same]
              · rw [upd_ne h3, upd_ne h3, upd_ne h2]
        rw [eH]
        obtain ⟨x2, r2⟩ := r1.laid hp1 (.tup [.str x, .str y])
        have hd2 : upd H1 p (.tup [.str x, .str y]) dx = none := by rw [upd_ne dp]; exact hd
        obtain ⟨x3, r3⟩ := r2.laid hd2 (.xd [(f, .ref p)])
        refine q3 A1 ρ1 _ σ (.ref (G.xcl k)) (some dx) (x2.trans x3) r3 (((l.mv x1 r).mv x2 r1).mv x3 r2) ⟨rfl, .inr ⟨dx, [.ref p], rfl, by rw [upd_same, hf]; rfl, _, [], rfl, ?_, rfl⟩⟩
        exact ⟨p, [.str x, .str y], rfl, SqT.of (by rw [upd_ne (Ne.symm dp), upd_same]), _, _, rfl, rfl, _, _, rfl, rfl, rfl⟩
  · exact q2.elim
theorem raiP_two {k : Nat} {L : Loc} {x y : Str} {S : Store} (h : x.length ≤ 1000 ∧ y.length ≤ 1000) : raiP k L (.d (.tup [.str x, .str y])) S = .ex ⟨k, [.tup [.str x, .str y]]⟩ L S := if_pos h
end Ev
set_option linter.all false
set_option Elab.async false
set_option maxRecDepth 100000
set_option maxHeartbeats 2000000
/-! what a generated text names -/
namespace Ev
open PySem L2 PySem.Spec
variable {F F1 A A1 A2 : Addr → Prop} {ρ ρ1 ρ2 : List Addr} {H H1 H2 : Hp} {K : PySem.W.Frag} {G : PC} {S S1 S2 : Store} {X : Cx} {W : WX}
variable {a b c e o : Expr} {es : List Expr} {fa fb fc : SE} {as : SA} {pos : Pos} {st : Stmt}
theorem passN : Passes (L2N.CX X.prog X.w) X E0 := fun _ _ _ _ _ _ _ z => by
  obtain ⟨_, _, _, _, _, _, _, _, _, _, _, _, q⟩ := z
  exact q.elim
theorem takesN : L2N.Takes X (fun _ _ _ _ => False) := fun _ _ z => by
  obtain ⟨_, _, _, _, _, _, _, _, _, _, _, _, _, _, _, _, q⟩ := z
  exact q.elim
/-- an own exception's method -/
structure XmAt (K : PySem.W.Frag) (m qual : Str) (st : Stmt) (ps : List Str) (f : Addr) (fd : FuncData) : Prop where
  fn : Fun K m qual st f fd
  bi : Binds K fd ps []
/-- raise C(e) of such a class, in a def of level n -/
def rz : Nat → Nat → SE → SS
  | _ + 2, k, e => if k < 1000 then sRaiseI k e else sRaiseP (k - 1000) e
  | _, _, _ => sBad
theorem rz_i {n k : Nat} {e : SE} (h : k < 1000) : rz (n + 2) k e = sRaiseI k e := if_pos h
theorem rz_p {n k : Nat} {e : SE} : rz (n + 2) (k + 1000) e = sRaiseP k e := by
  show (if k + 1000 < 1000 then sRaiseI (k + 1000) e else sRaiseP (k + 1000 - 1000) e) = _
  rw [if_neg (by omega), Nat.add_sub_cancel]
theorem raiseP {k : Nat} {x m : Str} {j : Nat} {p p2 q : Pos} (x0 : XAt G k) (hK : X.K = G.K) (hc : X.calm = true) (tk : L2N.Takes X W) (hg : Gl X x) (hm : X.mg x = some (.ref (G.xcl k))) (hd : (x == ("__debug__" : Str)) = false := by decide) :
    PS X (.Raise (some (.Call (.Name x p) [.Constant (.str m) j p2] [] q)) none pos) (tS G W (sRaise k)) :=
  raise_ (L2N.ps_raise hc tk (L2N.pmk_own PySem.F.excBase_ValueError (hK ▸ x0.xc) hm (hK ▸ x0.kp) (raises_own (hK ▸ x0.sb) (hK ▸ x0.ty)) hg hd))
theorem raiseG {k n : Nat} {f x : Str} {fI : Addr} {fd : FuncData} {ps : List Str} {p q : Pos} (x0 : XIAt G k fI) (hf : G.xfl k = [f]) (hn : PySem.W.findIn G.K (.ref (G.xcl k)) f = some none) (Fk : ∀ m, FnOk X.prog X.w X.K X.mg X.base (L2N.CX X.prog X.w) (m + 1) fI fd ps (spXI G.K f)) (hb : Binds X.K fd ps []) (hr : Room n X.A) (hK : X.K = G.K) (hc : X.calm = true)
    (tk : L2N.Takes X W) (hg : Gl X x) (hm : X.mg x = some (.ref (G.xcl k))) (ha : PE X e (tE G W fa)) (hd : (x == ("__debug__" : Str)) = false := by decide) (h1 : starEach [e] X.env = (false, eval e X.env) :: starEach [] X.env := by rfl) (hk : k < 1000 := by decide) :
    PS X (.Raise (some (.Call (.Name x p) [e] [] q)) none pos) (tS G W (rz n k fa)) := by
  match n, hr with
  | 0, _ => exact bad_
  | 1, _ => exact bad_
  | n + 2, hr =>
    rw [rz_i hk]
    exact raiseI_ hf x0 hn (L2N.ps_raise hc tk (pmkN (hK ▸ x0.ox) (hK ▸ x0.ii) (hK ▸ x0.ti) (Fk n) hr hb passN hg hm (pa_cons ha pa_nil h1) hd h1))
/-- such a class's maker -/
theorem initN {P : Program} {w : World} {mg : Str → Option Value} {base : Heap} {f : Addr} {fd : FuncData} {N ps : List Str} {k : Nat} {x qual nm u v : Str} (Fu : Fun G.K x qual st f fd) (Sc : FnScope N ps (defScope st)) (hN : N = ps) (hp : ps.length = 2) (hz : u.length + v.length ≤ 1000)
    (hb : ∀ (cd : Value) (B : Around) (out : List Env) (s : Shared) (H : Hp) (E : XK), PSs (cxOf (L2N.CX P w) P w G.K mg base N qual (defScope st) f cd B out s H E) (defBody st) (tXI G.K nm u v)) : FnOk P w G.K mg base (L2N.CX P w) (k + 1) f fd ps (spXI G.K nm) := by
  refine okN Fu Sc (fun us H Q E h => ?_) fun cd B out s H us Q E _ h => ⟨_, hb cd B out s H E, ?_⟩
  · obtain ⟨a, C, i, rfl, _⟩ := h
    exact hp.symm
  · have := txi_ok hz h
    obtain ⟨a, C, i, rfl, _⟩ := h
    have : L2.start N [V.ref a, V.int i] = [V.ref a, V.int i].map some := by
      unfold L2.start
      rw [hN, hp]
      rfl
    rw [this]
    assumption
theorem raise2G {k n : Nat} {f x : Str} {fI : Addr} {fd : FuncData} {ps : List Str} {p q : Pos} {e2 : Expr} (x0 : XIAt G k fI) (hf : G.xfl k = [f]) (hn : PySem.W.findIn G.K (.ref (G.xcl k)) f = some none) (Fk : ∀ m, FnOk X.prog X.w X.K X.mg X.base (L2N.CX X.prog X.w) (m + 1) fI fd ps (spXP G.K f)) (hb : Binds X.K fd ps []) (hr : Room n X.A) (hK : X.K = G.K) (hc : X.calm = true)
    (tk : L2N.Takes X W) (hg : Gl X x) (hm : X.mg x = some (.ref (G.xcl k))) (ha : PA X [e, e2] (tA' G W as)) (hd : (x == ("__debug__" : Str)) = false := by decide) (h1 : starEach [e, e2] X.env = (false, eval e X.env) :: starEach [e2] X.env := by rfl) (h2 : (backTo q (starEach [e2] X.env)).any (·.1) = false := by rfl) :
    PS X (.Raise (some (.Call (.Name x p) [e, e2] [] q)) none pos) (tS G W (rz n (k + 1000) (eTup as))) := by
  match n, hr with
  | 0, _ => exact bad_
  | 1, _ => exact bad_
  | n + 2, hr =>
    rw [rz_p]
    exact raise2_ hf x0 hn (L2N.ps_raise hc tk (pmkN (hK ▸ x0.ox) (hK ▸ x0.ii) (hK ▸ x0.ti) (Fk n) hr hb passN hg hm ha hd h1 h2))
/-- such a class's maker -/
theorem initP {P : Program} {w : World} {mg : Str → Option Value} {base : Heap} {f : Addr} {fd : FuncData} {N ps : List Str} {k : Nat} {x qual nm u v : Str} (Fu : Fun G.K x qual st f fd) (Sc : FnScope N ps (defScope st)) (hN : N = ps) (hp : ps.length = 3) (hz : u.length + v.length ≤ 1000)
    (hb : ∀ (cd : Value) (B : Around) (out : List Env) (s : Shared) (H : Hp) (E : XK), PSs (cxOf (L2N.CX P w) P w G.K mg base N qual (defScope st) f cd B out s H E) (defBody st) (tXP G.K nm u v)) : FnOk P w G.K mg base (L2N.CX P w) (k + 1) f fd ps (spXP G.K nm) := by
  refine okN Fu Sc (fun us H Q E h => ?_) fun cd B out s H us Q E _ h => ⟨_, hb cd B out s H E, ?_⟩
  · obtain ⟨a, C, x, y, rfl, _⟩ := h
    exact hp.symm
  · have := txp_ok hz h
    obtain ⟨a, C, x, y, rfl, _⟩ := h
    have : L2.start N [V.ref a, V.str x, V.str y] = [V.ref a, V.str x, V.str y].map some := by
      unfold L2.start
      rw [hN, hp]
      rfl
    rw [this]
    assumption
theorem hotS {a : Addr} {o : Obj} {cls : Value} {d : Option Addr} {pn : List (Addr × Obj)} (hz : L2N.Zn cls d o) (hf : ∃ vs, o.data = .fields vs) : HotP (X.suite a ((a, o) :: pn)) (a, o) := by
  obtain ⟨vs, e⟩ := hf
  exact ⟨⟨rfl, vs, e, hz.2.2 vs e⟩, List.mem_cons_self⟩
theorem hotF {CX : CXT} {P : Program} {w : World} {mg : Str → Option Value} {base : Heap} {N : List Str} {qual : Str} {sc : Scope} {f : Addr} {cd : Value} {B : Around} {out : List Env} {s : Shared} {H : Hp} {E : XK} {p : Addr × Obj} (h : L2H.Hot1 B p) : HotP (L2H.cxH CX P w K mg base N qual sc f cd B out s H E p) p :=
  ⟨⟨h.1, h.2⟩, List.mem_singleton.mpr rfl⟩
theorem huH {B : Around} {k : Nat} (hr : L2H.RoomH k B) : B.units + 64 < cLine := by have := hr.un; omega
theorem hu1H {B : Around} {k : Nat} (hr : L2H.RoomH k B) : B.units + 1 < cLine := by have := hr.un; omega
theorem iLq_ {tg : Expr} (hK : X.K = G.K) (h : PIQ X tg e (iList X.K (tE G W fa))) : PIQ X tg e (tI G W (iL fa)) := ⟨fun pins s σ H R I q => h.go pins s σ H R I (hK ▸ iL_t σ H R q)⟩
/-- list(x), a list of one's own -/
def eLstOf (a : SE) : SE := fun L S => (a L S).bind fun v S1 => match (top S1 v).bind listD with
  | some (.lst ds) => .ok (.ref S1.length) (S1 ++ [.lst ds])
  | _ => .bad
theorem lstOf_ (hK : X.K = G.K) (h : PE X e (tCB (rListC X.K) (tCons (tE G W fa) tNil))) : PE X e (tE G W (eLstOf fa)) := PE.imp h fun σ H Q q => by
  obtain ⟨F, A, ρ, L, S, l, r0, q⟩ := q
  refine ⟨F, A, ρ, L, S, l, r0, EvOk.bind q fun v S1 A1 ρ1 H1 x1 r1 q1 w rw => ?_⟩
  cases et : top S1 v with
  | none => rw [et] at q1; exact q1.elim
  | some d =>
    rw [et] at q1
    have rt := r1.top rw et
    rw [hK]
    cases d with
    | lst ds =>
      obtain ⟨a, vs, rfl, e, p⟩ := rt
      refine ⟨a, vs, rfl, .inl (SqL.of e), fun l hl => ?_⟩
      obtain ⟨x, r', d⟩ := push_lst r1 p hl
      exact q1 _ _ _ x r' _ d
    | tup ds =>
      obtain ⟨a, vs, rfl, e, p⟩ := rt
      refine ⟨a, vs, rfl, .inr e, fun l hl => ?_⟩
      obtain ⟨x, r', d⟩ := push_lst r1 p hl
      exact q1 _ _ _ x r' _ d
    | non => exact q1.elim
    | bl _ => exact q1.elim
    | int _ => exact q1.elim
    | str _ => exact q1.elim
    | scr _ => exact q1.elim
theorem btx_ValueError : bootBuiltins "ValueError" = some (.type "ValueError") := by decide +kernel
end Ev
set_option linter.all false
set_option Elab.async false
set_option maxRecDepth 100000
set_option maxHeartbeats 2000000
/-! enumerate, zip, over data -/
namespace Ev
open PySem L2 PySem.Spec
variable {F F1 A A1 A2 : Addr → Prop} {ρ ρ1 ρ2 : List Addr} {H H1 H2 : Hp} {K : PySem.W.Frag} {G : PC} {S S1 S2 : Store} {X : Cx} {W : WX}
variable {a b c e e2 o : Expr} {es : List Expr} {fa fb fc : SE} {as : SA} {pos : Pos} {st : Stmt} {L : Loc}
def enumFrom (k : Nat) : List D → List (List D)
  | [] => []
  | d :: ds => [.int (k : Int), d] :: enumFrom (k + 1) ds
def enumD (ds : List D) : List D := (enumFrom 0 ds).map .tup
def enumV (k : Nat) : List V → List (List V)
  | [] => []
  | v :: vs => [.int (k : Int), v] :: enumV (k + 1) vs
theorem enumFrom_len (k : Nat) (ds : List D) : (enumFrom k ds).length = ds.length := by
  induction ds generalizing k with
  | nil => rfl
  | cons d ds ih => exact congrArg (· + 1) (ih (k + 1))
theorem enumV_len (k : Nat) (ds : List V) : (enumV k ds).length = ds.length := by
  induction ds generalizing k with
  | nil => rfl
  | cons d ds ih => exact congrArg (· + 1) (ih (k + 1))
theorem enumFrom_get (ds : List D) : ∀ (k i : Nat), (enumFrom k ds)[i]? = (ds[i]?).map fun d => [.int ((k + i : Nat) : Int), d] := by
  induction ds with
  | nil => intro k i; simp [enumFrom]
  | cons d ds ih =>
    intro k i
    cases i with
    | zero => rfl
    | succ i =>
      have := ih (k + 1) i
      rw [show k + 1 + i = k + (i + 1) from by omega] at this
      simpa [enumFrom] using this
theorem enumV_get (ds : List V) : ∀ (k i : Nat), (enumV k ds)[i]? = (ds[i]?).map fun d => [.int ((k + i : Nat) : Int), d] := by
  induction ds with
  | nil => intro k i; simp [enumV]
  | cons d ds ih =>
    intro k i
    cases i with
    | zero => rfl
    | succ i =>
      have := ih (k + 1) i
      rw [show k + 1 + i = k + (i + 1) from by omega] at this
      simpa [enumV] using this
def itE (v : Val) (S : Store) : R (List D) := match v with
  | .d (.lst ds) => .ok (enumD ds) S
  | _ => .bad
def iEn (e : SE) : SI := fun L S => (e L S).bind itE
theorem iEn_ {elts : List Expr} {kk : Nat} {tpos : Pos} {x : Expr} (hK : X.K = G.K) (h : PI X (.Tuple elts kk tpos) x (iEnum X.K (tCons (tE G W fa) tNil))) : PI X (.Tuple elts kk tpos) x (tI G W (iEn fa)) := PI.imp h fun σ H Q ⟨F, A, ρ, L, S, l, r, q⟩ => by
  refine ⟨F, A, ρ, L, S, l, r, EvOk.bind (k := itE) q fun v S1 A1 ρ1 H1 x1 r1 q1 w rw1 => ?_⟩
  rw [hK]
  unfold itE at q1
  split at q1
  · rename_i ds
    obtain ⟨a, vs, rfl, e1, na, p⟩ := rw1
    have hl := p.len
    have kp : ∀ A2 ρ2 H2, Ext F A1 ρ1 H1 A2 ρ2 H2 → SqL G.K H2 a vs := fun A2 ρ2 H2 x => SqL.of (x.fr a _ (fun z => (na (r1.sub a z)).elim) e1)
    refine ⟨a, vs, rfl, SqL.of e1, q1 A1 ρ1 H1 Ext.refl r1 _ (.inr ⟨enumFrom 0 ds, enumV 0 vs, rfl, by rw [enumFrom_len, enumV_len, hl], fun i es us h1 h2 => ?_, fun A2 ρ2 H2 x => ⟨fun i hi => ?_, fun i hi => ?_, fun i y H3 hi z => ?_⟩⟩)⟩
    · rw [enumFrom_get] at h1
      rw [enumV_get] at h2
      cases hd : ds[i]? with
      | none => rw [hd] at h1; cases h1
      | some d =>
        rw [hd] at h1
        cases h1
        obtain ⟨v, ev, pv⟩ := p.get hd
        rw [ev] at h2
        cases h2
        exact ⟨_, _, rfl, rfl, _, _, rfl, pv, rfl⟩
    · unfold enumD at hi
      rw [List.length_map, enumFrom_len] at hi
      exact ⟨vs, vs[i], kp A2 ρ2 H2 x, List.getElem?_eq_getElem (by omega)⟩
    · unfold enumD at hi
      rw [List.length_map, enumFrom_len] at hi
      exact ⟨vs, kp A2 ρ2 H2 x, by omega⟩
    · obtain ⟨T, u, rfl, hT, rfl, hu⟩ := z
      refine ⟨T, _, rfl, hT, rfl, ?_⟩
      rw [enumV_get, hu vs (kp A2 ρ2 H2 x), Nat.zero_add]
      rfl
  · exact q1.elim
def zipD (xs ys : List D) : List (List D) := (xs.zip ys).map fun p => [p.1, p.2]
def zipV (xs ys : List V) : List (List V) := (xs.zip ys).map fun p => [p.1, p.2]
theorem zipD_get (xs ys : List D) (i : Nat) {es : List D} (h : (zipD xs ys)[i]? = some es) : ∃ x y, xs[i]? = some x ∧ ys[i]? = some y ∧ es = [x, y] := by
  unfold zipD at h
  rw [List.getElem?_map] at h
  cases hz : (xs.zip ys)[i]? with
  | none => rw [hz] at h; cases h
  | some p =>
    rw [hz] at h
    cases h
    obtain ⟨h1, h2⟩ := List.getElem?_zip_eq_some.mp hz
    exact ⟨p.1, p.2, h1, h2, rfl⟩
theorem zipV_get {xs ys : List V} {i : Nat} {x y : V} (h1 : xs[i]? = some x) (h2 : ys[i]? = some y) : (zipV xs ys)[i]? = some [x, y] := by
  unfold zipV
  rw [List.getElem?_map, List.getElem?_zip_eq_some (z := (x, y)) |>.mpr ⟨h1, h2⟩]
  rfl
theorem zipD_len (xs ys : List D) : (zipD xs ys).length = min xs.length ys.length := by
  unfold zipD
  rw [List.length_map, List.length_zip]
theorem zipV_len (xs ys : List V) : (zipV xs ys).length = min xs.length ys.length := by
  unfold zipV
  rw [List.length_map, List.length_zip]
theorem zip_reps {xs ys : List D} {us vs : List V} (p : RepDs K A H xs us) (q : RepDs K A H ys vs) (i : Nat) (es : List D) (ws : List V) (h1 : (zipD xs ys)[i]? = some es) (h2 : (zipV us vs)[i]? = some ws) : RepDs K A H es ws := by
  obtain ⟨x, y, hx, hy, rfl⟩ := zipD_get xs ys i h1
  obtain ⟨u, eu, pu⟩ := p.get hx
  obtain ⟨v, ev, pv⟩ := q.get hy
  rw [zipV_get eu ev] at h2
  cases h2
  exact ⟨u, [v], rfl, pu, v, [], rfl, pv, rfl⟩
def itZ (v w : Val) (S : Store) : R (List D) := match v, w with
  | .d (.lst xs), .d (.lst ys) => .ok ((zipD xs ys).map .tup) S
  | .d (.tup xs), .d (.tup ys) => .ok ((zipD xs ys).map .tup) S
  | _, _ => .bad
def iZp (e e' : SE) : SI := fun L S => (e L S).bind fun v S1 => (e' L S1).bind fun w S2 => itZ v w S2
theorem iZp_ {elts : List Expr} {kk : Nat} {tpos : Pos} {x : Expr} (hK : X.K = G.K) (h : PI X (.Tuple elts kk tpos) x (RZ.iZipA X.K (tCons (tE G W fa) (tCons (tE G W fb) tNil)))) : PI X (.Tuple elts kk tpos) x (tI G W (iZp fa fb)) := PI.imp h fun σ H Q ⟨F, A, ρ, L, S, l, r, q⟩ => by
  refine ⟨F, A, ρ, L, S, l, r, EvOk.bind q fun v S1 A1 ρ1 H1 x1 r1 q1 w rw1 => ?_⟩
  refine ⟨F, A1, ρ1, L, S1, l.mv x1 r, r1, EvOk.bind q1 fun v2 S2 A2 ρ2 H2 x2 r2 q2 w2 rw2 => ?_⟩
  rw [hK]
  have rw1' := rw1.mv x2 r1
  unfold itZ at q2
  split at q2
  · rename_i xs ys
    obtain ⟨a, us, rfl, e1, na, p⟩ := rw1'
    obtain ⟨b, vs, rfl, e3, nb, p3⟩ := rw2
    have l1 := p.len
    have l3 := p3.len
    have k1 : ∀ A3 ρ3 H3, Ext F A2 ρ2 H2 A3 ρ3 H3 → SqL G.K H3 a us := fun A3 ρ3 H3 x => SqL.of (x.fr a _ (fun z => (na (r2.sub a z)).elim) e1)
    have k3 : ∀ A3 ρ3 H3, Ext F A2 ρ2 H2 A3 ρ3 H3 → SqL G.K H3 b vs := fun A3 ρ3 H3 x => SqL.of (x.fr b _ (fun z => (nb (r2.sub b z)).elim) e3)
    refine ⟨a, b, us, vs, rfl, .inl ⟨SqL.of e1, SqL.of e3, q2 A2 ρ2 H2 Ext.refl r2 _ (.inr ⟨zipD xs ys, zipV us vs, rfl, by rw [zipD_len, zipV_len, l1, l3], zip_reps p p3, fun A3 ρ3 H3 x => ⟨fun i hi => ?_, fun i hi => ?_, fun i y H4 hi z => ?_⟩⟩)⟩⟩
    · rw [List.length_map, zipD_len] at hi
      exact ⟨us, vs, us[i]'(by omega), vs[i]'(by omega), k1 _ _ _ x, k3 _ _ _ x, List.getElem?_eq_getElem _, List.getElem?_eq_getElem _⟩
    · rw [List.length_map, zipD_len] at hi
      exact ⟨us, vs, k1 _ _ _ x, k3 _ _ _ x, by omega⟩
    · obtain ⟨T, u, v, rfl, hT, rfl, hu, hv⟩ := z
      exact ⟨T, _, rfl, hT, rfl, zipV_get (hu us (k1 _ _ _ x)) (hv vs (k3 _ _ _ x))⟩
  · rename_i xs ys
    obtain ⟨a, us, rfl, e1, p⟩ := rw1'
    obtain ⟨b, vs, rfl, e3, p3⟩ := rw2
    have l1 := p.len
    have l3 := p3.len
    have k1 : ∀ A3 ρ3 H3, Ext F A2 ρ2 H2 A3 ρ3 H3 → SqT G.K H3 a us := fun A3 ρ3 H3 x => x.sqT r2.noTup e1
    have k3 : ∀ A3 ρ3 H3, Ext F A2 ρ2 H2 A3 ρ3 H3 → SqT G.K H3 b vs := fun A3 ρ3 H3 x => x.sqT r2.noTup e3
    refine ⟨a, b, us, vs, rfl, .inr ⟨e1, e3, q2 A2 ρ2 H2 Ext.refl r2 _ (.inr ⟨zipD xs ys, zipV us vs, rfl, by rw [zipD_len, zipV_len, l1, l3], zip_reps p p3, fun A3 ρ3 H3 x => ⟨fun i hi => ?_, fun i hi => ?_, fun i y H4 hi z => ?_⟩⟩)⟩⟩
    · rw [List.length_map, zipD_len] at hi
      exact ⟨us, vs, us[i]'(by omega), vs[i]'(by omega), k1 _ _ _ x, k3 _ _ _ x, List.getElem?_eq_getElem _, List.getElem?_eq_getElem _⟩
    · rw [List.length_map, zipD_len] at hi
      exact ⟨us, vs, k1 _ _ _ x, k3 _ _ _ x, by omega⟩
    · obtain ⟨T, u, v, rfl, hT, rfl, hu, hv⟩ := z
      exact ⟨T, _, rfl, hT, rfl, zipV_get (hu us (k1 _ _ _ x)) (hv vs (k3 _ _ _ x))⟩
  · exact q2.elim
/-! ### x is not True -/
def isnotB : D → D → Option D
  | .bl a, .bl b => some (.bl (!decide (a = b)))
  | _, _ => none
theorem snd_isnotB : Snd2 K rNotB isnotB := fun G F A ρ S H x y z v w Q _ rs h1 h2 ez q => by
  cases x with
  | bl a => cases y with
    | bl b => cases ez; exact ⟨a, b, h1, h2, q H _ Ext.refl rs rfl⟩
    | _ => cases ez
  | _ => cases ez
theorem isnotb_ (ha : PE X a (tE G W fa)) (hb : PE X b (tE G W fb)) (hm : behindInMarks .IsNot b = false := by rfl) : PE X (.Compare a [.IsNot] [b] pos) (tE G W (eOp2 isnotB fa fb)) := cmp_ op_notBl snd_isnotB ha hb hm
theorem tisnotb_ (ha : PE X a (tE G W fa)) (hb : PE X b (tE G W fb)) (hm : behindInMarks .IsNot b = false := by rfl) : PT X (.Compare a [.IsNot] [b] pos) (tB' G W (bE (eOp2 isnotB fa fb))) := tcmp_ op_notBl snd_isnotB ha hb hm
end Ev
set_option linter.all false
set_option Elab.async false
set_option maxRecDepth 100000
set_option maxHeartbeats 2000000
/-! own dicts that are walked (locked for as long), copied; locks by expression -/
namespace Ev
open PySem L2 PySem.Spec
variable {F F1 A A1 A2 : Addr → Prop} {ρ ρ1 ρ2 : List Addr} {H H1 H2 : Hp} {K : PySem.W.Frag} {G : PC} {S S1 S2 : Store} {X : Cx} {W : WX}
variable {a b c e e2 o : Expr} {es : List Expr} {fa fb fc : SE} {as : SA} {pos : Pos} {st : Stmt} {L : Loc}
/-- an own object is changed and locked -/
theorem RS.lockW (r : RS G F A ρ S H) {a : Addr} {n : Nat} (ea : ρ[n]? = some a) {o : HO} {c c0 : Cell} (ho : isOwn o) (e0 : S[n]? = some c0) (n0 : ¬ isLk c0) (nl : isLk c)
    (hc : Ext F A ρ H A ρ (upd H a o) → RepC G A (upd H a o) ρ a c) : Ext F A ρ H A ρ (upd H a o) ∧ RS G (plus F a) A ρ (S.set n c) (upd H a o) := by
  have ma := List.mem_of_getElem? ea
  have nF : ¬ F a := fun z => n0 ((r.lk n a c0 ea e0).mp z)
  have x : Ext F A ρ H A ρ (upd H a o) := by
    refine ⟨List.prefix_refl _, fun b u nb h => (by
    by_cases hb : b = a
    · subst hb; exact (nF (nb ma)).elim
    · rw [upd_ne hb]; exact h), fun b h => ?_, fun b h => h, fun b h => .inl h, fun b h => .inl h⟩
    · by_cases hb : b = a
      · rw [hb, upd_same] at h; cases h
      · rw [upd_ne hb] at h; exact h
  have k : ∀ b, b ≠ a → upd H a o b = H b := fun b hb => upd_ne hb
  have inj : ∀ {m : Nat} {b : Addr}, m ≠ n → ρ[m]? = some b → b ≠ a := fun {m b} hm e1 z => by
    subst z
    obtain ⟨h1, e1⟩ := List.getElem?_eq_some_iff.mp e1
    obtain ⟨h2, e2⟩ := List.getElem?_eq_some_iff.mp ea
    exact hm ((List.getElem_inj r.nd).mp (e1.trans e2.symm))
  refine ⟨x, r.sub, fun b h => ?_, r.nd, by rw [List.length_set]; exact r.len, fun b h => ?_, fun b h => h.elim (r.fin b) fun h => by rw [h]; exact ma, fun m b c' e1 e2 => ?_, fun m c' e => ?_⟩
  · by_cases hb : b = a
    · rw [hb]; exact ⟨o, upd_same⟩
    · obtain ⟨u, e⟩ := r.trk b h
      exact ⟨u, (k b hb).trans e⟩
  · by_cases hb : b = a
    · rw [hb]; exact ⟨o, upd_same, ho⟩
    · obtain ⟨u, e, w⟩ := r.own b h
      exact ⟨u, (k b hb).trans e, w⟩
  · by_cases hm : m = n
    · subst hm
      have hl := (List.getElem?_eq_some_iff.mp e2).1
      rw [List.length_set] at hl
      rw [List.getElem?_set_self hl] at e2
      cases e2
      rw [ea] at e1; cases e1
      exact ⟨fun _ => nl, fun _ => .inr rfl⟩
    · rw [List.getElem?_set_ne (Ne.symm hm)] at e2
      have hl := r.lk m b c' e1 e2
      exact ⟨fun z => z.elim hl.mp fun z => (inj hm e1 z).elim, fun z => .inl (hl.mpr z)⟩
  · by_cases hm : m = n
    · subst hm
      have hl := (List.getElem?_eq_some_iff.mp e).1
      rw [List.length_set] at hl
      rw [List.getElem?_set_self hl] at e
      cases e
      exact ⟨a, ea, hc x⟩
    · rw [List.getElem?_set_ne (Ne.symm hm)] at e
      obtain ⟨b, e1, q⟩ := r.cells m c' e
      exact ⟨b, e1, q.mv x r (k b (inj hm e1))⟩
/-- and set back -/
theorem RS.unlockW (r : RS G F A ρ S H) {a : Addr} {n : Nat} (ea : ρ[n]? = some a) {o u : HO} {c0 : Cell} (hu : isOwn u) (e0 : S[n]? = some c0) (n0 : ¬ isLk c0) (h0 : H a = some u)
    (y : Ext (plus F a) A ρ (upd H a o) A1 ρ1 H1) (r1 : RS G (plus F a) A1 ρ1 S1 H1) (hc : Ext F A ρ H A1 ρ1 (upd H1 a u) → RepC G A1 (upd H1 a u) ρ1 a c0) :
    Ext F A ρ H A1 ρ1 (upd H1 a u) ∧ Ext F A1 ρ1 H1 A1 ρ1 (upd H1 a u) ∧ RS G F A1 ρ1 (S1.set n c0) (upd H1 a u) := by
  have ma := List.mem_of_getElem? ea
  have nF : ¬ F a := fun z => n0 ((r.lk n a c0 ea e0).mp z)
  have ea1 : ρ1[n]? = some a := by
    obtain ⟨t, e⟩ := y.pre
    rw [← e, List.getElem?_append_left (List.getElem?_eq_some_iff.mp ea).1]
    exact ea
  have ma1 := List.mem_of_getElem? ea1
  have x : Ext F A ρ H A1 ρ1 (upd H1 a u) := by
    refine ⟨y.pre, fun b q nb h => ?_, fun b h => ?_, y.up, fun b h => ?_, fun b h => ?_⟩
    · have hb : b ≠ a := fun z => by subst z; exact nF (nb ma)
      rw [upd_ne hb]
      exact y.fr b q (fun m => .inl (nb m)) (by rw [upd_ne hb]; exact h)
    · by_cases hb : b = a
      · rw [hb, upd_same] at h; cases h
      · rw [upd_ne hb] at h
        have := y.st b h
        rw [upd_ne hb] at this; exact this
    · rcases y.nw b h with h | h
      · exact .inl h
      · by_cases hb : b = a
        · rw [hb, upd_same] at h; cases h
        · rw [upd_ne hb] at h; exact .inr h
    · rcases y.nr b h with h | h
      · exact .inl h
      · by_cases hb : b = a
        · rw [hb, upd_same] at h; cases h
        · rw [upd_ne hb] at h; exact .inr h
  have x1 : Ext F A1 ρ1 H1 A1 ρ1 (upd H1 a u) := by
    refine ⟨List.prefix_refl _, fun b q nb h => (by
    by_cases hb : b = a
    · subst hb; exact (nF (nb ma1)).elim
    · rw [upd_ne hb]; exact h), fun b h => ?_, fun b h => h, fun b h => .inl h, fun b h => .inl h⟩
    · by_cases hb : b = a
      · rw [hb, upd_same] at h; cases h
      · rw [upd_ne hb] at h; exact h
  have k : ∀ b, b ≠ a → upd H1 a u b = H1 b := fun b hb => upd_ne hb
  have inj : ∀ {m : Nat} {b : Addr}, m ≠ n → ρ1[m]? = some b → b ≠ a := fun {m b} hm e1 z => by
    subst z
    obtain ⟨h1, e1⟩ := List.getElem?_eq_some_iff.mp e1
    obtain ⟨h2, e2⟩ := List.getElem?_eq_some_iff.mp ea1
    exact hm ((List.getElem_inj r1.nd).mp (e1.trans e2.symm))
  refine ⟨x, x1, r1.sub, fun b h => ?_, r1.nd, by rw [List.length_set]; exact r1.len, fun b h => ?_, fun b h => r1.fin b (.inl h), fun m b c' e1 e2 => ?_, fun m c' e => ?_⟩
  · by_cases hb : b = a
    · rw [hb]; exact ⟨u, upd_same⟩
    · obtain ⟨q, e⟩ := r1.trk b h
      exact ⟨q, (k b hb).trans e⟩
  · by_cases hb : b = a
    · rw [hb]; exact ⟨u, upd_same, hu⟩
    · obtain ⟨q, e, w⟩ := r1.own b h
      exact ⟨q, (k b hb).trans e, w⟩
  · by_cases hm : m = n
    · subst hm
      have hl := (List.getElem?_eq_some_iff.mp e2).1
      rw [List.length_set] at hl
      rw [List.getElem?_set_self hl] at e2
      cases e2
      rw [ea1] at e1; cases e1
      exact ⟨fun z => (nF z).elim, fun z => (n0 z).elim⟩
    · rw [List.getElem?_set_ne (Ne.symm hm)] at e2
      have hl := r1.lk m b c' e1 e2
      exact ⟨fun z => hl.mp (.inl z), fun z => (hl.mpr z).elim (fun z => z) fun z => (inj hm e1 z).elim⟩
  · by_cases hm : m = n
    · subst hm
      have hl := (List.getElem?_eq_some_iff.mp e).1
      rw [List.length_set] at hl
      rw [List.getElem?_set_self hl] at e
      cases e
      exact ⟨a, ea1, hc x⟩
    · rw [List.getElem?_set_ne (Ne.symm hm)] at e
      obtain ⟨b, e1, q⟩ := r1.cells m c' e
      exact ⟨b, e1, RepC.mv' x1 r1.rn (List.prefix_refl _) (k b (inj hm e1)) q⟩
/-- as mapS; nothing is said of what is raised -/
def SR.mapD (f : Store → Store) : SR → SR
  | .nx L S => .nx L (f S)
  | .rt v S => .rt v (f S)
  | .bk L S => .bk L (f S)
  | .ct L S => .ct L (f S)
  | .ex .. => .bad
  | .bad => .bad
/-- what a lock names -/
def refOf (r : R Val) : Option Nat := match r with
  | .ok (.ref n) _ => some n
  | _ => none
/-- a statement while the own dict at n is locked -/
def lkDC (n : Nat) (s : SS) (L : Loc) (S : Store) (c : Option Cell) : SR := match c with
  | some (.dic ks ds) => (s L (S.set n (.ldk ks ds))).mapD fun S1 => S1.set n (.dic ks ds)
  | some (.dit ks ds) => (s L (S.set n (.ldt ks ds))).mapD fun S1 => S1.set n (.dit ks ds)
  | _ => .bad
def lkDO (s : SS) (L : Loc) (S : Store) (n : Option Nat) : SR := match n with
  | some n => lkDC n s L S S[n]?
  | none => .bad
/-- a statement while the own dict that e names is locked -/
def sLkD (e : SE) (s : SS) : SS := fun L S => lkDO s L S (refOf (e L S))
theorem lock_ok {D : Ends} {σ : St} {a : Addr} {n : Nat} {o u : HO} {c c0 : Cell} {s : SS} (r : RS G F A ρ S H) (l : RL G.K A H ρ L σ) (ea : ρ[n]? = some a) (e0 : S[n]? = some c0) (n0 : ¬ isLk c0) (hu : isOwn u) (h0 : H a = some u)
    (x : Ext F A ρ H A ρ (upd H a o)) (r2 : RS G (plus F a) A ρ (S.set n c) (upd H a o)) (hc : ∀ A1 ρ1 H1, Ext F A ρ H A1 ρ1 (upd H1 a u) → RepC G A1 (upd H1 a u) ρ1 a c0)
    (q : StOk G F W D A ρ H ((s L (S.set n c)).mapD fun S1 => S1.set n c0)) :
    tS G W s ⟨fun σ' H' => H' a = some o ∧ D.nx σ' (upd H' a u), fun v H' => H' a = some o ∧ D.rt v (upd H' a u), fun σ' H' => H' a = some o ∧ D.bk σ' (upd H' a u), fun σ' H' => H' a = some o ∧ D.ct σ' (upd H' a u)⟩ σ (upd H a o) := by
  have inn : ∀ {A1 ρ1 H1 S1}, Ext (plus F a) A ρ (upd H a o) A1 ρ1 H1 → RS G (plus F a) A1 ρ1 S1 H1 → H1 a = some o ∧ Ext F A ρ H A1 ρ1 (upd H1 a u) ∧ Ext F A1 ρ1 H1 A1 ρ1 (upd H1 a u) ∧ RS G F A1 ρ1 (S1.set n c0) (upd H1 a u) := fun {A1 ρ1 H1 S1} y r1 =>
    ⟨y.fr a o (fun _ => .inr rfl) upd_same, r.unlockW ea hu e0 n0 h0 y r1 (hc A1 ρ1 H1)⟩
  refine ⟨plus F a, A, ρ, L, S.set n c, l.mv x r, r2, ?_⟩
  revert q
  cases s L (S.set n c) with
  | bad => exact fun q => q
  | ex y L1 S1 => exact fun q => q.elim
  | nx L1 S1 =>
    intro q A1 ρ1 H1 σ1 y r1 l1
    obtain ⟨h1, y2, y3, r3⟩ := inn y r1
    exact ⟨h1, q A1 ρ1 _ σ1 y2 r3 ⟨l1.1, fun i w e => let ⟨v, e1, p⟩ := l1.2 i w e; ⟨v, e1, RepV.mv' y3 r1.rn (List.prefix_refl _) w v p⟩⟩⟩
  | bk L1 S1 =>
    intro q A1 ρ1 H1 σ1 y r1 l1
    obtain ⟨h1, y2, y3, r3⟩ := inn y r1
    exact ⟨h1, q A1 ρ1 _ σ1 y2 r3 ⟨l1.1, fun i w e => let ⟨v, e1, p⟩ := l1.2 i w e; ⟨v, e1, RepV.mv' y3 r1.rn (List.prefix_refl _) w v p⟩⟩⟩
  | ct L1 S1 =>
    intro q A1 ρ1 H1 σ1 y r1 l1
    obtain ⟨h1, y2, y3, r3⟩ := inn y r1
    exact ⟨h1, q A1 ρ1 _ σ1 y2 r3 ⟨l1.1, fun i w e => let ⟨v, e1, p⟩ := l1.2 i w e; ⟨v, e1, RepV.mv' y3 r1.rn (List.prefix_refl _) w v p⟩⟩⟩
  | rt v S1 =>
    intro q A1 ρ1 H1 w y r1 rw
    obtain ⟨h1, y2, y3, r3⟩ := inn y r1
    exact ⟨h1, q A1 ρ1 _ w y2 r3 (RepV.mv' y3 r1.rn (List.prefix_refl _) v w rw)⟩
theorem slkd_ {s : SS} {fe : SE} (h : PS X st (tS G W s)) : PS X st (tS G W (sLkD fe s)) := PS.imp (ps_lock h) fun D σ H ⟨F, A, ρ, L, S, l, r, q⟩ => by
  unfold sLkD lkDO at q
  split at q
  · rename_i n en
    unfold lkDC at q
    split at q
    · rename_i ks ds e0
      obtain ⟨a, ea, vs, h0, h1, h2⟩ := r.cells n _ e0
      refine ⟨a, .dK (ks.zip vs), h0, True.intro, fun od => ?_⟩
      obtain ⟨x, r2⟩ := r.lockW ea (o := .frz od (.dK (ks.zip vs))) (c := .ldk ks ds) True.intro e0 (fun z => z) True.intro (fun x => ⟨vs, ⟨od, upd_same⟩, h1, RepDs.mv x r ds vs h2⟩)
      exact lock_ok r l ea e0 (fun z => z) True.intro h0 x r2 (fun A1 ρ1 H1 y => ⟨vs, upd_same, h1, RepDs.mv y r ds vs h2⟩) q
    · rename_i ks ds e0
      obtain ⟨a, ea, vs, h0, h1, h2⟩ := r.cells n _ e0
      refine ⟨a, .dT (ks.zip vs), h0, True.intro, fun od => ?_⟩
      obtain ⟨x, r2⟩ := r.lockW ea (o := .frz od (.dT (ks.zip vs))) (c := .ldt ks ds) True.intro e0 (fun z => z) True.intro (fun x => ⟨vs, ⟨od, upd_same⟩, h1, RepDs.mv x r ds vs h2⟩)
      exact lock_ok r l ea e0 (fun z => z) True.intro h0 x r2 (fun A1 ρ1 H1 y => ⟨vs, upd_same, h1, RepDs.mv y r ds vs h2⟩) q
    · exact q.elim
  · exact q.elim
/-! ### the walk of a locked dict -/
def kD : Key → D
  | .inl i => .int i
  | .inr x => .str x
theorem kD_rep (k : Key) : RepD K A H (kD k) (kV k) := by cases k <;> rfl
def itDK (v : Val) (S : Store) : R (List D) := match v with
  | .ref n => (match S[n]? with
    | some (.ldk ks _) => .ok (ks.map kD) S
    | _ => .bad)
  | _ => .bad
/-- the keys of a locked own dict -/
def iDK (e : SE) : SI := fun L S => (e L S).bind itDK
theorem zip_key {ks : List Key} {vs : List V} (hl : ks.length = vs.length) (i : Nat) : (ks.zip vs)[i]?.map Prod.fst = ks[i]? := by
  rw [← List.getElem?_map, List.map_fst_zip (by omega)]
theorem zip_val {ks : List Key} {vs : List V} (hl : ks.length = vs.length) (i : Nat) : (ks.zip vs)[i]?.map Prod.snd = vs[i]? := by
  rw [← List.getElem?_map, List.map_snd_zip (by omega)]
theorem keys_rep (ks : List Key) : RepDs K A H (ks.map kD) (ks.map kV) := by
  induction ks with
  | nil => rfl
  | cons k r ih => exact ⟨_, _, rfl, kD_rep k, ih⟩
theorem iDK_ {tg : Expr} (h : PI X tg e (iKeys (tE G W fa))) : PI X tg e (tI G W (iDK fa)) := PI.imp h fun σ H Q ⟨F, A, ρ, L, S, l, r, q⟩ => by
  refine ⟨F, A, ρ, L, S, l, r, EvOk.bind (k := itDK) q fun v S1 A1 ρ1 H1 x1 r1 q1 w rw1 => ?_⟩
  unfold itDK at q1
  split at q1
  · rename_i n
    split at q1
    · rename_i ks ds e2
      obtain ⟨a, e1, rfl⟩ := rw1
      obtain ⟨a', e3, vs, ⟨od, h1⟩, h2, h3⟩ := r1.cells n _ e2
      rw [e1] at e3; cases e3
      have hF : F a := (r1.lk n a _ e1 e2).mpr True.intro
      have hl : (ks.zip vs).length = ks.length := by rw [List.length_zip, h3.len]; omega
      refine ⟨a, od, rfl, .inl ⟨_, h1, q1 A1 ρ1 H1 Ext.refl r1 _ (.inl ⟨ks.map kV, keys_rep ks, fun A2 ρ2 H2 x => ?_⟩)⟩⟩
      have h4 := x.fr a _ (fun _ => hF) h1
      rw [List.length_map]
      refine ⟨fun i hi => ⟨h4, by omega⟩, fun i hi => ⟨h4, by omega⟩, fun i y H3 hi z => ⟨z.1, ?_⟩⟩
      obtain ⟨_, k, v, hk, rfl⟩ := z
      have := zip_key (ks := ks) (vs := vs) (by rw [h3.len]; exact h2) i
      rw [hk] at this
      rw [List.getElem?_map, ← this]
      rfl
    · exact q1.elim
  · exact q1.elim
def kvD (ks : List Key) (ds : List D) : List (List D) := (ks.zip ds).map fun p => [kD p.1, p.2]
def itDI (v : Val) (S : Store) : R (List D) := match v with
  | .ref n => (match S[n]? with
    | some (.ldk ks ds) => .ok ((kvD ks ds).map .tup) S
    | _ => .bad)
  | _ => .bad
/-- the keys and values of a locked own dict -/
def iDI (e : SE) : SI := fun L S => (e L S).bind itDI
theorem iDI_ {elts : List Expr} {kk : Nat} {tpos apos cpos : Pos} {x : Expr} (h : PI X (.Tuple elts kk tpos) (.Call (.Attribute x "items" apos) [] [] cpos) (iItems (tE G W fa))) : PI X (.Tuple elts kk tpos) (.Call (.Attribute x "items" apos) [] [] cpos) (tI G W (iDI fa)) := PI.imp h fun σ H Q ⟨F, A, ρ, L, S, l, r, q⟩ => by
  refine ⟨F, A, ρ, L, S, l, r, EvOk.bind (k := itDI) q fun v S1 A1 ρ1 H1 x1 r1 q1 w rw1 => ?_⟩
  unfold itDI at q1
  split at q1
  · rename_i n
    split at q1
    · rename_i ks ds e2
      obtain ⟨a, e1, rfl⟩ := rw1
      obtain ⟨a', e3, vs, ⟨od, h1⟩, h2, h3⟩ := r1.cells n _ e2
      rw [e1] at e3; cases e3
      have hF : F a := (r1.lk n a _ e1 e2).mpr True.intro
      have hv := h3.len
      have hl : (ks.zip vs).length = ks.length := by rw [List.length_zip, hv]; omega
      have hl2 : (kvD ks ds).length = ks.length := by unfold kvD; rw [List.length_map, List.length_zip]; omega
      refine ⟨a, od, _, rfl, h1, q1 A1 ρ1 H1 Ext.refl r1 _ (.inr ⟨kvD ks ds, (ks.zip vs).map fun p => [kV p.1, p.2], rfl, by rw [List.length_map, hl, hl2], fun i es us g1 g2 => ?_, fun A2 ρ2 H2 x => ?_⟩)⟩
      · unfold kvD at g1
        rw [List.getElem?_map] at g1 g2
        cases z1 : (ks.zip ds)[i]? with
        | none => rw [z1] at g1; cases g1
        | some p =>
          rw [z1] at g1; cases g1
          obtain ⟨p1, p2⟩ := List.getElem?_zip_eq_some.mp z1
          obtain ⟨u, p3, p4⟩ := h3.get p2
          have z2 : (ks.zip vs)[i]? = some (p.1, u) := List.getElem?_zip_eq_some.mpr ⟨p1, p3⟩
          rw [z2] at g2; cases g2
          exact ⟨_, _, rfl, kD_rep _, _, _, rfl, p4, rfl⟩
      · have h4 := x.fr a _ (fun _ => hF) h1
        rw [List.length_map]
        refine ⟨fun i hi => ⟨h4, by omega⟩, fun i hi => ⟨h4, by omega⟩, fun i y H3 hi z => ?_⟩
        obtain ⟨T, k, v, hk, rfl, hT, rfl⟩ := z
        refine ⟨T, _, rfl, hT, rfl, ?_⟩
        rw [List.getElem?_map, hk]
        rfl
    · exact q1.elim
  · exact q1.elim
/-! ### dict(d) -/
def dicCp (v : Val) (S : Store) : R Val := match v with
  | .ref n => (match S[n]? with
    | some (.dic ks ds) => .ok (.ref S.length) (S ++ [.dic ks ds])
    | some (.ldk ks ds) => .ok (.ref S.length) (S ++ [.dic ks ds])
    | _ => .bad)
  | _ => .bad
def eDicOf (a : SE) : SE := fun L S => (a L S).bind dicCp
theorem dicOf_ (h : PE X e (tCB (fun xs H Q => ∃ (a : Addr) (kvs : List (Key × V)), xs = [.ref a] ∧ Rd H a (.dK kvs) ∧ ∀ p, H p = none → Q (.ref p) (upd H p (.dK kvs))) (tCons (tE G W fa) tNil))) : PE X e (tE G W (eDicOf fa)) := PE.imp h fun σ H Q ⟨F, A, ρ, L, S, l, r0, q⟩ => by
  refine ⟨F, A, ρ, L, S, l, r0, EvOk.bind q fun v S1 A1 ρ1 H1 x1 r1 q1 w rw => ?_⟩
  have fin : ∀ {n : Nat} {ks : List Key} {ds : List D}, v = .ref n → (S1[n]? = some (.dic ks ds) ∨ S1[n]? = some (.ldk ks ds)) → EvOk G F (fun A' ρ' H' y => ∀ w', RepV G.K A' H' ρ' y w' → Q w' H') (fun cls d H' => W cls d σ H') A1 ρ1 H1 (.ok (.ref S1.length) (S1 ++ [.dic ks ds])) → ∃ (a : Addr) (kvs : List (Key × V)), [w] = [.ref a] ∧ Rd H1 a (.dK kvs) ∧ ∀ p, H1 p = none → Q (.ref p) (upd H1 p (.dK kvs)) := fun {n ks ds} ev e2 q2 => by
    subst ev
    obtain ⟨a, vs, rfl, ea, h1, h2, h3⟩ := r1.dicR e2 rw
    refine ⟨a, _, rfl, h1, fun p hp => ?_⟩
    obtain ⟨x, r'⟩ := r1.push (c := .dic ks ds) hp (o := .dK (ks.zip vs)) True.intro (fun _ z => z) fun x => ⟨vs, upd_same, h2, RepDs.weak (fun a h => h) ds vs (RepDs.mv x r1 ds vs h3)⟩
    refine q2 _ _ _ x r' (.ref p) ⟨p, ?_, rfl⟩
    rw [List.getElem?_append_right (by rw [r1.len]; exact Nat.le_refl _), r1.len, Nat.sub_self]
    rfl
  unfold dicCp at q1
  split at q1
  · rename_i n
    split at q1
    · rename_i ks ds e2; exact fin rfl (.inl e2) q1
    · rename_i ks ds e2; exact fin rfl (.inr e2) q1
    · exact q1.elim
  · exact q1.elim
end Ev
set_option linter.all false
set_option Elab.async false
set_option maxRecDepth 100000
/-! the evaluator's equations, for runs by simp -/
namespace Ev
open PySem L2 PySem.Spec
/-- keeps a theorem from being used by computation -/
theorem mkE {α : Sort u} {a b : α} (h : a = b) : a = b := h
section
variable {α β : Type} {L : Loc} {S : Store} {v w : Val} {x y : D}
theorem bind_ok {a : α} {k : α → Store → R β} : (R.ok a S).bind k = k a S := mkE rfl
theorem bind_ex {a : Ex} {k : α → Store → R β} : (R.ex a S : R α).bind k = .ex a S := mkE rfl
theorem bind_bad {k : α → Store → R β} : (R.bad : R α).bind k = .bad := mkE rfl
theorem to_ok {a : α} {k : α → Store → SR} : (R.ok a S).to L k = k a S := mkE rfl
theorem to_ex {a : Ex} {k : α → Store → SR} : (R.ex a S : R α).to L k = .ex a L S := mkE rfl
theorem to_bad {k : α → Store → SR} : (R.bad : R α).to L k = .bad := mkE rfl
theorem nox_ok {a : α} : (R.ok a S).nox = .ok a S := mkE rfl
def SR.seq (r : SR) (g : SS) : SR := match r with
  | .nx L1 S1 => g L1 S1
  | r => r
theorem sSeq_eq {f g : SS} : sSeq f g L S = (f L S).seq g := by
  unfold sSeq SR.seq
  cases f L S <;> rfl
theorem seq_nx {g : SS} : (SR.nx L S).seq g = g L S := mkE rfl
theorem seq_rt {g : SS} : (SR.rt v S).seq g = .rt v S := mkE rfl
theorem seq_ex {g : SS} {a : Ex} : (SR.ex a L S).seq g = .ex a L S := mkE rfl
theorem seq_bk {g : SS} : (SR.bk L S).seq g = .bk L S := mkE rfl
theorem seq_ct {g : SS} : (SR.ct L S).seq g = .ct L S := mkE rfl
theorem seq_bad {g : SS} : (SR.bad).seq g = .bad := mkE rfl
theorem seq_if {g : SS} {c : Prop} [Decidable c] {a b : SR} : (if c then a else b).seq g = if c then a.seq g else b.seq g := by split <;> rfl
theorem eV_eq {i : Nat} : eV i L S = (match L[i]? with
  | some (some v) => .ok v S
  | _ => .bad) := mkE rfl
theorem eC_eq : eC x L S = .ok (.d x) S := mkE rfl
def op1 (f : D → Option D) (a : Option D) (S : Store) : R Val := match a with
  | some x => R.of (f x) S
  | none => .bad
theorem op1_some {f : D → Option D} : op1 f (some x) S = R.of (f x) S := mkE rfl
def op2 (f : D → D → Option D) (a b : Option D) (S : Store) : R Val := match a, b with
  | some x, some y => R.of (f x y) S
  | _, _ => .bad
theorem op2_some {f : D → D → Option D} : op2 f (some x) (some y) S = R.of (f x y) S := mkE rfl
theorem eOp1_eq {f : D → Option D} {a : SE} : eOp1 f a L S = (a L S).bind fun v S1 => op1 f (top S1 v) S1 := mkE rfl
theorem eOp2_eq {f : D → D → Option D} {a b : SE} : eOp2 f a b L S = (a L S).bind fun v S1 => (b L S1).bind fun w S2 => op2 f (top S2 v) (top S2 w) S2 := by
  unfold eOp2 op2
  cases a L S with
  | ok v S1 =>
    simp only [bind_ok]
    all_goals (congr 1; try (funext w S2; cases top S2 v <;> cases top S2 w <;> rfl))
  | _ => rfl
theorem of_some {z : D} : R.of (some z) S = .ok (.d z) S := mkE rfl
theorem of_none : R.of none S = .bad := mkE rfl
theorem of_if {c : Prop} [Decidable c] {a b : Option D} : R.of (if c then a else b) S = if c then R.of a S else R.of b S := by split <;> rfl
theorem top_d : top S (.d x) = some x := mkE rfl
def topc : Option Cell → Option D
  | some (.lst ds) => some (.lst ds)
  | some (.lck ds) => some (.lst ds)
  | _ => none
theorem top_ref {n : Nat} : top S (.ref n) = topc S[n]? := by
  unfold top topc
  simp only []
  all_goals (generalize S[n]? = o; rcases o with _ | ⟨_ | _ | _ | _⟩ <;> rfl)
theorem topc_lst {ds : List D} : topc (some (.lst ds)) = some (.lst ds) := mkE rfl
theorem topc_lck {ds : List D} : topc (some (.lck ds)) = some (.lst ds) := mkE rfl
def toB (v : Val) (S : Store) : R Bool := match v with
  | .d (.bl b) => .ok b S
  | _ => .bad
theorem toB_bl {b : Bool} : toB (.d (.bl b)) S = .ok b S := mkE rfl
theorem bE_eq {e : SE} : bE e L S = (e L S).bind toB := mkE rfl
theorem eIsN_eq {neg : Bool} {a : SE} : eIsN neg a L S = (a L S).bind fun v S1 => .ok (.d (.bl (if neg then !isN v else isN v))) S1 := mkE rfl
theorem isN_non : isN (.d .non) = true := mkE rfl
theorem isN_int {i : Int} : isN (.d (.int i)) = false := mkE rfl
theorem isN_str {i : Str} : isN (.d (.str i)) = false := mkE rfl
theorem isN_bl {i : Bool} : isN (.d (.bl i)) = false := mkE rfl
theorem isN_tup {i : List D} : isN (.d (.tup i)) = false := mkE rfl
theorem isN_lst {i : List D} : isN (.d (.lst i)) = false := mkE rfl
theorem isN_ref {i : Nat} : isN (.ref i) = false := mkE rfl
theorem isN_vt {i : List Val} : isN (.vt i) = false := mkE rfl
def idxV (v w : Val) (S : Store) : R Val := match v with
  | .vt vs => match w with
    | .d (.int i) => match atI vs i with
      | some u => .ok u S
      | none => .bad
    | _ => .bad
  | _ => op2 idxD (top S v) (top S w) S
theorem eIdx_eq {a b : SE} : eIdx a b L S = (a L S).bind fun v S1 => (b L S1).bind fun w S2 => idxV v w S2 := by
  unfold eIdx idxV op2
  rfl
theorem idxV_d : idxV (.d x) (.d y) S = R.of (idxD x y) S := mkE rfl
theorem idxV_ref {n : Nat} : idxV (.ref n) (.d y) S = op2 idxD (topc S[n]?) (some y) S := by
  show op2 idxD (top S (.ref n)) (some y) S = _
  rw [top_ref]
theorem idxV_vt {vs : List Val} {i : Int} : idxV (.vt vs) (.d (.int i)) S = match atI vs i with
  | some u => .ok u S
  | none => .bad := mkE rfl
theorem oN_eq : oN L S = .ok none S := mkE rfl
def toI (v : Val) (S : Store) : R (Option Int) := match v with
  | .d (.int i) => .ok (some i) S
  | _ => .bad
theorem toI_int {i : Int} : toI (.d (.int i)) S = .ok (some i) S := mkE rfl
theorem oE_eq {e : SE} : oE e L S = (e L S).bind toI := mkE rfl
theorem eSl_eq {a : SE} {lo hi : SO} : eSl a lo hi L S = (a L S).bind fun v S1 => (lo L S1).bind fun l S2 => (hi L S2).bind fun h S3 => op1 (fun x => slD x l h) (top S3 v) S3 := mkE rfl
theorem bNot_eq {f : SB} : bNot f L S = (f L S).bind fun b S1 => .ok (!b) S1 := mkE rfl
theorem bAnd_eq {f g : SB} : bAnd f g L S = (f L S).bind fun b S1 => if b = true then g L S1 else .ok false S1 := mkE rfl
theorem bOr_eq {f g : SB} : bOr f g L S = (f L S).bind fun b S1 => if b = true then .ok true S1 else g L S1 := mkE rfl
def andV (v : Val) (k : R Val) (S : Store) : R Val := match v with
  | .d (.bl b) => if b = true then k else .ok (.d (.bl false)) S
  | _ => .bad
theorem andV_bl {b : Bool} {k : R Val} : andV (.d (.bl b)) k S = if b = true then k else .ok (.d (.bl false)) S := mkE rfl
theorem eAnd_eq {f g : SE} : eAnd f g L S = (f L S).bind fun v S1 => andV v (g L S1) S1 := by
  unfold eAnd andV
  cases f L S with
  | ok v S1 =>
    simp only [bind_ok]
    split <;> first | rfl | (split <;> first | rfl | simp_all)
  | _ => rfl
def orV (v : Val) (k : R Val) (S : Store) : R Val := match v with
  | .d (.bl b) => if b = true then .ok (.d (.bl true)) S else k
  | _ => .bad
theorem orV_bl {b : Bool} {k : R Val} : orV (.d (.bl b)) k S = if b = true then .ok (.d (.bl true)) S else k := mkE rfl
theorem eOr_eq {f g : SE} : eOr f g L S = (f L S).bind fun v S1 => orV v (g L S1) S1 := by
  unfold eOr orV
  cases f L S with
  | ok v S1 =>
    simp only [bind_ok]
    split <;> first | rfl | (split <;> first | rfl | simp_all)
  | _ => rfl
def notV (v : Val) (S : Store) : R Val := match v with
  | .d (.bl b) => .ok (.d (.bl (!b))) S
  | _ => .bad
theorem notV_bl {b : Bool} : notV (.d (.bl b)) S = .ok (.d (.bl (!b))) S := mkE rfl
theorem eNot_eq {f : SE} : eNot f L S = (f L S).bind notV := mkE rfl
theorem eIf_eq {c : SB} {f g : SE} : eIf c f g L S = (c L S).bind fun b S1 => if b = true then f L S1 else g L S1 := mkE rfl
theorem aN_eq : aN L S = .ok [] S := mkE rfl
theorem aC_eq {f : SE} {g : SA} : aC f g L S = (f L S).bind fun v S1 => (g L S1).bind fun vs S2 => .ok (v :: vs) S2 := mkE rfl
theorem allD_nil : allD [] = some [] := mkE rfl
theorem allD_d {vs : List Val} : allD (.d x :: vs) = (allD vs).map (x :: ·) := mkE rfl
theorem allD_ref {vs : List Val} {n : Nat} : allD (.ref n :: vs) = none := mkE rfl
theorem allD_vt {vs us : List Val} : allD (.vt us :: vs) = none := mkE rfl
def mkTup (vs : List Val) (o : Option (List D)) (S : Store) : R Val := match o with
  | some ds => .ok (.d (.tup ds)) S
  | none => .ok (.vt vs) S
theorem mkTup_some {vs : List Val} {ds : List D} : mkTup vs (some ds) S = .ok (.d (.tup ds)) S := mkE rfl
theorem mkTup_none {vs : List Val} : mkTup vs none S = .ok (.vt vs) S := mkE rfl
theorem eTup_eq {as : SA} : eTup as L S = (as L S).bind fun vs S1 => if vs.length ≤ 1000 then mkTup vs (allD vs) S1 else .bad := mkE rfl
def mkLst (o : Option (List D)) (S : Store) : R Val := match o with
  | some ds => .ok (.d (.lst ds)) S
  | none => .bad
theorem mkLst_some {ds : List D} : mkLst (some ds) S = .ok (.d (.lst ds)) S := mkE rfl
theorem eLst_eq {as : SA} : eLst as L S = (as L S).bind fun vs S1 => if vs.length ≤ 1000 then mkLst (allD vs) S1 else .bad := mkE rfl
def mkLstO (o : Option (List D)) (S : Store) : R Val := match o with
  | some ds => .ok (.ref S.length) (S ++ [.lst ds])
  | none => .bad
theorem mkLstO_some {ds : List D} : mkLstO (some ds) S = .ok (.ref S.length) (S ++ [.lst ds]) := mkE rfl
theorem eLstO_eq {as : SA} : eLstO as L S = (as L S).bind fun vs S1 => if vs.length ≤ 1000 then mkLstO (allD vs) S1 else .bad := mkE rfl
def isB (o : Option Bool) (S : Store) : R Val := match o with
  | some b => .ok (.d (.bl b)) S
  | none => .bad
theorem isB_some {b : Bool} : isB (some b) S = .ok (.d (.bl b)) S := mkE rfl
theorem eIs_eq {t : Ty} {a : SE} : eIs t a L S = (a L S).bind fun v S1 => isB (isTyV S1 t v) S1 := mkE rfl
theorem isTyV_d {t : Ty} : isTyV S t (.d x) = some (isTy t x) := mkE rfl
def strM (f : Str → D → Option D) (v : Val) (b : SE) (L : Loc) (S : Store) : R Val := match v with
  | .d (.str x) => (b L S).bind fun w S2 => op1 (f x) (top S2 w) S2
  | _ => .bad
theorem strM_str {f : Str → D → Option D} {b : SE} {z : Str} : strM f (.d (.str z)) b L S = (b L S).bind fun w S2 => op1 (f z) (top S2 w) S2 := mkE rfl
theorem eStrM_eq {f : Str → D → Option D} {a b : SE} : eStrM f a b L S = (a L S).bind fun v S1 => strM f v b L S1 := mkE rfl
def appC (n : Nat) (w : Val) (c : Option Cell) (S : Store) : R Val := match w, c with
  | .d x, some (.lst ds) => if ds.length < sizeLine then .ok (.d .non) (S.set n (.lst (ds ++ [x]))) else .bad
  | _, _ => .bad
theorem appC_lst {n : Nat} {ds : List D} : appC n (.d x) (some (.lst ds)) S = if ds.length < sizeLine then .ok (.d .non) (S.set n (.lst (ds ++ [x]))) else .bad := mkE rfl
def isLc : Option Cell → Bool
  | some (.lst _) => true
  | some (.lck _) => true
  | _ => false
theorem isLc_lst {ds : List D} : isLc (some (.lst ds)) = true := mkE rfl
theorem isL_ref {n : Nat} : isL S (.ref n) = isLc S[n]? := by
  unfold isL isLc
  simp only []
  all_goals (generalize S[n]? = o; rcases o with _ | ⟨_ | _ | _ | _⟩ <;> rfl)
def appV (v w : Val) (S : Store) : R Val := match v with
  | .ref n => appC n w S[n]? S
  | _ => .bad
theorem appV_ref {n : Nat} : appV (.ref n) w S = appC n w S[n]? S := mkE rfl
theorem eAppend_eq {a b : SE} : eAppend a b L S = (a L S).bind fun v S1 => if isL S1 v = true then (b L S1).bind fun w S2 => appV v w S2 else .bad := by
  unfold eAppend appV appC
  cases a L S with
  | ok v S1 =>
    simp only [bind_ok]
    split
    · cases b L S1 with
      | ok w S2 =>
        simp only [bind_ok]
        cases v <;> cases w <;> first | rfl | (rename_i n _ _; simp only []; generalize S2[n]? = o; rcases o with _ | ⟨_ | _ | _ | _⟩ <;> rfl)
      | _ => rfl
    · rfl
  | _ => rfl
def extC (n : Nat) (w : Option D) (c : Option Cell) (S : Store) : R Val := match w, c with
  | some (.lst xs), some (.lst ds) => if ds.length + xs.length ≤ sizeLine then .ok (.d .non) (S.set n (.lst (ds ++ xs))) else .bad
  | _, _ => .bad
theorem extC_lst {n : Nat} {ds xs : List D} : extC n (some (.lst xs)) (some (.lst ds)) S = if ds.length + xs.length ≤ sizeLine then .ok (.d .non) (S.set n (.lst (ds ++ xs))) else .bad := mkE rfl
def extV (v w : Val) (S : Store) : R Val := match v with
  | .ref n => extC n (top S w) S[n]? S
  | _ => .bad
theorem extV_ref {n : Nat} : extV (.ref n) w S = extC n (top S w) S[n]? S := mkE rfl
theorem eExtend_eq {a b : SE} : eExtend a b L S = (a L S).bind fun v S1 => if isL S1 v = true then (b L S1).bind fun w S2 => extV v w S2 else .bad := by
  unfold eExtend extV extC
  cases a L S with
  | ok v S1 =>
    simp only [bind_ok]
    split
    · cases b L S1 with
      | ok w S2 =>
        simp only [bind_ok]
        cases v <;> first | rfl | (rename_i n _; generalize top S2 w = o2; rcases o2 with _ | ⟨_ | _ | _ | _ | _ | _ | _⟩ <;> first | rfl | (simp only []; generalize S2[n]? = o; rcases o with _ | ⟨_ | _ | _ | _⟩ <;> rfl))
      | _ => rfl
    · rfl
  | _ => rfl
def popC (n : Nat) (c : Option Cell) (S : Store) : R Val := match c with
  | some (.lst ds) => match ds[ds.length - 1]? with
    | some x => .ok (.d x) (S.set n (.lst ds.dropLast))
    | none => .bad
  | _ => .bad
theorem popC_lst {n : Nat} {ds : List D} : popC n (some (.lst ds)) S = match ds[ds.length - 1]? with
    | some x => .ok (.d x) (S.set n (.lst ds.dropLast))
    | none => .bad := mkE rfl
def popV (v : Val) (S : Store) : R Val := match v with
  | .ref n => popC n S[n]? S
  | _ => .bad
theorem popV_ref {n : Nat} : popV (.ref n) S = popC n S[n]? S := mkE rfl
theorem ePop_eq {a : SE} : ePop a L S = (a L S).bind popV := by
  unfold ePop popV popC
  rfl
theorem eCall_eq {g : Fn} {n : Nat} {as : SA} : eCall g n as L S = (as L S).bind fun vs S1 => if vs.length = n then g vs S1 else .bad := mkE rfl
def isoC (g : Fn) (n : Nat) (vs : List Val) (o : Option (List D)) (S : Store) : R Val := match o with
  | some ds => if vs.length = n then isoF (vs.all pureV) (g (ds.map Val.d) []) S else .bad
  | none => .bad
theorem isoC_some {g : Fn} {n : Nat} {vs : List Val} {ds : List D} : isoC g n vs (some ds) S = if vs.length = n then isoF (vs.all pureV) (g (ds.map Val.d) []) S else .bad := mkE rfl
theorem eCallI_eq {g : Fn} {n : Nat} {as : SA} : eCallI g n as L S = (as L S).bind fun vs S1 => isoC g n vs (dviews S1 vs) S1 := mkE rfl
theorem dviews_nil : dviews S [] = some [] := by unfold dviews; rfl
theorem dviews_cons {vs : List Val} : dviews S (v :: vs) = (dview S v).bind fun x => (dviews S vs).map (x :: ·) := by rw [dviews]
theorem dview_d : dview S (.d x) = some x := by unfold dview; rfl
theorem dview_ref {n : Nat} : dview S (.ref n) = topc S[n]? := by
  unfold dview topc
  generalize S[n]? = o
  rcases o with _ | ⟨_ | _ | _ | _⟩ <;> rfl
theorem dview_vt {vs : List Val} : dview S (.vt vs) = (dviews S vs).map .tup := by rw [dview]
def isoD (p : Bool) (o : Option D) (S1 : Store) : R Val := match o with
  | some x => if (p || flatD x) = true then .ok (.d x) S1 else .bad
  | none => .bad
theorem isoD_some {p : Bool} : isoD p (some x) S = if (p || flatD x) = true then .ok (.d x) S else .bad := mkE rfl
theorem isoF_ok {p : Bool} {S' : Store} : isoF p (.ok v S') S = isoD p (dview S' v) S := mkE rfl
theorem isoF_ex {p : Bool} {S' : Store} {a : Ex} : isoF p (.ex a S') S = .ex a S := mkE rfl
def c0 (r : R Val) : R Val := match r with
  | .ex _ _ => .bad
  | r => r
theorem eCall0_eq {g : Fn} : eCall0 g L S = c0 (isoF true (g [] []) S) := by
  unfold eCall0 c0
  generalize isoF true (g [] []) S = o
  cases o <;> rfl
theorem c0_ok : c0 (.ok v S) = .ok v S := mkE rfl
def newC (g : Fn) (n : Nat) (vs : List Val) (o : Option (List D)) (S : Store) : R Val := match o with
  | some ds => if vs.length = n then newF (g (ds.map Val.d) []) S else .bad
  | none => .bad
theorem newC_some {g : Fn} {n : Nat} {vs : List Val} {ds : List D} : newC g n vs (some ds) S = if vs.length = n then newF (g (ds.map Val.d) []) S else .bad := mkE rfl
theorem eCallN_eq {g : Fn} {n : Nat} {as : SA} : eCallN g n as L S = (as L S).bind fun vs S1 => newC g n vs (allD vs) S1 := mkE rfl
theorem newF_ok {S' : Store} : newF (.ok v S') S = .ok (shiftV S.length v) (S ++ S'.map (shiftC S.length)) := mkE rfl
theorem newF_ex {S' : Store} {a : Ex} : newF (.ex a S') S = .ex a S := mkE rfl
theorem shiftV_d {k : Nat} : shiftV k (.d x) = .d x := by unfold shiftV; rfl
theorem shiftV_ref {k n : Nat} : shiftV k (.ref n) = .ref (k + n) := by unfold shiftV; rfl
theorem shiftC_lst {k : Nat} {ds : List D} : shiftC k (.lst ds) = .lst ds := mkE rfl
theorem gN_eq {i : Nat} : gN i v L = some (L.set i (some v)) := mkE rfl
theorem gsN_eq : gsN [] L = some L := mkE rfl
theorem gsC_eq {g : SG} {gs : SGs} {r : List Val} : gsC g gs (w :: r) L = (g w L).bind (gs r) := mkE rfl
def gTo (n : Nat) (gs : SGs) (o : Option (List Val)) (L : Loc) : Option Loc := match o with
  | some vs => if vs.length = n then gs vs L else none
  | none => none
theorem gTo_some {n : Nat} {gs : SGs} {vs : List Val} : gTo n gs (some vs) L = if vs.length = n then gs vs L else none := mkE rfl
theorem gT_eq {n : Nat} {gs : SGs} : gT n gs w L = gTo n gs (unp w) L := mkE rfl
theorem unp_tup {ds : List D} : unp (.d (.tup ds)) = some (ds.map .d) := mkE rfl
theorem unp_vt {vs : List Val} : unp (.vt vs) = some vs := mkE rfl
theorem sNx_eq : sNx L S = .nx L S := mkE rfl
theorem sBad_eq : sBad L S = .bad := mkE rfl
theorem sBk_eq : sBk L S = .bk L S := mkE rfl
theorem sCt_eq : sCt L S = .ct L S := mkE rfl
theorem sEx_eq {e : SE} : sEx e L S = (e L S).to L fun _ S1 => .nx L S1 := mkE rfl
theorem sRt_eq {e : SE} : sRt e L S = (e L S).to L fun v S1 => .rt v S1 := mkE rfl
theorem sRtN_eq : sRtN L S = .rt (.d .non) S := mkE rfl
theorem sIf_eq {c : SB} {f g : SS} : sIf c f g L S = (c L S).to L fun b S1 => if b = true then f L S1 else g L S1 := mkE rfl
def asgO (o : Option Loc) (S : Store) : SR := match o with
  | some L1 => .nx L1 S
  | none => .bad
theorem asgO_some : asgO (some L) S = .nx L S := mkE rfl
theorem sAsg_eq {e : SE} {g : SG} : sAsg e g L S = (e L S).to L fun v S1 => asgO (g v L) S1 := mkE rfl
def itL (v : Val) (S : Store) : R (List D) := match v with
  | .d (.lst ds) => .ok ds S
  | .d (.scr ns) => .ok (ns.map .int) S
  | _ => .bad
theorem itL_lst {ds : List D} : itL (.d (.lst ds)) S = .ok ds S := mkE rfl
theorem itL_scr {ns : List Int} : itL (.d (.scr ns)) S = .ok (ns.map .int) S := mkE rfl
theorem iL_eq {e : SE} : iL e L S = (e L S).bind itL := mkE rfl
def itT (v : Val) (S : Store) : R (List D) := match v with
  | .d (.tup ds) => .ok ds S
  | _ => .bad
theorem itT_tup {ds : List D} : itT (.d (.tup ds)) S = .ok ds S := mkE rfl
theorem iT_eq {e : SE} : iT e L S = (e L S).bind itT := mkE rfl
def itS (v : Val) (S : Store) : R (List D) := match v with
  | .d (.str x) => .ok (x.cps.toList.map fun c => .str ⟨#[c]⟩) S
  | _ => .bad
theorem itS_str {z : Str} : itS (.d (.str z)) S = .ok (z.cps.toList.map fun c => .str ⟨#[c]⟩) S := mkE rfl
theorem iS_eq {e : SE} : iS e L S = (e L S).bind itS := mkE rfl
def itR1 (v : Val) (S : Store) : R (List D) := match v with
  | .d (.int j) => if -(2 ^ 62) ≤ j ∧ j < 2 ^ 62 then .ok (rng 0 j.toNat) S else .bad
  | _ => .bad
theorem itR1_int {j : Int} : itR1 (.d (.int j)) S = if -(2 ^ 62) ≤ j ∧ j < 2 ^ 62 then .ok (rng 0 j.toNat) S else .bad := mkE rfl
theorem iR1_eq {e : SE} : iR1 e L S = (e L S).bind itR1 := mkE rfl
def itR2 (v w : Val) (S : Store) : R (List D) := match v, w with
  | .d (.int i), .d (.int j) => if (-(2 ^ 62) ≤ i ∧ i < 2 ^ 62) ∧ -(2 ^ 62) ≤ j ∧ j < 2 ^ 62 then .ok (rng i (j - i).toNat) S else .bad
  | _, _ => .bad
theorem itR2_int {i j : Int} : itR2 (.d (.int i)) (.d (.int j)) S = if (-(2 ^ 62) ≤ i ∧ i < 2 ^ 62) ∧ -(2 ^ 62) ≤ j ∧ j < 2 ^ 62 then .ok (rng i (j - i).toNat) S else .bad := mkE rfl
theorem iR2_eq {e e' : SE} : iR2 e e' L S = (e L S).bind fun v S1 => (e' L S1).bind fun w S2 => itR2 v w S2 := mkE rfl
theorem sFor_eq {f : SI} {g : SG} {b : SS} : sFor f g b L S = (f L S).to L fun ds S1 => forL g b ds L S1 := mkE rfl
theorem forL_nil {g : SG} {b : SS} : forL g b [] L S = .nx L S := mkE rfl
def SR.loop (r : SR) (k : SS) : SR := match r with
  | .nx L2 S2 => k L2 S2
  | .ct L2 S2 => k L2 S2
  | .bk L2 S2 => .nx L2 S2
  | r => r
def loopO (b : SS) (k : SS) (o : Option Loc) (S : Store) : SR := match o with
  | none => .bad
  | some L1 => (b L1 S).loop k
theorem loopO_some {b k : SS} {L1 : Loc} : loopO b k (some L1) S = (b L1 S).loop k := mkE rfl
theorem forL_cons {g : SG} {b : SS} {ds : List D} : forL g b (x :: ds) L S = loopO b (forL g b ds) (g (.d x) L) S := by
  rw [forL]
  unfold loopO SR.loop
  simp only []
  all_goals
    generalize g (.d x) L = o
    cases o with
    | none => rfl
    | some L1 =>
      simp only []
      all_goals (generalize b L1 S = r; cases r <;> rfl)
theorem loop_nx {k : SS} : (SR.nx L S).loop k = k L S := mkE rfl
theorem loop_ct {k : SS} : (SR.ct L S).loop k = k L S := mkE rfl
theorem loop_bk {k : SS} : (SR.bk L S).loop k = .nx L S := mkE rfl
theorem loop_rt {k : SS} : (SR.rt v S).loop k = .rt v S := mkE rfl
theorem loop_ex {k : SS} {a : Ex} : (SR.ex a L S).loop k = .ex a L S := mkE rfl
theorem eComp_eq {f : SI} {g : SG} {t : SB} {e : SE} {vs : List Nat} : eComp f g t e vs L S = (f L S).bind fun ds S1 => if ds.length ≤ sizeLine then (compL g t e (wipeL L vs) ds [] S1).bind fun acc S2 => .ok (.d (.lst acc)) S2 else .bad := mkE rfl
/-- a comprehension whose tests and items are told item by item, in a store that stays -/
theorem compL_map {g : SG} {t : SB} {e : SE} {Lw : Loc} (P : D → Bool) (h : D → D) (S : Store) : ∀ (ds acc : List D), (∀ d ∈ ds, ∃ L1, g (.d d) Lw = some L1 ∧ t L1 S = .ok (P d) S ∧ (P d = true → e L1 S = .ok (.d (h d)) S)) →
    compL g t e Lw ds acc S = .ok (acc ++ (ds.filter P).map h) S
  | [], acc, _ => by rw [compL]; simp
  | d :: ds, acc, q => by
    obtain ⟨L1, h1, h2, h3⟩ := q d List.mem_cons_self
    rw [compL, h1]
    simp only [h2, nox_ok, bind_ok]
    cases hp : P d with
    | false =>
      simp only [Bool.false_eq_true, if_false]
      rw [compL_map P h S ds acc fun d' hd => q d' (List.mem_cons_of_mem _ hd), List.filter_cons_of_neg (by simp [hp])]
    | true =>
      simp only [if_true, h3 hp, nox_ok, bind_ok]
      rw [compL_map P h S ds _ fun d' hd => q d' (List.mem_cons_of_mem _ hd), List.filter_cons_of_pos hp]
      simp
theorem bYes_eq : bYes L S = .ok true S := mkE rfl
theorem compL_all {g : SG} {e : SE} {Lw : Loc} (h : D → D) (S : Store) (ds : List D) (q : ∀ d ∈ ds, ∃ L1, g (.d d) Lw = some L1 ∧ e L1 S = .ok (.d (h d)) S) :
    compL g bYes e Lw ds [] S = .ok (ds.map h) S := by
  rw [compL_map (t := bYes) (fun _ => true) h S ds [] fun d hd => let ⟨L1, a, b⟩ := q d hd; ⟨L1, a, rfl, fun _ => b⟩]
  simp [List.filter_eq_self.mpr]
def retF (r : SR) : R Val := match r with
  | .nx _ S' => .ok (.d .non) S'
  | .rt v S' => .ok v S'
  | .ex x _ S' => .ex x S'
  | _ => .bad
theorem runFn_eq {np nl : Nat} {b : SS} {args : List Val} : runFn np nl b args S = if args.length = np then retF (b (args.map some ++ List.replicate (nl - np) none) S) else .bad := mkE rfl
theorem retF_nx : retF (.nx L S) = .ok (.d .non) S := mkE rfl
theorem retF_rt : retF (.rt v S) = .ok v S := mkE rfl
theorem retF_ex {a : Ex} : retF (.ex a L S) = .ex a S := mkE rfl
theorem retF_if {c : Prop} [Decidable c] {a b : SR} : retF (if c then a else b) = if c then retF a else retF b := by split <;> rfl
def truR (o : Option D) (v : Val) (S : Store) : R Bool := match o with
  | some x => match truD x with
    | some b => .ok b S
    | none => .bad
  | none => match v with
    | .ref n => match S[n]? with
      | some (.dic ks ds) => .ok (!ks.isEmpty) S
      | _ => .bad
    | _ => .bad
theorem bTr_eq {e : SE} : bTr e L S = (e L S).bind fun v S1 => truR (top S1 v) v S1 := mkE rfl
def truO (o : Option Bool) (S : Store) : R Bool := match o with
  | some b => .ok b S
  | none => .bad
theorem truO_some {b : Bool} : truO (some b) S = .ok b S := mkE rfl
theorem truR_some : truR (some x) v S = truO (truD x) S := mkE rfl
end
end Ev
set_option linter.all false
set_option Elab.async false
set_option maxRecDepth 100000
/-! the equations of own objects and dicts, for runs by simp -/
namespace Ev
open PySem L2 PySem.Spec
section
variable {α β : Type} {L : Loc} {S : Store} {v w : Val} {x y : D}
def fldO (o : Option Val) (S : Store) : R Val := match o with
  | some w => .ok w S
  | none => .bad
theorem fldO_some : fldO (some w) S = .ok w S := mkE rfl
def fldV (c j : Nat) (v : Val) (S : Store) : R Val := match v with
  | .ref n => fldO (fldC c j S[n]?) S
  | _ => .bad
theorem fldV_ref {c j n : Nat} : fldV c j (.ref n) S = fldO (fldC c j S[n]?) S := mkE rfl
theorem eFld_eq {c j : Nat} {a : SE} : eFld c j a L S = (a L S).bind fun v S1 => fldV c j v S1 := by
  unfold eFld fldV fldO
  cases a L S with
  | ok v S1 => cases v <;> rfl
  | _ => rfl
theorem fldC_obj {c j : Nat} {fs : List Val} : fldC c j (some (.obj c fs)) = fs[j]? := mkE (if_pos rfl)
def setO (L : Loc) (n : Nat) (o : Option Cell) (S : Store) : SR := match o with
  | some c => .nx L (S.set n c)
  | none => .bad
theorem setO_some {n : Nat} {c : Cell} : setO L n (some c) S = .nx L (S.set n c) := mkE rfl
def setV (L : Loc) (c j : Nat) (w v : Val) (S : Store) : SR := match v with
  | .ref n => setO L n (setC c j w S[n]?) S
  | _ => .bad
theorem setV_ref {c j n : Nat} : setV L c j w (.ref n) S = setO L n (setC c j w S[n]?) S := mkE rfl
theorem sSetF_eq {c j : Nat} {o e : SE} : sSetF c j o e L S = (e L S).to L fun w S1 => (o L S1).to L fun v S2 => setV L c j w v S2 := by
  unfold sSetF setV setO
  cases e L S with
  | ok w S1 =>
    simp only [to_ok]
    all_goals
      cases o L S1 with
      | ok v S2 => cases v <;> rfl
      | _ => rfl
  | _ => rfl
theorem setC_obj {c j : Nat} {fs : List Val} : setC c j w (some (.obj c fs)) = if j < fs.length then some (.obj c (fs.set j w)) else if j = fs.length then some (.obj c (fs ++ [w])) else none := mkE (if_pos rfl)
def isObC (c : Nat) (o : Option Cell) : Bool := match o with
  | some (.obj c' _) => decide (c' = c)
  | _ => false
theorem isObC_obj {c : Nat} {fs : List Val} : isObC c (some (.obj c fs)) = true := mkE (decide_eq_true rfl)
theorem isOb_ref {c n : Nat} : isOb c (.ref n) S = isObC c S[n]? := by
  unfold isOb isObC
  rfl
theorem eMeth_eq {c : Nat} {g : Fn} {n : Nat} {o : SE} {as : SA} : eMeth c g n o as L S = (o L S).bind fun v S1 => if isOb c v S1 = true then (as L S1).bind fun vs S2 => if vs.length = n then g (v :: vs) S2 else .bad else .bad := mkE rfl
theorem newR_ok {N : Nat} : newR N (.ok (.d .non) S) = .ok (.ref N) S := mkE rfl
theorem eNew_eq {c : Nat} {g : Fn} {n : Nat} {as : SA} : eNew c g n as L S = (as L S).bind fun vs S1 => if vs.length = n then newR S1.length (g (.ref S1.length :: vs) (S1 ++ [.obj c []])) else .bad := mkE rfl
theorem eDicO_eq : eDicO L S = .ok (.ref S.length) (S ++ [.dic [] []]) := mkE rfl
theorem keyV_int {i : Int} : keyV (.d (.int i)) = some (.inl i) := mkE rfl
theorem keyV_str {z : Str} : keyV (.d (.str z)) = some (.inr z) := mkE rfl
theorem dicV_ref {n : Nat} : dicV S (.ref n) = dicOf S[n]? := mkE rfl
theorem dicOf_dic {ks : List Key} {ds : List D} : dicOf (some (.dic ks ds)) = some (ks, ds) := mkE rfl
theorem dicOf_ldk {ks : List Key} {ds : List D} : dicOf (some (.ldk ks ds)) = some (ks, ds) := mkE rfl
theorem dicWV_ref {n : Nat} : dicWV S (.ref n) = dicWOf S[n]? := mkE rfl
theorem dicWOf_dic {ks : List Key} {ds : List D} : dicWOf (some (.dic ks ds)) = some (ks, ds) := mkE rfl
theorem inDic_some {neg : Bool} {k : Key} {ks : List Key} {ds : List D} : inDic neg (some k) (some (ks, ds)) S = .ok (.d (.bl (if neg then !(dLook ks ds k).isSome else (dLook ks ds k).isSome))) S := mkE rfl
theorem eInDic_eq {neg : Bool} {a b : SE} : eInDic neg a b L S = (a L S).bind fun v S1 => (b L S1).bind fun w S2 => inDic neg (keyV v) (dicV S2 w) S2 := mkE rfl
theorem getDic_some {k : Key} {ks : List Key} {ds : List D} : getDic (some (ks, ds)) (some k) S = R.of (dLook ks ds k) S := mkE rfl
theorem eGetDic_eq {a b : SE} : eGetDic a b L S = (a L S).bind fun v S1 => (b L S1).bind fun w S2 => getDic (dicV S2 v) (keyV w) S2 := mkE rfl
theorem putDic_some {n : Nat} {k : Key} {ks : List Key} {ds : List D} : putDic L (.ref n) (some (ks, ds)) (some k) (.d x) S = if ks.length < sizeLine then .nx L (S.set n (putC ks ds k x)) else .bad := mkE rfl
theorem sPutDic_eq {o k e : SE} : sPutDic o k e L S = (e L S).to L fun w S1 => (o L S1).to L fun v S2 => (k L S2).to L fun u S3 => putDic L v (dicWV S3 v) (keyV u) w S3 := mkE rfl
theorem revR_int {j : Int} : revR (.d (.int j)) S = if -(2 ^ 62) ≤ j ∧ j < 2 ^ 62 then .ok (rngR j.toNat) S else .bad := mkE rfl
theorem iRv1_eq {e : SE} : iRv1 e L S = (e L S).bind revR := mkE rfl
theorem iRv1_nat {e : SE} {n : Nat} {S1 : Store} (h : e L S = .ok (.d (.int (n : Int))) S1) (hn : n ≤ 1000000) : iRv1 e L S = .ok (rngR n) S1 := by
  rw [iRv1_eq, h, bind_ok, revR_int, if_pos ⟨by omega, by omega⟩]
  rfl
theorem shiftV_vt {k : Nat} {vs : List Val} : shiftV k (.vt vs) = .vt (shiftVs k vs) := by rw [shiftV]
theorem shiftVs_nil {k : Nat} : shiftVs k [] = [] := by rw [shiftVs]
theorem shiftVs_cons {k : Nat} {vs : List Val} : shiftVs k (v :: vs) = shiftV k v :: shiftVs k vs := by rw [shiftVs]
theorem shiftC_obj {k c : Nat} {fs : List Val} : shiftC k (.obj c fs) = .obj c (shiftVs k fs) := mkE rfl
theorem shiftC_dic {k : Nat} {ks : List Key} {ds : List D} : shiftC k (.dic ks ds) = .dic ks ds := mkE rfl
theorem bThen_t {k : R Val} : bThen (some (.bl true)) k S = k := mkE rfl
theorem bThen_f {k : R Val} : bThen (some (.bl false)) k S = .ok (.d (.bl false)) S := mkE rfl
theorem opt2_ok {f : D → D → Option D} : opt2 f (some x) (some y) = f x y := mkE rfl
theorem eChain3_eq {f f' f'' : D → D → Option D} {a b c d : SE} : eChain3 f f' f'' a b c d L S = (a L S).bind fun v S1 => (b L S1).bind fun w S2 => bThen (opt2 f (top S2 v) (top S2 w)) ((c L S2).bind fun u S3 => bThen (opt2 f' (top S3 w) (top S3 u)) ((d L S3).bind fun t S4 => R.of (opt2 f'' (top S4 u) (top S4 t)) S4) S3) S2 := mkE rfl
theorem eChain_eq {f f' : D → D → Option D} {a b c : SE} : eChain f f' a b c L S = (a L S).bind fun v S1 => (b L S1).bind fun w S2 => bThen (opt2 f (top S2 v) (top S2 w)) ((c L S2).bind fun u S3 => R.of (opt2 f' (top S3 w) (top S3 u)) S3) S2 := by
  unfold eChain bThen opt2
  cases a L S with
  | ok v S1 =>
    simp only [bind_ok]
    all_goals
      cases b L S1 with
      | ok w S2 =>
        simp only [bind_ok]
        all_goals
          cases top S2 v with
          | none => rfl
          | some x => cases top S2 w with
            | none => rfl
            | some y =>
              simp only []
              all_goals
                cases f x y with
                | none => rfl
                | some z => cases z with
                  | bl b0 => cases b0 with
                    | true =>
                      simp only []
                      all_goals
                        cases c L S2 with
                        | ok u S3 =>
                          simp only [bind_ok]
                          all_goals (rw [show top S3 w = top S3 w from rfl]; cases top S3 w <;> cases top S3 u <;> rfl)
                        | _ => rfl
                    | false => rfl
                  | _ => rfl
      | _ => rfl
  | _ => rfl
theorem compL_nil {g : SG} {t : SB} {e : SE} {Lw : Loc} {acc : List D} : compL g t e Lw [] acc S = .ok acc S := mkE rfl
theorem compL_t {g : SG} {t : SB} {e : SE} {Lw L1 : Loc} {d : D} {ds acc : List D} {S1 S2 : Store} (h1 : g (.d d) Lw = some L1) (h2 : t L1 S = .ok true S1) (h3 : e L1 S1 = .ok (.d x) S2) : compL g t e Lw (d :: ds) acc S = compL g t e Lw ds (acc ++ [x]) S2 := by
  rw [compL]
  simp only [h1, h2, h3, nox_ok, bind_ok]
  rfl
theorem compL_f {g : SG} {t : SB} {e : SE} {Lw L1 : Loc} {d : D} {ds acc : List D} {S1 : Store} (h1 : g (.d d) Lw = some L1) (h2 : t L1 S = .ok false S1) : compL g t e Lw (d :: ds) acc S = compL g t e Lw ds acc S1 := by
  rw [compL]
  simp only [h1, h2, nox_ok, bind_ok]
  rfl
theorem sLk_eq {i : Nat} {s : SS} : sLk i s L S = lkV s L S L[i]? := mkE rfl
theorem lkV_ref {n : Nat} {s : SS} : lkV s L S (some (some (.ref n))) = lkC n s L S S[n]? := mkE rfl
theorem lkV_d {x : D} {s : SS} : lkV s L S (some (some (.d x))) = s L S := mkE rfl
theorem itK_lst {ds : List D} : itK (.d (.lst ds)) S = .ok ds S := mkE rfl
theorem itK_scr {ns : List Int} : itK (.d (.scr ns)) S = .ok (ns.map .int) S := mkE rfl
theorem lkC_lst {n : Nat} {s : SS} {ds : List D} : lkC n s L S (some (.lst ds)) = (s L (S.set n (.lck ds))).mapS fun S1 => S1.set n (.lst ds) := mkE rfl
theorem mapS_nx {f : Store → Store} : (SR.nx L S).mapS f = .nx L (f S) := mkE rfl
theorem mapS_rt {f : Store → Store} : (SR.rt v S).mapS f = .rt v (f S) := mkE rfl
theorem mapS_bk {f : Store → Store} : (SR.bk L S).mapS f = .bk L (f S) := mkE rfl
theorem mapS_ct {f : Store → Store} : (SR.ct L S).mapS f = .ct L (f S) := mkE rfl
def itKc (c : Option Cell) (S : Store) : R (List D) := match c with
  | some (.lck ds) => .ok ds S
  | _ => .bad
theorem itKc_lck {ds : List D} : itKc (some (.lck ds)) S = .ok ds S := mkE rfl
theorem itK_ref {n : Nat} : itK (.ref n) S = itKc S[n]? S := by
  unfold itK itKc
  rfl
theorem iLk_eq {e : SE} : iLk e L S = (e L S).bind itK := mkE rfl
theorem bad_bind {k : α → Store → R β} : (R.bad : R α).bind k = .bad := mkE rfl
end
end Ev
set_option linter.all false
set_option Elab.async false
set_option maxRecDepth 100000
namespace Ev
open PySem L2 PySem.Spec
variable {K : PySem.W.Frag}
/-! ### the end: from the written part to what a def's derivation wants, and the law's call -/
theorem fnAt_mk {h : Heap} {mg : Str → Option Value} (X : K.In h) (G : h.Ns mainGlobals mg) {x : Str} {st : Stmt} {ps : List Str} {f : Addr} {od an : Option Addr} {sl : Array (Option Value)} {oc kV dc pm cd ct : Value}
    (a : PySem.W.nsIn K mainGlobals x = some (some (.ref f))) (l : K.lookup f = some ⟨oc, od, .func (PySem.W.fnOf x x (defArgs st) (defBody st) (defScope st) .none kV dc pm an cd ct), sl⟩) (c : PySem.W.codeIn K cd x = true) (k : PySem.W.keepIn K (.ref f) = true)
    (b : ∀ (kV doc pm : Value) (an : Option Addr) (cdv ct : Value) (us : List Value), us.length = ps.length → bindArgs (PySem.W.fnOf x x (defArgs st) (defBody st) (defScope st) .none kV doc pm an cdv ct) ⟨us, []⟩ = pure (ps.zip us)) :
    FnAt K mg x x st ps f (PySem.W.fnOf x x (defArgs st) (defBody st) (defScope st) .none kV dc pm an cd ct) :=
  ⟨fun_mk l c k, PySem.W.mg_of X G a, (fun_mk l c k).binds b⟩
theorem kd_mk {w : World} {d : Addr} {tbl : List (Str × D)} {es : Array DictEntry} {n : Nat} (h : K.lookup d = some ⟨.type "dict", none, .dict es n, #[]⟩) (lit : PySem.W.KeysLit w.params es.toList) (low : (d == sysModules) = false)
    (p : Paired (fun (e : DictEntry) (kv : Str × D) => ∃ t v, e.key = .str kv.1 t ∧ RelV v e.val ∧ Always K kv.2 v) es.toList tbl) : KD K w d tbl := ⟨es, n, ⟨h, lit, low⟩, p⟩
theorem tup_mk {x : Str} {d : Addr} {t : D} (a : PySem.W.nsIn K mainGlobals x = some (some (.ref d))) (p : Always K t (.ref d)) : ∃ d, PySem.W.nsIn K mainGlobals x = some (some (.ref d)) ∧ Always K t (.ref d) := ⟨d, a, p⟩
def pcOf (K : PySem.W.Frag) : PC := ⟨K, fun _ => 0, fun _ => [], fun _ => 0, fun _ => []⟩
theorem cx_none {P : Program} {w : World} {H : Hp} {s : Shared} {e : Value} {s' : Shared} : L2N.CX P w [] H s (fun _ _ _ => False) e s' → False := fun ⟨_, _, _, _, _, _, _, _, _, _, _, _, h⟩ => h
/-- the law's promise: True at every script -/
def spL (K : PySem.W.Frag) : Sp := fun vs H Q _ => ∃ (a : Addr) (ns : List Int), vs = [.ref a] ∧ ns.length ≤ 63 ∧ SqL K H a (ns.map V.int) ∧ ∀ H', Q (.bl true) H'
theorem spL_spF {G : PC} {g : Fn} (e : ∀ ns : List Int, ns.length ≤ 63 → ∃ S', g [.d (.scr ns)] [] = .ok (.d (.bl true)) S') : ∀ vs H Q E, spL G.K vs H Q E → spF G 1 g vs H Q E := by
  intro vs H Q E h
  obtain ⟨a, ns, rfl, hl, hS, q⟩ := h
  obtain ⟨S', e⟩ := e ns hl
  refine ⟨fun _ => False, fun _ => False, [], [.d (.scr ns)], [], ⟨_, _, rfl, ⟨a, rfl, ?_⟩, rfl⟩, rfl, ?_, ?_⟩
  · rcases hS with h | ⟨o, its, n, h⟩
    · exact .inl ⟨h, fun z => z⟩
    · exact .inr fun H' => .inr ⟨o, its, n, h⟩
  · exact ⟨fun a h => absurd h (by simp), fun a h => h.elim, .nil, rfl, fun a h => absurd h (by simp), fun a h => h.elim, fun n a c e1 e2 => by simp at e1, fun n c e1 => by simp at e1⟩
  · rw [e]
    intro A' ρ' H' x r w rw
    rw [show w = .bl true from rw]
    exact q H'
theorem fn_weak {P : Program} {w : World} {mg : Str → Option Value} {base : Heap} {CX : CXT} {k : Nat} {f : Addr} {fd : FuncData} {ps : List Str} {sp sp' : Sp} (F : FnOk P w K mg base CX k f fd ps sp) (h : ∀ vs H Q E, sp' vs H Q E → sp vs H Q E) : FnOk P w K mg base CX k f fd ps sp' :=
  ⟨fun vs H Q E z => F.len vs H Q E (h vs H Q E z), fun A outer s H args us vs Q E a b c d z => F.run A outer s H args us vs Q E a b c d (h vs H Q E z)⟩
/-- a method's facts -/
theorem mtAt_mk {C : Addr} {m qual : Str} {st : Stmt} {ps : List Str} {f : Addr} {od an : Option Addr} {sl : Array (Option Value)} {oc kV dc pm cd ct : Value}
    (a : PySem.W.findIn K (.ref C) m = some (some (.ref f))) (i : PySem.W.isFn K (.ref f) = true) (l : K.lookup f = some ⟨oc, od, .func (PySem.W.fnOf m qual (defArgs st) (defBody st) (defScope st) .none kV dc pm an cd ct), sl⟩) (c : PySem.W.codeIn K cd qual = true) (k : PySem.W.keepIn K (.ref f) = true)
    (b : ∀ (kV doc pm : Value) (an : Option Addr) (cdv ct : Value) (us : List Value), us.length = ps.length → bindArgs (PySem.W.fnOf m qual (defArgs st) (defBody st) (defScope st) .none kV doc pm an cdv ct) ⟨us, []⟩ = pure (ps.zip us)) :
    MtAt K C m qual st ps f (PySem.W.fnOf m qual (defArgs st) (defBody st) (defScope st) .none kV dc pm an cd ct) :=
  ⟨fun_mk l c k, ⟨a, i, k⟩, (fun_mk l c k).binds b⟩
theorem clsAt_mk {G : PC} {c : Nat} (pg : PySem.W.plainGet G.K (G.cls c) Str.empty = true) (hd : PySem.W.hasDictIn G.K (G.cls c) = true) (po : PySem.W.plainOver G.K (G.cls c) = true) (sa : PySem.W.findIn G.K (.ref (G.cls c)) "__setattr__" = some (some (.builtin "object.__setattr__")))
    (nd : (G.fld c).Nodup) (sz : (G.fld c).length ≤ 900) (na : ∀ f ∈ G.fld c, NoAttr G.K (G.cls c) f) : ClsAt G c := ⟨⟨pg, hd, po, sa⟩, nd, na, sz⟩
end Ev
set_option linter.all false
set_option Elab.async false
set_option maxRecDepth 100000
/-! equations for simp: exceptions -/
namespace Ev
open PySem L2 PySem.Spec
variable {L : Loc} {S : Store} {v : Val} {f : SS} {xf : Nat → List Str} {cl : List Cl}
theorem sRaise_eq {k : Nat} : sRaise k L S = .ex ⟨k, []⟩ L S := mkE rfl
def raiV (k : Nat) (L : Loc) (v : Val) (S : Store) : SR := match v with
  | .d (.int i) => if 0 ≤ i ∧ i ≤ 1000000 then .ex ⟨k, [.int i]⟩ L S else .bad
  | _ => .bad
theorem raiV_int {k : Nat} {i : Int} (h : 0 ≤ i ∧ i ≤ 1000000) : raiV k L (.d (.int i)) S = .ex ⟨k, [.int i]⟩ L S := if_pos h
theorem sRaiseI_eq {k : Nat} {e : SE} : sRaiseI k e L S = (e L S).to L (raiV k L) := mkE rfl
theorem rz_1 {n : Nat} {e : SE} : rz (n + 2) 1 e = sRaiseI 1 e := mkE (rz_i (by decide))
theorem rz_1003 {n : Nat} {e : SE} : rz (n + 2) 1003 e = sRaiseP 3 e := mkE (rz_p (k := 3))
theorem rz_1004 {n : Nat} {e : SE} : rz (n + 2) 1004 e = sRaiseP 4 e := mkE (rz_p (k := 4))
theorem sRaiseP_eq {k : Nat} {e : SE} : sRaiseP k e L S = (e L S).to L (raiP k L) := mkE rfl
theorem iEn_eq {e : SE} : iEn e L S = (e L S).bind itE := mkE rfl
theorem itE_lst {ds : List D} : itE (.d (.lst ds)) S = .ok (enumD ds) S := mkE rfl
theorem iZp_eq {e e' : SE} : iZp e e' L S = (e L S).bind fun v S1 => (e' L S1).bind fun w S2 => itZ v w S2 := mkE rfl
theorem itZ_lst {xs ys : List D} : itZ (.d (.lst xs)) (.d (.lst ys)) S = .ok ((zipD xs ys).map .tup) S := mkE rfl
theorem itZ_tup {xs ys : List D} : itZ (.d (.tup xs)) (.d (.tup ys)) S = .ok ((zipD xs ys).map .tup) S := mkE rfl
noncomputable def tryR (xf : Nat → List Str) (cl : List Cl) (r : SR) : SR := match r with
  | .ex x L1 S1 => catchN xf x L1 S1 cl
  | r => r
theorem sTryN_eq : sTryN xf f cl L S = tryR xf cl (f L S) := mkE rfl
theorem tryR_nx : tryR xf cl (.nx L S) = .nx L S := mkE rfl
theorem tryR_rt : tryR xf cl (.rt v S) = .rt v S := mkE rfl
theorem tryR_bk : tryR xf cl (.bk L S) = .bk L S := mkE rfl
theorem tryR_ct : tryR xf cl (.ct L S) = .ct L S := mkE rfl
theorem tryR_bad : tryR xf cl .bad = .bad := mkE rfl
theorem tryR_ex {x : Ex} : tryR xf cl (.ex x L S) = catchN xf x L S cl := mkE rfl
noncomputable def catB (xf : Nat → List Str) (x : Ex) (L : Loc) (S : Store) (c : Cl) (r : List Cl) : Option Bool → SR
  | some true => allR fun a d => (match c.o with
      | some i => (c.h ⟨a, d, x.k⟩ (L.set i (some (.exc a d (xf x.k) x.fs))) S).unset i
      | none => (c.h ⟨a, d, x.k⟩ L S).noex)
  | some false => catchN xf x L S r
  | none => .bad
theorem catchN_eq {k : Nat} {fs : List D} {m : Nat → Option Bool} {o : Option Nat} {h : Cau → SS} {r : List Cl} : catchN xf ⟨k, fs⟩ L S (⟨m, o, h⟩ :: r) = catB xf ⟨k, fs⟩ L S ⟨m, o, h⟩ r (m k) := by
  conv => lhs; unfold catchN
  show (match m k with | some true => _ | some false => _ | none => _) = catB xf ⟨k, fs⟩ L S ⟨m, o, h⟩ r (m k)
  cases m k with
  | none => rfl
  | some b => cases b <;> rfl
theorem catchN_nil {x : Ex} : catchN xf x L S [] = .ex x L S := mkE rfl
theorem catB_f {x : Ex} {c : Cl} {r : List Cl} : catB xf x L S c r (some false) = catchN xf x L S r := mkE rfl
theorem catB_t {k i : Nat} {fs : List D} {m : Nat → Option Bool} {h : Cau → SS} {r : List Cl} : catB xf ⟨k, fs⟩ L S ⟨m, some i, h⟩ r (some true) = allR fun a d => (h ⟨a, d, k⟩ (L.set i (some (.exc a d (xf k) fs))) S).unset i := mkE rfl
theorem catB_tn {k : Nat} {fs : List D} {m : Nat → Option Bool} {h : Cau → SS} {r : List Cl} : catB xf ⟨k, fs⟩ L S ⟨m, none, h⟩ r (some true) = allR fun a d => (h ⟨a, d, k⟩ L S).noex := mkE rfl
theorem unset_rt {i : Nat} : (SR.rt v S).unset i = .rt v S := mkE rfl
theorem unset_nx {i : Nat} : (SR.nx L S).unset i = .nx (L.set i none) S := mkE rfl
theorem unset_bk {i : Nat} : (SR.bk L S).unset i = .bk (L.set i none) S := mkE rfl
theorem unset_ct {i : Nat} : (SR.ct L S).unset i = .ct (L.set i none) S := mkE rfl
theorem noex_rt : (SR.rt v S).noex = .rt v S := mkE rfl
theorem noex_nx : (SR.nx L S).noex = .nx L S := mkE rfl
theorem noex_bk : (SR.bk L S).noex = .bk L S := mkE rfl
theorem noex_ct : (SR.ct L S).noex = .ct L S := mkE rfl
theorem eIsY_eq {y : Cau} {t : Nat → Option Bool} {e : SE} : eIsY y t e L S = (e L S).bind (isY y (t y.k)) := mkE rfl
theorem isY_at {a : Addr} {d : Option Addr} {k : Nat} {b : Bool} {nm : List Str} {fs : List D} : isY ⟨a, d, k⟩ (some b) (.exc a d nm fs) S = .ok (.d (.bl b)) S := if_pos ⟨rfl, rfl⟩
theorem eAtY_eq {y : Cau} {j : Nat} {f : Str} {e : SE} : eAtY y j f e L S = (e L S).bind (atY y j f) := mkE rfl
theorem atY_at {a : Addr} {d : Option Addr} {k j : Nat} {f : Str} {nm : List Str} {fs : List D} {x : D} (h1 : nm[j]? = some f) (h2 : nm.Nodup) (h3 : fs[j]? = some x) : atY ⟨a, d, k⟩ j f (.exc a d nm fs) S = .ok (.d x) S := by
  unfold atY
  simp only [h1, h2, h3, and_self, if_true]
  rfl
theorem mapS_ex {x : Ex} {f : Store → Store} {L : Loc} {S : Store} : (SR.ex x L S).mapS f = .ex x L (f S) := mkE rfl
def lstOfV (v : Val) (S : Store) : R Val := match (top S v).bind listD with
  | some (.lst ds) => .ok (.ref S.length) (S ++ [.lst ds])
  | _ => .bad
theorem eLstOf_eq {e : SE} {L : Loc} {S : Store} : eLstOf e L S = (e L S).bind lstOfV := mkE rfl
theorem lstOfV_d {ds : List D} {S : Store} : lstOfV (.d (.lst ds)) S = .ok (.ref S.length) (S ++ [.lst ds]) := mkE rfl
def lstC (c : Option Cell) (S : Store) : R Val := match c with
  | some (.lst ds) => .ok (.ref S.length) (S ++ [.lst ds])
  | some (.lck ds) => .ok (.ref S.length) (S ++ [.lst ds])
  | _ => .bad
theorem lstOfV_ref {n : Nat} {S : Store} : lstOfV (.ref n) S = lstC S[n]? S := by
  unfold lstOfV top lstC
  simp only
  cases S[n]? with
  | none => rfl
  | some c => cases c <;> rfl
theorem lstC_lst {ds : List D} {S : Store} : lstC (some (.lst ds)) S = .ok (.ref S.length) (S ++ [.lst ds]) := mkE rfl
theorem lstC_lck {ds : List D} {S : Store} : lstC (some (.lck ds)) S = .ok (.ref S.length) (S ++ [.lst ds]) := mkE rfl
end Ev
set_option linter.all false
set_option Elab.async false
set_option maxRecDepth 100000
/-! equations for simp: dicts that are copied and walked -/
namespace Ev
open PySem L2 PySem.Spec
variable {L : Loc} {S : Store} {v : Val}
theorem eDicOf_eq {e : SE} : eDicOf e L S = (e L S).bind dicCp := mkE rfl
def dicCpC (c : Option Cell) (S : Store) : R Val := match c with
  | some (.dic ks ds) => .ok (.ref S.length) (S ++ [.dic ks ds])
  | some (.ldk ks ds) => .ok (.ref S.length) (S ++ [.dic ks ds])
  | _ => .bad
theorem dicCp_ref {n : Nat} : dicCp (.ref n) S = dicCpC S[n]? S := mkE rfl
theorem dicCpC_dic {ks : List Key} {ds : List D} : dicCpC (some (.dic ks ds)) S = .ok (.ref S.length) (S ++ [.dic ks ds]) := mkE rfl
theorem dicCpC_ldk {ks : List Key} {ds : List D} : dicCpC (some (.ldk ks ds)) S = .ok (.ref S.length) (S ++ [.dic ks ds]) := mkE rfl
theorem sLkD_eq {e : SE} {s : SS} : sLkD e s L S = lkDO s L S (refOf (e L S)) := mkE rfl
theorem refOf_ref {n : Nat} : refOf (.ok (.ref n) S) = some n := mkE rfl
theorem lkDO_some {n : Nat} {s : SS} : lkDO s L S (some n) = lkDC n s L S S[n]? := mkE rfl
theorem lkDC_dic {n : Nat} {s : SS} {ks : List Key} {ds : List D} : lkDC n s L S (some (.dic ks ds)) = (s L (S.set n (.ldk ks ds))).mapD fun S1 => S1.set n (.dic ks ds) := mkE rfl
theorem mapD_nx {f : Store → Store} : (SR.nx L S).mapD f = .nx L (f S) := mkE rfl
theorem mapD_rt {f : Store → Store} : (SR.rt v S).mapD f = .rt v (f S) := mkE rfl
theorem mapD_bk {f : Store → Store} : (SR.bk L S).mapD f = .bk L (f S) := mkE rfl
theorem mapD_ct {f : Store → Store} : (SR.ct L S).mapD f = .ct L (f S) := mkE rfl
theorem iDK_eq {e : SE} : iDK e L S = (e L S).bind itDK := mkE rfl
def itDKc (c : Option Cell) (S : Store) : R (List D) := match c with
  | some (.ldk ks _) => .ok (ks.map kD) S
  | _ => .bad
theorem itDK_ref {n : Nat} : itDK (.ref n) S = itDKc S[n]? S := mkE rfl
theorem itDKc_ldk {ks : List Key} {ds : List D} : itDKc (some (.ldk ks ds)) S = .ok (ks.map kD) S := mkE rfl
theorem iDI_eq {e : SE} : iDI e L S = (e L S).bind itDI := mkE rfl
def itDIc (c : Option Cell) (S : Store) : R (List D) := match c with
  | some (.ldk ks ds) => .ok ((kvD ks ds).map .tup) S
  | _ => .bad
theorem itDI_ref {n : Nat} : itDI (.ref n) S = itDIc S[n]? S := mkE rfl
theorem itDIc_ldk {ks : List Key} {ds : List D} : itDIc (some (.ldk ks ds)) S = .ok ((kvD ks ds).map .tup) S := mkE rfl
theorem kvD_nil : kvD [] [] = [] := mkE rfl
end Ev
set_option linter.all false
set_option Elab.async false
set_option maxRecDepth 100000
/-! the end, exceptions' classes -/
namespace Ev
open PySem L2 PySem.Spec
variable {K : PySem.W.Frag}
theorem oex_mk {C N : Addr} {nm q : Str} {bs bm sub : List Value} {sn : List Str} {ab : Bool} {col : Option Bool} {dd : Option Addr} {k0 k1 k2 k3 k5 : Option Value} (l : K.lookup C = some (excClassObj nm q C N bs bm true sn sub ab col dd k0 k1 k2 k3 k5 "ValueError.__new__")) (r : PySem.HandSPX.refsVE bm = true)
    (sa : PySem.W.findIn K (.ref C) "__setattr__" = some (some (.builtin "object.__setattr__"))) (sb : PySem.W.subIn K (.ref C) (.type "BaseException") = some true) (ty : PySem.W.typeIn K (.ref C) = some (.type "type")) (kc : PySem.W.keepIn K (.ref C) = true) : OexC K C :=
  ⟨⟨_, _, _, _, _, _, _, _, _, _, _, _, _, _, _, l, r⟩, sa, sb, ty, kc⟩
theorem xm_mk {C : Addr} {m qual : Str} {st : Stmt} {ps : List Str} {f : Addr} {od an : Option Addr} {sl : Array (Option Value)} {oc kV dc pm cd ct : Value} (l : K.lookup f = some ⟨oc, od, .func (PySem.W.fnOf m qual (defArgs st) (defBody st) (defScope st) .none kV dc pm an cd ct), sl⟩) (c : PySem.W.codeIn K cd qual = true) (k : PySem.W.keepIn K (.ref f) = true)
    (b : ∀ (kV doc pm : Value) (an : Option Addr) (cdv ct : Value) (us : List Value), us.length = ps.length → bindArgs (PySem.W.fnOf m qual (defArgs st) (defBody st) (defScope st) .none kV doc pm an cdv ct) ⟨us, []⟩ = pure (ps.zip us)) :
    XmAt K m qual st ps f (PySem.W.fnOf m qual (defArgs st) (defBody st) (defScope st) .none kV dc pm an cd ct) := ⟨fun_mk l c k, (fun_mk l c k).binds b⟩
theorem kit_t {C k : Addr} (hd : PySem.W.hasDictIn K C = true) (ty : PySem.W.typeIn K (.ref C) = some (.type "type")) (sb : PySem.W.subIn K (.ref k) (.ref C) = some true) : PySem.W.kitOne K (.ref k) (.ref C) = some true := by
  obtain ⟨cd, hc, _⟩ := PySem.W.any_some hd
  have e2 : ((PySem.W.clsIn K C).isSome && PySem.W.typeIn K (.ref C) == some (.type "type")) = true := by rw [hc, ty] <;> rfl
  unfold PySem.W.kitOne PySem.W.kitCls
  split
  · rfl
  · show (if ((PySem.W.clsIn K C).isSome && PySem.W.typeIn K (.ref C) == some (.type "type")) = true then PySem.W.subIn K (.ref k) (.ref C) else none) = _
    rw [if_pos e2]
    exact sb
theorem kit_f {C k : Addr} (hd : PySem.W.hasDictIn K C = true) (ty : PySem.W.typeIn K (.ref C) = some (.type "type")) (sb : PySem.W.subIn K (.ref k) (.ref C) = some false) (ne : (Value.ref k == Value.ref C) = false) : PySem.W.kitOne K (.ref k) (.ref C) = some false := by
  obtain ⟨cd, hc, _⟩ := PySem.W.any_some hd
  have e2 : ((PySem.W.clsIn K C).isSome && PySem.W.typeIn K (.ref C) == some (.type "type")) = true := by rw [hc, ty] <;> rfl
  unfold PySem.W.kitOne PySem.W.kitCls
  rw [if_neg (by rw [ne]; decide)]
  show (if ((PySem.W.clsIn K C).isSome && PySem.W.typeIn K (.ref C) == some (.type "type")) = true then PySem.W.subIn K (.ref k) (.ref C) else none) = _
  rw [if_pos e2]
  exact sb
theorem kit_ve {k : Addr} {b : Bool} (sb : PySem.W.subIn K (.ref k) (.type "ValueError") = some b) : PySem.W.kitOne K (.ref k) (.type "ValueError") = some b := by
  unfold PySem.W.kitOne PySem.W.kitCls
  rw [if_neg (show ¬ ((Value.ref k == Value.type "ValueError") = true) from Bool.false_ne_true)]
  show (if PySem.W.kitMeta "ValueError" = true then PySem.W.subIn K (.ref k) (.type "ValueError") else none) = _
  rw [if_pos (by decide +kernel)]
  exact sb
end Ev
set_option linter.all false
set_option Elab.async false
set_option maxRecDepth 100000
/-! the defs of the program and the law, as terms of Ev -/
namespace K31
open PySem L2 PySem.Spec Ev
def kAMOUNTS : List (Str × D) := [("due", (.tup [(.str "name")])), ("plus", (.tup [(.str "amount"), (.str "amount")])), ("minus", (.tup [(.str "amount"), (.str "amount")])), ("times", (.tup [(.str "amount"), (.str "amount")])), ("least", (.tup [(.str "amount"), (.str "amount")])), ("most", (.tup [(.str "amount"), (.str "amount")])), ("percent", (.tup [(.str "hundredths"), (.str "amount")])), ("if", (.tup [(.str "condition"), (.str "amount"), (.str "amount")]))]
def kCONDITIONS : List (Str × D) := [("below", (.tup [(.str "amount"), (.str "amount")])), ("same", (.tup [(.str "amount"), (.str "amount")])), ("known", (.tup [(.str "name")])), ("not", (.tup [(.str "condition")])), ("both", (.tup [(.str "condition"), (.str "condition")])), ("either", (.tup [(.str "condition"), (.str "condition")]))]
def dRESERVED : D := (.tup [(.str "fact"), (.str "known"), (.str "due"), (.str "or"), (.str "plus"), (.str "minus"), (.str "times"), (.str "least"), (.str "most"), (.str "percent"), (.str "if"), (.str "below"), (.str "same"), (.str "not"), (.str "both"), (.str "either")])
/-- the fields of the exceptions -/
def xf : Nat → List Str
  | 0 => []
  | 1 => ["at"]
  | 2 => []
  | 3 => []
  | 4 => ["decision"]
  | _ => []
def tx_BadText : Nat → Option Bool
  | 0 => some false
  | 1 => some true
  | 2 => some false
  | 3 => some false
  | 4 => some false
  | _ => none
def cx_BadText (G : PC) : Value := .ref (G.xcl 1)
def tx_NotAllowed : Nat → Option Bool
  | 0 => some false
  | 1 => some false
  | 2 => some true
  | 3 => some false
  | 4 => some false
  | _ => none
def cx_NotAllowed (G : PC) : Value := .ref (G.xcl 2)
def tx_UnknownName : Nat → Option Bool
  | 0 => some false
  | 1 => some false
  | 2 => some false
  | 3 => some true
  | 4 => some false
  | _ => none
def cx_UnknownName (G : PC) : Value := .ref (G.xcl 3)
def tx_WritError : Nat → Option Bool
  | 0 => some true
  | 1 => some true
  | 2 => some true
  | 3 => some true
  | 4 => some true
  | _ => none
def cx_WritError (G : PC) : Value := .ref (G.xcl 0)
def hots : List (Nat × Nat × Nat × ((Cau → Nat → Fn) → Cau → SS)) := []
def runXB (x : Cau → Nat → Fn) (y : Cau) (k : Nat) : Fn := match hots.find? (fun q => q.1 == k) with
  | some (_, np, nl, b) => runFn np nl (b x y)
  | none => fun _ _ => .bad
def runX : Nat → Cau → Nat → Fn
  | 0 => fun _ _ _ _ => .bad
  | n + 1 => runXB (runX n)
/-- BadText.__init__ -/
noncomputable def b0 (c : Nat → Fn) (w : Nat → Nat → Nat → SA → SE) (z : Nat → SE → SS) (x : Cau → Nat → Fn) : SS :=
    (sSeq sBad sBad)
/-- is_name -/
noncomputable def b1 (c : Nat → Fn) (w : Nat → Nat → Nat → SA → SE) (z : Nat → SE → SS) (x : Cau → Nat → Fn) : SS :=
    (sSeq (sIf (bOr (bE (eOp2 eqD' (eV 0) (eC (.str "")))) (bOr (bE (eOp2 gtD (eOp1 lenD (eV 0)) (eC (.int 12)))) (bE (eOp2 (inD false) (eV 0) (eC dRESERVED))))) (sRt (eC (.bl false))) sNx)
    (sSeq (sIf (bE (eOp2 (inD true) (eIdx (eV 0) (eC (.int 0))) (eC (.str "abcdefghijklmnopqrstuvwxyz")))) (sRt (eC (.bl false))) sNx)
    (sRt (eOp1 allB (eComp (iS (eV 0)) (gN 1) bYes (eOr (eOp2 (inD false) (eV 1) (eC (.str "abcdefghijklmnopqrstuvwxyz"))) (eOp2 (inD false) (eV 1) (eC (.str "0123456789")))) [1])))))
/-- is_day -/
noncomputable def b2 (c : Nat → Fn) (w : Nat → Nat → Nat → SA → SE) (z : Nat → SE → SS) (x : Cau → Nat → Fn) : SS :=
    (sRt (eChain leD ltD (eC (.int 0)) (eV 0) (eC (.int 10000))))
/-- is_span -/
noncomputable def b3 (c : Nat → Fn) (w : Nat → Nat → Nat → SA → SE) (z : Nat → SE → SS) (x : Cau → Nat → Fn) : SS :=
    (sSeq (sIf (bOr (bNot (bE (eIs .tuple (eV 0)))) (bE (eOp2 neD' (eOp1 lenD (eV 0)) (eC (.int 2))))) (sRt (eC (.bl false))) sNx)
    (sSeq (sAsg (eV 0) (gT 2 (gsC (gN 1) (gsC (gN 2) gsN))))
    (sRt (eChain3 leD ltD leD (eC (.int 0)) (eV 1) (eV 2) (eC (.int 10000))))))
/-- is_value -/
noncomputable def b4 (c : Nat → Fn) (w : Nat → Nat → Nat → SA → SE) (z : Nat → SE → SS) (x : Cau → Nat → Fn) : SS :=
    (sRt (eChain leD leD (eOp1 negD (eC (.int 999999999))) (eV 0) (eC (.int 999999999))))
/-- is_number -/
noncomputable def b5 (c : Nat → Fn) (w : Nat → Nat → Nat → SA → SE) (z : Nat → SE → SS) (x : Cau → Nat → Fn) : SS :=
    (sSeq (sAsg (eStrM rempD (eV 0) (eC (.str "-"))) (gN 1))
    (sSeq (sIf (bOr (bE (eOp2 eqD' (eV 1) (eC (.str "")))) (bE (eOp2 gtD (eOp1 lenD (eV 1)) (eC (.int 9))))) (sRt (eC (.bl false))) sNx)
    (sSeq (sIf (bNot (bE (eOp1 allB (eComp (iS (eV 1)) (gN 2) bYes (eOp2 (inD false) (eV 2) (eC (.str "0123456789"))) [2])))) (sRt (eC (.bl false))) sNx)
    (sRt (eOr (eOp2 eqD' (eV 0) (eC (.str "0"))) (eNot (eStrM startsD (eV 1) (eC (.str "0")))))))))
/-- parse_amount -/
noncomputable def b6 (c : Nat → Fn) (w : Nat → Nat → Nat → SA → SE) (z : Nat → SE → SS) (x : Cau → Nat → Fn) : SS :=
    (sSeq (sAsg (eCallI (c 7) 1 (aC (eV 0) aN)) (gN 1))
    (sSeq (sIf (bE (eOp2 gtD (eOp1 lenD (eV 1)) (eC (.int 40)))) (sRaise 2) sNx)
    (sSeq (sAsg (eCallI (c 8) 2 (aC (eV 1) (aC (eC (.int 0)) aN))) (gT 2 (gsC (gN 2) (gsC (gN 3) gsN))))
    (sSeq (sIf (bE (eOp2 ltD (eV 3) (eOp1 lenD (eV 1)))) (z 1 (eV 3)) sNx)
    (sRt (eV 2))))))
/-- split_words -/
noncomputable def b7 (c : Nat → Fn) (w : Nat → Nat → Nat → SA → SE) (z : Nat → SE → SS) (x : Cau → Nat → Fn) : SS :=
    (sRt (eComp (iL (eStrM splitD (eV 0) (eC (.str " ")))) (gN 1) (bE (eOp2 neD' (eV 1) (eC (.str "")))) (eV 1) [1]))
/-- read_amount -/
noncomputable def b8 (c : Nat → Fn) (w : Nat → Nat → Nat → SA → SE) (z : Nat → SE → SS) (x : Cau → Nat → Fn) : SS :=
    (sSeq (sAsg (eCallI (c 15) 2 (aC (eV 0) (aC (eV 1) aN))) (gN 2))
    (sSeq (sIf (bE (eCallI (c 5) 1 (aC (eV 2) aN))) (sRt (eTup (aC (eTup (aC (eC (.str "number")) (aC (eOp1 intD (eV 2)) aN))) (aC (eOp2 addD (eV 1) (eC (.int 1))) aN)))) sNx)
    (sSeq (sIf (bE (eOp2 eqD' (eV 2) (eC (.str "fact")))) (sRt (eCallI (c 10) 2 (aC (eV 0) (aC (eV 1) aN)))) sNx)
    (sSeq (sIf (bE (eOp1 (kInD true kAMOUNTS) (eV 2))) (z 1 (eV 1)) sNx)
    (sRt (eCallI (c 11) 3 (aC (eV 0) (aC (eV 1) (aC (eOp1 (kGetD kAMOUNTS) (eV 2)) aN)))))))))
/-- read_condition -/
noncomputable def b9 (c : Nat → Fn) (w : Nat → Nat → Nat → SA → SE) (z : Nat → SE → SS) (x : Cau → Nat → Fn) : SS :=
    (sSeq (sAsg (eCallI (c 15) 2 (aC (eV 0) (aC (eV 1) aN))) (gN 2))
    (sSeq (sIf (bE (eOp1 (kInD true kCONDITIONS) (eV 2))) (z 1 (eV 1)) sNx)
    (sRt (eCallI (c 11) 3 (aC (eV 0) (aC (eV 1) (aC (eOp1 (kGetD kCONDITIONS) (eV 2)) aN)))))))
/-- read_fact -/
noncomputable def b10 (c : Nat → Fn) (w : Nat → Nat → Nat → SA → SE) (z : Nat → SE → SS) (x : Cau → Nat → Fn) : SS :=
    (sSeq (sAsg (eCallI (c 14) 2 (aC (eV 0) (aC (eOp2 addD (eV 1) (eC (.int 1))) aN))) (gT 2 (gsC (gN 2) (gsC (gN 3) gsN))))
    (sSeq (sIf (bOr (bE (eOp2 eqD' (eV 3) (eOp1 lenD (eV 0)))) (bE (eOp2 neD' (eIdx (eV 0) (eV 3)) (eC (.str "or"))))) (sRt (eTup (aC (eTup (aC (eC (.str "fact")) (aC (eV 2) (aC (eC .non) aN)))) (aC (eV 3) aN)))) sNx)
    (sSeq (sAsg (eCallI (c 8) 2 (aC (eV 0) (aC (eOp2 addD (eV 3) (eC (.int 1))) aN))) (gT 2 (gsC (gN 4) (gsC (gN 3) gsN))))
    (sRt (eTup (aC (eTup (aC (eC (.str "fact")) (aC (eV 2) (aC (eV 4) aN)))) (aC (eV 3) aN)))))))
/-- read_parts -/
noncomputable def b11 (c : Nat → Fn) (w : Nat → Nat → Nat → SA → SE) (z : Nat → SE → SS) (x : Cau → Nat → Fn) : SS :=
    (sSeq (sAsg (eLstO (aC (eIdx (eV 0) (eV 1)) aN)) (gN 3))
    (sSeq (sAsg (eOp2 addD (eV 1) (eC (.int 1))) (gN 4))
    (sSeq (sFor (iT (eV 2)) (gN 5) (sSeq (sAsg (eCallI (c 12) 3 (aC (eV 0) (aC (eV 4) (aC (eV 5) aN)))) (gT 2 (gsC (gN 6) (gsC (gN 4) gsN))))
    (sEx (eAppend (eV 3) (eV 6)))))
    (sRt (eTup (aC (eOp1 tupleD (eV 3)) (aC (eV 4) aN)))))))
/-- read_part -/
noncomputable def b12 (c : Nat → Fn) (w : Nat → Nat → Nat → SA → SE) (z : Nat → SE → SS) (x : Cau → Nat → Fn) : SS :=
    (sSeq (sIf (bE (eOp2 eqD' (eV 2) (eC (.str "amount")))) (sRt (eCallI (c 8) 2 (aC (eV 0) (aC (eV 1) aN)))) sNx)
    (sSeq (sIf (bE (eOp2 eqD' (eV 2) (eC (.str "condition")))) (sRt (eCallI (c 9) 2 (aC (eV 0) (aC (eV 1) aN)))) sNx)
    (sSeq (sIf (bE (eOp2 eqD' (eV 2) (eC (.str "hundredths")))) (sRt (eCallI (c 13) 2 (aC (eV 0) (aC (eV 1) aN)))) sNx)
    (sRt (eCallI (c 14) 2 (aC (eV 0) (aC (eV 1) aN)))))))
/-- read_hundredths -/
noncomputable def b13 (c : Nat → Fn) (w : Nat → Nat → Nat → SA → SE) (z : Nat → SE → SS) (x : Cau → Nat → Fn) : SS :=
    (sSeq (sAsg (eCallI (c 15) 2 (aC (eV 0) (aC (eV 1) aN))) (gN 2))
    (sSeq (sIf (bOr (bNot (bE (eCallI (c 5) 1 (aC (eV 2) aN)))) (bNot (bE (eChain leD leD (eC (.int 0)) (eOp1 intD (eV 2)) (eC (.int 1000)))))) (z 1 (eV 1)) sNx)
    (sRt (eTup (aC (eOp1 intD (eV 2)) (aC (eOp2 addD (eV 1) (eC (.int 1))) aN))))))
/-- read_name -/
noncomputable def b14 (c : Nat → Fn) (w : Nat → Nat → Nat → SA → SE) (z : Nat → SE → SS) (x : Cau → Nat → Fn) : SS :=
    (sSeq (sAsg (eCallI (c 15) 2 (aC (eV 0) (aC (eV 1) aN))) (gN 2))
    (sSeq (sIf (bNot (bE (eCallI (c 1) 1 (aC (eV 2) aN)))) (z 1 (eV 1)) sNx)
    (sRt (eTup (aC (eV 2) (aC (eOp2 addD (eV 1) (eC (.int 1))) aN))))))
/-- word_at -/
noncomputable def b15 (c : Nat → Fn) (w : Nat → Nat → Nat → SA → SE) (z : Nat → SE → SS) (x : Cau → Nat → Fn) : SS :=
    (sSeq (sIf (bE (eOp2 eqD' (eV 1) (eOp1 lenD (eV 0)))) (z 1 (eV 1)) sNx)
    (sRt (eIdx (eV 0) (eV 1))))
/-- Book.__init__ -/
noncomputable def b16 (c : Nat → Fn) (w : Nat → Nat → Nat → SA → SE) (z : Nat → SE → SS) (x : Cau → Nat → Fn) : SS :=
    (sSeq (sSetF 0 0 (eV 0) (eLstO aN))
    (sSeq (sSetF 0 1 (eV 0) eDicO)
    (sSetF 0 2 (eV 0) eDicO)))
/-- Book.enter -/
noncomputable def b17 (c : Nat → Fn) (w : Nat → Nat → Nat → SA → SE) (z : Nat → SE → SS) (x : Cau → Nat → Fn) : SS :=
    (sSeq (sEx (eMeth 0 (c 19) 1 (eV 0) (aC (eIdx (eV 1) (eC (.int 1))) aN)))
    (sSeq (sIf (bE (eOp2 eqD' (eIdx (eV 1) (eC (.int 0))) (eC (.str "report")))) (sEx (eCallI (c 21) 1 (aC (eV 1) aN))) (sIf (bE (eOp2 eqD' (eIdx (eV 1) (eC (.int 0))) (eC (.str "enact")))) (sPutDic (eFld 0 2 (eV 0)) (eOp1 lenD (eFld 0 0 (eV 0))) (eCallI (c 22) 1 (aC (eV 1) aN))) (sSeq (sEx (eMeth 0 (c 20) 1 (eV 0) (aC (eIdx (eV 1) (eC (.int 2))) aN)))
    (sPutDic (eFld 0 1 (eV 0)) (eIdx (eV 1) (eC (.int 2))) (eIdx (eV 1) (eC (.int 1)))))))
    (sEx (eAppend (eFld 0 0 (eV 0)) (eOp1 tupleD (eV 1))))))
/-- Book.entries -/
noncomputable def b18 (c : Nat → Fn) (w : Nat → Nat → Nat → SA → SE) (z : Nat → SE → SS) (x : Cau → Nat → Fn) : SS :=
    (sRt (eOp1 listD (eFld 0 0 (eV 0))))
/-- Book._check_turn -/
noncomputable def b19 (c : Nat → Fn) (w : Nat → Nat → Nat → SA → SE) (z : Nat → SE → SS) (x : Cau → Nat → Fn) : SS :=
    (sSeq (sIf (bE (eOp2 geD (eOp1 lenD (eFld 0 0 (eV 0))) (eC (.int 100)))) (sRaise 2) sNx)
    (sSeq (sIf (bNot (bE (eCallI (c 2) 1 (aC (eV 1) aN)))) (sRaise 2) sNx)
    (sIf (bAnd (bTr (eFld 0 0 (eV 0))) (bE (eOp2 ltD (eV 1) (eIdx (eIdx (eFld 0 0 (eV 0)) (eOp1 negD (eC (.int 1)))) (eC (.int 1)))))) (sRaise 2) sNx)))
/-- Book._check_strike -/
noncomputable def b20 (c : Nat → Fn) (w : Nat → Nat → Nat → SA → SE) (z : Nat → SE → SS) (x : Cau → Nat → Fn) : SS :=
    (sSeq (sIf (bNot (bE (eChain leD ltD (eC (.int 0)) (eV 1) (eOp1 lenD (eFld 0 0 (eV 0)))))) (sRaise 2) sNx)
    (sSeq (sIf (bE (eOp2 eqD' (eIdx (eIdx (eFld 0 0 (eV 0)) (eV 1)) (eC (.int 0))) (eC (.str "strike")))) (sRaise 2) sNx)
    (sIf (bE (eInDic false (eV 1) (eFld 0 1 (eV 0)))) (sRaise 2) sNx)))
/-- check_report -/
noncomputable def b21 (c : Nat → Fn) (w : Nat → Nat → Nat → SA → SE) (z : Nat → SE → SS) (x : Cau → Nat → Fn) : SS :=
    (sSeq (sAsg (eSl (eV 0) (oE (eC (.int 2))) oN) (gT 4 (gsC (gN 1) (gsC (gN 2) (gsC (gN 3) (gsC (gN 4) gsN))))))
    (sSeq (sIf (bOr (bNot (bE (eCallI (c 1) 1 (aC (eV 1) aN)))) (bNot (bE (eCallI (c 1) 1 (aC (eV 2) aN))))) (sRaise 2) sNx)
    (sSeq (sIf (bNot (bE (eCallI (c 4) 1 (aC (eV 3) aN)))) (sRaise 2) sNx)
    (sEx (eCallI (c 23) 1 (aC (eV 4) aN))))))
/-- checked_amount -/
noncomputable def b22 (c : Nat → Fn) (w : Nat → Nat → Nat → SA → SE) (z : Nat → SE → SS) (x : Cau → Nat → Fn) : SS :=
    (sSeq (sAsg (eSl (eV 0) (oE (eC (.int 2))) oN) (gT 3 (gsC (gN 1) (gsC (gN 2) (gsC (gN 3) gsN)))))
    (sSeq (sIf (bNot (bE (eCallI (c 1) 1 (aC (eV 1) aN)))) (sRaise 2) sNx)
    (sSeq (sAsg (eCallI (c 6) 1 (aC (eV 2) aN)) (gN 4))
    (sSeq (sEx (eCallI (c 23) 1 (aC (eV 3) aN)))
    (sRt (eV 4))))))
/-- check_span -/
noncomputable def b23 (c : Nat → Fn) (w : Nat → Nat → Nat → SA → SE) (z : Nat → SE → SS) (x : Cau → Nat → Fn) : SS :=
    (sIf (bNot (bE (eCallI (c 3) 1 (aC (eV 0) aN)))) (sRaise 2) sNx)
/-- stands -/
noncomputable def b24 (c : Nat → Fn) (w : Nat → Nat → Nat → SA → SE) (z : Nat → SE → SS) (x : Cau → Nat → Fn) : SS :=
    (sSeq sBad (sSeq sBad (sSeq sBad sBad)))
/-- fact_at -/
noncomputable def b25 (c : Nat → Fn) (w : Nat → Nat → Nat → SA → SE) (z : Nat → SE → SS) (x : Cau → Nat → Fn) : SS :=
    (sSeq sBad sBad)
/-- rule_at -/
noncomputable def b26 (c : Nat → Fn) (w : Nat → Nat → Nat → SA → SE) (z : Nat → SE → SS) (x : Cau → Nat → Fn) : SS :=
    (sSeq sBad sBad)
/-- holds -/
noncomputable def b27 (c : Nat → Fn) (w : Nat → Nat → Nat → SA → SE) (z : Nat → SE → SS) (x : Cau → Nat → Fn) : SS :=
    (sSeq sBad sBad)
/-- value_of -/
noncomputable def b28 (c : Nat → Fn) (w : Nat → Nat → Nat → SA → SE) (z : Nat → SE → SS) (x : Cau → Nat → Fn) : SS :=
    sBad
/-- amount_of -/
noncomputable def b29 (c : Nat → Fn) (w : Nat → Nat → Nat → SA → SE) (z : Nat → SE → SS) (x : Cau → Nat → Fn) : SS :=
    sBad
/-- book_with -/
noncomputable def b30 (c : Nat → Fn) (w : Nat → Nat → Nat → SA → SE) (z : Nat → SE → SS) (x : Cau → Nat → Fn) : SS :=
    (sSeq (sAsg (w 0 16 0 aN) (gN 2))
    (sSeq (sSetF 0 0 (eV 2) (eLstOf (eFld 0 0 (eV 0))))
    (sSeq (sSetF 0 1 (eV 2) (eDicOf (eFld 0 1 (eV 0))))
    (sSeq (sSetF 0 2 (eV 2) (eDicOf (eFld 0 2 (eV 0))))
    (sSeq (sEx (eMeth 0 (c 17) 1 (eV 2) (aC (eV 1) aN)))
    (sRt (eV 2)))))))
/-- Stop.__init__ -/
noncomputable def b31 (c : Nat → Fn) (w : Nat → Nat → Nat → SA → SE) (z : Nat → SE → SS) (x : Cau → Nat → Fn) : SS :=
    (sSeq sBad sBad)
/-- Reading.__init__ -/
noncomputable def b32 (c : Nat → Fn) (w : Nat → Nat → Nat → SA → SE) (z : Nat → SE → SS) (x : Cau → Nat → Fn) : SS :=
    (sSeq sBad (sSeq sBad (sSeq sBad (sSeq sBad (sSeq sBad sBad)))))
/-- Reading.rule_amount -/
noncomputable def b33 (c : Nat → Fn) (w : Nat → Nat → Nat → SA → SE) (z : Nat → SE → SS) (x : Cau → Nat → Fn) : SS :=
    (sSeq sBad (sSeq sBad (sSeq sBad (sSeq sBad (sSeq sBad (sSeq sBad (sSeq sBad sBad)))))))
/-- Reading._look_up -/
noncomputable def b34 (c : Nat → Fn) (w : Nat → Nat → Nat → SA → SE) (z : Nat → SE → SS) (x : Cau → Nat → Fn) : SS :=
    (sSeq sBad (sSeq sBad (sSeq sBad sBad)))
/-- Reading._amount -/
noncomputable def b35 (c : Nat → Fn) (w : Nat → Nat → Nat → SA → SE) (z : Nat → SE → SS) (x : Cau → Nat → Fn) : SS :=
    (sSeq sBad (sSeq sBad (sSeq sBad (sSeq sBad (sSeq sBad (sSeq sBad (sSeq sBad (sSeq sBad sBad))))))))
/-- Reading._fact_amount -/
noncomputable def b36 (c : Nat → Fn) (w : Nat → Nat → Nat → SA → SE) (z : Nat → SE → SS) (x : Cau → Nat → Fn) : SS :=
    (sSeq sBad (sSeq sBad (sSeq sBad sBad)))
/-- Reading._holds -/
noncomputable def b37 (c : Nat → Fn) (w : Nat → Nat → Nat → SA → SE) (z : Nat → SE → SS) (x : Cau → Nat → Fn) : SS :=
    (sSeq sBad (sSeq sBad (sSeq sBad (sSeq sBad (sSeq sBad (sSeq sBad (sSeq sBad (sSeq sBad sBad))))))))
/-- Reading._within_limits -/
noncomputable def b38 (c : Nat → Fn) (w : Nat → Nat → Nat → SA → SE) (z : Nat → SE → SS) (x : Cau → Nat → Fn) : SS :=
    (sSeq sBad sBad)
/-- joined -/
noncomputable def b39 (c : Nat → Fn) (w : Nat → Nat → Nat → SA → SE) (z : Nat → SE → SS) (x : Cau → Nat → Fn) : SS :=
    (sSeq sBad (sSeq sBad (sSeq sBad (sSeq sBad sBad))))
/-- decide -/
noncomputable def b40 (c : Nat → Fn) (w : Nat → Nat → Nat → SA → SE) (z : Nat → SE → SS) (x : Cau → Nat → Fn) : SS :=
    (sSeq sBad (sSeq sBad (sSeq sBad sBad)))
/-- course -/
noncomputable def b41 (c : Nat → Fn) (w : Nat → Nat → Nat → SA → SE) (z : Nat → SE → SS) (x : Cau → Nat → Fn) : SS :=
    (sSeq sBad (sSeq sBad (sSeq sBad sBad)))
/-- total -/
noncomputable def b42 (c : Nat → Fn) (w : Nat → Nat → Nat → SA → SE) (z : Nat → SE → SS) (x : Cau → Nat → Fn) : SS :=
    (sSeq sBad (sSeq sBad sBad))
/-- stretches -/
noncomputable def b43 (c : Nat → Fn) (w : Nat → Nat → Nat → SA → SE) (z : Nat → SE → SS) (x : Cau → Nat → Fn) : SS :=
    (sSeq sBad (sSeq sBad (sSeq sBad (sSeq sBad sBad))))
/-- Ledger.__init__ -/
noncomputable def b44 (c : Nat → Fn) (w : Nat → Nat → Nat → SA → SE) (z : Nat → SE → SS) (x : Cau → Nat → Fn) : SS :=
    (sSetF 2 0 (eV 0) (eLstO aN))
/-- Ledger.settle -/
noncomputable def b45 (c : Nat → Fn) (w : Nat → Nat → Nat → SA → SE) (z : Nat → SE → SS) (x : Cau → Nat → Fn) : SS :=
    (sSeq sBad (sSeq sBad (sSeq sBad (sSeq sBad (sSeq sBad sBad)))))
/-- Ledger.paid -/
noncomputable def b46 (c : Nat → Fn) (w : Nat → Nat → Nat → SA → SE) (z : Nat → SE → SS) (x : Cau → Nat → Fn) : SS :=
    sBad
/-- Ledger.payments -/
noncomputable def b47 (c : Nat → Fn) (w : Nat → Nat → Nat → SA → SE) (z : Nat → SE → SS) (x : Cau → Nat → Fn) : SS :=
    sBad
/-- Desk.__init__ -/
noncomputable def b48 (c : Nat → Fn) (w : Nat → Nat → Nat → SA → SE) (z : Nat → SE → SS) (x : Cau → Nat → Fn) : SS :=
    (sSeq (sSetF 3 0 (eV 0) (w 0 16 0 aN))
    (sSeq (sSetF 3 1 (eV 0) (w 2 44 0 aN))
    (sSeq (sSetF 3 2 (eV 0) eDicO)
    (sSetF 3 3 (eV 0) (eLstO aN)))))
/-- Desk.do -/
noncomputable def b49 (c : Nat → Fn) (w : Nat → Nat → Nat → SA → SE) (z : Nat → SE → SS) (x : Cau → Nat → Fn) : SS :=
    (sSeq (sIf (bE (eOp2 eqD' (eIdx (eV 1) (eC (.int 0))) (eC (.str "enter")))) (sEx (eMeth 3 (c 55) 1 (eV 0) (aC (eIdx (eV 1) (eC (.int 1))) aN))) (sIf (bE (eOp2 eqD' (eIdx (eV 1) (eC (.int 0))) (eC (.str "stand")))) sBad (sIf (bE (eOp2 eqD' (eIdx (eV 1) (eC (.int 0))) (eC (.str "drop")))) sBad sBad)))
    (sEx (eAppend (eFld 3 3 (eV 0)) (eOp1 tupleD (eV 1)))))
/-- Desk.totals -/
noncomputable def b50 (c : Nat → Fn) (w : Nat → Nat → Nat → SA → SE) (z : Nat → SE → SS) (x : Cau → Nat → Fn) : SS :=
    sBad
/-- Desk.changes -/
noncomputable def b51 (c : Nat → Fn) (w : Nat → Nat → Nat → SA → SE) (z : Nat → SE → SS) (x : Cau → Nat → Fn) : SS :=
    (sSeq (sAsg (eCall (c 30) 2 (aC (eFld 3 0 (eV 0)) (aC (eV 1) aN))) (gN 2))
    (sSeq (sAsg (eLstO aN) (gN 3))
    (sSeq (sLkD (eFld 3 2 (eV 0)) (sFor (iDI (eFld 3 2 (eV 0))) (gT 2 (gsC (gN 4) (gsC (gN 5) gsN))) (sSeq sBad
    (sSeq sBad
    (sIf (bE (eOp2 neD' (eV 6) (eV 7))) (sEx (eAppend (eV 3) (eTup (aC (eV 4) (aC (eV 6) (aC (eV 7) aN)))))) sNx)))))
    (sRt (eV 3)))))
/-- Desk.entries -/
noncomputable def b52 (c : Nat → Fn) (w : Nat → Nat → Nat → SA → SE) (z : Nat → SE → SS) (x : Cau → Nat → Fn) : SS :=
    (sRt (eMeth 0 (c 18) 0 (eFld 3 0 (eV 0)) aN))
/-- Desk.payments -/
noncomputable def b53 (c : Nat → Fn) (w : Nat → Nat → Nat → SA → SE) (z : Nat → SE → SS) (x : Cau → Nat → Fn) : SS :=
    sBad
/-- Desk.journal -/
noncomputable def b54 (c : Nat → Fn) (w : Nat → Nat → Nat → SA → SE) (z : Nat → SE → SS) (x : Cau → Nat → Fn) : SS :=
    (sRt (eOp1 listD (eFld 3 3 (eV 0))))
/-- Desk._enter -/
noncomputable def b55 (c : Nat → Fn) (w : Nat → Nat → Nat → SA → SE) (z : Nat → SE → SS) (x : Cau → Nat → Fn) : SS :=
    (sSeq (sAsg (eCall (c 30) 2 (aC (eFld 3 0 (eV 0)) (aC (eV 1) aN))) (gN 2))
    (sSeq (sEx (eMeth 3 (c 60) 0 (eV 0) aN))
    (sSetF 3 0 (eV 0) (eV 2))))
/-- Desk._stand -/
noncomputable def b56 (c : Nat → Fn) (w : Nat → Nat → Nat → SA → SE) (z : Nat → SE → SS) (x : Cau → Nat → Fn) : SS :=
    (sSeq sBad (sSeq sBad (sSeq sBad sBad)))
/-- Desk._drop -/
noncomputable def b57 (c : Nat → Fn) (w : Nat → Nat → Nat → SA → SE) (z : Nat → SE → SS) (x : Cau → Nat → Fn) : SS :=
    (sSeq sBad (sSeq sBad sBad))
/-- Desk._settle -/
noncomputable def b58 (c : Nat → Fn) (w : Nat → Nat → Nat → SA → SE) (z : Nat → SE → SS) (x : Cau → Nat → Fn) : SS :=
    (sSeq sBad (sSeq sBad sBad))
/-- Desk._check_standing -/
noncomputable def b59 (c : Nat → Fn) (w : Nat → Nat → Nat → SA → SE) (z : Nat → SE → SS) (x : Cau → Nat → Fn) : SS :=
    sBad
/-- Desk._check_room -/
noncomputable def b60 (c : Nat → Fn) (w : Nat → Nat → Nat → SA → SE) (z : Nat → SE → SS) (x : Cau → Nat → Fn) : SS :=
    (sIf (bE (eOp2 geD (eOp1 lenD (eFld 3 3 (eV 0))) (eC (.int 150)))) (sRaise 2) sNx)
/-- check_claim -/
noncomputable def b61 (c : Nat → Fn) (w : Nat → Nat → Nat → SA → SE) (z : Nat → SE → SS) (x : Cau → Nat → Fn) : SS :=
    (sSeq sBad (sSeq sBad (sSeq sBad sBad)))
/-- _law_refused -/
noncomputable def b62 (c : Nat → Fn) (w : Nat → Nat → Nat → SA → SE) (z : Nat → SE → SS) (x : Cau → Nat → Fn) : SS :=
    (sSeq (sTryN xf (sIf (bTr (eV 2)) (sEx (eMeth 3 (c 51) 1 (eV 0) (aC (eV 1) aN))) (sEx (eMeth 3 (c 49) 1 (eV 0) (aC (eTup (aC (eC (.str "enter")) (aC (eV 1) aN))) aN)))) [⟨tx_WritError, some 3, fun y => (sRt (eAnd (eIsY y tx_NotAllowed (eV 3)) (eAnd (eNot (eIsY y tx_BadText (eV 3))) (eNot (eIsY y tx_UnknownName (eV 3))))))⟩])
    (sRt (eC (.bl false))))
/-- law -/
noncomputable def b63 (c : Nat → Fn) (w : Nat → Nat → Nat → SA → SE) (z : Nat → SE → SS) (x : Cau → Nat → Fn) : SS :=
    (sSeq (sAsg (eC (.int 7)) (gN 1))
    (sSeq (sFor (iL (eV 0)) (gN 2) (sAsg (eOp2 modD (eOp1 intD (eOp2 addD (eOp2 addD (eOp2 mulD (eV 1) (eC (.int 48271))) (eV 2)) (eC (.int 11)))) (eC (.int 2147483647))) (gN 1)))
    (sSeq (sAsg (eC (.int 20)) (gN 3))
    (sSeq (sIf (bE (eOp2 eqD' (eOp2 modD (eOp2 fdivD (eV 1) (eC (.int 5))) (eC (.int 6))) (eC (.int 1)))) (sAsg (eC (.int 100)) (gN 3)) sNx)
    (sSeq (sAsg (w 3 48 0 aN) (gN 4))
    (sSeq (sAsg (eLstO aN) (gN 5))
    (sSeq (sFor (iR1 (eV 3)) (gN 6) (sSeq (sAsg (eTup (aC (eC (.str "report")) (aC (eC (.int 0)) (aC (eC (.str "ann")) (aC (eC (.str "age")) (aC (eOp2 subD (eOp2 modD (eOp1 intD (eOp2 addD (eV 1) (eOp2 mulD (eC (.int 977)) (eV 6)))) (eC (.int 1000))) (eC (.int 300))) (aC (eTup (aC (eC (.int 0)) (aC (eOp2 addD (eC (.int 5)) (eV 6)) aN))) aN))))))) (gN 7))
    (sSeq (sEx (eMeth 3 (c 49) 1 (eV 4) (aC (eTup (aC (eC (.str "enter")) (aC (eV 7) aN))) aN)))
    (sEx (eAppend (eV 5) (eV 7))))))
    (sSeq (sAsg (eIdx (eLst (aC (eTup (aC (eC (.str "report")) (aC (eC (.int 1)) (aC (eC (.str "bob")) (aC (eC (.str "age")) (aC (eC (.int 5)) (aC (eTup (aC (eC (.int 0)) (aC (eC (.int 9)) aN))) aN))))))) (aC (eTup (aC (eC (.str "enact")) (aC (eC (.int 1)) (aC (eC (.str "base")) (aC (eC (.str "5")) (aC (eTup (aC (eC (.int 0)) (aC (eC (.int 9)) aN))) aN)))))) (aC (eTup (aC (eC (.str "strike")) (aC (eC (.int 1)) (aC (eC (.int 3)) aN)))) aN)))) (eOp2 modD (eOp2 fdivD (eV 1) (eC (.int 31))) (eC (.int 3)))) (gN 8))
    (sSeq (sFor (iL (eLst (aC (eC (.bl true)) (aC (eC (.bl false)) aN)))) (gN 9) (sIf (bE (eOp2 neD' (eCall (c 62) 3 (aC (eV 4) (aC (eV 8) (aC (eV 9) aN)))) (eOp2 eqD' (eV 3) (eC (.int 100))))) (sRt (eC (.bl false))) sNx))
    (sSeq (sIf (bE (eOp2 eqD' (eV 3) (eC (.int 20)))) (sEx (eAppend (eV 5) (eV 8))) sNx)
    (sLk 5 (sRt (eAnd (eOp2 eqD' (eMeth 3 (c 52) 0 (eV 4) aN) (eV 5)) (eOp2 eqD' (eMeth 3 (c 54) 0 (eV 4) aN) (eComp (iLk (eV 5)) (gN 7) bYes (eTup (aC (eC (.str "enter")) (aC (eV 7) aN))) [7])))))))))))))))
noncomputable def bodies : List (Nat × Nat × ((Nat → Fn) → (Nat → Nat → Nat → SA → SE) → (Nat → SE → SS) → (Cau → Nat → Fn) → SS)) := [(2, 2, b0), (1, 2, b1), (1, 1, b2), (1, 3, b3), (1, 1, b4), (1, 3, b5), (1, 4, b6), (1, 2, b7), (2, 3, b8), (2, 3, b9), (2, 5, b10), (3, 7, b11), (3, 3, b12), (2, 3, b13), (2, 3, b14), (2, 2, b15), (1, 1, b16), (2, 2, b17), (1, 1, b18), (2, 2, b19), (2, 2, b20), (1, 5, b21), (1, 5, b22), (1, 1, b23), (3, 4, b24), (5, 8, b25), (4, 7, b26), (4, 6, b27), (2, 2, b28), (2, 2, b29), (2, 3, b30), (3, 3, b31), (5, 5, b32), (2, 4, b33), (3, 4, b34), (2, 5, b35), (3, 4, b36), (2, 5, b37), (2, 2, b38), (3, 3, b39), (2, 9, b40), (3, 10, b41), (3, 7, b42), (3, 9, b43), (1, 1, b44), (4, 6, b45), (2, 5, b46), (1, 1, b47), (1, 1, b48), (2, 2, b49), (2, 3, b50), (2, 8, b51), (1, 1, b52), (1, 1, b53), (1, 1, b54), (2, 3, b55), (3, 3, b56), (2, 2, b57), (3, 3, b58), (2, 2, b59), (1, 1, b60), (2, 5, b61), (3, 4, b62), (1, 10, b63)]
def noN : Nat → Nat → Nat → SA → SE := fun _ _ _ _ _ _ => .bad
def mkN (r : Nat → Fn) : Nat → Nat → Nat → SA → SE := fun c j k as => eNew c (r j) k as
noncomputable def runB (c : Nat → Fn) (w : Nat → Nat → Nat → SA → SE) (z : Nat → SE → SS) (x : Cau → Nat → Fn) (k : Nat) : Fn := match bodies[k]? with
  | some (np, nl, b) => runFn np nl (b c w z x)
  | none => fun _ _ => .bad
noncomputable def run : Nat → Nat → Fn
  | 0 => fun _ _ _ => .bad
  | 1 => runB (fun _ _ _ => .bad) noN (rz 0) (runX 0)
  | n + 2 => runB (run (n + 1)) (mkN (run n)) (rz (n + 1)) (runX (n + 1))
noncomputable def nw : Nat → Nat → Nat → Nat → SA → SE
  | 0 => noN
  | n + 1 => mkN (run n)
theorem run_all (n k : Nat) : run (n + 1) k = runB (run n) (nw n) (rz n) (runX n) k := by cases n <;> rfl
theorem nw_eq {n c j k : Nat} {as : SA} : nw (n + 1) c j k as = eNew c (run n j) k as := rfl
theorem run0 (n : Nat) : run (n + 1) 0 = runFn 2 2 (b0 (run n) (nw n) (rz n) (runX n)) := (run_all n 0).trans rfl
theorem run1 (n : Nat) : run (n + 1) 1 = runFn 1 2 (b1 (run n) (nw n) (rz n) (runX n)) := (run_all n 1).trans rfl
theorem run2 (n : Nat) : run (n + 1) 2 = runFn 1 1 (b2 (run n) (nw n) (rz n) (runX n)) := (run_all n 2).trans rfl
theorem run3 (n : Nat) : run (n + 1) 3 = runFn 1 3 (b3 (run n) (nw n) (rz n) (runX n)) := (run_all n 3).trans rfl
theorem run4 (n : Nat) : run (n + 1) 4 = runFn 1 1 (b4 (run n) (nw n) (rz n) (runX n)) := (run_all n 4).trans rfl
theorem run5 (n : Nat) : run (n + 1) 5 = runFn 1 3 (b5 (run n) (nw n) (rz n) (runX n)) := (run_all n 5).trans rfl
theorem run6 (n : Nat) : run (n + 1) 6 = runFn 1 4 (b6 (run n) (nw n) (rz n) (runX n)) := (run_all n 6).trans rfl
theorem run7 (n : Nat) : run (n + 1) 7 = runFn 1 2 (b7 (run n) (nw n) (rz n) (runX n)) := (run_all n 7).trans rfl
theorem run8 (n : Nat) : run (n + 1) 8 = runFn 2 3 (b8 (run n) (nw n) (rz n) (runX n)) := (run_all n 8).trans rfl
theorem run9 (n : Nat) : run (n + 1) 9 = runFn 2 3 (b9 (run n) (nw n) (rz n) (runX n)) := (run_all n 9).trans rfl
theorem run10 (n : Nat) : run (n + 1) 10 = runFn 2 5 (b10 (run n) (nw n) (rz n) (runX n)) := (run_all n 10).trans rfl
theorem run11 (n : Nat) : run (n + 1) 11 = runFn 3 7 (b11 (run n) (nw n) (rz n) (runX n)) := (run_all n 11).trans rfl
theorem run12 (n : Nat) : run (n + 1) 12 = runFn 3 3 (b12 (run n) (nw n) (rz n) (runX n)) := (run_all n 12).trans rfl
theorem run13 (n : Nat) : run (n + 1) 13 = runFn 2 3 (b13 (run n) (nw n) (rz n) (runX n)) := (run_all n 13).trans rfl
theorem run14 (n : Nat) : run (n + 1) 14 = runFn 2 3 (b14 (run n) (nw n) (rz n) (runX n)) := (run_all n 14).trans rfl
theorem run15 (n : Nat) : run (n + 1) 15 = runFn 2 2 (b15 (run n) (nw n) (rz n) (runX n)) := (run_all n 15).trans rfl
theorem run16 (n : Nat) : run (n + 1) 16 = runFn 1 1 (b16 (run n) (nw n) (rz n) (runX n)) := (run_all n 16).trans rfl
theorem run17 (n : Nat) : run (n + 1) 17 = runFn 2 2 (b17 (run n) (nw n) (rz n) (runX n)) := (run_all n 17).trans rfl
theorem run18 (n : Nat) : run (n + 1) 18 = runFn 1 1 (b18 (run n) (nw n) (rz n) (runX n)) := (run_all n 18).trans rfl
theorem run19 (n : Nat) : run (n + 1) 19 = runFn 2 2 (b19 (run n) (nw n) (rz n) (runX n)) := (run_all n 19).trans rfl
theorem run20 (n : Nat) : run (n + 1) 20 = runFn 2 2 (b20 (run n) (nw n) (rz n) (runX n)) := (run_all n 20).trans rfl
theorem run21 (n : Nat) : run (n + 1) 21 = runFn 1 5 (b21 (run n) (nw n) (rz n) (runX n)) := (run_all n 21).trans rfl
theorem run22 (n : Nat) : run (n + 1) 22 = runFn 1 5 (b22 (run n) (nw n) (rz n) (runX n)) := (run_all n 22).trans rfl
theorem run23 (n : Nat) : run (n + 1) 23 = runFn 1 1 (b23 (run n) (nw n) (rz n) (runX n)) := (run_all n 23).trans rfl
theorem run24 (n : Nat) : run (n + 1) 24 = runFn 3 4 (b24 (run n) (nw n) (rz n) (runX n)) := (run_all n 24).trans rfl
theorem run25 (n : Nat) : run (n + 1) 25 = runFn 5 8 (b25 (run n) (nw n) (rz n) (runX n)) := (run_all n 25).trans rfl
theorem run26 (n : Nat) : run (n + 1) 26 = runFn 4 7 (b26 (run n) (nw n) (rz n) (runX n)) := (run_all n 26).trans rfl
theorem run27 (n : Nat) : run (n + 1) 27 = runFn 4 6 (b27 (run n) (nw n) (rz n) (runX n)) := (run_all n 27).trans rfl
theorem run28 (n : Nat) : run (n + 1) 28 = runFn 2 2 (b28 (run n) (nw n) (rz n) (runX n)) := (run_all n 28).trans rfl
theorem run29 (n : Nat) : run (n + 1) 29 = runFn 2 2 (b29 (run n) (nw n) (rz n) (runX n)) := (run_all n 29).trans rfl
theorem run30 (n : Nat) : run (n + 1) 30 = runFn 2 3 (b30 (run n) (nw n) (rz n) (runX n)) := (run_all n 30).trans rfl
theorem run31 (n : Nat) : run (n + 1) 31 = runFn 3 3 (b31 (run n) (nw n) (rz n) (runX n)) := (run_all n 31).trans rfl
theorem run32 (n : Nat) : run (n + 1) 32 = runFn 5 5 (b32 (run n) (nw n) (rz n) (runX n)) := (run_all n 32).trans rfl
theorem run33 (n : Nat) : run (n + 1) 33 = runFn 2 4 (b33 (run n) (nw n) (rz n) (runX n)) := (run_all n 33).trans rfl
theorem run34 (n : Nat) : run (n + 1) 34 = runFn 3 4 (b34 (run n) (nw n) (rz n) (runX n)) := (run_all n 34).trans rfl
theorem run35 (n : Nat) : run (n + 1) 35 = runFn 2 5 (b35 (run n) (nw n) (rz n) (runX n)) := (run_all n 35).trans rfl
theorem run36 (n : Nat) : run (n + 1) 36 = runFn 3 4 (b36 (run n) (nw n) (rz n) (runX n)) := (run_all n 36).trans rfl
theorem run37 (n : Nat) : run (n + 1) 37 = runFn 2 5 (b37 (run n) (nw n) (rz n) (runX n)) := (run_all n 37).trans rfl
theorem run38 (n : Nat) : run (n + 1) 38 = runFn 2 2 (b38 (run n) (nw n) (rz n) (runX n)) := (run_all n 38).trans rfl
theorem run39 (n : Nat) : run (n + 1) 39 = runFn 3 3 (b39 (run n) (nw n) (rz n) (runX n)) := (run_all n 39).trans rfl
theorem run40 (n : Nat) : run (n + 1) 40 = runFn 2 9 (b40 (run n) (nw n) (rz n) (runX n)) := (run_all n 40).trans rfl
theorem run41 (n : Nat) : run (n + 1) 41 = runFn 3 10 (b41 (run n) (nw n) (rz n) (runX n)) := (run_all n 41).trans rfl
theorem run42 (n : Nat) : run (n + 1) 42 = runFn 3 7 (b42 (run n) (nw n) (rz n) (runX n)) := (run_all n 42).trans rfl
theorem run43 (n : Nat) : run (n + 1) 43 = runFn 3 9 (b43 (run n) (nw n) (rz n) (runX n)) := (run_all n 43).trans rfl
theorem run44 (n : Nat) : run (n + 1) 44 = runFn 1 1 (b44 (run n) (nw n) (rz n) (runX n)) := (run_all n 44).trans rfl
theorem run45 (n : Nat) : run (n + 1) 45 = runFn 4 6 (b45 (run n) (nw n) (rz n) (runX n)) := (run_all n 45).trans rfl
theorem run46 (n : Nat) : run (n + 1) 46 = runFn 2 5 (b46 (run n) (nw n) (rz n) (runX n)) := (run_all n 46).trans rfl
theorem run47 (n : Nat) : run (n + 1) 47 = runFn 1 1 (b47 (run n) (nw n) (rz n) (runX n)) := (run_all n 47).trans rfl
theorem run48 (n : Nat) : run (n + 1) 48 = runFn 1 1 (b48 (run n) (nw n) (rz n) (runX n)) := (run_all n 48).trans rfl
theorem run49 (n : Nat) : run (n + 1) 49 = runFn 2 2 (b49 (run n) (nw n) (rz n) (runX n)) := (run_all n 49).trans rfl
theorem run50 (n : Nat) : run (n + 1) 50 = runFn 2 3 (b50 (run n) (nw n) (rz n) (runX n)) := (run_all n 50).trans rfl
theorem run51 (n : Nat) : run (n + 1) 51 = runFn 2 8 (b51 (run n) (nw n) (rz n) (runX n)) := (run_all n 51).trans rfl
theorem run52 (n : Nat) : run (n + 1) 52 = runFn 1 1 (b52 (run n) (nw n) (rz n) (runX n)) := (run_all n 52).trans rfl
theorem run53 (n : Nat) : run (n + 1) 53 = runFn 1 1 (b53 (run n) (nw n) (rz n) (runX n)) := (run_all n 53).trans rfl
theorem run54 (n : Nat) : run (n + 1) 54 = runFn 1 1 (b54 (run n) (nw n) (rz n) (runX n)) := (run_all n 54).trans rfl
theorem run55 (n : Nat) : run (n + 1) 55 = runFn 2 3 (b55 (run n) (nw n) (rz n) (runX n)) := (run_all n 55).trans rfl
theorem run56 (n : Nat) : run (n + 1) 56 = runFn 3 3 (b56 (run n) (nw n) (rz n) (runX n)) := (run_all n 56).trans rfl
theorem run57 (n : Nat) : run (n + 1) 57 = runFn 2 2 (b57 (run n) (nw n) (rz n) (runX n)) := (run_all n 57).trans rfl
theorem run58 (n : Nat) : run (n + 1) 58 = runFn 3 3 (b58 (run n) (nw n) (rz n) (runX n)) := (run_all n 58).trans rfl
theorem run59 (n : Nat) : run (n + 1) 59 = runFn 2 2 (b59 (run n) (nw n) (rz n) (runX n)) := (run_all n 59).trans rfl
theorem run60 (n : Nat) : run (n + 1) 60 = runFn 1 1 (b60 (run n) (nw n) (rz n) (runX n)) := (run_all n 60).trans rfl
theorem run61 (n : Nat) : run (n + 1) 61 = runFn 2 5 (b61 (run n) (nw n) (rz n) (runX n)) := (run_all n 61).trans rfl
theorem run62 (n : Nat) : run (n + 1) 62 = runFn 3 4 (b62 (run n) (nw n) (rz n) (runX n)) := (run_all n 62).trans rfl
theorem run63 (n : Nat) : run (n + 1) 63 = runFn 1 10 (b63 (run n) (nw n) (rz n) (runX n)) := (run_all n 63).trans rfl
end K31
set_option linter.all false
set_option Elab.async false
set_option maxRecDepth 100000
set_option maxHeartbeats 4000000
namespace K31
open PySem L2 PySem.Spec Ev
def top (i : Nat) : Stmt := PySem.Challenge.pw_duewrits_k31_a_hundred_entries.main.body.getD i (.Pass ⟨0, 0, 0, 0⟩)
def sub (i j : Nat) : Stmt := match top i with
  | .ClassDef _ _ _ b _ _ _ _ _ _ _ => b.getD j (.Pass ⟨0, 0, 0, 0⟩)
  | _ => .Pass ⟨0, 0, 0, 0⟩
abbrev s0 : Stmt := sub 2 0
abbrev N0 : List Str := ["self", "at"]
theorem sc0 : FnScope N0 ["self", "at"] (defScope s0) := ⟨rfl, rfl, rfl, by decide +kernel, rfl, by decide +kernel, by decide +kernel⟩
abbrev s1 : Stmt := top 13
abbrev N1 : List Str := ["word", "sign"]
theorem sc1 : FnScope N1 ["word"] (defScope s1) := ⟨rfl, rfl, rfl, by decide +kernel, rfl, by decide +kernel, by decide +kernel⟩
abbrev s2 : Stmt := top 14
abbrev N2 : List Str := ["day"]
theorem sc2 : FnScope N2 ["day"] (defScope s2) := ⟨rfl, rfl, rfl, by decide +kernel, rfl, by decide +kernel, by decide +kernel⟩
abbrev s3 : Stmt := top 15
abbrev N3 : List Str := ["span", "first", "after"]
theorem sc3 : FnScope N3 ["span"] (defScope s3) := ⟨rfl, rfl, rfl, by decide +kernel, rfl, by decide +kernel, by decide +kernel⟩
abbrev s4 : Stmt := top 16
abbrev N4 : List Str := ["value"]
theorem sc4 : FnScope N4 ["value"] (defScope s4) := ⟨rfl, rfl, rfl, by decide +kernel, rfl, by decide +kernel, by decide +kernel⟩
abbrev s5 : Stmt := top 17
abbrev N5 : List Str := ["word", "digits", "sign"]
theorem sc5 : FnScope N5 ["word"] (defScope s5) := ⟨rfl, rfl, rfl, by decide +kernel, rfl, by decide +kernel, by decide +kernel⟩
abbrev s6 : Stmt := top 23
abbrev N6 : List Str := ["text", "words", "amount", "at"]
theorem sc6 : FnScope N6 ["text"] (defScope s6) := ⟨rfl, rfl, rfl, by decide +kernel, rfl, by decide +kernel, by decide +kernel⟩
abbrev s7 : Stmt := top 24
abbrev N7 : List Str := ["text", "word"]
theorem sc7 : FnScope N7 ["text"] (defScope s7) := ⟨rfl, rfl, rfl, by decide +kernel, rfl, by decide +kernel, by decide +kernel⟩
abbrev s8 : Stmt := top 25
abbrev N8 : List Str := ["words", "at", "word"]
theorem sc8 : FnScope N8 ["words", "at"] (defScope s8) := ⟨rfl, rfl, rfl, by decide +kernel, rfl, by decide +kernel, by decide +kernel⟩
abbrev s9 : Stmt := top 26
abbrev N9 : List Str := ["words", "at", "word"]
theorem sc9 : FnScope N9 ["words", "at"] (defScope s9) := ⟨rfl, rfl, rfl, by decide +kernel, rfl, by decide +kernel, by decide +kernel⟩
abbrev s10 : Stmt := top 27
abbrev N10 : List Str := ["words", "at", "name", "after", "other"]
theorem sc10 : FnScope N10 ["words", "at"] (defScope s10) := ⟨rfl, rfl, rfl, by decide +kernel, rfl, by decide +kernel, by decide +kernel⟩
abbrev s11 : Stmt := top 28
abbrev N11 : List Str := ["words", "at", "kinds", "parts", "after", "kind", "part"]
theorem sc11 : FnScope N11 ["words", "at", "kinds"] (defScope s11) := ⟨rfl, rfl, rfl, by decide +kernel, rfl, by decide +kernel, by decide +kernel⟩
abbrev s12 : Stmt := top 29
abbrev N12 : List Str := ["words", "at", "kind"]
theorem sc12 : FnScope N12 ["words", "at", "kind"] (defScope s12) := ⟨rfl, rfl, rfl, by decide +kernel, rfl, by decide +kernel, by decide +kernel⟩
abbrev s13 : Stmt := top 30
abbrev N13 : List Str := ["words", "at", "word"]
theorem sc13 : FnScope N13 ["words", "at"] (defScope s13) := ⟨rfl, rfl, rfl, by decide +kernel, rfl, by decide +kernel, by decide +kernel⟩
abbrev s14 : Stmt := top 31
abbrev N14 : List Str := ["words", "at", "word"]
theorem sc14 : FnScope N14 ["words", "at"] (defScope s14) := ⟨rfl, rfl, rfl, by decide +kernel, rfl, by decide +kernel, by decide +kernel⟩
abbrev s15 : Stmt := top 32
abbrev N15 : List Str := ["words", "at"]
theorem sc15 : FnScope N15 ["words", "at"] (defScope s15) := ⟨rfl, rfl, rfl, by decide +kernel, rfl, by decide +kernel, by decide +kernel⟩
abbrev s16 : Stmt := sub 35 0
abbrev N16 : List Str := ["self"]
theorem sc16 : FnScope N16 ["self"] (defScope s16) := ⟨rfl, rfl, rfl, by decide +kernel, rfl, by decide +kernel, by decide +kernel⟩
abbrev s17 : Stmt := sub 35 1
abbrev N17 : List Str := ["self", "entry"]
theorem sc17 : FnScope N17 ["self", "entry"] (defScope s17) := ⟨rfl, rfl, rfl, by decide +kernel, rfl, by decide +kernel, by decide +kernel⟩
abbrev s18 : Stmt := sub 35 2
abbrev N18 : List Str := ["self"]
theorem sc18 : FnScope N18 ["self"] (defScope s18) := ⟨rfl, rfl, rfl, by decide +kernel, rfl, by decide +kernel, by decide +kernel⟩
abbrev s19 : Stmt := sub 35 3
abbrev N19 : List Str := ["self", "came"]
theorem sc19 : FnScope N19 ["self", "came"] (defScope s19) := ⟨rfl, rfl, rfl, by decide +kernel, rfl, by decide +kernel, by decide +kernel⟩
abbrev s20 : Stmt := sub 35 4
abbrev N20 : List Str := ["self", "index"]
theorem sc20 : FnScope N20 ["self", "index"] (defScope s20) := ⟨rfl, rfl, rfl, by decide +kernel, rfl, by decide +kernel, by decide +kernel⟩
abbrev s21 : Stmt := top 36
abbrev N21 : List Str := ["entry", "person", "fact", "value", "span"]
theorem sc21 : FnScope N21 ["entry"] (defScope s21) := ⟨rfl, rfl, rfl, by decide +kernel, rfl, by decide +kernel, by decide +kernel⟩
abbrev s22 : Stmt := top 37
abbrev N22 : List Str := ["entry", "rule", "text", "span", "amount"]
theorem sc22 : FnScope N22 ["entry"] (defScope s22) := ⟨rfl, rfl, rfl, by decide +kernel, rfl, by decide +kernel, by decide +kernel⟩
abbrev s23 : Stmt := top 38
abbrev N23 : List Str := ["span"]
theorem sc23 : FnScope N23 ["span"] (defScope s23) := ⟨rfl, rfl, rfl, by decide +kernel, rfl, by decide +kernel, by decide +kernel⟩
abbrev s24 : Stmt := top 39
abbrev N24 : List Str := ["book", "index", "known", "entry"]
theorem sc24 : FnScope N24 ["book", "index", "known"] (defScope s24) := ⟨rfl, rfl, rfl, by decide +kernel, rfl, by decide +kernel, by decide +kernel⟩
abbrev s25 : Stmt := top 40
abbrev N25 : List Str := ["book", "person", "fact", "day", "known", "index", "entry", "told"]
theorem sc25 : FnScope N25 ["book", "person", "fact", "day", "known"] (defScope s25) := ⟨rfl, rfl, rfl, by decide +kernel, rfl, by decide +kernel, by decide +kernel⟩
abbrev s26 : Stmt := top 41
abbrev N26 : List Str := ["book", "rule", "day", "known", "index", "entry", "told"]
theorem sc26 : FnScope N26 ["book", "rule", "day", "known"] (defScope s26) := ⟨rfl, rfl, rfl, by decide +kernel, rfl, by decide +kernel, by decide +kernel⟩
abbrev s27 : Stmt := top 42
abbrev N27 : List Str := ["book", "index", "day", "known", "first", "after"]
theorem sc27 : FnScope N27 ["book", "index", "day", "known"] (defScope s27) := ⟨rfl, rfl, rfl, by decide +kernel, rfl, by decide +kernel, by decide +kernel⟩
abbrev s28 : Stmt := top 43
abbrev N28 : List Str := ["book", "index"]
theorem sc28 : FnScope N28 ["book", "index"] (defScope s28) := ⟨rfl, rfl, rfl, by decide +kernel, rfl, by decide +kernel, by decide +kernel⟩
abbrev s29 : Stmt := top 44
abbrev N29 : List Str := ["book", "index"]
theorem sc29 : FnScope N29 ["book", "index"] (defScope s29) := ⟨rfl, rfl, rfl, by decide +kernel, rfl, by decide +kernel, by decide +kernel⟩
abbrev s30 : Stmt := top 45
abbrev N30 : List Str := ["book", "entry", "grown"]
theorem sc30 : FnScope N30 ["book", "entry"] (defScope s30) := ⟨rfl, rfl, rfl, by decide +kernel, rfl, by decide +kernel, by decide +kernel⟩
abbrev s31 : Stmt := sub 50 0
abbrev N31 : List Str := ["self", "word", "name"]
theorem sc31 : FnScope N31 ["self", "word", "name"] (defScope s31) := ⟨rfl, rfl, rfl, by decide +kernel, rfl, by decide +kernel, by decide +kernel⟩
abbrev s32 : Stmt := sub 51 0
abbrev N32 : List Str := ["self", "book", "person", "day", "known"]
theorem sc32 : FnScope N32 ["self", "book", "person", "day", "known"] (defScope s32) := ⟨rfl, rfl, rfl, by decide +kernel, rfl, by decide +kernel, by decide +kernel⟩
abbrev s33 : Stmt := sub 51 1
abbrev N33 : List Str := ["self", "name", "index", "amount"]
theorem sc33 : FnScope N33 ["self", "name"] (defScope s33) := ⟨rfl, rfl, rfl, by decide +kernel, rfl, by decide +kernel, by decide +kernel⟩
abbrev s34 : Stmt := sub 51 2
abbrev N34 : List Str := ["self", "kind", "name", "index"]
theorem sc34 : FnScope N34 ["self", "kind", "name"] (defScope s34) := ⟨rfl, rfl, rfl, by decide +kernel, rfl, by decide +kernel, by decide +kernel⟩
abbrev s35 : Stmt := sub 51 3
abbrev N35 : List Str := ["self", "tree", "word", "left", "right"]
theorem sc35 : FnScope N35 ["self", "tree"] (defScope s35) := ⟨rfl, rfl, rfl, by decide +kernel, rfl, by decide +kernel, by decide +kernel⟩
abbrev s36 : Stmt := sub 51 4
abbrev N36 : List Str := ["self", "name", "other", "index"]
theorem sc36 : FnScope N36 ["self", "name", "other"] (defScope s36) := ⟨rfl, rfl, rfl, by decide +kernel, rfl, by decide +kernel, by decide +kernel⟩
abbrev s37 : Stmt := sub 51 5
abbrev N37 : List Str := ["self", "tree", "word", "left", "right"]
theorem sc37 : FnScope N37 ["self", "tree"] (defScope s37) := ⟨rfl, rfl, rfl, by decide +kernel, rfl, by decide +kernel, by decide +kernel⟩
abbrev s38 : Stmt := sub 51 6
abbrev N38 : List Str := ["self", "amount"]
theorem sc38 : FnScope N38 ["self", "amount"] (defScope s38) := ⟨rfl, rfl, rfl, by decide +kernel, rfl, by decide +kernel, by decide +kernel⟩
abbrev s39 : Stmt := top 52
abbrev N39 : List Str := ["word", "left", "right"]
theorem sc39 : FnScope N39 ["word", "left", "right"] (defScope s39) := ⟨rfl, rfl, rfl, by decide +kernel, rfl, by decide +kernel, by decide +kernel⟩
abbrev s40 : Stmt := top 53
abbrev N40 : List Str := ["book", "question", "person", "rule", "day", "known", "reading", "decision", "stop"]
theorem sc40 : FnScope N40 ["book", "question"] (defScope s40) := ⟨rfl, rfl, rfl, by decide +kernel, rfl, by decide +kernel, by decide +kernel⟩
abbrev s41 : Stmt := top 55
abbrev N41 : List Str := ["book", "claim", "known", "person", "rule", "span", "runs", "first", "after", "decision"]
theorem sc41 : FnScope N41 ["book", "claim", "known"] (defScope s41) := ⟨rfl, rfl, rfl, by decide +kernel, rfl, by decide +kernel, by decide +kernel⟩
abbrev s42 : Stmt := top 56
abbrev N42 : List Str := ["book", "claim", "known", "amount", "first", "after", "decision"]
theorem sc42 : FnScope N42 ["book", "claim", "known"] (defScope s42) := ⟨rfl, rfl, rfl, by decide +kernel, rfl, by decide +kernel, by decide +kernel⟩
abbrev s43 : Stmt := top 57
abbrev N43 : List Str := ["book", "span", "known", "first", "after", "edges", "index", "entry", "day"]
theorem sc43 : FnScope N43 ["book", "span", "known"] (defScope s43) := ⟨rfl, rfl, rfl, by decide +kernel, rfl, by decide +kernel, by decide +kernel⟩
abbrev s44 : Stmt := sub 59 0
abbrev N44 : List Str := ["self"]
theorem sc44 : FnScope N44 ["self"] (defScope s44) := ⟨rfl, rfl, rfl, by decide +kernel, rfl, by decide +kernel, by decide +kernel⟩
abbrev s45 : Stmt := sub 59 1
abbrev N45 : List Str := ["self", "book", "claim", "known", "found", "amount"]
theorem sc45 : FnScope N45 ["self", "book", "claim", "known"] (defScope s45) := ⟨rfl, rfl, rfl, by decide +kernel, rfl, by decide +kernel, by decide +kernel⟩
abbrev s46 : Stmt := sub 59 2
abbrev N46 : List Str := ["self", "claim", "paid_on", "_", "amount"]
theorem sc46 : FnScope N46 ["self", "claim"] (defScope s46) := ⟨rfl, rfl, rfl, by decide +kernel, rfl, by decide +kernel, by decide +kernel⟩
abbrev s47 : Stmt := sub 59 3
abbrev N47 : List Str := ["self"]
theorem sc47 : FnScope N47 ["self"] (defScope s47) := ⟨rfl, rfl, rfl, by decide +kernel, rfl, by decide +kernel, by decide +kernel⟩
abbrev s48 : Stmt := sub 63 0
abbrev N48 : List Str := ["self"]
theorem sc48 : FnScope N48 ["self"] (defScope s48) := ⟨rfl, rfl, rfl, by decide +kernel, rfl, by decide +kernel, by decide +kernel⟩
abbrev s49 : Stmt := sub 63 1
abbrev N49 : List Str := ["self", "deed"]
theorem sc49 : FnScope N49 ["self", "deed"] (defScope s49) := ⟨rfl, rfl, rfl, by decide +kernel, rfl, by decide +kernel, by decide +kernel⟩
abbrev s50 : Stmt := sub 63 2
abbrev N50 : List Str := ["self", "known", "name"]
theorem sc50 : FnScope N50 ["self", "known"] (defScope s50) := ⟨rfl, rfl, rfl, by decide +kernel, rfl, by decide +kernel, by decide +kernel⟩
abbrev s51 : Stmt := sub 63 3
abbrev N51 : List Str := ["self", "entry", "grown", "changed", "name", "claim", "before", "after"]
theorem sc51 : FnScope N51 ["self", "entry"] (defScope s51) := ⟨rfl, rfl, rfl, by decide +kernel, rfl, by decide +kernel, by decide +kernel⟩
abbrev s52 : Stmt := sub 63 4
abbrev N52 : List Str := ["self"]
theorem sc52 : FnScope N52 ["self"] (defScope s52) := ⟨rfl, rfl, rfl, by decide +kernel, rfl, by decide +kernel, by decide +kernel⟩
abbrev s53 : Stmt := sub 63 5
abbrev N53 : List Str := ["self"]
theorem sc53 : FnScope N53 ["self"] (defScope s53) := ⟨rfl, rfl, rfl, by decide +kernel, rfl, by decide +kernel, by decide +kernel⟩
abbrev s54 : Stmt := sub 63 6
abbrev N54 : List Str := ["self"]
theorem sc54 : FnScope N54 ["self"] (defScope s54) := ⟨rfl, rfl, rfl, by decide +kernel, rfl, by decide +kernel, by decide +kernel⟩
abbrev s55 : Stmt := sub 63 7
abbrev N55 : List Str := ["self", "entry", "grown"]
theorem sc55 : FnScope N55 ["self", "entry"] (defScope s55) := ⟨rfl, rfl, rfl, by decide +kernel, rfl, by decide +kernel, by decide +kernel⟩
abbrev s56 : Stmt := sub 63 8
abbrev N56 : List Str := ["self", "name", "claim"]
theorem sc56 : FnScope N56 ["self", "name", "claim"] (defScope s56) := ⟨rfl, rfl, rfl, by decide +kernel, rfl, by decide +kernel, by decide +kernel⟩
abbrev s57 : Stmt := sub 63 9
abbrev N57 : List Str := ["self", "name"]
theorem sc57 : FnScope N57 ["self", "name"] (defScope s57) := ⟨rfl, rfl, rfl, by decide +kernel, rfl, by decide +kernel, by decide +kernel⟩
abbrev s58 : Stmt := sub 63 10
abbrev N58 : List Str := ["self", "name", "known"]
theorem sc58 : FnScope N58 ["self", "name", "known"] (defScope s58) := ⟨rfl, rfl, rfl, by decide +kernel, rfl, by decide +kernel, by decide +kernel⟩
abbrev s59 : Stmt := sub 63 11
abbrev N59 : List Str := ["self", "name"]
theorem sc59 : FnScope N59 ["self", "name"] (defScope s59) := ⟨rfl, rfl, rfl, by decide +kernel, rfl, by decide +kernel, by decide +kernel⟩
abbrev s60 : Stmt := sub 63 12
abbrev N60 : List Str := ["self"]
theorem sc60 : FnScope N60 ["self"] (defScope s60) := ⟨rfl, rfl, rfl, by decide +kernel, rfl, by decide +kernel, by decide +kernel⟩
abbrev s61 : Stmt := top 64
abbrev N61 : List Str := ["name", "claim", "person", "rule", "span"]
theorem sc61 : FnScope N61 ["name", "claim"] (defScope s61) := ⟨rfl, rfl, rfl, by decide +kernel, rfl, by decide +kernel, by decide +kernel⟩
abbrev s62 : Stmt := top 66
abbrev N62 : List Str := ["desk", "entry", "asked", "e"]
theorem sc62 : FnScope N62 ["desk", "entry", "asked"] (defScope s62) := ⟨rfl, rfl, rfl, by decide +kernel, rfl, by decide +kernel, by decide +kernel⟩
abbrev s63 : Stmt := top 67
abbrev N63 : List Str := ["script", "seed", "cell", "many", "desk", "due", "k", "entry", "last", "asked"]
theorem sc63 : FnScope N63 ["script"] (defScope s63) := ⟨rfl, rfl, rfl, by decide +kernel, rfl, by decide +kernel, by decide +kernel⟩
/-- what the program's top has made -/
structure Txt (G : PC) (w : World) (mg : Str → Option Value) (fa : Nat → Addr) (fd : Nat → FuncData) : Prop where
  n_all : mg "all" = none
  n_dict : mg "dict" = none
  n_int : mg "int" = none
  n_isinstance : mg "isinstance" = none
  n_len : mg "len" = none
  n_list : mg "list" = none
  n_range : mg "range" = none
  n_tuple : mg "tuple" = none
  k_AMOUNTS : ∃ d, mg "AMOUNTS" = some (.ref d) ∧ KD G.K w d kAMOUNTS
  k_CONDITIONS : ∃ d, mg "CONDITIONS" = some (.ref d) ∧ KD G.K w d kCONDITIONS
  g_DAYS : ∃ t, mg "DAYS" = some (.int 10000 t)
  g_DIGITS : ∃ t, mg "DIGITS" = some (.str "0123456789" t)
  g_LARGEST_NUMBER : ∃ t, mg "LARGEST_NUMBER" = some (.int 999999999 t)
  g_LETTERS : ∃ t, mg "LETTERS" = some (.str "abcdefghijklmnopqrstuvwxyz" t)
  g_LONGEST_NAME : ∃ t, mg "LONGEST_NAME" = some (.int 12 t)
  g_LONGEST_NUMBER : ∃ t, mg "LONGEST_NUMBER" = some (.int 9 t)
  g_MOST_DEEDS : ∃ t, mg "MOST_DEEDS" = some (.int 150 t)
  g_MOST_ENTRIES : ∃ t, mg "MOST_ENTRIES" = some (.int 100 t)
  g_MOST_PERCENT : ∃ t, mg "MOST_PERCENT" = some (.int 1000 t)
  g_MOST_WORDS : ∃ t, mg "MOST_WORDS" = some (.int 40 t)
  k_RESERVED : ∃ d, mg "RESERVED" = some (.ref d) ∧ Always G.K dRESERVED (.ref d)
  f0 : XmAt G.K "__init__" "BadText.__init__" s0 ["self", "at"] (fa 0) (fd 0)
  f1 : FnAt G.K mg "is_name" "is_name" s1 ["word"] (fa 1) (fd 1)
  f2 : FnAt G.K mg "is_day" "is_day" s2 ["day"] (fa 2) (fd 2)
  f3 : FnAt G.K mg "is_span" "is_span" s3 ["span"] (fa 3) (fd 3)
  f4 : FnAt G.K mg "is_value" "is_value" s4 ["value"] (fa 4) (fd 4)
  f5 : FnAt G.K mg "is_number" "is_number" s5 ["word"] (fa 5) (fd 5)
  f6 : FnAt G.K mg "parse_amount" "parse_amount" s6 ["text"] (fa 6) (fd 6)
  f7 : FnAt G.K mg "split_words" "split_words" s7 ["text"] (fa 7) (fd 7)
  f8 : FnAt G.K mg "read_amount" "read_amount" s8 ["words", "at"] (fa 8) (fd 8)
  f9 : FnAt G.K mg "read_condition" "read_condition" s9 ["words", "at"] (fa 9) (fd 9)
  f10 : FnAt G.K mg "read_fact" "read_fact" s10 ["words", "at"] (fa 10) (fd 10)
  f11 : FnAt G.K mg "read_parts" "read_parts" s11 ["words", "at", "kinds"] (fa 11) (fd 11)
  f12 : FnAt G.K mg "read_part" "read_part" s12 ["words", "at", "kind"] (fa 12) (fd 12)
  f13 : FnAt G.K mg "read_hundredths" "read_hundredths" s13 ["words", "at"] (fa 13) (fd 13)
  f14 : FnAt G.K mg "read_name" "read_name" s14 ["words", "at"] (fa 14) (fd 14)
  f15 : FnAt G.K mg "word_at" "word_at" s15 ["words", "at"] (fa 15) (fd 15)
  f16 : MtAt G.K (G.cls 0) "__init__" "Book.__init__" s16 ["self"] (fa 16) (fd 16)
  f17 : MtAt G.K (G.cls 0) "enter" "Book.enter" s17 ["self", "entry"] (fa 17) (fd 17)
  f18 : MtAt G.K (G.cls 0) "entries" "Book.entries" s18 ["self"] (fa 18) (fd 18)
  f19 : MtAt G.K (G.cls 0) "_check_turn" "Book._check_turn" s19 ["self", "came"] (fa 19) (fd 19)
  f20 : MtAt G.K (G.cls 0) "_check_strike" "Book._check_strike" s20 ["self", "index"] (fa 20) (fd 20)
  f21 : FnAt G.K mg "check_report" "check_report" s21 ["entry"] (fa 21) (fd 21)
  f22 : FnAt G.K mg "checked_amount" "checked_amount" s22 ["entry"] (fa 22) (fd 22)
  f23 : FnAt G.K mg "check_span" "check_span" s23 ["span"] (fa 23) (fd 23)
  f24 : FnAt G.K mg "stands" "stands" s24 ["book", "index", "known"] (fa 24) (fd 24)
  f25 : FnAt G.K mg "fact_at" "fact_at" s25 ["book", "person", "fact", "day", "known"] (fa 25) (fd 25)
  f26 : FnAt G.K mg "rule_at" "rule_at" s26 ["book", "rule", "day", "known"] (fa 26) (fd 26)
  f27 : FnAt G.K mg "holds" "holds" s27 ["book", "index", "day", "known"] (fa 27) (fd 27)
  f28 : FnAt G.K mg "value_of" "value_of" s28 ["book", "index"] (fa 28) (fd 28)
  f29 : FnAt G.K mg "amount_of" "amount_of" s29 ["book", "index"] (fa 29) (fd 29)
  f30 : FnAt G.K mg "book_with" "book_with" s30 ["book", "entry"] (fa 30) (fd 30)
  f31 : XmAt G.K "__init__" "Stop.__init__" s31 ["self", "word", "name"] (fa 31) (fd 31)
  f32 : MtAt G.K (G.cls 1) "__init__" "Reading.__init__" s32 ["self", "book", "person", "day", "known"] (fa 32) (fd 32)
  f33 : MtAt G.K (G.cls 1) "rule_amount" "Reading.rule_amount" s33 ["self", "name"] (fa 33) (fd 33)
  f34 : MtAt G.K (G.cls 1) "_look_up" "Reading._look_up" s34 ["self", "kind", "name"] (fa 34) (fd 34)
  f35 : MtAt G.K (G.cls 1) "_amount" "Reading._amount" s35 ["self", "tree"] (fa 35) (fd 35)
  f36 : MtAt G.K (G.cls 1) "_fact_amount" "Reading._fact_amount" s36 ["self", "name", "other"] (fa 36) (fd 36)
  f37 : MtAt G.K (G.cls 1) "_holds" "Reading._holds" s37 ["self", "tree"] (fa 37) (fd 37)
  f38 : MtAt G.K (G.cls 1) "_within_limits" "Reading._within_limits" s38 ["self", "amount"] (fa 38) (fd 38)
  f39 : FnAt G.K mg "joined" "joined" s39 ["word", "left", "right"] (fa 39) (fd 39)
  f40 : FnAt G.K mg "decide" "decide" s40 ["book", "question"] (fa 40) (fd 40)
  f41 : FnAt G.K mg "course" "course" s41 ["book", "claim", "known"] (fa 41) (fd 41)
  f42 : FnAt G.K mg "total" "total" s42 ["book", "claim", "known"] (fa 42) (fd 42)
  f43 : FnAt G.K mg "stretches" "stretches" s43 ["book", "span", "known"] (fa 43) (fd 43)
  f44 : MtAt G.K (G.cls 2) "__init__" "Ledger.__init__" s44 ["self"] (fa 44) (fd 44)
  f45 : MtAt G.K (G.cls 2) "settle" "Ledger.settle" s45 ["self", "book", "claim", "known"] (fa 45) (fd 45)
  f46 : MtAt G.K (G.cls 2) "paid" "Ledger.paid" s46 ["self", "claim"] (fa 46) (fd 46)
  f47 : MtAt G.K (G.cls 2) "payments" "Ledger.payments" s47 ["self"] (fa 47) (fd 47)
  f48 : MtAt G.K (G.cls 3) "__init__" "Desk.__init__" s48 ["self"] (fa 48) (fd 48)
  f49 : MtAt G.K (G.cls 3) "do" "Desk.do" s49 ["self", "deed"] (fa 49) (fd 49)
  f50 : MtAt G.K (G.cls 3) "totals" "Desk.totals" s50 ["self", "known"] (fa 50) (fd 50)
  f51 : MtAt G.K (G.cls 3) "changes" "Desk.changes" s51 ["self", "entry"] (fa 51) (fd 51)
  f52 : MtAt G.K (G.cls 3) "entries" "Desk.entries" s52 ["self"] (fa 52) (fd 52)
  f53 : MtAt G.K (G.cls 3) "payments" "Desk.payments" s53 ["self"] (fa 53) (fd 53)
  f54 : MtAt G.K (G.cls 3) "journal" "Desk.journal" s54 ["self"] (fa 54) (fd 54)
  f55 : MtAt G.K (G.cls 3) "_enter" "Desk._enter" s55 ["self", "entry"] (fa 55) (fd 55)
  f56 : MtAt G.K (G.cls 3) "_stand" "Desk._stand" s56 ["self", "name", "claim"] (fa 56) (fd 56)
  f57 : MtAt G.K (G.cls 3) "_drop" "Desk._drop" s57 ["self", "name"] (fa 57) (fd 57)
  f58 : MtAt G.K (G.cls 3) "_settle" "Desk._settle" s58 ["self", "name", "known"] (fa 58) (fd 58)
  f59 : MtAt G.K (G.cls 3) "_check_standing" "Desk._check_standing" s59 ["self", "name"] (fa 59) (fd 59)
  f60 : MtAt G.K (G.cls 3) "_check_room" "Desk._check_room" s60 ["self"] (fa 60) (fd 60)
  f61 : FnAt G.K mg "check_claim" "check_claim" s61 ["name", "claim"] (fa 61) (fd 61)
  f62 : FnAt G.K mg "_law_refused" "_law_refused" s62 ["desk", "entry", "asked"] (fa 62) (fd 62)
  f63 : FnAt G.K mg "law" "law" s63 ["script"] (fa 63) (fd 63)
  F0 : G.fld 0 = (["_entries", "_struck", "_amounts"] : List Str)
  C0 : ClsAt G 0
  g_Book : mg "Book" = some (.ref (G.cls 0))
  M0 : Mk G.K (G.cls 0) (fa 16)
  F1 : G.fld 1 = (["_book", "_person", "_day", "_known", "_rules", "dossier"] : List Str)
  C1 : ClsAt G 1
  g_Reading : mg "Reading" = some (.ref (G.cls 1))
  M1 : Mk G.K (G.cls 1) (fa 32)
  F2 : G.fld 2 = (["_payments"] : List Str)
  C2 : ClsAt G 2
  g_Ledger : mg "Ledger" = some (.ref (G.cls 2))
  M2 : Mk G.K (G.cls 2) (fa 44)
  F3 : G.fld 3 = (["_book", "_ledger", "_claims", "_journal"] : List Str)
  C3 : ClsAt G 3
  g_Desk : mg "Desk" = some (.ref (G.cls 3))
  M3 : Mk G.K (G.cls 3) (fa 48)
  xfl : ∀ k, G.xfl k = xf k
  gx_WritError : mg "WritError" = some (.ref (G.xcl 0))
  gx_BadText : mg "BadText" = some (.ref (G.xcl 1))
  XI1 : XIAt G 1 (fa 0)
  gx_NotAllowed : mg "NotAllowed" = some (.ref (G.xcl 2))
  X2 : XAt G 2
  gx_UnknownName : mg "UnknownName" = some (.ref (G.xcl 3))
  gx_Stop : mg "Stop" = some (.ref (G.xcl 4))
  XI4 : XIAt G 4 (fa 31)
  BI_WritError : BaseInit G.K (G.xcl 0)
  EX : ∀ k, ExcC G.K (G.xcl k)
  XF : ∀ k, XfC G.K (G.xcl k)
  xno_at : ∀ k, PySem.W.findIn G.K (.ref (G.xcl k)) "at" = some none
  ki_BadText : ∀ k b, tx_BadText k = some b → PySem.W.kitOne G.K (.ref (G.xcl k)) (cx_BadText G) = some b
  ki_NotAllowed : ∀ k b, tx_NotAllowed k = some b → PySem.W.kitOne G.K (.ref (G.xcl k)) (cx_NotAllowed G) = some b
  ki_UnknownName : ∀ k b, tx_UnknownName k = some b → PySem.W.kitOne G.K (.ref (G.xcl k)) (cx_UnknownName G) = some b
  em_WritError : ∀ k b, tx_WritError k = some b → PySem.W.exmOne G.K (.ref (G.xcl k)) (cx_WritError G) = some b
section
variable {P : Program} {w : World} {G : PC} {mg : Str → Option Value} {base : Heap} {fa : Nat → Addr} {fd : Nat → FuncData}
theorem noE {X : Cx} {W : WX} {e : Expr} : PE X e (tE G W fun _ _ => .bad) := ⟨fun pins s σ H Q I h => by
  obtain ⟨F, A, ρ, L, S, l, r, q⟩ := h
  exact q.elim⟩
theorem new0G {X : Cx} {W : WX} {n j c : Nat} {x : Str} {p pos : Pos} {f : Addr} {fd : FuncData} {ps : List Str} (M : Mk X.K (G.cls c) f) (Fk : ∀ m, n = m + 1 → FnOk X.prog X.w X.K X.mg X.base (L2N.CX X.prog X.w) m f fd ps (spF G 1 (run m j))) (hr : Room n X.A) (hg : Gl X x)
    (hm : X.mg x = some (.ref (G.cls c))) (hb : Binds X.K fd ps []) (hd : (x == ("__debug__" : Str)) = false := by decide) : PE X (.Call (.Name x p) [] [] pos) (tE G W (nw n c j 0 aN)) := by
  cases n with
  | zero => exact noE
  | succ m => exact new0_ (pe_make0 M (Fk m rfl) hr hg hm hb .nil passN hd)
theorem newG {X : Cx} {W : WX} {n j c k : Nat} {x : Str} {p pos : Pos} {f : Addr} {fd : FuncData} {ps : List Str} {e : Expr} {es : List Expr} {as : SA} (M : Mk X.K (G.cls c) f) (Fk : ∀ m, n = m + 1 → FnOk X.prog X.w X.K X.mg X.base (L2N.CX X.prog X.w) m f fd ps (spF G (k + 1) (run m j))) (hr : Room n X.A) (hg : Gl X x)
    (hm : X.mg x = some (.ref (G.cls c))) (hb : Binds X.K fd ps []) (ha : PA X (e :: es) (tA' G W as)) (hd : (x == ("__debug__" : Str)) = false := by decide) (h1 : starEach (e :: es) X.env = (false, eval e X.env) :: starEach es X.env := by rfl) (h2 : (backTo pos (starEach es X.env)).any (·.1) = false := by rfl) :
    PE X (.Call (.Name x p) (e :: es) [] pos) (tE G W (nw n c j k as)) := by
  cases n with
  | zero => exact noE
  | succ m => exact new_ (pe_make M (Fk m rfl) hr hg hm hb .nil passN ha hd h1 h2)
def pars : Nat → List Str
  | 0 => ["self", "at"]
  | 1 => ["word"]
  | 2 => ["day"]
  | 3 => ["span"]
  | 4 => ["value"]
  | 5 => ["word"]
  | 6 => ["text"]
  | 7 => ["text"]
  | 8 => ["words", "at"]
  | 9 => ["words", "at"]
  | 10 => ["words", "at"]
  | 11 => ["words", "at", "kinds"]
  | 12 => ["words", "at", "kind"]
  | 13 => ["words", "at"]
  | 14 => ["words", "at"]
  | 15 => ["words", "at"]
  | 16 => ["self"]
  | 17 => ["self", "entry"]
  | 18 => ["self"]
  | 19 => ["self", "came"]
  | 20 => ["self", "index"]
  | 21 => ["entry"]
  | 22 => ["entry"]
  | 23 => ["span"]
  | 24 => ["book", "index", "known"]
  | 25 => ["book", "person", "fact", "day", "known"]
  | 26 => ["book", "rule", "day", "known"]
  | 27 => ["book", "index", "day", "known"]
  | 28 => ["book", "index"]
  | 29 => ["book", "index"]
  | 30 => ["book", "entry"]
  | 31 => ["self", "word", "name"]
  | 32 => ["self", "book", "person", "day", "known"]
  | 33 => ["self", "name"]
  | 34 => ["self", "kind", "name"]
  | 35 => ["self", "tree"]
  | 36 => ["self", "name", "other"]
  | 37 => ["self", "tree"]
  | 38 => ["self", "amount"]
  | 39 => ["word", "left", "right"]
  | 40 => ["book", "question"]
  | 41 => ["book", "claim", "known"]
  | 42 => ["book", "claim", "known"]
  | 43 => ["book", "span", "known"]
  | 44 => ["self"]
  | 45 => ["self", "book", "claim", "known"]
  | 46 => ["self", "claim"]
  | 47 => ["self"]
  | 48 => ["self"]
  | 49 => ["self", "deed"]
  | 50 => ["self", "known"]
  | 51 => ["self", "entry"]
  | 52 => ["self"]
  | 53 => ["self"]
  | 54 => ["self"]
  | 55 => ["self", "entry"]
  | 56 => ["self", "name", "claim"]
  | 57 => ["self", "name"]
  | 58 => ["self", "name", "known"]
  | 59 => ["self", "name"]
  | 60 => ["self"]
  | 61 => ["name", "claim"]
  | 62 => ["desk", "entry", "asked"]
  | 63 => ["script"]
  | _ => []
abbrev Good (P : Program) (w : World) (G : PC) (mg : Str → Option Value) (base : Heap) (fa : Nat → Addr) (fd : Nat → FuncData) (n k : Nat) : Prop := FnOk P w G.K mg base (L2N.CX P w) n (fa k) (fd k) (pars k) (spF G (pars k).length (run n k))
abbrev hotL : List Nat := []
/-- BadText -/
theorem gx1 (T : Txt G w mg fa fd) (m : Nat) : FnOk P w G.K mg base (L2N.CX P w) (m + 1) (fa 0) (fd 0) (["self", "at"] : List Str) (spXI G.K "at") := initN (u := "the words are no expression from word ") (v := " on") T.f0.fn sc0 rfl rfl (by decide +kernel) fun cd B out s H E => pss_cons (ps_expr (pe_winit rfl T.gx_WritError T.BI_WritError (pa_cons (pv 0) (pa_cons (pe_joined (.cons pe_str (.cons (pe_fmt (pv 1)) (.cons pe_str .nil)))) pa_nil)))) (pss_one (ps_ost (pv 0) (pv 1)))
/-- Stop -/
theorem gx4 (T : Txt G w mg fa fd) (m : Nat) : FnOk P w G.K mg base (L2N.CX P w) (m + 1) (fa 31) (fd 31) (["self", "word", "name"] : List Str) (spXP G.K "decision") := initP (u := "the reading stops: ") (v := " ") T.f31.fn sc31 rfl rfl (by decide +kernel) fun cd B out s H E => pss_cons (ps_expr (pe_winit rfl T.gx_WritError T.BI_WritError (pa_cons (pv 0) (pa_cons (pe_joined (.cons pe_str (.cons (pe_fmt (pv 1)) (.cons pe_str (.cons (pe_fmt (pv 2)) .nil))))) pa_nil)))) (pss_one (ps_ost (pv 0) (pe_tup (pa_cons (pv 1) (pa_cons (pv 2) pa_nil)))))
abbrev GoodX (P : Program) (w : World) (G : PC) (mg : Str → Option Value) (base : Heap) (fa : Nat → Addr) (fd : Nat → FuncData) (p : Addr × Obj) (y : Cau) (n k : Nat) : Prop := FnX P w G.K mg base (L2N.CX P w) p n (fa k) (fd k) (pars k) (spF G (pars k).length (runX n y k))
theorem goodX (T : Txt G w mg fa fd) {p : Addr × Obj} {y : Cau} (hy : PinX G p y) : ∀ n k, k ∈ hotL → GoodX P w G mg base fa fd p y n k
  | 0, k, _ => ⟨fun vs H Q E h => spF_len vs H Q E h, fun B out s H args ws us Q E _ _ _ _ _ _ h => by
    obtain ⟨F, A, ρ, as, S, _, _, _, q⟩ := h
    exact q.elim⟩
  | n + 1, k, hk => by
    have IX := goodX T hy n
    exact absurd hk List.not_mem_nil
/-- BadText.__init__ -/
theorem d0 {n : Nat} (T : Txt G w mg fa fd) (IH : ∀ k, k < 64 → Good P w G mg base fa fd n k) (IM : ∀ m, n = m + 1 → ∀ k, k < 64 → Good P w G mg base fa fd m k) (IX : ∀ p y, PinX G p y → ∀ k, k ∈ hotL → GoodX P w G mg base fa fd p y n k) : Good P w G mg base fa fd (n + 1) 0 := by
  show FnOk P w G.K mg base (L2N.CX P w) (n + 1) (fa 0) (fd 0) (["self", "at"] : List Str) (spF G 2 (run (n + 1) 0))
  rw [run0]
  refine fn_ T.f0.fn sc0 rfl rfl fun cdv A outer s H E hr => ?_
  have hu := hr.units
  have hu1 := hu_of hr
  have tk : L2N.Takes (cxOf (L2N.CX P w) P w G.K mg base N0 "BadText.__init__" (defScope s0) (fa 0) cdv A outer s H E) (fun cls d _ H => E cls d H) := L2N.takes_of rfl rfl rfl rfl
  exact (seq_ bad_ (one_ bad_))
/-- is_name -/
theorem d1 {n : Nat} (T : Txt G w mg fa fd) (IH : ∀ k, k < 64 → Good P w G mg base fa fd n k) (IM : ∀ m, n = m + 1 → ∀ k, k < 64 → Good P w G mg base fa fd m k) (IX : ∀ p y, PinX G p y → ∀ k, k ∈ hotL → GoodX P w G mg base fa fd p y n k) : Good P w G mg base fa fd (n + 1) 1 := by
  obtain ⟨d_RESERVED, g_RESERVED, k_RESERVED⟩ := T.k_RESERVED
  show FnOk P w G.K mg base (L2N.CX P w) (n + 1) (fa 1) (fd 1) (["word"] : List Str) (spF G 1 (run (n + 1) 1))
  rw [run1]
  refine fn_ T.f1.fn sc1 rfl rfl fun cdv A outer s H E hr => ?_
  have hu := hr.units
  have hu1 := hu_of hr
  have tk : L2N.Takes (cxOf (L2N.CX P w) P w G.K mg base N1 "is_name" (defScope s1) (fa 1) cdv A outer s H E) (fun cls d _ H => E cls d H) := L2N.takes_of rfl rfl rfl rfl
  exact (seq_ (sif_ (PW.pt (wor_ (teq_ rfl hu (v_ (pv 0)) cs_) (wor_ (tgt_ (len_ rfl (pe_callB call_lenD' rfl T.n_len bt_len (pa_cons (v_ (pv 0)) pa_nil))) (gi_ rfl T.g_LONGEST_NAME)) (wor1_ (tin_ rfl (v_ (pv 0)) (gtup_ rfl g_RESERVED k_RESERVED) (by with_unfolding_all rfl)))))) (one_ (rt_ (ps_ret cb_))) nil_)
    (seq_ (sif_ (tnotin_ rfl (idx_ rfl (v_ (pv 0)) ci_ (fun _ _ => rfl)) (gs_ rfl T.g_LETTERS) (by with_unfolding_all rfl)) (one_ (rt_ (ps_ret cb_))) nil_)
    (one_ (rt_ (ps_ret (all_ rfl (pe_callB (cr_all rfl) rfl T.n_all bt_all (pa_cons (comp_ (pe_lc (own := [("sign", 1)]) rfl sc1.nd (iS_ (pi_str (v_ (pv 0)))) (blkOk_by (N := N1) (sc := defScope s1) (by decide +kernel)) (fun _ _ _ _ _ => (gNw_ (by decide) (pg_name (i := 1) sc1.nd rfl (Or.inl rfl)))) (fun _ _ _ _ _ => tsN_) (fun _ _ _ _ _ => (or_ (in_ rfl (v_ (pv 1)) (gs_ rfl T.g_LETTERS) (by with_unfolding_all rfl)) (and1_ (in_ rfl (v_ (pv 1)) (gs_ rfl T.g_DIGITS) (by with_unfolding_all rfl))))))) pa_nil))))))))
/-- is_day -/
theorem d2 {n : Nat} (T : Txt G w mg fa fd) (IH : ∀ k, k < 64 → Good P w G mg base fa fd n k) (IM : ∀ m, n = m + 1 → ∀ k, k < 64 → Good P w G mg base fa fd m k) (IX : ∀ p y, PinX G p y → ∀ k, k ∈ hotL → GoodX P w G mg base fa fd p y n k) : Good P w G mg base fa fd (n + 1) 2 := by
  show FnOk P w G.K mg base (L2N.CX P w) (n + 1) (fa 2) (fd 2) (["day"] : List Str) (spF G 1 (run (n + 1) 2))
  rw [run2]
  refine fn_ T.f2.fn sc2 rfl rfl fun cdv A outer s H E hr => ?_
  have hu := hr.units
  have hu1 := hu_of hr
  have tk : L2N.Takes (cxOf (L2N.CX P w) P w G.K mg base N2 "is_day" (defScope s2) (fa 2) cdv A outer s H E) (fun cls d _ H => E cls d H) := L2N.takes_of rfl rfl rfl rfl
  exact (one_ (rt_ (ps_ret (chain_ op_le op_lt (snd_I0 fun _ _ _ _ => rfl) (snd_I0 fun _ _ _ _ => rfl) ci_ (v_ (pv 0)) (gi_ rfl T.g_DAYS)))))
/-- is_span -/
theorem d3 {n : Nat} (T : Txt G w mg fa fd) (IH : ∀ k, k < 64 → Good P w G mg base fa fd n k) (IM : ∀ m, n = m + 1 → ∀ k, k < 64 → Good P w G mg base fa fd m k) (IX : ∀ p y, PinX G p y → ∀ k, k ∈ hotL → GoodX P w G mg base fa fd p y n k) : Good P w G mg base fa fd (n + 1) 3 := by
  show FnOk P w G.K mg base (L2N.CX P w) (n + 1) (fa 3) (fd 3) (["span"] : List Str) (spF G 1 (run (n + 1) 3))
  rw [run3]
  refine fn_ T.f3.fn sc3 rfl rfl fun cdv A outer s H E hr => ?_
  have hu := hr.units
  have hu1 := hu_of hr
  have tk : L2N.Takes (cxOf (L2N.CX P w) P w G.K mg base N3 "is_span" (defScope s3) (fa 3) cdv A outer s H E) (fun cls d _ H => E cls d H) := L2N.takes_of rfl rfl rfl rfl
  exact (seq_ (sif_ (PW.pt (wor_ (tnot_ (tval_ (is_ (t := .tuple) rfl (pe_callB call_isi rfl T.n_isinstance bt_isinstance (pa_cons (v_ (pv 0)) (pa_cons (pe_bltn (v := .ty "tuple") rfl T.n_tuple bt_tuple rfl) pa_nil)))))) (wor1_ (tne_ rfl hu (len_ rfl (pe_callB call_lenD' rfl T.n_len bt_len (pa_cons (v_ (pv 0)) pa_nil))) ci_)))) (one_ (rt_ (ps_ret cb_))) nil_)
    (seq_ (asg_ (ps_asg (v_ (pv 0)) (gT_ rfl (pg_tup rfl (gsC_ (pgs_cons (gN_ (pg_name (i := 1) sc3.nd rfl (Or.inl rfl))) (gsC_ (pgs_cons (gN_ (pg_name (i := 2) sc3.nd rfl (Or.inl rfl))) gsN_))))))))
    (one_ (rt_ (ps_ret (chain3_ op_le op_lt op_le (snd_I0 fun _ _ _ _ => rfl) (snd_I0 fun _ _ _ _ => rfl) (snd_I0 fun _ _ _ _ => rfl) ci_ (v_ (pv 1)) (v_ (pv 2)) (gi_ rfl T.g_DAYS)))))))
/-- is_value -/
theorem d4 {n : Nat} (T : Txt G w mg fa fd) (IH : ∀ k, k < 64 → Good P w G mg base fa fd n k) (IM : ∀ m, n = m + 1 → ∀ k, k < 64 → Good P w G mg base fa fd m k) (IX : ∀ p y, PinX G p y → ∀ k, k ∈ hotL → GoodX P w G mg base fa fd p y n k) : Good P w G mg base fa fd (n + 1) 4 := by
  show FnOk P w G.K mg base (L2N.CX P w) (n + 1) (fa 4) (fd 4) (["value"] : List Str) (spF G 1 (run (n + 1) 4))
  rw [run4]
  refine fn_ T.f4.fn sc4 rfl rfl fun cdv A outer s H E hr => ?_
  have hu := hr.units
  have hu1 := hu_of hr
  have tk : L2N.Takes (cxOf (L2N.CX P w) P w G.K mg base N4 "is_value" (defScope s4) (fa 4) cdv A outer s H E) (fun cls d _ H => E cls d H) := L2N.takes_of rfl rfl rfl rfl
  exact (one_ (rt_ (ps_ret (chain_ op_le op_le (snd_I0 fun _ _ _ _ => rfl) (snd_I0 fun _ _ _ _ => rfl) (neg_ (gi_ rfl T.g_LARGEST_NUMBER)) (v_ (pv 0)) (gi_ rfl T.g_LARGEST_NUMBER)))))
/-- is_number -/
theorem d5 {n : Nat} (T : Txt G w mg fa fd) (IH : ∀ k, k < 64 → Good P w G mg base fa fd n k) (IM : ∀ m, n = m + 1 → ∀ k, k < 64 → Good P w G mg base fa fd m k) (IX : ∀ p y, PinX G p y → ∀ k, k ∈ hotL → GoodX P w G mg base fa fd p y n k) : Good P w G mg base fa fd (n + 1) 5 := by
  show FnOk P w G.K mg base (L2N.CX P w) (n + 1) (fa 5) (fd 5) (["word"] : List Str) (spF G 1 (run (n + 1) 5))
  rw [run5]
  refine fn_ T.f5.fn sc5 rfl rfl fun cdv A outer s H E hr => ?_
  have hu := hr.units
  have hu1 := hu_of hr
  have tk : L2N.Takes (cxOf (L2N.CX P w) P w G.K mg base N5 "is_number" (defScope s5) (fa 5) cdv A outer s H E) (fun cls d _ H => E cls d H) := L2N.takes_of rfl rfl rfl rfl
  exact (seq_ (set_ (ps_set (i := 1) sc5.nd rfl (Or.inl rfl) (strM_ rfl (pe_bm PySem.F.plainAttrs_str PySem.F.slot_str_removeprefix PySem.F.type_str_removeprefix mt_removeprefix (v_ (pv 0)) (pa_cons cs_ pa_nil)) snd_remp)))
    (seq_ (sif_ (PW.pt (wor_ (teq_ rfl hu (v_ (pv 1)) cs_) (wor1_ (tgt_ (len_ rfl (pe_callB call_lenD' rfl T.n_len bt_len (pa_cons (v_ (pv 1)) pa_nil))) (gi_ rfl T.g_LONGEST_NUMBER))))) (one_ (rt_ (ps_ret cb_))) nil_)
    (seq_ (sif_ (tnot_ (tval_ (all_ rfl (pe_callB (cr_all rfl) rfl T.n_all bt_all (pa_cons (comp_ (pe_lc (own := [("sign", 2)]) rfl sc5.nd (iS_ (pi_str (v_ (pv 1)))) (blkOk_by (N := N5) (sc := defScope s5) (by decide +kernel)) (fun _ _ _ _ _ => (gNw_ (by decide) (pg_name (i := 2) sc5.nd rfl (Or.inl rfl)))) (fun _ _ _ _ _ => tsN_) (fun _ _ _ _ _ => (in_ rfl (v_ (pv 2)) (gs_ rfl T.g_DIGITS) (by with_unfolding_all rfl))))) pa_nil))))) (one_ (rt_ (ps_ret cb_))) nil_)
    (one_ (rt_ (ps_ret (or_ (eq_ rfl hu (v_ (pv 0)) cs_) (and1_ (not_ (strM_ rfl (pe_bm PySem.F.plainAttrs_str PySem.F.slot_str_startswith PySem.F.type_str_startswith mt_startswith (v_ (pv 1)) (pa_cons cs_ pa_nil)) snd_starts))))))))))
/-- parse_amount -/
theorem d6 {n : Nat} (T : Txt G w mg fa fd) (IH : ∀ k, k < 64 → Good P w G mg base fa fd n k) (IM : ∀ m, n = m + 1 → ∀ k, k < 64 → Good P w G mg base fa fd m k) (IX : ∀ p y, PinX G p y → ∀ k, k ∈ hotL → GoodX P w G mg base fa fd p y n k) : Good P w G mg base fa fd (n + 1) 6 := by
  show FnOk P w G.K mg base (L2N.CX P w) (n + 1) (fa 6) (fd 6) (["text"] : List Str) (spF G 1 (run (n + 1) 6))
  rw [run6]
  refine fn_ T.f6.fn sc6 rfl rfl fun cdv A outer s H E hr => ?_
  have hu := hr.units
  have hu1 := hu_of hr
  have tk : L2N.Takes (cxOf (L2N.CX P w) P w G.K mg base N6 "parse_amount" (defScope s6) (fa 6) cdv A outer s H E) (fun cls d _ H => E cls d H) := L2N.takes_of rfl rfl rfl rfl
  exact (seq_ (set_ (ps_set (i := 1) sc6.nd rfl (Or.inl rfl) (callI_ (pe_callS (IH 7 (by decide)) hr rfl (T.f7).mg (T.f7).kp (T.f7).bi (fun σ => L2N.passAt tk σ) (aC_ (v_ (pv 0)) aN_)))))
    (seq_ (sif_ (tgt_ (len_ rfl (pe_callB call_lenD' rfl T.n_len bt_len (pa_cons (v_ (pv 1)) pa_nil))) (gi_ rfl T.g_MOST_WORDS)) (one_ (raiseP T.X2 rfl rfl tk rfl T.gx_NotAllowed)) nil_)
    (seq_ (asg_ (ps_asg (callI_ (pe_callS (IH 8 (by decide)) hr rfl (T.f8).mg (T.f8).kp (T.f8).bi (fun σ => L2N.passAt tk σ) (aC_ (v_ (pv 1)) (aC_ ci_ aN_)))) (gT_ rfl (pg_tup rfl (gsC_ (pgs_cons (gN_ (pg_name (i := 2) sc6.nd rfl (Or.inl rfl))) (gsC_ (pgs_cons (gN_ (pg_name (i := 3) sc6.nd rfl (Or.inl rfl))) gsN_))))))))
    (seq_ (sif_ (tlt_ (v_ (pv 3)) (len_ rfl (pe_callB call_lenD' rfl T.n_len bt_len (pa_cons (v_ (pv 1)) pa_nil)))) (one_ (raiseG T.XI1 (T.xfl 1) (T.xno_at 1) (fun m => gx1 T m) (T.f0).bi hr rfl rfl tk rfl T.gx_BadText (v_ (pv 3)))) nil_)
    (one_ (rt_ (ps_ret (v_ (pv 2)))))))))
/-- split_words -/
theorem d7 {n : Nat} (T : Txt G w mg fa fd) (IH : ∀ k, k < 64 → Good P w G mg base fa fd n k) (IM : ∀ m, n = m + 1 → ∀ k, k < 64 → Good P w G mg base fa fd m k) (IX : ∀ p y, PinX G p y → ∀ k, k ∈ hotL → GoodX P w G mg base fa fd p y n k) : Good P w G mg base fa fd (n + 1) 7 := by
  show FnOk P w G.K mg base (L2N.CX P w) (n + 1) (fa 7) (fd 7) (["text"] : List Str) (spF G 1 (run (n + 1) 7))
  rw [run7]
  refine fn_ T.f7.fn sc7 rfl rfl fun cdv A outer s H E hr => ?_
  have hu := hr.units
  have hu1 := hu_of hr
  have tk : L2N.Takes (cxOf (L2N.CX P w) P w G.K mg base N7 "split_words" (defScope s7) (fa 7) cdv A outer s H E) (fun cls d _ H => E cls d H) := L2N.takes_of rfl rfl rfl rfl
  exact (one_ (rt_ (ps_ret (comp_ (pe_lc (own := [("word", 1)]) rfl sc7.nd (iL_ rfl (pi_list (strM_ rfl (pe_bm PySem.F.plainAttrs_str PySem.F.slot_str_split PySem.F.type_str_split mt_split (v_ (pv 0)) (pa_cons cs_ pa_nil)) snd_split))) (blkOk_by (N := N7) (sc := defScope s7) (by decide +kernel)) (fun _ _ _ _ _ => (gNw_ (by decide) (pg_name (i := 1) sc7.nd rfl (Or.inl rfl)))) (fun _ _ _ _ _ => (ts1_ (tne_ rfl hu (v_ (pv 1)) cs_))) (fun _ _ _ _ _ => (v_ (pv 1))))))))
/-- read_amount -/
theorem d8 {n : Nat} (T : Txt G w mg fa fd) (IH : ∀ k, k < 64 → Good P w G mg base fa fd n k) (IM : ∀ m, n = m + 1 → ∀ k, k < 64 → Good P w G mg base fa fd m k) (IX : ∀ p y, PinX G p y → ∀ k, k ∈ hotL → GoodX P w G mg base fa fd p y n k) : Good P w G mg base fa fd (n + 1) 8 := by
  obtain ⟨d_AMOUNTS, g_AMOUNTS, k_AMOUNTS⟩ := T.k_AMOUNTS
  show FnOk P w G.K mg base (L2N.CX P w) (n + 1) (fa 8) (fd 8) (["words", "at"] : List Str) (spF G 2 (run (n + 1) 8))
  rw [run8]
  refine fn_ T.f8.fn sc8 rfl rfl fun cdv A outer s H E hr => ?_
  have hu := hr.units
  have hu1 := hu_of hr
  have tk : L2N.Takes (cxOf (L2N.CX P w) P w G.K mg base N8 "read_amount" (defScope s8) (fa 8) cdv A outer s H E) (fun cls d _ H => E cls d H) := L2N.takes_of rfl rfl rfl rfl
  exact (seq_ (set_ (ps_set (i := 2) sc8.nd rfl (Or.inl rfl) (callI_ (pe_callS (IH 15 (by decide)) hr rfl (T.f15).mg (T.f15).kp (T.f15).bi (fun σ => L2N.passAt tk σ) (aC_ (v_ (pv 0)) (aC_ (v_ (pv 1)) aN_))))))
    (seq_ (sif_ (tval_ (callI_ (pe_callS (IH 5 (by decide)) hr rfl (T.f5).mg (T.f5).kp (T.f5).bi (fun σ => L2N.passAt tk σ) (aC_ (v_ (pv 2)) aN_)))) (one_ (rt_ (ps_ret (tup_ (aC_ (tup_ (aC_ cs_ (aC_ (int_ (pe_callTy call_intD rfl T.n_int bt_int (pa_cons (v_ (pv 2)) pa_nil))) aN_))) (aC_ (add_ rfl (v_ (pv 1)) ci_) aN_)))))) nil_)
    (seq_ (sif_ (teq_ rfl hu (v_ (pv 2)) cs_) (one_ (rt_ (ps_ret (callI_ (pe_callS (IH 10 (by decide)) hr rfl (T.f10).mg (T.f10).kp (T.f10).bi (fun σ => L2N.passAt tk σ) (aC_ (v_ (pv 0)) (aC_ (v_ (pv 1)) aN_))))))) nil_)
    (seq_ (sif_ (tknotin_ rfl rfl k_AMOUNTS rfl g_AMOUNTS (v_ (pv 2)) (by with_unfolding_all rfl)) (one_ (raiseG T.XI1 (T.xfl 1) (T.xno_at 1) (fun m => gx1 T m) (T.f0).bi hr rfl rfl tk rfl T.gx_BadText (v_ (pv 1)))) nil_)
    (one_ (rt_ (ps_ret (callI_ (pe_callS (IH 11 (by decide)) hr rfl (T.f11).mg (T.f11).kp (T.f11).bi (fun σ => L2N.passAt tk σ) (aC_ (v_ (pv 0)) (aC_ (v_ (pv 1)) (aC_ (kget_ rfl rfl k_AMOUNTS rfl g_AMOUNTS (v_ (pv 2)) (fun _ _ => rfl)) aN_))))))))))))
/-- read_condition -/
theorem d9 {n : Nat} (T : Txt G w mg fa fd) (IH : ∀ k, k < 64 → Good P w G mg base fa fd n k) (IM : ∀ m, n = m + 1 → ∀ k, k < 64 → Good P w G mg base fa fd m k) (IX : ∀ p y, PinX G p y → ∀ k, k ∈ hotL → GoodX P w G mg base fa fd p y n k) : Good P w G mg base fa fd (n + 1) 9 := by
  obtain ⟨d_CONDITIONS, g_CONDITIONS, k_CONDITIONS⟩ := T.k_CONDITIONS
  show FnOk P w G.K mg base (L2N.CX P w) (n + 1) (fa 9) (fd 9) (["words", "at"] : List Str) (spF G 2 (run (n + 1) 9))
  rw [run9]
  refine fn_ T.f9.fn sc9 rfl rfl fun cdv A outer s H E hr => ?_
  have hu := hr.units
  have hu1 := hu_of hr
  have tk : L2N.Takes (cxOf (L2N.CX P w) P w G.K mg base N9 "read_condition" (defScope s9) (fa 9) cdv A outer s H E) (fun cls d _ H => E cls d H) := L2N.takes_of rfl rfl rfl rfl
  exact (seq_ (set_ (ps_set (i := 2) sc9.nd rfl (Or.inl rfl) (callI_ (pe_callS (IH 15 (by decide)) hr rfl (T.f15).mg (T.f15).kp (T.f15).bi (fun σ => L2N.passAt tk σ) (aC_ (v_ (pv 0)) (aC_ (v_ (pv 1)) aN_))))))
    (seq_ (sif_ (tknotin_ rfl rfl k_CONDITIONS rfl g_CONDITIONS (v_ (pv 2)) (by with_unfolding_all rfl)) (one_ (raiseG T.XI1 (T.xfl 1) (T.xno_at 1) (fun m => gx1 T m) (T.f0).bi hr rfl rfl tk rfl T.gx_BadText (v_ (pv 1)))) nil_)
    (one_ (rt_ (ps_ret (callI_ (pe_callS (IH 11 (by decide)) hr rfl (T.f11).mg (T.f11).kp (T.f11).bi (fun σ => L2N.passAt tk σ) (aC_ (v_ (pv 0)) (aC_ (v_ (pv 1)) (aC_ (kget_ rfl rfl k_CONDITIONS rfl g_CONDITIONS (v_ (pv 2)) (fun _ _ => rfl)) aN_))))))))))
/-- read_fact -/
theorem d10 {n : Nat} (T : Txt G w mg fa fd) (IH : ∀ k, k < 64 → Good P w G mg base fa fd n k) (IM : ∀ m, n = m + 1 → ∀ k, k < 64 → Good P w G mg base fa fd m k) (IX : ∀ p y, PinX G p y → ∀ k, k ∈ hotL → GoodX P w G mg base fa fd p y n k) : Good P w G mg base fa fd (n + 1) 10 := by
  show FnOk P w G.K mg base (L2N.CX P w) (n + 1) (fa 10) (fd 10) (["words", "at"] : List Str) (spF G 2 (run (n + 1) 10))
  rw [run10]
  refine fn_ T.f10.fn sc10 rfl rfl fun cdv A outer s H E hr => ?_
  have hu := hr.units
  have hu1 := hu_of hr
  have tk : L2N.Takes (cxOf (L2N.CX P w) P w G.K mg base N10 "read_fact" (defScope s10) (fa 10) cdv A outer s H E) (fun cls d _ H => E cls d H) := L2N.takes_of rfl rfl rfl rfl
  exact (seq_ (asg_ (ps_asg (callI_ (pe_callS (IH 14 (by decide)) hr rfl (T.f14).mg (T.f14).kp (T.f14).bi (fun σ => L2N.passAt tk σ) (aC_ (v_ (pv 0)) (aC_ (add_ rfl (v_ (pv 1)) ci_) aN_)))) (gT_ rfl (pg_tup rfl (gsC_ (pgs_cons (gN_ (pg_name (i := 2) sc10.nd rfl (Or.inl rfl))) (gsC_ (pgs_cons (gN_ (pg_name (i := 3) sc10.nd rfl (Or.inl rfl))) gsN_))))))))
    (seq_ (sif_ (PW.pt (wor_ (teq_ rfl hu (v_ (pv 3)) (len_ rfl (pe_callB call_lenD' rfl T.n_len bt_len (pa_cons (v_ (pv 0)) pa_nil)))) (wor1_ (tne_ rfl hu (idx_ rfl (v_ (pv 0)) (v_ (pv 3)) (fun _ _ => rfl)) cs_)))) (one_ (rt_ (ps_ret (tup_ (aC_ (tup_ (aC_ cs_ (aC_ (v_ (pv 2)) (aC_ cn_ aN_)))) (aC_ (v_ (pv 3)) aN_)))))) nil_)
    (seq_ (asg_ (ps_asg (callI_ (pe_callS (IH 8 (by decide)) hr rfl (T.f8).mg (T.f8).kp (T.f8).bi (fun σ => L2N.passAt tk σ) (aC_ (v_ (pv 0)) (aC_ (add_ rfl (v_ (pv 3)) ci_) aN_)))) (gT_ rfl (pg_tup rfl (gsC_ (pgs_cons (gN_ (pg_name (i := 4) sc10.nd rfl (Or.inl rfl))) (gsC_ (pgs_cons (gN_ (pg_name (i := 3) sc10.nd rfl (Or.inl rfl))) gsN_))))))))
    (one_ (rt_ (ps_ret (tup_ (aC_ (tup_ (aC_ cs_ (aC_ (v_ (pv 2)) (aC_ (v_ (pv 4)) aN_)))) (aC_ (v_ (pv 3)) aN_)))))))))
/-- read_parts -/
theorem d11 {n : Nat} (T : Txt G w mg fa fd) (IH : ∀ k, k < 64 → Good P w G mg base fa fd n k) (IM : ∀ m, n = m + 1 → ∀ k, k < 64 → Good P w G mg base fa fd m k) (IX : ∀ p y, PinX G p y → ∀ k, k ∈ hotL → GoodX P w G mg base fa fd p y n k) : Good P w G mg base fa fd (n + 1) 11 := by
  show FnOk P w G.K mg base (L2N.CX P w) (n + 1) (fa 11) (fd 11) (["words", "at", "kinds"] : List Str) (spF G 3 (run (n + 1) 11))
  rw [run11]
  refine fn_ T.f11.fn sc11 rfl rfl fun cdv A outer s H E hr => ?_
  have hu := hr.units
  have hu1 := hu_of hr
  have tk : L2N.Takes (cxOf (L2N.CX P w) P w G.K mg base N11 "read_parts" (defScope s11) (fa 11) cdv A outer s H E) (fun cls d _ H => E cls d H) := L2N.takes_of rfl rfl rfl rfl
  exact (seq_ (set_ (ps_set (i := 3) sc11.nd rfl (Or.inl rfl) (lstO_ (aC_ (idx_ rfl (v_ (pv 0)) (v_ (pv 1)) (fun _ _ => rfl)) aN_))))
    (seq_ (set_ (ps_set (i := 4) sc11.nd rfl (Or.inl rfl) (add_ rfl (v_ (pv 1)) ci_)))
    (seq_ (for_ (ps_for (passes_of rfl) rfl (iT_ rfl (pi_tup (v_ (pv 2)))) (gN_ (pg_name (i := 5) sc11.nd rfl (Or.inl rfl))) (seq_ (asg_ (ps_asg (callI_ (pe_callS (IH 12 (by decide)) hr rfl (T.f12).mg (T.f12).kp (T.f12).bi (fun σ => L2N.passAt tk σ) (aC_ (v_ (pv 0)) (aC_ (v_ (pv 4)) (aC_ (v_ (pv 5)) aN_))))) (gT_ rfl (pg_tup rfl (gsC_ (pgs_cons (gN_ (pg_name (i := 6) sc11.nd rfl (Or.inl rfl))) (gsC_ (pgs_cons (gN_ (pg_name (i := 4) sc11.nd rfl (Or.inl rfl))) gsN_))))))))
    (one_ (ex_ (ps_expr (append_ rfl (pe_bm PySem.F.plainAttrs_list PySem.F.slot_list_append PySem.F.type_list_append mt_append (v_ (pv 3)) (pa_cons (v_ (pv 6)) pa_nil)))))))))
    (one_ (rt_ (ps_ret (tup_ (aC_ (tuple_ rfl (pe_callTy call_tuple_of rfl T.n_tuple bt_tuple (pa_cons (v_ (pv 3)) pa_nil))) (aC_ (v_ (pv 4)) aN_)))))))))
/-- read_part -/
theorem d12 {n : Nat} (T : Txt G w mg fa fd) (IH : ∀ k, k < 64 → Good P w G mg base fa fd n k) (IM : ∀ m, n = m + 1 → ∀ k, k < 64 → Good P w G mg base fa fd m k) (IX : ∀ p y, PinX G p y → ∀ k, k ∈ hotL → GoodX P w G mg base fa fd p y n k) : Good P w G mg base fa fd (n + 1) 12 := by
  show FnOk P w G.K mg base (L2N.CX P w) (n + 1) (fa 12) (fd 12) (["words", "at", "kind"] : List Str) (spF G 3 (run (n + 1) 12))
  rw [run12]
  refine fn_ T.f12.fn sc12 rfl rfl fun cdv A outer s H E hr => ?_
  have hu := hr.units
  have hu1 := hu_of hr
  have tk : L2N.Takes (cxOf (L2N.CX P w) P w G.K mg base N12 "read_part" (defScope s12) (fa 12) cdv A outer s H E) (fun cls d _ H => E cls d H) := L2N.takes_of rfl rfl rfl rfl
  exact (seq_ (sif_ (teq_ rfl hu (v_ (pv 2)) cs_) (one_ (rt_ (ps_ret (callI_ (pe_callS (IH 8 (by decide)) hr rfl (T.f8).mg (T.f8).kp (T.f8).bi (fun σ => L2N.passAt tk σ) (aC_ (v_ (pv 0)) (aC_ (v_ (pv 1)) aN_))))))) nil_)
    (seq_ (sif_ (teq_ rfl hu (v_ (pv 2)) cs_) (one_ (rt_ (ps_ret (callI_ (pe_callS (IH 9 (by decide)) hr rfl (T.f9).mg (T.f9).kp (T.f9).bi (fun σ => L2N.passAt tk σ) (aC_ (v_ (pv 0)) (aC_ (v_ (pv 1)) aN_))))))) nil_)
    (seq_ (sif_ (teq_ rfl hu (v_ (pv 2)) cs_) (one_ (rt_ (ps_ret (callI_ (pe_callS (IH 13 (by decide)) hr rfl (T.f13).mg (T.f13).kp (T.f13).bi (fun σ => L2N.passAt tk σ) (aC_ (v_ (pv 0)) (aC_ (v_ (pv 1)) aN_))))))) nil_)
    (one_ (rt_ (ps_ret (callI_ (pe_callS (IH 14 (by decide)) hr rfl (T.f14).mg (T.f14).kp (T.f14).bi (fun σ => L2N.passAt tk σ) (aC_ (v_ (pv 0)) (aC_ (v_ (pv 1)) aN_))))))))))
/-- read_hundredths -/
theorem d13 {n : Nat} (T : Txt G w mg fa fd) (IH : ∀ k, k < 64 → Good P w G mg base fa fd n k) (IM : ∀ m, n = m + 1 → ∀ k, k < 64 → Good P w G mg base fa fd m k) (IX : ∀ p y, PinX G p y → ∀ k, k ∈ hotL → GoodX P w G mg base fa fd p y n k) : Good P w G mg base fa fd (n + 1) 13 := by
  show FnOk P w G.K mg base (L2N.CX P w) (n + 1) (fa 13) (fd 13) (["words", "at"] : List Str) (spF G 2 (run (n + 1) 13))
  rw [run13]
  refine fn_ T.f13.fn sc13 rfl rfl fun cdv A outer s H E hr => ?_
  have hu := hr.units
  have hu1 := hu_of hr
  have tk : L2N.Takes (cxOf (L2N.CX P w) P w G.K mg base N13 "read_hundredths" (defScope s13) (fa 13) cdv A outer s H E) (fun cls d _ H => E cls d H) := L2N.takes_of rfl rfl rfl rfl
  exact (seq_ (set_ (ps_set (i := 2) sc13.nd rfl (Or.inl rfl) (callI_ (pe_callS (IH 15 (by decide)) hr rfl (T.f15).mg (T.f15).kp (T.f15).bi (fun σ => L2N.passAt tk σ) (aC_ (v_ (pv 0)) (aC_ (v_ (pv 1)) aN_))))))
    (seq_ (sif_ (PW.pt (wor_ (tnot_ (tval_ (callI_ (pe_callS (IH 5 (by decide)) hr rfl (T.f5).mg (T.f5).kp (T.f5).bi (fun σ => L2N.passAt tk σ) (aC_ (v_ (pv 2)) aN_))))) (wor1_ (tnot_ (tchain_ op_le op_le (snd_I0 fun _ _ _ _ => rfl) (snd_I0 fun _ _ _ _ => rfl) ci_ (int_ (pe_callTy call_intD rfl T.n_int bt_int (pa_cons (v_ (pv 2)) pa_nil))) (gi_ rfl T.g_MOST_PERCENT)))))) (one_ (raiseG T.XI1 (T.xfl 1) (T.xno_at 1) (fun m => gx1 T m) (T.f0).bi hr rfl rfl tk rfl T.gx_BadText (v_ (pv 1)))) nil_)
    (one_ (rt_ (ps_ret (tup_ (aC_ (int_ (pe_callTy call_intD rfl T.n_int bt_int (pa_cons (v_ (pv 2)) pa_nil))) (aC_ (add_ rfl (v_ (pv 1)) ci_) aN_))))))))
/-- read_name -/
theorem d14 {n : Nat} (T : Txt G w mg fa fd) (IH : ∀ k, k < 64 → Good P w G mg base fa fd n k) (IM : ∀ m, n = m + 1 → ∀ k, k < 64 → Good P w G mg base fa fd m k) (IX : ∀ p y, PinX G p y → ∀ k, k ∈ hotL → GoodX P w G mg base fa fd p y n k) : Good P w G mg base fa fd (n + 1) 14 := by
  show FnOk P w G.K mg base (L2N.CX P w) (n + 1) (fa 14) (fd 14) (["words", "at"] : List Str) (spF G 2 (run (n + 1) 14))
  rw [run14]
  refine fn_ T.f14.fn sc14 rfl rfl fun cdv A outer s H E hr => ?_
  have hu := hr.units
  have hu1 := hu_of hr
  have tk : L2N.Takes (cxOf (L2N.CX P w) P w G.K mg base N14 "read_name" (defScope s14) (fa 14) cdv A outer s H E) (fun cls d _ H => E cls d H) := L2N.takes_of rfl rfl rfl rfl
  exact (seq_ (set_ (ps_set (i := 2) sc14.nd rfl (Or.inl rfl) (callI_ (pe_callS (IH 15 (by decide)) hr rfl (T.f15).mg (T.f15).kp (T.f15).bi (fun σ => L2N.passAt tk σ) (aC_ (v_ (pv 0)) (aC_ (v_ (pv 1)) aN_))))))
    (seq_ (sif_ (tnot_ (tval_ (callI_ (pe_callS (IH 1 (by decide)) hr rfl (T.f1).mg (T.f1).kp (T.f1).bi (fun σ => L2N.passAt tk σ) (aC_ (v_ (pv 2)) aN_))))) (one_ (raiseG T.XI1 (T.xfl 1) (T.xno_at 1) (fun m => gx1 T m) (T.f0).bi hr rfl rfl tk rfl T.gx_BadText (v_ (pv 1)))) nil_)
    (one_ (rt_ (ps_ret (tup_ (aC_ (v_ (pv 2)) (aC_ (add_ rfl (v_ (pv 1)) ci_) aN_))))))))
/-- word_at -/
theorem d15 {n : Nat} (T : Txt G w mg fa fd) (IH : ∀ k, k < 64 → Good P w G mg base fa fd n k) (IM : ∀ m, n = m + 1 → ∀ k, k < 64 → Good P w G mg base fa fd m k) (IX : ∀ p y, PinX G p y → ∀ k, k ∈ hotL → GoodX P w G mg base fa fd p y n k) : Good P w G mg base fa fd (n + 1) 15 := by
  show FnOk P w G.K mg base (L2N.CX P w) (n + 1) (fa 15) (fd 15) (["words", "at"] : List Str) (spF G 2 (run (n + 1) 15))
  rw [run15]
  refine fn_ T.f15.fn sc15 rfl rfl fun cdv A outer s H E hr => ?_
  have hu := hr.units
  have hu1 := hu_of hr
  have tk : L2N.Takes (cxOf (L2N.CX P w) P w G.K mg base N15 "word_at" (defScope s15) (fa 15) cdv A outer s H E) (fun cls d _ H => E cls d H) := L2N.takes_of rfl rfl rfl rfl
  exact (seq_ (sif_ (teq_ rfl hu (v_ (pv 1)) (len_ rfl (pe_callB call_lenD' rfl T.n_len bt_len (pa_cons (v_ (pv 0)) pa_nil)))) (one_ (raiseG T.XI1 (T.xfl 1) (T.xno_at 1) (fun m => gx1 T m) (T.f0).bi hr rfl rfl tk rfl T.gx_BadText (v_ (pv 1)))) nil_)
    (one_ (rt_ (ps_ret (idx_ rfl (v_ (pv 0)) (v_ (pv 1)) (fun _ _ => rfl))))))
/-- Book.__init__ -/
theorem d16 {n : Nat} (T : Txt G w mg fa fd) (IH : ∀ k, k < 64 → Good P w G mg base fa fd n k) (IM : ∀ m, n = m + 1 → ∀ k, k < 64 → Good P w G mg base fa fd m k) (IX : ∀ p y, PinX G p y → ∀ k, k ∈ hotL → GoodX P w G mg base fa fd p y n k) : Good P w G mg base fa fd (n + 1) 16 := by
  show FnOk P w G.K mg base (L2N.CX P w) (n + 1) (fa 16) (fd 16) (["self"] : List Str) (spF G 1 (run (n + 1) 16))
  rw [run16]
  refine fn_ T.f16.fn sc16 rfl rfl fun cdv A outer s H E hr => ?_
  have hu := hr.units
  have hu1 := hu_of hr
  have tk : L2N.Takes (cxOf (L2N.CX P w) P w G.K mg base N16 "Book.__init__" (defScope s16) (fa 16) cdv A outer s H E) (fun cls d _ H => E cls d H) := L2N.takes_of rfl rfl rfl rfl
  exact (seq_ (setF_ rfl T.C0 (by rw [T.F0]; rfl) (ps_fld (v_ (pv 0)) (lstO_ aN_) rfl))
    (seq_ (setF_ rfl T.C0 (by rw [T.F0]; rfl) (ps_fld (v_ (pv 0)) (dicO_ pe_dnewK) rfl))
    (one_ (setF_ rfl T.C0 (by rw [T.F0]; rfl) (ps_fld (v_ (pv 0)) (dicO_ pe_dnewK) rfl)))))
/-- Book.enter -/
theorem d17 {n : Nat} (T : Txt G w mg fa fd) (IH : ∀ k, k < 64 → Good P w G mg base fa fd n k) (IM : ∀ m, n = m + 1 → ∀ k, k < 64 → Good P w G mg base fa fd m k) (IX : ∀ p y, PinX G p y → ∀ k, k ∈ hotL → GoodX P w G mg base fa fd p y n k) : Good P w G mg base fa fd (n + 1) 17 := by
  show FnOk P w G.K mg base (L2N.CX P w) (n + 1) (fa 17) (fd 17) (["self", "entry"] : List Str) (spF G 2 (run (n + 1) 17))
  rw [run17]
  refine fn_ T.f17.fn sc17 rfl rfl fun cdv A outer s H E hr => ?_
  have hu := hr.units
  have hu1 := hu_of hr
  have tk : L2N.Takes (cxOf (L2N.CX P w) P w G.K mg base N17 "Book.enter" (defScope s17) (fa 17) cdv A outer s H E) (fun cls d _ H => E cls d H) := L2N.takes_of rfl rfl rfl rfl
  exact (seq_ (ex_ (ps_expr (meth_ T.C0 (by rw [T.F0]; decide) (pe_methW (v_ (pv 0)) (T.C0).cl (T.f19).mt (IH 19 (by decide)) hr (T.f19).bi (fun σ => L2N.passAt tk σ) (aC_ (idx_ rfl (v_ (pv 1)) ci_ (fun _ _ => rfl)) aN_)))))
    (seq_ (sif_ (teq_ rfl hu (idx_ rfl (v_ (pv 1)) ci_ (fun _ _ => rfl)) cs_) (one_ (ex_ (ps_expr (callI_ (pe_callS (IH 21 (by decide)) hr rfl (T.f21).mg (T.f21).kp (T.f21).bi (fun σ => L2N.passAt tk σ) (aC_ (v_ (pv 1)) aN_)))))) (one_ (sif_ (teq_ rfl hu (idx_ rfl (v_ (pv 1)) ci_ (fun _ _ => rfl)) cs_) (one_ (putdic_ (ps_dput hu1 (fld_ rfl T.C0 (by rw [T.F0]; rfl) (pe_fld (v_ (pv 0)) rfl)) (len_ rfl (pe_callB call_lenD' rfl T.n_len bt_len (pa_cons (fld_ rfl T.C0 (by rw [T.F0]; rfl) (pe_fld (v_ (pv 0)) rfl)) pa_nil))) (callI_ (pe_callS (IH 22 (by decide)) hr rfl (T.f22).mg (T.f22).kp (T.f22).bi (fun σ => L2N.passAt tk σ) (aC_ (v_ (pv 1)) aN_))) rfl))) (seq_ (ex_ (ps_expr (meth_ T.C0 (by rw [T.F0]; decide) (pe_methW (v_ (pv 0)) (T.C0).cl (T.f20).mt (IH 20 (by decide)) hr (T.f20).bi (fun σ => L2N.passAt tk σ) (aC_ (idx_ rfl (v_ (pv 1)) ci_ (fun _ _ => rfl)) aN_)))))
    (one_ (putdic_ (ps_dput hu1 (fld_ rfl T.C0 (by rw [T.F0]; rfl) (pe_fld (v_ (pv 0)) rfl)) (idx_ rfl (v_ (pv 1)) ci_ (fun _ _ => rfl)) (idx_ rfl (v_ (pv 1)) ci_ (fun _ _ => rfl)) rfl)))))))
    (one_ (ex_ (ps_expr (append_ rfl (pe_bm PySem.F.plainAttrs_list PySem.F.slot_list_append PySem.F.type_list_append mt_append (fld_ rfl T.C0 (by rw [T.F0]; rfl) (pe_fld (v_ (pv 0)) rfl)) (pa_cons (tuple_ rfl (pe_callTy call_tuple_of rfl T.n_tuple bt_tuple (pa_cons (v_ (pv 1)) pa_nil))) pa_nil))))))))
/-- Book.entries -/
theorem d18 {n : Nat} (T : Txt G w mg fa fd) (IH : ∀ k, k < 64 → Good P w G mg base fa fd n k) (IM : ∀ m, n = m + 1 → ∀ k, k < 64 → Good P w G mg base fa fd m k) (IX : ∀ p y, PinX G p y → ∀ k, k ∈ hotL → GoodX P w G mg base fa fd p y n k) : Good P w G mg base fa fd (n + 1) 18 := by
  show FnOk P w G.K mg base (L2N.CX P w) (n + 1) (fa 18) (fd 18) (["self"] : List Str) (spF G 1 (run (n + 1) 18))
  rw [run18]
  refine fn_ T.f18.fn sc18 rfl rfl fun cdv A outer s H E hr => ?_
  have hu := hr.units
  have hu1 := hu_of hr
  have tk : L2N.Takes (cxOf (L2N.CX P w) P w G.K mg base N18 "Book.entries" (defScope s18) (fa 18) cdv A outer s H E) (fun cls d _ H => E cls d H) := L2N.takes_of rfl rfl rfl rfl
  exact (one_ (rt_ (ps_ret (list_ rfl (pe_callTy call_list_of rfl T.n_list bt_list (pa_cons (fld_ rfl T.C0 (by rw [T.F0]; rfl) (pe_fld (v_ (pv 0)) rfl)) pa_nil))))))
/-- Book._check_turn -/
theorem d19 {n : Nat} (T : Txt G w mg fa fd) (IH : ∀ k, k < 64 → Good P w G mg base fa fd n k) (IM : ∀ m, n = m + 1 → ∀ k, k < 64 → Good P w G mg base fa fd m k) (IX : ∀ p y, PinX G p y → ∀ k, k ∈ hotL → GoodX P w G mg base fa fd p y n k) : Good P w G mg base fa fd (n + 1) 19 := by
  show FnOk P w G.K mg base (L2N.CX P w) (n + 1) (fa 19) (fd 19) (["self", "came"] : List Str) (spF G 2 (run (n + 1) 19))
  rw [run19]
  refine fn_ T.f19.fn sc19 rfl rfl fun cdv A outer s H E hr => ?_
  have hu := hr.units
  have hu1 := hu_of hr
  have tk : L2N.Takes (cxOf (L2N.CX P w) P w G.K mg base N19 "Book._check_turn" (defScope s19) (fa 19) cdv A outer s H E) (fun cls d _ H => E cls d H) := L2N.takes_of rfl rfl rfl rfl
  exact (seq_ (sif_ (tge_ (len_ rfl (pe_callB call_lenD' rfl T.n_len bt_len (pa_cons (fld_ rfl T.C0 (by rw [T.F0]; rfl) (pe_fld (v_ (pv 0)) rfl)) pa_nil))) (gi_ rfl T.g_MOST_ENTRIES)) (one_ (raiseP T.X2 rfl rfl tk rfl T.gx_NotAllowed)) nil_)
    (seq_ (sif_ (tnot_ (tval_ (callI_ (pe_callS (IH 2 (by decide)) hr rfl (T.f2).mg (T.f2).kp (T.f2).bi (fun σ => L2N.passAt tk σ) (aC_ (v_ (pv 1)) aN_))))) (one_ (raiseP T.X2 rfl rfl tk rfl T.gx_NotAllowed)) nil_)
    (one_ (sif_ (PW.pt (wand_ (ttru_ rfl (fld_ rfl T.C0 (by rw [T.F0]; rfl) (pe_fld (v_ (pv 0)) rfl))) (wand1_ (tlt_ (v_ (pv 1)) (idx_ rfl (idx_ rfl (fld_ rfl T.C0 (by rw [T.F0]; rfl) (pe_fld (v_ (pv 0)) rfl)) (neg_ ci_) (fun _ _ => rfl)) ci_ (fun _ _ => rfl)))))) (one_ (raiseP T.X2 rfl rfl tk rfl T.gx_NotAllowed)) nil_))))
/-- Book._check_strike -/
theorem d20 {n : Nat} (T : Txt G w mg fa fd) (IH : ∀ k, k < 64 → Good P w G mg base fa fd n k) (IM : ∀ m, n = m + 1 → ∀ k, k < 64 → Good P w G mg base fa fd m k) (IX : ∀ p y, PinX G p y → ∀ k, k ∈ hotL → GoodX P w G mg base fa fd p y n k) : Good P w G mg base fa fd (n + 1) 20 := by
  show FnOk P w G.K mg base (L2N.CX P w) (n + 1) (fa 20) (fd 20) (["self", "index"] : List Str) (spF G 2 (run (n + 1) 20))
  rw [run20]
  refine fn_ T.f20.fn sc20 rfl rfl fun cdv A outer s H E hr => ?_
  have hu := hr.units
  have hu1 := hu_of hr
  have tk : L2N.Takes (cxOf (L2N.CX P w) P w G.K mg base N20 "Book._check_strike" (defScope s20) (fa 20) cdv A outer s H E) (fun cls d _ H => E cls d H) := L2N.takes_of rfl rfl rfl rfl
  exact (seq_ (sif_ (tnot_ (tchain_ op_le op_lt (snd_I0 fun _ _ _ _ => rfl) (snd_I0 fun _ _ _ _ => rfl) ci_ (v_ (pv 1)) (len_ rfl (pe_callB call_lenD' rfl T.n_len bt_len (pa_cons (fld_ rfl T.C0 (by rw [T.F0]; rfl) (pe_fld (v_ (pv 0)) rfl)) pa_nil))))) (one_ (raiseP T.X2 rfl rfl tk rfl T.gx_NotAllowed)) nil_)
    (seq_ (sif_ (teq_ rfl hu (idx_ rfl (idx_ rfl (fld_ rfl T.C0 (by rw [T.F0]; rfl) (pe_fld (v_ (pv 0)) rfl)) (v_ (pv 1)) (fun _ _ => rfl)) ci_ (fun _ _ => rfl)) cs_) (one_ (raiseP T.X2 rfl rfl tk rfl T.gx_NotAllowed)) nil_)
    (one_ (sif_ (tdin_ hu1 (v_ (pv 1)) (fld_ rfl T.C0 (by rw [T.F0]; rfl) (pe_fld (v_ (pv 0)) rfl)) (by with_unfolding_all rfl)) (one_ (raiseP T.X2 rfl rfl tk rfl T.gx_NotAllowed)) nil_))))
/-- check_report -/
theorem d21 {n : Nat} (T : Txt G w mg fa fd) (IH : ∀ k, k < 64 → Good P w G mg base fa fd n k) (IM : ∀ m, n = m + 1 → ∀ k, k < 64 → Good P w G mg base fa fd m k) (IX : ∀ p y, PinX G p y → ∀ k, k ∈ hotL → GoodX P w G mg base fa fd p y n k) : Good P w G mg base fa fd (n + 1) 21 := by
  show FnOk P w G.K mg base (L2N.CX P w) (n + 1) (fa 21) (fd 21) (["entry"] : List Str) (spF G 1 (run (n + 1) 21))
  rw [run21]
  refine fn_ T.f21.fn sc21 rfl rfl fun cdv A outer s H E hr => ?_
  have hu := hr.units
  have hu1 := hu_of hr
  have tk : L2N.Takes (cxOf (L2N.CX P w) P w G.K mg base N21 "check_report" (defScope s21) (fa 21) cdv A outer s H E) (fun cls d _ H => E cls d H) := L2N.takes_of rfl rfl rfl rfl
  exact (seq_ (asg_ (ps_asg (sl_ rfl (v_ (pv 0)) (oE_ ci_) oN_) (gT_ rfl (pg_tup rfl (gsC_ (pgs_cons (gN_ (pg_name (i := 1) sc21.nd rfl (Or.inl rfl))) (gsC_ (pgs_cons (gN_ (pg_name (i := 2) sc21.nd rfl (Or.inl rfl))) (gsC_ (pgs_cons (gN_ (pg_name (i := 3) sc21.nd rfl (Or.inl rfl))) (gsC_ (pgs_cons (gN_ (pg_name (i := 4) sc21.nd rfl (Or.inl rfl))) gsN_))))))))))))
    (seq_ (sif_ (PW.pt (wor_ (tnot_ (tval_ (callI_ (pe_callS (IH 1 (by decide)) hr rfl (T.f1).mg (T.f1).kp (T.f1).bi (fun σ => L2N.passAt tk σ) (aC_ (v_ (pv 1)) aN_))))) (wor1_ (tnot_ (tval_ (callI_ (pe_callS (IH 1 (by decide)) hr rfl (T.f1).mg (T.f1).kp (T.f1).bi (fun σ => L2N.passAt tk σ) (aC_ (v_ (pv 2)) aN_)))))))) (one_ (raiseP T.X2 rfl rfl tk rfl T.gx_NotAllowed)) nil_)
    (seq_ (sif_ (tnot_ (tval_ (callI_ (pe_callS (IH 4 (by decide)) hr rfl (T.f4).mg (T.f4).kp (T.f4).bi (fun σ => L2N.passAt tk σ) (aC_ (v_ (pv 3)) aN_))))) (one_ (raiseP T.X2 rfl rfl tk rfl T.gx_NotAllowed)) nil_)
    (one_ (ex_ (ps_expr (callI_ (pe_callS (IH 23 (by decide)) hr rfl (T.f23).mg (T.f23).kp (T.f23).bi (fun σ => L2N.passAt tk σ) (aC_ (v_ (pv 4)) aN_)))))))))
/-- checked_amount -/
theorem d22 {n : Nat} (T : Txt G w mg fa fd) (IH : ∀ k, k < 64 → Good P w G mg base fa fd n k) (IM : ∀ m, n = m + 1 → ∀ k, k < 64 → Good P w G mg base fa fd m k) (IX : ∀ p y, PinX G p y → ∀ k, k ∈ hotL → GoodX P w G mg base fa fd p y n k) : Good P w G mg base fa fd (n + 1) 22 := by
  show FnOk P w G.K mg base (L2N.CX P w) (n + 1) (fa 22) (fd 22) (["entry"] : List Str) (spF G 1 (run (n + 1) 22))
  rw [run22]
  refine fn_ T.f22.fn sc22 rfl rfl fun cdv A outer s H E hr => ?_
  have hu := hr.units
  have hu1 := hu_of hr
  have tk : L2N.Takes (cxOf (L2N.CX P w) P w G.K mg base N22 "checked_amount" (defScope s22) (fa 22) cdv A outer s H E) (fun cls d _ H => E cls d H) := L2N.takes_of rfl rfl rfl rfl
  exact (seq_ (asg_ (ps_asg (sl_ rfl (v_ (pv 0)) (oE_ ci_) oN_) (gT_ rfl (pg_tup rfl (gsC_ (pgs_cons (gN_ (pg_name (i := 1) sc22.nd rfl (Or.inl rfl))) (gsC_ (pgs_cons (gN_ (pg_name (i := 2) sc22.nd rfl (Or.inl rfl))) (gsC_ (pgs_cons (gN_ (pg_name (i := 3) sc22.nd rfl (Or.inl rfl))) gsN_))))))))))
    (seq_ (sif_ (tnot_ (tval_ (callI_ (pe_callS (IH 1 (by decide)) hr rfl (T.f1).mg (T.f1).kp (T.f1).bi (fun σ => L2N.passAt tk σ) (aC_ (v_ (pv 1)) aN_))))) (one_ (raiseP T.X2 rfl rfl tk rfl T.gx_NotAllowed)) nil_)
    (seq_ (set_ (ps_set (i := 4) sc22.nd rfl (Or.inl rfl) (callI_ (pe_callS (IH 6 (by decide)) hr rfl (T.f6).mg (T.f6).kp (T.f6).bi (fun σ => L2N.passAt tk σ) (aC_ (v_ (pv 2)) aN_)))))
    (seq_ (ex_ (ps_expr (callI_ (pe_callS (IH 23 (by decide)) hr rfl (T.f23).mg (T.f23).kp (T.f23).bi (fun σ => L2N.passAt tk σ) (aC_ (v_ (pv 3)) aN_)))))
    (one_ (rt_ (ps_ret (v_ (pv 4)))))))))
/-- check_span -/
theorem d23 {n : Nat} (T : Txt G w mg fa fd) (IH : ∀ k, k < 64 → Good P w G mg base fa fd n k) (IM : ∀ m, n = m + 1 → ∀ k, k < 64 → Good P w G mg base fa fd m k) (IX : ∀ p y, PinX G p y → ∀ k, k ∈ hotL → GoodX P w G mg base fa fd p y n k) : Good P w G mg base fa fd (n + 1) 23 := by
  show FnOk P w G.K mg base (L2N.CX P w) (n + 1) (fa 23) (fd 23) (["span"] : List Str) (spF G 1 (run (n + 1) 23))
  rw [run23]
  refine fn_ T.f23.fn sc23 rfl rfl fun cdv A outer s H E hr => ?_
  have hu := hr.units
  have hu1 := hu_of hr
  have tk : L2N.Takes (cxOf (L2N.CX P w) P w G.K mg base N23 "check_span" (defScope s23) (fa 23) cdv A outer s H E) (fun cls d _ H => E cls d H) := L2N.takes_of rfl rfl rfl rfl
  exact (one_ (sif_ (tnot_ (tval_ (callI_ (pe_callS (IH 3 (by decide)) hr rfl (T.f3).mg (T.f3).kp (T.f3).bi (fun σ => L2N.passAt tk σ) (aC_ (v_ (pv 0)) aN_))))) (one_ (raiseP T.X2 rfl rfl tk rfl T.gx_NotAllowed)) nil_))
/-- stands -/
theorem d24 {n : Nat} (T : Txt G w mg fa fd) (IH : ∀ k, k < 64 → Good P w G mg base fa fd n k) (IM : ∀ m, n = m + 1 → ∀ k, k < 64 → Good P w G mg base fa fd m k) (IX : ∀ p y, PinX G p y → ∀ k, k ∈ hotL → GoodX P w G mg base fa fd p y n k) : Good P w G mg base fa fd (n + 1) 24 := by
  show FnOk P w G.K mg base (L2N.CX P w) (n + 1) (fa 24) (fd 24) (["book", "index", "known"] : List Str) (spF G 3 (run (n + 1) 24))
  rw [run24]
  refine fn_ T.f24.fn sc24 rfl rfl fun cdv A outer s H E hr => ?_
  have hu := hr.units
  have hu1 := hu_of hr
  have tk : L2N.Takes (cxOf (L2N.CX P w) P w G.K mg base N24 "stands" (defScope s24) (fa 24) cdv A outer s H E) (fun cls d _ H => E cls d H) := L2N.takes_of rfl rfl rfl rfl
  exact (seq_ bad_ (seq_ bad_ (seq_ bad_ (one_ bad_))))
/-- fact_at -/
theorem d25 {n : Nat} (T : Txt G w mg fa fd) (IH : ∀ k, k < 64 → Good P w G mg base fa fd n k) (IM : ∀ m, n = m + 1 → ∀ k, k < 64 → Good P w G mg base fa fd m k) (IX : ∀ p y, PinX G p y → ∀ k, k ∈ hotL → GoodX P w G mg base fa fd p y n k) : Good P w G mg base fa fd (n + 1) 25 := by
  show FnOk P w G.K mg base (L2N.CX P w) (n + 1) (fa 25) (fd 25) (["book", "person", "fact", "day", "known"] : List Str) (spF G 5 (run (n + 1) 25))
  rw [run25]
  refine fn_ T.f25.fn sc25 rfl rfl fun cdv A outer s H E hr => ?_
  have hu := hr.units
  have hu1 := hu_of hr
  have tk : L2N.Takes (cxOf (L2N.CX P w) P w G.K mg base N25 "fact_at" (defScope s25) (fa 25) cdv A outer s H E) (fun cls d _ H => E cls d H) := L2N.takes_of rfl rfl rfl rfl
  exact (seq_ bad_ (one_ bad_))
/-- rule_at -/
theorem d26 {n : Nat} (T : Txt G w mg fa fd) (IH : ∀ k, k < 64 → Good P w G mg base fa fd n k) (IM : ∀ m, n = m + 1 → ∀ k, k < 64 → Good P w G mg base fa fd m k) (IX : ∀ p y, PinX G p y → ∀ k, k ∈ hotL → GoodX P w G mg base fa fd p y n k) : Good P w G mg base fa fd (n + 1) 26 := by
  show FnOk P w G.K mg base (L2N.CX P w) (n + 1) (fa 26) (fd 26) (["book", "rule", "day", "known"] : List Str) (spF G 4 (run (n + 1) 26))
  rw [run26]
  refine fn_ T.f26.fn sc26 rfl rfl fun cdv A outer s H E hr => ?_
  have hu := hr.units
  have hu1 := hu_of hr
  have tk : L2N.Takes (cxOf (L2N.CX P w) P w G.K mg base N26 "rule_at" (defScope s26) (fa 26) cdv A outer s H E) (fun cls d _ H => E cls d H) := L2N.takes_of rfl rfl rfl rfl
  exact (seq_ bad_ (one_ bad_))
/-- holds -/
theorem d27 {n : Nat} (T : Txt G w mg fa fd) (IH : ∀ k, k < 64 → Good P w G mg base fa fd n k) (IM : ∀ m, n = m + 1 → ∀ k, k < 64 → Good P w G mg base fa fd m k) (IX : ∀ p y, PinX G p y → ∀ k, k ∈ hotL → GoodX P w G mg base fa fd p y n k) : Good P w G mg base fa fd (n + 1) 27 := by
  show FnOk P w G.K mg base (L2N.CX P w) (n + 1) (fa 27) (fd 27) (["book", "index", "day", "known"] : List Str) (spF G 4 (run (n + 1) 27))
  rw [run27]
  refine fn_ T.f27.fn sc27 rfl rfl fun cdv A outer s H E hr => ?_
  have hu := hr.units
  have hu1 := hu_of hr
  have tk : L2N.Takes (cxOf (L2N.CX P w) P w G.K mg base N27 "holds" (defScope s27) (fa 27) cdv A outer s H E) (fun cls d _ H => E cls d H) := L2N.takes_of rfl rfl rfl rfl
  exact (seq_ bad_ (one_ bad_))
/-- value_of -/
theorem d28 {n : Nat} (T : Txt G w mg fa fd) (IH : ∀ k, k < 64 → Good P w G mg base fa fd n k) (IM : ∀ m, n = m + 1 → ∀ k, k < 64 → Good P w G mg base fa fd m k) (IX : ∀ p y, PinX G p y → ∀ k, k ∈ hotL → GoodX P w G mg base fa fd p y n k) : Good P w G mg base fa fd (n + 1) 28 := by
  show FnOk P w G.K mg base (L2N.CX P w) (n + 1) (fa 28) (fd 28) (["book", "index"] : List Str) (spF G 2 (run (n + 1) 28))
  rw [run28]
  refine fn_ T.f28.fn sc28 rfl rfl fun cdv A outer s H E hr => ?_
  have hu := hr.units
  have hu1 := hu_of hr
  have tk : L2N.Takes (cxOf (L2N.CX P w) P w G.K mg base N28 "value_of" (defScope s28) (fa 28) cdv A outer s H E) (fun cls d _ H => E cls d H) := L2N.takes_of rfl rfl rfl rfl
  exact (one_ bad_)
/-- amount_of -/
theorem d29 {n : Nat} (T : Txt G w mg fa fd) (IH : ∀ k, k < 64 → Good P w G mg base fa fd n k) (IM : ∀ m, n = m + 1 → ∀ k, k < 64 → Good P w G mg base fa fd m k) (IX : ∀ p y, PinX G p y → ∀ k, k ∈ hotL → GoodX P w G mg base fa fd p y n k) : Good P w G mg base fa fd (n + 1) 29 := by
  show FnOk P w G.K mg base (L2N.CX P w) (n + 1) (fa 29) (fd 29) (["book", "index"] : List Str) (spF G 2 (run (n + 1) 29))
  rw [run29]
  refine fn_ T.f29.fn sc29 rfl rfl fun cdv A outer s H E hr => ?_
  have hu := hr.units
  have hu1 := hu_of hr
  have tk : L2N.Takes (cxOf (L2N.CX P w) P w G.K mg base N29 "amount_of" (defScope s29) (fa 29) cdv A outer s H E) (fun cls d _ H => E cls d H) := L2N.takes_of rfl rfl rfl rfl
  exact (one_ bad_)
/-- book_with -/
theorem d30 {n : Nat} (T : Txt G w mg fa fd) (IH : ∀ k, k < 64 → Good P w G mg base fa fd n k) (IM : ∀ m, n = m + 1 → ∀ k, k < 64 → Good P w G mg base fa fd m k) (IX : ∀ p y, PinX G p y → ∀ k, k ∈ hotL → GoodX P w G mg base fa fd p y n k) : Good P w G mg base fa fd (n + 1) 30 := by
  show FnOk P w G.K mg base (L2N.CX P w) (n + 1) (fa 30) (fd 30) (["book", "entry"] : List Str) (spF G 2 (run (n + 1) 30))
  rw [run30]
  refine fn_ T.f30.fn sc30 rfl rfl fun cdv A outer s H E hr => ?_
  have hu := hr.units
  have hu1 := hu_of hr
  have tk : L2N.Takes (cxOf (L2N.CX P w) P w G.K mg base N30 "book_with" (defScope s30) (fa 30) cdv A outer s H E) (fun cls d _ H => E cls d H) := L2N.takes_of rfl rfl rfl rfl
  exact (seq_ (set_ (ps_set (i := 2) sc30.nd rfl (Or.inl rfl) (new0G T.M0 (fun m e => IM m e 16 (by decide)) hr rfl T.g_Book (T.f16).bi)))
    (seq_ (setF_ rfl T.C0 (by rw [T.F0]; rfl) (ps_fld (v_ (pv 2)) (lstOf_ rfl (pe_callTy call_list_of rfl T.n_list bt_list (pa_cons (fld_ rfl T.C0 (by rw [T.F0]; rfl) (pe_fld (v_ (pv 0)) rfl)) pa_nil))) rfl))
    (seq_ (setF_ rfl T.C0 (by rw [T.F0]; rfl) (ps_fld (v_ (pv 2)) (dicOf_ (pe_callTy call_dictD rfl T.n_dict bt_dict (pa_cons (fld_ rfl T.C0 (by rw [T.F0]; rfl) (pe_fld (v_ (pv 0)) rfl)) pa_nil))) rfl))
    (seq_ (setF_ rfl T.C0 (by rw [T.F0]; rfl) (ps_fld (v_ (pv 2)) (dicOf_ (pe_callTy call_dictD rfl T.n_dict bt_dict (pa_cons (fld_ rfl T.C0 (by rw [T.F0]; rfl) (pe_fld (v_ (pv 0)) rfl)) pa_nil))) rfl))
    (seq_ (ex_ (ps_expr (meth_ T.C0 (by rw [T.F0]; decide) (pe_methW (v_ (pv 2)) (T.C0).cl (T.f17).mt (IH 17 (by decide)) hr (T.f17).bi (fun σ => L2N.passAt tk σ) (aC_ (v_ (pv 1)) aN_)))))
    (one_ (rt_ (ps_ret (v_ (pv 2))))))))))
/-- Stop.__init__ -/
theorem d31 {n : Nat} (T : Txt G w mg fa fd) (IH : ∀ k, k < 64 → Good P w G mg base fa fd n k) (IM : ∀ m, n = m + 1 → ∀ k, k < 64 → Good P w G mg base fa fd m k) (IX : ∀ p y, PinX G p y → ∀ k, k ∈ hotL → GoodX P w G mg base fa fd p y n k) : Good P w G mg base fa fd (n + 1) 31 := by
  show FnOk P w G.K mg base (L2N.CX P w) (n + 1) (fa 31) (fd 31) (["self", "word", "name"] : List Str) (spF G 3 (run (n + 1) 31))
  rw [run31]
  refine fn_ T.f31.fn sc31 rfl rfl fun cdv A outer s H E hr => ?_
  have hu := hr.units
  have hu1 := hu_of hr
  have tk : L2N.Takes (cxOf (L2N.CX P w) P w G.K mg base N31 "Stop.__init__" (defScope s31) (fa 31) cdv A outer s H E) (fun cls d _ H => E cls d H) := L2N.takes_of rfl rfl rfl rfl
  exact (seq_ bad_ (one_ bad_))
/-- Reading.__init__ -/
theorem d32 {n : Nat} (T : Txt G w mg fa fd) (IH : ∀ k, k < 64 → Good P w G mg base fa fd n k) (IM : ∀ m, n = m + 1 → ∀ k, k < 64 → Good P w G mg base fa fd m k) (IX : ∀ p y, PinX G p y → ∀ k, k ∈ hotL → GoodX P w G mg base fa fd p y n k) : Good P w G mg base fa fd (n + 1) 32 := by
  show FnOk P w G.K mg base (L2N.CX P w) (n + 1) (fa 32) (fd 32) (["self", "book", "person", "day", "known"] : List Str) (spF G 5 (run (n + 1) 32))
  rw [run32]
  refine fn_ T.f32.fn sc32 rfl rfl fun cdv A outer s H E hr => ?_
  have hu := hr.units
  have hu1 := hu_of hr
  have tk : L2N.Takes (cxOf (L2N.CX P w) P w G.K mg base N32 "Reading.__init__" (defScope s32) (fa 32) cdv A outer s H E) (fun cls d _ H => E cls d H) := L2N.takes_of rfl rfl rfl rfl
  exact (seq_ bad_ (seq_ bad_ (seq_ bad_ (seq_ bad_ (seq_ bad_ (one_ bad_))))))
/-- Reading.rule_amount -/
theorem d33 {n : Nat} (T : Txt G w mg fa fd) (IH : ∀ k, k < 64 → Good P w G mg base fa fd n k) (IM : ∀ m, n = m + 1 → ∀ k, k < 64 → Good P w G mg base fa fd m k) (IX : ∀ p y, PinX G p y → ∀ k, k ∈ hotL → GoodX P w G mg base fa fd p y n k) : Good P w G mg base fa fd (n + 1) 33 := by
  show FnOk P w G.K mg base (L2N.CX P w) (n + 1) (fa 33) (fd 33) (["self", "name"] : List Str) (spF G 2 (run (n + 1) 33))
  rw [run33]
  refine fn_ T.f33.fn sc33 rfl rfl fun cdv A outer s H E hr => ?_
  have hu := hr.units
  have hu1 := hu_of hr
  have tk : L2N.Takes (cxOf (L2N.CX P w) P w G.K mg base N33 "Reading.rule_amount" (defScope s33) (fa 33) cdv A outer s H E) (fun cls d _ H => E cls d H) := L2N.takes_of rfl rfl rfl rfl
  exact (seq_ bad_ (seq_ bad_ (seq_ bad_ (seq_ bad_ (seq_ bad_ (seq_ bad_ (seq_ bad_ (one_ bad_))))))))
/-- Reading._look_up -/
theorem d34 {n : Nat} (T : Txt G w mg fa fd) (IH : ∀ k, k < 64 → Good P w G mg base fa fd n k) (IM : ∀ m, n = m + 1 → ∀ k, k < 64 → Good P w G mg base fa fd m k) (IX : ∀ p y, PinX G p y → ∀ k, k ∈ hotL → GoodX P w G mg base fa fd p y n k) : Good P w G mg base fa fd (n + 1) 34 := by
  show FnOk P w G.K mg base (L2N.CX P w) (n + 1) (fa 34) (fd 34) (["self", "kind", "name"] : List Str) (spF G 3 (run (n + 1) 34))
  rw [run34]
  refine fn_ T.f34.fn sc34 rfl rfl fun cdv A outer s H E hr => ?_
  have hu := hr.units
  have hu1 := hu_of hr
  have tk : L2N.Takes (cxOf (L2N.CX P w) P w G.K mg base N34 "Reading._look_up" (defScope s34) (fa 34) cdv A outer s H E) (fun cls d _ H => E cls d H) := L2N.takes_of rfl rfl rfl rfl
  exact (seq_ bad_ (seq_ bad_ (seq_ bad_ (one_ bad_))))
/-- Reading._amount -/
theorem d35 {n : Nat} (T : Txt G w mg fa fd) (IH : ∀ k, k < 64 → Good P w G mg base fa fd n k) (IM : ∀ m, n = m + 1 → ∀ k, k < 64 → Good P w G mg base fa fd m k) (IX : ∀ p y, PinX G p y → ∀ k, k ∈ hotL → GoodX P w G mg base fa fd p y n k) : Good P w G mg base fa fd (n + 1) 35 := by
  show FnOk P w G.K mg base (L2N.CX P w) (n + 1) (fa 35) (fd 35) (["self", "tree"] : List Str) (spF G 2 (run (n + 1) 35))
  rw [run35]
  refine fn_ T.f35.fn sc35 rfl rfl fun cdv A outer s H E hr => ?_
  have hu := hr.units
  have hu1 := hu_of hr
  have tk : L2N.Takes (cxOf (L2N.CX P w) P w G.K mg base N35 "Reading._amount" (defScope s35) (fa 35) cdv A outer s H E) (fun cls d _ H => E cls d H) := L2N.takes_of rfl rfl rfl rfl
  exact (seq_ bad_ (seq_ bad_ (seq_ bad_ (seq_ bad_ (seq_ bad_ (seq_ bad_ (seq_ bad_ (seq_ bad_ (one_ bad_)))))))))
/-- Reading._fact_amount -/
theorem d36 {n : Nat} (T : Txt G w mg fa fd) (IH : ∀ k, k < 64 → Good P w G mg base fa fd n k) (IM : ∀ m, n = m + 1 → ∀ k, k < 64 → Good P w G mg base fa fd m k) (IX : ∀ p y, PinX G p y → ∀ k, k ∈ hotL → GoodX P w G mg base fa fd p y n k) : Good P w G mg base fa fd (n + 1) 36 := by
  show FnOk P w G.K mg base (L2N.CX P w) (n + 1) (fa 36) (fd 36) (["self", "name", "other"] : List Str) (spF G 3 (run (n + 1) 36))
  rw [run36]
  refine fn_ T.f36.fn sc36 rfl rfl fun cdv A outer s H E hr => ?_
  have hu := hr.units
  have hu1 := hu_of hr
  have tk : L2N.Takes (cxOf (L2N.CX P w) P w G.K mg base N36 "Reading._fact_amount" (defScope s36) (fa 36) cdv A outer s H E) (fun cls d _ H => E cls d H) := L2N.takes_of rfl rfl rfl rfl
  exact (seq_ bad_ (seq_ bad_ (seq_ bad_ (one_ bad_))))
/-- Reading._holds -/
theorem d37 {n : Nat} (T : Txt G w mg fa fd) (IH : ∀ k, k < 64 → Good P w G mg base fa fd n k) (IM : ∀ m, n = m + 1 → ∀ k, k < 64 → Good P w G mg base fa fd m k) (IX : ∀ p y, PinX G p y → ∀ k, k ∈ hotL → GoodX P w G mg base fa fd p y n k) : Good P w G mg base fa fd (n + 1) 37 := by
  show FnOk P w G.K mg base (L2N.CX P w) (n + 1) (fa 37) (fd 37) (["self", "tree"] : List Str) (spF G 2 (run (n + 1) 37))
  rw [run37]
  refine fn_ T.f37.fn sc37 rfl rfl fun cdv A outer s H E hr => ?_
  have hu := hr.units
  have hu1 := hu_of hr
  have tk : L2N.Takes (cxOf (L2N.CX P w) P w G.K mg base N37 "Reading._holds" (defScope s37) (fa 37) cdv A outer s H E) (fun cls d _ H => E cls d H) := L2N.takes_of rfl rfl rfl rfl
  exact (seq_ bad_ (seq_ bad_ (seq_ bad_ (seq_ bad_ (seq_ bad_ (seq_ bad_ (seq_ bad_ (seq_ bad_ (one_ bad_)))))))))
/-- Reading._within_limits -/
theorem d38 {n : Nat} (T : Txt G w mg fa fd) (IH : ∀ k, k < 64 → Good P w G mg base fa fd n k) (IM : ∀ m, n = m + 1 → ∀ k, k < 64 → Good P w G mg base fa fd m k) (IX : ∀ p y, PinX G p y → ∀ k, k ∈ hotL → GoodX P w G mg base fa fd p y n k) : Good P w G mg base fa fd (n + 1) 38 := by
  show FnOk P w G.K mg base (L2N.CX P w) (n + 1) (fa 38) (fd 38) (["self", "amount"] : List Str) (spF G 2 (run (n + 1) 38))
  rw [run38]
  refine fn_ T.f38.fn sc38 rfl rfl fun cdv A outer s H E hr => ?_
  have hu := hr.units
  have hu1 := hu_of hr
  have tk : L2N.Takes (cxOf (L2N.CX P w) P w G.K mg base N38 "Reading._within_limits" (defScope s38) (fa 38) cdv A outer s H E) (fun cls d _ H => E cls d H) := L2N.takes_of rfl rfl rfl rfl
  exact (seq_ bad_ (one_ bad_))
/-- joined -/
theorem d39 {n : Nat} (T : Txt G w mg fa fd) (IH : ∀ k, k < 64 → Good P w G mg base fa fd n k) (IM : ∀ m, n = m + 1 → ∀ k, k < 64 → Good P w G mg base fa fd m k) (IX : ∀ p y, PinX G p y → ∀ k, k ∈ hotL → GoodX P w G mg base fa fd p y n k) : Good P w G mg base fa fd (n + 1) 39 := by
  show FnOk P w G.K mg base (L2N.CX P w) (n + 1) (fa 39) (fd 39) (["word", "left", "right"] : List Str) (spF G 3 (run (n + 1) 39))
  rw [run39]
  refine fn_ T.f39.fn sc39 rfl rfl fun cdv A outer s H E hr => ?_
  have hu := hr.units
  have hu1 := hu_of hr
  have tk : L2N.Takes (cxOf (L2N.CX P w) P w G.K mg base N39 "joined" (defScope s39) (fa 39) cdv A outer s H E) (fun cls d _ H => E cls d H) := L2N.takes_of rfl rfl rfl rfl
  exact (seq_ bad_ (seq_ bad_ (seq_ bad_ (seq_ bad_ (one_ bad_)))))
/-- decide -/
theorem d40 {n : Nat} (T : Txt G w mg fa fd) (IH : ∀ k, k < 64 → Good P w G mg base fa fd n k) (IM : ∀ m, n = m + 1 → ∀ k, k < 64 → Good P w G mg base fa fd m k) (IX : ∀ p y, PinX G p y → ∀ k, k ∈ hotL → GoodX P w G mg base fa fd p y n k) : Good P w G mg base fa fd (n + 1) 40 := by
  show FnOk P w G.K mg base (L2N.CX P w) (n + 1) (fa 40) (fd 40) (["book", "question"] : List Str) (spF G 2 (run (n + 1) 40))
  rw [run40]
  refine fn_ T.f40.fn sc40 rfl rfl fun cdv A outer s H E hr => ?_
  have hu := hr.units
  have hu1 := hu_of hr
  have tk : L2N.Takes (cxOf (L2N.CX P w) P w G.K mg base N40 "decide" (defScope s40) (fa 40) cdv A outer s H E) (fun cls d _ H => E cls d H) := L2N.takes_of rfl rfl rfl rfl
  exact (seq_ bad_ (seq_ bad_ (seq_ bad_ (one_ bad_))))
/-- course -/
theorem d41 {n : Nat} (T : Txt G w mg fa fd) (IH : ∀ k, k < 64 → Good P w G mg base fa fd n k) (IM : ∀ m, n = m + 1 → ∀ k, k < 64 → Good P w G mg base fa fd m k) (IX : ∀ p y, PinX G p y → ∀ k, k ∈ hotL → GoodX P w G mg base fa fd p y n k) : Good P w G mg base fa fd (n + 1) 41 := by
  show FnOk P w G.K mg base (L2N.CX P w) (n + 1) (fa 41) (fd 41) (["book", "claim", "known"] : List Str) (spF G 3 (run (n + 1) 41))
  rw [run41]
  refine fn_ T.f41.fn sc41 rfl rfl fun cdv A outer s H E hr => ?_
  have hu := hr.units
  have hu1 := hu_of hr
  have tk : L2N.Takes (cxOf (L2N.CX P w) P w G.K mg base N41 "course" (defScope s41) (fa 41) cdv A outer s H E) (fun cls d _ H => E cls d H) := L2N.takes_of rfl rfl rfl rfl
  exact (seq_ bad_ (seq_ bad_ (seq_ bad_ (one_ bad_))))
/-- total -/
theorem d42 {n : Nat} (T : Txt G w mg fa fd) (IH : ∀ k, k < 64 → Good P w G mg base fa fd n k) (IM : ∀ m, n = m + 1 → ∀ k, k < 64 → Good P w G mg base fa fd m k) (IX : ∀ p y, PinX G p y → ∀ k, k ∈ hotL → GoodX P w G mg base fa fd p y n k) : Good P w G mg base fa fd (n + 1) 42 := by
  show FnOk P w G.K mg base (L2N.CX P w) (n + 1) (fa 42) (fd 42) (["book", "claim", "known"] : List Str) (spF G 3 (run (n + 1) 42))
  rw [run42]
  refine fn_ T.f42.fn sc42 rfl rfl fun cdv A outer s H E hr => ?_
  have hu := hr.units
  have hu1 := hu_of hr
  have tk : L2N.Takes (cxOf (L2N.CX P w) P w G.K mg base N42 "total" (defScope s42) (fa 42) cdv A outer s H E) (fun cls d _ H => E cls d H) := L2N.takes_of rfl rfl rfl rfl
  exact (seq_ bad_ (seq_ bad_ (one_ bad_)))
/-- stretches -/
theorem d43 {n : Nat} (T : Txt G w mg fa fd) (IH : ∀ k, k < 64 → Good P w G mg base fa fd n k) (IM : ∀ m, n = m + 1 → ∀ k, k < 64 → Good P w G mg base fa fd m k) (IX : ∀ p y, PinX G p y → ∀ k, k ∈ hotL → GoodX P w G mg base fa fd p y n k) : Good P w G mg base fa fd (n + 1) 43 := by
  show FnOk P w G.K mg base (L2N.CX P w) (n + 1) (fa 43) (fd 43) (["book", "span", "known"] : List Str) (spF G 3 (run (n + 1) 43))
  rw [run43]
  refine fn_ T.f43.fn sc43 rfl rfl fun cdv A outer s H E hr => ?_
  have hu := hr.units
  have hu1 := hu_of hr
  have tk : L2N.Takes (cxOf (L2N.CX P w) P w G.K mg base N43 "stretches" (defScope s43) (fa 43) cdv A outer s H E) (fun cls d _ H => E cls d H) := L2N.takes_of rfl rfl rfl rfl
  exact (seq_ bad_ (seq_ bad_ (seq_ bad_ (seq_ bad_ (one_ bad_)))))
/-- Ledger.__init__ -/
theorem d44 {n : Nat} (T : Txt G w mg fa fd) (IH : ∀ k, k < 64 → Good P w G mg base fa fd n k) (IM : ∀ m, n = m + 1 → ∀ k, k < 64 → Good P w G mg base fa fd m k) (IX : ∀ p y, PinX G p y → ∀ k, k ∈ hotL → GoodX P w G mg base fa fd p y n k) : Good P w G mg base fa fd (n + 1) 44 := by
  show FnOk P w G.K mg base (L2N.CX P w) (n + 1) (fa 44) (fd 44) (["self"] : List Str) (spF G 1 (run (n + 1) 44))
  rw [run44]
  refine fn_ T.f44.fn sc44 rfl rfl fun cdv A outer s H E hr => ?_
  have hu := hr.units
  have hu1 := hu_of hr
  have tk : L2N.Takes (cxOf (L2N.CX P w) P w G.K mg base N44 "Ledger.__init__" (defScope s44) (fa 44) cdv A outer s H E) (fun cls d _ H => E cls d H) := L2N.takes_of rfl rfl rfl rfl
  exact (one_ (setF_ rfl T.C2 (by rw [T.F2]; rfl) (ps_fld (v_ (pv 0)) (lstO_ aN_) rfl)))
/-- Ledger.settle -/
theorem d45 {n : Nat} (T : Txt G w mg fa fd) (IH : ∀ k, k < 64 → Good P w G mg base fa fd n k) (IM : ∀ m, n = m + 1 → ∀ k, k < 64 → Good P w G mg base fa fd m k) (IX : ∀ p y, PinX G p y → ∀ k, k ∈ hotL → GoodX P w G mg base fa fd p y n k) : Good P w G mg base fa fd (n + 1) 45 := by
  show FnOk P w G.K mg base (L2N.CX P w) (n + 1) (fa 45) (fd 45) (["self", "book", "claim", "known"] : List Str) (spF G 4 (run (n + 1) 45))
  rw [run45]
  refine fn_ T.f45.fn sc45 rfl rfl fun cdv A outer s H E hr => ?_
  have hu := hr.units
  have hu1 := hu_of hr
  have tk : L2N.Takes (cxOf (L2N.CX P w) P w G.K mg base N45 "Ledger.settle" (defScope s45) (fa 45) cdv A outer s H E) (fun cls d _ H => E cls d H) := L2N.takes_of rfl rfl rfl rfl
  exact (seq_ bad_ (seq_ bad_ (seq_ bad_ (seq_ bad_ (seq_ bad_ (one_ bad_))))))
/-- Ledger.paid -/
theorem d46 {n : Nat} (T : Txt G w mg fa fd) (IH : ∀ k, k < 64 → Good P w G mg base fa fd n k) (IM : ∀ m, n = m + 1 → ∀ k, k < 64 → Good P w G mg base fa fd m k) (IX : ∀ p y, PinX G p y → ∀ k, k ∈ hotL → GoodX P w G mg base fa fd p y n k) : Good P w G mg base fa fd (n + 1) 46 := by
  show FnOk P w G.K mg base (L2N.CX P w) (n + 1) (fa 46) (fd 46) (["self", "claim"] : List Str) (spF G 2 (run (n + 1) 46))
  rw [run46]
  refine fn_ T.f46.fn sc46 rfl rfl fun cdv A outer s H E hr => ?_
  have hu := hr.units
  have hu1 := hu_of hr
  have tk : L2N.Takes (cxOf (L2N.CX P w) P w G.K mg base N46 "Ledger.paid" (defScope s46) (fa 46) cdv A outer s H E) (fun cls d _ H => E cls d H) := L2N.takes_of rfl rfl rfl rfl
  exact (one_ bad_)
/-- Ledger.payments -/
theorem d47 {n : Nat} (T : Txt G w mg fa fd) (IH : ∀ k, k < 64 → Good P w G mg base fa fd n k) (IM : ∀ m, n = m + 1 → ∀ k, k < 64 → Good P w G mg base fa fd m k) (IX : ∀ p y, PinX G p y → ∀ k, k ∈ hotL → GoodX P w G mg base fa fd p y n k) : Good P w G mg base fa fd (n + 1) 47 := by
  show FnOk P w G.K mg base (L2N.CX P w) (n + 1) (fa 47) (fd 47) (["self"] : List Str) (spF G 1 (run (n + 1) 47))
  rw [run47]
  refine fn_ T.f47.fn sc47 rfl rfl fun cdv A outer s H E hr => ?_
  have hu := hr.units
  have hu1 := hu_of hr
  have tk : L2N.Takes (cxOf (L2N.CX P w) P w G.K mg base N47 "Ledger.payments" (defScope s47) (fa 47) cdv A outer s H E) (fun cls d _ H => E cls d H) := L2N.takes_of rfl rfl rfl rfl
  exact (one_ bad_)
/-- Desk.__init__ -/
theorem d48 {n : Nat} (T : Txt G w mg fa fd) (IH : ∀ k, k < 64 → Good P w G mg base fa fd n k) (IM : ∀ m, n = m + 1 → ∀ k, k < 64 → Good P w G mg base fa fd m k) (IX : ∀ p y, PinX G p y → ∀ k, k ∈ hotL → GoodX P w G mg base fa fd p y n k) : Good P w G mg base fa fd (n + 1) 48 := by
  show FnOk P w G.K mg base (L2N.CX P w) (n + 1) (fa 48) (fd 48) (["self"] : List Str) (spF G 1 (run (n + 1) 48))
  rw [run48]
  refine fn_ T.f48.fn sc48 rfl rfl fun cdv A outer s H E hr => ?_
  have hu := hr.units
  have hu1 := hu_of hr
  have tk : L2N.Takes (cxOf (L2N.CX P w) P w G.K mg base N48 "Desk.__init__" (defScope s48) (fa 48) cdv A outer s H E) (fun cls d _ H => E cls d H) := L2N.takes_of rfl rfl rfl rfl
  exact (seq_ (setF_ rfl T.C3 (by rw [T.F3]; rfl) (ps_fld (v_ (pv 0)) (new0G T.M0 (fun m e => IM m e 16 (by decide)) hr rfl T.g_Book (T.f16).bi) rfl))
    (seq_ (setF_ rfl T.C3 (by rw [T.F3]; rfl) (ps_fld (v_ (pv 0)) (new0G T.M2 (fun m e => IM m e 44 (by decide)) hr rfl T.g_Ledger (T.f44).bi) rfl))
    (seq_ (setF_ rfl T.C3 (by rw [T.F3]; rfl) (ps_fld (v_ (pv 0)) (dicO_ pe_dnewK) rfl))
    (one_ (setF_ rfl T.C3 (by rw [T.F3]; rfl) (ps_fld (v_ (pv 0)) (lstO_ aN_) rfl))))))
/-- Desk.do -/
theorem d49 {n : Nat} (T : Txt G w mg fa fd) (IH : ∀ k, k < 64 → Good P w G mg base fa fd n k) (IM : ∀ m, n = m + 1 → ∀ k, k < 64 → Good P w G mg base fa fd m k) (IX : ∀ p y, PinX G p y → ∀ k, k ∈ hotL → GoodX P w G mg base fa fd p y n k) : Good P w G mg base fa fd (n + 1) 49 := by
  show FnOk P w G.K mg base (L2N.CX P w) (n + 1) (fa 49) (fd 49) (["self", "deed"] : List Str) (spF G 2 (run (n + 1) 49))
  rw [run49]
  refine fn_ T.f49.fn sc49 rfl rfl fun cdv A outer s H E hr => ?_
  have hu := hr.units
  have hu1 := hu_of hr
  have tk : L2N.Takes (cxOf (L2N.CX P w) P w G.K mg base N49 "Desk.do" (defScope s49) (fa 49) cdv A outer s H E) (fun cls d _ H => E cls d H) := L2N.takes_of rfl rfl rfl rfl
  exact (seq_ (sif_ (teq_ rfl hu (idx_ rfl (v_ (pv 1)) ci_ (fun _ _ => rfl)) cs_) (one_ (ex_ (ps_expr (meth_ T.C3 (by rw [T.F3]; decide) (pe_methW (v_ (pv 0)) (T.C3).cl (T.f55).mt (IH 55 (by decide)) hr (T.f55).bi (fun σ => L2N.passAt tk σ) (aC_ (idx_ rfl (v_ (pv 1)) ci_ (fun _ _ => rfl)) aN_)))))) (one_ (sif_ (teq_ rfl hu (idx_ rfl (v_ (pv 1)) ci_ (fun _ _ => rfl)) cs_) (one_ bad_) (one_ (sif_ (teq_ rfl hu (idx_ rfl (v_ (pv 1)) ci_ (fun _ _ => rfl)) cs_) (one_ bad_) (one_ bad_))))))
    (one_ (ex_ (ps_expr (append_ rfl (pe_bm PySem.F.plainAttrs_list PySem.F.slot_list_append PySem.F.type_list_append mt_append (fld_ rfl T.C3 (by rw [T.F3]; rfl) (pe_fld (v_ (pv 0)) rfl)) (pa_cons (tuple_ rfl (pe_callTy call_tuple_of rfl T.n_tuple bt_tuple (pa_cons (v_ (pv 1)) pa_nil))) pa_nil)))))))
/-- Desk.totals -/
theorem d50 {n : Nat} (T : Txt G w mg fa fd) (IH : ∀ k, k < 64 → Good P w G mg base fa fd n k) (IM : ∀ m, n = m + 1 → ∀ k, k < 64 → Good P w G mg base fa fd m k) (IX : ∀ p y, PinX G p y → ∀ k, k ∈ hotL → GoodX P w G mg base fa fd p y n k) : Good P w G mg base fa fd (n + 1) 50 := by
  show FnOk P w G.K mg base (L2N.CX P w) (n + 1) (fa 50) (fd 50) (["self", "known"] : List Str) (spF G 2 (run (n + 1) 50))
  rw [run50]
  refine fn_ T.f50.fn sc50 rfl rfl fun cdv A outer s H E hr => ?_
  have hu := hr.units
  have hu1 := hu_of hr
  have tk : L2N.Takes (cxOf (L2N.CX P w) P w G.K mg base N50 "Desk.totals" (defScope s50) (fa 50) cdv A outer s H E) (fun cls d _ H => E cls d H) := L2N.takes_of rfl rfl rfl rfl
  exact (one_ bad_)
/-- Desk.changes -/
theorem d51 {n : Nat} (T : Txt G w mg fa fd) (IH : ∀ k, k < 64 → Good P w G mg base fa fd n k) (IM : ∀ m, n = m + 1 → ∀ k, k < 64 → Good P w G mg base fa fd m k) (IX : ∀ p y, PinX G p y → ∀ k, k ∈ hotL → GoodX P w G mg base fa fd p y n k) : Good P w G mg base fa fd (n + 1) 51 := by
  show FnOk P w G.K mg base (L2N.CX P w) (n + 1) (fa 51) (fd 51) (["self", "entry"] : List Str) (spF G 2 (run (n + 1) 51))
  rw [run51]
  refine fn_ T.f51.fn sc51 rfl rfl fun cdv A outer s H E hr => ?_
  have hu := hr.units
  have hu1 := hu_of hr
  have tk : L2N.Takes (cxOf (L2N.CX P w) P w G.K mg base N51 "Desk.changes" (defScope s51) (fa 51) cdv A outer s H E) (fun cls d _ H => E cls d H) := L2N.takes_of rfl rfl rfl rfl
  exact (seq_ (set_ (ps_set (i := 2) sc51.nd rfl (Or.inl rfl) (call_ (pe_callS (IH 30 (by decide)) hr rfl (T.f30).mg (T.f30).kp (T.f30).bi (fun σ => L2N.passAt tk σ) (aC_ (fld_ rfl T.C3 (by rw [T.F3]; rfl) (pe_fld (v_ (pv 0)) rfl)) (aC_ (v_ (pv 1)) aN_))))))
    (seq_ (set_ (ps_set (i := 3) sc51.nd rfl (Or.inl rfl) (lstO_ aN_)))
    (seq_ (slkd_ (for_ (ps_for (passes_of rfl) rfl (iDI_ (pi_items (fld_ rfl T.C3 (by rw [T.F3]; rfl) (pe_fld (v_ (pv 0)) rfl)))) (gT_ rfl (pg_tup rfl (gsC_ (pgs_cons (gN_ (pg_name (i := 4) sc51.nd rfl (Or.inl rfl))) (gsC_ (pgs_cons (gN_ (pg_name (i := 5) sc51.nd rfl (Or.inl rfl))) gsN_)))))) (seq_ bad_
    (seq_ bad_
    (one_ (sif_ (tne_ rfl hu (v_ (pv 6)) (v_ (pv 7))) (one_ (ex_ (ps_expr (append_ rfl (pe_bm PySem.F.plainAttrs_list PySem.F.slot_list_append PySem.F.type_list_append mt_append (v_ (pv 3)) (pa_cons (tup_ (aC_ (v_ (pv 4)) (aC_ (v_ (pv 6)) (aC_ (v_ (pv 7)) aN_)))) pa_nil)))))) nil_)))))))
    (one_ (rt_ (ps_ret (v_ (pv 3))))))))
/-- Desk.entries -/
theorem d52 {n : Nat} (T : Txt G w mg fa fd) (IH : ∀ k, k < 64 → Good P w G mg base fa fd n k) (IM : ∀ m, n = m + 1 → ∀ k, k < 64 → Good P w G mg base fa fd m k) (IX : ∀ p y, PinX G p y → ∀ k, k ∈ hotL → GoodX P w G mg base fa fd p y n k) : Good P w G mg base fa fd (n + 1) 52 := by
  show FnOk P w G.K mg base (L2N.CX P w) (n + 1) (fa 52) (fd 52) (["self"] : List Str) (spF G 1 (run (n + 1) 52))
  rw [run52]
  refine fn_ T.f52.fn sc52 rfl rfl fun cdv A outer s H E hr => ?_
  have hu := hr.units
  have hu1 := hu_of hr
  have tk : L2N.Takes (cxOf (L2N.CX P w) P w G.K mg base N52 "Desk.entries" (defScope s52) (fa 52) cdv A outer s H E) (fun cls d _ H => E cls d H) := L2N.takes_of rfl rfl rfl rfl
  exact (one_ (rt_ (ps_ret (meth0_ T.C0 (by rw [T.F0]; decide) (pe_methW0 (fld_ rfl T.C3 (by rw [T.F3]; rfl) (pe_fld (v_ (pv 0)) rfl)) (T.C0).cl (T.f18).mt (IH 18 (by decide)) hr (T.f18).bi (fun σ => L2N.passAt tk σ))))))
/-- Desk.payments -/
theorem d53 {n : Nat} (T : Txt G w mg fa fd) (IH : ∀ k, k < 64 → Good P w G mg base fa fd n k) (IM : ∀ m, n = m + 1 → ∀ k, k < 64 → Good P w G mg base fa fd m k) (IX : ∀ p y, PinX G p y → ∀ k, k ∈ hotL → GoodX P w G mg base fa fd p y n k) : Good P w G mg base fa fd (n + 1) 53 := by
  show FnOk P w G.K mg base (L2N.CX P w) (n + 1) (fa 53) (fd 53) (["self"] : List Str) (spF G 1 (run (n + 1) 53))
  rw [run53]
  refine fn_ T.f53.fn sc53 rfl rfl fun cdv A outer s H E hr => ?_
  have hu := hr.units
  have hu1 := hu_of hr
  have tk : L2N.Takes (cxOf (L2N.CX P w) P w G.K mg base N53 "Desk.payments" (defScope s53) (fa 53) cdv A outer s H E) (fun cls d _ H => E cls d H) := L2N.takes_of rfl rfl rfl rfl
  exact (one_ bad_)
/-- Desk.journal -/
theorem d54 {n : Nat} (T : Txt G w mg fa fd) (IH : ∀ k, k < 64 → Good P w G mg base fa fd n k) (IM : ∀ m, n = m + 1 → ∀ k, k < 64 → Good P w G mg base fa fd m k) (IX : ∀ p y, PinX G p y → ∀ k, k ∈ hotL → GoodX P w G mg base fa fd p y n k) : Good P w G mg base fa fd (n + 1) 54 := by
  show FnOk P w G.K mg base (L2N.CX P w) (n + 1) (fa 54) (fd 54) (["self"] : List Str) (spF G 1 (run (n + 1) 54))
  rw [run54]
  refine fn_ T.f54.fn sc54 rfl rfl fun cdv A outer s H E hr => ?_
  have hu := hr.units
  have hu1 := hu_of hr
  have tk : L2N.Takes (cxOf (L2N.CX P w) P w G.K mg base N54 "Desk.journal" (defScope s54) (fa 54) cdv A outer s H E) (fun cls d _ H => E cls d H) := L2N.takes_of rfl rfl rfl rfl
  exact (one_ (rt_ (ps_ret (list_ rfl (pe_callTy call_list_of rfl T.n_list bt_list (pa_cons (fld_ rfl T.C3 (by rw [T.F3]; rfl) (pe_fld (v_ (pv 0)) rfl)) pa_nil))))))
/-- Desk._enter -/
theorem d55 {n : Nat} (T : Txt G w mg fa fd) (IH : ∀ k, k < 64 → Good P w G mg base fa fd n k) (IM : ∀ m, n = m + 1 → ∀ k, k < 64 → Good P w G mg base fa fd m k) (IX : ∀ p y, PinX G p y → ∀ k, k ∈ hotL → GoodX P w G mg base fa fd p y n k) : Good P w G mg base fa fd (n + 1) 55 := by
  show FnOk P w G.K mg base (L2N.CX P w) (n + 1) (fa 55) (fd 55) (["self", "entry"] : List Str) (spF G 2 (run (n + 1) 55))
  rw [run55]
  refine fn_ T.f55.fn sc55 rfl rfl fun cdv A outer s H E hr => ?_
  have hu := hr.units
  have hu1 := hu_of hr
  have tk : L2N.Takes (cxOf (L2N.CX P w) P w G.K mg base N55 "Desk._enter" (defScope s55) (fa 55) cdv A outer s H E) (fun cls d _ H => E cls d H) := L2N.takes_of rfl rfl rfl rfl
  exact (seq_ (set_ (ps_set (i := 2) sc55.nd rfl (Or.inl rfl) (call_ (pe_callS (IH 30 (by decide)) hr rfl (T.f30).mg (T.f30).kp (T.f30).bi (fun σ => L2N.passAt tk σ) (aC_ (fld_ rfl T.C3 (by rw [T.F3]; rfl) (pe_fld (v_ (pv 0)) rfl)) (aC_ (v_ (pv 1)) aN_))))))
    (seq_ (ex_ (ps_expr (meth0_ T.C3 (by rw [T.F3]; decide) (pe_methW0 (v_ (pv 0)) (T.C3).cl (T.f60).mt (IH 60 (by decide)) hr (T.f60).bi (fun σ => L2N.passAt tk σ)))))
    (one_ (setF_ rfl T.C3 (by rw [T.F3]; rfl) (ps_fld (v_ (pv 0)) (v_ (pv 2)) rfl)))))
/-- Desk._stand -/
theorem d56 {n : Nat} (T : Txt G w mg fa fd) (IH : ∀ k, k < 64 → Good P w G mg base fa fd n k) (IM : ∀ m, n = m + 1 → ∀ k, k < 64 → Good P w G mg base fa fd m k) (IX : ∀ p y, PinX G p y → ∀ k, k ∈ hotL → GoodX P w G mg base fa fd p y n k) : Good P w G mg base fa fd (n + 1) 56 := by
  show FnOk P w G.K mg base (L2N.CX P w) (n + 1) (fa 56) (fd 56) (["self", "name", "claim"] : List Str) (spF G 3 (run (n + 1) 56))
  rw [run56]
  refine fn_ T.f56.fn sc56 rfl rfl fun cdv A outer s H E hr => ?_
  have hu := hr.units
  have hu1 := hu_of hr
  have tk : L2N.Takes (cxOf (L2N.CX P w) P w G.K mg base N56 "Desk._stand" (defScope s56) (fa 56) cdv A outer s H E) (fun cls d _ H => E cls d H) := L2N.takes_of rfl rfl rfl rfl
  exact (seq_ bad_ (seq_ bad_ (seq_ bad_ (one_ bad_))))
/-- Desk._drop -/
theorem d57 {n : Nat} (T : Txt G w mg fa fd) (IH : ∀ k, k < 64 → Good P w G mg base fa fd n k) (IM : ∀ m, n = m + 1 → ∀ k, k < 64 → Good P w G mg base fa fd m k) (IX : ∀ p y, PinX G p y → ∀ k, k ∈ hotL → GoodX P w G mg base fa fd p y n k) : Good P w G mg base fa fd (n + 1) 57 := by
  show FnOk P w G.K mg base (L2N.CX P w) (n + 1) (fa 57) (fd 57) (["self", "name"] : List Str) (spF G 2 (run (n + 1) 57))
  rw [run57]
  refine fn_ T.f57.fn sc57 rfl rfl fun cdv A outer s H E hr => ?_
  have hu := hr.units
  have hu1 := hu_of hr
  have tk : L2N.Takes (cxOf (L2N.CX P w) P w G.K mg base N57 "Desk._drop" (defScope s57) (fa 57) cdv A outer s H E) (fun cls d _ H => E cls d H) := L2N.takes_of rfl rfl rfl rfl
  exact (seq_ bad_ (seq_ bad_ (one_ bad_)))
/-- Desk._settle -/
theorem d58 {n : Nat} (T : Txt G w mg fa fd) (IH : ∀ k, k < 64 → Good P w G mg base fa fd n k) (IM : ∀ m, n = m + 1 → ∀ k, k < 64 → Good P w G mg base fa fd m k) (IX : ∀ p y, PinX G p y → ∀ k, k ∈ hotL → GoodX P w G mg base fa fd p y n k) : Good P w G mg base fa fd (n + 1) 58 := by
  show FnOk P w G.K mg base (L2N.CX P w) (n + 1) (fa 58) (fd 58) (["self", "name", "known"] : List Str) (spF G 3 (run (n + 1) 58))
  rw [run58]
  refine fn_ T.f58.fn sc58 rfl rfl fun cdv A outer s H E hr => ?_
  have hu := hr.units
  have hu1 := hu_of hr
  have tk : L2N.Takes (cxOf (L2N.CX P w) P w G.K mg base N58 "Desk._settle" (defScope s58) (fa 58) cdv A outer s H E) (fun cls d _ H => E cls d H) := L2N.takes_of rfl rfl rfl rfl
  exact (seq_ bad_ (seq_ bad_ (one_ bad_)))
/-- Desk._check_standing -/
theorem d59 {n : Nat} (T : Txt G w mg fa fd) (IH : ∀ k, k < 64 → Good P w G mg base fa fd n k) (IM : ∀ m, n = m + 1 → ∀ k, k < 64 → Good P w G mg base fa fd m k) (IX : ∀ p y, PinX G p y → ∀ k, k ∈ hotL → GoodX P w G mg base fa fd p y n k) : Good P w G mg base fa fd (n + 1) 59 := by
  show FnOk P w G.K mg base (L2N.CX P w) (n + 1) (fa 59) (fd 59) (["self", "name"] : List Str) (spF G 2 (run (n + 1) 59))
  rw [run59]
  refine fn_ T.f59.fn sc59 rfl rfl fun cdv A outer s H E hr => ?_
  have hu := hr.units
  have hu1 := hu_of hr
  have tk : L2N.Takes (cxOf (L2N.CX P w) P w G.K mg base N59 "Desk._check_standing" (defScope s59) (fa 59) cdv A outer s H E) (fun cls d _ H => E cls d H) := L2N.takes_of rfl rfl rfl rfl
  exact (one_ bad_)
/-- Desk._check_room -/
theorem d60 {n : Nat} (T : Txt G w mg fa fd) (IH : ∀ k, k < 64 → Good P w G mg base fa fd n k) (IM : ∀ m, n = m + 1 → ∀ k, k < 64 → Good P w G mg base fa fd m k) (IX : ∀ p y, PinX G p y → ∀ k, k ∈ hotL → GoodX P w G mg base fa fd p y n k) : Good P w G mg base fa fd (n + 1) 60 := by
  show FnOk P w G.K mg base (L2N.CX P w) (n + 1) (fa 60) (fd 60) (["self"] : List Str) (spF G 1 (run (n + 1) 60))
  rw [run60]
  refine fn_ T.f60.fn sc60 rfl rfl fun cdv A outer s H E hr => ?_
  have hu := hr.units
  have hu1 := hu_of hr
  have tk : L2N.Takes (cxOf (L2N.CX P w) P w G.K mg base N60 "Desk._check_room" (defScope s60) (fa 60) cdv A outer s H E) (fun cls d _ H => E cls d H) := L2N.takes_of rfl rfl rfl rfl
  exact (one_ (sif_ (tge_ (len_ rfl (pe_callB call_lenD' rfl T.n_len bt_len (pa_cons (fld_ rfl T.C3 (by rw [T.F3]; rfl) (pe_fld (v_ (pv 0)) rfl)) pa_nil))) (gi_ rfl T.g_MOST_DEEDS)) (one_ (raiseP T.X2 rfl rfl tk rfl T.gx_NotAllowed)) nil_))
/-- check_claim -/
theorem d61 {n : Nat} (T : Txt G w mg fa fd) (IH : ∀ k, k < 64 → Good P w G mg base fa fd n k) (IM : ∀ m, n = m + 1 → ∀ k, k < 64 → Good P w G mg base fa fd m k) (IX : ∀ p y, PinX G p y → ∀ k, k ∈ hotL → GoodX P w G mg base fa fd p y n k) : Good P w G mg base fa fd (n + 1) 61 := by
  show FnOk P w G.K mg base (L2N.CX P w) (n + 1) (fa 61) (fd 61) (["name", "claim"] : List Str) (spF G 2 (run (n + 1) 61))
  rw [run61]
  refine fn_ T.f61.fn sc61 rfl rfl fun cdv A outer s H E hr => ?_
  have hu := hr.units
  have hu1 := hu_of hr
  have tk : L2N.Takes (cxOf (L2N.CX P w) P w G.K mg base N61 "check_claim" (defScope s61) (fa 61) cdv A outer s H E) (fun cls d _ H => E cls d H) := L2N.takes_of rfl rfl rfl rfl
  exact (seq_ bad_ (seq_ bad_ (seq_ bad_ (one_ bad_))))
/-- _law_refused -/
theorem d62 {n : Nat} (T : Txt G w mg fa fd) (IH : ∀ k, k < 64 → Good P w G mg base fa fd n k) (IM : ∀ m, n = m + 1 → ∀ k, k < 64 → Good P w G mg base fa fd m k) (IX : ∀ p y, PinX G p y → ∀ k, k ∈ hotL → GoodX P w G mg base fa fd p y n k) : Good P w G mg base fa fd (n + 1) 62 := by
  show FnOk P w G.K mg base (L2N.CX P w) (n + 1) (fa 62) (fd 62) (["desk", "entry", "asked"] : List Str) (spF G 3 (run (n + 1) 62))
  rw [run62]
  refine fn_ T.f62.fn sc62 rfl rfl fun cdv A outer s H E hr => ?_
  have hu := hr.units
  have hu1 := hu_of hr
  have tk : L2N.Takes (cxOf (L2N.CX P w) P w G.K mg base N62 "_law_refused" (defScope s62) (fa 62) cdv A outer s H E) (fun cls d _ H => E cls d H) := L2N.takes_of rfl rfl rfl rfl
  exact (seq_ (tryN_ T.xfl (.cons (C := cx_WritError G) T.em_WritError .nil) (ps_tryN (tb := fun W => tS G W _) rfl rfl sc62.nd tk (fun W1 pn1 xe1 tk1 po1 => (one_ (sif_ (ttru_ rfl (v_ (pv 2))) (one_ (ex_ (ps_expr (meth_ T.C3 (by rw [T.F3]; decide) (pe_methW (v_ (pv 0)) (T.C3).cl (T.f51).mt (IH 51 (by decide)) hr (T.f51).bi (fun σ => L2N.passAt tk1 σ) (aC_ (v_ (pv 1)) aN_)))))) (one_ (ex_ (ps_expr (meth_ T.C3 (by rw [T.F3]; decide) (pe_methW (v_ (pv 0)) (T.C3).cl (T.f49).mt (IH 49 (by decide)) hr (T.f49).bi (fun σ => L2N.passAt tk1 σ) (aC_ (tup_ (aC_ cs_ (aC_ (v_ (pv 1)) aN_))) aN_))))))))) (.as rfl rfl ⟨rfl, by decide, .inl T.gx_WritError⟩ (fun ax ox cx dx px hz hf => tsY_ fun kx ex => by subst ex; have hy : PinX G (ax, ox) ⟨ax, dx, kx⟩ := ⟨rfl, hz, hf⟩; exact (one_ (rt_ (ps_ret (and_ (isY_ (c := .ref (G.xcl 2)) (cv := cx_NotAllowed G) rfl (fun _ z => z) T.ki_NotAllowed (pe_callB (call_isY rfl (T.EX _) ((hotS hz hf)).pn hy) rfl T.n_isinstance bt_isinstance (pa_cons (v_ (pv 3)) (pa_cons (pe_glob (v := .ref _) rfl T.gx_NotAllowed rfl) pa_nil)))) (and_ (not_ (isY_ (c := .ref (G.xcl 1)) (cv := cx_BadText G) rfl (fun _ z => z) T.ki_BadText (pe_callB (call_isY rfl (T.EX _) ((hotS hz hf)).pn hy) rfl T.n_isinstance bt_isinstance (pa_cons (v_ (pv 3)) (pa_cons (pe_glob (v := .ref _) rfl T.gx_BadText rfl) pa_nil))))) (and1_ (not_ (isY_ (c := .ref (G.xcl 3)) (cv := cx_UnknownName G) rfl (fun _ z => z) T.ki_UnknownName (pe_callB (call_isY rfl (T.EX _) ((hotS hz hf)).pn hy) rfl T.n_isinstance bt_isinstance (pa_cons (v_ (pv 3)) (pa_cons (pe_glob (v := .ref _) rfl T.gx_UnknownName rfl) pa_nil)))))))))))) .nil)))
    (one_ (rt_ (ps_ret cb_))))
/-- law -/
theorem d63 {n : Nat} (T : Txt G w mg fa fd) (IH : ∀ k, k < 64 → Good P w G mg base fa fd n k) (IM : ∀ m, n = m + 1 → ∀ k, k < 64 → Good P w G mg base fa fd m k) (IX : ∀ p y, PinX G p y → ∀ k, k ∈ hotL → GoodX P w G mg base fa fd p y n k) : Good P w G mg base fa fd (n + 1) 63 := by
  show FnOk P w G.K mg base (L2N.CX P w) (n + 1) (fa 63) (fd 63) (["script"] : List Str) (spF G 1 (run (n + 1) 63))
  rw [run63]
  refine fn_ T.f63.fn sc63 rfl rfl fun cdv A outer s H E hr => ?_
  have hu := hr.units
  have hu1 := hu_of hr
  have tk : L2N.Takes (cxOf (L2N.CX P w) P w G.K mg base N63 "law" (defScope s63) (fa 63) cdv A outer s H E) (fun cls d _ H => E cls d H) := L2N.takes_of rfl rfl rfl rfl
  exact (seq_ (set_ (ps_set (i := 1) sc63.nd rfl (Or.inl rfl) ci_))
    (seq_ (for_ (ps_for (passes_of rfl) rfl (iL_ rfl (pi_list (v_ (pv 0)))) (gN_ (pg_name (i := 2) sc63.nd rfl (Or.inl rfl))) (one_ (set_ (ps_set (i := 1) sc63.nd rfl (Or.inl rfl) (mod_ (int_ (pe_callTy call_intD rfl T.n_int bt_int (pa_cons (add_ rfl (add_ rfl (mulG_ (v_ (pv 1)) ci_) (v_ (pv 2))) ci_) pa_nil))) ci_))))))
    (seq_ (set_ (ps_set (i := 3) sc63.nd rfl (Or.inl rfl) ci_))
    (seq_ (sif_ (teq_ rfl hu (mod_ (fdiv_ (v_ (pv 1)) ci_) ci_) ci_) (one_ (set_ (ps_set (i := 3) sc63.nd rfl (Or.inl rfl) ci_))) nil_)
    (seq_ (set_ (ps_set (i := 4) sc63.nd rfl (Or.inl rfl) (new0G T.M3 (fun m e => IM m e 48 (by decide)) hr rfl T.g_Desk (T.f48).bi)))
    (seq_ (set_ (ps_set (i := 5) sc63.nd rfl (Or.inl rfl) (lstO_ aN_)))
    (seq_ (for_ (ps_for (passes_of rfl) rfl (iR1_ (pi_range1 rfl T.n_range (pa_cons (v_ (pv 3)) pa_nil))) (gN_ (pg_name (i := 6) sc63.nd rfl (Or.inl rfl))) (seq_ (set_ (ps_set (i := 7) sc63.nd rfl (Or.inl rfl) (tup_ (aC_ cs_ (aC_ ci_ (aC_ cs_ (aC_ cs_ (aC_ (sub_ (mod_ (int_ (pe_callTy call_intD rfl T.n_int bt_int (pa_cons (add_ rfl (v_ (pv 1)) (mulG_ ci_ (v_ (pv 6)))) pa_nil))) ci_) ci_) (aC_ (tup_ (aC_ ci_ (aC_ (add_ rfl ci_ (v_ (pv 6))) aN_))) aN_)))))))))
    (seq_ (ex_ (ps_expr (meth_ T.C3 (by rw [T.F3]; decide) (pe_methW (v_ (pv 4)) (T.C3).cl (T.f49).mt (IH 49 (by decide)) hr (T.f49).bi (fun σ => L2N.passAt tk σ) (aC_ (tup_ (aC_ cs_ (aC_ (v_ (pv 7)) aN_))) aN_)))))
    (one_ (ex_ (ps_expr (append_ rfl (pe_bm PySem.F.plainAttrs_list PySem.F.slot_list_append PySem.F.type_list_append mt_append (v_ (pv 5)) (pa_cons (v_ (pv 7)) pa_nil))))))))))
    (seq_ (set_ (ps_set (i := 8) sc63.nd rfl (Or.inl rfl) (idx_ rfl (lst_ (aC_ (tup_ (aC_ cs_ (aC_ ci_ (aC_ cs_ (aC_ cs_ (aC_ ci_ (aC_ (tup_ (aC_ ci_ (aC_ ci_ aN_))) aN_))))))) (aC_ (tup_ (aC_ cs_ (aC_ ci_ (aC_ cs_ (aC_ cs_ (aC_ (tup_ (aC_ ci_ (aC_ ci_ aN_))) aN_)))))) (aC_ (tup_ (aC_ cs_ (aC_ ci_ (aC_ ci_ aN_)))) aN_)))) (mod_ (fdiv_ (v_ (pv 1)) ci_) ci_) (fun _ _ => rfl))))
    (seq_ (for_ (ps_for (passes_of rfl) rfl (iL_ rfl (pi_list (lst_ (aC_ cb_ (aC_ cb_ aN_))))) (gN_ (pg_name (i := 9) sc63.nd rfl (Or.inl rfl))) (one_ (sif_ (tne_ rfl hu (call_ (pe_callS (IH 62 (by decide)) hr rfl (T.f62).mg (T.f62).kp (T.f62).bi (fun σ => L2N.passAt tk σ) (aC_ (v_ (pv 4)) (aC_ (v_ (pv 8)) (aC_ (v_ (pv 9)) aN_))))) (eq_ rfl hu (v_ (pv 3)) ci_)) (one_ (rt_ (ps_ret cb_))) nil_))))
    (seq_ (sif_ (teq_ rfl hu (v_ (pv 3)) ci_) (one_ (ex_ (ps_expr (append_ rfl (pe_bm PySem.F.plainAttrs_list PySem.F.slot_list_append PySem.F.type_list_append mt_append (v_ (pv 5)) (pa_cons (v_ (pv 8)) pa_nil)))))) nil_)
    (one_ (slk_ (rt_ (ps_ret (and_ (eq_ rfl hu (meth0_ T.C3 (by rw [T.F3]; decide) (pe_methW0 (v_ (pv 4)) (T.C3).cl (T.f52).mt (IH 52 (by decide)) hr (T.f52).bi (fun σ => L2N.passAt tk σ))) (v_ (pv 5))) (and1_ (eq_ rfl hu (meth0_ T.C3 (by rw [T.F3]; decide) (pe_methW0 (v_ (pv 4)) (T.C3).cl (T.f54).mt (IH 54 (by decide)) hr (T.f54).bi (fun σ => L2N.passAt tk σ))) (comp_ (pe_lc (own := [("entry", 7)]) rfl sc63.nd (iLk_ rfl (pi_list (v_ (pv 5)))) (blkOk_by (N := N63) (sc := defScope s63) (by decide +kernel)) (fun _ _ _ _ _ => (gNw_ (by decide) (pg_name (i := 7) sc63.nd rfl (Or.inl rfl)))) (fun _ _ _ _ _ => tsN_) (fun _ _ _ _ _ => (tup_ (aC_ cs_ (aC_ (v_ (pv 7)) aN_)))))))))))))))))))))))
theorem step {n : Nat} (T : Txt G w mg fa fd) (IH : ∀ k, k < 64 → Good P w G mg base fa fd n k) (IM : ∀ m, n = m + 1 → ∀ k, k < 64 → Good P w G mg base fa fd m k) (IX : ∀ p y, PinX G p y → ∀ k, k ∈ hotL → GoodX P w G mg base fa fd p y n k) : ∀ k, k < 64 → Good P w G mg base fa fd (n + 1) k := by
  intro k hk
  match k, hk with
  | 0, _ => exact d0 T IH IM IX
  | 1, _ => exact d1 T IH IM IX
  | 2, _ => exact d2 T IH IM IX
  | 3, _ => exact d3 T IH IM IX
  | 4, _ => exact d4 T IH IM IX
  | 5, _ => exact d5 T IH IM IX
  | 6, _ => exact d6 T IH IM IX
  | 7, _ => exact d7 T IH IM IX
  | 8, _ => exact d8 T IH IM IX
  | 9, _ => exact d9 T IH IM IX
  | 10, _ => exact d10 T IH IM IX
  | 11, _ => exact d11 T IH IM IX
  | 12, _ => exact d12 T IH IM IX
  | 13, _ => exact d13 T IH IM IX
  | 14, _ => exact d14 T IH IM IX
  | 15, _ => exact d15 T IH IM IX
  | 16, _ => exact d16 T IH IM IX
  | 17, _ => exact d17 T IH IM IX
  | 18, _ => exact d18 T IH IM IX
  | 19, _ => exact d19 T IH IM IX
  | 20, _ => exact d20 T IH IM IX
  | 21, _ => exact d21 T IH IM IX
  | 22, _ => exact d22 T IH IM IX
  | 23, _ => exact d23 T IH IM IX
  | 24, _ => exact d24 T IH IM IX
  | 25, _ => exact d25 T IH IM IX
  | 26, _ => exact d26 T IH IM IX
  | 27, _ => exact d27 T IH IM IX
  | 28, _ => exact d28 T IH IM IX
  | 29, _ => exact d29 T IH IM IX
  | 30, _ => exact d30 T IH IM IX
  | 31, _ => exact d31 T IH IM IX
  | 32, _ => exact d32 T IH IM IX
  | 33, _ => exact d33 T IH IM IX
  | 34, _ => exact d34 T IH IM IX
  | 35, _ => exact d35 T IH IM IX
  | 36, _ => exact d36 T IH IM IX
  | 37, _ => exact d37 T IH IM IX
  | 38, _ => exact d38 T IH IM IX
  | 39, _ => exact d39 T IH IM IX
  | 40, _ => exact d40 T IH IM IX
  | 41, _ => exact d41 T IH IM IX
  | 42, _ => exact d42 T IH IM IX
  | 43, _ => exact d43 T IH IM IX
  | 44, _ => exact d44 T IH IM IX
  | 45, _ => exact d45 T IH IM IX
  | 46, _ => exact d46 T IH IM IX
  | 47, _ => exact d47 T IH IM IX
  | 48, _ => exact d48 T IH IM IX
  | 49, _ => exact d49 T IH IM IX
  | 50, _ => exact d50 T IH IM IX
  | 51, _ => exact d51 T IH IM IX
  | 52, _ => exact d52 T IH IM IX
  | 53, _ => exact d53 T IH IM IX
  | 54, _ => exact d54 T IH IM IX
  | 55, _ => exact d55 T IH IM IX
  | 56, _ => exact d56 T IH IM IX
  | 57, _ => exact d57 T IH IM IX
  | 58, _ => exact d58 T IH IM IX
  | 59, _ => exact d59 T IH IM IX
  | 60, _ => exact d60 T IH IM IX
  | 61, _ => exact d61 T IH IM IX
  | 62, _ => exact d62 T IH IM IX
  | 63, _ => exact d63 T IH IM IX
  | k + 64, hk => exact absurd hk (by omega)
theorem good0 : ∀ k, k < 64 → Good P w G mg base fa fd 0 k := fun k _ => ⟨fun vs H Q E h => spF_len vs H Q E h, fun A outer s H args us vs Q E _ _ _ _ h => by
    obtain ⟨F, A, ρ, as, S, _, _, _, q⟩ := h
    exact q.elim⟩
theorem good (T : Txt G w mg fa fd) : ∀ n k, k < 64 → Good P w G mg base fa fd n k
  | 0 => good0
  | 1 => step T good0 (fun m e => absurd e (by omega)) fun p y hy => goodX T hy 0
  | n + 2 => step T (good T (n + 1)) (fun m e => by
    cases e
    exact good T n) fun p y hy => goodX T hy (n + 1)
end
end K31
set_option linter.all false
set_option Elab.async false
set_option maxRecDepth 100000
set_option maxHeartbeats 4000000
namespace K31
open PySem L2 PySem.Spec Ev TL
local macro_rules | `(tactic| walk_at "ev") => `(tactic| simp only [bind_ok, bind_ex, bind_bad, to_ok, to_ex, to_bad, nox_ok, sSeq_eq, seq_nx, seq_rt, seq_ex, seq_bk, seq_ct, seq_bad, eV_eq, eC_eq, op1_some, op2_some, eOp1_eq, eOp2_eq, of_some, of_none, top_d, top_ref, topc_lst, topc_lck, toB_bl, bE_eq,
  eIsN_eq, isN_non, isN_int, isN_str, isN_bl, isN_tup, isN_lst, isN_ref, isN_vt, eIdx_eq, idxV_d, idxV_ref, idxV_vt, oN_eq, toI_int, oE_eq, eSl_eq, bNot_eq, bAnd_eq, bOr_eq, andV_bl, eAnd_eq, orV_bl, eOr_eq, notV_bl, eNot_eq, eIf_eq, aN_eq, aC_eq, allD_nil, allD_d, allD_ref, allD_vt, mkTup_some, mkTup_none, eTup_eq,
  mkLst_some, eLst_eq, mkLstO_some, eLstO_eq, isB_some, eIs_eq, isTyV_d, strM_str, eStrM_eq, appC_lst, isLc_lst, isL_ref, appV_ref, eAppend_eq, extC_lst, extV_ref, eExtend_eq, popC_lst, popV_ref, ePop_eq, eCall_eq, isoC_some, eCallI_eq, dviews_nil, dviews_cons, dview_d, dview_ref, dview_vt, isoD_some, isoF_ok, isoF_ex, eCall0_eq, c0_ok,
  newC_some, eCallN_eq, newF_ok, newF_ex, shiftV_d, shiftV_ref, shiftC_lst, gN_eq, gsN_eq, gsC_eq, gTo_some, gT_eq, unp_tup, unp_vt, sNx_eq, sBad_eq, sBk_eq, sCt_eq, sEx_eq, sRt_eq, sRtN_eq, sIf_eq, asgO_some, sAsg_eq, itL_lst, itL_scr, iL_eq, itT_tup, iT_eq, itS_str, iS_eq, sFor_eq,
  forL_nil, loopO_some, loop_nx, loop_ct, loop_bk, loop_rt, loop_ex, eComp_eq, bYes_eq, runFn_eq, retF_nx, retF_rt, retF_ex, bTr_eq, truO_some, truR_some,
  List.length_cons, List.length_nil, List.map_cons, List.map_nil, List.replicate_zero, Nat.reduceAdd, Nat.reduceSub, Nat.zero_add, List.cons_append, List.nil_append, List.getElem?_cons_zero, List.getElem?_cons_succ, List.set_cons_zero, List.set_cons_succ, Option.map_some, Option.map_none, Option.bind_some, Option.bind_none,
  Nat.reduceLeDiff, Nat.reduceEqDiff, if_true, if_false, reduceIte, Bool.not_true, Bool.not_false, List.all_cons, List.all_nil, pureV, Bool.true_and, Bool.true_or, Bool.and_true, Bool.false_eq_true, List.reduceReplicate, reduceCtorEq,
  sRaise_eq, sRaiseI_eq, rz_1, rz_1003, rz_1004, sRaiseP_eq, iEn_eq, itE_lst, iZp_eq, itZ_lst, itZ_tup, sTryN_eq, tryR_nx, tryR_rt, tryR_bk, tryR_ct, tryR_bad, tryR_ex, catchN_eq, catchN_nil, catB_f, catB_t, catB_tn, unset_rt, unset_nx, unset_bk, unset_ct, noex_rt, noex_nx, noex_bk, noex_ct, allR_const, eIsY_eq, isY_at, eAtY_eq, eLstOf_eq, lstOfV_d, lstOfV_ref, lstC_lst, lstC_lck, fldO_some, fldV_ref, eFld_eq, fldC_obj, setO_some, setV_ref, sSetF_eq, setC_obj, isObC_obj, isOb_ref, eMeth_eq, newR_ok, eNew_eq, eDicO_eq, keyV_int, keyV_str, dicV_ref, dicOf_dic, dicOf_ldk, dicWV_ref, dicWOf_dic, eDicOf_eq, dicCp_ref, dicCpC_dic, dicCpC_ldk, sLkD_eq, refOf_ref, lkDO_some, lkDC_dic, mapD_nx, mapD_rt, mapD_bk, mapD_ct, iDK_eq, itDK_ref, itDKc_ldk, iDI_eq, itDI_ref, itDIc_ldk, kvD_nil, inDic_some, eInDic_eq, getDic_some, eGetDic_eq, putDic_some, sPutDic_eq, revR_int, shiftV_vt, shiftVs_nil, shiftVs_cons, shiftC_obj, shiftC_dic, bThen_t, bThen_f, opt2_ok, eChain3_eq, eChain_eq, sLk_eq, lkV_ref, lkV_d, itK_lst, itK_scr, lkC_lst, mapS_nx, mapS_ex, mapS_rt, mapS_bk, mapS_ct, itKc_lck, itK_ref, iLk_eq])
/-! ### names and numbers as words -/
abbrev cs (x : Str) : List Nat := tl x
abbrev mk (l : List Nat) : Str := ⟨l.toArray⟩
theorem str_ext {x y : Str} (h : cs x = cs y) : x = y := by
  obtain ⟨⟨l⟩⟩ := x
  obtain ⟨⟨m⟩⟩ := y
  have h : l = m := h
  rw [h]
theorem len_cs (x : Str) : x.length = (cs x).length := by
  obtain ⟨⟨l⟩⟩ := x
  rfl
theorem cs_mk (l : List Nat) : cs (mk l) = l := rfl
def letters : List Nat := cs "abcdefghijklmnopqrstuvwxyz"
def digits : List Nat := cs "0123456789"
def kept : List Str := ["fact", "known", "due", "or", "plus", "minus", "times", "least", "most", "percent", "if", "below", "same", "not", "both", "either"]
def nameOk (w : Str) : Bool := (cs w).length ≤ 12 && !kept.contains w && (match cs w with
  | [] => false
  | c :: _ => decide (c ∈ letters)) && (cs w).all fun c => decide (c ∈ letters) || decide (c ∈ digits)
theorem small {n : Nat} (h : n ≤ 1000000) : n ≤ sizeLine := by
  have := sizeLine_eq
  omega
theorem in_txts (neg : Bool) (w : Str) (l : List Str) : inF neg (.str w) (l.map D.str) = some (.bl (if neg then !l.contains w else l.contains w)) := by
  have h1 : (l.map D.str).all flatD = true := by
    rw [List.all_map]
    exact List.all_eq_true.mpr fun _ _ => rfl
  have h2 : (l.map D.str).any (fun y => eqF y (.str w)) = l.contains w := by
    rw [List.any_map]
    clear h1
    induction l with
    | nil => rfl
    | cons y r ih =>
      rw [List.any_cons, List.contains_cons, ih]
      congr 1
      show (y == w) = (w == y)
      rw [Bool.eq_iff_iff, beq_iff_eq, beq_iff_eq]
      exact ⟨Eq.symm, Eq.symm⟩
  unfold inF
  rw [if_pos ⟨rfl, h1⟩, h2]
theorem in_kept (w : Str) : inD false (.str w) dRESERVED = some (.bl (kept.contains w)) := in_txts false w kept
theorem idx0 {w : Str} {c : Nat} {r : List Nat} (h : cs w = c :: r) (hw : w.length ≤ sizeLine) : idxD (.str w) (.int 0) = some (.str (mk [c])) := by
  have e : idxD (.str w) (.int 0) = if w.length ≤ sizeLine then (atI (cs w) 0).map fun c => .str ⟨#[c]⟩ else none := rfl
  rw [e, if_pos hw, h]
  simp [atI, ixN]
theorem in_sign (neg : Bool) (c : Nat) (z : Str) : inD neg (.str (mk [c])) (.str z) = some (.bl (if neg then !decide (c ∈ cs z) else decide (c ∈ cs z))) := by
  rfl
theorem bools_map (f : Nat → Bool) (l : List Nat) : bools (l.map fun c => D.bl (f c)) = some (l.map f) := by
  induction l with
  | nil => rfl
  | cons c r ih => simp [bools, ih]
theorem signs_of (w : Str) (c0 : Str) : (cs w).map (fun c => D.str ⟨#[c]⟩) = (cs w).map fun c => D.str (mk [c]) := rfl
theorem x_is_name (n : Nat) (w : Str) (hw : w.length ≤ 1000000) : run (n + 1) 1 [.d (.str w)] [] = .ok (.d (.bl (nameOk w))) [] := by
  have hz := small hw
  have h1 : lenD (.str w) = some (.int (w.length : Int)) := if_pos hz
  have h2 : eqD' (.str w) (.str "") = some (.bl (decide (w = ""))) := rfl
  have h3 := in_kept w
  have h5 : gtD (.int (w.length : Int)) (.int 12) = some (.bl (decide ((12 : Int) < w.length))) := rfl
  rw [run1]
  unfold b1
  cases ec : cs w with
  | nil =>
    have e0 : w = "" := str_ext ec
    have e1 : nameOk w = false := by
      unfold nameOk
      rw [ec]
      simp
    rw [decide_eq_true e0] at h2
    repeat (first | walk_at "ev" | simp only [h2, e1])
  | cons c r =>
    have e0 : decide (w = "") = false := decide_eq_false (by rintro rfl; cases ec)
    have h4 := idx0 ec hz
    have h6 := in_sign true c "abcdefghijklmnopqrstuvwxyz"
    have hl : w.length = r.length + 1 := by rw [len_cs, ec]; rfl
    have e1 : nameOk w = (decide (r.length ≤ 11) && !kept.contains w && decide (c ∈ letters) && (c :: r).all fun c => decide (c ∈ letters) || decide (c ∈ digits)) := by
      unfold nameOk
      rw [ec, List.length_cons]
      rw [show decide (r.length + 1 ≤ 12) = decide (r.length ≤ 11) from by simp]
    rw [e1]
    by_cases g1 : r.length ≤ 11
    · have f1 : decide ((12 : Int) < w.length) = false := decide_eq_false (by omega)
      cases g2 : kept.contains w with
      | true => repeat (first | walk_at "ev" | simp only [h1, h2, h3, h5, e0, f1, g2, Bool.and_false, Bool.false_and])
      | false =>
        by_cases g3 : c ∈ letters
        · have f3 : decide (c ∈ cs "abcdefghijklmnopqrstuvwxyz") = true := decide_eq_true g3
          have f4 : (cs w).length ≤ sizeLine := by rw [← len_cs]; exact hz
          have f5 : compL (gN 1) bYes (eOr (eOp2 (inD false) (eV 1) (eC (.str "abcdefghijklmnopqrstuvwxyz"))) (eOp2 (inD false) (eV 1) (eC (.str "0123456789")))) (wipeL [some (.d (.str w)), none] [1]) ((cs w).map fun c => D.str (mk [c])) [] [] =
              .ok (((cs w).map fun c => D.str (mk [c])).map fun d => match d with
                | .str x => .bl ((cs x).all fun c => decide (c ∈ letters) || decide (c ∈ digits))
                | _ => .non) [] := by
            refine compL_all _ _ _ fun d hd => ?_
            obtain ⟨k, _, rfl⟩ := List.mem_map.mp hd
            refine ⟨_, rfl, ?_⟩
            have q1 := in_sign false k "abcdefghijklmnopqrstuvwxyz"
            have q2 := in_sign false k "0123456789"
            by_cases m1 : k ∈ letters
            · have m1' : decide (k ∈ cs "abcdefghijklmnopqrstuvwxyz") = true := decide_eq_true m1
              repeat (first | walk_at "ev" | simp only [q1, q2, m1', decide_eq_true m1, wipeL, Bool.or_true, cs_mk, List.all_cons, List.all_nil])
            · have m1' : decide (k ∈ cs "abcdefghijklmnopqrstuvwxyz") = false := decide_eq_false m1
              have m2 : decide (k ∈ digits) = decide (k ∈ cs "0123456789") := rfl
              repeat (first | walk_at "ev" | simp only [q1, q2, m1', decide_eq_false m1, wipeL, Bool.or_false, Bool.false_or, m2, cs_mk, List.all_cons, List.all_nil])
          have f6 : (((cs w).map fun c => D.str (mk [c])).map fun d => match d with
                | .str x => D.bl ((cs x).all fun c => decide (c ∈ letters) || decide (c ∈ digits))
                | _ => .non) = (cs w).map fun c => D.bl (decide (c ∈ letters) || decide (c ∈ digits)) := by
            rw [List.map_map]
            refine List.map_congr_left fun k _ => ?_
            simp
          have f7 : allB (.lst ((cs w).map fun c => D.bl (decide (c ∈ letters) || decide (c ∈ digits)))) = some (.bl ((c :: r).all fun c => decide (c ∈ letters) || decide (c ∈ digits))) := by
            unfold allB
            simp only [bools_map, Option.map_some, ec, List.all_map]
            rfl
          repeat (first | walk_at "ev" | simp only [h1, h2, h3, h4, h5, h6, e0, f1, g2, f3, f4, f5, f6, f7, List.length_map, decide_eq_true g1, decide_eq_true g3])
        · have f3 : decide (c ∈ cs "abcdefghijklmnopqrstuvwxyz") = false := decide_eq_false g3
          repeat (first | walk_at "ev" | simp only [h1, h2, h3, h4, h5, h6, e0, f1, g2, f3, decide_eq_false g3, Bool.and_false, Bool.false_and])
    · have f1 : decide ((12 : Int) < w.length) = true := decide_eq_true (by omega)
      repeat (first | walk_at "ev" | simp only [h1, h2, h3, h5, e0, f1, decide_eq_false g1, Bool.and_false, Bool.false_and])
theorem eqs_f {a b : Str} (h : decide (a = b) = false) : eqD' (.str a) (.str b) = some (.bl false) := by
  show some (D.bl (decide (a = b))) = _
  rw [h]
theorem eqs_t (a : Str) : eqD' (.str a) (.str a) = some (.bl true) := by
  show some (D.bl (decide (a = a))) = _
  rw [decide_eq_true rfl]
theorem nes_f {a b : Str} (h : decide (a = b) = false) : neD' (.str a) (.str b) = some (.bl true) := by
  show some (D.bl (!decide (a = b))) = _
  rw [h]
  rfl
theorem nes_t (a : Str) : neD' (.str a) (.str a) = some (.bl false) := by
  show some (D.bl (!decide (a = a))) = _
  rw [decide_eq_true rfl]
  rfl
theorem r1_nat {S : Store} {n : Nat} (h : n ≤ 1000000) : itR1 (.d (.int (n : Int))) S = .ok (rng 0 n) S := by
  rw [itR1_int, if_pos ⟨by omega, by omega⟩, Int.toNat_natCast]
theorem r2_small {S : Store} {i j : Int} {n : Nat} (h1 : -1000000 ≤ i) (h2 : j ≤ 1000000) (h3 : j = i + n) : itR2 (.d (.int i)) (.d (.int j)) S = .ok (rng i n) S := by
  rw [itR2_int, if_pos ⟨⟨by omega, by omega⟩, by omega, by omega⟩]
  congr 2
  omega
theorem iR1_nat {L : Ev.Loc} {S S1 : Store} {e : SE} {n : Nat} (h : e L S = .ok (.d (.int (n : Int))) S1) (hn : n ≤ 1000000) : iR1 e L S = .ok (rng 0 n) S1 := by
  rw [iR1_eq, h, bind_ok]
  exact r1_nat hn
theorem iR2_small {L : Ev.Loc} {S S1 S2 : Store} {e e' : SE} {i j : Int} {n : Nat} (h : e L S = .ok (.d (.int i)) S1) (h' : e' L S1 = .ok (.d (.int j)) S2) (h1 : -1000000 ≤ i) (h2 : j ≤ 1000000) (h3 : j = i + n) : iR2 e e' L S = .ok (rng i n) S2 := by
  rw [iR2_eq, h, bind_ok, h', bind_ok]
  exact r2_small h1 h2 h3
/-! ### numbers as words -/
theorem cs_of (s : String) : cs (Str.ofString s) = s.toList.map Char.toNat := by
  rw [PySem.Str.ofString_eq_toList]
def numT (i : Int) : Str := Str.ofString (toString i)
theorem numT_pos (n : Nat) : cs (numT (n : Int)) = numL n := tl_num n
theorem numT_neg (n : Nat) : cs (numT (-((n + 1 : Nat) : Int))) = 45 :: numL (n + 1) := by
  have e : toString (-((n + 1 : Nat) : Int)) = "-" ++ toString ((n + 1 : Nat) : Int) := rfl
  unfold numT
  rw [e, cs_of, String.toList_append, List.map_append, ← cs_of, ← cs_of, show cs (Str.ofString (toString ((n + 1 : Nat) : Int))) = _ from tl_num (n + 1)]
  rfl
theorem numT_cases (i : Int) : (0 ≤ i ∧ cs (numT i) = numL i.toNat) ∨ (i < 0 ∧ cs (numT i) = 45 :: numL i.natAbs) := by
  cases i with
  | ofNat n => exact .inl ⟨Int.natCast_nonneg n, numT_pos n⟩
  | negSucc n => exact .inr ⟨by omega, numT_neg n⟩
def numOk (w : Str) : Bool :=
  let d := match cs w with
    | 45 :: r => r
    | l => l
  !d.isEmpty && decide (d.length ≤ 9) && d.all (fun c => decide (c ∈ digits)) && (decide (w = "0") || !(match d with
    | 48 :: _ => true
    | _ => false))
def unminus (w : Str) : List Nat := match cs w with
  | 45 :: r => r
  | l => l
theorem extract_cs (w : Str) (i j : Nat) : cs (Builtin.Str.strSub w i j) = ((cs w).take j).drop i := by
  unfold Builtin.Str.strSub
  show (w.cps.extract i j).toList = _
  rw [Array.toList_extract, List.extract_eq_take_drop, List.drop_take]
theorem rp_cs (w : Str) : cs (Txt.removeprefix w "-") = unminus w := by
  unfold Txt.removeprefix Txt.affix unminus
  rw [PySem.StrLaws.subAt_eq]
  have hm : (Str.ofString "-").cps.toList = [45] := by decide +kernel
  have hm1 : (Str.ofString "-").length = 1 := by decide +kernel
  rw [hm, hm1, List.drop_zero]
  cases ec : cs w with
  | nil =>
    have ec' : w.cps.toList = [] := ec
    rw [ec']
    have : (([] : List Nat).take 1 == [45]) = false := rfl
    rw [this]
    simp only [Bool.false_eq_true, if_false]
    rw [ec]
  | cons c r =>
    have ec' : w.cps.toList = c :: r := ec
    have hl : w.length = r.length + 1 := by rw [len_cs, ec]; rfl
    rw [ec']
    by_cases h : c = 45
    · subst h
      simp only [List.take_succ_cons, List.take_zero, beq_self_eq_true, if_true]
      rw [if_neg (by rw [beq_iff_eq]; omega), extract_cs, ec, hl]
      simp
    · have h' : (([c] : List Nat) == [45]) = false := by simpa using h
      simp only [List.take_succ_cons, List.take_zero, h', Bool.false_eq_true, if_false]
      rw [ec]
      split
      · rename_i e; injection e with e1 e2; exact (h e1).elim
      · rfl
theorem sw_cs (w : Str) : Txt.startswith w "0" = (match cs w with
    | 48 :: _ => true
    | _ => false) := by
  unfold Txt.startswith
  rw [PySem.StrLaws.subAt_eq]
  have hm : (Str.ofString "0").cps.toList = [48] := by decide +kernel
  have hm1 : (Str.ofString "0").length = 1 := by decide +kernel
  rw [hm, hm1, List.drop_zero]
  cases ec : cs w with
  | nil =>
    have ec' : w.cps.toList = [] := ec
    rw [ec']
    simp
  | cons c r =>
    have ec' : w.cps.toList = c :: r := ec
    have hl : w.length = r.length + 1 := by rw [len_cs, ec]; rfl
    rw [ec', hl]
    by_cases h : c = 48
    · subst h
      simp
    · have h' : (([c] : List Nat) == [48]) = false := by simpa using h
      simp only [List.take_succ_cons, List.take_zero, h', Bool.and_false]
      split
      · rename_i e; injection e with e1 e2; exact (h e1).elim
      · rfl
theorem digit_mem (c : Nat) : c ∈ digits ↔ 48 ≤ c ∧ c ≤ 57 := by
  have e : digits = [48, 49, 50, 51, 52, 53, 54, 55, 56, 57] := by decide +kernel
  rw [e]
  simp only [List.mem_cons, List.not_mem_nil, or_false]
  omega
theorem x_is_number (n : Nat) (w : Str) (hw : w.length ≤ 1000000) : run (n + 1) 5 [.d (.str w)] [] = .ok (.d (.bl (numOk w))) [] := by
  have hz := small hw
  rw [run5]
  unfold b5
  generalize ed : Txt.removeprefix w "-" = d
  have hd := rp_cs w
  rw [ed] at hd
  have hl : d.length ≤ w.length := by
    rw [len_cs, len_cs, hd]
    unfold unminus
    split <;> simp_all
  have h0 : rempD w (.str "-") = some (.str d) := by
    unfold rempD
    simp only [if_pos hz, ed]
  have h1 : eqD' (.str d) (.str "") = some (.bl (decide (d = ""))) := rfl
  have h2 : lenD (.str d) = some (.int (d.length : Int)) := if_pos (small (Nat.le_trans hl hw))
  have h3 : gtD (.int (d.length : Int)) (.int 9) = some (.bl (decide ((9 : Int) < d.length))) := rfl
  have h4 : eqD' (.str w) (.str "0") = some (.bl (decide (w = "0"))) := rfl
  have h5 : startsD d (.str "0") = some (.bl (match cs d with
    | 48 :: _ => true
    | _ => false)) := congrArg (fun b => some (D.bl b)) (sw_cs d)
  have e1 : numOk w = (!(cs d).isEmpty && decide ((cs d).length ≤ 9) && (cs d).all (fun c => decide (c ∈ digits)) && (decide (w = "0") || !(match cs d with
    | 48 :: _ => true
    | _ => false))) := by
    rw [hd]
    rfl
  rw [e1]
  cases ec : cs d with
  | nil =>
    have e0 : decide (d = "") = true := decide_eq_true (str_ext ec)
    repeat (first | walk_at "ev" | simp only [h0, h1, e0, List.isEmpty_nil, Bool.false_and])
  | cons c r =>
    have e0 : decide (d = "") = false := decide_eq_false (by rintro rfl; cases ec)
    have hl2 : d.length = r.length + 1 := by rw [len_cs, ec]; rfl
    by_cases g1 : r.length ≤ 8
    · have f1 : decide ((9 : Int) < d.length) = false := decide_eq_false (by omega)
      have f4 : (cs d).length ≤ sizeLine := by rw [← len_cs]; exact small (Nat.le_trans hl hw)
      have f5 : compL (gN 2) bYes (eOp2 (inD false) (eV 2) (eC (.str "0123456789"))) (wipeL [some (.d (.str w)), some (.d (.str d)), none] [2]) ((cs d).map fun c => D.str (mk [c])) [] [] =
          .ok (((cs d).map fun c => D.str (mk [c])).map fun d => match d with
            | .str x => .bl ((cs x).all fun c => decide (c ∈ digits))
            | _ => .non) [] := by
        refine compL_all _ _ _ fun d hd => ?_
        obtain ⟨k, _, rfl⟩ := List.mem_map.mp hd
        refine ⟨_, rfl, ?_⟩
        have q1 := in_sign false k "0123456789"
        have m2 : decide (k ∈ digits) = decide (k ∈ cs "0123456789") := rfl
        repeat (first | walk_at "ev" | simp only [q1, wipeL, cs_mk, List.all_cons, List.all_nil, m2])
      have f6 : (((cs d).map fun c => D.str (mk [c])).map fun d => match d with
            | .str x => D.bl ((cs x).all fun c => decide (c ∈ digits))
            | _ => .non) = (cs d).map fun c => D.bl (decide (c ∈ digits)) := by
        rw [List.map_map]
        refine List.map_congr_left fun k _ => ?_
        simp
      have f7 : allB (.lst ((cs d).map fun c => D.bl (decide (c ∈ digits)))) = some (.bl ((c :: r).all fun c => decide (c ∈ digits))) := by
        unfold allB
        simp only [bools_map, Option.map_some, ec, List.all_map]
        rfl
      rw [ec] at h5
      cases g2 : (c :: r).all (fun c => decide (c ∈ digits)) with
      | false => repeat (first | walk_at "ev" | simp only [h0, h1, h2, h3, e0, f1, f4, f5, f6, f7, g2, List.length_map, Bool.and_false, Bool.false_and])
      | true =>
        have g3 : decide (r.length + 1 ≤ 9) = true := decide_eq_true (by omega)
        have g4 : decide (r.length ≤ 8) = true := decide_eq_true g1
        cases g5 : decide (w = "0") with
        | true => repeat (first | walk_at "ev" | simp only [h0, h1, h2, h3, h4, e0, f1, f4, f5, f6, f7, g2, g3, g4, g5, List.length_map, List.isEmpty_cons])
        | false => repeat (first | walk_at "ev" | simp only [h0, h1, h2, h3, h4, h5, e0, f1, f4, f5, f6, f7, g2, g3, g4, g5, List.length_map, List.isEmpty_cons, Bool.false_or])
    · have f1 : decide ((9 : Int) < d.length) = true := decide_eq_true (by omega)
      have g3 : decide (r.length + 1 ≤ 9) = false := decide_eq_false (by omega)
      have g4 : decide (r.length ≤ 8) = false := decide_eq_false g1
      repeat (first | walk_at "ev" | simp only [h0, h1, h2, h3, e0, f1, g3, g4, Bool.and_false, Bool.false_and])
theorem numL_len9 {n : Nat} (h : n ≤ 999999999) : (numL n).length ≤ 9 := numL_len (by decide) (by omega)
/-- no zero ahead -/
theorem numL_head : ∀ n : Nat, n ≠ 0 → ∃ c r, numL n = c :: r ∧ c ≠ 48 := fun n => by
  induction n using Nat.strongRecOn with
  | _ n ih =>
    intro h
    by_cases h10 : n < 10
    · exact ⟨48 + n, [], numL_lt h10, by omega⟩
    · obtain ⟨c, r, e, q⟩ := ih (n / 10) (by omega) (by omega)
      exact ⟨c, r ++ [48 + n % 10], by rw [numL_step (by omega), e]; rfl, q⟩
theorem numL_all (n : Nat) : (numL n).all (fun c => decide (c ∈ digits)) = true := by
  rw [List.all_eq_true]
  intro c hc
  rw [decide_eq_true_eq, digit_mem]
  exact numL_digits n c hc
theorem num_codes (i : Int) (h1 : -999999999 ≤ i) (h2 : i ≤ 999999999) : numOk (numT i) = true := by
  have fin : ∀ k : Nat, k ≤ 999999999 → unminus (numT i) = numL k → (k = 0 → i = 0) → numOk (numT i) = true := fun k hk e hz => by
    have e1 : numOk (numT i) = (!(unminus (numT i)).isEmpty && decide ((unminus (numT i)).length ≤ 9) && (unminus (numT i)).all (fun c => decide (c ∈ digits)) && (decide (numT i = "0") || !(match unminus (numT i) with
      | 48 :: _ => true
      | _ => false))) := rfl
    rw [e1, e, numL_all, decide_eq_true (numL_len9 hk)]
    have ne := numL_ne k
    by_cases h0 : k = 0
    · have : numT i = "0" := by rw [hz h0]; rfl
      rw [decide_eq_true this]
      subst h0
      rfl
    · obtain ⟨c, r, e2, q⟩ := numL_head k h0
      rw [e2]
      have : (match (c :: r : List Nat) with
        | 48 :: _ => true
        | _ => false) = false := by
        split
        · rename_i e3; injection e3 with e3 _; exact (q e3).elim
        · rfl
      rw [this]
      simp
  rcases numT_cases i with ⟨h, e⟩ | ⟨h, e⟩
  · refine fin i.toNat (by omega) ?_ (by omega)
    unfold unminus
    rw [e]
    split
    · rename_i r e2
      exact (numL_free (n := i.toNat) (s := 45) (by omega) (by rw [e2]; exact List.mem_cons_self)).elim
    · rfl
  · refine fin i.natAbs (by omega) ?_ (by omega)
    unfold unminus
    rw [e]
    rfl
theorem num_len (i : Int) (h1 : -999999999 ≤ i) (h2 : i ≤ 999999999) : (numT i).length ≤ 10 := by
  rw [len_cs]
  rcases numT_cases i with ⟨h, e⟩ | ⟨h, e⟩
  · rw [e]
    have := numL_len9 (n := i.toNat) (by omega)
    omega
  · rw [e]
    have := numL_len9 (n := i.natAbs) (by omega)
    rw [List.length_cons]
    omega
theorem num_read (i : Int) (h1 : -999999999 ≤ i) (h2 : i ≤ 999999999) : intD (.str (numT i)) = some (.int i) := by
  have hl := num_len i h1 h2
  have e : intD (.str (numT i)) = if (numT i).length ≤ 640 then (PySem.intText? (numT i)).map .int else none := rfl
  rw [e, if_pos (by omega)]
  rcases numT_cases i with ⟨h, e⟩ | ⟨h, e⟩
  · rw [PySem.intText_digits (by rw [show (numT i).cps.toList = _ from e]; exact numL_digits _) (by rw [show (numT i).cps.toList = _ from e]; exact numL_ne _) (by omega), show (numT i).cps.toList = _ from e, numL_val]
    simp only [Option.map_some]
    congr 2
    omega
  · rw [PySem.intText_neg (show (numT i).cps.toList = _ from e) (numL_digits _) (numL_ne _) (by omega), numL_val]
    simp only [Option.map_some]
    congr 2
    omega
/-! ### expressions and conditions, with their words -/
abbrev wl (ws : List Str) : D := .lst (ws.map .str)
def binO : List Str := ["plus", "minus", "times", "least", "most"]
def twoC : List Str := ["both", "either"]
def cmpC : List Str := ["below", "same"]
mutual
inductive Amt : Nat → D → List Str → Prop where
  | num {k : Nat} {i : Int} : -999999999 ≤ i → i ≤ 999999999 → Amt k (.tup [.str "number", .int i]) [numT i]
  | fact {k : Nat} {w : Str} : nameOk w = true → Amt k (.tup [.str "fact", .str w, .non]) ["fact", w]
  | factOr {k : Nat} {w : Str} {t : D} {ws : List Str} : nameOk w = true → Amt k t ws → Amt (k + 1) (.tup [.str "fact", .str w, t]) ("fact" :: w :: "or" :: ws)
  | due {k : Nat} {w : Str} : nameOk w = true → Amt k (.tup [.str "due", .str w]) ["due", w]
  | bin {k : Nat} {o : Str} {a b : D} {wa wb : List Str} : o ∈ binO → Amt k a wa → Amt k b wb → Amt (k + 1) (.tup [.str o, a, b]) (o :: (wa ++ wb))
  | pct {k : Nat} {p : Int} {a : D} {wa : List Str} : 0 ≤ p → p ≤ 1000 → Amt k a wa → Amt (k + 1) (.tup [.str "percent", .int p, a]) ("percent" :: numT p :: wa)
  | ite {k : Nat} {c a b : D} {wc wa wb : List Str} : Cnd k c wc → Amt k a wa → Amt k b wb → Amt (k + 1) (.tup [.str "if", c, a, b]) ("if" :: (wc ++ (wa ++ wb)))
inductive Cnd : Nat → D → List Str → Prop where
  | known {k : Nat} {w : Str} : nameOk w = true → Cnd k (.tup [.str "known", .str w]) ["known", w]
  | not {k : Nat} {c : D} {wc : List Str} : Cnd k c wc → Cnd (k + 1) (.tup [.str "not", c]) ("not" :: wc)
  | two {k : Nat} {o : Str} {c d : D} {wc wd : List Str} : o ∈ twoC → Cnd k c wc → Cnd k d wd → Cnd (k + 1) (.tup [.str o, c, d]) (o :: (wc ++ wd))
  | cmp {k : Nat} {o : Str} {a b : D} {wa wb : List Str} : o ∈ cmpC → Amt k a wa → Amt k b wb → Cnd (k + 1) (.tup [.str o, a, b]) (o :: (wa ++ wb))
end
theorem name_len {w : Str} (h : nameOk w = true) : w.length ≤ 12 ∧ 1 ≤ w.length := by
  unfold nameOk at h
  simp only [Bool.and_eq_true, decide_eq_true_eq] at h
  obtain ⟨⟨⟨h1, _⟩, h3⟩, _⟩ := h
  rw [len_cs]
  refine ⟨h1, ?_⟩
  cases e : cs w with
  | nil => rw [e] at h3; cases h3
  | cons c r => simp
theorem name_kept {w : Str} (h : nameOk w = true) : w ∉ kept := by
  unfold nameOk at h
  simp only [Bool.and_eq_true, Bool.not_eq_true'] at h
  obtain ⟨⟨⟨_, h2⟩, _⟩, _⟩ := h
  intro m
  rw [List.contains_iff_mem.mpr m] at h2
  cases h2
theorem atI_nat' {α : Type} {xs : List α} {i : Nat} {x : α} (h : xs[i]? = some x) : atI xs (i : Int) = some x := by
  have hi := (List.getElem?_eq_some_iff.mp h).1
  unfold atI ixN
  rw [if_pos (by omega), if_pos (by omega)]
  simpa using h
theorem idx_lst {ds : List D} {i : Nat} {d : D} (h : ds[i]? = some d) : idxD (.lst ds) (.int (i : Int)) = some d := atI_nat' h
theorem wl_get {ws : List Str} {i : Nat} {w : Str} (h : ws[i]? = some w) : (ws.map D.str)[i]? = some (.str w) := by
  rw [List.getElem?_map, h]; rfl
theorem mid_get {pre rest : List Str} {w : Str} : (pre ++ w :: rest)[pre.length]? = some w := by simp
theorem x_word_at (n : Nat) (ws : List Str) (i : Nat) (w : Str) (h : ws[i]? = some w) : run (n + 1) 15 [.d (wl ws), .d (.int (i : Int))] [] = .ok (.d (.str w)) [] := by
  have hi := (List.getElem?_eq_some_iff.mp h).1
  have h1 : lenD (wl ws) = some (.int (ws.length : Int)) := by
    show some (D.int ((ws.map D.str).length : Int)) = _
    rw [List.length_map]
  have h2 : eqD' (.int (i : Int)) (.int (ws.length : Int)) = some (.bl false) := by
    show some (D.bl (decide _)) = _
    rw [decide_eq_false (by omega)]
  have h3 := idx_lst (wl_get h)
  rw [run15]
  unfold b15
  repeat (first | walk_at "ev" | simp only [h1, h2, h3])
theorem x_read_name (n : Nat) (ws : List Str) (i : Nat) (w : Str) (h : ws[i]? = some w) (hw : nameOk w = true) : run (n + 2) 14 [.d (wl ws), .d (.int (i : Int))] [] = .ok (.d (.tup [.str w, .int ((i + 1 : Nat) : Int)])) [] := by
  have h1 := x_word_at n ws i w h
  have h2 := x_is_name n w (Nat.le_trans (name_len hw).1 (by decide))
  have h3 : addD (.int (i : Int)) (.int 1) = some (.int ((i + 1 : Nat) : Int)) := rfl
  rw [run14]
  unfold b14
  repeat (first | walk_at "ev" | simp only [h1, h2, h3, hw])
theorem x_read_hundredths (n : Nat) (ws : List Str) (i : Nat) (p : Int) (h : ws[i]? = some (numT p)) (h1 : 0 ≤ p) (h2 : p ≤ 1000) : run (n + 2) 13 [.d (wl ws), .d (.int (i : Int))] [] = .ok (.d (.tup [.int p, .int ((i + 1 : Nat) : Int)])) [] := by
  have e1 := x_word_at n ws i _ h
  have e2 := x_is_number n (numT p) (Nat.le_trans (num_len p (by omega) (by omega)) (by decide))
  rw [num_codes p (by omega) (by omega)] at e2
  have e3 : addD (.int (i : Int)) (.int 1) = some (.int ((i + 1 : Nat) : Int)) := rfl
  have e4 := num_read p (by omega) (by omega)
  have e5 : leD (.int 0) (.int p) = some (.bl true) := by
    show some (D.bl (decide _)) = _
    rw [decide_eq_true h1]
  have e6 : leD (.int p) (.int 1000) = some (.bl true) := by
    show some (D.bl (decide _)) = _
    rw [decide_eq_true h2]
  rw [run13]
  unfold b13 eChain
  repeat (first | walk_at "ev" | simp only [e1, e2, e3, e4, e5, e6])
/-- the parts that are read, one behind the other -/
inductive Reads (n : Nat) (W : D) : List D → Nat → List D → Nat → Prop where
  | nil {a : Nat} : Reads n W [] a [] a
  | cons {k p : D} {ks ps : List D} {a a' e : Nat} : run n 12 [.d W, .d (.int (a : Int)), .d k] [] = .ok (.d (.tup [p, .int (a' : Int)])) [] → Reads n W ks a' ps e → Reads n W (k :: ks) a (p :: ps) e
theorem parts_loop {n : Nat} {W : D} {w0 a0 k0 : Val} : ∀ {ks ps : List D} {a e : Nat} {x y : Option Val} {acc : List D}, Reads n W ks a ps e → acc.length + ks.length ≤ 1000 →
    ∃ x' y', forL (gN 5) (sSeq (sAsg (eCallI (run n 12) 3 (aC (eV 0) (aC (eV 4) (aC (eV 5) aN)))) (gT 2 (gsC (gN 6) (gsC (gN 4) gsN)))) (sEx (eAppend (eV 3) (eV 6)))) ks [some (.d W), some a0, some k0, some (.ref 0), some (.d (.int (a : Int))), x, y] [.lst acc] =
      .nx [some (.d W), some a0, some k0, some (.ref 0), some (.d (.int (e : Int))), x', y'] [.lst (acc ++ ps)]
  | [], ps, a, e, x, y, acc, h, hz => by
    cases h
    refine ⟨x, y, ?_⟩
    rw [forL_nil, List.append_nil]
  | k :: ks, ps, a, e, x, y, acc, h, hz => by
    cases h with
    | @cons _ p _ ps _ a' _ h1 h2 =>
      have hz' : acc.length < sizeLine := Nat.lt_of_lt_of_le (by simp at hz; omega) (small (Nat.le_refl 1000000))
      obtain ⟨x', y', ih⟩ := parts_loop (w0 := w0) (a0 := a0) (k0 := k0) (x := some (.d k)) (y := some (.d p)) (acc := acc ++ [p]) h2 (by simp at hz ⊢; omega)
      refine ⟨x', y', ?_⟩
      rw [forL_cons]
      repeat (first | walk_at "ev" | simp only [h1, hz', ih])
      rw [List.append_assoc]
      rfl
theorem x_read_parts (n : Nat) (ws : List Str) (a e : Nat) (o : Str) (ks ps : List D) (h : ws[a]? = some o) (hr : Reads n (wl ws) ks (a + 1) ps e) (hk : ks.length ≤ 900) :
    run (n + 1) 11 [.d (wl ws), .d (.int (a : Int)), .d (.tup ks)] [] = .ok (.d (.tup [.tup (.str o :: ps), .int (e : Int)])) [.lst (.str o :: ps)] := by
  have h1 := idx_lst (wl_get h)
  have h3 : addD (.int (a : Int)) (.int 1) = some (.int ((a + 1 : Nat) : Int)) := rfl
  obtain ⟨x', y', hl⟩ := parts_loop (w0 := .d .non) (a0 := .d (.int (a : Int))) (k0 := .d (.tup ks)) (x := none) (y := none) (acc := [.str o]) hr (by simp; omega)
  have h4 : tupleD (.lst (.str o :: ps)) = some (.tup (.str o :: ps)) := rfl
  rw [run11]
  unfold b11
  repeat (first | walk_at "ev" | simp only [h1, h3, hl, h4])
/-! ### the program's parser reads the words of an expression -/
def rdA (n : Nat) (W : D) (a e : Nat) (t : D) : Prop := run n 8 [.d W, .d (.int (a : Int))] [] = .ok (.d (.tup [t, .int (e : Int)])) []
def rdC (n : Nat) (W : D) (a e : Nat) (t : D) : Prop := run n 9 [.d W, .d (.int (a : Int))] [] = .ok (.d (.tup [t, .int (e : Int)])) []
theorem part_amount {n a e : Nat} {W t : D} (h : rdA n W a e t) : run (n + 1) 12 [.d W, .d (.int (a : Int)), .d (.str "amount")] [] = .ok (.d (.tup [t, .int (e : Int)])) [] := by
  unfold rdA at h
  have h1 := eqs_t "amount"
  rw [run12]
  unfold b12
  repeat (first | walk_at "ev" | simp only [h, h1])
theorem part_condition {n a e : Nat} {W t : D} (h : rdC n W a e t) : run (n + 1) 12 [.d W, .d (.int (a : Int)), .d (.str "condition")] [] = .ok (.d (.tup [t, .int (e : Int)])) [] := by
  unfold rdC at h
  have h1 := eqs_f (a := "condition") (b := "amount") (by decide +kernel)
  have h2 := eqs_t "condition"
  rw [run12]
  unfold b12
  repeat (first | walk_at "ev" | simp only [h, h1, h2])
theorem part_hundredths {n : Nat} {ws : List Str} {i : Nat} {p : Int} (h : ws[i]? = some (numT p)) (h1 : 0 ≤ p) (h2 : p ≤ 1000) : run (n + 3) 12 [.d (wl ws), .d (.int (i : Int)), .d (.str "hundredths")] [] = .ok (.d (.tup [.int p, .int ((i + 1 : Nat) : Int)])) [] := by
  have h := x_read_hundredths n ws i p h h1 h2
  have h1 := eqs_f (a := "hundredths") (b := "amount") (by decide +kernel)
  have h2 := eqs_f (a := "hundredths") (b := "condition") (by decide +kernel)
  have h3 := eqs_t "hundredths"
  rw [run12]
  unfold b12
  repeat (first | walk_at "ev" | simp only [h, h1, h2, h3])
theorem part_name {n : Nat} {ws : List Str} {i : Nat} {w : Str} (h : ws[i]? = some w) (hw : nameOk w = true) : run (n + 3) 12 [.d (wl ws), .d (.int (i : Int)), .d (.str "name")] [] = .ok (.d (.tup [.str w, .int ((i + 1 : Nat) : Int)])) [] := by
  have h := x_read_name n ws i w h hw
  have h1 := eqs_f (a := "name") (b := "amount") (by decide +kernel)
  have h2 := eqs_f (a := "name") (b := "condition") (by decide +kernel)
  have h3 := eqs_f (a := "name") (b := "hundredths") (by decide +kernel)
  rw [run12]
  unfold b12
  repeat (first | walk_at "ev" | simp only [h, h1, h2, h3])
/-- a first word that has parts -/
theorem amount_parts {n : Nat} {ws : List Str} {a e : Nat} {o : Str} {ks ps : List D} (h : ws[a]? = some o) (ho : o.length ≤ 20) (h1 : numOk o = false) (h2 : decide (o = "fact") = false) (h3 : kAMOUNTS.lookup o = some (.tup ks)) (hk : ks.length ≤ 900)
    (hr : Reads (n + 1) (wl ws) ks (a + 1) ps e) : rdA (n + 3) (wl ws) a e (.tup (.str o :: ps)) := by
  have e1 := x_word_at (n + 1) ws a o h
  have e2 := x_is_number (n + 1) o (Nat.le_trans ho (by decide))
  rw [h1] at e2
  have e3 := eqs_f h2
  have e4 : kInD true kAMOUNTS (.str o) = some (.bl false) := by
    show some (D.bl (!(kAMOUNTS.lookup o).isSome)) = _
    rw [h3]; rfl
  have e5 : kGetD kAMOUNTS (.str o) = some (.tup ks) := h3
  have e6 := x_read_parts (n + 1) ws a e o ks ps h hr hk
  unfold rdA
  rw [run8]
  unfold b8
  repeat (first | walk_at "ev" | simp only [e1, e2, e3, e4, e5, e6])
theorem condition_parts {n : Nat} {ws : List Str} {a e : Nat} {o : Str} {ks ps : List D} (h : ws[a]? = some o) (h3 : kCONDITIONS.lookup o = some (.tup ks)) (hk : ks.length ≤ 900)
    (hr : Reads (n + 1) (wl ws) ks (a + 1) ps e) : rdC (n + 3) (wl ws) a e (.tup (.str o :: ps)) := by
  have e1 := x_word_at (n + 1) ws a o h
  have e4 : kInD true kCONDITIONS (.str o) = some (.bl false) := by
    show some (D.bl (!(kCONDITIONS.lookup o).isSome)) = _
    rw [h3]; rfl
  have e5 : kGetD kCONDITIONS (.str o) = some (.tup ks) := h3
  have e6 := x_read_parts (n + 1) ws a e o ks ps h hr hk
  unfold rdC
  rw [run9]
  unfold b9
  repeat (first | walk_at "ev" | simp only [e1, e4, e5, e6])
theorem amount_num {n : Nat} {ws : List Str} {a : Nat} {i : Int} (h : ws[a]? = some (numT i)) (h1 : -999999999 ≤ i) (h2 : i ≤ 999999999) : rdA (n + 2) (wl ws) a (a + 1) (.tup [.str "number", .int i]) := by
  have e1 := x_word_at n ws a _ h
  have e2 := x_is_number n (numT i) (Nat.le_trans (num_len i h1 h2) (by decide))
  rw [num_codes i h1 h2] at e2
  have e3 := num_read i h1 h2
  have e4 : addD (.int (a : Int)) (.int 1) = some (.int ((a + 1 : Nat) : Int)) := rfl
  unfold rdA
  rw [run8]
  unfold b8
  repeat (first | walk_at "ev" | simp only [e1, e2, e3, e4])
theorem fact_alone {n : Nat} {ws : List Str} {a : Nat} {w : Str} (h : ws[a + 1]? = some w) (hw : nameOk w = true) (hn : ws[a + 2]? ≠ some ("or" : Str)) (hl : a + 2 ≤ ws.length) :
    run (n + 3) 10 [.d (wl ws), .d (.int (a : Int))] [] = .ok (.d (.tup [.tup [.str "fact", .str w, .non], .int ((a + 2 : Nat) : Int)])) [] := by
  have e1 := x_read_name n ws (a + 1) w h hw
  have e2 : addD (.int (a : Int)) (.int 1) = some (.int ((a + 1 : Nat) : Int)) := rfl
  have e3 : lenD (wl ws) = some (.int (ws.length : Int)) := by
    show some (D.int ((ws.map D.str).length : Int)) = _
    rw [List.length_map]
  have e4 : eqD' (.int ((a + 1 + 1 : Nat) : Int)) (.int (ws.length : Int)) = some (.bl (decide (((a + 1 + 1 : Nat) : Int) = (ws.length : Int)))) := rfl
  rw [run10]
  unfold b10
  by_cases c : a + 2 = ws.length
  · have c1 : decide (((a + 1 + 1 : Nat) : Int) = (ws.length : Int)) = true := decide_eq_true (by omega)
    repeat (first | walk_at "ev" | simp only [e1, e2, e3, e4, c1])
  · have c1 : decide (((a + 1 + 1 : Nat) : Int) = (ws.length : Int)) = false := decide_eq_false (by omega)
    obtain ⟨u, hu⟩ : ∃ u, ws[a + 1 + 1]? = some u := ⟨_, List.getElem?_eq_getElem (by omega)⟩
    have e5 := idx_lst (wl_get hu)
    have e6 : neD' (.str u) (.str "or") = some (.bl true) := nes_f (decide_eq_false (fun z => hn (by rw [← z]; exact hu)))
    repeat (first | walk_at "ev" | simp only [e1, e2, e3, e4, c1, e5, e6])
theorem fact_or {n : Nat} {ws : List Str} {a e : Nat} {w : Str} {t : D} (h : ws[a + 1]? = some w) (hw : nameOk w = true) (hn : ws[a + 2]? = some ("or" : Str)) (ht : rdA (n + 2) (wl ws) (a + 3) e t) :
    run (n + 3) 10 [.d (wl ws), .d (.int (a : Int))] [] = .ok (.d (.tup [.tup [.str "fact", .str w, t], .int (e : Int)])) [] := by
  have e1 := x_read_name n ws (a + 1) w h hw
  have e2 : addD (.int (a : Int)) (.int 1) = some (.int ((a + 1 : Nat) : Int)) := rfl
  have e3 : lenD (wl ws) = some (.int (ws.length : Int)) := by
    show some (D.int ((ws.map D.str).length : Int)) = _
    rw [List.length_map]
  have hl := (List.getElem?_eq_some_iff.mp hn).1
  have e4 : eqD' (.int ((a + 1 + 1 : Nat) : Int)) (.int (ws.length : Int)) = some (.bl false) := by
    show some (D.bl (decide _)) = _
    rw [decide_eq_false (by omega)]
  have e5 := idx_lst (i := a + 1 + 1) (wl_get hn)
  have e6 := nes_t "or"
  have e7 : addD (.int ((a + 1 + 1 : Nat) : Int)) (.int 1) = some (.int ((a + 3 : Nat) : Int)) := rfl
  unfold rdA at ht
  rw [run10]
  unfold b10
  repeat (first | walk_at "ev" | simp only [e1, e2, e3, e4, e5, e6, e7, ht])
theorem amount_fact {n : Nat} {ws : List Str} {a e : Nat} {t : D} (h : ws[a]? = some "fact") (hr : run (n + 1) 10 [.d (wl ws), .d (.int (a : Int))] [] = .ok (.d (.tup [t, .int (e : Int)])) []) : rdA (n + 2) (wl ws) a e t := by
  have e1 := x_word_at n ws a _ h
  have e2 := x_is_number n "fact" (by decide +kernel)
  rw [show numOk "fact" = false from by decide +kernel] at e2
  have e3 := eqs_t "fact"
  unfold rdA
  rw [run8]
  unfold b8
  repeat (first | walk_at "ev" | simp only [e1, e2, e3, hr])
theorem getA (pre ws rest : List Str) (i : Nat) (h : i < ws.length) : (pre ++ (ws ++ rest))[pre.length + i]? = ws[i]? := by
  rw [List.getElem?_append_right (by omega), Nat.add_sub_cancel_left, List.getElem?_append_left h]
theorem headA (pre ws rest : List Str) : (pre ++ (ws ++ rest))[pre.length + ws.length]? = rest.head? := by
  rw [List.getElem?_append_right (by omega), Nat.add_sub_cancel_left, List.getElem?_append_right (by omega), Nat.sub_self]
  cases rest <;> rfl
theorem amt_first {k : Nat} {t : D} {ws : List Str} (h : Amt k t ws) : ∃ w r, ws = w :: r ∧ w ≠ "or" := by
  have num_or : ∀ i : Int, numT i ≠ "or" := fun i e => by
    have c : cs (numT i) = [111, 114] := by rw [e]; decide +kernel
    rcases numT_cases i with ⟨_, q⟩ | ⟨_, q⟩
    · rw [c] at q
      have := numL_digits i.toNat 111 (by rw [← q]; simp)
      omega
    · rw [c] at q; cases q
  cases h with
  | num => exact ⟨_, _, rfl, num_or _⟩
  | fact => exact ⟨_, _, rfl, by decide +kernel⟩
  | factOr => exact ⟨_, _, rfl, by decide +kernel⟩
  | due => exact ⟨_, _, rfl, by decide +kernel⟩
  | bin ho => exact ⟨_, _, rfl, fun z => by subst z; revert ho; decide +kernel⟩
  | pct => exact ⟨_, _, rfl, by decide +kernel⟩
  | ite => exact ⟨_, _, rfl, by decide +kernel⟩
theorem cnd_first {k : Nat} {t : D} {ws : List Str} (h : Cnd k t ws) : ∃ w r, ws = w :: r ∧ w ≠ "or" := by
  cases h with
  | known => exact ⟨_, _, rfl, by decide +kernel⟩
  | not => exact ⟨_, _, rfl, by decide +kernel⟩
  | two ho => exact ⟨_, _, rfl, fun z => by subst z; revert ho; decide +kernel⟩
  | cmp ho => exact ⟨_, _, rfl, fun z => by subst z; revert ho; decide +kernel⟩
theorem bin_facts : ∀ o ∈ binO, o.length ≤ 20 ∧ numOk o = false ∧ decide (o = "fact") = false ∧ kAMOUNTS.lookup o = some (.tup [.str "amount", .str "amount"]) := by
  intro o ho
  simp only [binO, List.mem_cons, List.not_mem_nil, or_false] at ho
  rcases ho with rfl | rfl | rfl | rfl | rfl <;> exact ⟨by decide +kernel, by decide +kernel, by decide +kernel, rfl⟩
theorem two_facts : ∀ o ∈ twoC, kCONDITIONS.lookup o = some (.tup [.str "condition", .str "condition"]) := by
  intro o ho
  simp only [twoC, List.mem_cons, List.not_mem_nil, or_false] at ho
  rcases ho with rfl | rfl <;> rfl
theorem cmp_facts : ∀ o ∈ cmpC, kCONDITIONS.lookup o = some (.tup [.str "amount", .str "amount"]) := by
  intro o ho
  simp only [cmpC, List.mem_cons, List.not_mem_nil, or_false] at ho
  rcases ho with rfl | rfl <;> rfl
theorem part_nameN {N : Nat} {ws : List Str} {i j : Nat} {w : Str} (hN : 3 ≤ N) (h : ws[i]? = some w) (hw : nameOk w = true) (hj : j = i + 1) : run N 12 [.d (wl ws), .d (.int (i : Int)), .d (.str "name")] [] = .ok (.d (.tup [.str w, .int (j : Int)])) [] := by
  obtain ⟨n, rfl⟩ : ∃ n, N = n + 3 := ⟨N - 3, by omega⟩
  subst hj
  exact part_name h hw
theorem part_hundredthsN {N : Nat} {ws : List Str} {i j : Nat} {p : Int} (hN : 3 ≤ N) (h : ws[i]? = some (numT p)) (h1 : 0 ≤ p) (h2 : p ≤ 1000) (hj : j = i + 1) : run N 12 [.d (wl ws), .d (.int (i : Int)), .d (.str "hundredths")] [] = .ok (.d (.tup [.int p, .int (j : Int)])) [] := by
  obtain ⟨n, rfl⟩ : ∃ n, N = n + 3 := ⟨N - 3, by omega⟩
  subst hj
  exact part_hundredths h h1 h2
theorem amount_numN {N : Nat} {ws : List Str} {a e : Nat} {i : Int} (hN : 2 ≤ N) (h : ws[a]? = some (numT i)) (h1 : -999999999 ≤ i) (h2 : i ≤ 999999999) (he : e = a + 1) : rdA N (wl ws) a e (.tup [.str "number", .int i]) := by
  obtain ⟨n, rfl⟩ : ∃ n, N = n + 2 := ⟨N - 2, by omega⟩
  subst he
  exact amount_num h h1 h2
theorem amount_factN {N : Nat} {ws : List Str} {a e : Nat} {w : Str} (hN : 4 ≤ N) (h0 : ws[a]? = some ("fact" : Str)) (h : ws[a + 1]? = some w) (hw : nameOk w = true) (hn : ws[a + 2]? ≠ some ("or" : Str)) (hl : a + 2 ≤ ws.length) (he : e = a + 2) : rdA N (wl ws) a e (.tup [.str "fact", .str w, .non]) := by
  obtain ⟨n, rfl⟩ : ∃ n, N = n + 2 + 2 := ⟨N - 4, by omega⟩
  subst he
  exact amount_fact h0 (fact_alone (n := n) h hw hn hl)
theorem amount_orN {M : Nat} {ws : List Str} {a e : Nat} {w : Str} {t : D} (hM : 3 ≤ M) (h0 : ws[a]? = some ("fact" : Str)) (h : ws[a + 1]? = some w) (hw : nameOk w = true) (hn : ws[a + 2]? = some ("or" : Str)) (ht : rdA M (wl ws) (a + 3) e t) : rdA (M + 2) (wl ws) a e (.tup [.str "fact", .str w, t]) := by
  obtain ⟨n, rfl⟩ : ∃ n, M = n + 2 := ⟨M - 2, by omega⟩
  exact amount_fact h0 (fact_or (n := n) h hw hn ht)
theorem amount_partsN {M : Nat} {ws : List Str} {a e : Nat} {o : Str} {ks ps : List D} (h : ws[a]? = some o) (ho : o.length ≤ 20) (h1 : numOk o = false) (h2 : decide (o = "fact") = false) (h3 : kAMOUNTS.lookup o = some (.tup ks)) (hk : ks.length ≤ 900)
    (hr : Reads (M + 1) (wl ws) ks (a + 1) ps e) : rdA (M + 3) (wl ws) a e (.tup (.str o :: ps)) := amount_parts h ho h1 h2 h3 hk hr
theorem rdA_mono1 {N a e : Nat} {W t : D} (h : ∀ M, N ≤ M → rdA M W a e t) : rdA N W a e t := h N (Nat.le_refl _)
/-- the words W hold ws from a to e, and what follows is no or -/
def At (W : List Str) (a e : Nat) (ws : List Str) : Prop := ∃ pre rest, W = pre ++ (ws ++ rest) ∧ a = pre.length ∧ e = a + ws.length ∧ rest.head? ≠ some ("or" : Str)
def AtX (W : List Str) (a e : Nat) (ws : List Str) : Prop := ∃ pre rest, W = pre ++ (ws ++ rest) ∧ a = pre.length ∧ e = a + ws.length
theorem AtX.get {W : List Str} {a e : Nat} {w : Str} {ws : List Str} (h : AtX W a e (w :: ws)) : W[a]? = some w ∧ AtX W (a + 1) e ws := by
  obtain ⟨pre, rest, h1, h2, h3⟩ := h
  subst h1 h2 h3
  refine ⟨getA pre (w :: ws) rest 0 (by simp), pre ++ [w], rest, by simp, by simp, by simp; omega⟩
theorem At.x {W : List Str} {a e : Nat} {ws : List Str} (h : At W a e ws) : AtX W a e ws :=
  let ⟨pre, rest, h1, h2, h3, _⟩ := h
  ⟨pre, rest, h1, h2, h3⟩
theorem At.tail {W : List Str} {a e : Nat} {w : Str} {ws : List Str} (h : At W a e (w :: ws)) : W[a]? = some w ∧ At W (a + 1) e ws := by
  obtain ⟨pre, rest, h1, h2, h3, h4⟩ := h
  subst h1 h2 h3
  refine ⟨getA pre (w :: ws) rest 0 (by simp), pre ++ [w], rest, by simp, by simp, by simp; omega, h4⟩
theorem At.split {W : List Str} {a e : Nat} {ws us : List Str} (h : At W a e (ws ++ us)) (hu : ∃ w r, us = w :: r ∧ w ≠ ("or" : Str)) : ∃ m, At W a m ws ∧ At W m e us := by
  obtain ⟨pre, rest, h1, h2, h3, h4⟩ := h
  subst h1 h2 h3
  refine ⟨pre.length + ws.length, ⟨pre, us ++ rest, by simp, rfl, rfl, ?_⟩, ⟨pre ++ ws, rest, by simp, by simp, by simp; omega, h4⟩⟩
  obtain ⟨w, r, rfl, q⟩ := hu
  simpa using q
theorem At.end_ {W : List Str} {a e : Nat} (h : At W a e []) : e = a ∧ W[a]? ≠ some ("or" : Str) ∧ a ≤ W.length := by
  obtain ⟨pre, rest, h1, h2, h3, h4⟩ := h
  subst h1 h2 h3
  refine ⟨rfl, ?_, by simp⟩
  have := headA pre [] rest
  simp only [List.length_nil, Nat.add_zero] at this
  rw [this]
  exact h4
theorem reads_all (W : List Str) : ∀ k : Nat,
    (∀ (t : D) (ws : List Str), Amt k t ws → ∀ (N a e : Nat), 3 * k + 5 ≤ N → At W a e ws → rdA N (wl W) a e t) ∧
    (∀ (t : D) (ws : List Str), Cnd k t ws → ∀ (N a e : Nat), 3 * k + 5 ≤ N → At W a e ws → rdC N (wl W) a e t) := by
  intro k
  -- the forms without parts
  have num : ∀ (i : Int) (N a e : Nat), 5 ≤ N → -999999999 ≤ i → i ≤ 999999999 → At W a e [numT i] → rdA N (wl W) a e (.tup [.str "number", .int i]) := fun i N a e hN h1 h2 h => by
    obtain ⟨g, h⟩ := h.tail
    exact amount_numN (by omega) g h1 h2 h.end_.1
  have fact : ∀ (w : Str) (N a e : Nat), 5 ≤ N → nameOk w = true → At W a e ["fact", w] → rdA N (wl W) a e (.tup [.str "fact", .str w, .non]) := fun w N a e hN hw h => by
    obtain ⟨g, h⟩ := h.tail
    obtain ⟨g2, h⟩ := h.tail
    obtain ⟨h1, h2, h3⟩ := h.end_
    exact amount_factN (by omega) g g2 hw h2 h3 h1
  have due : ∀ (w : Str) (N a e : Nat), 5 ≤ N → nameOk w = true → At W a e ["due", w] → rdA N (wl W) a e (.tup [.str "due", .str w]) := fun w N a e hN hw h => by
    obtain ⟨g, h⟩ := h.tail
    obtain ⟨g2, h⟩ := h.tail
    obtain ⟨h1, h2, h3⟩ := h.end_
    obtain ⟨M, rfl⟩ : ∃ M, N = M + 3 := ⟨N - 3, by omega⟩
    exact amount_partsN (ks := [.str "name"]) (ps := [.str w]) g (by decide +kernel) (by decide +kernel) (by decide +kernel) rfl (by simp) (.cons (part_nameN (by omega) g2 hw h1) .nil)
  have known : ∀ (w : Str) (N a e : Nat), 5 ≤ N → nameOk w = true → At W a e ["known", w] → rdC N (wl W) a e (.tup [.str "known", .str w]) := fun w N a e hN hw h => by
    obtain ⟨g, h⟩ := h.tail
    obtain ⟨g2, h⟩ := h.tail
    obtain ⟨h1, h2, h3⟩ := h.end_
    obtain ⟨M, rfl⟩ : ∃ M, N = M + 3 := ⟨N - 3, by omega⟩
    exact condition_parts (ks := [.str "name"]) (ps := [.str w]) g rfl (by simp) (.cons (part_nameN (by omega) g2 hw h1) .nil)
  induction k with
  | zero =>
    refine ⟨fun t ws h N a e hN at_ => ?_, fun t ws h N a e hN at_ => ?_⟩
    · cases h with
      | num h1 h2 => exact num _ N a e (by omega) h1 h2 at_
      | fact hw => exact fact _ N a e (by omega) hw at_
      | due hw => exact due _ N a e (by omega) hw at_
    · cases h with
      | known hw => exact known _ N a e (by omega) hw at_
  | succ k ih =>
    obtain ⟨ihA, ihC⟩ := ih
    refine ⟨fun t ws h N a e hN at_ => ?_, fun t ws h N a e hN at_ => ?_⟩
    · cases h with
      | num h1 h2 => exact num _ N a e (by omega) h1 h2 at_
      | fact hw => exact fact _ N a e (by omega) hw at_
      | due hw => exact due _ N a e (by omega) hw at_
      | factOr hw ht =>
        obtain ⟨M, rfl⟩ : ∃ M, N = M + 2 := ⟨N - 2, by omega⟩
        obtain ⟨g, at1⟩ := at_.tail
        obtain ⟨g2, at2⟩ := at1.tail
        obtain ⟨g3, at3⟩ := at2.tail
        exact amount_orN (by omega) g g2 hw g3 (ihA _ _ ht M _ _ (by omega) at3)
      | bin ho ha hb =>
        obtain ⟨M, rfl⟩ : ∃ M, N = M + 3 := ⟨N - 3, by omega⟩
        obtain ⟨g, at1⟩ := at_.tail
        obtain ⟨m, p1, p2⟩ := at1.split (amt_first hb)
        obtain ⟨f1, f2, f3, f4⟩ := bin_facts _ ho
        exact amount_partsN g f1 f2 f3 f4 (by simp) (.cons (part_amount (ihA _ _ ha M _ _ (by omega) p1)) (.cons (part_amount (ihA _ _ hb M _ _ (by omega) p2)) .nil))
      | pct h1 h2 ha =>
        obtain ⟨M, rfl⟩ : ∃ M, N = M + 3 := ⟨N - 3, by omega⟩
        obtain ⟨g, at1⟩ := at_.tail
        obtain ⟨g2, at2⟩ := at1.tail
        exact amount_partsN (ks := [.str "hundredths", .str "amount"]) g (by decide +kernel) (by decide +kernel) (by decide +kernel) rfl (by simp) (.cons (part_hundredthsN (by omega) g2 h1 h2 rfl) (.cons (part_amount (ihA _ _ ha M _ _ (by omega) at2)) .nil))
      | ite hc ha hb =>
        obtain ⟨M, rfl⟩ : ∃ M, N = M + 3 := ⟨N - 3, by omega⟩
        obtain ⟨g, at1⟩ := at_.tail
        obtain ⟨m, p1, p2⟩ := at1.split (by
          obtain ⟨w, r, rfl, q⟩ := amt_first ha
          exact ⟨w, _, rfl, q⟩)
        obtain ⟨m2, p3, p4⟩ := p2.split (amt_first hb)
        exact amount_partsN (ks := [.str "condition", .str "amount", .str "amount"]) g (by decide +kernel) (by decide +kernel) (by decide +kernel) rfl (by simp) (.cons (part_condition (ihC _ _ hc M _ _ (by omega) p1)) (.cons (part_amount (ihA _ _ ha M _ _ (by omega) p3)) (.cons (part_amount (ihA _ _ hb M _ _ (by omega) p4)) .nil)))
    · cases h with
      | known hw => exact known _ N a e (by omega) hw at_
      | not hc =>
        obtain ⟨M, rfl⟩ : ∃ M, N = M + 3 := ⟨N - 3, by omega⟩
        obtain ⟨g, at1⟩ := at_.tail
        exact condition_parts (ks := [.str "condition"]) g rfl (by simp) (.cons (part_condition (ihC _ _ hc M _ _ (by omega) at1)) .nil)
      | two ho hc hd =>
        obtain ⟨M, rfl⟩ : ∃ M, N = M + 3 := ⟨N - 3, by omega⟩
        obtain ⟨g, at1⟩ := at_.tail
        obtain ⟨m, p1, p2⟩ := at1.split (cnd_first hd)
        exact condition_parts g (two_facts _ ho) (by simp) (.cons (part_condition (ihC _ _ hc M _ _ (by omega) p1)) (.cons (part_condition (ihC _ _ hd M _ _ (by omega) p2)) .nil))
      | cmp ho ha hb =>
        obtain ⟨M, rfl⟩ : ∃ M, N = M + 3 := ⟨N - 3, by omega⟩
        obtain ⟨g, at1⟩ := at_.tail
        obtain ⟨m, p1, p2⟩ := at1.split (amt_first hb)
        exact condition_parts g (cmp_facts _ ho) (by simp) (.cons (part_amount (ihA _ _ ha M _ _ (by omega) p1)) (.cons (part_amount (ihA _ _ hb M _ _ (by omega) p2)) .nil))
/-! ### every text that is a number is that of an integer -/
theorem digs_num : ∀ (n : Nat) (ds : List Nat), ds.length = n + 1 → (∀ c ∈ ds, 48 ≤ c ∧ c ≤ 57) → (ds.head? ≠ some 48 ∨ n = 0) → ∃ v, ds = numL v ∧ v < 10 ^ (n + 1) ∧ (ds.head? ≠ some 48 → v ≠ 0) := by
  intro n
  induction n with
  | zero =>
    intro ds hl hd _
    match ds, hl with
    | [c], _ =>
      have hc := hd c List.mem_cons_self
      refine ⟨c - 48, ?_, by omega, fun h z => h ?_⟩
      · rw [numL_lt (by omega)]
        congr 1
        omega
      · have : c = 48 := by omega
        rw [this]
        rfl
  | succ n ih =>
    intro ds hl hd hh
    have hne : ds ≠ [] := fun z => by rw [z] at hl; simp at hl
    obtain ⟨l, c, rfl⟩ : ∃ l c, ds = l ++ [c] := ⟨ds.dropLast, ds.getLast hne, (List.dropLast_concat_getLast hne).symm⟩
    rw [List.length_append, List.length_singleton] at hl
    have hc := hd c (List.mem_append_right _ List.mem_cons_self)
    match l, hl with
    | a :: r, hl =>
      have h48 : (a :: r).head? ≠ some 48 := by
        rcases hh with h | h
        · exact h
        · omega
      obtain ⟨v, e1, e2, e3⟩ := ih (a :: r) (by omega) (fun c hc => hd c (List.mem_append_left _ hc)) (.inl h48)
      have h0 := e3 h48
      refine ⟨10 * v + (c - 48), ?_, ?_, fun _ => by omega⟩
      · rw [numL_step (n := 10 * v + (c - 48)) (by omega), show (10 * v + (c - 48)) / 10 = v from by omega, ← e1]
        congr 2
        omega
      · rw [Nat.pow_succ]
        omega
theorem num_inv {w : Str} (h : numOk w = true) : ∃ i : Int, -999999999 ≤ i ∧ i ≤ 999999999 ∧ w = numT i := by
  have e1 : numOk w = (!(unminus w).isEmpty && decide ((unminus w).length ≤ 9) && (unminus w).all (fun c => decide (c ∈ digits)) && (decide (w = "0") || !(match unminus w with
      | 48 :: _ => true
      | _ => false))) := rfl
  rw [e1] at h
  simp only [Bool.and_eq_true, Bool.or_eq_true, decide_eq_true_eq, List.all_eq_true, Bool.not_eq_true'] at h
  obtain ⟨⟨⟨h1, h2⟩, h3⟩, h4⟩ := h
  rcases h4 with h4 | h4
  · exact ⟨0, by decide, by decide, h4⟩
  · have hn : unminus w ≠ [] := fun z => by rw [z] at h1; simp at h1
    obtain ⟨n, hl⟩ : ∃ n, (unminus w).length = n + 1 := ⟨(unminus w).length - 1, by have := List.length_pos_iff.mpr hn; omega⟩
    have hh : (unminus w).head? ≠ some 48 := by
      intro z
      cases eu : unminus w with
      | nil => exact hn eu
      | cons a r =>
        rw [eu] at z h4
        cases z
        simp at h4
    obtain ⟨v, e2, e3, e4⟩ := digs_num n (unminus w) hl (fun c hc => (digit_mem c).mp (h3 c hc)) (.inl hh)
    have hv := e4 hh
    have hv9 : v < 10 ^ 9 := Nat.lt_of_lt_of_le e3 (Nat.pow_le_pow_right (by decide) (by omega))
    unfold unminus at e2
    split at e2
    · rename_i r er
      obtain ⟨m, rfl⟩ : ∃ m, v = m + 1 := ⟨v - 1, by omega⟩
      refine ⟨-((m + 1 : Nat) : Int), by omega, by omega, str_ext ?_⟩
      rw [numT_neg, er, e2]
    · exact ⟨(v : Int), by omega, by omega, str_ext (by rw [numT_pos, ← e2])⟩
/-- a number's value -/
noncomputable def valW (w : Str) : Int := open Classical in if h : ∃ i : Int, -999999999 ≤ i ∧ i ≤ 999999999 ∧ w = numT i then h.choose else 0
theorem val_spec {w : Str} (h : numOk w = true) : -999999999 ≤ valW w ∧ valW w ≤ 999999999 ∧ w = numT (valW w) := by
  have := num_inv h
  unfold valW
  rw [dif_pos this]
  exact this.choose_spec
theorem val_read {w : Str} (h : numOk w = true) : intD (.str w) = some (.int (valW w)) := by
  obtain ⟨h1, h2, e⟩ := val_spec h
  have := num_read _ h1 h2
  rw [← e] at this
  exact this
/-! ### what the words say -/
inductive Kd where
  | am | co | nm | hu
  deriving DecidableEq
open Kd in
def ksA (w : Str) : Option (List Kd) := if w = "due" then some [nm] else if w = "percent" then some [hu, am] else if w = "if" then some [co, am, am] else if w ∈ binO then some [am, am] else none
open Kd in
def ksC (w : Str) : Option (List Kd) := if w = "known" then some [nm] else if w = "not" then some [co] else if w ∈ cmpC then some [am, am] else if w ∈ twoC then some [co, co] else none
/-- what is read: the part and the place behind it, or the place of the fault -/
inductive Rd where
  | ok (d : D) (a : Nat) | no (a : Nat)
def rdP (g : Kd → Nat → Rd) : List Kd → List D → Nat → Rd
  | [], acc, a => .ok (.tup acc) a
  | k :: ks, acc, a => match g k a with
    | .ok d b => rdP g ks (acc ++ [d]) b
    | .no b => .no b
def rdF (g : Kd → Nat → Rd) (ws : List Str) (a : Nat) : Rd := match ws[a + 1]? with
  | none => .no (a + 1)
  | some m => if nameOk m = true then (if ws[a + 2]? = some ("or" : Str) then (match g .am (a + 3) with
      | .ok d b => .ok (.tup [.str "fact", .str m, d]) b
      | .no b => .no b)
    else .ok (.tup [.str "fact", .str m, .non]) (a + 2)) else .no (a + 1)
noncomputable def rd (ws : List Str) : Nat → Kd → Nat → Rd
  | 0, _, a => .no a
  | f + 1, k, a => match ws[a]? with
    | none => .no a
    | some w => match k with
      | .nm => if nameOk w = true then .ok (.str w) (a + 1) else .no a
      | .hu => if numOk w = true ∧ 0 ≤ valW w ∧ valW w ≤ 1000 then .ok (.int (valW w)) (a + 1) else .no a
      | .am => if numOk w = true then .ok (.tup [.str "number", .int (valW w)]) (a + 1)
        else if w = "fact" then rdF (rd ws f) ws a
        else (match ksA w with
          | some ks => rdP (rd ws f) ks [.str w] (a + 1)
          | none => .no a)
      | .co => (match ksC w with
          | some ks => rdP (rd ws f) ks [.str w] (a + 1)
          | none => .no a)
theorem rdP_le {ws : List Str} {g : Kd → Nat → Rd} (hg : ∀ k a d b, a ≤ ws.length → g k a = .ok d b → a < b ∧ b ≤ ws.length) : ∀ {ks : List Kd} {acc : List D} {a b : Nat} {d : D}, a ≤ ws.length → rdP g ks acc a = .ok d b → a ≤ b ∧ b ≤ ws.length
  | [], acc, a, b, d, ha, e => by
    unfold rdP at e
    cases e
    exact ⟨Nat.le_refl _, ha⟩
  | k :: ks, acc, a, b, d, ha, e => by
    unfold rdP at e
    cases eg : g k a with
    | no c => rw [eg] at e; cases e
    | ok x c =>
      rw [eg] at e
      obtain ⟨h1, h2⟩ := hg k a x c ha eg
      obtain ⟨h3, h4⟩ := rdP_le hg h2 e
      exact ⟨by omega, h4⟩
theorem rd_le (ws : List Str) : ∀ (f : Nat) (k : Kd) (a : Nat) (d : D) (b : Nat), a ≤ ws.length → rd ws f k a = .ok d b → a < b ∧ b ≤ ws.length := by
  intro f
  induction f with
  | zero => intro k a d b ha e; cases e
  | succ f ih =>
    intro k a d b ha e
    unfold rd at e
    split at e
    · cases e
    · rename_i w hw
      have hl := (List.getElem?_eq_some_iff.mp hw).1
      cases k with
      | nm =>
        simp only at e
        split at e
        · cases e; omega
        · cases e
      | hu =>
        simp only at e
        split at e
        · cases e; omega
        · cases e
      | am =>
        simp only at e
        split at e
        · cases e; omega
        · split at e
          · unfold rdF at e
            split at e
            · cases e
            · rename_i m hm
              have hl2 := (List.getElem?_eq_some_iff.mp hm).1
              split at e
              · split at e
                · rename_i ho
                  have hl3 := (List.getElem?_eq_some_iff.mp ho).1
                  cases er : rd ws f .am (a + 3) with
                  | no c => rw [er] at e; cases e
                  | ok x c =>
                    rw [er] at e
                    cases e
                    have := ih _ _ _ _ (by omega) er
                    omega
                · cases e; omega
              · cases e
          · split at e
            · have := rdP_le (ws := ws) (fun k a d b => ih k a d b) (by omega) e
              omega
            · cases e
      | co =>
        simp only at e
        split at e
        · have := rdP_le (ws := ws) (fun k a d b => ih k a d b) (by omega) e
          omega
        · cases e
/-! ### the program reads any words -/
theorem raiN (k : Nat) {a : Nat} (h : a ≤ 1000000) (L : Ev.Loc) (S : Store) : raiV k L (.d (.int (a : Int))) S = .ex ⟨k, [.int (a : Int)]⟩ L S := raiV_int ⟨by omega, by omega⟩
/-- a call of the program came to what the words say -/
def IsR (x : R Val) : Rd → Prop
  | .ok d a => ∃ S', x = .ok (.d (.tup [d, .int (a : Int)])) S'
  | .no a => ∃ S', x = .ex ⟨1, [.int (a : Int)]⟩ S'
theorem wl_len (ws : List Str) : lenD (wl ws) = some (.int (ws.length : Int)) := by
  show some (D.int ((ws.map D.str).length : Int)) = _
  rw [List.length_map]
theorem word_end (n : Nat) (ws : List Str) (a : Nat) (h : ws.length = a) (hz : a ≤ 1000000) : run (n + 3) 15 [.d (wl ws), .d (.int (a : Int))] [] = .ex ⟨1, [.int (a : Int)]⟩ [] := by
  have h1 := wl_len ws
  have h2 : eqD' (.int (a : Int)) (.int (ws.length : Int)) = some (.bl true) := by
    show some (D.bl (decide _)) = _
    rw [decide_eq_true (by omega)]
  have h3 := raiN 1 hz
  rw [run15]
  unfold b15
  repeat (first | walk_at "ev" | simp only [h1, h2, h3])
theorem get_or {ws : List Str} {a : Nat} (h : a ≤ ws.length) : (∃ w, ws[a]? = some w) ∨ (ws[a]? = none ∧ ws.length = a) := by
  by_cases c : a < ws.length
  · exact .inl ⟨_, List.getElem?_eq_getElem c⟩
  · exact .inr ⟨List.getElem?_eq_none (by omega), by omega⟩
section
variable {ws : List Str} (hz : ws.length ≤ 1000) (hw : ∀ w ∈ ws, w.length ≤ 1000)
include hz hw
theorem p_name (n f a : Nat) (ha : a ≤ ws.length) : IsR (run (n + 4) 14 [.d (wl ws), .d (.int (a : Int))] []) (rd ws (f + 1) .nm a) := by
  have e3 : addD (.int (a : Int)) (.int 1) = some (.int ((a + 1 : Nat) : Int)) := rfl
  unfold rd
  rcases get_or ha with ⟨w, hg⟩ | ⟨hg, hl⟩
  · have e1 := x_word_at (n + 2) ws a w hg
    have e2 := x_is_name (n + 2) w (Nat.le_trans (hw w (List.mem_of_getElem? hg)) (by decide))
    have e4 := raiN 1 (a := a) (by omega)
    rw [hg]
    simp only
    rw [run14]
    unfold b14
    cases hn : nameOk w with
    | true =>
      rw [if_pos rfl]
      refine ⟨[], ?_⟩
      repeat (first | walk_at "ev" | simp only [e1, e2, e3, hn])
    | false =>
      rw [if_neg (by decide)]
      refine ⟨[], ?_⟩
      repeat (first | walk_at "ev" | simp only [e1, e2, e4, hn])
  · have e1 := word_end n ws a hl (by omega)
    rw [hg]
    refine ⟨[], ?_⟩
    rw [run14]
    unfold b14
    repeat (first | walk_at "ev" | simp only [e1])
theorem p_hund (n f a : Nat) (ha : a ≤ ws.length) : IsR (run (n + 4) 13 [.d (wl ws), .d (.int (a : Int))] []) (rd ws (f + 1) .hu a) := by
  have e3 : addD (.int (a : Int)) (.int 1) = some (.int ((a + 1 : Nat) : Int)) := rfl
  unfold rd
  rcases get_or ha with ⟨w, hg⟩ | ⟨hg, hl⟩
  · have e1 := x_word_at (n + 2) ws a w hg
    have e2 := x_is_number (n + 2) w (Nat.le_trans (hw w (List.mem_of_getElem? hg)) (by decide))
    have e4 := raiN 1 (a := a) (by omega)
    rw [hg]
    simp only
    rw [run13]
    unfold b13
    cases hn : numOk w with
    | true =>
      have e5 := val_read hn
      have e6 : leD (.int 0) (.int (valW w)) = some (.bl (decide (0 ≤ valW w))) := rfl
      have e7 : leD (.int (valW w)) (.int 1000) = some (.bl (decide (valW w ≤ 1000))) := rfl
      by_cases c1 : 0 ≤ valW w
      · have c1' := decide_eq_true c1
        by_cases c2 : valW w ≤ 1000
        · have c2' := decide_eq_true c2
          rw [if_pos ⟨rfl, c1, c2⟩]
          refine ⟨[], ?_⟩
          repeat (first | walk_at "ev" | simp only [e1, e2, e3, e5, e6, e7, hn, c1', c2'])
        · have c2' := decide_eq_false c2
          rw [if_neg fun z => c2 z.2.2]
          refine ⟨[], ?_⟩
          repeat (first | walk_at "ev" | simp only [e1, e2, e3, e4, e5, e6, e7, hn, c1', c2'])
      · have c1' := decide_eq_false c1
        rw [if_neg fun z => c1 z.2.1]
        refine ⟨[], ?_⟩
        repeat (first | walk_at "ev" | simp only [e1, e2, e3, e4, e5, e6, e7, hn, c1'])
    | false =>
      rw [if_neg (by simp)]
      refine ⟨[], ?_⟩
      repeat (first | walk_at "ev" | simp only [e1, e2, e4, hn])
  · have e1 := word_end n ws a hl (by omega)
    rw [hg]
    refine ⟨[], ?_⟩
    rw [run13]
    unfold b13
    repeat (first | walk_at "ev" | simp only [e1])
end
/-! parts -/
def kdS : Kd → D
  | .am => .str "amount"
  | .co => .str "condition"
  | .hu => .str "hundredths"
  | .nm => .str "name"
/-- what a reader of one part does, from a place on -/
def PartOk (N : Nat) (ws : List Str) (g : Kd → Nat → Rd) (lo : Nat) : Prop := ∀ k a, lo ≤ a → a ≤ ws.length → IsR (run N 12 [.d (wl ws), .d (.int (a : Int)), .d (kdS k)] []) (g k a) ∧ ∀ d b, g k a = .ok d b → a < b ∧ b ≤ ws.length
theorem parts_any {N : Nat} {ws : List Str} {g : Kd → Nat → Rd} {lo : Nat} {W a0 k0 : Val} (hW : W = .d (wl ws)) (hg : PartOk N ws g lo) : ∀ {ks : List Kd} {a : Nat} {x y : Option Val} {acc : List D}, lo ≤ a → a ≤ ws.length → acc.length + ks.length ≤ 1000 →
    (match rdP g ks acc a with
      | .ok d e => ∃ x' y' ps, d = .tup ps ∧ forL (gN 5) (sSeq (sAsg (eCallI (run N 12) 3 (aC (eV 0) (aC (eV 4) (aC (eV 5) aN)))) (gT 2 (gsC (gN 6) (gsC (gN 4) gsN)))) (sEx (eAppend (eV 3) (eV 6)))) (ks.map kdS) [some W, some a0, some k0, some (.ref 0), some (.d (.int (a : Int))), x, y] [.lst acc] =
          .nx [some W, some a0, some k0, some (.ref 0), some (.d (.int (e : Int))), x', y'] [.lst ps]
      | .no e => ∃ L' S', forL (gN 5) (sSeq (sAsg (eCallI (run N 12) 3 (aC (eV 0) (aC (eV 4) (aC (eV 5) aN)))) (gT 2 (gsC (gN 6) (gsC (gN 4) gsN)))) (sEx (eAppend (eV 3) (eV 6)))) (ks.map kdS) [some W, some a0, some k0, some (.ref 0), some (.d (.int (a : Int))), x, y] [.lst acc] =
          .ex ⟨1, [.int (e : Int)]⟩ L' S')
  | [], a, x, y, acc, h1, h2, hz => by
    subst hW
    exact ⟨x, y, acc, rfl, by rw [List.map_nil, forL_nil]⟩
  | k :: ks, a, x, y, acc, h1, h2, hz => by
    subst hW
    have hz' : acc.length < sizeLine := Nat.lt_of_lt_of_le (by simp at hz; omega) (small (Nat.le_refl 1000000))
    obtain ⟨q1, q2⟩ := hg k a h1 h2
    unfold rdP
    cases eg : g k a with
    | no b =>
      rw [eg] at q1
      obtain ⟨S', q1⟩ := q1
      rw [List.map_cons, forL_cons]
      refine ⟨[some (.d (wl ws)), some a0, some k0, some (.ref 0), some (.d (.int (a : Int))), some (.d (kdS k)), y], [.lst acc], ?_⟩
      repeat (first | walk_at "ev" | simp only [q1])
    | ok d b =>
      rw [eg] at q1
      obtain ⟨S', q1⟩ := q1
      obtain ⟨q2, q3⟩ := q2 d b eg
      have ih := parts_any (W := .d (wl ws)) (a0 := a0) (k0 := k0) rfl hg (ks := ks) (a := b) (x := some (.d (kdS k))) (y := some (.d d)) (acc := acc ++ [d]) (by omega) q3 (by simp at hz ⊢; omega)
      simp only
      rw [List.map_cons, forL_cons]
      cases er : rdP g ks (acc ++ [d]) b with
      | ok d2 e =>
        rw [er] at ih
        obtain ⟨x', y', ps, ep, ih⟩ := ih
        refine ⟨x', y', ps, ep, ?_⟩
        repeat (first | walk_at "ev" | simp only [q1, hz', ih])
      | no e =>
        rw [er] at ih
        obtain ⟨L', S', ih⟩ := ih
        refine ⟨L', S', ?_⟩
        repeat (first | walk_at "ev" | simp only [q1, hz', ih])
theorem p_parts {N : Nat} {ws : List Str} {g : Kd → Nat → Rd} {a : Nat} {o : Str} {ks : List Kd} (h : ws[a]? = some o) (hg : PartOk N ws g (a + 1)) (hk : ks.length ≤ 900) :
    IsR (run (N + 1) 11 [.d (wl ws), .d (.int (a : Int)), .d (.tup (ks.map kdS))] []) (rdP g ks [.str o] (a + 1)) := by
  have hl := (List.getElem?_eq_some_iff.mp h).1
  have h1 := idx_lst (wl_get h)
  have h3 : addD (.int (a : Int)) (.int 1) = some (.int ((a + 1 : Nat) : Int)) := rfl
  have hm := parts_any (W := .d (wl ws)) (a0 := .d (.int (a : Int))) (k0 := .d (.tup (ks.map kdS))) rfl hg (ks := ks) (a := a + 1) (x := none) (y := none) (acc := [.str o]) (Nat.le_refl _) (by omega) (by simp; omega)
  rw [run11]
  unfold b11
  cases er : rdP g ks [.str o] (a + 1) with
  | ok d e =>
    rw [er] at hm
    obtain ⟨x', y', ps, rfl, hm⟩ := hm
    have h4 : tupleD (.lst ps) = some (.tup ps) := rfl
    refine ⟨[.lst ps], ?_⟩
    repeat (first | walk_at "ev" | simp only [h1, h3, hm, h4])
  | no e =>
    rw [er] at hm
    obtain ⟨L', S', hm⟩ := hm
    refine ⟨S', ?_⟩
    repeat (first | walk_at "ev" | simp only [h1, h3, hm])
theorem kA_of {w : Str} : kAMOUNTS.lookup w = (ksA w).map fun ks => D.tup (ks.map kdS) := by
  by_cases h : w ∈ (["due", "plus", "minus", "times", "least", "most", "percent", "if"] : List Str)
  · simp only [List.mem_cons, List.not_mem_nil, or_false] at h
    rcases h with rfl | rfl | rfl | rfl | rfl | rfl | rfl | rfl <;> rfl
  · have e1 : kAMOUNTS.lookup w = none := by
      have : kAMOUNTS.map (·.1) = (["due", "plus", "minus", "times", "least", "most", "percent", "if"] : List Str) := rfl
      rw [List.lookup_eq_none_iff]
      intro p hp
      refine bne_iff_ne.mpr fun z => h ?_
      rw [← this, z]
      exact List.mem_map_of_mem hp
    have e2 : ksA w = none := by
      unfold ksA binO
      simp only [List.mem_cons, List.not_mem_nil, or_false, not_or] at h
      obtain ⟨h1, h2, h3, h4, h5, h6, h7, h8⟩ := h
      rw [if_neg h1, if_neg h7, if_neg h8, if_neg (by simp [h2, h3, h4, h5, h6])]
    rw [e1, e2]
    rfl
theorem kC_of {w : Str} : kCONDITIONS.lookup w = (ksC w).map fun ks => D.tup (ks.map kdS) := by
  by_cases h : w ∈ (["below", "same", "known", "not", "both", "either"] : List Str)
  · simp only [List.mem_cons, List.not_mem_nil, or_false] at h
    rcases h with rfl | rfl | rfl | rfl | rfl | rfl <;> rfl
  · have e1 : kCONDITIONS.lookup w = none := by
      have : kCONDITIONS.map (·.1) = (["below", "same", "known", "not", "both", "either"] : List Str) := rfl
      rw [List.lookup_eq_none_iff]
      intro p hp
      refine bne_iff_ne.mpr fun z => h ?_
      rw [← this, z]
      exact List.mem_map_of_mem hp
    have e2 : ksC w = none := by
      unfold ksC cmpC twoC
      simp only [List.mem_cons, List.not_mem_nil, or_false, not_or] at h
      obtain ⟨h1, h2, h3, h4, h5, h6⟩ := h
      rw [if_neg h3, if_neg h4, if_neg (by simp [h1, h2]), if_neg (by simp [h5, h6])]
    rw [e1, e2]
    rfl
theorem ksA_len {w : Str} {ks : List Kd} (h : ksA w = some ks) : ks.length ≤ 3 := by
  unfold ksA at h
  repeat' split at h
  all_goals cases h
  all_goals decide
theorem ksC_len {w : Str} {ks : List Kd} (h : ksC w = some ks) : ks.length ≤ 3 := by
  unfold ksC at h
  repeat' split at h
  all_goals cases h
  all_goals decide
section
variable {ws : List Str} (hz : ws.length ≤ 1000) (hw : ∀ w ∈ ws, w.length ≤ 1000)
include hz hw
theorem p_part {N : Nat} {k : Kd} {a : Nat} {r : Rd} (h : match k with
    | .am => IsR (run N 8 [.d (wl ws), .d (.int (a : Int))] []) r
    | .co => IsR (run N 9 [.d (wl ws), .d (.int (a : Int))] []) r
    | .hu => IsR (run N 13 [.d (wl ws), .d (.int (a : Int))] []) r
    | .nm => IsR (run N 14 [.d (wl ws), .d (.int (a : Int))] []) r) : IsR (run (N + 1) 12 [.d (wl ws), .d (.int (a : Int)), .d (kdS k)] []) r := by
  have h1 := eqs_t "amount"
  have c1 := eqs_f (a := "condition") (b := "amount") (by decide +kernel)
  have c2 := eqs_t "condition"
  have d1 := eqs_f (a := "hundredths") (b := "amount") (by decide +kernel)
  have d2 := eqs_f (a := "hundredths") (b := "condition") (by decide +kernel)
  have d3 := eqs_t "hundredths"
  have f1 := eqs_f (a := "name") (b := "amount") (by decide +kernel)
  have f2 := eqs_f (a := "name") (b := "condition") (by decide +kernel)
  have f3 := eqs_f (a := "name") (b := "hundredths") (by decide +kernel)
  rw [run12]
  unfold b12
  cases r with
  | ok d b =>
    cases k <;> (obtain ⟨S', h⟩ := h; refine ⟨[], ?_⟩; unfold kdS)
    · repeat (first | walk_at "ev" | simp only [h1, h])
    · repeat (first | walk_at "ev" | simp only [c1, c2, h])
    · repeat (first | walk_at "ev" | simp only [f1, f2, f3, h])
    · repeat (first | walk_at "ev" | simp only [d1, d2, d3, h])
  | no b =>
    cases k <;> (obtain ⟨S', h⟩ := h; refine ⟨[], ?_⟩; unfold kdS)
    · repeat (first | walk_at "ev" | simp only [h1, h])
    · repeat (first | walk_at "ev" | simp only [c1, c2, h])
    · repeat (first | walk_at "ev" | simp only [f1, f2, f3, h])
    · repeat (first | walk_at "ev" | simp only [d1, d2, d3, h])
theorem p_fact {n f a : Nat} (ha : a + 1 ≤ ws.length) (q : ∀ b, b ≤ ws.length → ws.length < b + f → IsR (run (n + 4) 8 [.d (wl ws), .d (.int (b : Int))] []) (rd ws f .am b)) (hf : ws.length < a + f + 1) : IsR (run (n + 5) 10 [.d (wl ws), .d (.int (a : Int))] []) (rdF (rd ws f) ws a) := by
  have e0 : addD (.int (a : Int)) (.int 1) = some (.int ((a + 1 : Nat) : Int)) := rfl
  have e1 := p_name hz hw n 0 (a + 1) ha
  unfold rd at e1
  have e2 := wl_len ws
  have e3 : eqD' (.int ((a + 1 + 1 : Nat) : Int)) (.int (ws.length : Int)) = some (.bl (decide (((a + 1 + 1 : Nat) : Int) = (ws.length : Int)))) := rfl
  unfold rdF
  rw [run10]
  unfold b10
  cases hg : ws[a + 1]? with
  | none =>
    rw [hg] at e1
    obtain ⟨S', e1⟩ := e1
    refine ⟨[], ?_⟩
    repeat (first | walk_at "ev" | simp only [e0, e1])
  | some m =>
    rw [hg] at e1
    have hl := (List.getElem?_eq_some_iff.mp hg).1
    cases hn : nameOk m with
    | false =>
      simp only [hn, Bool.false_eq_true, if_false] at e1 ⊢
      obtain ⟨S', e1⟩ := e1
      refine ⟨[], ?_⟩
      repeat (first | walk_at "ev" | simp only [e0, e1])
    | true =>
      simp only [hn, if_true] at e1 ⊢
      obtain ⟨S', e1⟩ := e1
      by_cases c : a + 2 = ws.length
      · have c1 : decide (((a + 1 + 1 : Nat) : Int) = (ws.length : Int)) = true := decide_eq_true (by omega)
        have hn2 : ws[a + 2]? = none := List.getElem?_eq_none (by omega)
        rw [hn2, if_neg (fun z => nomatch z)]
        refine ⟨[], ?_⟩
        repeat (first | walk_at "ev" | simp only [e0, e1, e2, e3, c1])
      · have c1 : decide (((a + 1 + 1 : Nat) : Int) = (ws.length : Int)) = false := decide_eq_false (by omega)
        obtain ⟨u, hu⟩ : ∃ u, ws[a + 1 + 1]? = some u := ⟨_, List.getElem?_eq_getElem (by omega)⟩
        have e5 := idx_lst (wl_get hu)
        have hu' : ws[a + 2]? = some u := hu
        rw [hu']
        by_cases ho : u = "or"
        · subst ho
          have e6 := nes_t "or"
          have e7 : addD (.int ((a + 1 + 1 : Nat) : Int)) (.int 1) = some (.int ((a + 3 : Nat) : Int)) := rfl
          have e8 := q (a + 3) (by have := (List.getElem?_eq_some_iff.mp hu).1; omega) (by omega)
          rw [if_pos rfl]
          cases er : rd ws f .am (a + 3) with
          | ok d b =>
            rw [er] at e8
            obtain ⟨S8, e8⟩ := e8
            refine ⟨[], ?_⟩
            repeat (first | walk_at "ev" | simp only [e0, e1, e2, e3, c1, e5, e6, e7, e8])
          | no b =>
            rw [er] at e8
            obtain ⟨S8, e8⟩ := e8
            refine ⟨[], ?_⟩
            repeat (first | walk_at "ev" | simp only [e0, e1, e2, e3, c1, e5, e6, e7, e8])
        · have e6 : neD' (.str u) (.str "or") = some (.bl true) := nes_f (decide_eq_false ho)
          rw [if_neg (fun z => ho (Option.some.inj z))]
          refine ⟨[], ?_⟩
          repeat (first | walk_at "ev" | simp only [e0, e1, e2, e3, c1, e5, e6])
/-- all four readers -/
def Rdrs (ws : List Str) (N f a : Nat) : Prop := IsR (run N 8 [.d (wl ws), .d (.int (a : Int))] []) (rd ws f .am a) ∧ IsR (run N 9 [.d (wl ws), .d (.int (a : Int))] []) (rd ws f .co a) ∧
  IsR (run N 13 [.d (wl ws), .d (.int (a : Int))] []) (rd ws f .hu a) ∧ IsR (run N 14 [.d (wl ws), .d (.int (a : Int))] []) (rd ws f .nm a)
theorem p_all : ∀ (f N a : Nat), a ≤ ws.length → ws.length < a + f → 3 * f + 6 ≤ N → Rdrs ws N f a := by
  intro f
  induction f with
  | zero => intro N a h1 h2; omega
  | succ f ih =>
    intro N a ha hf hN
    obtain ⟨n, rfl⟩ : ∃ n, N = n + 6 := ⟨N - 6, by omega⟩
    have e4 := raiN 1 (a := a) (by omega)
    have e5 := raiN 1 (a := a + 1) (by omega)
    have po : PartOk (n + 4) ws (rd ws f) (a + 1) := fun k b h1 h2 => by
      obtain ⟨q1, q2, q3, q4⟩ := ih (n + 3) b h2 (by omega) (by omega)
      exact ⟨p_part hz hw (by cases k <;> assumption), fun d c e => rd_le ws f k b d c h2 e⟩
    refine ⟨?_, ?_, p_hund hz hw (n + 2) f a ha, p_name hz hw (n + 2) f a ha⟩
    · rcases get_or ha with ⟨w, hg⟩ | ⟨hg, hl⟩
      · have hlt := (List.getElem?_eq_some_iff.mp hg).1
        have e1 := x_word_at (n + 4) ws a w hg
        have e2 := x_is_number (n + 4) w (Nat.le_trans (hw w (List.mem_of_getElem? hg)) (by decide))
        have e3 : addD (.int (a : Int)) (.int 1) = some (.int ((a + 1 : Nat) : Int)) := rfl
        conv => rhs; unfold rd
        rw [hg]
        simp only
        rw [run8]
        unfold b8
        cases hn : numOk w with
        | true =>
          have e6 := val_read hn
          rw [if_pos rfl]
          refine ⟨[], ?_⟩
          repeat (first | walk_at "ev" | simp only [e1, e2, e3, e6, hn])
        | false =>
          rw [if_neg (by decide)]
          by_cases hfa : w = "fact"
          · subst hfa
            have e7 := eqs_t "fact"
            rw [if_pos rfl]
            have e8 := p_fact hz hw (n := n) (f := f) (a := a) hlt (fun b h1 h2 => (ih (n + 4) b h1 h2 (by omega)).1) (by omega)
            cases er : rdF (rd ws f) ws a with
            | ok d b =>
              rw [er] at e8
              obtain ⟨S', e8⟩ := e8
              refine ⟨[], ?_⟩
              repeat (first | walk_at "ev" | simp only [e1, e2, e7, e8, hn])
            | no b =>
              rw [er] at e8
              obtain ⟨S', e8⟩ := e8
              refine ⟨[], ?_⟩
              repeat (first | walk_at "ev" | simp only [e1, e2, e7, e8, hn])
          · have e7 := eqs_f (a := w) (b := "fact") (decide_eq_false hfa)
            rw [if_neg hfa]
            cases hk : ksA w with
            | none =>
              have e8 : kInD true kAMOUNTS (.str w) = some (.bl true) := by
                show some (D.bl (!(kAMOUNTS.lookup w).isSome)) = _
                rw [kA_of, hk]; rfl
              refine ⟨[], ?_⟩
              repeat (first | walk_at "ev" | simp only [e1, e2, e4, e7, e8, hn])
            | some ks =>
              have e8 : kInD true kAMOUNTS (.str w) = some (.bl false) := by
                show some (D.bl (!(kAMOUNTS.lookup w).isSome)) = _
                rw [kA_of, hk]; rfl
              have e9 : kGetD kAMOUNTS (.str w) = some (.tup (ks.map kdS)) := by
                show kAMOUNTS.lookup w = _
                rw [kA_of, hk]; rfl
              have e10 := p_parts hg po (Nat.le_trans (ksA_len hk) (by decide))
              simp only
              cases er : rdP (rd ws f) ks [.str w] (a + 1) with
              | ok d b =>
                rw [er] at e10
                obtain ⟨S', e10⟩ := e10
                refine ⟨[], ?_⟩
                repeat (first | walk_at "ev" | simp only [e1, e2, e7, e8, e9, e10, hn])
              | no b =>
                rw [er] at e10
                obtain ⟨S', e10⟩ := e10
                refine ⟨[], ?_⟩
                repeat (first | walk_at "ev" | simp only [e1, e2, e7, e8, e9, e10, hn])
      · have e1 := word_end (n + 2) ws a hl (by omega)
        unfold rd
        rw [hg]
        refine ⟨[], ?_⟩
        rw [run8]
        unfold b8
        repeat (first | walk_at "ev" | simp only [e1])
    · rcases get_or ha with ⟨w, hg⟩ | ⟨hg, hl⟩
      · have hlt := (List.getElem?_eq_some_iff.mp hg).1
        have e1 := x_word_at (n + 4) ws a w hg
        conv => rhs; unfold rd
        rw [hg]
        simp only
        rw [run9]
        unfold b9
        cases hk : ksC w with
        | none =>
          have e8 : kInD true kCONDITIONS (.str w) = some (.bl true) := by
            show some (D.bl (!(kCONDITIONS.lookup w).isSome)) = _
            rw [kC_of, hk]; rfl
          refine ⟨[], ?_⟩
          repeat (first | walk_at "ev" | simp only [e1, e4, e8])
        | some ks =>
          have e8 : kInD true kCONDITIONS (.str w) = some (.bl false) := by
            show some (D.bl (!(kCONDITIONS.lookup w).isSome)) = _
            rw [kC_of, hk]; rfl
          have e9 : kGetD kCONDITIONS (.str w) = some (.tup (ks.map kdS)) := by
            show kCONDITIONS.lookup w = _
            rw [kC_of, hk]; rfl
          have e10 := p_parts hg po (Nat.le_trans (ksC_len hk) (by decide))
          simp only
          cases er : rdP (rd ws f) ks [.str w] (a + 1) with
          | ok d b =>
            rw [er] at e10
            obtain ⟨S', e10⟩ := e10
            refine ⟨[], ?_⟩
            repeat (first | walk_at "ev" | simp only [e1, e8, e9, e10])
          | no b =>
            rw [er] at e10
            obtain ⟨S', e10⟩ := e10
            refine ⟨[], ?_⟩
            repeat (first | walk_at "ev" | simp only [e1, e8, e9, e10])
      · have e1 := word_end (n + 2) ws a hl (by omega)
        unfold rd
        rw [hg]
        refine ⟨[], ?_⟩
        rw [run9]
        unfold b9
        repeat (first | walk_at "ev" | simp only [e1])
end
/-! ### the words of an expression, by the program and by the law -/
theorem amt_tup {k : Nat} {t : D} {ws : List Str} (h : Amt k t ws) : ∃ ds, t = .tup ds := by cases h <;> exact ⟨_, rfl⟩
theorem cnd_tup {k : Nat} {t : D} {ws : List Str} (h : Cnd k t ws) : ∃ ds, t = .tup ds := by cases h <;> exact ⟨_, rfl⟩
theorem str_num {i : Int} (h1 : -999999999 ≤ i) (h2 : i ≤ 999999999) : strD (.int i) = some (.str (numT i)) := by
  have e : strD (.int i) = if i.natAbs.log2 < 1920 then some (.str (numT i)) else none := rfl
  rw [e, if_pos]
  have : i.natAbs < 2 ^ 30 := by omega
  by_cases h0 : i.natAbs = 0
  · rw [h0]; decide
  · have := (Nat.log2_lt h0).mpr this
    omega
theorem idx_tup {ds : List D} {i : Nat} {d : D} (h : ds[i]? = some d) : idxD (.tup ds) (.int (i : Int)) = some d := atI_nat' h
theorem sl_tail {d : D} {ds : List D} : slD (.tup (d :: ds)) (some 1) none = some (.tup ds) := by
  show some (D.tup (cutD (d :: ds) (some 1) none)) = _
  unfold cutD
  have e1 : HT.sIx (d :: ds).length 0 (some ((1 : Nat) : Int)) = 1 := by
    rw [HT.sIx_nat, List.length_cons]
    omega
  rw [show (some (1 : Int)) = some ((1 : Nat) : Int) from rfl, e1, HT.sIx_none]
  simp
theorem addL (xs ys : List Str) (h : xs.length + ys.length ≤ 200000) : addD (wl xs) (wl ys) = some (wl (xs ++ ys)) := by
  have hz1 : (xs.map D.str).length + (ys.map D.str).length ≤ sizeLine := small (by simp; omega)
  show (if (xs.map D.str).length + (ys.map D.str).length ≤ sizeLine then some (D.lst (xs.map .str ++ ys.map .str)) else none) = _
  rw [if_pos hz1, ← List.map_append]
def plainK (o : Str) : Prop := decide (o = "number") = false ∧ decide (o = "fact") = false ∧ decide (o = "due") = false ∧ decide (o = "known") = false ∧ decide (o = "percent") = false
/-! ### the law's comparison: equal data are the same -/
mutual
/-- data of texts, ints, nothing, tuples and lists, at most k deep -/
inductive Pl : Nat → D → Prop where
  | non {k : Nat} : Pl k .non
  | int {k : Nat} {i : Int} : Pl k (.int i)
  | str {k : Nat} {x : Str} : Pl k (.str x)
  | bl {k : Nat} {b : Bool} : Pl k (.bl b)
  | tup {k : Nat} {ds : List D} : ds.length ≤ 1000000 → Pls k ds → Pl (k + 1) (.tup ds)
  | lst {k : Nat} {ds : List D} : ds.length ≤ 1000000 → Pls k ds → Pl (k + 1) (.lst ds)
inductive Pls : Nat → List D → Prop where
  | nil {k : Nat} : Pls k []
  | cons {k : Nat} {d : D} {ds : List D} : Pl k d → Pls k ds → Pls k (d :: ds)
end
theorem Pls.mem {k : Nat} {ds : List D} (h : Pls k ds) : ∀ d ∈ ds, Pl k d := by
  induction ds with
  | nil => intro d hd; cases hd
  | cons e r ih =>
    cases h with
    | cons h1 h2 =>
      intro d hd
      rcases List.mem_cons.mp hd with rfl | hd
      · exact h1
      · exact ih h2 d hd
theorem amt_pl : ∀ k : Nat, (∀ (t : D) (ws : List Str), Amt k t ws → Pl (k + 1) t) ∧ (∀ (t : D) (ws : List Str), Cnd k t ws → Pl (k + 1) t) := by
  intro k
  induction k with
  | zero =>
    refine ⟨fun t ws h => ?_, fun t ws h => ?_⟩
    · cases h with
      | num => exact .tup (by simp) (.cons .str (.cons .int .nil))
      | fact => exact .tup (by simp) (.cons .str (.cons .str (.cons .non .nil)))
      | due => exact .tup (by simp) (.cons .str (.cons .str .nil))
    · cases h with
      | known => exact .tup (by simp) (.cons .str (.cons .str .nil))
  | succ k ih =>
    obtain ⟨ihA, ihC⟩ := ih
    refine ⟨fun t ws h => ?_, fun t ws h => ?_⟩
    · cases h with
      | num => exact .tup (by simp) (.cons .str (.cons .int .nil))
      | fact => exact .tup (by simp) (.cons .str (.cons .str (.cons .non .nil)))
      | due => exact .tup (by simp) (.cons .str (.cons .str .nil))
      | factOr _ h1 => exact .tup (by simp) (.cons .str (.cons .str (.cons (ihA _ _ h1) .nil)))
      | bin _ h1 h2 => exact .tup (by simp) (.cons .str (.cons (ihA _ _ h1) (.cons (ihA _ _ h2) .nil)))
      | pct _ _ h1 => exact .tup (by simp) (.cons .str (.cons .int (.cons (ihA _ _ h1) .nil)))
      | ite h1 h2 h3 => exact .tup (by simp) (.cons .str (.cons (ihC _ _ h1) (.cons (ihA _ _ h2) (.cons (ihA _ _ h3) .nil))))
    · cases h with
      | known => exact .tup (by simp) (.cons .str (.cons .str .nil))
      | not h1 => exact .tup (by simp) (.cons .str (.cons (ihC _ _ h1) .nil))
      | two _ h1 h2 => exact .tup (by simp) (.cons .str (.cons (ihC _ _ h1) (.cons (ihC _ _ h2) .nil)))
      | cmp _ h1 h2 => exact .tup (by simp) (.cons .str (.cons (ihA _ _ h1) (.cons (ihA _ _ h2) .nil)))
theorem rng_get {lo : Int} {n i : Nat} (h : i < n) : (rng lo n)[i]? = some (.int (lo + (i : Nat))) := by
  unfold rng
  rw [List.getElem?_map, List.getElem?_range h]
  rfl
theorem rng_cons (lo : Int) (n : Nat) : rng lo (n + 1) = .int lo :: rng (lo + 1) n := by
  unfold rng
  rw [List.range_succ_eq_map, List.map_cons, List.map_map]
  congr 1
  · simp
  · refine List.map_congr_left fun i _ => ?_
    simp only [Function.comp]
    congr 1
    omega
theorem rng_zero (lo : Int) : rng lo 0 = [] := rfl
theorem eq_ii (i : Int) : eqD' (.int i) (.int i) = some (.bl true) := by
  show some (D.bl (decide (i = i))) = _
  rw [decide_eq_true rfl]
theorem ne_ii (i : Int) : neD' (.int i) (.int i) = some (.bl false) := by
  show some (D.bl (!decide (i = i))) = _
  rw [decide_eq_true rfl]
  rfl
theorem ne_bb (b : Bool) : neD' (.bl b) (.bl b) = some (.bl false) := by
  show some (D.bl (!decide (b = b))) = _
  rw [decide_eq_true rfl]
  rfl
theorem eq_bb (b : Bool) : eqD' (.bl b) (.bl b) = some (.bl true) := by
  show some (D.bl (decide (b = b))) = _
  rw [decide_eq_true rfl]
theorem atI_get {α : Type} (xs : List α) (i : Nat) : atI xs (i : Int) = xs[i]? := by
  unfold atI ixN
  rw [if_pos (by omega)]
  by_cases h : i < xs.length
  · rw [if_pos (by omega)]
    simp
  · rw [if_neg (by omega)]
    rw [List.getElem?_eq_none (by omega)]
    rfl
/-! ### texts and their words -/
def wordsIn (l : List Nat) : List (List Nat) := (spl [32] 0 [] l).filter fun w => !w.isEmpty
theorem spl_app : ∀ (w acc l : List Nat), 32 ∉ w → spl [32] 0 acc (w ++ l) = spl [32] 0 (acc ++ w) l
  | [], acc, l, _ => by rw [List.nil_append, List.append_nil]
  | c :: w, acc, l, h => by
    have hc : c ≠ 32 := fun z => h (by rw [z]; exact List.mem_cons_self)
    have hp : pre [32] (c :: (w ++ l)) = false := by
      unfold pre
      simp [hc]
    rw [List.cons_append, spl_miss hp, spl_app w _ l fun z => h (List.mem_cons_of_mem _ z), List.append_assoc]
    rfl
theorem spl_sp (acc l : List Nat) : spl [32] 0 acc (32 :: l) = acc :: spl [32] 0 [] l := by
  rw [spl_hit (by rfl)]
  rfl
theorem wi_nil : wordsIn [] = [] := rfl
theorem wi_space (l : List Nat) : wordsIn (32 :: l) = wordsIn l := by
  unfold wordsIn
  rw [spl_sp]
  rfl
theorem wi_spaces (n : Nat) (l : List Nat) : wordsIn (List.replicate n 32 ++ l) = wordsIn l := by
  induction n with
  | zero => rfl
  | succ n ih => rw [List.replicate_succ, List.cons_append, wi_space, ih]
theorem wi_word {w : List Nat} (h1 : w ≠ []) (h2 : 32 ∉ w) (l : List Nat) (hl : l = [] ∨ ∃ r, l = 32 :: r) : wordsIn (w ++ l) = w :: wordsIn l := by
  have hw : (!w.isEmpty) = true := by
    cases w with
    | nil => exact (h1 rfl).elim
    | cons _ _ => rfl
  unfold wordsIn
  rw [spl_app w [] l h2, List.nil_append]
  rcases hl with rfl | ⟨r, rfl⟩
  · rw [spl_nil, spl_nil, List.filter_cons_of_pos (p := fun (w : List Nat) => !w.isEmpty) hw]
    rfl
  · rw [spl_sp, spl_sp, List.filter_cons_of_pos (p := fun (w : List Nat) => !w.isEmpty) hw]
    rfl
theorem spl_len : ∀ (l acc : List Nat), (spl [32] 0 acc l).length ≤ l.length + 1
  | [], acc => by rw [spl_nil]; simp
  | c :: l, acc => by
    by_cases h : c = 32
    · subst h
      rw [spl_sp, List.length_cons, List.length_cons]
      have := spl_len l []
      omega
    · have hp : pre [32] (c :: l) = false := by
        unfold pre
        simp [h]
      rw [spl_miss hp, List.length_cons]
      have := spl_len l (acc ++ [c])
      omega
theorem sp_codes : cs (Str.ofString " ") = [32] := by decide +kernel
theorem kind_sp (x : Str) : ¬ Builtin.Str.strKind x < Builtin.Str.strKind (Str.ofString " ") := by
  have : Builtin.Str.strKind (Str.ofString " ") = 1 := by decide +kernel
  rw [this]
  unfold Builtin.Str.strKind
  split
  · omega
  · split <;> omega
theorem split_codes (x : Str) : (Txt.split x " ").map tl = spl [32] 0 [] (tl x) := by
  have h := split_spl x " " (by rw [show tl (Str.ofString " ") = [32] from sp_codes]; simp) (kind_sp x)
  rw [h, show tl (Str.ofString " ") = [32] from sp_codes]
/-- the words of a text -/
def wordsT (x : Str) : List Str := (Txt.split x " ").filter fun w => !decide (w = "")
theorem wordsT_codes (x : Str) : (wordsT x).map tl = wordsIn (tl x) := by
  unfold wordsT wordsIn
  rw [← split_codes, List.filter_map]
  congr 1
  refine List.filter_congr fun w _ => ?_
  simp only [Function.comp]
  by_cases h : w = ""
  · subst h; rfl
  · rw [decide_eq_false h]
    cases e : tl w with
    | nil => exact (h (str_ext e)).elim
    | cons _ _ => rfl
theorem wordsT_eq {x : Str} {ws : List Str} (h : wordsIn (tl x) = ws.map tl) : wordsT x = ws := map_tl_inj ((wordsT_codes x).trans h)
theorem x_split_words (n : Nat) (x : Str) (hx : x.length ≤ 1000000) : run (n + 1) 7 [.d (.str x)] [] = .ok (.d (wl (wordsT x))) [] := by
  have hz := small (n := x.length + 2 - 2) (by omega)
  have h1 : splitD x (.str " ") = some (wl (Txt.split x " ")) := by
    have e : splitD x (.str " ") = if ((Str.ofString " ").length == 0) = false ∧ x.length + 2 ≤ sizeLine then some (.lst ((Txt.split x " ").map .str)) else none := rfl
    rw [e, if_pos ⟨by decide +kernel, by have := sizeLine_eq; omega⟩]
  have hl : ((Txt.split x " ").map D.str).length ≤ sizeLine := by
    rw [List.length_map, ← List.length_map (f := tl), split_codes]
    have := spl_len (tl x) []
    rw [← len_cs] at this
    have := sizeLine_eq
    omega
  have h2 : compL (gN 1) (bE (eOp2 neD' (eV 1) (eC (.str "")))) (eV 1) (wipeL [some (.d (.str x)), none] [1]) ((Txt.split x " ").map D.str) [] [] = .ok ([] ++ (((Txt.split x " ").map D.str).filter fun d => match d with
      | .str w => !decide (w = "")
      | _ => false).map id) [] := by
    refine compL_map _ _ _ _ _ fun d hd => ?_
    obtain ⟨w, _, rfl⟩ := List.mem_map.mp hd
    refine ⟨_, rfl, ?_, fun _ => ?_⟩
    · have e : neD' (.str w) (.str "") = some (.bl (!decide (w = ""))) := rfl
      repeat (first | walk_at "ev" | simp only [e, wipeL])
    · repeat (first | walk_at "ev" | simp only [wipeL])
      rfl
  have h3 : (((Txt.split x " ").map D.str).filter fun d => match d with
      | .str w => !decide (w = "")
      | _ => false).map id = (wordsT x).map D.str := by
    rw [List.map_id, List.filter_map]
    rfl
  rw [List.nil_append, h3] at h2
  rw [run7]
  unfold b7
  repeat (first | walk_at "ev" | simp only [h1, hl, h2])
/-- a word that stands in a text: not empty, no space in it, of at most 12 signs -/
def plainW (w : Str) : Prop := cs w ≠ [] ∧ 32 ∉ cs w ∧ (cs w).length ≤ 12
theorem letter_mem (c : Nat) : c ∈ letters ↔ 97 ≤ c ∧ c ≤ 122 := by
  have e : letters = [97, 98, 99, 100, 101, 102, 103, 104, 105, 106, 107, 108, 109, 110, 111, 112, 113, 114, 115, 116, 117, 118, 119, 120, 121, 122] := by decide +kernel
  rw [e]
  simp only [List.mem_cons, List.not_mem_nil, or_false]
  omega
theorem name_plain {w : Str} (h : nameOk w = true) : plainW w := by
  have hl := name_len h
  rw [len_cs] at hl
  unfold nameOk at h
  simp only [Bool.and_eq_true, List.all_eq_true, Bool.or_eq_true, decide_eq_true_eq] at h
  refine ⟨fun z => by rw [z] at hl; simp at hl, fun z => ?_, hl.1⟩
  rcases h.2 32 z with q | q
  · rw [letter_mem] at q; omega
  · rw [digit_mem] at q; omega
theorem num_plain {i : Int} (h1 : -999999999 ≤ i) (h2 : i ≤ 999999999) : plainW (numT i) := by
  have hl := num_len i h1 h2
  rw [len_cs] at hl
  rcases numT_cases i with ⟨_, e⟩ | ⟨_, e⟩
  · exact ⟨by rw [e]; exact numL_ne _, by rw [e]; exact numL_free (by omega), by omega⟩
  · refine ⟨by rw [e]; simp, ?_, by omega⟩
    rw [e]
    intro z
    rcases List.mem_cons.mp z with z | z
    · cases z
    · exact numL_free (n := i.natAbs) (s := 32) (by omega) z
instance (w : Str) : Decidable (plainW w) := by unfold plainW; infer_instance
theorem amt_plain : ∀ k : Nat, (∀ (t : D) (ws : List Str), Amt k t ws → ∀ w ∈ ws, plainW w) ∧ (∀ (t : D) (ws : List Str), Cnd k t ws → ∀ w ∈ ws, plainW w) := by
  have binP : ∀ o ∈ binO, plainW o := by unfold binO; decide +kernel
  have twoP : ∀ o ∈ twoC, plainW o := by unfold twoC; decide +kernel
  have cmpP : ∀ o ∈ cmpC, plainW o := by unfold cmpC; decide +kernel
  have fact : plainW "fact" := by decide +kernel
  have or_ : plainW "or" := by decide +kernel
  have due : plainW "due" := by decide +kernel
  have pct : plainW "percent" := by decide +kernel
  have if_ : plainW "if" := by decide +kernel
  have known : plainW "known" := by decide +kernel
  have not_ : plainW "not" := by decide +kernel
  intro k
  induction k with
  | zero =>
    refine ⟨fun t ws h w hw => ?_, fun t ws h w hw => ?_⟩
    · cases h with
      | num h1 h2 => rw [List.mem_singleton.mp hw]; exact num_plain h1 h2
      | fact hn =>
        simp only [List.mem_cons, List.not_mem_nil, or_false] at hw
        rcases hw with rfl | rfl
        · exact fact
        · exact name_plain hn
      | due hn =>
        simp only [List.mem_cons, List.not_mem_nil, or_false] at hw
        rcases hw with rfl | rfl
        · exact due
        · exact name_plain hn
    · cases h with
      | known hn =>
        simp only [List.mem_cons, List.not_mem_nil, or_false] at hw
        rcases hw with rfl | rfl
        · exact known
        · exact name_plain hn
  | succ k ih =>
    obtain ⟨ihA, ihC⟩ := ih
    refine ⟨fun t ws h w hw => ?_, fun t ws h w hw => ?_⟩
    · cases h with
      | num h1 h2 => rw [List.mem_singleton.mp hw]; exact num_plain h1 h2
      | fact hn =>
        simp only [List.mem_cons, List.not_mem_nil, or_false] at hw
        rcases hw with rfl | rfl
        · exact fact
        · exact name_plain hn
      | due hn =>
        simp only [List.mem_cons, List.not_mem_nil, or_false] at hw
        rcases hw with rfl | rfl
        · exact due
        · exact name_plain hn
      | factOr hn ht =>
        simp only [List.mem_cons] at hw
        rcases hw with rfl | rfl | rfl | hw
        · exact fact
        · exact name_plain hn
        · exact or_
        · exact ihA _ _ ht w hw
      | bin ho ha hb =>
        simp only [List.mem_cons, List.mem_append] at hw
        rcases hw with rfl | hw | hw
        · exact binP _ ho
        · exact ihA _ _ ha w hw
        · exact ihA _ _ hb w hw
      | pct h1 h2 ha =>
        simp only [List.mem_cons] at hw
        rcases hw with rfl | rfl | hw
        · exact pct
        · exact num_plain (by omega) (by omega)
        · exact ihA _ _ ha w hw
      | ite hc ha hb =>
        simp only [List.mem_cons, List.mem_append] at hw
        rcases hw with rfl | hw | hw | hw
        · exact if_
        · exact ihC _ _ hc w hw
        · exact ihA _ _ ha w hw
        · exact ihA _ _ hb w hw
    · cases h with
      | known hn =>
        simp only [List.mem_cons, List.not_mem_nil, or_false] at hw
        rcases hw with rfl | rfl
        · exact known
        · exact name_plain hn
      | not hc =>
        simp only [List.mem_cons] at hw
        rcases hw with rfl | hw
        · exact not_
        · exact ihC _ _ hc w hw
      | two ho ha hb =>
        simp only [List.mem_cons, List.mem_append] at hw
        rcases hw with rfl | hw | hw
        · exact twoP _ ho
        · exact ihC _ _ ha w hw
        · exact ihC _ _ hb w hw
      | cmp ho ha hb =>
        simp only [List.mem_cons, List.mem_append] at hw
        rcases hw with rfl | hw | hw
        · exact cmpP _ ho
        · exact ihA _ _ ha w hw
        · exact ihA _ _ hb w hw
theorem amt_ne {k : Nat} {t : D} {ws : List Str} (h : Amt k t ws) : ws ≠ [] := by cases h <;> simp
/-- a text of these words -/
def SpT (x : Str) (ws : List Str) : Prop := wordsIn (cs x) = ws.map tl ∧ x.length ≤ 100000
theorem join_sp {ws : List Str} (hn : ws ≠ []) (hp : ∀ w ∈ ws, plainW w) : wordsIn (cs (Txt.join " " ws)) = ws.map tl := by
  rw [join_eq, show cs (Str.join " " ws) = _ from tl_join " " ws, show tl (Str.ofString " ") = [32] from sp_codes]
  unfold wordsIn
  rw [spl_join (by simpa using hn) fun p hp' => by
    obtain ⟨w, hw, rfl⟩ := List.mem_map.mp hp'
    exact (hp w hw).2.1]
  rw [List.filter_eq_self.mpr fun p hp' => by
    obtain ⟨w, hw, rfl⟩ := List.mem_map.mp hp'
    have := (hp w hw).1
    cases e : tl w with
    | nil => exact (this e).elim
    | cons _ _ => rfl]
theorem join_sum {ws : List Str} (hp : ∀ w ∈ ws, plainW w) : (ws.map (·.length)).sum ≤ 12 * ws.length := by
  induction ws with
  | nil => simp
  | cons w r ih =>
    have h1 := (hp w List.mem_cons_self).2.2
    rw [← len_cs] at h1
    have := ih fun w hw => hp w (List.mem_cons_of_mem _ hw)
    simp only [List.map_cons, List.sum_cons, List.length_cons]
    omega
theorem join_len {ws : List Str} (hp : ∀ w ∈ ws, plainW w) : (Txt.join " " ws).length ≤ 13 * ws.length := by
  have h := PySem.StrLaws.join_length_le " " ws
  rw [join_eq]
  have := join_sum hp
  rw [show (Str.ofString " ").length = 1 from by decide +kernel] at h
  omega
theorem join_run {ws : List Str} (hp : ∀ w ∈ ws, plainW w) (hz : ws.length ≤ 1000) : joinD " " (wl ws) = some (.str (Txt.join " " ws)) := by
  have e : joinD " " (wl ws) = match txts (ws.map D.str) with
    | some ys => if (ys.map (·.length)).sum + ys.length * (Str.ofString " ").length ≤ 16777216 then some (.str (Txt.join " " ys)) else none
    | none => none := rfl
  rw [e, txts_map]
  have := join_sum hp
  have h1 : (Str.ofString " ").length = 1 := by decide +kernel
  simp only [h1]
  rw [if_pos (by omega)]
theorem x_parse (n k : Nat) (t : D) (ws : List Str) (x : Str) (h : Amt k t ws) (hz : ws.length ≤ 40) (hx : SpT x ws) (hn : 3 * k + 5 ≤ n) : run (n + 1) 6 [.d (.str x)] [] = .ok (.d t) [] := by
  obtain ⟨M, rfl⟩ : ∃ M, n = M + 1 := ⟨n - 1, by omega⟩
  have e1 := x_split_words M x (Nat.le_trans hx.2 (by decide))
  rw [wordsT_eq hx.1] at e1
  have e2 := (reads_all ws k).1 t ws h (M + 1) 0 ws.length (by omega) ⟨[], [], by simp, rfl, by simp, by simp⟩
  unfold rdA at e2
  rw [show (((0 : Nat)) : Int) = 0 from rfl] at e2
  have e3 : lenD (wl ws) = some (.int (ws.length : Int)) := by
    show some (D.int ((ws.map D.str).length : Int)) = _
    rw [List.length_map]
  have e4 : gtD (.int (ws.length : Int)) (.int 40) = some (.bl false) := by
    show some (D.bl (decide _)) = _
    rw [decide_eq_false (by omega)]
  have e5 : ltD (.int (ws.length : Int)) (.int (ws.length : Int)) = some (.bl false) := by
    show some (D.bl (decide _)) = _
    rw [decide_eq_false (by omega)]
  rw [run6]
  unfold b6
  repeat (first | walk_at "ev" | simp only [e1, e2, e3, e4, e5])
/-! ### the law's draws: rows of ints from 0 to 999 -/
theorem mul_r {i j : Int} (h1 : -18446744073709551616 < j) (h2 : j < 18446744073709551616) : mulD (.int i) (.int j) = some (.int (i * j)) := if_pos (.inr ⟨by omega, by omega⟩)
theorem mul_l {i j : Int} (h1 : -18446744073709551616 < i) (h2 : i < 18446744073709551616) : mulD (.int i) (.int j) = some (.int (i * j)) := if_pos (.inl ⟨by omega, by omega⟩)
theorem fdiv_ok {i j : Int} (h1 : 0 < j) (h2 : j < 1073741824) : fdivD (.int i) (.int j) = some (.int (i / j)) := if_pos ⟨h1, h2⟩
theorem mod_ok {i j : Int} (h1 : 0 < j) : modD (.int i) (.int j) = some (.int (i % j)) := if_pos h1
theorem add_i {i j : Int} : addD (.int i) (.int j) = some (.int (i + j)) := rfl
theorem sub_i {i j : Int} : subD (.int i) (.int j) = some (.int (i - j)) := rfl
theorem int_i {i : Int} : intD (.int i) = some (.int i) := rfl
theorem gt_t {i j : Int} (h : j < i) : gtD (.int i) (.int j) = some (.bl true) := by
  show some (D.bl (decide _)) = _
  rw [decide_eq_true h]
theorem gt_f {i j : Int} (h : ¬ j < i) : gtD (.int i) (.int j) = some (.bl false) := by
  show some (D.bl (decide _)) = _
  rw [decide_eq_false h]
theorem lt_t {i j : Int} (h : i < j) : ltD (.int i) (.int j) = some (.bl true) := by
  show some (D.bl (decide _)) = _
  rw [decide_eq_true h]
theorem lt_f {i j : Int} (h : ¬ i < j) : ltD (.int i) (.int j) = some (.bl false) := by
  show some (D.bl (decide _)) = _
  rw [decide_eq_false h]
theorem le_t {i j : Int} (h : i ≤ j) : leD (.int i) (.int j) = some (.bl true) := by
  show some (D.bl (decide _)) = _
  rw [decide_eq_true h]
theorem le_f {i j : Int} (h : ¬ i ≤ j) : leD (.int i) (.int j) = some (.bl false) := by
  show some (D.bl (decide _)) = _
  rw [decide_eq_false h]
theorem eqi_t {i j : Int} (h : i = j) : eqD' (.int i) (.int j) = some (.bl true) := by
  show some (D.bl (decide _)) = _
  rw [decide_eq_true h]
theorem eqi_f {i j : Int} (h : i ≠ j) : eqD' (.int i) (.int j) = some (.bl false) := by
  show some (D.bl (decide _)) = _
  rw [decide_eq_false h]
abbrev il (xs : List Int) : D := .lst (xs.map .int)
def inRow (xs : List Int) : Prop := ∀ x ∈ xs, 0 ≤ x ∧ x < 1000
theorem row_loop {s0 p0 m0 : Val} {c : Int} : ∀ (j lo : Nat) (r : Int) (xs : List Int) (kx mx : Option Val), lo + j ≤ 1000 → xs.length = lo → inRow xs →
    ∃ r' xs' kx' mx', xs'.length = lo + j ∧ inRow xs' ∧
    forL (gN 6) (sIf (bE (eOp2 gtD (eV 4) (eC (.int 0)))) (sSeq (sEx (eAppend (eV 5) (eOp2 modD (eOp1 intD (eV 4)) (eC (.int 1000)))))
    (sAsg (eOp2 fdivD (eV 4) (eC (.int 1000))) (gN 4))) (sSeq (sAsg (eOp2 modD (eOp1 intD (eOp2 addD (eOp2 addD (eOp2 mulD (eV 3) (eC (.int 48271))) (eOp2 mulD (eV 6) (eC (.int 69621)))) (eC (.int 12345)))) (eC (.int 2147483647))) (gN 7))
    (sSeq (sAsg (eOp2 modD (eOp1 intD (eOp2 addD (eOp2 addD (eOp2 mulD (eV 7) (eV 7)) (eOp2 mulD (eV 7) (eC (.int 16807)))) (eOp2 mulD (eV 6) (eC (.int 40692))))) (eC (.int 2147483399))) (gN 7))
    (sEx (eAppend (eV 5) (eOp2 modD (eOp2 fdivD (eV 7) (eC (.int 64))) (eC (.int 1000))))))))
      (rng (lo : Int) j) [some s0, some p0, some m0, some (.d (.int c)), some (.d (.int r)), some (.ref 0), kx, mx] [.lst (xs.map .int)] =
    .nx [some s0, some p0, some m0, some (.d (.int c)), some (.d (.int r')), some (.ref 0), kx', mx'] [.lst (xs'.map .int)] := by
  intro j
  induction j with
  | zero => intro lo r xs kx mx _ hl hr; exact ⟨r, xs, kx, mx, hl, hr, by rw [rng_zero, forL_nil]⟩
  | succ j ih =>
    intro lo r xs kx mx hz hl hr
    have hz1 : (xs.map D.int).length < sizeLine := by
      rw [List.length_map]
      exact Nat.lt_of_lt_of_le (by omega) (small (Nat.le_refl 1000000))
    have app : ∀ x : Int, (xs.map D.int) ++ [D.int x] = (xs ++ [x]).map .int := fun x => by simp
    have step : ∀ x : Int, 0 ≤ x ∧ x < 1000 → inRow (xs ++ [x]) := fun x hx y hy => by
      rcases List.mem_append.mp hy with h | h
      · exact hr y h
      · rw [List.mem_singleton.mp h]; exact hx
    have hc : ((lo : Int) + 1) = ((lo + 1 : Nat) : Int) := rfl
    rw [rng_cons, forL_cons]
    by_cases h : 0 < r
    · have e1 := gt_t h
      have e2 := mod_ok (i := r) (j := 1000) (by decide)
      have e3 := fdiv_ok (i := r) (j := 1000) (by decide) (by decide)
      obtain ⟨r', xs', kx', mx', g1, g2, g3⟩ := ih (lo + 1) (r / 1000) (xs ++ [r % 1000]) (some (.d (.int lo))) mx (by omega) (by rw [List.length_append, hl]; rfl) (step _ (by omega))
      refine ⟨r', xs', kx', mx', by omega, g2, ?_⟩
      rw [hc]
      repeat (first | walk_at "ev" | simp only [e1, e2, e3, int_i, hz1, app, g3])
    · have e1 := gt_f h
      generalize hm : (c * 48271 + (lo : Int) * 69621 + 12345) % 2147483647 = m
      have hm0 : 0 ≤ m ∧ m < 2147483647 := by omega
      generalize hm2 : (m * m + m * 16807 + (lo : Int) * 40692) % 2147483399 = m2
      have e2 := mul_r (i := c) (j := 48271) (by decide) (by decide)
      have e3 := mul_r (i := (lo : Int)) (j := 69621) (by decide) (by decide)
      have e4 := mod_ok (i := c * 48271 + (lo : Int) * 69621 + 12345) (j := 2147483647) (by decide)
      rw [hm] at e4
      have e5 := mul_r (i := m) (j := m) (by omega) (by omega)
      have e6 := mul_r (i := m) (j := 16807) (by decide) (by decide)
      have e7 := mul_r (i := (lo : Int)) (j := 40692) (by decide) (by decide)
      have e8 := mod_ok (i := m * m + m * 16807 + (lo : Int) * 40692) (j := 2147483399) (by decide)
      rw [hm2] at e8
      have e9 := fdiv_ok (i := m2) (j := 64) (by decide) (by decide)
      have e10 := mod_ok (i := m2 / 64) (j := 1000) (by decide)
      obtain ⟨r', xs', kx', mx', g1, g2, g3⟩ := ih (lo + 1) r (xs ++ [m2 / 64 % 1000]) (some (.d (.int lo))) (some (.d (.int m2))) (by omega) (by rw [List.length_append, hl]; rfl) (step _ (by omega))
      refine ⟨r', xs', kx', mx', by omega, g2, ?_⟩
      rw [hc]
      repeat (first | walk_at "ev" | simp only [e1, e2, e3, e4, e5, e6, e7, e8, e9, e10, int_i, add_i, hz1, app, g3])
/-! ### drawn names are names -/
theorem str_of_idx {x : Str} {i : Int} {l : List Nat} (hx : cs x = l) (h0 : 0 ≤ i) (h1 : i < (l.length : Int)) : ∃ c, c ∈ l ∧ idxD (.str x) (.int i) = some (.str (mk [c])) ∨ x.length > sizeLine := by
  by_cases hz : x.length ≤ sizeLine
  · have hk : i.toNat < l.length := by omega
    refine ⟨l[i.toNat], .inl ⟨List.getElem_mem _, ?_⟩⟩
    have e : idxD (.str x) (.int i) = if x.length ≤ sizeLine then (atI (cs x) i).map fun c => .str ⟨#[c]⟩ else none := rfl
    have hi : atI (cs x) i = atI (cs x) ((i.toNat : Nat) : Int) := congrArg _ (by omega)
    rw [e, if_pos hz, hi, hx, atI_get, List.getElem?_eq_getElem hk]
    rfl
  · exact ⟨0, .inr (by omega)⟩
theorem idx_txt {x : Str} {i : Int} (hz : x.length ≤ 1000000) (h0 : 0 ≤ i) (h1 : i < ((cs x).length : Int)) : ∃ c, c ∈ cs x ∧ idxD (.str x) (.int i) = some (.str (mk [c])) := by
  obtain ⟨c, h | h⟩ := str_of_idx (x := x) rfl h0 h1
  · exact ⟨c, h⟩
  · have := small hz
    omega
theorem idx_row {xs : List Int} {i : Nat} (hr : inRow xs) (h : i < xs.length) : ∃ x, (0 ≤ x ∧ x < 1000) ∧ xs[i]? = some x ∧ idxD (il xs) (.int (i : Int)) = some (.int x) := by
  refine ⟨xs[i], hr _ (List.getElem_mem _), List.getElem?_eq_getElem h, ?_⟩
  exact idx_lst (by rw [List.getElem?_map, List.getElem?_eq_getElem h]; rfl)
theorem add_txt {x y : Str} (h : x.length + y.length ≤ 1000000) : addD (.str x) (.str y) = some (.str (x ++ y)) := if_pos (small h)
theorem cs_app (x y : Str) : cs (x ++ y) = cs x ++ cs y := tl_append x y
abbrev abc : Str := "abcdefghijklmnopqrstuvwxyz"
abbrev abcd : Str := abc ++ "0123456789"
theorem cs_abc : cs abc = letters := rfl
theorem cs_abcd : cs abcd = letters ++ digits := cs_app _ _
theorem len_abc : letters.length = 26 := by decide +kernel
theorem len_dig : digits.length = 10 := by decide +kernel
/-- a text of letters and digits that begins with a letter -/
def nameL (l : List Nat) : Prop := (∀ c ∈ l, c ∈ letters ∨ c ∈ digits) ∧ ∀ c r, l = c :: r → c ∈ letters
theorem nameL_ok {x : Str} (h : nameL (cs x)) (h1 : 1 ≤ (cs x).length) (h2 : (cs x).length ≤ 12) (h3 : x ∉ kept) : nameOk x = true := by
  unfold nameOk
  rw [decide_eq_true h2, show kept.contains x = false from by
    cases e : kept.contains x with
    | false => rfl
    | true => exact (h3 (List.contains_iff_mem.mp e)).elim]
  cases e : cs x with
  | nil => rw [e] at h1; cases h1
  | cons c r =>
    show (true && !false && decide (c ∈ letters) && _) = true
    rw [show decide (c ∈ letters) = true from decide_eq_true (h.2 c r e)]
    simp only [Bool.not_false, Bool.true_and, List.all_eq_true, Bool.or_eq_true, decide_eq_true_eq]
    intro d hd
    exact h.1 d (by rw [e]; exact hd)
theorem name_loop {k0 s0 a0 : Val} {row : List Int} (hr : inRow row) (hl : 15 ≤ row.length) : ∀ (j lo : Nat) (x : Str) (kx at_ : Option Val), lo + j ≤ 11 → nameL (cs x) → (cs x).length = lo →
    ∃ x' kx', nameL (cs x') ∧ (cs x').length = lo + j ∧
    forL (gN 6) (sIf (bE (eOp2 eqD' (eV 6) (eC (.int 0)))) (sAsg (eIdx (eV 2) (eOp2 modD (eOp1 intD (eIdx (eV 0) (eC (.int 3)))) (eC (.int 26)))) (gN 3)) (sAsg (eOp2 addD (eV 3) (eIdx (eOp2 addD (eV 2) (eC (.str "0123456789"))) (eOp2 modD (eOp1 intD (eIdx (eV 0) (eOp2 addD (eC (.int 3)) (eV 6)))) (eC (.int 36))))) (gN 3)))
      (rng (lo : Int) j) [some (.d (il row)), some k0, some (.d (.str abc)), some (.d (.str x)), some s0, some a0, kx, at_] [] =
    .nx [some (.d (il row)), some k0, some (.d (.str abc)), some (.d (.str x')), some s0, some a0, kx', at_] [] := by
  intro j
  induction j with
  | zero => intro lo x kx at_ _ hn hx; exact ⟨x, kx, hn, hx, by rw [rng_zero, forL_nil]⟩
  | succ j ih =>
    intro lo x kx at_ hz hn hx
    have hc : ((lo : Int) + 1) = ((lo + 1 : Nat) : Int) := rfl
    rw [rng_cons, forL_cons, hc]
    by_cases h0 : lo = 0
    · subst h0
      obtain ⟨v, hv, _, e1⟩ := idx_row (i := 3) hr (by omega)
      have e1 : idxD (il row) (.int 3) = some (.int v) := e1
      have e2 := mod_ok (i := v) (j := 26) (by decide)
      obtain ⟨c, hc1, e3⟩ := idx_txt (x := abc) (i := v % 26) (by decide +kernel) (by omega) (by rw [cs_abc, len_abc]; omega)
      have e4 := eqi_t (i := ((0 : Nat) : Int)) (j := 0) rfl
      obtain ⟨x', kx', g1, g2, g3⟩ := ih 1 (mk [c]) (some (.d (.int ((0 : Nat) : Int)))) at_ (by omega) ⟨fun d hd => by rw [List.mem_singleton.mp hd]; exact .inl hc1, fun d r hd => by injection hd with hd _; rw [← hd]; exact hc1⟩ rfl
      refine ⟨x', kx', g1, by omega, ?_⟩
      repeat (first | walk_at "ev" | simp only [e1, e2, e3, e4, int_i, g3])
    · obtain ⟨v, hv, _, e1⟩ := idx_row (i := 3 + lo) hr (by omega)
      have e1 : idxD (il row) (.int (3 + (lo : Int))) = some (.int v) := e1
      have e2 := mod_ok (i := v) (j := 36) (by decide)
      have e5 := add_txt (x := abc) (y := "0123456789") (by decide +kernel)
      obtain ⟨c, hc1, e3⟩ := idx_txt (x := abcd) (i := v % 36) (by decide +kernel) (by omega) (by rw [cs_abcd, List.length_append, len_abc, len_dig]; omega)
      rw [cs_abcd, List.mem_append] at hc1
      have e4 := eqi_f (i := (lo : Int)) (j := 0) (by omega)
      have e6 := add_txt (x := x) (y := mk [c]) (by rw [len_cs, len_cs, hx]; simp; omega)
      obtain ⟨x', kx', g1, g2, g3⟩ := ih (lo + 1) (x ++ mk [c]) (some (.d (.int (lo : Int)))) at_ (by omega) ⟨fun d hd => by
        rw [cs_app] at hd
        rcases List.mem_append.mp hd with h | h
        · exact hn.1 d h
        · rw [List.mem_singleton.mp h]; exact hc1, fun d r hd => by
        rw [cs_app] at hd
        cases ex : cs x with
        | nil => rw [ex] at hx; simp at hx; omega
        | cons d' r' =>
          rw [ex] at hd
          injection hd with hd _
          rw [← hd]
          exact hn.2 d' r' ex⟩ (by rw [cs_app, List.length_append, hx]; rfl)
      refine ⟨x', kx', g1, by omega, ?_⟩
      repeat (first | walk_at "ev" | simp only [e1, e2, e3, e4, e5, e6, int_i, add_i, g3])
theorem cs_cut (x : Str) (lo hi : Option Int) : cs (cutS x lo hi) = ((cs x).drop (HT.sIx x.length 0 lo)).take (HT.sIx x.length x.length hi - HT.sIx x.length 0 lo) := rfl
theorem sl_to {x : Str} {k : Nat} (hz : x.length ≤ 1000000) (hk : k ≤ x.length) : slD (.str x) none (some (k : Int)) = some (.str (mk ((cs x).take k))) := by
  have e : slD (.str x) none (some (k : Int)) = if x.length ≤ sizeLine then some (.str (cutS x none (some (k : Int)))) else none := rfl
  rw [e, if_pos (small hz)]
  refine congrArg (fun z => some (D.str z)) (str_ext ?_)
  rw [cs_cut, HT.sIx_none, HT.sIx_nat, cs_mk, List.drop_zero, Nat.sub_zero, Nat.min_eq_left hk]
theorem sl_from {x : Str} {k : Nat} (hz : x.length ≤ 1000000) (hk : k ≤ x.length) : slD (.str x) (some (k : Int)) none = some (.str (mk ((cs x).drop k))) := by
  have e : slD (.str x) (some (k : Int)) none = if x.length ≤ sizeLine then some (.str (cutS x (some (k : Int)) none)) else none := rfl
  rw [e, if_pos (small hz)]
  refine congrArg (fun z => some (D.str z)) (str_ext ?_)
  rw [cs_cut, HT.sIx_none, HT.sIx_nat, cs_mk, Nat.min_eq_left hk, List.take_of_length_le (by rw [List.length_drop, ← len_cs]; omega)]
theorem in_kept2 (x : Str) : inD false (.str x) (.lst [.str "fact", .str "known", .str "due", .str "or", .str "plus", .str "minus", .str "times", .str "least", .str "most", .str "percent", .str "if", .str "below", .str "same", .str "not", .str "both", .str "either"]) = some (.bl (kept.contains x)) := in_txts false x kept
theorem kept_x : ∀ w ∈ kept, nameOk (w ++ "x") = true := by unfold kept; decide +kernel
/-- the name's end: the drawn sign put in, and an x behind a kept word -/
theorem name_end {x : Str} {c : Nat} {k : Nat} (hn : nameL (cs x)) (hx : (cs x).length ≤ 11) (hk : k ≤ (cs x).length) (hc : c ∈ letters) :
    nameL (cs (mk ((cs x).take k) ++ mk [c] ++ mk ((cs x).drop k))) ∧ 1 ≤ (cs (mk ((cs x).take k) ++ mk [c] ++ mk ((cs x).drop k))).length ∧ (cs (mk ((cs x).take k) ++ mk [c] ++ mk ((cs x).drop k))).length ≤ 12 := by
  have e : cs (mk ((cs x).take k) ++ mk [c] ++ mk ((cs x).drop k)) = (cs x).take k ++ [c] ++ (cs x).drop k := by
    rw [cs_app, cs_app]
  rw [e]
  refine ⟨⟨fun d hd => ?_, fun d r hd => ?_⟩, ?_, ?_⟩
  · simp only [List.mem_append, List.mem_singleton] at hd
    rcases hd with (h | h) | h
    · exact hn.1 d (List.mem_of_mem_take h)
    · rw [h]; exact .inl hc
    · exact hn.1 d (List.mem_of_mem_drop h)
  · cases k with
    | zero =>
      rw [List.take_zero] at hd
      injection hd with hd _
      rw [← hd]; exact hc
    | succ k =>
      cases ex : cs x with
      | nil => rw [ex] at hk; simp at hk
      | cons d' r' =>
        rw [ex] at hd
        injection hd with hd _
        rw [← hd]
        exact hn.2 d' r' ex
  · simp only [List.length_append, List.length_singleton]; omega
  · simp only [List.length_append, List.length_singleton, List.length_take, List.length_drop]; omega
/-! ### the law's draws of an expression -/
theorem pys_ints : ∀ xs : List Int, D.pys (xs.map .int) = xs.map PyData.int
  | [] => by rw [List.map_nil, D.pys]; rfl
  | x :: r => by rw [List.map_cons, D.pys, D.py, pys_ints r]; rfl
theorem eq_nil (xs : List Int) : eqD' (.lst (xs.map .int)) (.lst []) = some (.bl xs.isEmpty) := by
  have e : eqD' (.lst (xs.map .int)) (.lst []) = (if SeqAt.shaped (D.py (.lst (xs.map .int))) = true ∧ SeqAt.shaped (D.py (.lst [])) = true then some (PyData.eqv (D.py (.lst (xs.map .int))) (D.py (.lst []))) else none).map .bl := rfl
  have p : D.py (.lst (xs.map .int)) = .list (xs.map .int) := by rw [D.py, pys_ints]
  have p0 : D.py (.lst []) = .list (([] : List Int).map .int) := by rw [D.py, D.pys]; rfl
  rw [e, p, p0, if_pos ⟨PySem.W.ke_shaped_ints _, PySem.W.ke_shaped_ints _⟩]
  cases xs <;> simp [PyData.eqv, PyData.eqvAll]
/-- the store with the draws' list at p -/
def Dr (S0 : Store) (p : Nat) (S : Store) : Prop := p < S0.length ∧ ∃ xs, inRow xs ∧ S = S0.set p (.lst (xs.map .int))
def Nm (fs : List Str) : Prop := (1 ≤ fs.length ∧ fs.length ≤ 100) ∧ ∀ w ∈ fs, nameOk w = true
theorem Nm.pos {fs : List Str} (h : Nm fs) : (0 : Int) < (fs.length : Int) := by have := h.1; omega
theorem Nm.len {fs : List Str} (h : Nm fs) : lenD (wl fs) = some (.int (fs.length : Int)) := by
  show some (D.int ((fs.map D.str).length : Int)) = _
  rw [List.length_map]
theorem pickD {ds : List D} {v : Int} (h0 : 0 ≤ v) (h1 : v < (ds.length : Int)) : ∃ d, d ∈ ds ∧ idxD (.lst ds) (.int v) = some d := by
  have hk : v.toNat < ds.length := by omega
  have e := idx_lst (List.getElem?_eq_getElem hk)
  rw [show ((v.toNat : Nat) : Int) = v from by omega] at e
  exact ⟨_, List.getElem_mem _, e⟩
theorem Nm.pick {fs : List Str} (h : Nm fs) {v : Int} (h0 : 0 ≤ v) (h1 : v < (fs.length : Int)) : ∃ w, nameOk w = true ∧ idxD (wl fs) (.int v) = some (.str w) := by
  obtain ⟨d, hd, e⟩ := pickD (ds := fs.map .str) h0 (by rw [List.length_map]; exact h1)
  obtain ⟨w, hw, rfl⟩ := List.mem_map.mp hd
  exact ⟨w, h.2 w hw, e⟩
theorem atI_last {α : Type} (xs : List α) (h : xs ≠ []) : atI xs (-1) = xs[xs.length - 1]? := by
  have hl : 0 < xs.length := List.length_pos_iff.mpr h
  unfold atI ixN
  rw [if_neg (by omega), if_pos (by omega)]
  show xs[((-1 : Int) + xs.length).toNat]? = _
  congr 1
  omega
theorem Nm.last {fs : List Str} (h : Nm fs) : ∃ r, nameOk r = true ∧ idxD (wl fs) (.int (-1)) = some (.str r) := by
  have hl := h.1
  have hn : fs.map D.str ≠ [] := fun z => by
    have := congrArg List.length z
    rw [List.length_map] at this
    simp only [List.length_nil] at this
    omega
  have hk : fs.length - 1 < fs.length := by omega
  refine ⟨fs[fs.length - 1], h.2 _ (List.getElem_mem _), (atI_last _ hn).trans ?_⟩
  rw [List.length_map]
  exact wl_get (List.getElem?_eq_getElem hk)
theorem eqI {i j : Int} : eqD' (.int i) (.int j) = some (.bl (decide (i = j))) := rfl
theorem ltI {i j : Int} : ltD (.int i) (.int j) = some (.bl (decide (i < j))) := rfl
theorem leI {i j : Int} : leD (.int i) (.int j) = some (.bl (decide (i ≤ j))) := rfl
theorem gtI {i j : Int} : gtD (.int i) (.int j) = some (.bl (decide (j < i))) := rfl
theorem dT {c : Prop} [Decidable c] (h : c) : decide c = true := decide_eq_true h
theorem dF {c : Prop} [Decidable c] (h : ¬ c) : decide c = false := decide_eq_false h
theorem amt_words : ∀ k : Nat, (∀ (t : D) (ws : List Str), Amt k t ws → ws.length + 1 ≤ 3 ^ (k + 1)) ∧ (∀ (t : D) (ws : List Str), Cnd k t ws → ws.length + 1 ≤ 3 ^ (k + 1)) := by
  intro k
  induction k with
  | zero => exact ⟨fun t ws h => by cases h <;> simp, fun t ws h => by cases h <;> simp⟩
  | succ k ih =>
    obtain ⟨ihA, ihC⟩ := ih
    have p : (3 : Nat) ^ (k + 1 + 1) = 3 * 3 ^ (k + 1) := by rw [Nat.pow_succ, Nat.mul_comm]
    have q : 3 ≤ 3 ^ (k + 1) := Nat.le_trans (by decide) (Nat.pow_le_pow_right (by decide) (Nat.le_add_left 1 k))
    refine ⟨fun t ws h => ?_, fun t ws h => ?_⟩
    · cases h with
      | num => simp only [List.length_cons, List.length_nil]; omega
      | fact => simp only [List.length_cons, List.length_nil]; omega
      | due => simp only [List.length_cons, List.length_nil]; omega
      | factOr _ h1 => have := ihA _ _ h1; simp only [List.length_cons]; omega
      | bin _ h1 h2 => have := ihA _ _ h1; have := ihA _ _ h2; simp only [List.length_cons, List.length_append]; omega
      | pct _ _ h1 => have := ihA _ _ h1; simp only [List.length_cons]; omega
      | ite h1 h2 h3 => have := ihC _ _ h1; have := ihA _ _ h2; have := ihA _ _ h3; simp only [List.length_cons, List.length_append]; omega
    · cases h with
      | known => simp only [List.length_cons, List.length_nil]; omega
      | not h1 => have := ihC _ _ h1; simp only [List.length_cons]; omega
      | two _ h1 h2 => have := ihC _ _ h1; have := ihC _ _ h2; simp only [List.length_cons, List.length_append]; omega
      | cmp _ h1 h2 => have := ihA _ _ h1; have := ihA _ _ h2; simp only [List.length_cons, List.length_append]; omega
/-! ### the law reads any words -/
theorem cs_az09 : cs "abcdefghijklmnopqrstuvwxyz0123456789" = letters ++ digits := by decide +kernel
theorem lname_loop {w0 : Val} : ∀ (l : List Nat) (x : Option Val), ∃ x', forL (gN 1) (sIf (bE (eOp2 (inD true) (eV 1) (eC (.str "abcdefghijklmnopqrstuvwxyz0123456789")))) (sRt (eC (.bl false))) sNx) (l.map fun c => D.str (mk [c])) [some w0, x] [] =
    if (l.all fun c => decide (c ∈ letters) || decide (c ∈ digits)) = true then .nx [some w0, x'] [] else .rt (.d (.bl false)) []
  | [], x => ⟨x, by rw [List.map_nil, forL_nil]; rfl⟩
  | c :: l, x => by
    obtain ⟨x', ih⟩ := lname_loop (w0 := w0) l (some (.d (.str (mk [c]))))
    refine ⟨x', ?_⟩
    have q := in_sign true c "abcdefghijklmnopqrstuvwxyz0123456789"
    rw [cs_az09] at q
    rw [List.map_cons, forL_cons]
    cases h : (decide (c ∈ letters) || decide (c ∈ digits)) with
    | true =>
      have h' : decide (c ∈ letters ++ digits) = true := by
        rw [decide_eq_true_eq, List.mem_append]
        simpa using h
      repeat (first | walk_at "ev" | simp only [q, h', ih, List.all_cons, h])
    | false =>
      have h' : decide (c ∈ letters ++ digits) = false := by
        rw [decide_eq_false_iff_not, List.mem_append]
        simpa using h
      repeat (first | walk_at "ev" | simp only [q, h', List.all_cons, h, Bool.false_and])
theorem sl_cut1 {w : Str} (hw : w.length ≤ 1000000) : slD (.str w) none (some 1) = some (.str (mk ((cs w).take 1))) := by
  cases ec : cs w with
  | nil =>
    have : w = "" := str_ext ec
    subst this
    rfl
  | cons c r =>
    have hl : w.length = r.length + 1 := by rw [len_cs, ec]; rfl
    have := sl_to (k := 1) hw (by omega)
    rw [ec] at this
    exact this
theorem mk_len (l : List Nat) : (mk l).length = l.length := len_cs (mk l)
/-- the digits of a number, seen alone -/
def tailNum : SS := (sSeq (sIf (bOr (bNot (bE (eChain leD leD (eC (.int 1)) (eOp1 lenD (eV 1)) (eC (.int 9))))) (bE (eOp2 gtD (eOp1 lenD (eComp (iS (eV 1)) (gN 2) (bE (eOp2 (inD true) (eV 2) (eC (.str "0123456789")))) (eV 2) [2])) (eC (.int 0))))) (sRt (eC (.bl false))) sNx)
    (sRt (eOr (eOp2 neD' (eIdx (eV 1) (eC (.int 0))) (eC (.str "0"))) (eOp2 eqD' (eV 0) (eC (.str "0"))))))
def zeroL (l : List Nat) : Bool := match l with
  | 48 :: _ => true
  | _ => false
theorem num_tail (w ds : Str) (hd : ds.length ≤ 1000000) (hu : unminus w = cs ds) : tailNum [some (.d (.str w)), some (.d (.str ds)), none] [] = .rt (.d (.bl (numOk w))) [] := by
  have e0 : numOk w = (!(cs ds).isEmpty && decide ((cs ds).length ≤ 9) && (cs ds).all (fun c => decide (c ∈ digits)) && (decide (w = "0") || !(zeroL (cs ds)))) := by
    rw [← hu]
    rfl
  have hz := small hd
  have h1 : lenD (.str ds) = some (.int (ds.length : Int)) := if_pos hz
  have h2 : leD (.int 1) (.int (ds.length : Int)) = some (.bl (decide ((1 : Int) ≤ ds.length))) := rfl
  have h3 : leD (.int (ds.length : Int)) (.int 9) = some (.bl (decide ((ds.length : Int) ≤ 9))) := rfl
  have hlen : (cs ds).length ≤ sizeLine := by rw [← len_cs]; exact hz
  rw [← len_cs] at e0
  unfold tailNum
  by_cases g0 : (1 : Int) ≤ ds.length
  · have e2 := decide_eq_true g0
    obtain ⟨c, r, ec⟩ : ∃ c r, cs ds = c :: r := by
      cases ec : cs ds with
      | nil => rw [len_cs, ec] at g0; simp at g0
      | cons c r => exact ⟨c, r, rfl⟩
    have e3 : (cs ds).isEmpty = false := by rw [ec]; rfl
    rw [e3] at e0
    by_cases g1 : (ds.length : Int) ≤ 9
    · have f1 := decide_eq_true g1
      have f1' : decide (ds.length ≤ 9) = true := decide_eq_true (by omega)
      have f2 : compL (gN 2) (bE (eOp2 (inD true) (eV 2) (eC (.str "0123456789")))) (eV 2) (wipeL [some (.d (.str w)), some (.d (.str ds)), none] [2]) ((cs ds).map fun c => D.str (mk [c])) [] [] =
          .ok ([] ++ (((cs ds).map fun c => D.str (mk [c])).filter fun d => match d with
            | .str x => !((cs x).all fun c => decide (c ∈ digits))
            | _ => false).map id) [] := by
        refine compL_map _ _ _ _ _ fun d hd => ?_
        obtain ⟨k, _, rfl⟩ := List.mem_map.mp hd
        refine ⟨_, rfl, ?_, fun _ => ?_⟩
        · have q := in_sign true k "0123456789"
          have q2 : decide (k ∈ cs "0123456789") = decide (k ∈ digits) := rfl
          repeat (first | walk_at "ev" | simp only [q, q2, wipeL, cs_mk, List.all_cons, List.all_nil])
        · repeat (first | walk_at "ev" | simp only [wipeL])
          rfl
      have f3 : (((cs ds).map fun c => D.str (mk [c])).filter fun d => match d with
            | .str x => !((cs x).all fun c => decide (c ∈ digits))
            | _ => false).map id = ((cs ds).filter fun c => !decide (c ∈ digits)).map fun c => D.str (mk [c]) := by
        rw [List.map_id, List.filter_map]
        congr 1
        refine List.filter_congr fun k _ => ?_
        show (!((cs (mk [k])).all fun c => decide (c ∈ digits))) = _
        rw [cs_mk, List.all_cons, List.all_nil, Bool.and_true]
      rw [List.nil_append, f3] at f2
      generalize hq : ((cs ds).filter fun c => !decide (c ∈ digits)) = bad at f2
      have f4 : lenD (.lst (bad.map fun c => D.str (mk [c]))) = some (.int (bad.length : Int)) := by
        show some (D.int ((bad.map fun c => D.str (mk [c])).length : Int)) = _
        rw [List.length_map]
      have f5 : gtD (.int (bad.length : Int)) (.int 0) = some (.bl (decide ((0 : Int) < bad.length))) := rfl
      rw [f1'] at e0
      cases g3 : (cs ds).all (fun c => decide (c ∈ digits)) with
      | false =>
        have f6 : decide ((0 : Int) < bad.length) = true := by
          obtain ⟨x, hx, hx2⟩ := List.all_eq_false.mp g3
          have : x ∈ bad := by
            rw [← hq]
            exact List.mem_filter.mpr ⟨hx, by simpa using hx2⟩
          have := List.length_pos_of_mem this
          exact decide_eq_true (by omega)
        rw [g3] at e0
        rw [e0]
        repeat (first | walk_at "ev" | simp only [h1, h2, h3, e2, f1, hlen, f2, f4, f5, f6, Bool.and_false, Bool.false_and, List.length_map])
      | true =>
        have f6 : decide ((0 : Int) < bad.length) = false := by
          have : bad = [] := by
            rw [← hq, List.filter_eq_nil_iff]
            intro x hx
            have := List.all_eq_true.mp g3 x hx
            simpa using this
          rw [this]
          rfl
        have f7 : idxD (.str ds) (.int 0) = some (.str (mk [c])) := idx0 ec hz
        have f8 : neD' (.str (mk [c])) (.str "0") = some (.bl (!decide (mk [c] = "0"))) := rfl
        have f9 : eqD' (.str w) (.str "0") = some (.bl (decide (w = "0"))) := rfl
        have f10 : zeroL (cs ds) = decide (mk [c] = "0") := by
          rw [ec]
          by_cases hc : c = 48
          · subst hc
            rw [decide_eq_true (show mk [48] = "0" from rfl)]
            rfl
          · rw [decide_eq_false]
            · unfold zeroL
              split
              · rename_i e; injection e with e _; exact (hc e).elim
              · rfl
            · intro z
              have : cs (mk [c]) = cs "0" := congrArg cs z
              rw [cs_mk] at this
              injection this with this _
              exact hc this
        rw [g3, f10] at e0
        rw [e0]
        cases g4 : decide (mk [c] = "0") with
        | true => repeat (first | walk_at "ev" | simp only [h1, h2, h3, e2, f1, hlen, f2, f4, f5, f6, f7, f8, f9, g4, Bool.or_false, List.length_map])
        | false => repeat (first | walk_at "ev" | simp only [h1, h2, h3, e2, f1, hlen, f2, f4, f5, f6, f7, f8, f9, g4, Bool.or_true, List.length_map])
    · have f1 := decide_eq_false g1
      have f1' : decide (ds.length ≤ 9) = false := decide_eq_false (by omega)
      rw [f1'] at e0
      rw [e0]
      repeat (first | walk_at "ev" | simp only [h1, h2, h3, e2, f1, Bool.and_false, Bool.false_and])
  · have e2 := decide_eq_false g0
    have e3 : (cs ds).isEmpty = true := by
      cases ec : cs ds with
      | nil => rfl
      | cons c r => exact (g0 (by rw [len_cs, ec, List.length_cons]; omega)).elim
    rw [e3] at e0
    rw [e0]
    repeat (first | walk_at "ev" | simp only [h1, h2, e2, Bool.and_false, Bool.false_and])
/-! ### lists of words, compared -/
theorem pys_strs : ∀ xs : List Str, D.pys (xs.map .str) = xs.map PyData.str
  | [] => by rw [List.map_nil, D.pys]; rfl
  | x :: r => by rw [List.map_cons, D.pys, D.py, pys_strs r]; rfl
def codesOk (x : Str) : Prop := ∀ c ∈ cs x, c < 1114112
theorem lay_strs : ∀ xs : List Str, (∀ x ∈ xs, codesOk x) → PyData.canLayAll0 (xs.map PyData.str) = true
  | [], _ => by simp [PyData.canLayAll0]
  | x :: r, h => by
    have ih := lay_strs r fun y hy => h y (List.mem_cons_of_mem _ hy)
    have hx := h x List.mem_cons_self
    rw [List.map_cons, PyData.canLayAll0, ih, Bool.and_true, PyData.canLay0]
    rw [PyData.strOk, ← Array.all_toList, List.all_eq_true]
    exact fun c hc => decide_eq_true (hx c hc)
theorem depth_strs : ∀ xs : List Str, PyData.depthAll (xs.map PyData.str) = 0
  | [] => by simp [PyData.depthAll]
  | x :: r => by simp [PyData.depthAll, PyData.depth, depth_strs r]
theorem name_codes {w : Str} (h : nameOk w = true) : codesOk w := by
  intro c hc
  unfold nameOk at h
  rw [Bool.and_eq_true] at h
  have h2 := h.2
  cases e : cs w with
  | nil => rw [e] at hc; cases hc
  | cons c0 r =>
    rw [e] at h2
    simp only [Bool.and_eq_true, List.all_eq_true] at h2
    rw [e] at hc
    have := h2 c hc
    have k : c ∈ letters ∨ c ∈ digits := by simpa using this
    have a1 : ∀ c ∈ letters, c < 1114112 := by decide +kernel
    have a2 : ∀ c ∈ digits, c < 1114112 := by decide +kernel
    exact k.elim (a1 c) (a2 c)
theorem eqv_strs : ∀ xs ys : List Str, PyData.eqvAll (xs.map PyData.str) (ys.map PyData.str) = decide (xs = ys)
  | [], [] => by simp [PyData.eqvAll]
  | [], y :: ys => by simp [PyData.eqvAll]
  | x :: xs, [] => by simp [PyData.eqvAll]
  | x :: xs, y :: ys => by
    have := eqv_strs xs ys
    simp [PyData.eqvAll, PyData.eqv, this]
    by_cases h : x = y <;> by_cases h2 : xs = ys <;> simp [h, h2]
theorem eqW (xs ys : List Str) (hx : ∀ x ∈ xs, codesOk x) (hy : ∀ x ∈ ys, codesOk x) : eqD' (wl xs) (wl ys) = some (.bl (decide (xs = ys))) := by
  have e : eqD' (wl xs) (wl ys) = (if SeqAt.shaped (D.py (wl xs)) = true ∧ SeqAt.shaped (D.py (wl ys)) = true then some (PyData.eqv (D.py (wl xs)) (D.py (wl ys))) else none).map .bl := rfl
  have p : ∀ zs : List Str, D.py (wl zs) = .list (zs.map PyData.str) := fun zs => by rw [D.py, pys_strs]
  have q : ∀ zs : List Str, (∀ x ∈ zs, codesOk x) → SeqAt.shaped (.list (zs.map PyData.str)) = true := fun zs h => by simp [SeqAt.shaped, PyData.canLay0, PyData.depth, lay_strs zs h, depth_strs]
  rw [e, p, p, if_pos ⟨q _ hx, q _ hy⟩]
  simp [PyData.eqv, eqv_strs]
/-- a call of the law came to what the words say -/
def IsL (x : R Val) : Rd → Prop
  | .ok d a => ∃ S', x = .ok (.d (.tup [.int (-1), d, .int (a : Int)])) S'
  | .no a => ∃ p q S', x = .ok (.d (.tup [.int (a : Int), p, q])) S'
theorem negOne : negD (.int 1) = some (.int (-1)) := rfl
theorem ge_nat {a b : Nat} : geD (.int (a : Int)) (.int (b : Int)) = some (.bl (decide ((b : Int) ≤ a))) := rfl
theorem ge_0 {i : Int} : geD (.int i) (.int 0) = some (.bl (decide (0 ≤ i))) := rfl
theorem cut_one {ws : List Str} {a : Nat} (ha : a ≤ ws.length) : slD (wl ws) (some (a : Int)) (some ((a : Int) + 1)) = some (wl ((ws.drop a).take 1)) := by
  show some (D.lst (cutD (ws.map D.str) _ _)) = _
  unfold cutD
  rw [show ((a : Int) + 1) = ((a + 1 : Nat) : Int) from rfl, HT.sIx_nat, HT.sIx_nat, List.length_map, Nat.min_eq_left ha, ← List.map_drop, ← List.map_take]
  congr 3
  rcases Nat.lt_or_ge a ws.length with h | h
  · rw [Nat.min_eq_left (by omega), Nat.add_sub_cancel_left]
  · have : ws.drop a = [] := List.drop_eq_nil_of_le h
    rw [this, List.take_nil, List.take_nil]
theorem codes_or : codesOk "or" := by
  have : ∀ c ∈ cs "or", c < 1114112 := by decide +kernel
  exact this
theorem neW (xs ys : List Str) (hx : ∀ x ∈ xs, codesOk x) (hy : ∀ x ∈ ys, codesOk x) : neD' (wl xs) (wl ys) = some (.bl (!decide (xs = ys))) := by
  have h : (eqD (wl xs) (wl ys)).map D.bl = some (.bl (decide (xs = ys))) := eqW xs ys hx hy
  show (eqD (wl xs) (wl ys)).map (fun b => D.bl (!b)) = _
  cases e : eqD (wl xs) (wl ys) with
  | none => rw [e] at h; cases h
  | some b =>
    rw [e] at h
    injection h with h
    injection h with h
    rw [← h]
    rfl
theorem or_none : neD' (.lst []) (.lst [.str "or"]) = some (.bl true) := neW [] [("or" : Str)] (fun _ h => nomatch h) (fun x h => by cases List.mem_singleton.mp h; exact codes_or)
theorem or_one {u : Str} (hu : codesOk u) : neD' (.lst [.str u]) (.lst [.str "or"]) = some (.bl (!decide (u = "or"))) := by
  have := neW [u] [("or" : Str)] (fun x h => by cases List.mem_singleton.mp h; exact hu) (fun x h => by cases List.mem_singleton.mp h; exact codes_or)
  have e : decide (([u] : List Str) = [("or" : Str)]) = decide (u = "or") := by
    by_cases c : u = "or"
    · rw [decide_eq_true c, c]; rfl
    · rw [decide_eq_false c, decide_eq_false (fun z => c (List.cons.inj z).1)]
  rw [← e]
  exact this
/-- the word at a place, or the empty text at the end -/
def wordL (ws : List Str) (a : Nat) : Str := (ws[a]?).getD ""
theorem wordL_at (ws : List Str) {a : Nat} (ha : a ≤ ws.length) (hz : ws.length ≤ 1000) : addD (wl ws) (.lst [.str ""]) = some (wl (ws ++ [("" : Str)])) ∧ min2 (.int (a : Int)) (.int (ws.length : Int)) = some (.int (a : Int)) ∧ idxD (wl (ws ++ [("" : Str)])) (.int (a : Int)) = some (.str (wordL ws a)) := by
  refine ⟨addL ws [("" : Str)] (by simp; omega), ?_, idx_lst (wl_get ?_)⟩
  · show some (D.int (if (ws.length : Int) < a then (ws.length : Int) else a)) = _
    rw [if_neg (by omega)]
  · unfold wordL
    rcases get_or ha with ⟨w, hg⟩ | ⟨hg, hl⟩
    · rw [List.getElem?_append_left (List.getElem?_eq_some_iff.mp hg).1, hg]
      rfl
    · rw [List.getElem?_append_right (by omega), hg, ← hl, Nat.sub_self]
      rfl
section
variable {ws : List Str} (hz : ws.length ≤ 1000) (hw : ∀ w ∈ ws, w.length ≤ 1000)
include hz hw
end
/-! parts, two or three of them -/
theorem in_strs (w : Str) (l : List Str) : inD false (.str w) (wl l) = some (.bl (l.contains w)) := in_txts false w l
def word0 : Str := ""
theorem num_empty : numOk "" = false := by decide +kernel
section
variable {ws : List Str} (hz : ws.length ≤ 1000) (hw : ∀ w ∈ ws, w.length ≤ 1000) (hc : ∀ w ∈ ws, codesOk w)
include hz hw hc
end
/-! ### a text, read by the program and by the law -/
inductive Out where
  | long | bad (e : Nat) | good (d : D)
noncomputable def outT (ws : List Str) : Out := if 40 < ws.length then .long else match rd ws 42 .am 0 with
  | .no e => .bad e
  | .ok d a => if a < ws.length then .bad a else .good d
theorem rdP_tup {g : Kd → Nat → Rd} : ∀ {ks : List Kd} {acc : List D} {a b : Nat} {d : D}, rdP g ks acc a = .ok d b → ∃ ps, d = .tup ps ∧ ps.length = acc.length + ks.length
  | [], acc, a, b, d, e => by
    unfold rdP at e
    cases e
    exact ⟨acc, rfl, rfl⟩
  | k :: ks, acc, a, b, d, e => by
    unfold rdP at e
    cases eg : g k a with
    | no c => rw [eg] at e; cases e
    | ok x c =>
      rw [eg] at e
      obtain ⟨ps, h1, h2⟩ := rdP_tup e
      exact ⟨ps, h1, by simp at h2 ⊢; omega⟩
theorem Pls.app {k : Nat} : ∀ {ds : List D} {d : D}, Pls k ds → Pl k d → Pls k (ds ++ [d])
  | [], d, _, h => .cons h .nil
  | x :: r, d, .cons h1 h2, h => .cons h1 (Pls.app h2 h)
theorem rdP_pl {g : Kd → Nat → Rd} {k : Nat} (hg : ∀ q a d b, g q a = .ok d b → Pl k d) : ∀ {ks : List Kd} {acc : List D} {a b : Nat} {d : D}, Pls k acc → acc.length + ks.length ≤ 1000 → rdP g ks acc a = .ok d b → Pl (k + 1) d
  | [], acc, a, b, d, h, hz, e => by
    unfold rdP at e
    cases e
    exact .tup (by simp at hz; omega) h
  | q :: ks, acc, a, b, d, h, hz, e => by
    unfold rdP at e
    cases eg : g q a with
    | no c => rw [eg] at e; cases e
    | ok x c =>
      rw [eg] at e
      exact rdP_pl hg (Pls.app h (hg _ _ _ _ eg)) (by simp at hz ⊢; omega) e
theorem rd_pl (ws : List Str) : ∀ (f : Nat) (k : Kd) (a : Nat) (d : D) (b : Nat), rd ws f k a = .ok d b → Pl (f + 1) d := by
  intro f
  induction f with
  | zero => intro k a d b e; cases e
  | succ f ih =>
    intro k a d b e
    unfold rd at e
    split at e
    · cases e
    · rename_i w hw
      cases k with
      | nm =>
        simp only at e
        split at e
        · cases e; exact .str
        · cases e
      | hu =>
        simp only at e
        split at e
        · cases e; exact .int
        · cases e
      | am =>
        simp only at e
        split at e
        · cases e; exact .tup (by simp) (.cons .str (.cons .int .nil))
        · split at e
          · unfold rdF at e
            split at e
            · cases e
            · split at e
              · split at e
                · cases er : rd ws f .am (a + 3) with
                  | no c => rw [er] at e; cases e
                  | ok x c =>
                    rw [er] at e
                    cases e
                    exact .tup (by simp) (.cons .str (.cons .str (.cons (ih _ _ _ _ er) .nil)))
                · cases e
                  exact .tup (by simp) (.cons .str (.cons .str (.cons .non .nil)))
              · cases e
          · split at e
            · rename_i ks hk
              exact rdP_pl (fun q a d b => ih q a d b) (.cons .str .nil) (by have := ksA_len hk; simp; omega) e
            · cases e
      | co =>
        simp only at e
        split at e
        · rename_i ks hk
          exact rdP_pl (fun q a d b => ih q a d b) (.cons .str .nil) (by have := ksC_len hk; simp; omega) e
        · cases e
section
variable {ws : List Str} (hz : ws.length ≤ 1000) (hw : ∀ w ∈ ws, w.length ≤ 1000)
include hz hw
theorem p_text (N : Nat) (hN : 140 ≤ N) {x : Str} (hx : x.length ≤ 1000000) (hxw : wordsT x = ws) : ∃ S', run N 6 [.d (.str x)] [] = (match outT ws with
    | .long => .ex ⟨2, []⟩ S'
    | .bad e => .ex ⟨1, [.int (e : Int)]⟩ S'
    | .good d => .ok (.d d) S') := by
  obtain ⟨M, rfl⟩ : ∃ M, N = M + 3 := ⟨N - 3, by omega⟩
  have e1 := x_split_words (M + 1) x hx
  rw [hxw] at e1
  have e3 := wl_len ws
  have e4 : gtD (.int (ws.length : Int)) (.int 40) = some (.bl (decide ((40 : Int) < ws.length))) := rfl
  rw [run6]
  unfold b6 outT
  by_cases c : 40 < ws.length
  · have c1 : decide ((40 : Int) < ws.length) = true := decide_eq_true (by omega)
    rw [if_pos c]
    refine ⟨[], ?_⟩
    repeat (first | walk_at "ev" | simp only [e1, e3, e4, c1])
  · have c1 : decide ((40 : Int) < ws.length) = false := decide_eq_false (by omega)
    rw [if_neg c]
    have e2 := (p_all hz hw 42 (M + 2) 0 (Nat.zero_le _) (by omega) (by omega)).1
    rw [show (((0 : Nat)) : Int) = 0 from rfl] at e2
    cases er : rd ws 42 .am 0 with
    | no e =>
      rw [er] at e2
      obtain ⟨S', e2⟩ := e2
      refine ⟨[], ?_⟩
      repeat (first | walk_at "ev" | simp only [e1, e2, e3, e4, c1])
    | ok d a =>
      rw [er] at e2
      obtain ⟨S', e2⟩ := e2
      have hle := rd_le ws 42 .am 0 d a (Nat.zero_le _) er
      have e5 : ltD (.int (a : Int)) (.int (ws.length : Int)) = some (.bl (decide ((a : Int) < ws.length))) := rfl
      by_cases c2 : a < ws.length
      · have c3 : decide ((a : Int) < ws.length) = true := decide_eq_true (by omega)
        have e6 := raiN 1 (a := a) (by omega)
        simp only [if_pos c2]
        refine ⟨[], ?_⟩
        repeat (first | walk_at "ev" | simp only [e1, e2, e3, e4, e5, e6, c1, c3])
      · have c3 : decide ((a : Int) < ws.length) = false := decide_eq_false (by omega)
        simp only [if_neg c2]
        refine ⟨[], ?_⟩
        repeat (first | walk_at "ev" | simp only [e1, e2, e3, e4, e5, c1, c3])
end
theorem out_pl {ws : List Str} {d : D} (h : outT ws = .good d) : Pl 43 d := by
  unfold outT at h
  split at h
  · cases h
  · cases er : rd ws 42 .am 0 with
    | no e => rw [er] at h; cases h
    | ok d' a =>
      rw [er] at h
      simp only at h
      split at h
      · cases h
      · cases h
        exact rd_pl _ _ _ _ _ _ er
/-! ### books -/
inductive En where
  | report (c : Int) (p f : Str) (v a b : Int)
  | enact (c : Int) (r t : Str) (a b : Int)
  | strike (c : Int) (k : Nat)
def En.d : En → D
  | .report c p f v a b => .tup [.str "report", .int c, .str p, .str f, .int v, .tup [.int a, .int b]]
  | .enact c r t a b => .tup [.str "enact", .int c, .str r, .str t, .tup [.int a, .int b]]
  | .strike c k => .tup [.str "strike", .int c, .int (k : Int)]
def En.came : En → Int
  | .report c .. => c
  | .enact c .. => c
  | .strike c _ => c
def En.isStrike : En → Bool
  | .strike .. => true
  | _ => false
def En.hits (k : Nat) : En → Bool
  | .strike _ j => decide (j = k)
  | _ => false
abbrev el (es : List En) : List D := es.map En.d
def TextOk (t : Str) : Prop := ∃ k T ws, k ≤ 9 ∧ Amt k T ws ∧ ws.length ≤ 40 ∧ SpT t ws
/-- the part that the law keeps beside an entry -/
def PartOf (e : En) (t : D) : Prop := match e with
  | .enact _ _ x _ _ => ∃ k ws, k ≤ 9 ∧ Amt k t ws ∧ ws.length ≤ 40 ∧ SpT x ws
  | _ => t = .non
def spanOk (a b : Int) : Prop := 0 ≤ a ∧ a < b ∧ b ≤ 10000
/-- an entry that a book of these takes -/
structure Ok (pre : List En) (e : En) : Prop where
  lim : pre.length < 100
  c0 : 0 ≤ e.came
  c1 : e.came < 10000
  last : ∀ x, pre.getLast? = some x → x.came ≤ e.came
  body : match e with
    | .report _ p f v a b => nameOk p = true ∧ nameOk f = true ∧ (-999999999 ≤ v ∧ v ≤ 999999999) ∧ spanOk a b
    | .enact _ r t a b => nameOk r = true ∧ TextOk t ∧ spanOk a b
    | .strike _ k => k < pre.length ∧ (∀ x, pre[k]? = some x → x.isStrike = false) ∧ pre.any (En.hits k) = false
/-- a list of entries that a book takes -/
def Vb (es : List En) : Prop := ∀ pre e r, es = pre ++ e :: r → Ok pre e
theorem Vb.nil : Vb [] := fun pre e r h => by simp at h
theorem Vb.snoc {pre : List En} {e : En} (h : Vb pre) (k : Ok pre e) : Vb (pre ++ [e]) := fun p x r z => by
  rcases List.eq_nil_or_concat r with rfl | ⟨r', y, rfl⟩
  · obtain ⟨h1, h2⟩ := List.append_inj' z rfl
    cases h2
    rw [← h1]
    exact k
  · rw [List.concat_eq_append] at z
    have z2 : pre ++ [e] = (p ++ x :: r') ++ [y] := by rw [z]; simp
    obtain ⟨h1, h2⟩ := List.append_inj' z2 rfl
    exact h p x r' h1
theorem Vb.pre {a b : List En} (h : Vb (a ++ b)) : Vb a := fun p x r z => h p x (r ++ b) (by rw [z]; simp)
/-- what is struck, and the day of it -/
def struck : List En → List (Nat × Int)
  | [] => []
  | .strike c k :: r => (k, c) :: struck r
  | _ :: r => struck r
abbrev sk (es : List En) : List Key := (struck es).map fun p => Sum.inl (p.1 : Int)
abbrev sd (es : List En) : List D := (struck es).map fun p => D.int p.2
theorem struck_app : ∀ xs ys : List En, struck (xs ++ ys) = struck xs ++ struck ys
  | [], _ => rfl
  | .strike c k :: r, ys => by rw [List.cons_append]; exact congrArg _ (struck_app r ys)
  | .report .. :: r, ys => struck_app r ys
  | .enact .. :: r, ys => struck_app r ys
theorem struck_len : ∀ es : List En, (struck es).length ≤ es.length
  | [] => Nat.le_refl _
  | .strike c k :: r => Nat.succ_le_succ (struck_len r)
  | .report .. :: r => Nat.le_succ_of_le (struck_len r)
  | .enact .. :: r => Nat.le_succ_of_le (struck_len r)
theorem look_none : ∀ (ps : List (Nat × Int)) (k : Nat), (∀ p ∈ ps, p.1 ≠ k) → dLook (ps.map fun p => Sum.inl (p.1 : Int)) (ps.map fun p => D.int p.2) (.inl (k : Int)) = none := fun ps k h => by
  induction ps with
  | nil => rfl
  | cons p r ih =>
    have ih := ih fun q hq => h q (List.mem_cons_of_mem _ hq)
    have hp := h p List.mem_cons_self
    unfold dLook at ih ⊢
    rw [List.map_cons, List.map_cons, List.zip_cons_cons, List.find?_cons]
    have : decide ((Sum.inl (p.1 : Int) : Key) = .inl (k : Int)) = false := decide_eq_false fun z => hp (by
      have := Sum.inl.inj z
      omega)
    simp only [this]
    exact ih
theorem look_some : ∀ (ps : List (Nat × Int)) (k : Nat) (c : Int), (∀ p ∈ ps, p.1 = k → p.2 = c) → (∃ p ∈ ps, p.1 = k) → dLook (ps.map fun p => Sum.inl (p.1 : Int)) (ps.map fun p => D.int p.2) (.inl (k : Int)) = some (.int c) := fun ps k c h g => by
  induction ps with
  | nil => obtain ⟨p, hp, _⟩ := g; cases hp
  | cons p r ih =>
    by_cases e : p.1 = k
    · have hc := h p List.mem_cons_self e
      unfold dLook
      rw [List.map_cons, List.map_cons, List.zip_cons_cons, List.find?_cons]
      have : decide ((Sum.inl (p.1 : Int) : Key) = .inl (k : Int)) = true := decide_eq_true (by rw [e])
      simp only [this]
      rw [← hc]
      rfl
    · have ih := ih (fun q hq => h q (List.mem_cons_of_mem _ hq)) (by
        obtain ⟨q, hq, eq⟩ := g
        rcases List.mem_cons.mp hq with rfl | hq
        · exact absurd eq e
        · exact ⟨q, hq, eq⟩)
      unfold dLook at ih ⊢
      rw [List.map_cons, List.map_cons, List.zip_cons_cons, List.find?_cons]
      have : decide ((Sum.inl (p.1 : Int) : Key) = .inl (k : Int)) = false := decide_eq_false fun z => e (by
        have := Sum.inl.inj z
        omega)
      simp only [this]
      exact ih
theorem hits_struck : ∀ (es : List En) (k : Nat), es.any (En.hits k) = (struck es).any fun p => decide (p.1 = k)
  | [], _ => rfl
  | .strike c j :: r, k => by
    show (decide (j = k) || r.any (En.hits k)) = (decide (j = k) || (struck r).any _)
    rw [hits_struck r k]
  | .report .. :: r, k => by
    show (false || r.any (En.hits k)) = _
    rw [Bool.false_or]; exact hits_struck r k
  | .enact .. :: r, k => by
    show (false || r.any (En.hits k)) = _
    rw [Bool.false_or]; exact hits_struck r k
theorem hasK_hits (es : List En) (k : Nat) : hasK (sk es) (.inl (k : Int)) = es.any (En.hits k) := by
  rw [hits_struck]
  unfold hasK
  rw [List.any_map]
  congr 1
  funext p
  by_cases e : p.1 = k
  · show decide ((Sum.inl (p.1 : Int) : Key) = .inl (k : Int)) = decide (p.1 = k)
    rw [decide_eq_true e, decide_eq_true (by rw [e])]
  · show decide ((Sum.inl (p.1 : Int) : Key) = .inl (k : Int)) = decide (p.1 = k)
    rw [decide_eq_false e, decide_eq_false fun z => e (by have := Sum.inl.inj z; omega)]
theorem not_hit {es : List En} {k : Nat} (h : es.any (En.hits k) = false) : dLook (sk es) (sd es) (.inl (k : Int)) = none := look_none _ _ fun p hp e => by
  rw [hits_struck] at h
  have := List.any_eq_false.mp h p hp
  exact this (decide_eq_true e)
theorem pos_lst {es : List En} {k : Nat} {e : En} (h : es[k]? = some e) : idxD (.lst (el es)) (.int (k : Int)) = some e.d := idx_lst (by rw [List.getElem?_map, h]; rfl)
def En.kind : En → Str
  | .report .. => "report"
  | .enact .. => "enact"
  | .strike .. => "strike"
theorem kind_d (e : En) : idxD e.d (.int 0) = some (.str e.kind) := by cases e <;> rfl
theorem kind_s (e : En) : eqD' (.str e.kind) (.str "strike") = some (.bl e.isStrike) := by
  cases e with
  | report => exact eqs_f (a := "report") (by decide +kernel)
  | enact => exact eqs_f (a := "enact") (by decide +kernel)
  | strike => exact eqs_t _
theorem came_d (e : En) : idxD e.d (.int 1) = some (.int e.came) := by cases e <;> rfl
/-! ### the book's own checks -/
theorem x_is_day (n : Nat) {c : Int} (h0 : 0 ≤ c) (h1 : c < 10000) : run (n + 1) 2 [.d (.int c)] [] = .ok (.d (.bl true)) [] := by
  have e1 : leD (.int 0) (.int c) = some (.bl true) := le_t h0
  have e2 : ltD (.int c) (.int 10000) = some (.bl true) := lt_t h1
  rw [run2]
  unfold b2
  repeat (first | walk_at "ev" | simp only [e1, e2])
theorem x_is_span (n : Nat) {a b : Int} (h : spanOk a b) : run (n + 1) 3 [.d (.tup [.int a, .int b])] [] = .ok (.d (.bl true)) [] := by
  have e1 : leD (.int 0) (.int a) = some (.bl true) := le_t h.1
  have e2 : ltD (.int a) (.int b) = some (.bl true) := lt_t h.2.1
  have e3 : leD (.int b) (.int 10000) = some (.bl true) := le_t h.2.2
  have i1 : isTy .tuple (.tup [.int a, .int b]) = true := rfl
  have i2 : lenD (.tup [.int a, .int b]) = some (.int 2) := rfl
  rw [run3]
  unfold b3
  repeat (first | walk_at "ev" | simp only [e1, e2, e3, i1, i2, ne_ii])
theorem x_is_value (n : Nat) {v : Int} (h0 : -999999999 ≤ v) (h1 : v ≤ 999999999) : run (n + 1) 4 [.d (.int v)] [] = .ok (.d (.bl true)) [] := by
  have e0 : negD (.int 999999999) = some (.int (-999999999)) := rfl
  have e1 : leD (.int (-999999999)) (.int v) = some (.bl true) := le_t h0
  have e2 : leD (.int v) (.int 999999999) = some (.bl true) := le_t h1
  rw [run4]
  unfold b4
  repeat (first | walk_at "ev" | simp only [e0, e1, e2])
theorem x_check_span (n : Nat) {a b : Int} (h : spanOk a b) : run (n + 2) 23 [.d (.tup [.int a, .int b])] [] = .ok (.d .non) [] := by
  have e1 := x_is_span n h
  have e1 : run (n + 1) 3 [.d (.tup [.int a, .int b])] [] = .ok (.d (.bl true)) [] := e1
  rw [run23]
  unfold b23
  repeat (first | walk_at "ev" | simp only [e1])
theorem x_check_report (n : Nat) {c v a b : Int} {p f : Str} (hp : nameOk p = true) (hf : nameOk f = true) (h0 : -999999999 ≤ v) (h1 : v ≤ 999999999) (h : spanOk a b) :
    run (n + 3) 21 [.d (En.report c p f v a b).d] [] = .ok (.d .non) [] := by
  have e1 := x_is_name (n + 1) p (by have := (name_len hp).1; omega)
  have e2 := x_is_name (n + 1) f (by have := (name_len hf).1; omega)
  rw [hp] at e1
  rw [hf] at e2
  have e3 := x_is_value (n + 1) h0 h1
  have e4 := x_check_span n h
  have e5 : slD (En.report c p f v a b).d (some 2) none = some (.tup [.str p, .str f, .int v, .tup [.int a, .int b]]) := rfl
  rw [run21]
  unfold b21
  repeat (first | walk_at "ev" | simp only [e1, e2, e3, e4, e5])
theorem x_checked_amount (n : Nat) {c a b : Int} {r x : Str} {t : D} (hr : nameOk r = true) (ht : PartOf (.enact c r x a b) t) (h : spanOk a b) :
    run (n + 45) 22 [.d (En.enact c r x a b).d] [] = .ok (.d t) [] := by
  obtain ⟨k, ws, hk, ha, hw, hs⟩ := ht
  have e1 := x_is_name (n + 43) r (by have := (name_len hr).1; omega)
  rw [hr] at e1
  have e2 := x_parse (n + 43) k t ws x ha hw hs (by omega)
  have e4 := x_check_span (n + 42) h
  have e5 : slD (En.enact c r x a b).d (some 2) none = some (.tup [.str r, .str x, .tup [.int a, .int b]]) := rfl
  rw [run22]
  unfold b22
  repeat (first | walk_at "ev" | simp only [e1, e2, e4, e5])
/-! ### the parsed texts that a book keeps -/
def amts : List En → List D → Nat → List (Nat × D)
  | .enact .. :: es, t :: ts, i => (i, t) :: amts es ts (i + 1)
  | _ :: es, _ :: ts, i => amts es ts (i + 1)
  | _, _, _ => []
abbrev ak (es : List En) (ts : List D) : List Key := (amts es ts 0).map fun p => Sum.inl (p.1 : Int)
abbrev ad (es : List En) (ts : List D) : List D := (amts es ts 0).map fun p => p.2
theorem amts_snoc : ∀ (es : List En) (ts : List D) (e : En) (t : D) (i : Nat), ts.length = es.length → amts (es ++ [e]) (ts ++ [t]) i = amts es ts i ++ (match e with
    | .enact .. => [(i + es.length, t)]
    | _ => [])
  | [], [], e, t, i, _ => by cases e <;> rfl
  | [], _ :: _, _, _, _, h => by simp at h
  | _ :: _, [], _, _, _, h => by simp at h
  | x :: es, y :: ts, e, t, i, h => by
    have ih := amts_snoc es ts e t (i + 1) (by simpa using h)
    have hl : i + 1 + es.length = i + (x :: es).length := by rw [List.length_cons]; omega
    rw [hl] at ih
    rw [List.cons_append, List.cons_append]
    cases x with
    | enact => exact congrArg _ ih
    | report => exact ih
    | strike => exact ih
theorem amts_len : ∀ (es : List En) (ts : List D) (i : Nat), (amts es ts i).length ≤ es.length
  | [], ts, i => by cases ts <;> exact Nat.le_refl _
  | x :: es, [], i => by cases x <;> exact Nat.zero_le _
  | x :: es, t :: ts, i => by
    have := amts_len es ts (i + 1)
    cases x with
    | enact => exact Nat.succ_le_succ this
    | report => exact Nat.le_succ_of_le this
    | strike => exact Nat.le_succ_of_le this
theorem amts_lo : ∀ (es : List En) (ts : List D) (i : Nat), ∀ p ∈ amts es ts i, i ≤ p.1 ∧ p.1 < i + es.length
  | [], ts, i, p, h => by cases ts <;> cases h
  | x :: es, [], i, p, h => by cases x <;> cases h
  | x :: es, t :: ts, i, p, h => by
    have ih := amts_lo es ts (i + 1)
    rw [List.length_cons]
    cases x with
    | enact =>
      rcases List.mem_cons.mp h with rfl | h
      · exact ⟨Nat.le_refl _, by simp only; omega⟩
      · have := ih p h; omega
    | report => have := ih p h; omega
    | strike => have := ih p h; omega
theorem amts_look : ∀ (es : List En) (ts : List D) (i k : Nat) {c a b : Int} {r x : Str} {t : D}, es[k]? = some (.enact c r x a b) → ts[k]? = some t → dLook ((amts es ts i).map fun p => Sum.inl (p.1 : Int)) ((amts es ts i).map fun p => p.2) (.inl ((i + k : Nat) : Int)) = some t
  | [], ts, i, k, _, _, _, _, _, _, h, _ => by simp at h
  | x :: es, [], i, k, _, _, _, _, _, _, _, h => by simp at h
  | x :: es, y :: ts, i, 0, c, a, b, r, z, t, h, g => by
    have h : x = .enact c r z a b := by simpa using h
    have g : y = t := by simpa using g
    subst h g
    show ((((Sum.inl (i : Int), y) :: _).find? _).map _) = _
    rw [List.find?_cons]
    have : decide ((Sum.inl (i : Int) : Key) = .inl ((i + 0 : Nat) : Int)) = true := decide_eq_true rfl
    simp only [this]
    rfl
  | x :: es, y :: ts, i, k + 1, c, a, b, r, z, t, h, g => by
    have ih := amts_look es ts (i + 1) k (c := c) (a := a) (b := b) (r := r) (x := z) (t := t) (by simpa using h) (by simpa using g)
    rw [show i + 1 + k = i + (k + 1) from by omega] at ih
    cases x with
    | report => exact ih
    | strike => exact ih
    | enact =>
      unfold dLook at ih ⊢
      show ((((Sum.inl (i : Int), y) :: _).find? _).map _) = _
      rw [List.find?_cons]
      have : decide ((Sum.inl (i : Int) : Key) = .inl ((i + (k + 1) : Nat) : Int)) = false := decide_eq_false fun z => by
        have := Sum.inl.inj z
        omega
      simp only [this]
      exact ih
theorem amts_new (es : List En) (ts : List D) : hasK (ak es ts) (.inl (es.length : Int)) = false := by
  unfold hasK
  rw [List.any_map, List.any_eq_false]
  intro p hp z
  have := (amts_lo es ts 0 p hp).2
  have z : (Sum.inl (p.1 : Int) : Key) = .inl (es.length : Int) := of_decide_eq_true z
  have := Sum.inl.inj z
  omega
/-- at b: a book of es, with the parts ts -/
structure BkAt (S : Store) (b n1 n2 n3 : Nat) (es : List En) (ts : List D) : Prop where
  ob : S[b]? = some (.obj 0 [.ref n1, .ref n2, .ref n3])
  ls : S[n1]? = some (.lst (el es))
  di : S[n2]? = some (.dic (sk es) (sd es))
  am : S[n3]? = some (.dic (ak es ts) (ad es ts))
  ne : n2 ≠ n3
theorem len_el (es : List En) : lenD (.lst (el es)) = some (.int (es.length : Int)) := by
  show some (D.int ((es.map En.d).length : Int)) = _
  rw [List.length_map]
theorem geI {i j : Int} : geD (.int i) (.int j) = some (.bl (decide (j ≤ i))) := rfl
theorem neg1 : negD (.int 1) = some (.int (-1)) := rfl
theorem last_el {pre : List En} {x : En} : idxD (.lst (el (pre ++ [x]))) (.int (-1)) = some x.d := by
  refine (atI_last _ (by simp)).trans ?_
  simp
theorem tru_el (es : List En) : truD (.lst (el es)) = some (!es.isEmpty) := by
  cases es <;> rfl
/-! ### a book in a store: its methods -/
theorem set_same {S : Store} {q : Nat} {c : Cell} (h : S[q]? = some c) : S.set q c = S := by
  apply List.ext_getElem?
  intro i
  have hl := (List.getElem?_eq_some_iff.mp h).1
  by_cases e : i = q
  · subst e
    rw [List.getElem?_set_self hl, h]
  · rw [List.getElem?_set_ne (Ne.symm e)]
theorem x_check_turn (n : Nat) {S : Store} {b n1 n2 n3 : Nat} {es : List En} {ts : List D} (B : BkAt S b n1 n2 n3 es ts) {e : En} (h : Ok es e) : run (n + 2) 19 [.ref b, .d (.int e.came)] S = .ok (.d .non) S := by
  have hl := h.lim
  have s0 := B.ob
  have s1 := B.ls
  have g1 : geD (.int (es.length : Int)) (.int 100) = some (.bl false) := by rw [geI, decide_eq_false (by omega)]
  have g2 := x_is_day n h.c0 h.c1
  have g3 := len_el es
  rcases List.eq_nil_or_concat es with rfl | ⟨pre, x, rfl⟩
  · have g4 : truD (.lst []) = some false := rfl
    have g1 : geD (.int 0) (.int 100) = some (.bl false) := rfl
    have g3 : lenD (.lst []) = some (.int 0) := rfl
    rw [run19]
    unfold b19
    repeat (first | walk_at "ev" | simp only [g1, g2, g3, g4, s0, s1])
  · rw [List.concat_eq_append] at h g1 g3 s1
    have g4 : truD (.lst (el (pre ++ [x]))) = some true := by rw [tru_el]; simp
    have g5 := last_el (pre := pre) (x := x)
    have g6 := came_d x
    have hx := h.last x (by simp)
    have g7 : ltD (.int e.came) (.int x.came) = some (.bl false) := lt_f (by omega)
    rw [run19]
    unfold b19
    repeat (first | walk_at "ev" | simp only [g1, g2, g3, g4, g5, g6, g7, neg1, s0, s1])
theorem x_check_strike (n : Nat) {S : Store} {b n1 n2 n3 : Nat} {es : List En} {ts : List D} (B : BkAt S b n1 n2 n3 es ts) {k : Nat} (h1 : k < es.length) (h2 : ∀ x, es[k]? = some x → x.isStrike = false) (h3 : es.any (En.hits k) = false) :
    run (n + 1) 20 [.ref b, .d (.int (k : Int))] S = .ok (.d .non) S := by
  have s0 := B.ob
  have s1 := B.ls
  have s2 := B.di
  have g1 : leD (.int 0) (.int (k : Int)) = some (.bl true) := le_t (by omega)
  have g2 : ltD (.int (k : Int)) (.int (es.length : Int)) = some (.bl true) := lt_t (by omega)
  have g3 := len_el es
  have hk := List.getElem?_eq_getElem h1
  have hn := h2 _ hk
  have g4 := pos_lst hk
  have g6 := not_hit h3
  generalize es[k] = x at hk hn g4
  have g7 := kind_d x
  have g8 := kind_s x
  rw [hn] at g8
  rw [run20]
  unfold b20
  repeat (first | walk_at "ev" | simp only [g1, g2, g3, g4, g6, g7, g8, Option.isSome_none, s0, s1, s2])
theorem tup_d (e : En) : tupleD e.d = some e.d := by cases e <;> rfl
/-- the store with the book's cells told anew -/
def bkPut (S : Store) (n1 n2 n3 : Nat) (es : List En) (ts : List D) : Store := ((S.set n3 (.dic (ak es ts) (ad es ts))).set n2 (.dic (sk es) (sd es))).set n1 (.lst (el es))
theorem BkAt.ne1 {S : Store} {b n1 n2 n3 : Nat} {es : List En} {ts : List D} (h : BkAt S b n1 n2 n3 es ts) : (n1 ≠ n2 ∧ n1 ≠ n3) ∧ b ≠ n1 ∧ b ≠ n2 ∧ b ≠ n3 := by
  have h0 := h.ob; have h1 := h.ls; have h2 := h.di; have h3 := h.am
  refine ⟨⟨fun z => ?_, fun z => ?_⟩, fun z => ?_, fun z => ?_, fun z => ?_⟩ <;> subst z
  · rw [h1] at h2; cases h2
  · rw [h1] at h3; cases h3
  · rw [h0] at h1; cases h1
  · rw [h0] at h2; cases h2
  · rw [h0] at h3; cases h3
theorem bkPut_at {S : Store} {b n1 n2 n3 : Nat} {es es' : List En} {ts ts' : List D} (h : BkAt S b n1 n2 n3 es ts) : BkAt (bkPut S n1 n2 n3 es' ts') b n1 n2 n3 es' ts' := by
  have l1 := (List.getElem?_eq_some_iff.mp h.ls).1
  have l2 := (List.getElem?_eq_some_iff.mp h.di).1
  have l3 := (List.getElem?_eq_some_iff.mp h.am).1
  obtain ⟨⟨a1, a2⟩, a3, a4, a5⟩ := h.ne1
  unfold bkPut
  refine ⟨?_, ?_, ?_, ?_, h.ne⟩
  · rw [List.getElem?_set_ne (Ne.symm a3), List.getElem?_set_ne (Ne.symm a4), List.getElem?_set_ne (Ne.symm a5)]
    exact h.ob
  · exact List.getElem?_set_self (by rw [List.length_set, List.length_set]; exact l1)
  · rw [List.getElem?_set_ne a1]
    exact List.getElem?_set_self (by rw [List.length_set]; exact l2)
  · rw [List.getElem?_set_ne a2, List.getElem?_set_ne h.ne]
    exact List.getElem?_set_self l3
theorem bkPut_ne {S : Store} {n1 n2 n3 i : Nat} {es : List En} {ts : List D} (h1 : i ≠ n1) (h2 : i ≠ n2) (h3 : i ≠ n3) : (bkPut S n1 n2 n3 es ts)[i]? = S[i]? := by
  unfold bkPut
  rw [List.getElem?_set_ne (Ne.symm h1), List.getElem?_set_ne (Ne.symm h2), List.getElem?_set_ne (Ne.symm h3)]
theorem bkPut_len {S : Store} {n1 n2 n3 : Nat} {es : List En} {ts : List D} : (bkPut S n1 n2 n3 es ts).length = S.length := by
  unfold bkPut
  rw [List.length_set, List.length_set, List.length_set]
theorem bkPut_same {S : Store} {b n1 n2 n3 : Nat} {es : List En} {ts : List D} (h : BkAt S b n1 n2 n3 es ts) : bkPut S n1 n2 n3 es ts = S := by
  unfold bkPut
  rw [set_same h.am, set_same h.di, set_same h.ls]
theorem bkPut_put {S : Store} {n1 n2 n3 : Nat} {es es' : List En} {ts ts' : List D} (a1 : n1 ≠ n2) (a2 : n1 ≠ n3) (a3 : n2 ≠ n3) : bkPut (bkPut S n1 n2 n3 es ts) n1 n2 n3 es' ts' = bkPut S n1 n2 n3 es' ts' := by
  unfold bkPut
  rw [List.set_comm (i := n1) (j := n3) _ _ a2, List.set_comm (i := n2) (j := n3) _ _ a3, List.set_set, List.set_comm (i := n1) (j := n2) _ _ a1, List.set_set, List.set_set]
theorem x_enter (n : Nat) {S : Store} {b n1 n2 n3 : Nat} {es : List En} {ts : List D} (B : BkAt S b n1 n2 n3 es ts) {e : En} {t : D} (h : Ok es e) (ht : PartOf e t) (hl2 : ts.length = es.length) : run (n + 46) 17 [.ref b, .d e.d] S = .ok (.d .non) (bkPut S n1 n2 n3 (es ++ [e]) (ts ++ [t])) := by
  have s0 := B.ob
  have s1 := B.ls
  have s2 := B.di
  have s3 := B.am
  have g0 := came_d e
  have g1 := x_check_turn (n + 43) B h
  have g1 : run (n + 45) 19 [.ref b, .d (.int e.came)] S = .ok (.d .non) S := g1
  have g4 := tup_d e
  have hl := h.lim
  have g9 := len_el es
  obtain ⟨⟨a1, a2⟩, a3, a4, a5⟩ := B.ne1
  have hz : (el es).length < sizeLine := by
    rw [List.length_map]
    exact Nat.lt_of_lt_of_le (m := 1000000) (by omega) (small (Nat.le_refl _))
  have hs : (sk es).length < sizeLine := by
    rw [List.length_map]
    have := struck_len es
    exact Nat.lt_of_lt_of_le (m := 1000000) (by omega) (small (Nat.le_refl _))
  have hk : (ak es ts).length < sizeLine := by
    rw [List.length_map]
    have := amts_len es ts 0
    exact Nat.lt_of_lt_of_le (m := 1000000) (by omega) (small (Nat.le_refl _))
  have ea : el es ++ [e.d] = el (es ++ [e]) := by simp [el]
  have hA := amts_snoc es ts e t 0 hl2
  have hb := h.body
  rw [run17]
  unfold b17
  cases e with
  | report c p f v a z =>
    obtain ⟨p1, p2, ⟨p3, p4⟩, p5⟩ := hb
    have g2 := x_check_report (n + 42) (c := c) p1 p2 p3 p4 p5
    have g5 : idxD (En.report c p f v a z).d (.int 0) = some (.str "report") := rfl
    have g6 := eqs_t ("report" : Str)
    have e1 : struck (es ++ [.report c p f v a z]) = struck es := by rw [struck_app]; exact List.append_nil _
    have e2 : amts (es ++ [.report c p f v a z]) (ts ++ [t]) 0 = amts es ts 0 := by rw [hA]; exact List.append_nil _
    have e3 : bkPut S n1 n2 n3 (es ++ [.report c p f v a z]) (ts ++ [t]) = S.set n1 (.lst (el es ++ [(En.report c p f v a z).d])) := by
      unfold bkPut ak ad sk sd
      rw [e1, e2, set_same s3, set_same s2, ea]
    repeat (first | walk_at "ev" | simp only [g0, g1, g2, g4, g5, g6, hz, s0, s1])
    rw [e3]
  | enact c r x a z =>
    obtain ⟨p1, p2, p3⟩ := hb
    have g2 := x_checked_amount n (c := c) p1 ht p3
    have g5 : idxD (En.enact c r x a z).d (.int 0) = some (.str "enact") := rfl
    have g6 := eqs_t ("enact" : Str)
    have g7 : eqD' (.str "enact") (.str "report") = some (.bl false) := eqs_f (by decide +kernel)
    have e1 : struck (es ++ [.enact c r x a z]) = struck es := by rw [struck_app]; exact List.append_nil _
    have e2 : amts (es ++ [.enact c r x a z]) (ts ++ [t]) 0 = amts es ts 0 ++ [(es.length, t)] := by rw [hA]; simp only [Nat.zero_add]
    have g8 : putC (ak es ts) (ad es ts) (.inl (es.length : Int)) t = .dic (ak (es ++ [.enact c r x a z]) (ts ++ [t])) (ad (es ++ [.enact c r x a z]) (ts ++ [t])) := by
      unfold putC
      rw [amts_new, if_neg (by decide)]
      unfold ak ad
      rw [e2]
      simp
    have q1 : (S.set n3 (.dic (ak (es ++ [.enact c r x a z]) (ts ++ [t])) (ad (es ++ [.enact c r x a z]) (ts ++ [t]))))[b]? = some (.obj 0 [.ref n1, .ref n2, .ref n3]) := by rw [List.getElem?_set_ne (Ne.symm a5)]; exact s0
    have q2 : (S.set n3 (.dic (ak (es ++ [.enact c r x a z]) (ts ++ [t])) (ad (es ++ [.enact c r x a z]) (ts ++ [t]))))[n1]? = some (.lst (el es)) := by rw [List.getElem?_set_ne (Ne.symm a2)]; exact s1
    have q3 : (S.set n3 (.dic (ak (es ++ [.enact c r x a z]) (ts ++ [t])) (ad (es ++ [.enact c r x a z]) (ts ++ [t]))))[n2]? = some (.dic (sk es) (sd es)) := by rw [List.getElem?_set_ne (Ne.symm B.ne)]; exact s2
    have e3 : bkPut S n1 n2 n3 (es ++ [.enact c r x a z]) (ts ++ [t]) = (S.set n3 (.dic (ak (es ++ [.enact c r x a z]) (ts ++ [t])) (ad (es ++ [.enact c r x a z]) (ts ++ [t])))).set n1 (.lst (el es ++ [(En.enact c r x a z).d])) := by
      unfold bkPut
      rw [show sk (es ++ [.enact c r x a z]) = sk es from by unfold sk; rw [e1], show sd (es ++ [.enact c r x a z]) = sd es from by unfold sd; rw [e1], set_same q3, ea]
    repeat (first | walk_at "ev" | simp only [g0, g1, g2, g4, g5, g6, g7, g9, hz, hk, s0, s1, s3, g8, q1, q2])
    rw [e3]
  | strike c k =>
    obtain ⟨p1, p2, p3⟩ := hb
    have g2 := x_check_strike (n + 44) B p1 p2 p3
    have g2 : run (n + 45) 20 [.ref b, .d (.int (k : Int))] S = .ok (.d .non) S := g2
    have g3 : eqD' (.str "strike") (.str "report") = some (.bl false) := eqs_f (by decide +kernel)
    have g7 : eqD' (.str "strike") (.str "enact") = some (.bl false) := eqs_f (by decide +kernel)
    have g5 : idxD (En.strike c k).d (.int 0) = some (.str "strike") := rfl
    have g6 : idxD (En.strike c k).d (.int 2) = some (.int (k : Int)) := rfl
    have g0 : idxD (En.strike c k).d (.int 1) = some (.int c) := rfl
    have g1 : run (n + 45) 19 [.ref b, .d (.int c)] S = .ok (.d .non) S := g1
    have g8 : putC (sk es) (sd es) (.inl (k : Int)) (.int c) = .dic (sk (es ++ [.strike c k])) (sd (es ++ [.strike c k])) := by
      unfold putC
      rw [hasK_hits, p3, if_neg (by decide)]
      unfold sk sd
      rw [struck_app]
      simp [struck]
    have e2 : amts (es ++ [.strike c k]) (ts ++ [t]) 0 = amts es ts 0 := by rw [hA]; exact List.append_nil _
    have q1 : (S.set n2 (.dic (sk (es ++ [.strike c k])) (sd (es ++ [.strike c k]))))[b]? = some (.obj 0 [.ref n1, .ref n2, .ref n3]) := by rw [List.getElem?_set_ne (Ne.symm a4)]; exact s0
    have q2 : (S.set n2 (.dic (sk (es ++ [.strike c k])) (sd (es ++ [.strike c k]))))[n1]? = some (.lst (el es)) := by rw [List.getElem?_set_ne (Ne.symm a1)]; exact s1
    have e3 : bkPut S n1 n2 n3 (es ++ [.strike c k]) (ts ++ [t]) = (S.set n2 (.dic (sk (es ++ [.strike c k])) (sd (es ++ [.strike c k])))).set n1 (.lst (el es ++ [(En.strike c k).d])) := by
      unfold bkPut
      rw [show ak (es ++ [.strike c k]) (ts ++ [t]) = ak es ts from by unfold ak; rw [e2], show ad (es ++ [.strike c k]) (ts ++ [t]) = ad es ts from by unfold ad; rw [e2], set_same s3, ea]
    repeat (first | walk_at "ev" | simp only [g0, g1, g2, g3, g4, g5, g6, g7, hz, hs, s0, s1, s2, g8, q1, q2])
    rw [e3]
/-! ### a book out of entries -/
abbrev bkS (b : Nat) (es : List En) (ts : List D) : Store := [.obj 0 [.ref (b + 1), .ref (b + 2), .ref (b + 3)], .lst (el es), .dic (sk es) (sd es), .dic (ak es ts) (ad es ts)]
theorem app_at {S T : Store} (i : Nat) : (S ++ T)[S.length + i]? = T[i]? := by
  rw [List.getElem?_append_right (Nat.le_add_right _ _), Nat.add_sub_cancel_left]
theorem app_at0 {S T : Store} : (S ++ T)[S.length]? = T[0]? := app_at 0
theorem app_lo {S T : Store} {i : Nat} {c : Cell} (h : S[i]? = some c) : (S ++ T)[i]? = some c := by
  rw [List.getElem?_append_left (List.getElem?_eq_some_iff.mp h).1]; exact h
theorem app_set {S T : Store} (i : Nat) (c : Cell) : (S ++ T).set (S.length + i) c = S ++ T.set i c := by
  rw [List.set_append_right _ _ (Nat.le_add_right _ _), Nat.add_sub_cancel_left]
theorem bkS_at {S : Store} {es : List En} {ts : List D} : BkAt (S ++ bkS S.length es ts) S.length (S.length + 1) (S.length + 2) (S.length + 3) es ts :=
  ⟨app_at0, app_at 1, app_at 2, app_at 3, by omega⟩
theorem bkS_put {S : Store} {es es' : List En} {ts ts' : List D} : bkPut (S ++ bkS S.length es ts) (S.length + 1) (S.length + 2) (S.length + 3) es' ts' = S ++ bkS S.length es' ts' := by
  unfold bkPut
  rw [app_set, app_set, app_set]
  rfl
/-- parts beside entries -/
structure Prt (es : List En) (ts : List D) : Prop where
  len : ts.length = es.length
  part : ∀ (k : Nat) (e : En) (t : D), es[k]? = some e → ts[k]? = some t → PartOf e t
theorem Prt.snoc {es : List En} {ts : List D} (w : Prt es ts) {e : En} {t : D} (hp : PartOf e t) : Prt (es ++ [e]) (ts ++ [t]) := by
  refine ⟨by simp [w.len], fun k x y h1 h2 => ?_⟩
  by_cases hk : k < es.length
  · rw [List.getElem?_append_left hk] at h1
    rw [List.getElem?_append_left (by rw [w.len]; exact hk)] at h2
    exact w.part k x y h1 h2
  · have hl := (List.getElem?_eq_some_iff.mp h1).1
    rw [List.length_append, List.length_singleton] at hl
    have hk : k = es.length := by omega
    subst hk
    rw [List.getElem?_append_right (Nat.le_refl _), Nat.sub_self] at h1
    rw [List.getElem?_append_right (by rw [w.len]; exact Nat.le_refl _), w.len, Nat.sub_self] at h2
    cases h1; cases h2
    exact hp
theorem Prt.cons {e : En} {t : D} {es : List En} {ts : List D} (w : Prt (e :: es) (t :: ts)) : PartOf e t ∧ Prt es ts :=
  ⟨w.part 0 e t rfl rfl, by simpa using w.len, fun k x y h1 h2 => w.part (k + 1) x y (by simpa using h1) (by simpa using h2)⟩
theorem book_loop (n : Nat) {S : Store} {a : Val} : ∀ (rest pre : List En) (rts pts : List D) (x : Option Val), Vb (pre ++ rest) → Prt rest rts → pts.length = pre.length → ∃ x',
    forL (gN 2) (sEx (eMeth 0 (run (n + 46) 17) 1 (eV 1) (aC (eV 2) aN))) (el rest) [some a, some (.ref S.length), x] (S ++ bkS S.length pre pts) = .nx [some a, some (.ref S.length), x'] (S ++ bkS S.length (pre ++ rest) (pts ++ rts))
  | [], pre, rts, pts, x, _, w, _ => ⟨x, by
    have : rts = [] := List.length_eq_zero_iff.mp w.len
    rw [this, List.append_nil, List.append_nil]; exact forL_nil⟩
  | e :: r, pre, [], pts, x, h, w, hl => by have := w.len; simp at this
  | e :: r, pre, t :: rts, pts, x, h, w, hl => by
    obtain ⟨w1, w2⟩ := w.cons
    have B : BkAt (S ++ bkS S.length pre pts) S.length (S.length + 1) (S.length + 2) (S.length + 3) pre pts := bkS_at
    have g := x_enter n B (h pre e r rfl) w1 hl
    rw [bkS_put] at g
    obtain ⟨x', ih⟩ := book_loop n (S := S) r (pre ++ [e]) rts (pts ++ [t]) (some (.d e.d)) (a := a) (by rw [List.append_assoc]; exact h) w2 (by simp [hl])
    rw [show pre ++ [e] ++ r = pre ++ e :: r from by simp, show pts ++ [t] ++ rts = pts ++ t :: rts from by simp] at ih
    refine ⟨x', ?_⟩
    have s0 := B.ob
    rw [show el (e :: r) = e.d :: el r from rfl, forL_cons]
    repeat (first | walk_at "ev" | simp only [g, s0])
    exact ih
/-- entries as they are passed: an own list, or one that nobody changes -/
def Psd (S : Store) (v : Val) (ds : List D) : Prop := v = .d (.lst ds) ∨ ∃ q, v = .ref q ∧ S[q]? = some (.lst ds)
theorem Psd.dv {S : Store} {v : Val} {ds : List D} (h : Psd S v ds) : dview S v = some (.lst ds) := by
  rcases h with rfl | ⟨q, rfl, hq⟩
  · exact dview_d
  · rw [dview_ref, hq]
    exact topc_lst
theorem Psd.ix {S : Store} {v : Val} {ds : List D} (h : Psd S v ds) {i : Nat} {d : D} (hd : ds[i]? = some d) : idxV v (.d (.int (i : Int))) S = .ok (.d d) S := by
  have e := idx_lst hd
  rcases h with rfl | ⟨q, rfl, hq⟩
  · rw [idxV_d, e]; exact of_some
  · rw [idxV_ref, hq, topc_lst, op2_some, e]; exact of_some
theorem Psd.top {S : Store} {v : Val} {ds : List D} (h : Psd S v ds) : Ev.top S v = some (.lst ds) := by
  rcases h with rfl | ⟨q, rfl, hq⟩
  · exact top_d
  · rw [top_ref, hq]
    exact topc_lst
theorem x_book_new (n : Nat) {S : Store} : run (n + 1) 16 [.ref S.length] (S ++ [.obj 0 []]) = .ok (.d .non) (S ++ bkS S.length [] []) := by
  have e1 : ([] : List Val).length ≤ 1000 := by decide
  have l1 : (S ++ [.obj 0 []] : Store).length = S.length + 1 := by simp
  have l2 : (S ++ [.obj 0 [.ref (S.length + 1)], .lst []] : Store).length = S.length + 2 := by simp
  have l3 : (S ++ [.obj 0 [.ref (S.length + 1), .ref (S.length + 2)], .lst [], .dic [] []] : Store).length = S.length + 3 := by simp
  have a1 : ((S ++ [.obj 0 []]) ++ [.lst []] : Store) = S ++ [.obj 0 [], .lst []] := by simp
  have a2 : (S ++ [.obj 0 [], .lst []] : Store)[S.length]? = some (.obj 0 []) := app_at0
  have a3 : (S ++ [.obj 0 [], .lst []] : Store).set S.length (.obj 0 [.ref (S.length + 1)]) = S ++ [.obj 0 [.ref (S.length + 1)], .lst []] := app_set 0 _
  have a4 : ((S ++ [.obj 0 [.ref (S.length + 1)], .lst []]) ++ [.dic [] []] : Store) = S ++ [.obj 0 [.ref (S.length + 1)], .lst [], .dic [] []] := by simp
  have a5 : (S ++ [.obj 0 [.ref (S.length + 1)], .lst [], .dic [] []] : Store)[S.length]? = some (.obj 0 [.ref (S.length + 1)]) := app_at0
  have a6 : (S ++ [.obj 0 [.ref (S.length + 1)], .lst [], .dic [] []] : Store).set S.length (.obj 0 [.ref (S.length + 1), .ref (S.length + 2)]) = S ++ [.obj 0 [.ref (S.length + 1), .ref (S.length + 2)], .lst [], .dic [] []] := app_set 0 _
  have a7 : ((S ++ [.obj 0 [.ref (S.length + 1), .ref (S.length + 2)], .lst [], .dic [] []]) ++ [.dic [] []] : Store) = S ++ [.obj 0 [.ref (S.length + 1), .ref (S.length + 2)], .lst [], .dic [] [], .dic [] []] := by simp
  have a8 : (S ++ [.obj 0 [.ref (S.length + 1), .ref (S.length + 2)], .lst [], .dic [] [], .dic [] []] : Store)[S.length]? = some (.obj 0 [.ref (S.length + 1), .ref (S.length + 2)]) := app_at0
  have a9 : (S ++ [.obj 0 [.ref (S.length + 1), .ref (S.length + 2)], .lst [], .dic [] [], .dic [] []] : Store).set S.length (.obj 0 [.ref (S.length + 1), .ref (S.length + 2), .ref (S.length + 3)]) = S ++ [.obj 0 [.ref (S.length + 1), .ref (S.length + 2), .ref (S.length + 3)], .lst [], .dic [] [], .dic [] []] := app_set 0 _
  rw [run16]
  unfold b16
  repeat (first | walk_at "ev" | simp only [e1, l1, a1, a2, a3, l2, a4, a5, a6, l3, a7, a8, a9, Nat.lt_irrefl])
  rfl
theorem x_entries (n : Nat) {S : Store} {b n1 n2 n3 : Nat} {es : List En} {ts : List D} (B : BkAt S b n1 n2 n3 es ts) : run (n + 1) 18 [.ref b] S = .ok (.d (.lst (el es))) S := by
  have s0 := B.ob
  have s1 := B.ls
  have e1 : listD (.lst (el es)) = some (.lst (el es)) := rfl
  rw [run18]
  unfold b18
  repeat (first | walk_at "ev" | simp only [s0, s1, e1])
/-! ### any entry, entered in a book -/
inductive Ge where
  | rep (c : Int) (p f : Str) (v a b : Int)
  | ena (c : Int) (r t : Str) (a b : Int)
  | str (c k : Int)
def Ge.d : Ge → D
  | .rep c p f v a b => .tup [.str "report", .int c, .str p, .str f, .int v, .tup [.int a, .int b]]
  | .ena c r t a b => .tup [.str "enact", .int c, .str r, .str t, .tup [.int a, .int b]]
  | .str c k => .tup [.str "strike", .int c, .int k]
def Ge.came : Ge → Int
  | .rep c .. => c
  | .ena c .. => c
  | .str c _ => c
def Ge.en : Ge → En
  | .rep c p f v a b => .report c p f v a b
  | .ena c r t a b => .enact c r t a b
  | .str c k => .strike c k.toNat
inductive Due where
  | ok | no | bad (e : Nat)
def spanB (a b : Int) : Bool := decide (0 ≤ a) && (decide (a < b) && decide (b ≤ 10000))
def valB (v : Int) : Bool := decide (-999999999 ≤ v) && decide (v ≤ 999999999)
def freeE (es : List En) (k : Nat) : Bool := match es[k]? with
  | some e => !e.isStrike && !(es.any (En.hits k))
  | none => false
def dueB : Bool → Due
  | true => .ok
  | false => .no
noncomputable def bodyD (es : List En) : Ge → Due
  | .rep _ p f v a b => dueB (nameOk p && (nameOk f && (valB v && spanB a b)))
  | .ena _ r t a b => if nameOk r = true then (match outT (wordsT t) with
      | .long => .no
      | .bad e => .bad e
      | .good _ => dueB (spanB a b)) else .no
  | .str _ k => dueB (decide (0 ≤ k) && freeE es k.toNat)
theorem body_rep {es : List En} {c v a b : Int} {p f : Str} : bodyD es (.rep c p f v a b) = dueB (nameOk p && (nameOk f && (valB v && spanB a b))) := rfl
theorem body_ena {es : List En} {c a b : Int} {r t : Str} : bodyD es (.ena c r t a b) = if nameOk r = true then (match outT (wordsT t) with
      | .long => .no
      | .bad e => .bad e
      | .good _ => dueB (spanB a b)) else .no := rfl
theorem body_str {es : List En} {c k : Int} : bodyD es (.str c k) = dueB (decide (0 ≤ k) && freeE es k.toNat) := rfl
def lastB (es : List En) (c : Int) : Bool := match es.getLast? with
  | some x => decide (x.came ≤ c)
  | none => true
def turnB (es : List En) (c : Int) : Bool := decide (es.length < 100) && (decide (0 ≤ c) && (decide (c < 10000) && lastB es c))
noncomputable def dueG (es : List En) (g : Ge) : Due := if turnB es g.came = true then bodyD es g else .no
/-- what an entry's texts are -/
def TxG (t : Str) : Prop := t.length ≤ 500000 ∧ (wordsT t).length ≤ 900 ∧ ∀ w ∈ wordsT t, w.length ≤ 1000 ∧ codesOk w
def GOk : Ge → Prop
  | .rep _ p f _ _ _ => p.length ≤ 1000 ∧ f.length ≤ 1000
  | .ena _ r t _ _ => r.length ≤ 1000 ∧ TxG t
  | .str .. => True
/-- the answer of a check that keeps the store -/
def okNo (b : Bool) (S : Store) : R Val := if b = true then .ok (.d .non) S else .ex ⟨2, []⟩ S
theorem p_day (n : Nat) (c : Int) : run (n + 1) 2 [.d (.int c)] [] = .ok (.d (.bl (decide (0 ≤ c) && decide (c < 10000)))) [] := by
  have e1 : leD (.int 0) (.int c) = some (.bl (decide (0 ≤ c))) := rfl
  have e2 : ltD (.int c) (.int 10000) = some (.bl (decide (c < 10000))) := rfl
  rw [run2]
  unfold b2
  cases h : decide (0 ≤ c) <;> repeat (first | walk_at "ev" | simp only [e1, e2, h, Bool.false_and])
theorem p_span (n : Nat) (a b : Int) : run (n + 1) 3 [.d (.tup [.int a, .int b])] [] = .ok (.d (.bl (spanB a b))) [] := by
  have e1 : leD (.int 0) (.int a) = some (.bl (decide (0 ≤ a))) := rfl
  have e2 : ltD (.int a) (.int b) = some (.bl (decide (a < b))) := rfl
  have e3 : leD (.int b) (.int 10000) = some (.bl (decide (b ≤ 10000))) := rfl
  have i1 : isTy .tuple (.tup [.int a, .int b]) = true := rfl
  have i2 : lenD (.tup [.int a, .int b]) = some (.int 2) := rfl
  unfold spanB
  rw [run3]
  unfold b3
  cases h : decide (0 ≤ a) <;> cases h2 : decide (a < b) <;> repeat (first | walk_at "ev" | simp only [e1, e2, e3, i1, i2, ne_ii, h, h2, Bool.false_and])
theorem p_value (n : Nat) (v : Int) : run (n + 1) 4 [.d (.int v)] [] = .ok (.d (.bl (valB v))) [] := by
  have e0 : negD (.int 999999999) = some (.int (-999999999)) := rfl
  have e1 : leD (.int (-999999999)) (.int v) = some (.bl (decide (-999999999 ≤ v))) := rfl
  have e2 : leD (.int v) (.int 999999999) = some (.bl (decide (v ≤ 999999999))) := rfl
  unfold valB
  rw [run4]
  unfold b4
  cases h : decide (-999999999 ≤ v) <;> repeat (first | walk_at "ev" | simp only [e0, e1, e2, h, Bool.false_and])
theorem p_cspan (n : Nat) (a b : Int) : run (n + 3) 23 [.d (.tup [.int a, .int b])] [] = okNo (spanB a b) [] := by
  have e1 := p_span (n + 1) a b
  have e1 : run (n + 2) 3 [.d (.tup [.int a, .int b])] [] = .ok (.d (.bl (spanB a b))) [] := e1
  rw [run23]
  unfold b23 okNo
  cases h : spanB a b <;> repeat (first | walk_at "ev" | simp only [e1, h])
theorem p_report (n : Nat) {c v a b : Int} {p f : Str} (hp : p.length ≤ 1000) (hf : f.length ≤ 1000) : run (n + 4) 21 [.d (Ge.rep c p f v a b).d] [] = okNo (nameOk p && (nameOk f && (valB v && spanB a b))) [] := by
  have e1 := x_is_name (n + 2) p (by omega)
  have e2 := x_is_name (n + 2) f (by omega)
  have e3 := p_value (n + 2) v
  have e4 := p_cspan n a b
  have e5 : slD (Ge.rep c p f v a b).d (some 2) none = some (.tup [.str p, .str f, .int v, .tup [.int a, .int b]]) := rfl
  rw [run21]
  unfold b21
  unfold okNo at e4 ⊢
  cases h1 : nameOk p <;> cases h2 : nameOk f <;> cases h3 : valB v <;> cases h4 : spanB a b <;> (rw [h4] at e4; repeat (first | walk_at "ev" | simp only [e1, e2, e3, e4, e5, h1, h2, h3, Bool.false_and]))
/-- the answer that a text's reading asks -/
def dueR (d : Due) (S S' : Store) : R Val := match d with
  | .ok => .ok (.d .non) S'
  | .no => .ex ⟨2, []⟩ S
  | .bad e => .ex ⟨1, [.int (e : Int)]⟩ S
/-- the part that a book keeps of an entry -/
noncomputable def partT (t : Str) : D := match outT (wordsT t) with
  | .good d => d
  | _ => .non
noncomputable def partE : En → D
  | .enact _ _ t _ _ => partT t
  | _ => .non
/-- the answer of a check that answers a value -/
def dueV (d : Due) (v : Val) (S : Store) : R Val := match d with
  | .ok => .ok v S
  | .no => .ex ⟨2, []⟩ S
  | .bad e => .ex ⟨1, [.int (e : Int)]⟩ S
theorem p_checked (n : Nat) {c a b : Int} {r t : Str} (hr : r.length ≤ 1000) (ht : TxG t) : run (n + 150) 22 [.d (Ge.ena c r t a b).d] [] = dueV (bodyD [] (.ena c r t a b)) (.d (partT t)) [] := by
  obtain ⟨h1, h2, h3⟩ := ht
  have e1 := x_is_name (n + 148) r (by omega)
  obtain ⟨S', e2⟩ := p_text (ws := wordsT t) (by omega) (fun w hw => (h3 w hw).1) (n + 149) (by omega) (Nat.le_trans h1 (by decide)) rfl
  have e4 := p_cspan (n + 146) a b
  have e5 : slD (Ge.ena c r t a b).d (some 2) none = some (.tup [.str r, .str t, .tup [.int a, .int b]]) := rfl
  rw [run22]
  unfold b22
  rw [body_ena]
  unfold partT
  cases h1 : nameOk r with
  | false =>
    rw [if_neg (by decide)]
    unfold dueV
    repeat (first | walk_at "ev" | simp only [e1, e5, h1])
  | true =>
    rw [if_pos rfl]
    cases ho : outT (wordsT t) with
    | long =>
      rw [ho] at e2
      unfold dueV
      repeat (first | walk_at "ev" | simp only [e1, e2, e5, h1])
    | bad e =>
      rw [ho] at e2
      unfold dueV
      repeat (first | walk_at "ev" | simp only [e1, e2, e5, h1])
    | good d =>
      rw [ho] at e2
      unfold okNo at e4
      unfold dueV dueB
      cases h4 : spanB a b <;> (rw [h4] at e4; repeat (first | walk_at "ev" | simp only [e1, e2, e4, e5, h1]))
/-! the book, anywhere in a store -/
theorem p_turn (n : Nat) {es : List En} {c : Int} {S : Store} {q n1 n2 n3 : Nat} {ts : List D} (hS : BkAt S q n1 n2 n3 es ts) : run (n + 3) 19 [.ref q, .d (.int c)] S = okNo (turnB es c) S := by
  have s0 := hS.ob
  have s1 := hS.ls
  have g1 : geD (.int (es.length : Int)) (.int 100) = some (.bl (!decide (es.length < 100))) := by
    rw [geI]
    by_cases h : es.length < 100
    · rw [decide_eq_true h, decide_eq_false (by omega)]; rfl
    · rw [decide_eq_false h, decide_eq_true (by omega)]; rfl
  have g2 := p_day (n + 1) c
  have g3 := len_el es
  unfold okNo turnB
  rcases List.eq_nil_or_concat es with rfl | ⟨pre, x, rfl⟩
  · have g4 : truD (.lst []) = some false := rfl
    have g1 : geD (.int 0) (.int 100) = some (.bl false) := rfl
    have g3 : lenD (.lst []) = some (.int 0) := rfl
    have k0 : decide (([] : List En).length < 100) = true := rfl
    have k1 : lastB [] c = true := rfl
    rw [run19]
    unfold b19
    cases h1 : decide (0 ≤ c) <;> cases h2 : decide (c < 10000) <;> (rw [k0, k1]; repeat (first | walk_at "ev" | simp only [s0, s1, g1, g2, g3, g4, h1, h2, Bool.false_and, Bool.and_false]))
  · rw [List.concat_eq_append] at g1 g3 s1 ⊢
    have g4 : truD (.lst (el (pre ++ [x]))) = some true := by rw [tru_el]; simp
    have g5 := last_el (pre := pre) (x := x)
    have g6 := came_d x
    have k1 : lastB (pre ++ [x]) c = decide (x.came ≤ c) := by
      unfold lastB
      simp
    have g7 : ltD (.int c) (.int x.came) = some (.bl (!lastB (pre ++ [x]) c)) := by
      rw [k1]
      show some (D.bl (decide _)) = _
      by_cases h : x.came ≤ c
      · rw [decide_eq_true h, decide_eq_false (by omega)]; rfl
      · rw [decide_eq_false h, decide_eq_true (by omega)]; rfl
    clear k1
    rw [run19]
    unfold b19
    cases hL : decide ((pre ++ [x]).length < 100) <;> cases h1 : decide (0 ≤ c) <;> cases h2 : decide (c < 10000) <;> cases h3 : lastB (pre ++ [x]) c <;> (rw [hL] at g1; rw [h3] at g7; repeat (first | walk_at "ev" | simp only [s0, s1, g1, g2, g3, g4, g5, g6, g7, neg1, h1, h2, Bool.false_and, Bool.and_false]))
theorem p_strike (n : Nat) {es : List En} {k : Int} {S : Store} {q n1 n2 n3 : Nat} {ts : List D} (hS : BkAt S q n1 n2 n3 es ts) : run (n + 2) 20 [.ref q, .d (.int k)] S = okNo (decide (0 ≤ k) && freeE es k.toNat) S := by
  have s0 := hS.ob
  have s1 := hS.ls
  have s2 := hS.di
  have g1 : leD (.int 0) (.int k) = some (.bl (decide (0 ≤ k))) := rfl
  have g2 : ltD (.int k) (.int (es.length : Int)) = some (.bl (decide (k < es.length))) := rfl
  have g3 := len_el es
  unfold okNo
  rw [run20]
  unfold b20
  by_cases h0 : 0 ≤ k
  · have h0' := decide_eq_true h0
    by_cases h1 : k < es.length
    · have h1' := decide_eq_true h1
      obtain ⟨i, rfl⟩ : ∃ i : Nat, k = (i : Int) := ⟨k.toNat, by omega⟩
      have hi : i < es.length := by omega
      have he := List.getElem?_eq_getElem hi
      generalize es[i] = x at he
      have g4 := pos_lst he
      have g7 := kind_d x
      have g8 := kind_s x
      have hf : freeE es i = (!x.isStrike && !(es.any (En.hits i))) := by unfold freeE; rw [he]
      rw [Int.toNat_natCast, hf, h0']
      have g9 := hasK_hits es i
      have g10 : (dLook (sk es) (sd es) (.inl (i : Int))).isSome = es.any (En.hits i) := by
        cases hh : es.any (En.hits i) with
        | false => rw [not_hit hh]; rfl
        | true =>
          rw [hits_struck] at hh
          obtain ⟨p, hp, e⟩ := List.any_eq_true.mp hh
          have e := of_decide_eq_true e
          cases hl : dLook (sk es) (sd es) (.inl (i : Int)) with
          | some _ => rfl
          | none =>
            exfalso
            have : ∀ (ps : List (Nat × Int)), (∃ p ∈ ps, p.1 = i) → (dLook (ps.map fun p => Sum.inl (p.1 : Int)) (ps.map fun p => D.int p.2) (.inl (i : Int))).isSome = true := fun ps => by
              induction ps with
              | nil => rintro ⟨p, hp, _⟩; cases hp
              | cons q r ih =>
                intro ⟨p, hp, e⟩
                unfold dLook at ih ⊢
                rw [List.map_cons, List.map_cons, List.zip_cons_cons, List.find?_cons]
                by_cases c : q.1 = i
                · have : decide ((Sum.inl (q.1 : Int) : Key) = .inl (i : Int)) = true := decide_eq_true (by rw [c])
                  simp only [this]
                  rfl
                · have : decide ((Sum.inl (q.1 : Int) : Key) = .inl (i : Int)) = false := decide_eq_false fun z => c (by have := Sum.inl.inj z; omega)
                  simp only [this]
                  refine ih ?_
                  rcases List.mem_cons.mp hp with rfl | hp
                  · exact absurd e c
                  · exact ⟨p, hp, e⟩
            have := this (struck es) ⟨p, hp, e⟩
            have hl' : dLook ((struck es).map fun p => Sum.inl (p.1 : Int)) ((struck es).map fun p => D.int p.2) (.inl (i : Int)) = none := hl
            rw [hl'] at this
            cases this
      cases hs : x.isStrike with
      | true =>
        rw [hs] at g8
        repeat (first | walk_at "ev" | simp only [s0, s1, s2, g1, g2, g3, g4, g7, g8, h0', h1', Bool.false_and])
      | false =>
        rw [hs] at g8
        cases hh : es.any (En.hits i) with
        | true =>
          rw [hh] at g10
          repeat (first | walk_at "ev" | simp only [s0, s1, s2, g1, g2, g3, g4, g7, g8, h0', h1', g10])
        | false =>
          rw [hh] at g10
          repeat (first | walk_at "ev" | simp only [s0, s1, s2, g1, g2, g3, g4, g7, g8, h0', h1', g10])
    · have h1' := decide_eq_false h1
      have hf : freeE es k.toNat = false := by
        unfold freeE
        rw [List.getElem?_eq_none (by omega)]
      rw [hf, Bool.and_false]
      repeat (first | walk_at "ev" | simp only [s0, s1, s2, g1, g2, g3, h0', h1'])
  · have h0' := decide_eq_false h0
    rw [h0']
    repeat (first | walk_at "ev" | simp only [s0, s1, s2, g1, g3, h0', Bool.false_and])
theorem gtup_d (g : Ge) : tupleD g.d = some g.d := by cases g <;> rfl
theorem gcame_d (g : Ge) : idxD g.d (.int 1) = some (.int g.came) := by cases g <;> rfl
theorem en_d {es : List En} {g : Ge} (h : bodyD es g = .ok) : g.en.d = g.d := by
  cases g with
  | rep => rfl
  | ena => rfl
  | str c k =>
    rw [body_str] at h
    unfold dueB at h
    split at h
    · rename_i q
      rw [Bool.and_eq_true, decide_eq_true_eq] at q
      show D.tup [.str "strike", .int c, .int ((k.toNat : Nat) : Int)] = .tup [.str "strike", .int c, .int k]
      rw [Int.toNat_of_nonneg q.1]
    · cases h
/-- the parts of entries -/
noncomputable abbrev tsOf (es : List En) : List D := es.map partE
theorem tsOf_len (es : List En) : (tsOf es).length = es.length := by rw [List.length_map]
theorem tsOf_snoc (es : List En) (e : En) : tsOf (es ++ [e]) = tsOf es ++ [partE e] := by simp
abbrev Bk (S : Store) (q n1 n2 n3 : Nat) (es : List En) : Prop := BkAt S q n1 n2 n3 es (tsOf es)
noncomputable def bkW (S : Store) (n1 n2 n3 : Nat) (es : List En) : Store := bkPut S n1 n2 n3 es (tsOf es)
theorem bkW_at {S : Store} {q n1 n2 n3 : Nat} {es es' : List En} (h : Bk S q n1 n2 n3 es) : Bk (bkW S n1 n2 n3 es') q n1 n2 n3 es' := bkPut_at h
theorem bkW_ne {S : Store} {n1 n2 n3 i : Nat} {es : List En} (h1 : i ≠ n1) (h2 : i ≠ n2) (h3 : i ≠ n3) : (bkW S n1 n2 n3 es)[i]? = S[i]? := bkPut_ne h1 h2 h3
theorem bkW_len {S : Store} {n1 n2 n3 : Nat} {es : List En} : (bkW S n1 n2 n3 es).length = S.length := bkPut_len
theorem p_enter (n : Nat) {es : List En} {g : Ge} {S : Store} {q n1 n2 n3 : Nat} (hS : Bk S q n1 n2 n3 es) (h : GOk g) (hz : es.length ≤ 100) : run (n + 152) 17 [.ref q, .d g.d] S = dueR (dueG es g) S (bkW S n1 n2 n3 (es ++ [g.en])) := by
  have s0 := hS.ob
  have s1 := hS.ls
  have s2 := hS.di
  have s3 := hS.am
  have g0 := gcame_d g
  have g1 := p_turn (n + 148) (c := g.came) hS
  have g1 : run (n + 151) 19 [.ref q, .d (.int g.came)] S = okNo (turnB es g.came) S := g1
  have g4 := gtup_d g
  have g9 := len_el es
  obtain ⟨⟨a1, a2⟩, a3, a4, a5⟩ := hS.ne1
  have hz1 : (el es).length < sizeLine := by
    rw [List.length_map]
    exact Nat.lt_of_lt_of_le (m := 1000000) (by omega) (small (Nat.le_refl _))
  have hs : (sk es).length < sizeLine := by
    rw [List.length_map]
    have := struck_len es
    exact Nat.lt_of_lt_of_le (m := 1000000) (by omega) (small (Nat.le_refl _))
  have hk : (ak es (tsOf es)).length < sizeLine := by
    rw [List.length_map]
    have := amts_len es (tsOf es) 0
    exact Nat.lt_of_lt_of_le (m := 1000000) (by omega) (small (Nat.le_refl _))
  have hA := fun e t => amts_snoc es (tsOf es) e t 0 (tsOf_len es)
  have ea : ∀ e : En, el es ++ [e.d] = el (es ++ [e]) := fun e => by simp [el]
  unfold bkW
  rw [tsOf_snoc]
  unfold dueG
  rw [run17]
  unfold b17
  unfold okNo at g1
  cases ht : turnB es g.came with
  | false =>
    rw [ht] at g1
    simp only [Bool.false_eq_true, if_false] at g1 ⊢
    unfold dueR
    repeat (first | walk_at "ev" | simp only [s0, g0, g1])
  | true =>
    rw [ht] at g1
    simp only [if_true] at g1 ⊢
    have hd : bodyD es g = .ok → g.en.d = g.d := en_d
    cases g with
    | rep c p f v a z =>
      have g2 := p_report (n + 147) (c := c) (v := v) (a := a) (b := z) h.1 h.2
      have k0 : idxD (Ge.rep c p f v a z).d (.int 0) = some (.str "report") := rfl
      have g6 := eqs_t ("report" : Str)
      have e1 : struck (es ++ [(Ge.rep c p f v a z).en]) = struck es := by rw [struck_app]; exact List.append_nil _
      have e2 : amts (es ++ [(Ge.rep c p f v a z).en]) (tsOf es ++ [partE (Ge.rep c p f v a z).en]) 0 = amts es (tsOf es) 0 := by rw [hA]; exact List.append_nil _
      have e3 : bkPut S n1 n2 n3 (es ++ [(Ge.rep c p f v a z).en]) (tsOf es ++ [partE (Ge.rep c p f v a z).en]) = S.set n1 (.lst (el es ++ [(Ge.rep c p f v a z).d])) := by
        have e4 : (Ge.rep c p f v a z).d = (Ge.rep c p f v a z).en.d := rfl
        unfold bkPut ak ad sk sd
        rw [e1, e2, set_same s3, set_same s2, e4, ea]
      unfold okNo at g2
      rw [body_rep]
      unfold dueB dueR
      generalize (nameOk p && (nameOk f && (valB v && spanB a z))) = b at g2
      cases b
      · simp only [Bool.false_eq_true, if_false] at g2
        repeat (first | walk_at "ev" | simp only [s0, g0, g1, g2, k0, g6])
      · simp only [if_true] at g2
        simp only
        rw [e3]
        repeat (first | walk_at "ev" | simp only [s0, s1, g0, g1, g2, g4, k0, g6, hz1])
    | ena c r x a z =>
      have g2 := p_checked (n + 1) (c := c) (a := a) (b := z) h.1 h.2
      have g2 : run (n + 151) 22 [.d (Ge.ena c r x a z).d] [] = dueV (bodyD [] (.ena c r x a z)) (.d (partT x)) [] := g2
      have k0 : idxD (Ge.ena c r x a z).d (.int 0) = some (.str "enact") := rfl
      have g6 := eqs_t ("enact" : Str)
      have g7 : eqD' (.str "enact") (.str "report") = some (.bl false) := eqs_f (by decide +kernel)
      have e : bodyD es (.ena c r x a z) = bodyD [] (.ena c r x a z) := by rw [body_ena, body_ena]
      have e1 : struck (es ++ [(Ge.ena c r x a z).en]) = struck es := by rw [struck_app]; exact List.append_nil _
      have e2 : amts (es ++ [(Ge.ena c r x a z).en]) (tsOf es ++ [partE (Ge.ena c r x a z).en]) 0 = amts es (tsOf es) 0 ++ [(es.length, partT x)] := by
        rw [hA]
        show amts es (tsOf es) 0 ++ [(0 + es.length, partT x)] = _
        rw [Nat.zero_add]
      have g8 : putC (ak es (tsOf es)) (ad es (tsOf es)) (.inl (es.length : Int)) (partT x) = .dic (ak (es ++ [(Ge.ena c r x a z).en]) (tsOf es ++ [partE (Ge.ena c r x a z).en])) (ad (es ++ [(Ge.ena c r x a z).en]) (tsOf es ++ [partE (Ge.ena c r x a z).en])) := by
        unfold putC
        rw [amts_new, if_neg (by decide)]
        unfold ak ad
        rw [e2]
        simp
      generalize hX : Cell.dic (ak (es ++ [(Ge.ena c r x a z).en]) (tsOf es ++ [partE (Ge.ena c r x a z).en])) (ad (es ++ [(Ge.ena c r x a z).en]) (tsOf es ++ [partE (Ge.ena c r x a z).en])) = X at g8
      have q1 : (S.set n3 X)[q]? = some (.obj 0 [.ref n1, .ref n2, .ref n3]) := by rw [List.getElem?_set_ne (Ne.symm a5)]; exact s0
      have q2 : (S.set n3 X)[n1]? = some (.lst (el es)) := by rw [List.getElem?_set_ne (Ne.symm a2)]; exact s1
      have q3 : (S.set n3 X)[n2]? = some (.dic (sk es) (sd es)) := by rw [List.getElem?_set_ne (Ne.symm hS.ne)]; exact s2
      have e3 : bkPut S n1 n2 n3 (es ++ [(Ge.ena c r x a z).en]) (tsOf es ++ [partE (Ge.ena c r x a z).en]) = (S.set n3 X).set n1 (.lst (el es ++ [(Ge.ena c r x a z).d])) := by
        have e4 : (Ge.ena c r x a z).d = (Ge.ena c r x a z).en.d := rfl
        unfold bkPut
        rw [hX, show sk (es ++ [(Ge.ena c r x a z).en]) = sk es from by unfold sk; rw [e1], show sd (es ++ [(Ge.ena c r x a z).en]) = sd es from by unfold sd; rw [e1], set_same q3, e4, ea]
      rw [e]
      generalize bodyD [] (.ena c r x a z) = b at g2
      unfold dueV at g2
      unfold dueR
      cases b with
      | no =>
        simp only at g2 ⊢
        repeat (first | walk_at "ev" | simp only [s0, g0, g1, g2, g6, g7, k0])
      | bad e =>
        simp only at g2 ⊢
        repeat (first | walk_at "ev" | simp only [s0, g0, g1, g2, g6, g7, k0])
      | ok =>
        simp only at g2 ⊢
        rw [e3]
        repeat (first | walk_at "ev" | simp only [s0, s1, s3, g0, g1, g2, g4, g6, g7, g9, k0, hz1, hk, g8, q1, q2])
    | str c k =>
      have g2 := p_strike (n + 149) (k := k) hS
      have g2 : run (n + 151) 20 [.ref q, .d (.int k)] S = okNo (decide (0 ≤ k) && freeE es k.toNat) S := g2
      have g3 : eqD' (.str "strike") (.str "report") = some (.bl false) := eqs_f (by decide +kernel)
      have g7 : eqD' (.str "strike") (.str "enact") = some (.bl false) := eqs_f (by decide +kernel)
      have k0 : idxD (Ge.str c k).d (.int 0) = some (.str "strike") := rfl
      have g6 : idxD (Ge.str c k).d (.int 2) = some (.int k) := rfl
      have g0 : idxD (Ge.str c k).d (.int 1) = some (.int c) := rfl
      have g1 : run (n + 151) 19 [.ref q, .d (.int c)] S = .ok (.d .non) S := g1
      have e2 : amts (es ++ [(Ge.str c k).en]) (tsOf es ++ [partE (Ge.str c k).en]) 0 = amts es (tsOf es) 0 := by rw [hA]; exact List.append_nil _
      have hq : bodyD es (.str c k) = .ok → (decide (0 ≤ k) && freeE es k.toNat) = true := fun hb => by
        rw [body_str] at hb
        unfold dueB at hb
        split at hb
        · rename_i q; exact q
        · cases hb
      unfold okNo at g2
      rw [body_str] at hd hq ⊢
      unfold dueB at hd hq ⊢
      unfold dueR
      cases hb : (decide (0 ≤ k) && freeE es k.toNat) with
      | false =>
        rw [hb] at g2
        simp only [Bool.false_eq_true, if_false] at g2 ⊢
        repeat (first | walk_at "ev" | simp only [s0, g0, g1, g2, g3, g6, g7, k0])
      | true =>
        rw [hb] at g2 hd
        have hd := hd rfl
        simp only [if_true] at g2 ⊢
        rw [Bool.and_eq_true, decide_eq_true_eq] at hb
        obtain ⟨hk0, hk1⟩ := hb
        have hh : es.any (En.hits k.toNat) = false := by
          unfold freeE at hk1
          split at hk1
          · rw [Bool.and_eq_true] at hk1
            simpa using hk1.2
          · cases hk1
        have ek : k = ((k.toNat : Nat) : Int) := by omega
        have g8 : putC (sk es) (sd es) (.inl k) (.int c) = .dic (sk (es ++ [(Ge.str c k).en])) (sd (es ++ [(Ge.str c k).en])) := by
          show _ = Cell.dic (sk (es ++ [.strike c k.toNat])) (sd (es ++ [.strike c k.toNat]))
          rw [ek]
          unfold putC
          rw [hasK_hits, Int.toNat_natCast, hh, if_neg (by decide)]
          unfold sk sd
          rw [struck_app]
          simp [struck]
        generalize hX : Cell.dic (sk (es ++ [(Ge.str c k).en])) (sd (es ++ [(Ge.str c k).en])) = X at g8
        have q1 : (S.set n2 X)[q]? = some (.obj 0 [.ref n1, .ref n2, .ref n3]) := by rw [List.getElem?_set_ne (Ne.symm a4)]; exact s0
        have q2 : (S.set n2 X)[n1]? = some (.lst (el es)) := by rw [List.getElem?_set_ne (Ne.symm a1)]; exact s1
        have e3 : bkPut S n1 n2 n3 (es ++ [(Ge.str c k).en]) (tsOf es ++ [partE (Ge.str c k).en]) = (S.set n2 X).set n1 (.lst (el es ++ [(Ge.str c k).d])) := by
          unfold bkPut
          rw [hX, show ak (es ++ [(Ge.str c k).en]) (tsOf es ++ [partE (Ge.str c k).en]) = ak es (tsOf es) from by unfold ak; rw [e2], show ad (es ++ [(Ge.str c k).en]) (tsOf es ++ [partE (Ge.str c k).en]) = ad es (tsOf es) from by unfold ad; rw [e2], set_same s3, ← ea, hd]
        rw [e3]
        repeat (first | walk_at "ev" | simp only [s0, s1, s2, q1, q2, g0, g1, g2, g3, g4, g6, g7, k0, hs, g8, hz1])
theorem BkAt.put {S : Store} {b n1 n2 n3 q : Nat} {es : List En} {ts : List D} {c : Cell} (h : BkAt S b n1 n2 n3 es ts) (h1 : q ≠ b) (h2 : q ≠ n1) (h3 : q ≠ n2) (h4 : q ≠ n3) : BkAt (S.set q c) b n1 n2 n3 es ts :=
  ⟨by rw [List.getElem?_set_ne h1]; exact h.ob, by rw [List.getElem?_set_ne h2]; exact h.ls, by rw [List.getElem?_set_ne h3]; exact h.di, by rw [List.getElem?_set_ne h4]; exact h.am, h.ne⟩
/-! ### a book with one more entry; desks without claims -/
theorem bk_low {S T : Store} {q n1 n2 n3 : Nat} {es : List En} {ts : List D} (h : BkAt S q n1 n2 n3 es ts) (l : ∀ i, i < S.length → T[i]? = S[i]?) : BkAt T q n1 n2 n3 es ts := by
  have z := fun {i : Nat} {c : Cell} (e : S[i]? = some c) => (l i (List.getElem?_eq_some_iff.mp e).1).trans e
  exact ⟨z h.ob, z h.ls, z h.di, z h.am, h.ne⟩
/-- the cells of the copy -/
noncomputable abbrev cpS (m : Nat) (es : List En) : Store := [.obj 0 [.ref (m + 4), .ref (m + 5), .ref (m + 6)], .lst [], .dic [] [], .dic [] [], .lst (el es), .dic (sk es) (sd es), .dic (ak es (tsOf es)) (ad es (tsOf es))]
theorem cpS_at {S : Store} {es : List En} : Bk (S ++ cpS S.length es) S.length (S.length + 4) (S.length + 5) (S.length + 6) es :=
  ⟨app_at0, app_at 4, app_at 5, app_at 6, by omega⟩
theorem x_book_with (n : Nat) {S : Store} {b n1 n2 n3 : Nat} {es : List En} (B : Bk S b n1 n2 n3 es) {g : Ge} (h : GOk g) (hz : es.length ≤ 100) :
    ∃ T, T.length = S.length + 7 ∧ (∀ i, i < S.length → T[i]? = S[i]?) ∧ (match dueG es g with
      | .ok => Bk T S.length (S.length + 4) (S.length + 5) (S.length + 6) (es ++ [g.en]) ∧ run (n + 154) 30 [.ref b, .d g.d] S = .ok (.ref S.length) T
      | .no => run (n + 154) 30 [.ref b, .d g.d] S = .ex ⟨2, []⟩ T
      | .bad e => run (n + 154) 30 [.ref b, .d g.d] S = .ex ⟨1, [.int (e : Int)]⟩ T) := by
  have g1 := x_book_new (n + 151) (S := S)
  have g1 : run (n + 152) 16 [.ref S.length] (S ++ [.obj 0 []]) = .ok (.d .non) (S ++ bkS S.length [] []) := g1
  have s0 := B.ob
  have s1 := B.ls
  have s2 := B.di
  have s3 := B.am
  have a0 : (S ++ bkS S.length [] [])[b]? = some (.obj 0 [.ref n1, .ref n2, .ref n3]) := app_lo s0
  have a1 : (S ++ bkS S.length [] [])[n1]? = some (.lst (el es)) := app_lo s1
  have l1 : (S ++ bkS S.length [] []).length = S.length + 4 := by simp
  have b0 : ((S ++ bkS S.length [] []) ++ [Cell.lst (el es)] : Store) = S ++ (bkS S.length [] [] ++ [Cell.lst (el es)]) := List.append_assoc ..
  have b1 : (S ++ (bkS S.length [] [] ++ [Cell.lst (el es)]))[S.length]? = some (.obj 0 [.ref (S.length + 1), .ref (S.length + 2), .ref (S.length + 3)]) := app_at0
  have b2 : (S ++ (bkS S.length [] [] ++ [Cell.lst (el es)])).set S.length (.obj 0 [.ref (S.length + 4), .ref (S.length + 2), .ref (S.length + 3)]) = S ++ [.obj 0 [.ref (S.length + 4), .ref (S.length + 2), .ref (S.length + 3)], .lst [], .dic [] [], .dic [] [], .lst (el es)] := app_set 0 _
  generalize S ++ (bkS S.length [] [] ++ [Cell.lst (el es)]) = SB at b0 b1 b2
  generalize hS1 : S ++ [.obj 0 [.ref (S.length + 4), .ref (S.length + 2), .ref (S.length + 3)], .lst [], .dic [] [], .dic [] [], .lst (el es)] = S1 at b2
  have c0 : S1[b]? = some (.obj 0 [.ref n1, .ref n2, .ref n3]) := by rw [← hS1]; exact app_lo s0
  have c2 : S1[n2]? = some (.dic (sk es) (sd es)) := by rw [← hS1]; exact app_lo s2
  have c3 : S1.length = S.length + 5 := by rw [← hS1]; simp
  have c4 : S1 ++ [Cell.dic (sk es) (sd es)] = S ++ [.obj 0 [.ref (S.length + 4), .ref (S.length + 2), .ref (S.length + 3)], .lst [], .dic [] [], .dic [] [], .lst (el es), .dic (sk es) (sd es)] := by rw [← hS1, List.append_assoc]; rfl
  have c5 : (S ++ [.obj 0 [.ref (S.length + 4), .ref (S.length + 2), .ref (S.length + 3)], .lst [], .dic [] [], .dic [] [], .lst (el es), .dic (sk es) (sd es)] : Store)[S.length]? = some (.obj 0 [.ref (S.length + 4), .ref (S.length + 2), .ref (S.length + 3)]) := app_at0
  have c6 : (S ++ [.obj 0 [.ref (S.length + 4), .ref (S.length + 2), .ref (S.length + 3)], .lst [], .dic [] [], .dic [] [], .lst (el es), .dic (sk es) (sd es)] : Store).set S.length (.obj 0 [.ref (S.length + 4), .ref (S.length + 5), .ref (S.length + 3)]) = S ++ [.obj 0 [.ref (S.length + 4), .ref (S.length + 5), .ref (S.length + 3)], .lst [], .dic [] [], .dic [] [], .lst (el es), .dic (sk es) (sd es)] := app_set 0 _
  generalize (S ++ [.obj 0 [.ref (S.length + 4), .ref (S.length + 2), .ref (S.length + 3)], .lst [], .dic [] [], .dic [] [], .lst (el es), .dic (sk es) (sd es)] : Store) = SX at c4 c5 c6
  generalize hS2 : S ++ [.obj 0 [.ref (S.length + 4), .ref (S.length + 5), .ref (S.length + 3)], .lst [], .dic [] [], .dic [] [], .lst (el es), .dic (sk es) (sd es)] = S2 at c6
  have d0 : S2[b]? = some (.obj 0 [.ref n1, .ref n2, .ref n3]) := by rw [← hS2]; exact app_lo s0
  have d2 : S2[n3]? = some (.dic (ak es (tsOf es)) (ad es (tsOf es))) := by rw [← hS2]; exact app_lo s3
  have d3 : S2.length = S.length + 6 := by rw [← hS2]; simp
  have d4 : S2 ++ [Cell.dic (ak es (tsOf es)) (ad es (tsOf es))] = S ++ [.obj 0 [.ref (S.length + 4), .ref (S.length + 5), .ref (S.length + 3)], .lst [], .dic [] [], .dic [] [], .lst (el es), .dic (sk es) (sd es), .dic (ak es (tsOf es)) (ad es (tsOf es))] := by rw [← hS2, List.append_assoc]; rfl
  have d5 : (S ++ [.obj 0 [.ref (S.length + 4), .ref (S.length + 5), .ref (S.length + 3)], .lst [], .dic [] [], .dic [] [], .lst (el es), .dic (sk es) (sd es), .dic (ak es (tsOf es)) (ad es (tsOf es))] : Store)[S.length]? = some (.obj 0 [.ref (S.length + 4), .ref (S.length + 5), .ref (S.length + 3)]) := app_at0
  have d6 : (S ++ [.obj 0 [.ref (S.length + 4), .ref (S.length + 5), .ref (S.length + 3)], .lst [], .dic [] [], .dic [] [], .lst (el es), .dic (sk es) (sd es), .dic (ak es (tsOf es)) (ad es (tsOf es))] : Store).set S.length (.obj 0 [.ref (S.length + 4), .ref (S.length + 5), .ref (S.length + 6)]) = S ++ cpS S.length es := app_set 0 _
  generalize (S ++ [.obj 0 [.ref (S.length + 4), .ref (S.length + 5), .ref (S.length + 3)], .lst [], .dic [] [], .dic [] [], .lst (el es), .dic (sk es) (sd es), .dic (ak es (tsOf es)) (ad es (tsOf es))] : Store) = SY at d4 d5 d6
  have y0 : (0 : Nat) < 3 := by decide
  have y1 : (1 : Nat) < 3 := by decide
  have y2 : (2 : Nat) < 3 := by decide
  have B2 := cpS_at (S := S) (es := es)
  have e0 := B2.ob
  have e1 := p_enter (n + 1) B2 h hz
  have e1 : run (n + 153) 17 [.ref S.length, .d g.d] (S ++ cpS S.length es) = dueR (dueG es g) (S ++ cpS S.length es) (bkW (S ++ cpS S.length es) (S.length + 4) (S.length + 5) (S.length + 6) (es ++ [g.en])) := e1
  have B3 := bkW_at (es' := es ++ [g.en]) B2
  have len3 : (bkW (S ++ cpS S.length es) (S.length + 4) (S.length + 5) (S.length + 6) (es ++ [g.en])).length = S.length + 7 := by rw [bkW_len]; simp
  have low3 : ∀ i, i < S.length → (bkW (S ++ cpS S.length es) (S.length + 4) (S.length + 5) (S.length + 6) (es ++ [g.en]))[i]? = S[i]? := fun i hi => by
    rw [bkW_ne (by omega) (by omega) (by omega), List.getElem?_append_left hi]
  have len2 : (S ++ cpS S.length es).length = S.length + 7 := by simp
  have low2 : ∀ i, i < S.length → (S ++ cpS S.length es)[i]? = S[i]? := fun i hi => List.getElem?_append_left hi
  generalize S ++ cpS S.length es = SC at *
  generalize bkW SC (S.length + 4) (S.length + 5) (S.length + 6) (es ++ [g.en]) = SD at *
  generalize S ++ bkS S.length [] [] = SA at *
  rw [run30]
  unfold b30
  cases hd : dueG es g with
  | ok =>
    rw [hd] at e1
    unfold dueR at e1
    simp only at e1 ⊢
    refine ⟨SD, len3, low3, B3, ?_⟩
    repeat (first | walk_at "ev" | simp only [nw_eq, g1, a0, a1, l1, b0, b1, b2, c0, c2, c3, c4, c5, c6, d0, d2, d3, d4, d5, d6, e0, e1, y0, y1, y2])
  | no =>
    rw [hd] at e1
    unfold dueR at e1
    simp only at e1 ⊢
    refine ⟨SC, len2, low2, ?_⟩
    repeat (first | walk_at "ev" | simp only [nw_eq, g1, a0, a1, l1, b0, b1, b2, c0, c2, c3, c4, c5, c6, d0, d2, d3, d4, d5, d6, e0, e1, y0, y1, y2])
  | bad e =>
    rw [hd] at e1
    unfold dueR at e1
    simp only at e1 ⊢
    refine ⟨SC, len2, low2, ?_⟩
    repeat (first | walk_at "ev" | simp only [nw_eq, g1, a0, a1, l1, b0, b1, b2, c0, c2, c3, c4, c5, c6, d0, d2, d3, d4, d5, d6, e0, e1, y0, y1, y2])
/-- at q: a desk of these entries, without claims, with this journal; what it has lies above m -/
structure DskAt (S : Store) (q b n1 n2 n3 l c j : Nat) (es : List En) (js : List D) : Prop where
  ob : S[q]? = some (.obj 3 [.ref b, .ref l, .ref c, .ref j])
  bk : Bk S b n1 n2 n3 es
  cl : S[c]? = some (.dic [] [])
  jo : S[j]? = some (.lst js)
  nj : j ≠ n1
  nq : q ≠ b
theorem DskAt.low {S T : Store} {q b n1 n2 n3 l c j : Nat} {es : List En} {js : List D} (h : DskAt S q b n1 n2 n3 l c j es js) (k : ∀ i, i < S.length → T[i]? = S[i]?) : DskAt T q b n1 n2 n3 l c j es js := by
  have z := fun {i : Nat} {c : Cell} (e : S[i]? = some c) => (k i (List.getElem?_eq_some_iff.mp e).1).trans e
  exact ⟨z h.ob, bk_low h.bk k, z h.cl, z h.jo, h.nj, h.nq⟩
theorem x_check_room (n : Nat) {S : Store} {q b n1 n2 n3 l c j : Nat} {es : List En} {js : List D} (h : DskAt S q b n1 n2 n3 l c j es js) (hj : js.length < 150) : run (n + 1) 60 [.ref q] S = .ok (.d .non) S := by
  have s0 := h.ob
  have s1 := h.jo
  have g1 : geD (.int (js.length : Int)) (.int 150) = some (.bl false) := by rw [geI, decide_eq_false (by omega)]
  have g2 : lenD (.lst js) = some (.int (js.length : Int)) := rfl
  rw [run60]
  unfold b60
  repeat (first | walk_at "ev" | simp only [s0, s1, g1, g2])
abbrev deedE (d : D) : D := .tup [.str "enter", d]
theorem x_enter_desk (n : Nat) {S : Store} {q b n1 n2 n3 l c j : Nat} {es : List En} {js : List D} (h : DskAt S q b n1 n2 n3 l c j es js) (hj : js.length < 150) {g : Ge} (hg : GOk g) (hz : es.length ≤ 100) :
    ∃ T, S.length ≤ T.length ∧ (∀ i, i < S.length → i ≠ q → i ≠ j → T[i]? = S[i]?) ∧ (match dueG es g with
      | .ok => DskAt T q S.length (S.length + 4) (S.length + 5) (S.length + 6) l c j (es ++ [g.en]) (js ++ [deedE g.d]) ∧ run (n + 157) 49 [.ref q, .d (deedE g.d)] S = .ok (.d .non) T
      | .no => DskAt T q b n1 n2 n3 l c j es js ∧ run (n + 157) 49 [.ref q, .d (deedE g.d)] S = .ex ⟨2, []⟩ T
      | .bad e => DskAt T q b n1 n2 n3 l c j es js ∧ run (n + 157) 49 [.ref q, .d (deedE g.d)] S = .ex ⟨1, [.int (e : Int)]⟩ T) := by
  obtain ⟨T, l1, l2, e1⟩ := x_book_with (n + 1) h.bk hg hz
  have s0 := h.ob
  have hq := (List.getElem?_eq_some_iff.mp h.ob).1
  have hjl := (List.getElem?_eq_some_iff.mp h.jo).1
  have hT := h.low l2
  have t0 := hT.ob
  have t1 := hT.jo
  have e2 := x_check_room (n + 154) hT hj
  have e2 : run (n + 155) 60 [.ref q] T = .ok (.d .non) T := e2
  have i0 : idxD (deedE g.d) (.int 0) = some (.str "enter") := rfl
  have i1 : idxD (deedE g.d) (.int 1) = some g.d := rfl
  have q0 := eqs_t ("enter" : Str)
  have u1 : tupleD (deedE g.d) = some (deedE g.d) := rfl
  have zj : js.length < sizeLine := Nat.lt_of_lt_of_le (m := 1000000) (by omega) (small (Nat.le_refl _))
  have njq : j ≠ q := fun z => by
    have := h.jo
    rw [z, h.ob] at this; cases this
  have y4 : (0 : Nat) < 4 := by decide
  have innerX : ∀ (k : Nat) (fs : List D), run (n + 155) 30 [.ref b, .d g.d] S = .ex ⟨k, fs⟩ T → run (n + 156) 55 [.ref q, .d g.d] S = .ex ⟨k, fs⟩ T := fun k fs hr => by
    rw [run55]
    unfold b55
    repeat (first | walk_at "ev" | simp only [s0, hr])
  have innerO : ∀ m : Nat, run (n + 155) 30 [.ref b, .d g.d] S = .ok (.ref m) T → run (n + 156) 55 [.ref q, .d g.d] S = .ok (.d .non) (T.set q (.obj 3 [.ref m, .ref l, .ref c, .ref j])) := fun m hr => by
    rw [run55]
    unfold b55
    repeat (first | walk_at "ev" | simp only [s0, hr, t0, e2, y4])
  revert e1
  cases hd : dueG es g with
  | ok =>
    rintro ⟨B, e1⟩
    have e3 := innerO _ e1
    have w0 : (T.set q (.obj 3 [.ref S.length, .ref l, .ref c, .ref j]))[q]? = some (.obj 3 [.ref S.length, .ref l, .ref c, .ref j]) := List.getElem?_set_self (by omega)
    have w1 : (T.set q (.obj 3 [.ref S.length, .ref l, .ref c, .ref j]))[j]? = some (.lst js) := by rw [List.getElem?_set_ne (Ne.symm njq)]; exact t1
    have hc := (List.getElem?_eq_some_iff.mp h.cl).1
    have ncq : c ≠ q := fun z => by
      have := h.cl
      rw [z, h.ob] at this; cases this
    have ncj : c ≠ j := fun z => by
      have := h.cl
      rw [z, h.jo] at this; cases this
    refine ⟨(T.set q (.obj 3 [.ref S.length, .ref l, .ref c, .ref j])).set j (.lst (js ++ [deedE g.d])), by rw [List.length_set, List.length_set]; omega, fun i hi h1 h2 => ?_, ⟨?_, ?_, ?_, ?_, by omega, by omega⟩, ?_⟩
    · rw [List.getElem?_set_ne (Ne.symm h2), List.getElem?_set_ne (Ne.symm h1)]
      exact l2 i hi
    · rw [List.getElem?_set_ne njq]; exact w0
    · exact (B.put (by omega) (by omega) (by omega) (by omega)).put (by omega) (by omega) (by omega) (by omega)
    · rw [List.getElem?_set_ne (Ne.symm ncj), List.getElem?_set_ne (Ne.symm ncq)]
      exact hT.cl
    · exact List.getElem?_set_self (by rw [List.length_set]; omega)
    · generalize (T.set q (.obj 3 [.ref S.length, .ref l, .ref c, .ref j])) = U at *
      generalize deedE g.d = dd at *
      rw [run49]
      unfold b49
      repeat (first | walk_at "ev" | simp only [s0, e3, i0, i1, q0, u1, w0, w1, zj])
  | no =>
    intro e1
    have e3 := innerX _ _ e1
    refine ⟨T, by omega, fun i hi _ _ => l2 i hi, hT, ?_⟩
    generalize deedE g.d = dd at *
    show run (n + 157) 49 [.ref q, .d dd] S = .ex ⟨2, []⟩ T
    rw [run49]
    unfold b49
    repeat (first | walk_at "ev" | simp only [s0, e3, i0, i1, q0])
  | bad e =>
    intro e1
    have e3 := innerX _ _ e1
    refine ⟨T, by omega, fun i hi _ _ => l2 i hi, hT, ?_⟩
    generalize deedE g.d = dd at *
    show run (n + 157) 49 [.ref q, .d dd] S = .ex ⟨1, [.int (e : Int)]⟩ T
    rw [run49]
    unfold b49
    repeat (first | walk_at "ev" | simp only [s0, e3, i0, i1, q0])
theorem x_changes (n : Nat) {S : Store} {q b n1 n2 n3 l c j : Nat} {es : List En} {js : List D} (h : DskAt S q b n1 n2 n3 l c j es js) {g : Ge} (hg : GOk g) (hz : es.length ≤ 100) :
    ∃ T, S.length ≤ T.length ∧ (∀ i, i < S.length → T[i]? = S[i]?) ∧ (match dueG es g with
      | .ok => ∃ r, run (n + 156) 51 [.ref q, .d g.d] S = .ok (.ref r) T
      | .no => run (n + 156) 51 [.ref q, .d g.d] S = .ex ⟨2, []⟩ T
      | .bad e => run (n + 156) 51 [.ref q, .d g.d] S = .ex ⟨1, [.int (e : Int)]⟩ T) := by
  obtain ⟨T, l1, l2, e1⟩ := x_book_with (n + 1) h.bk hg hz
  have s0 := h.ob
  have hT := h.low l2
  have hU := hT.low (T := T ++ [.lst []]) fun i hi => List.getElem?_append_left hi
  have t0 := hU.ob
  have t1 := hU.cl
  revert e1
  cases hd : dueG es g with
  | ok =>
    rintro ⟨B, e1⟩
    have hc := (List.getElem?_eq_some_iff.mp t1).1
    have w1 : ((T ++ [Cell.lst []]).set c (.ldk [] []))[c]? = some (.ldk [] []) := List.getElem?_set_self hc
    have w2 : ((T ++ [Cell.lst []]).set c (.ldk [] [])).set c (.dic [] []) = T ++ [.lst []] := by rw [List.set_set]; exact set_same t1
    have ncq : q ≠ c := fun z => by
      have := h.cl
      rw [← z, h.ob] at this; cases this
    have w0 : ((T ++ [Cell.lst []]).set c (.ldk [] []))[q]? = some (.obj 3 [.ref b, .ref l, .ref c, .ref j]) := by rw [List.getElem?_set_ne (Ne.symm ncq)]; exact t0
    refine ⟨T ++ [.lst []], by rw [List.length_append]; omega, fun i hi => by rw [List.getElem?_append_left (by omega)]; exact l2 i hi, T.length, ?_⟩
    generalize hX : T ++ [Cell.lst []] = U
    rw [hX] at t0 t1 w0 w1 w2
    generalize hY : U.set c (.ldk [] []) = U2
    rw [hY] at w0 w1 w2
    rw [run51]
    unfold b51
    repeat (first | walk_at "ev" | simp only [s0, e1, hX, t0, t1, hY, w0, w1, w2])
  | no =>
    intro e1
    refine ⟨T, by omega, l2, ?_⟩
    show run (n + 156) 51 [.ref q, .d g.d] S = .ex ⟨2, []⟩ T
    rw [run51]
    unfold b51
    repeat (first | walk_at "ev" | simp only [s0, e1])
  | bad e =>
    intro e1
    refine ⟨T, by omega, l2, ?_⟩
    show run (n + 156) 51 [.ref q, .d g.d] S = .ex ⟨1, [.int (e : Int)]⟩ T
    rw [run51]
    unfold b51
    repeat (first | walk_at "ev" | simp only [s0, e1])
theorem x_desk_entries (n : Nat) {S : Store} {q b n1 n2 n3 l c j : Nat} {es : List En} {js : List D} (h : DskAt S q b n1 n2 n3 l c j es js) : run (n + 2) 52 [.ref q] S = .ok (.d (.lst (el es))) S := by
  have s0 := h.ob
  have s1 := h.bk.ob
  have e1 := x_entries n h.bk
  rw [run52]
  unfold b52
  repeat (first | walk_at "ev" | simp only [s0, s1, e1])
theorem x_journal (n : Nat) {S : Store} {q b n1 n2 n3 l c j : Nat} {es : List En} {js : List D} (h : DskAt S q b n1 n2 n3 l c j es js) : run (n + 1) 54 [.ref q] S = .ok (.d (.lst js)) S := by
  have s0 := h.ob
  have s1 := h.jo
  have e1 : listD (.lst js) = some (.lst js) := rfl
  rw [run54]
  unfold b54
  repeat (first | walk_at "ev" | simp only [s0, s1, e1])
/-- a new desk -/
theorem x_desk_new (n : Nat) : run (n + 3) 48 [.ref 0] [.obj 3 []] = .ok (.d .non) [.obj 3 [.ref 1, .ref 5, .ref 7, .ref 8], .obj 0 [.ref 2, .ref 3, .ref 4], .lst [], .dic [] [], .dic [] [], .obj 2 [.ref 6], .lst [], .dic [] [], .lst []] := by
  have e1 : ([] : List Val).length ≤ 1000 := by decide
  have g1 := x_book_new n (S := [.obj 3 []])
  have g1 : run (n + 1) 16 [.ref 1] [.obj 3 [], .obj 0 []] = .ok (.d .non) [.obj 3 [], .obj 0 [.ref 2, .ref 3, .ref 4], .lst [], .dic [] [], .dic [] []] := g1
  have g2 : run (n + 1) 44 [.ref 5] [.obj 3 [.ref 1], .obj 0 [.ref 2, .ref 3, .ref 4], .lst [], .dic [] [], .dic [] [], .obj 2 []] = .ok (.d .non) [.obj 3 [.ref 1], .obj 0 [.ref 2, .ref 3, .ref 4], .lst [], .dic [] [], .dic [] [], .obj 2 [.ref 6], .lst []] := by
    rw [run44]
    unfold b44
    repeat (first | walk_at "ev" | simp only [e1, Nat.lt_irrefl])
  rw [run48]
  unfold b48
  repeat (first | walk_at "ev" | simp only [nw_eq, g1, g2, e1, Nat.lt_irrefl])
/-! ### data compared: equal exactly if the same -/
mutual
inductive Gd : Nat → D → Prop where
  | non {k : Nat} : Gd k .non
  | int {k : Nat} {i : Int} : Gd k (.int i)
  | str {k : Nat} {x : Str} : codesOk x → Gd k (.str x)
  | tup {k : Nat} {ds : List D} : Gds k ds → Gd (k + 1) (.tup ds)
  | lst {k : Nat} {ds : List D} : Gds k ds → Gd (k + 1) (.lst ds)
inductive Gds : Nat → List D → Prop where
  | nil {k : Nat} : Gds k []
  | cons {k : Nat} {d : D} {ds : List D} : Gd k d → Gds k ds → Gds k (d :: ds)
end
theorem gd_lay : ∀ k : Nat, (∀ d : D, Gd k d → PyData.canLay0 d.py = true ∧ PyData.depth d.py ≤ k) ∧ (∀ ds : List D, Gds k ds → PyData.canLayAll0 (D.pys ds) = true ∧ PyData.depthAll (D.pys ds) ≤ k) := by
  intro k
  induction k with
  | zero =>
    have one : ∀ d : D, Gd 0 d → PyData.canLay0 d.py = true ∧ PyData.depth d.py ≤ 0 := fun d h => by
      cases h with
      | non => rw [D.py]; exact ⟨rfl, by simp [PyData.depth]⟩
      | int => rw [D.py]; exact ⟨rfl, by simp [PyData.depth]⟩
      | str hx =>
        rw [D.py]
        refine ⟨?_, by simp [PyData.depth]⟩
        rw [PyData.canLay0, PyData.strOk, ← Array.all_toList, List.all_eq_true]
        exact fun c hc => decide_eq_true (hx c hc)
    refine ⟨one, fun ds => ?_⟩
    induction ds with
    | nil => intro _; rw [D.pys]; exact ⟨by simp [PyData.canLayAll0], by simp [PyData.depthAll]⟩
    | cons d ds ih =>
      intro h
      cases h with
      | cons a b =>
        obtain ⟨a1, a2⟩ := one d a
        obtain ⟨b1, b2⟩ := ih b
        rw [D.pys]
        exact ⟨by rw [PyData.canLayAll0, a1, b1]; rfl, by rw [PyData.depthAll]; omega⟩
  | succ k ih =>
    have one : ∀ d : D, Gd (k + 1) d → PyData.canLay0 d.py = true ∧ PyData.depth d.py ≤ k + 1 := fun d h => by
      cases h with
      | non => rw [D.py]; exact ⟨rfl, by simp [PyData.depth]⟩
      | int => rw [D.py]; exact ⟨rfl, by simp [PyData.depth]⟩
      | str hx =>
        rw [D.py]
        refine ⟨?_, by simp [PyData.depth]⟩
        rw [PyData.canLay0, PyData.strOk, ← Array.all_toList, List.all_eq_true]
        exact fun c hc => decide_eq_true (hx c hc)
      | tup a =>
        obtain ⟨b1, b2⟩ := ih.2 _ a
        rw [D.py]
        exact ⟨by rw [PyData.canLay0]; exact b1, by rw [PyData.depth]; omega⟩
      | lst a =>
        obtain ⟨b1, b2⟩ := ih.2 _ a
        rw [D.py]
        exact ⟨by rw [PyData.canLay0]; exact b1, by rw [PyData.depth]; omega⟩
    refine ⟨one, fun ds => ?_⟩
    induction ds with
    | nil => intro _; rw [D.pys]; exact ⟨by simp [PyData.canLayAll0], by simp [PyData.depthAll]⟩
    | cons d ds ih2 =>
      intro h
      cases h with
      | cons a b =>
        obtain ⟨a1, a2⟩ := one d a
        obtain ⟨b1, b2⟩ := ih2 b
        rw [D.pys]
        exact ⟨by rw [PyData.canLayAll0, a1, b1]; rfl, by rw [PyData.depthAll]; omega⟩
theorem gd_eqv : ∀ k : Nat, (∀ x y : D, Gd k x → Gd k y → (PyData.eqv x.py y.py = true ↔ x = y)) ∧ (∀ xs ys : List D, Gds k xs → Gds k ys → (PyData.eqvAll (D.pys xs) (D.pys ys) = true ↔ xs = ys)) := by
  have lst : ∀ k : Nat, (∀ x y : D, Gd k x → Gd k y → (PyData.eqv x.py y.py = true ↔ x = y)) → ∀ xs ys : List D, Gds k xs → Gds k ys → (PyData.eqvAll (D.pys xs) (D.pys ys) = true ↔ xs = ys) := fun k one xs => by
    induction xs with
    | nil =>
      intro ys _ h
      cases ys with
      | nil => simp [D.pys, PyData.eqvAll]
      | cons y ys => simp [D.pys, PyData.eqvAll]
    | cons x xs ih =>
      intro ys g h
      cases ys with
      | nil => simp [D.pys, PyData.eqvAll]
      | cons y ys =>
        cases g with
        | cons g1 g2 =>
          cases h with
          | cons h1 h2 =>
            rw [D.pys, D.pys, PyData.eqvAll, Bool.and_eq_true, one x y g1 h1, ih ys g2 h2]
            simp
  intro k
  induction k with
  | zero =>
    have one : ∀ x y : D, Gd 0 x → Gd 0 y → (PyData.eqv x.py y.py = true ↔ x = y) := fun x y g h => by
      cases g <;> cases h <;> simp [D.py, PyData.eqv]
    exact ⟨one, lst 0 one⟩
  | succ k ih =>
    have one : ∀ x y : D, Gd (k + 1) x → Gd (k + 1) y → (PyData.eqv x.py y.py = true ↔ x = y) := fun x y g h => by
      cases g with
      | tup a => cases h with
        | tup b => simp [D.py, PyData.eqv, ih.2 _ _ a b]
        | _ => simp [D.py, PyData.eqv]
      | lst a => cases h with
        | lst b => simp [D.py, PyData.eqv, ih.2 _ _ a b]
        | _ => simp [D.py, PyData.eqv]
      | non => cases h <;> simp [D.py, PyData.eqv]
      | int => cases h <;> simp [D.py, PyData.eqv]
      | str => cases h <;> simp [D.py, PyData.eqv]
    exact ⟨one, lst (k + 1) one⟩
open Classical in
theorem eqG {k : Nat} {x y : D} (hk : k ≤ 60) (g : Gd k x) (h : Gd k y) : eqD x y = some (decide (x = y)) := by
  obtain ⟨l1, d1⟩ := (gd_lay k).1 x g
  obtain ⟨l2, d2⟩ := (gd_lay k).1 y h
  have s1 : SeqAt.shaped x.py = true := by unfold SeqAt.shaped; rw [l1, decide_eq_true (by omega)]; rfl
  have s2 : SeqAt.shaped y.py = true := by unfold SeqAt.shaped; rw [l2, decide_eq_true (by omega)]; rfl
  have e := (gd_eqv k).1 x y g h
  have fin : (if SeqAt.shaped x.py = true ∧ SeqAt.shaped y.py = true then some (PyData.eqv x.py y.py) else none) = some (decide (x = y)) := by
    rw [if_pos ⟨s1, s2⟩]
    congr 1
    by_cases c : x = y
    · rw [decide_eq_true c, e.mpr c]
    · rw [decide_eq_false c]
      cases q : PyData.eqv x.py y.py with
      | false => rfl
      | true => exact absurd (e.mp q) c
  cases g <;> cases h <;> first | exact fin | (simp [eqD])
theorem eqG_t {k : Nat} {x : D} (hk : k ≤ 60) (g : Gd k x) : eqD' x x = some (.bl true) := by
  unfold eqD'
  rw [eqG hk g g]
  simp
theorem neG_t {k : Nat} {x : D} (hk : k ≤ 60) (g : Gd k x) : neD' x x = some (.bl false) := by
  unfold neD'
  rw [eqG hk g g]
  simp
theorem eqG_f {k : Nat} {x y : D} (hk : k ≤ 60) (g : Gd k x) (h : Gd k y) (ne : x ≠ y) : eqD' x y = some (.bl false) := by
  unfold eqD'
  rw [eqG hk g h]
  simp [ne]
theorem neG_f {k : Nat} {x y : D} (hk : k ≤ 60) (g : Gd k x) (h : Gd k y) (ne : x ≠ y) : neD' x y = some (.bl true) := by
  unfold neD'
  rw [eqG hk g h]
  simp [ne]
theorem Gd.up : ∀ {k : Nat}, (∀ {d : D}, Gd k d → Gd (k + 1) d) ∧ (∀ {ds : List D}, Gds k ds → Gds (k + 1) ds) := fun {k} => by
  have lst : ∀ k : Nat, (∀ {d : D}, Gd k d → Gd (k + 1) d) → ∀ {ds : List D}, Gds k ds → Gds (k + 1) ds := fun k one ds h => by
    induction ds with
    | nil => exact .nil
    | cons d ds ih => cases h with
      | cons a b => exact .cons (one a) (ih b)
  induction k with
  | zero =>
    have one : ∀ {d : D}, Gd 0 d → Gd 1 d := fun h => by
      cases h with
      | non => exact .non
      | int => exact .int
      | str a => exact .str a
    exact ⟨one, lst 0 one⟩
  | succ k ih =>
    have one : ∀ {d : D}, Gd (k + 1) d → Gd (k + 2) d := fun h => by
      cases h with
      | non => exact .non
      | int => exact .int
      | str a => exact .str a
      | tup a => exact .tup (ih.2 a)
      | lst a => exact .lst (ih.2 a)
    exact ⟨one, lst (k + 1) one⟩
theorem cOk {x : Str} (h : (cs x).all (fun c => decide (c < 1114112)) = true) : codesOk x := fun c hc => of_decide_eq_true (List.all_eq_true.mp h c hc)
/-! ### a hundred entries -/
theorem ge_en {g : Ge} (h : ∀ c k, g = .str c k → 0 ≤ k) : g.en.d = g.d := by
  cases g with
  | rep => rfl
  | ena => rfl
  | str c k =>
    have := h c k rfl
    show D.tup [.str "strike", .int c, .int ((k.toNat : Nat) : Int)] = _
    rw [Int.toNat_of_nonneg this]
    rfl
theorem nAnn : nameOk "ann" = true := by decide +kernel
theorem nAge : nameOk "age" = true := by decide +kernel
theorem nBob : nameOk "bob" = true := by decide +kernel
theorem nBase : nameOk "base" = true := by decide +kernel
/-- the k-th report -/
abbrev rp (v : Int) (k : Nat) : Ge := .rep 0 "ann" "age" v 0 (5 + (k : Int))
theorem rp_ok (v : Int) (k : Nat) : GOk (rp v k) := ⟨by decide, by decide⟩
theorem rp_due {es : List En} {v : Int} {k : Nat} (h0 : -300 ≤ v) (h1 : v < 700) (hk : k ≤ 100) (hz : es.length < 100) (hc : ∀ e ∈ es, e.came = 0) : dueG es (rp v k) = .ok := by
  have hl : lastB es 0 = true := by
    unfold lastB
    cases h : es.getLast? with
    | none => rfl
    | some x =>
      have := hc x (List.mem_of_getLast? h)
      exact decide_eq_true (by omega)
  unfold dueG turnB
  show (if (decide (es.length < 100) && (decide ((0 : Int) ≤ 0) && (decide ((0 : Int) < 10000) && lastB es 0))) = true then _ else _) = _
  rw [decide_eq_true hz, hl, if_pos (by decide), body_rep, nAnn, nAge]
  unfold valB spanB
  rw [decide_eq_true (by omega), decide_eq_true (by omega), decide_eq_true (by omega), decide_eq_true (by omega), decide_eq_true (show 5 + (k : Int) ≤ 10000 by omega)]
  rfl
/-- these reports -/
def Rps (es : List En) : Prop := ∀ e ∈ es, ∃ (v : Int) (k : Nat), e = (rp v k).en
theorem Rps.came {es : List En} (h : Rps es) : ∀ e ∈ es, e.came = 0 := fun e he => by
  obtain ⟨v, k, rfl⟩ := h e he
  rfl
theorem Rps.snoc {es : List En} (h : Rps es) (v : Int) (k : Nat) : Rps (es ++ [(rp v k).en]) := fun e he => by
  rcases List.mem_append.mp he with he | he
  · exact h e he
  · exact ⟨v, k, List.mem_singleton.mp he⟩
theorem Rps.hits {es : List En} (h : Rps es) (k : Nat) : es.any (En.hits k) = false := by
  rw [List.any_eq_false]
  intro e he
  obtain ⟨v, j, rfl⟩ := h e he
  exact fun z => nomatch z
theorem cR : codesOk "report" := cOk (by decide +kernel)
theorem cE : codesOk "enter" := cOk (by decide +kernel)
theorem rp_gd (v : Int) (k : Nat) : Gd 2 (rp v k).en.d := .tup (.cons (.str cR) (.cons .int (.cons (.str (cOk (by decide +kernel))) (.cons (.str (cOk (by decide +kernel))) (.cons .int (.cons (.tup (.cons .int (.cons .int .nil))) .nil))))))
theorem dsk9 {S : Store} {b n1 n2 n3 : Nat} {es : List En} {js xs : List D} (dk : DskAt S 0 b n1 n2 n3 5 7 8 es js) (h9 : b ≠ 9 ∧ n1 ≠ 9) (d9 : S[9]? = some (.lst xs)) (x : Cell) : DskAt (S.set 9 x) 0 b n1 n2 n3 5 7 8 es js := by
  refine ⟨?_, dk.bk.put (by omega) (by omega) (fun z => ?_) (fun z => ?_), ?_, ?_, dk.nj, dk.nq⟩
  · rw [List.getElem?_set_ne (by decide)]; exact dk.ob
  · have := dk.bk.di; rw [← z, d9] at this; cases this
  · have := dk.bk.am; rw [← z, d9] at this; cases this
  · rw [List.getElem?_set_ne (by decide)]; exact dk.cl
  · rw [List.getElem?_set_ne (by decide)]; exact dk.jo
/-- the law's store between two entries -/
structure HSt (S : Store) (b n1 n2 n3 : Nat) (es : List En) : Prop where
  dk : DskAt S 0 b n1 n2 n3 5 7 8 es ((el es).map deedE)
  du : S[9]? = some (.lst (el es))
  h9 : b ≠ 9 ∧ n1 ≠ 9
theorem HSt.took {S T : Store} {b n1 n2 n3 b' n1' n2' n3' : Nat} {es : List En} {g : Ge} (h : HSt S b n1 n2 n3 es) (dk : DskAt T 0 b' n1' n2' n3' 5 7 8 (es ++ [g.en]) ((el es).map deedE ++ [deedE g.d])) (h9 : b' ≠ 9 ∧ n1' ≠ 9) (d9 : T[9]? = S[9]?) (ge : g.en.d = g.d) :
    HSt (T.set 9 (.lst (el es ++ [g.d]))) b' n1' n2' n3' (es ++ [g.en]) := by
  have e1 : el (es ++ [g.en]) = el es ++ [g.d] := by rw [← ge]; exact List.map_append
  have e2 : (el (es ++ [g.en])).map deedE = (el es).map deedE ++ [deedE g.d] := by rw [e1]; exact List.map_append
  have d9 := d9.trans h.du
  refine ⟨?_, ?_, h9⟩
  · rw [e2]; exact dsk9 dk h9 d9 _
  · rw [e1]; exact List.getElem?_set_self (List.getElem?_eq_some_iff.mp d9).1
theorem lenJ (es : List En) : ((el es).map deedE).length = es.length := by rw [List.length_map, List.length_map]
theorem h_loop {s0 c0 m0 : Option Val} {seed : Int} {x8 x9 : Option Val} : ∀ (j lo : Nat) (S : Store) (b n1 n2 n3 : Nat) (es : List En) (x6 x7 : Option Val), lo + j ≤ 100 → HSt S b n1 n2 n3 es → es.length = lo → Rps es → ∃ S' b' n1' n2' n3' es' x6' x7', HSt S' b' n1' n2' n3' es' ∧ es'.length = lo + j ∧ Rps es' ∧
    forL (gN 6) (sSeq (sAsg (eTup (aC (eC (.str "report")) (aC (eC (.int 0)) (aC (eC (.str "ann")) (aC (eC (.str "age")) (aC (eOp2 subD (eOp2 modD (eOp1 intD (eOp2 addD (eV 1) (eOp2 mulD (eC (.int 977)) (eV 6)))) (eC (.int 1000))) (eC (.int 300))) (aC (eTup (aC (eC (.int 0)) (aC (eOp2 addD (eC (.int 5)) (eV 6)) aN))) aN))))))) (gN 7))
    (sSeq (sEx (eMeth 3 (run 200 49) 1 (eV 4) (aC (eTup (aC (eC (.str "enter")) (aC (eV 7) aN))) aN)))
    (sEx (eAppend (eV 5) (eV 7))))) (rng (lo : Int) j) [s0, some (.d (.int seed)), c0, m0, some (.ref 0), some (.ref 9), x6, x7, x8, x9] S =
    .nx [s0, some (.d (.int seed)), c0, m0, some (.ref 0), some (.ref 9), x6', x7', x8, x9] S' := by
  intro j
  induction j with
  | zero => intro lo S b n1 n2 n3 es x6 x7 _ h hl hr; exact ⟨S, b, n1, n2, n3, es, x6, x7, h, hl, hr, by rw [rng_zero, forL_nil]⟩
  | succ j ih =>
    intro lo S b n1 n2 n3 es x6 x7 hz h hl hr
    have hcast : ((lo : Int) + 1) = ((lo + 1 : Nat) : Int) := rfl
    have v0 : -300 ≤ (seed + 977 * (lo : Int)) % 1000 - 300 := by omega
    have v1 : (seed + 977 * (lo : Int)) % 1000 - 300 < 700 := by omega
    have m1 : mulD (.int 977) (.int (lo : Int)) = some (.int (977 * (lo : Int))) := mul_l (by decide) (by decide)
    have m2 := mod_ok (i := seed + 977 * (lo : Int)) (j := 1000) (by decide)
    have hd := rp_due (es := es) (v := (seed + 977 * (lo : Int)) % 1000 - 300) (k := lo) v0 v1 (by omega) (by omega) hr.came
    have hs : (rp ((seed + 977 * (lo : Int)) % 1000 - 300) lo).d = .tup [.str "report", .int 0, .str "ann", .str "age", .int ((seed + 977 * (lo : Int)) % 1000 - 300), .tup [.int 0, .int (5 + (lo : Int))]] := rfl
    have hok := rp_ok ((seed + 977 * (lo : Int)) % 1000 - 300) lo
    have hsn := hr.snoc ((seed + 977 * (lo : Int)) % 1000 - 300) lo
    have hge : (rp ((seed + 977 * (lo : Int)) % 1000 - 300) lo).en.d = (rp ((seed + 977 * (lo : Int)) % 1000 - 300) lo).d := rfl
    generalize rp ((seed + 977 * (lo : Int)) % 1000 - 300) lo = g at *
    obtain ⟨T, t1, t2, e1⟩ := x_enter_desk 43 h.dk (by rw [lenJ]; omega) hok (by omega)
    rw [hd] at e1
    obtain ⟨dk, e1⟩ := e1
    have len := (List.getElem?_eq_some_iff.mp h.du).1
    have d9 := t2 9 len (by decide) (by decide)
    have hT := h.took dk ⟨by omega, by omega⟩ d9 hge
    have d9' := d9.trans h.du
    obtain ⟨S', b', n1', n2', n3', es', x6', x7', k1, k2, k3, gg⟩ := ih (lo + 1) _ _ _ _ _ _ (some (.d (.int (lo : Int)))) (some (.d g.d)) (by omega) hT (by rw [List.length_append, List.length_singleton]; omega) hsn
    refine ⟨S', b', n1', n2', n3', es', x6', x7', k1, by omega, k3, ?_⟩
    have zz : (el es).length < sizeLine := by
      rw [List.length_map]
      exact Nat.lt_of_lt_of_le (m := 1000000) (by omega) (small (Nat.le_refl _))
    have s0' := h.dk.ob
    have e1 : run 200 49 [.ref 0, .d (.tup [.str "enter", g.d])] S = .ok (.d .non) T := e1
    rw [rng_cons, forL_cons, hcast]
    rw [hs] at e1 gg
    repeat (first | walk_at "ev" | simp only [m1, m2, add_i, sub_i, int_i, s0', e1, d9', zz, gg])
/-- how the last entry is refused, or not -/
theorem x_refused (n : Nat) (asked : Bool) {S : Store} {b n1 n2 n3 : Nat} {es : List En} {js : List D} (h : DskAt S 0 b n1 n2 n3 5 7 8 es js) (hj : js.length < 150) {g : Ge} (hg : GOk g) (hz : es.length ≤ 100) :
    ∃ T, S.length ≤ T.length ∧ (∀ i, i < S.length → i ≠ 0 → i ≠ 8 → T[i]? = S[i]?) ∧ (match dueG es g with
      | .ok => (match asked with
        | true => DskAt T 0 b n1 n2 n3 5 7 8 es js
        | false => DskAt T 0 S.length (S.length + 4) (S.length + 5) (S.length + 6) 5 7 8 (es ++ [g.en]) (js ++ [deedE g.d])) ∧ run (n + 158) 62 [.ref 0, .d g.d, .d (.bl asked)] S = .ok (.d (.bl false)) T
      | .no => DskAt T 0 b n1 n2 n3 5 7 8 es js ∧ run (n + 158) 62 [.ref 0, .d g.d, .d (.bl asked)] S = .ok (.d (.bl true)) T
      | .bad _ => True) := by
  have s0 := h.ob
  have w1 : tx_WritError 2 = some true := rfl
  have w2 : tx_NotAllowed 2 = some true := rfl
  have w3 : tx_BadText 2 = some false := rfl
  have w4 : tx_UnknownName 2 = some false := rfl
  have u1 : truD (.bl asked) = some asked := rfl
  cases asked with
  | true =>
    obtain ⟨T, l1, l2, e1⟩ := x_changes (n + 1) h hg hz
    refine ⟨T, l1, fun i hi _ _ => l2 i hi, ?_⟩
    revert e1
    cases hd : dueG es g with
    | bad e => exact fun _ => True.intro
    | ok =>
      rintro ⟨r, e1⟩
      have e1 : run (n + 157) 51 [.ref 0, .d g.d] S = .ok (.ref r) T := e1
      refine ⟨h.low l2, ?_⟩
      rw [run62]
      unfold b62
      repeat (first | walk_at "ev" | simp only [s0, u1, e1])
    | no =>
      intro e1
      have e1 : run (n + 157) 51 [.ref 0, .d g.d] S = .ex ⟨2, []⟩ T := e1
      refine ⟨h.low l2, ?_⟩
      rw [run62]
      unfold b62
      repeat (first | walk_at "ev" | simp only [s0, u1, e1, w1, w2, w3, w4])
  | false =>
    obtain ⟨T, l1, l2, e1⟩ := x_enter_desk n h hj hg hz
    refine ⟨T, l1, fun i hi h1 h2 => l2 i hi h1 h2, ?_⟩
    revert e1
    cases hd : dueG es g with
    | bad e => exact fun _ => True.intro
    | ok =>
      rintro ⟨dk, e1⟩
      have e1 : run (n + 157) 49 [.ref 0, .d (.tup [.str "enter", g.d])] S = .ok (.d .non) T := e1
      refine ⟨dk, ?_⟩
      rw [run62]
      unfold b62
      repeat (first | walk_at "ev" | simp only [s0, u1, e1])
    | no =>
      rintro ⟨dk, e1⟩
      have e1 : run (n + 157) 49 [.ref 0, .d (.tup [.str "enter", g.d])] S = .ex ⟨2, []⟩ T := e1
      refine ⟨dk, ?_⟩
      rw [run62]
      unfold b62
      repeat (first | walk_at "ev" | simp only [s0, u1, e1, w1, w2, w3, w4])
theorem full_due {es : List En} {g : Ge} (h : es.length = 100) : dueG es g = .no := by
  unfold dueG turnB
  rw [decide_eq_false (by omega), Bool.false_and, if_neg (by decide)]
theorem turn_due {es : List En} {c : Int} (hr : Rps es) (h : es.length = 20) (h0 : 0 ≤ c) (h1 : c < 10000) : turnB es c = true := by
  have hl : lastB es c = true := by
    unfold lastB
    cases h : es.getLast? with
    | none => rfl
    | some x =>
      have := hr.came x (List.mem_of_getLast? h)
      exact decide_eq_true (by omega)
  unfold turnB
  rw [decide_eq_true (by omega), decide_eq_true h0, decide_eq_true h1, hl]
  rfl
theorem wd5 : wordsT "5" = [("5" : Str)] := wordsT_eq (x := "5") (ws := [("5" : Str)]) (by decide +kernel)
theorem nt5 : numT 5 = "5" := by decide +kernel
theorem out5 : ∃ d, outT (wordsT "5") = .good d := by
  have ha : Amt 0 (.tup [.str "number", .int 5]) [("5" : Str)] := by
    have := Amt.num (k := 0) (i := 5) (by decide) (by decide)
    rw [nt5] at this
    exact this
  have e1 := x_parse 199 0 _ _ "5" ha (by decide) ⟨by decide +kernel, by decide⟩ (by decide)
  obtain ⟨S', e2⟩ := p_text (ws := wordsT "5") (by rw [wd5]; decide) (fun w hw => by rw [wd5] at hw; rw [List.mem_singleton.mp hw]; decide) 200 (by decide) (show ("5" : Str).length ≤ 1000000 by decide) rfl
  cases h : outT (wordsT "5") with
  | good d => exact ⟨d, rfl⟩
  | long =>
    rw [h] at e2
    rw [show run 200 6 [.d (.str "5")] [] = _ from e1] at e2
    cases e2
  | bad e =>
    rw [h] at e2
    rw [show run 200 6 [.d (.str "5")] [] = _ from e1] at e2
    cases e2
theorem last_pick {r : Int} (h0 : 0 ≤ r) (h1 : r < 3) : ∃ g : Ge, GOk g ∧ g.en.d = g.d ∧ Gd 2 g.d ∧ (∀ es, Rps es → es.length = 20 → dueG es g = .ok) ∧
    idxD (.lst [.tup [.str "report", .int 1, .str "bob", .str "age", .int 5, .tup [.int 0, .int 9]], .tup [.str "enact", .int 1, .str "base", .str "5", .tup [.int 0, .int 9]], .tup [.str "strike", .int 1, .int 3]]) (.int r) = some g.d := by
  have : r = 0 ∨ r = 1 ∨ r = 2 := by omega
  rcases this with rfl | rfl | rfl
  · refine ⟨.rep 1 "bob" "age" 5 0 9, ⟨by decide, by decide⟩, rfl, .tup (.cons (.str cR) (.cons .int (.cons (.str (cOk (by decide +kernel))) (.cons (.str (cOk (by decide +kernel))) (.cons .int (.cons (.tup (.cons .int (.cons .int .nil))) .nil)))))), fun es hr hz => ?_, rfl⟩
    unfold dueG
    rw [if_pos (turn_due hr hz (by decide) (by decide)), body_rep, nBob, nAge]
    rfl
  · refine ⟨.ena 1 "base" "5" 0 9, ⟨by decide, ?_⟩, rfl, .tup (.cons (.str (cOk (by decide +kernel))) (.cons .int (.cons (.str (cOk (by decide +kernel))) (.cons (.str (cOk (by decide +kernel))) (.cons (.tup (.cons .int (.cons .int .nil))) .nil))))), fun es hr hz => ?_, rfl⟩
    · refine ⟨by decide, by rw [wd5]; decide, fun w hw => ?_⟩
      rw [wd5] at hw
      rw [List.mem_singleton.mp hw]
      exact ⟨by decide, cOk (by decide +kernel)⟩
    · obtain ⟨d, e⟩ := out5
      unfold dueG
      rw [if_pos (turn_due hr hz (by decide) (by decide)), body_ena, nBase, e]
      rfl
  · refine ⟨.str 1 3, True.intro, rfl, .tup (.cons (.str (cOk (by decide +kernel))) (.cons .int (.cons .int .nil))), fun es hr hz => ?_, rfl⟩
    have hf : freeE es 3 = true := by
      unfold freeE
      have hk := List.getElem?_eq_getElem (show 3 < es.length by omega)
      have hm := List.getElem_mem (show 3 < es.length by omega)
      rw [hk]
      obtain ⟨v, k, e⟩ := hr _ hm
      rw [e, hr.hits]
      rfl
    unfold dueG
    rw [if_pos (turn_due hr hz (by decide) (by decide)), body_str]
    show dueB (decide ((0 : Int) ≤ 3) && freeE es 3) = .ok
    rw [hf]
    rfl
def seedB : SS := (sAsg (eOp2 modD (eOp1 intD (eOp2 addD (eOp2 addD (eOp2 mulD (eV 1) (eC (.int 48271))) (eV 2)) (eC (.int 11)))) (eC (.int 2147483647))) (gN 1))
def repB (d : Fn) : SS := (sSeq (sAsg (eTup (aC (eC (.str "report")) (aC (eC (.int 0)) (aC (eC (.str "ann")) (aC (eC (.str "age")) (aC (eOp2 subD (eOp2 modD (eOp1 intD (eOp2 addD (eV 1) (eOp2 mulD (eC (.int 977)) (eV 6)))) (eC (.int 1000))) (eC (.int 300))) (aC (eTup (aC (eC (.int 0)) (aC (eOp2 addD (eC (.int 5)) (eV 6)) aN))) aN))))))) (gN 7))
    (sSeq (sEx (eMeth 3 d 1 (eV 4) (aC (eTup (aC (eC (.str "enter")) (aC (eV 7) aN))) aN)))
    (sEx (eAppend (eV 5) (eV 7)))))
def askB (r : Fn) : SS := (sIf (bE (eOp2 neD' (eCall r 3 (aC (eV 4) (aC (eV 8) (aC (eV 9) aN)))) (eOp2 eqD' (eV 3) (eC (.int 100))))) (sRt (eC (.bl false))) sNx)
def endB (en jo : Fn) : SS := (sLk 5 (sRt (eAnd (eOp2 eqD' (eMeth 3 en 0 (eV 4) aN) (eV 5)) (eOp2 eqD' (eMeth 3 jo 0 (eV 4) aN) (eComp (iLk (eV 5)) (gN 7) bYes (eTup (aC (eC (.str "enter")) (aC (eV 7) aN))) [7])))))
def pickE : SE := (eIdx (eLst (aC (eTup (aC (eC (.str "report")) (aC (eC (.int 1)) (aC (eC (.str "bob")) (aC (eC (.str "age")) (aC (eC (.int 5)) (aC (eTup (aC (eC (.int 0)) (aC (eC (.int 9)) aN))) aN))))))) (aC (eTup (aC (eC (.str "enact")) (aC (eC (.int 1)) (aC (eC (.str "base")) (aC (eC (.str "5")) (aC (eTup (aC (eC (.int 0)) (aC (eC (.int 9)) aN))) aN)))))) (aC (eTup (aC (eC (.str "strike")) (aC (eC (.int 1)) (aC (eC (.int 3)) aN)))) aN)))) (eOp2 modD (eOp2 fdivD (eV 1) (eC (.int 31))) (eC (.int 3))))
theorem seed_loop {s0 x3 x4 x5 x6 x7 x8 x9 : Option Val} {S : Store} : ∀ (ns : List Int) (seed : Int) (c : Option Val), 0 ≤ seed → seed < 2147483647 → ∃ seed' c', 0 ≤ seed' ∧ seed' < 2147483647 ∧
    forL (gN 2) seedB (ns.map .int) [s0, some (.d (.int seed)), c, x3, x4, x5, x6, x7, x8, x9] S = .nx [s0, some (.d (.int seed')), c', x3, x4, x5, x6, x7, x8, x9] S
  | [], seed, c, h0, h1 => ⟨seed, c, h0, h1, by rw [List.map_nil, forL_nil]⟩
  | n :: r, seed, c, h0, h1 => by
    have m1 : mulD (.int seed) (.int 48271) = some (.int (seed * 48271)) := mul_r (by decide) (by decide)
    have m2 := mod_ok (i := seed * 48271 + n + 11) (j := 2147483647) (by decide)
    have b0 : 0 ≤ (seed * 48271 + n + 11) % 2147483647 := by omega
    have b1 : (seed * 48271 + n + 11) % 2147483647 < 2147483647 := by omega
    obtain ⟨s', c', k0, k1, ih⟩ := seed_loop r ((seed * 48271 + n + 11) % 2147483647) (some (.d (.int n))) b0 b1 (s0 := s0) (x3 := x3) (x4 := x4) (x5 := x5) (x6 := x6) (x7 := x7) (x8 := x8) (x9 := x9) (S := S)
    refine ⟨s', c', k0, k1, ?_⟩
    rw [List.map_cons, forL_cons]
    unfold seedB at ih ⊢
    repeat (first | walk_at "ev" | simp only [m1, m2, add_i, int_i, ih])
theorem Rps.gd {es : List En} (h : Rps es) : Gds 2 (el es) := by
  induction es with
  | nil => exact .nil
  | cons e r ih =>
    obtain ⟨v, k, rfl⟩ := h e List.mem_cons_self
    exact .cons (rp_gd v k) (ih fun x hx => h x (List.mem_cons_of_mem _ hx))
theorem Gds.app {k : Nat} : ∀ {xs ys : List D}, Gds k xs → Gds k ys → Gds k (xs ++ ys)
  | [], _, _, g => g
  | _ :: _, _, .cons a b, g => .cons a (b.app g)
theorem Gds.deeds {k : Nat} : ∀ {xs : List D}, Gds k xs → Gds (k + 1) (xs.map deedE)
  | [], _ => .nil
  | _ :: _, .cons a b => .cons (.tup (.cons (.str cE) (.cons a .nil))) b.deeds
theorem end_step {S : Store} {b n1 n2 n3 : Nat} {es : List En} (h : HSt S b n1 n2 n3 es) (hg : Gds 2 (el es)) (hz : es.length ≤ 1000) {a0 a1 a2 a3 a6 a7 a8 a9 : Option Val} : ∃ S',
    endB (run 200 52) (run 200 54) [a0, a1, a2, a3, some (.ref 0), some (.ref 9), a6, a7, a8, a9] S = .rt (.d (.bl true)) S' := by
  have dk := dsk9 h.dk h.h9 h.du (.lck (el es))
  have len := (List.getElem?_eq_some_iff.mp h.du).1
  have d9 := h.du
  have k9 : (S.set 9 (.lck (el es)))[9]? = some (.lck (el es)) := List.getElem?_set_self len
  have s0 := dk.ob
  have e1 := x_desk_entries 198 dk
  have e1 : run 200 52 [.ref 0] (S.set 9 (.lck (el es))) = .ok (.d (.lst (el es))) (S.set 9 (.lck (el es))) := e1
  have e2 := x_journal 199 dk
  have e2 : run 200 54 [.ref 0] (S.set 9 (.lck (el es))) = .ok (.d (.lst ((el es).map deedE))) (S.set 9 (.lck (el es))) := e2
  have q1 : eqD' (.lst (el es)) (.lst (el es)) = some (.bl true) := eqG_t (k := 3) (by decide) (.lst hg)
  have q2 : eqD' (.lst ((el es).map deedE)) (.lst ((el es).map deedE)) = some (.bl true) := eqG_t (k := 4) (by decide) (.lst hg.deeds)
  have zz : (el es).length ≤ sizeLine := by rw [List.length_map]; exact small (by omega)
  have c1 : compL (gN 7) bYes (eTup (aC (eC (.str "enter")) (aC (eV 7) aN))) (wipeL [a0, a1, a2, a3, some (.ref 0), some (.ref 9), a6, a7, a8, a9] [7]) (el es) [] (S.set 9 (.lck (el es))) = .ok ((el es).map deedE) (S.set 9 (.lck (el es))) :=
    compL_all deedE _ _ fun d _ => ⟨[a0, a1, a2, a3, some (.ref 0), some (.ref 9), a6, some (.d d), a8, a9], rfl, by repeat (first | walk_at "ev" | simp only [])⟩
  generalize hU : S.set 9 (.lck (el es)) = U at *
  refine ⟨U.set 9 (.lst (el es)), ?_⟩
  unfold endB
  repeat (first | walk_at "ev" | simp only [d9, hU, k9, s0, e1, e2, q1, q2, zz, c1])
theorem ask_step {S : Store} {b n1 n2 n3 : Nat} {es : List En} (h : HSt S b n1 n2 n3 es) {g : Ge} (hg : GOk g) (ge : g.en.d = g.d) (full : Bool) (hz : es.length ≤ 100) (hd : dueG es g = if full = true then .no else .ok) {a0 a1 a2 a6 a7 a9 : Option Val} :
    ∃ S', (if full = true then ∃ b' n1' n2' n3', HSt S' b' n1' n2' n3' es else ∃ b' n1' n2' n3', HSt (S'.set 9 (.lst (el es ++ [g.d]))) b' n1' n2' n3' (es ++ [g.en]) ∧ S'[9]? = some (.lst (el es))) ∧
    forL (gN 9) (askB (run 200 62)) [.bl true, .bl false] [a0, a1, a2, some (.d (.int (if full = true then 100 else 20))), some (.ref 0), some (.ref 9), a6, a7, some (.d g.d), a9] S =
      .nx [a0, a1, a2, some (.d (.int (if full = true then 100 else 20))), some (.ref 0), some (.ref 9), a6, a7, some (.d g.d), some (.d (.bl false))] S' := by
  have hj : ((el es).map deedE).length < 150 := by rw [lenJ]; omega
  obtain ⟨T, l1, l2, e1⟩ := x_refused 42 true h.dk hj hg hz
  have len := (List.getElem?_eq_some_iff.mp h.du).1
  have d9 := l2 9 len (by decide) (by decide)
  have nb : ∀ x : Bool, neD' (.bl x) (.bl x) = some (.bl false) := fun x => by cases x <;> rfl
  cases full with
  | true =>
    rw [if_pos rfl] at hd
    rw [hd] at e1
    obtain ⟨dk, e1⟩ := e1
    have e1 : run 200 62 [.ref 0, .d g.d, .d (.bl true)] S = .ok (.d (.bl true)) T := e1
    obtain ⟨T2, m1, m2, e2⟩ := x_refused 42 false dk hj hg hz
    rw [hd] at e2
    obtain ⟨dk2, e2⟩ := e2
    have e2 : run 200 62 [.ref 0, .d g.d, .d (.bl false)] T = .ok (.d (.bl true)) T2 := e2
    have d9b := m2 9 (by omega) (by decide) (by decide)
    have q1 : eqD' (.int 100) (.int 100) = some (.bl true) := rfl
    refine ⟨T2, ?_, ?_⟩
    · rw [if_pos rfl]
      exact ⟨b, n1, n2, n3, dk2, (d9b.trans d9).trans h.du, h.h9⟩
    · rw [forL_cons]
      simp only [if_true]
      unfold askB
      repeat (first | walk_at "ev" | simp only [e1, q1, nb])
      rw [forL_cons]
      repeat (first | walk_at "ev" | simp only [e2, q1, nb])
  | false =>
    rw [if_neg (by decide)] at hd
    rw [hd] at e1
    obtain ⟨dk, e1⟩ := e1
    have e1 : run 200 62 [.ref 0, .d g.d, .d (.bl true)] S = .ok (.d (.bl false)) T := e1
    obtain ⟨T2, m1, m2, e2⟩ := x_refused 42 false dk hj hg hz
    rw [hd] at e2
    obtain ⟨dk2, e2⟩ := e2
    have e2 : run 200 62 [.ref 0, .d g.d, .d (.bl false)] T = .ok (.d (.bl false)) T2 := e2
    have d9b := m2 9 (by omega) (by decide) (by decide)
    have q1 : eqD' (.int 20) (.int 100) = some (.bl false) := rfl
    have hT : HSt T b n1 n2 n3 es := ⟨dk, d9.trans h.du, h.h9⟩
    refine ⟨T2, ?_, ?_⟩
    · rw [if_neg (by decide)]
      exact ⟨_, _, _, _, hT.took dk2 ⟨by omega, by omega⟩ d9b ge, (d9b.trans d9).trans h.du⟩
    · rw [forL_cons]
      simp only [Bool.false_eq_true, if_false]
      unfold askB
      repeat (first | walk_at "ev" | simp only [e1, q1, nb])
      rw [forL_cons]
      repeat (first | walk_at "ev" | simp only [e2, q1, nb])
theorem b_law (c : Nat → Fn) (w : Nat → Nat → Nat → SA → SE) (z : Nat → SE → SS) (x : Cau → Nat → Fn) : b63 c w z x = (sSeq (sAsg (eC (.int 7)) (gN 1))
    (sSeq (sFor (iL (eV 0)) (gN 2) seedB)
    (sSeq (sAsg (eC (.int 20)) (gN 3))
    (sSeq (sIf (bE (eOp2 eqD' (eOp2 modD (eOp2 fdivD (eV 1) (eC (.int 5))) (eC (.int 6))) (eC (.int 1)))) (sAsg (eC (.int 100)) (gN 3)) sNx)
    (sSeq (sAsg (w 3 48 0 aN) (gN 4))
    (sSeq (sAsg (eLstO aN) (gN 5))
    (sSeq (sFor (iR1 (eV 3)) (gN 6) (repB (c 49)))
    (sSeq (sAsg pickE (gN 8))
    (sSeq (sFor (iL (eLst (aC (eC (.bl true)) (aC (eC (.bl false)) aN)))) (gN 9) (askB (c 62)))
    (sSeq (sIf (bE (eOp2 eqD' (eV 3) (eC (.int 20)))) (sEx (eAppend (eV 5) (eV 8))) sNx)
    (endB (c 52) (c 54)))))))))))) := by
  unfold b63 seedB repB askB endB pickE
  rfl
theorem law_true (ns : List Int) : ∃ S', run 201 63 [.d (.scr ns)] [] = .ok (.d (.bl true)) S' := by
  obtain ⟨seed, c2, z0, z1, e1⟩ := seed_loop (s0 := some (.d (.scr ns))) (x3 := none) (x4 := none) (x5 := none) (x6 := none) (x7 := none) (x8 := none) (x9 := none) (S := []) ns 7 none (by decide) (by decide)
  have f1 := fdiv_ok (i := seed) (j := 5) (by decide) (by decide)
  have f2 := mod_ok (i := seed / 5) (j := 6) (by decide)
  have f3 : eqD' (.int (seed / 5 % 6)) (.int 1) = some (.bl (decide (seed / 5 % 6 = 1))) := rfl
  have f4 := fdiv_ok (i := seed) (j := 31) (by decide) (by decide)
  have f5 := mod_ok (i := seed / 31) (j := 3) (by decide)
  obtain ⟨g, g1, g2, g3, g4, g5⟩ := last_pick (r := seed / 31 % 3) (by omega) (by omega)
  have i3 := x_desk_new 196
  have i3 : run 199 48 [.ref 0] [.obj 3 []] = .ok (.d .non) [.obj 3 [.ref 1, .ref 5, .ref 7, .ref 8], .obj 0 [.ref 2, .ref 3, .ref 4], .lst [], .dic [] [], .dic [] [], .obj 2 [.ref 6], .lst [], .dic [] [], .lst []] := i3
  have nq : nw 200 3 48 0 aN = eNew 3 (run 199 48) 0 aN := nw_eq (n := 199)
  have H0 : HSt [.obj 3 [.ref 1, .ref 5, .ref 7, .ref 8], .obj 0 [.ref 2, .ref 3, .ref 4], .lst [], .dic [] [], .dic [] [], .obj 2 [.ref 6], .lst [], .dic [] [], .lst [], .lst []] 1 2 3 4 [] :=
    ⟨⟨rfl, ⟨rfl, rfl, rfl, rfl, by decide⟩, rfl, rfl, by decide, by decide⟩, rfl, by decide, by decide⟩
  have p1 : ([.obj 3 [.ref 1, .ref 5, .ref 7, .ref 8], .obj 0 [.ref 2, .ref 3, .ref 4], .lst [], .dic [] [], .dic [] [], .obj 2 [.ref 6], .lst [], .dic [] [], .lst []] : Store) ++ [.lst []] = [.obj 3 [.ref 1, .ref 5, .ref 7, .ref 8], .obj 0 [.ref 2, .ref 3, .ref 4], .lst [], .dic [] [], .dic [] [], .obj 2 [.ref 6], .lst [], .dic [] [], .lst [], .lst []] := rfl
  have l4 : ([.obj 3 [.ref 1, .ref 5, .ref 7, .ref 8], .obj 0 [.ref 2, .ref 3, .ref 4], .lst [], .dic [] [], .dic [] [], .obj 2 [.ref 6], .lst [], .dic [] [], .lst []] : Store).length = 9 := rfl
  generalize ([.obj 3 [.ref 1, .ref 5, .ref 7, .ref 8], .obj 0 [.ref 2, .ref 3, .ref 4], .lst [], .dic [] [], .dic [] [], .obj 2 [.ref 6], .lst [], .dic [] [], .lst [], .lst []] : Store) = B2 at *
  generalize ([.obj 3 [.ref 1, .ref 5, .ref 7, .ref 8], .obj 0 [.ref 2, .ref 3, .ref 4], .lst [], .dic [] [], .dic [] [], .obj 2 [.ref 6], .lst [], .dic [] [], .lst []] : Store) = B1 at *
  have pick : ∀ (L : Ev.Loc) (S : Store), L[1]? = some (some (.d (.int seed))) → pickE L S = .ok (.d g.d) S := fun L S hL => by
    unfold pickE
    repeat (first | walk_at "ev" | simp only [hL, f4, f5, g5])
  have main : ∀ full : Bool, ∃ S',
      (sSeq (sFor (iR1 (eV 3)) (gN 6) (repB (run 200 49)))
      (sSeq (sAsg pickE (gN 8))
      (sSeq (sFor (iL (eLst (aC (eC (.bl true)) (aC (eC (.bl false)) aN)))) (gN 9) (askB (run 200 62)))
      (sSeq (sIf (bE (eOp2 eqD' (eV 3) (eC (.int 20)))) (sEx (eAppend (eV 5) (eV 8))) sNx)
      (endB (run 200 52) (run 200 54))))))
      [some (.d (.scr ns)), some (.d (.int seed)), c2, some (.d (.int (if full = true then 100 else 20))), some (.ref 0), some (.ref 9), none, none, none, none] B2 = .rt (.d (.bl true)) S' := fun full => by
    obtain ⟨m, hm, hm2⟩ : ∃ m : Nat, m ≤ 100 ∧ (if full = true then (100 : Int) else 20) = (m : Int) ∧ m = if full = true then 100 else 20 := by
      cases full
      · exact ⟨20, by decide, rfl, rfl⟩
      · exact ⟨100, by decide, rfl, rfl⟩
    obtain ⟨hm2, hm3⟩ := hm2
    obtain ⟨S1, b1, n1, n2, n3, es, x6, x7, k1, k2, k3, e2⟩ := h_loop (s0 := some (.d (.scr ns))) (c0 := c2) (m0 := some (.d (.int (if full = true then 100 else 20)))) (seed := seed) (x8 := none) (x9 := none) m 0 B2 1 2 3 4 [] none none (by omega) H0 rfl (fun e he => nomatch he)
    rw [show (((0 : Nat)) : Int) = 0 from rfl] at e2
    have e2 : forL (gN 6) (repB (run 200 49)) (rng 0 m) [some (.d (.scr ns)), some (.d (.int seed)), c2, some (.d (.int (if full = true then 100 else 20))), some (.ref 0), some (.ref 9), none, none, none, none] B2 = .nx [some (.d (.scr ns)), some (.d (.int seed)), c2, some (.d (.int (if full = true then 100 else 20))), some (.ref 0), some (.ref 9), x6, x7, none, none] S1 := e2
    have ir : iR1 (eV 3) [some (.d (.scr ns)), some (.d (.int seed)), c2, some (.d (.int (if full = true then 100 else 20))), some (.ref 0), some (.ref 9), none, none, none, none] B2 = .ok (rng 0 m) B2 := iR1_nat (by rw [hm2]; repeat (first | walk_at "ev" | simp only [])) (by omega)
    have hlen : es.length = if full = true then 100 else 20 := by omega
    have hd : dueG es g = if full = true then .no else .ok := by
      cases full
      · rw [if_neg (by decide)] at hlen ⊢
        exact g4 es k3 hlen
      · rw [if_pos rfl] at hlen ⊢
        exact full_due hlen
    obtain ⟨S2, k4, e3⟩ := ask_step k1 g1 g2 full (by omega) hd (a0 := some (.d (.scr ns))) (a1 := some (.d (.int seed))) (a2 := c2) (a6 := x6) (a7 := x7) (a9 := none)
    have pk := pick [some (.d (.scr ns)), some (.d (.int seed)), c2, some (.d (.int (if full = true then 100 else 20))), some (.ref 0), some (.ref 9), x6, x7, none, none] S1 rfl
    generalize repB (run 200 49) = RB at *
    generalize askB (run 200 62) = AB at *
    generalize pickE = PB at *
    cases full with
    | true =>
      rw [if_pos rfl] at k4
      obtain ⟨b', n1', n2', n3', k4⟩ := k4
      obtain ⟨S3, e4⟩ := end_step k4 k3.gd (by omega) (a0 := some (.d (.scr ns))) (a1 := some (.d (.int seed))) (a2 := c2) (a3 := some (.d (.int 100))) (a6 := x6) (a7 := x7) (a8 := some (.d g.d)) (a9 := some (.d (.bl false)))
      have q1 : eqD' (.int 100) (.int 20) = some (.bl false) := rfl
      simp only [if_true] at ir e2 pk e3 ⊢
      refine ⟨S3, ?_⟩
      generalize endB (run 200 52) (run 200 54) = EB at *
      generalize iR1 (eV 3) = IR at *
      repeat (first | walk_at "ev" | simp only [ir, e2, pk, e3, q1, e4])
    | false =>
      rw [if_neg (by decide)] at k4
      obtain ⟨b', n1', n2', n3', k4, d9⟩ := k4
      have ge1 : Gds 2 (el (es ++ [g.en])) := by
        rw [show el (es ++ [g.en]) = el es ++ [g.en.d] from List.map_append, g2]
        exact k3.gd.app (.cons g3 .nil)
      obtain ⟨S3, e4⟩ := end_step k4 ge1 (by rw [List.length_append, List.length_singleton]; omega) (a0 := some (.d (.scr ns))) (a1 := some (.d (.int seed))) (a2 := c2) (a3 := some (.d (.int 20))) (a6 := x6) (a7 := x7) (a8 := some (.d g.d)) (a9 := some (.d (.bl false)))
      have q1 : eqD' (.int 20) (.int 20) = some (.bl true) := rfl
      have zz : (el es).length < sizeLine := by
        rw [List.length_map]
        exact Nat.lt_of_lt_of_le (m := 1000000) (by omega) (small (Nat.le_refl _))
      simp only [Bool.false_eq_true, if_false] at ir e2 pk e3 ⊢
      refine ⟨S3, ?_⟩
      generalize endB (run 200 52) (run 200 54) = EB at *
      generalize iR1 (eV 3) = IR at *
      repeat (first | walk_at "ev" | simp only [ir, e2, pk, e3, q1, d9, zz, e4])
  rw [run63]
  rw [b_law]
  generalize seedB = SB at *
  generalize (sSeq (sFor (iR1 (eV 3)) (gN 6) (repB (run 200 49)))
      (sSeq (sAsg pickE (gN 8))
      (sSeq (sFor (iL (eLst (aC (eC (.bl true)) (aC (eC (.bl false)) aN)))) (gN 9) (askB (run 200 62)))
      (sSeq (sIf (bE (eOp2 eqD' (eV 3) (eC (.int 20)))) (sEx (eAppend (eV 5) (eV 8))) sNx)
      (endB (run 200 52) (run 200 54)))))) = MB at main ⊢
  by_cases c5 : seed / 5 % 6 = 1
  · have d5 := decide_eq_true c5
    obtain ⟨S', e5⟩ := main true
    simp only [if_true] at e5
    refine ⟨S', ?_⟩
    repeat (first | walk_at "ev" | simp only [e1, f1, f2, f3, d5, nq, i3, l4, p1, e5])
  · have d5 := decide_eq_false c5
    obtain ⟨S', e5⟩ := main false
    simp only [Bool.false_eq_true, if_false] at e5
    refine ⟨S', ?_⟩
    repeat (first | walk_at "ev" | simp only [e1, f1, f2, f3, d5, nq, i3, l4, p1, e5])
theorem law_end (ns : List Int) (_ : ns.length ≤ 63) : ∃ S', run 201 63 [.d (.scr ns)] [] = .ok (.d (.bl true)) S' := law_true ns
end K31
set_option linter.all false
set_option Elab.async false
set_option maxRecDepth 100000
set_option maxHeartbeats 4000000
/-! ### the end -/
namespace K31
open PySem L2 PySem.Spec Ev
theorem all_mk {l : PySem.W.OpenLaw} {w : World} {K : PySem.W.Frag} {h : Heap} {mg : Str → Option Value} {fa : Addr} (X : K.In h) (G : h.Ns mainGlobals mg) (hfa : mg "law" = some (.ref fa))
    {t_DAYS : Tok} {t_DIGITS : Tok} {t_LARGEST_NUMBER : Tok} {t_LETTERS : Tok} {t_LONGEST_NAME : Tok} {t_LONGEST_NUMBER : Tok} {t_MOST_DEEDS : Tok} {t_MOST_ENTRIES : Tok} {t_MOST_PERCENT : Tok} {t_MOST_WORDS : Tok} {C0 : Addr} {C1 : Addr} {C2 : Addr} {C3 : Addr} {X0 : Addr} {X1 : Addr} {X2 : Addr} {X3 : Addr} {X4 : Addr} {xnm1 xq1 : Str} {xN1 : Addr} {xbs1 xbm1 xsu1 : List Value} {xsn1 : List Str} {xab1 : Bool} {xco1 : Option Bool} {xdd1 : Option Addr} {xk01 xk11 xk21 xk31 xk51 : Option Value} {xnm4 xq4 : Str} {xN4 : Addr} {xbs4 xbm4 xsu4 : List Value} {xsn4 : List Str} {xab4 : Bool} {xco4 : Option Bool} {xdd4 : Option Addr} {xk04 xk14 xk24 xk34 xk54 : Option Value} {f0 : Addr} {od0 an0 : Option Addr} {sl0 : Array (Option Value)} {oc0 kV0 dc0 pm0 cd0 ct0 : Value} {f1 : Addr} {od1 an1 : Option Addr} {sl1 : Array (Option Value)} {oc1 kV1 dc1 pm1 cd1 ct1 : Value} {f2 : Addr} {od2 an2 : Option Addr} {sl2 : Array (Option Value)} {oc2 kV2 dc2 pm2 cd2 ct2 : Value} {f3 : Addr} {od3 an3 : Option Addr} {sl3 : Array (Option Value)} {oc3 kV3 dc3 pm3 cd3 ct3 : Value} {f4 : Addr} {od4 an4 : Option Addr} {sl4 : Array (Option Value)} {oc4 kV4 dc4 pm4 cd4 ct4 : Value} {f5 : Addr} {od5 an5 : Option Addr} {sl5 : Array (Option Value)} {oc5 kV5 dc5 pm5 cd5 ct5 : Value} {f6 : Addr} {od6 an6 : Option Addr} {sl6 : Array (Option Value)} {oc6 kV6 dc6 pm6 cd6 ct6 : Value} {f7 : Addr} {od7 an7 : Option Addr} {sl7 : Array (Option Value)} {oc7 kV7 dc7 pm7 cd7 ct7 : Value} {f8 : Addr} {od8 an8 : Option Addr} {sl8 : Array (Option Value)} {oc8 kV8 dc8 pm8 cd8 ct8 : Value} {f9 : Addr} {od9 an9 : Option Addr} {sl9 : Array (Option Value)} {oc9 kV9 dc9 pm9 cd9 ct9 : Value} {f10 : Addr} {od10 an10 : Option Addr} {sl10 : Array (Option Value)} {oc10 kV10 dc10 pm10 cd10 ct10 : Value} {f11 : Addr} {od11 an11 : Option Addr} {sl11 : Array (Option Value)} {oc11 kV11 dc11 pm11 cd11 ct11 : Value} {f12 : Addr} {od12 an12 : Option Addr} {sl12 : Array (Option Value)} {oc12 kV12 dc12 pm12 cd12 ct12 : Value} {f13 : Addr} {od13 an13 : Option Addr} {sl13 : Array (Option Value)} {oc13 kV13 dc13 pm13 cd13 ct13 : Value} {f14 : Addr} {od14 an14 : Option Addr} {sl14 : Array (Option Value)} {oc14 kV14 dc14 pm14 cd14 ct14 : Value} {f15 : Addr} {od15 an15 : Option Addr} {sl15 : Array (Option Value)} {oc15 kV15 dc15 pm15 cd15 ct15 : Value} {f16 : Addr} {od16 an16 : Option Addr} {sl16 : Array (Option Value)} {oc16 kV16 dc16 pm16 cd16 ct16 : Value} {f17 : Addr} {od17 an17 : Option Addr} {sl17 : Array (Option Value)} {oc17 kV17 dc17 pm17 cd17 ct17 : Value} {f18 : Addr} {od18 an18 : Option Addr} {sl18 : Array (Option Value)} {oc18 kV18 dc18 pm18 cd18 ct18 : Value} {f19 : Addr} {od19 an19 : Option Addr} {sl19 : Array (Option Value)} {oc19 kV19 dc19 pm19 cd19 ct19 : Value} {f20 : Addr} {od20 an20 : Option Addr} {sl20 : Array (Option Value)} {oc20 kV20 dc20 pm20 cd20 ct20 : Value} {f21 : Addr} {od21 an21 : Option Addr} {sl21 : Array (Option Value)} {oc21 kV21 dc21 pm21 cd21 ct21 : Value} {f22 : Addr} {od22 an22 : Option Addr} {sl22 : Array (Option Value)} {oc22 kV22 dc22 pm22 cd22 ct22 : Value} {f23 : Addr} {od23 an23 : Option Addr} {sl23 : Array (Option Value)} {oc23 kV23 dc23 pm23 cd23 ct23 : Value} {f24 : Addr} {od24 an24 : Option Addr} {sl24 : Array (Option Value)} {oc24 kV24 dc24 pm24 cd24 ct24 : Value} {f25 : Addr} {od25 an25 : Option Addr} {sl25 : Array (Option Value)} {oc25 kV25 dc25 pm25 cd25 ct25 : Value} {f26 : Addr} {od26 an26 : Option Addr} {sl26 : Array (Option Value)} {oc26 kV26 dc26 pm26 cd26 ct26 : Value} {f27 : Addr} {od27 an27 : Option Addr} {sl27 : Array (Option Value)} {oc27 kV27 dc27 pm27 cd27 ct27 : Value} {f28 : Addr} {od28 an28 : Option Addr} {sl28 : Array (Option Value)} {oc28 kV28 dc28 pm28 cd28 ct28 : Value} {f29 : Addr} {od29 an29 : Option Addr} {sl29 : Array (Option Value)} {oc29 kV29 dc29 pm29 cd29 ct29 : Value} {f30 : Addr} {od30 an30 : Option Addr} {sl30 : Array (Option Value)} {oc30 kV30 dc30 pm30 cd30 ct30 : Value} {f31 : Addr} {od31 an31 : Option Addr} {sl31 : Array (Option Value)} {oc31 kV31 dc31 pm31 cd31 ct31 : Value} {f32 : Addr} {od32 an32 : Option Addr} {sl32 : Array (Option Value)} {oc32 kV32 dc32 pm32 cd32 ct32 : Value} {f33 : Addr} {od33 an33 : Option Addr} {sl33 : Array (Option Value)} {oc33 kV33 dc33 pm33 cd33 ct33 : Value} {f34 : Addr} {od34 an34 : Option Addr} {sl34 : Array (Option Value)} {oc34 kV34 dc34 pm34 cd34 ct34 : Value} {f35 : Addr} {od35 an35 : Option Addr} {sl35 : Array (Option Value)} {oc35 kV35 dc35 pm35 cd35 ct35 : Value} {f36 : Addr} {od36 an36 : Option Addr} {sl36 : Array (Option Value)} {oc36 kV36 dc36 pm36 cd36 ct36 : Value} {f37 : Addr} {od37 an37 : Option Addr} {sl37 : Array (Option Value)} {oc37 kV37 dc37 pm37 cd37 ct37 : Value} {f38 : Addr} {od38 an38 : Option Addr} {sl38 : Array (Option Value)} {oc38 kV38 dc38 pm38 cd38 ct38 : Value} {f39 : Addr} {od39 an39 : Option Addr} {sl39 : Array (Option Value)} {oc39 kV39 dc39 pm39 cd39 ct39 : Value} {f40 : Addr} {od40 an40 : Option Addr} {sl40 : Array (Option Value)} {oc40 kV40 dc40 pm40 cd40 ct40 : Value} {f41 : Addr} {od41 an41 : Option Addr} {sl41 : Array (Option Value)} {oc41 kV41 dc41 pm41 cd41 ct41 : Value} {f42 : Addr} {od42 an42 : Option Addr} {sl42 : Array (Option Value)} {oc42 kV42 dc42 pm42 cd42 ct42 : Value} {f43 : Addr} {od43 an43 : Option Addr} {sl43 : Array (Option Value)} {oc43 kV43 dc43 pm43 cd43 ct43 : Value} {f44 : Addr} {od44 an44 : Option Addr} {sl44 : Array (Option Value)} {oc44 kV44 dc44 pm44 cd44 ct44 : Value} {f45 : Addr} {od45 an45 : Option Addr} {sl45 : Array (Option Value)} {oc45 kV45 dc45 pm45 cd45 ct45 : Value} {f46 : Addr} {od46 an46 : Option Addr} {sl46 : Array (Option Value)} {oc46 kV46 dc46 pm46 cd46 ct46 : Value} {f47 : Addr} {od47 an47 : Option Addr} {sl47 : Array (Option Value)} {oc47 kV47 dc47 pm47 cd47 ct47 : Value} {f48 : Addr} {od48 an48 : Option Addr} {sl48 : Array (Option Value)} {oc48 kV48 dc48 pm48 cd48 ct48 : Value} {f49 : Addr} {od49 an49 : Option Addr} {sl49 : Array (Option Value)} {oc49 kV49 dc49 pm49 cd49 ct49 : Value} {f50 : Addr} {od50 an50 : Option Addr} {sl50 : Array (Option Value)} {oc50 kV50 dc50 pm50 cd50 ct50 : Value} {f51 : Addr} {od51 an51 : Option Addr} {sl51 : Array (Option Value)} {oc51 kV51 dc51 pm51 cd51 ct51 : Value} {f52 : Addr} {od52 an52 : Option Addr} {sl52 : Array (Option Value)} {oc52 kV52 dc52 pm52 cd52 ct52 : Value} {f53 : Addr} {od53 an53 : Option Addr} {sl53 : Array (Option Value)} {oc53 kV53 dc53 pm53 cd53 ct53 : Value} {f54 : Addr} {od54 an54 : Option Addr} {sl54 : Array (Option Value)} {oc54 kV54 dc54 pm54 cd54 ct54 : Value} {f55 : Addr} {od55 an55 : Option Addr} {sl55 : Array (Option Value)} {oc55 kV55 dc55 pm55 cd55 ct55 : Value} {f56 : Addr} {od56 an56 : Option Addr} {sl56 : Array (Option Value)} {oc56 kV56 dc56 pm56 cd56 ct56 : Value} {f57 : Addr} {od57 an57 : Option Addr} {sl57 : Array (Option Value)} {oc57 kV57 dc57 pm57 cd57 ct57 : Value} {f58 : Addr} {od58 an58 : Option Addr} {sl58 : Array (Option Value)} {oc58 kV58 dc58 pm58 cd58 ct58 : Value} {f59 : Addr} {od59 an59 : Option Addr} {sl59 : Array (Option Value)} {oc59 kV59 dc59 pm59 cd59 ct59 : Value} {f60 : Addr} {od60 an60 : Option Addr} {sl60 : Array (Option Value)} {oc60 kV60 dc60 pm60 cd60 ct60 : Value} {f61 : Addr} {od61 an61 : Option Addr} {sl61 : Array (Option Value)} {oc61 kV61 dc61 pm61 cd61 ct61 : Value} {f62 : Addr} {od62 an62 : Option Addr} {sl62 : Array (Option Value)} {oc62 kV62 dc62 pm62 cd62 ct62 : Value} {f63 : Addr} {od63 an63 : Option Addr} {sl63 : Array (Option Value)} {oc63 kV63 dc63 pm63 cd63 ct63 : Value}
    (z_all : PySem.W.nsIn K mainGlobals "all" = some none)
    (z_dict : PySem.W.nsIn K mainGlobals "dict" = some none)
    (z_int : PySem.W.nsIn K mainGlobals "int" = some none)
    (z_isinstance : PySem.W.nsIn K mainGlobals "isinstance" = some none)
    (z_len : PySem.W.nsIn K mainGlobals "len" = some none)
    (z_list : PySem.W.nsIn K mainGlobals "list" = some none)
    (z_range : PySem.W.nsIn K mainGlobals "range" = some none)
    (z_tuple : PySem.W.nsIn K mainGlobals "tuple" = some none)
    (k_AMOUNTS : ∃ d, PySem.W.nsIn K mainGlobals "AMOUNTS" = some (some (.ref d)) ∧ KD K w d kAMOUNTS)
    (k_CONDITIONS : ∃ d, PySem.W.nsIn K mainGlobals "CONDITIONS" = some (some (.ref d)) ∧ KD K w d kCONDITIONS)
    (g_DAYS : PySem.W.nsIn K mainGlobals "DAYS" = some (some (.int 10000 t_DAYS)))
    (g_DIGITS : PySem.W.nsIn K mainGlobals "DIGITS" = some (some (.str "0123456789" t_DIGITS)))
    (g_LARGEST_NUMBER : PySem.W.nsIn K mainGlobals "LARGEST_NUMBER" = some (some (.int 999999999 t_LARGEST_NUMBER)))
    (g_LETTERS : PySem.W.nsIn K mainGlobals "LETTERS" = some (some (.str "abcdefghijklmnopqrstuvwxyz" t_LETTERS)))
    (g_LONGEST_NAME : PySem.W.nsIn K mainGlobals "LONGEST_NAME" = some (some (.int 12 t_LONGEST_NAME)))
    (g_LONGEST_NUMBER : PySem.W.nsIn K mainGlobals "LONGEST_NUMBER" = some (some (.int 9 t_LONGEST_NUMBER)))
    (g_MOST_DEEDS : PySem.W.nsIn K mainGlobals "MOST_DEEDS" = some (some (.int 150 t_MOST_DEEDS)))
    (g_MOST_ENTRIES : PySem.W.nsIn K mainGlobals "MOST_ENTRIES" = some (some (.int 100 t_MOST_ENTRIES)))
    (g_MOST_PERCENT : PySem.W.nsIn K mainGlobals "MOST_PERCENT" = some (some (.int 1000 t_MOST_PERCENT)))
    (g_MOST_WORDS : PySem.W.nsIn K mainGlobals "MOST_WORDS" = some (some (.int 40 t_MOST_WORDS)))
    (k_RESERVED : ∃ d, PySem.W.nsIn K mainGlobals "RESERVED" = some (some (.ref d)) ∧ Always K dRESERVED (.ref d))
    (aC0 : PySem.W.nsIn K mainGlobals "Book" = some (some (.ref C0)))
    (pg0 : PySem.W.plainGet K C0 Str.empty = true)
    (hd0 : PySem.W.hasDictIn K C0 = true)
    (po0 : PySem.W.plainOver K C0 = true)
    (sa0 : PySem.W.findIn K (.ref C0) "__setattr__" = some (some (.builtin "object.__setattr__")))
    (mk0 : PySem.W.makesIn K C0 = true)
    (kc0 : PySem.W.keepIn K (.ref C0) = true)
    (na0_0 : PySem.W.findIn K (.ref C0) "_entries" = some none)
    (na0_1 : PySem.W.findIn K (.ref C0) "_struck" = some none)
    (na0_2 : PySem.W.findIn K (.ref C0) "_amounts" = some none)
    (aC1 : PySem.W.nsIn K mainGlobals "Reading" = some (some (.ref C1)))
    (pg1 : PySem.W.plainGet K C1 Str.empty = true)
    (hd1 : PySem.W.hasDictIn K C1 = true)
    (po1 : PySem.W.plainOver K C1 = true)
    (sa1 : PySem.W.findIn K (.ref C1) "__setattr__" = some (some (.builtin "object.__setattr__")))
    (mk1 : PySem.W.makesIn K C1 = true)
    (kc1 : PySem.W.keepIn K (.ref C1) = true)
    (na1_0 : PySem.W.findIn K (.ref C1) "_book" = some none)
    (na1_1 : PySem.W.findIn K (.ref C1) "_person" = some none)
    (na1_2 : PySem.W.findIn K (.ref C1) "_day" = some none)
    (na1_3 : PySem.W.findIn K (.ref C1) "_known" = some none)
    (na1_4 : PySem.W.findIn K (.ref C1) "_rules" = some none)
    (na1_5 : PySem.W.findIn K (.ref C1) "dossier" = some none)
    (aC2 : PySem.W.nsIn K mainGlobals "Ledger" = some (some (.ref C2)))
    (pg2 : PySem.W.plainGet K C2 Str.empty = true)
    (hd2 : PySem.W.hasDictIn K C2 = true)
    (po2 : PySem.W.plainOver K C2 = true)
    (sa2 : PySem.W.findIn K (.ref C2) "__setattr__" = some (some (.builtin "object.__setattr__")))
    (mk2 : PySem.W.makesIn K C2 = true)
    (kc2 : PySem.W.keepIn K (.ref C2) = true)
    (na2_0 : PySem.W.findIn K (.ref C2) "_payments" = some none)
    (aC3 : PySem.W.nsIn K mainGlobals "Desk" = some (some (.ref C3)))
    (pg3 : PySem.W.plainGet K C3 Str.empty = true)
    (hd3 : PySem.W.hasDictIn K C3 = true)
    (po3 : PySem.W.plainOver K C3 = true)
    (sa3 : PySem.W.findIn K (.ref C3) "__setattr__" = some (some (.builtin "object.__setattr__")))
    (mk3 : PySem.W.makesIn K C3 = true)
    (kc3 : PySem.W.keepIn K (.ref C3) = true)
    (na3_0 : PySem.W.findIn K (.ref C3) "_book" = some none)
    (na3_1 : PySem.W.findIn K (.ref C3) "_ledger" = some none)
    (na3_2 : PySem.W.findIn K (.ref C3) "_claims" = some none)
    (na3_3 : PySem.W.findIn K (.ref C3) "_journal" = some none)
    (xhn : PySem.W.specialIn K (.builtin "object.__class__") "__get__" = some (some (.builtin "getset_descriptor.__get__")))
    (xht : PySem.W.takesIn K (.builtin "object.__class__") = some true)
    (gx0 : PySem.W.nsIn K mainGlobals "WritError" = some (some (.ref X0)))
    (xga0 : PySem.W.findIn K (.ref X0) "__getattribute__" = some (some (.builtin "BaseException.__getattribute__")))
    (xgt0 : PySem.W.findIn K (.ref X0) "__getattr__" = some none)
    (xsb0 : PySem.W.subIn K (.ref X0) (.type "BaseException") = some true)
    (xhd0 : PySem.W.hasDictIn K X0 = true)
    (xca0 : PySem.W.findIn K (.ref X0) "__class__" = some (some (.builtin "object.__class__")))
    (xmr0 : PySem.W.mroIn K X0 (.type "object") = some true)
    (xty0 : PySem.W.typeIn K (.ref X0) = some (.type "type"))
    (xkp0 : PySem.W.keepIn K (.ref X0) = true)
    (xno0_at : PySem.W.findIn K (.ref X0) "at" = some none)
    (gx1 : PySem.W.nsIn K mainGlobals "BadText" = some (some (.ref X1)))
    (xga1 : PySem.W.findIn K (.ref X1) "__getattribute__" = some (some (.builtin "BaseException.__getattribute__")))
    (xgt1 : PySem.W.findIn K (.ref X1) "__getattr__" = some none)
    (xsb1 : PySem.W.subIn K (.ref X1) (.type "BaseException") = some true)
    (xhd1 : PySem.W.hasDictIn K X1 = true)
    (xca1 : PySem.W.findIn K (.ref X1) "__class__" = some (some (.builtin "object.__class__")))
    (xmr1 : PySem.W.mroIn K X1 (.type "object") = some true)
    (xty1 : PySem.W.typeIn K (.ref X1) = some (.type "type"))
    (xkp1 : PySem.W.keepIn K (.ref X1) = true)
    (xno1_at : PySem.W.findIn K (.ref X1) "at" = some none)
    (gx2 : PySem.W.nsIn K mainGlobals "NotAllowed" = some (some (.ref X2)))
    (xga2 : PySem.W.findIn K (.ref X2) "__getattribute__" = some (some (.builtin "BaseException.__getattribute__")))
    (xgt2 : PySem.W.findIn K (.ref X2) "__getattr__" = some none)
    (xsb2 : PySem.W.subIn K (.ref X2) (.type "BaseException") = some true)
    (xhd2 : PySem.W.hasDictIn K X2 = true)
    (xca2 : PySem.W.findIn K (.ref X2) "__class__" = some (some (.builtin "object.__class__")))
    (xmr2 : PySem.W.mroIn K X2 (.type "object") = some true)
    (xty2 : PySem.W.typeIn K (.ref X2) = some (.type "type"))
    (xkp2 : PySem.W.keepIn K (.ref X2) = true)
    (xno2_at : PySem.W.findIn K (.ref X2) "at" = some none)
    (xxc2 : PySem.W.excIn K X2 [.type "ValueError", .type "Exception", .type "BaseException", .type "object"] "ValueError.__new__" = true)
    (gx3 : PySem.W.nsIn K mainGlobals "UnknownName" = some (some (.ref X3)))
    (xga3 : PySem.W.findIn K (.ref X3) "__getattribute__" = some (some (.builtin "BaseException.__getattribute__")))
    (xgt3 : PySem.W.findIn K (.ref X3) "__getattr__" = some none)
    (xsb3 : PySem.W.subIn K (.ref X3) (.type "BaseException") = some true)
    (xhd3 : PySem.W.hasDictIn K X3 = true)
    (xca3 : PySem.W.findIn K (.ref X3) "__class__" = some (some (.builtin "object.__class__")))
    (xmr3 : PySem.W.mroIn K X3 (.type "object") = some true)
    (xty3 : PySem.W.typeIn K (.ref X3) = some (.type "type"))
    (xkp3 : PySem.W.keepIn K (.ref X3) = true)
    (xno3_at : PySem.W.findIn K (.ref X3) "at" = some none)
    (gx4 : PySem.W.nsIn K mainGlobals "Stop" = some (some (.ref X4)))
    (xga4 : PySem.W.findIn K (.ref X4) "__getattribute__" = some (some (.builtin "BaseException.__getattribute__")))
    (xgt4 : PySem.W.findIn K (.ref X4) "__getattr__" = some none)
    (xsb4 : PySem.W.subIn K (.ref X4) (.type "BaseException") = some true)
    (xhd4 : PySem.W.hasDictIn K X4 = true)
    (xca4 : PySem.W.findIn K (.ref X4) "__class__" = some (some (.builtin "object.__class__")))
    (xmr4 : PySem.W.mroIn K X4 (.type "object") = some true)
    (xty4 : PySem.W.typeIn K (.ref X4) = some (.type "type"))
    (xkp4 : PySem.W.keepIn K (.ref X4) = true)
    (xno4_at : PySem.W.findIn K (.ref X4) "at" = some none)
    (xlk1 : K.lookup X1 = some (excClassObj xnm1 xq1 X1 xN1 xbs1 xbm1 true xsn1 xsu1 xab1 xco1 xdd1 xk01 xk11 xk21 xk31 xk51 "ValueError.__new__"))
    (xrf1 : PySem.HandSPX.refsVE xbm1 = true)
    (xsa1 : PySem.W.findIn K (.ref X1) "__setattr__" = some (some (.builtin "object.__setattr__")))
    (xlk4 : K.lookup X4 = some (excClassObj xnm4 xq4 X4 xN4 xbs4 xbm4 true xsn4 xsu4 xab4 xco4 xdd4 xk04 xk14 xk24 xk34 xk54 "ValueError.__new__"))
    (xrf4 : PySem.HandSPX.refsVE xbm4 = true)
    (xsa4 : PySem.W.findIn K (.ref X4) "__setattr__" = some (some (.builtin "object.__setattr__")))
    (xbg0 : PySem.W.specialIn K (.ref X0) "__getattribute__" = some (some (.builtin "type.__getattribute__")))
    (xbr0 : PySem.W.readsIn K X0 (.type "type") = true)
    (xbf0 : PySem.W.findCls K (.ref X0) (.type "type") "__init__" = some (.val (.builtin "ValueError.__init__")))
    (xs0_BadText : PySem.W.subIn K (.ref X0) (.ref X1) = some false)
    (xn0_BadText : (Value.ref X0 == Value.ref X1) = false)
    (xs1_BadText : PySem.W.subIn K (.ref X1) (.ref X1) = some true)
    (xs2_BadText : PySem.W.subIn K (.ref X2) (.ref X1) = some false)
    (xn2_BadText : (Value.ref X2 == Value.ref X1) = false)
    (xs3_BadText : PySem.W.subIn K (.ref X3) (.ref X1) = some false)
    (xn3_BadText : (Value.ref X3 == Value.ref X1) = false)
    (xs4_BadText : PySem.W.subIn K (.ref X4) (.ref X1) = some false)
    (xn4_BadText : (Value.ref X4 == Value.ref X1) = false)
    (xs0_NotAllowed : PySem.W.subIn K (.ref X0) (.ref X2) = some false)
    (xn0_NotAllowed : (Value.ref X0 == Value.ref X2) = false)
    (xs1_NotAllowed : PySem.W.subIn K (.ref X1) (.ref X2) = some false)
    (xn1_NotAllowed : (Value.ref X1 == Value.ref X2) = false)
    (xs2_NotAllowed : PySem.W.subIn K (.ref X2) (.ref X2) = some true)
    (xs3_NotAllowed : PySem.W.subIn K (.ref X3) (.ref X2) = some false)
    (xn3_NotAllowed : (Value.ref X3 == Value.ref X2) = false)
    (xs4_NotAllowed : PySem.W.subIn K (.ref X4) (.ref X2) = some false)
    (xn4_NotAllowed : (Value.ref X4 == Value.ref X2) = false)
    (xs0_UnknownName : PySem.W.subIn K (.ref X0) (.ref X3) = some false)
    (xn0_UnknownName : (Value.ref X0 == Value.ref X3) = false)
    (xs1_UnknownName : PySem.W.subIn K (.ref X1) (.ref X3) = some false)
    (xn1_UnknownName : (Value.ref X1 == Value.ref X3) = false)
    (xs2_UnknownName : PySem.W.subIn K (.ref X2) (.ref X3) = some false)
    (xn2_UnknownName : (Value.ref X2 == Value.ref X3) = false)
    (xs3_UnknownName : PySem.W.subIn K (.ref X3) (.ref X3) = some true)
    (xs4_UnknownName : PySem.W.subIn K (.ref X4) (.ref X3) = some false)
    (xn4_UnknownName : (Value.ref X4 == Value.ref X3) = false)
    (xs0_WritError : PySem.W.subIn K (.ref X0) (.ref X0) = some true)
    (xs1_WritError : PySem.W.subIn K (.ref X1) (.ref X0) = some true)
    (xs2_WritError : PySem.W.subIn K (.ref X2) (.ref X0) = some true)
    (xs3_WritError : PySem.W.subIn K (.ref X3) (.ref X0) = some true)
    (xs4_WritError : PySem.W.subIn K (.ref X4) (.ref X0) = some true)
    (xii1 : PySem.W.findIn K (.ref X1) "__init__" = some (some (.ref f0)))
    (xti1 : PySem.W.typeIn K (.ref f0) = some (.type "function"))
    (l0 : K.lookup f0 = some ⟨oc0, od0, .func (PySem.W.fnOf "__init__" "BadText.__init__" (defArgs s0) (defBody s0) (defScope s0) .none kV0 dc0 pm0 an0 cd0 ct0), sl0⟩)
    (c0 : PySem.W.codeIn K cd0 "BadText.__init__" = true)
    (k0 : PySem.W.keepIn K (.ref f0) = true)
    (a1 : PySem.W.nsIn K mainGlobals "is_name" = some (some (.ref f1)))
    (l1 : K.lookup f1 = some ⟨oc1, od1, .func (PySem.W.fnOf "is_name" "is_name" (defArgs s1) (defBody s1) (defScope s1) .none kV1 dc1 pm1 an1 cd1 ct1), sl1⟩)
    (c1 : PySem.W.codeIn K cd1 "is_name" = true)
    (k1 : PySem.W.keepIn K (.ref f1) = true)
    (a2 : PySem.W.nsIn K mainGlobals "is_day" = some (some (.ref f2)))
    (l2 : K.lookup f2 = some ⟨oc2, od2, .func (PySem.W.fnOf "is_day" "is_day" (defArgs s2) (defBody s2) (defScope s2) .none kV2 dc2 pm2 an2 cd2 ct2), sl2⟩)
    (c2 : PySem.W.codeIn K cd2 "is_day" = true)
    (k2 : PySem.W.keepIn K (.ref f2) = true)
    (a3 : PySem.W.nsIn K mainGlobals "is_span" = some (some (.ref f3)))
    (l3 : K.lookup f3 = some ⟨oc3, od3, .func (PySem.W.fnOf "is_span" "is_span" (defArgs s3) (defBody s3) (defScope s3) .none kV3 dc3 pm3 an3 cd3 ct3), sl3⟩)
    (c3 : PySem.W.codeIn K cd3 "is_span" = true)
    (k3 : PySem.W.keepIn K (.ref f3) = true)
    (a4 : PySem.W.nsIn K mainGlobals "is_value" = some (some (.ref f4)))
    (l4 : K.lookup f4 = some ⟨oc4, od4, .func (PySem.W.fnOf "is_value" "is_value" (defArgs s4) (defBody s4) (defScope s4) .none kV4 dc4 pm4 an4 cd4 ct4), sl4⟩)
    (c4 : PySem.W.codeIn K cd4 "is_value" = true)
    (k4 : PySem.W.keepIn K (.ref f4) = true)
    (a5 : PySem.W.nsIn K mainGlobals "is_number" = some (some (.ref f5)))
    (l5 : K.lookup f5 = some ⟨oc5, od5, .func (PySem.W.fnOf "is_number" "is_number" (defArgs s5) (defBody s5) (defScope s5) .none kV5 dc5 pm5 an5 cd5 ct5), sl5⟩)
    (c5 : PySem.W.codeIn K cd5 "is_number" = true)
    (k5 : PySem.W.keepIn K (.ref f5) = true)
    (a6 : PySem.W.nsIn K mainGlobals "parse_amount" = some (some (.ref f6)))
    (l6 : K.lookup f6 = some ⟨oc6, od6, .func (PySem.W.fnOf "parse_amount" "parse_amount" (defArgs s6) (defBody s6) (defScope s6) .none kV6 dc6 pm6 an6 cd6 ct6), sl6⟩)
    (c6 : PySem.W.codeIn K cd6 "parse_amount" = true)
    (k6 : PySem.W.keepIn K (.ref f6) = true)
    (a7 : PySem.W.nsIn K mainGlobals "split_words" = some (some (.ref f7)))
    (l7 : K.lookup f7 = some ⟨oc7, od7, .func (PySem.W.fnOf "split_words" "split_words" (defArgs s7) (defBody s7) (defScope s7) .none kV7 dc7 pm7 an7 cd7 ct7), sl7⟩)
    (c7 : PySem.W.codeIn K cd7 "split_words" = true)
    (k7 : PySem.W.keepIn K (.ref f7) = true)
    (a8 : PySem.W.nsIn K mainGlobals "read_amount" = some (some (.ref f8)))
    (l8 : K.lookup f8 = some ⟨oc8, od8, .func (PySem.W.fnOf "read_amount" "read_amount" (defArgs s8) (defBody s8) (defScope s8) .none kV8 dc8 pm8 an8 cd8 ct8), sl8⟩)
    (c8 : PySem.W.codeIn K cd8 "read_amount" = true)
    (k8 : PySem.W.keepIn K (.ref f8) = true)
    (a9 : PySem.W.nsIn K mainGlobals "read_condition" = some (some (.ref f9)))
    (l9 : K.lookup f9 = some ⟨oc9, od9, .func (PySem.W.fnOf "read_condition" "read_condition" (defArgs s9) (defBody s9) (defScope s9) .none kV9 dc9 pm9 an9 cd9 ct9), sl9⟩)
    (c9 : PySem.W.codeIn K cd9 "read_condition" = true)
    (k9 : PySem.W.keepIn K (.ref f9) = true)
    (a10 : PySem.W.nsIn K mainGlobals "read_fact" = some (some (.ref f10)))
    (l10 : K.lookup f10 = some ⟨oc10, od10, .func (PySem.W.fnOf "read_fact" "read_fact" (defArgs s10) (defBody s10) (defScope s10) .none kV10 dc10 pm10 an10 cd10 ct10), sl10⟩)
    (c10 : PySem.W.codeIn K cd10 "read_fact" = true)
    (k10 : PySem.W.keepIn K (.ref f10) = true)
    (a11 : PySem.W.nsIn K mainGlobals "read_parts" = some (some (.ref f11)))
    (l11 : K.lookup f11 = some ⟨oc11, od11, .func (PySem.W.fnOf "read_parts" "read_parts" (defArgs s11) (defBody s11) (defScope s11) .none kV11 dc11 pm11 an11 cd11 ct11), sl11⟩)
    (c11 : PySem.W.codeIn K cd11 "read_parts" = true)
    (k11 : PySem.W.keepIn K (.ref f11) = true)
    (a12 : PySem.W.nsIn K mainGlobals "read_part" = some (some (.ref f12)))
    (l12 : K.lookup f12 = some ⟨oc12, od12, .func (PySem.W.fnOf "read_part" "read_part" (defArgs s12) (defBody s12) (defScope s12) .none kV12 dc12 pm12 an12 cd12 ct12), sl12⟩)
    (c12 : PySem.W.codeIn K cd12 "read_part" = true)
    (k12 : PySem.W.keepIn K (.ref f12) = true)
    (a13 : PySem.W.nsIn K mainGlobals "read_hundredths" = some (some (.ref f13)))
    (l13 : K.lookup f13 = some ⟨oc13, od13, .func (PySem.W.fnOf "read_hundredths" "read_hundredths" (defArgs s13) (defBody s13) (defScope s13) .none kV13 dc13 pm13 an13 cd13 ct13), sl13⟩)
    (c13 : PySem.W.codeIn K cd13 "read_hundredths" = true)
    (k13 : PySem.W.keepIn K (.ref f13) = true)
    (a14 : PySem.W.nsIn K mainGlobals "read_name" = some (some (.ref f14)))
    (l14 : K.lookup f14 = some ⟨oc14, od14, .func (PySem.W.fnOf "read_name" "read_name" (defArgs s14) (defBody s14) (defScope s14) .none kV14 dc14 pm14 an14 cd14 ct14), sl14⟩)
    (c14 : PySem.W.codeIn K cd14 "read_name" = true)
    (k14 : PySem.W.keepIn K (.ref f14) = true)
    (a15 : PySem.W.nsIn K mainGlobals "word_at" = some (some (.ref f15)))
    (l15 : K.lookup f15 = some ⟨oc15, od15, .func (PySem.W.fnOf "word_at" "word_at" (defArgs s15) (defBody s15) (defScope s15) .none kV15 dc15 pm15 an15 cd15 ct15), sl15⟩)
    (c15 : PySem.W.codeIn K cd15 "word_at" = true)
    (k15 : PySem.W.keepIn K (.ref f15) = true)
    (a16 : PySem.W.findIn K (.ref C0) "__init__" = some (some (.ref f16)))
    (i16 : PySem.W.isFn K (.ref f16) = true)
    (l16 : K.lookup f16 = some ⟨oc16, od16, .func (PySem.W.fnOf "__init__" "Book.__init__" (defArgs s16) (defBody s16) (defScope s16) .none kV16 dc16 pm16 an16 cd16 ct16), sl16⟩)
    (c16 : PySem.W.codeIn K cd16 "Book.__init__" = true)
    (k16 : PySem.W.keepIn K (.ref f16) = true)
    (a17 : PySem.W.findIn K (.ref C0) "enter" = some (some (.ref f17)))
    (i17 : PySem.W.isFn K (.ref f17) = true)
    (l17 : K.lookup f17 = some ⟨oc17, od17, .func (PySem.W.fnOf "enter" "Book.enter" (defArgs s17) (defBody s17) (defScope s17) .none kV17 dc17 pm17 an17 cd17 ct17), sl17⟩)
    (c17 : PySem.W.codeIn K cd17 "Book.enter" = true)
    (k17 : PySem.W.keepIn K (.ref f17) = true)
    (a18 : PySem.W.findIn K (.ref C0) "entries" = some (some (.ref f18)))
    (i18 : PySem.W.isFn K (.ref f18) = true)
    (l18 : K.lookup f18 = some ⟨oc18, od18, .func (PySem.W.fnOf "entries" "Book.entries" (defArgs s18) (defBody s18) (defScope s18) .none kV18 dc18 pm18 an18 cd18 ct18), sl18⟩)
    (c18 : PySem.W.codeIn K cd18 "Book.entries" = true)
    (k18 : PySem.W.keepIn K (.ref f18) = true)
    (a19 : PySem.W.findIn K (.ref C0) "_check_turn" = some (some (.ref f19)))
    (i19 : PySem.W.isFn K (.ref f19) = true)
    (l19 : K.lookup f19 = some ⟨oc19, od19, .func (PySem.W.fnOf "_check_turn" "Book._check_turn" (defArgs s19) (defBody s19) (defScope s19) .none kV19 dc19 pm19 an19 cd19 ct19), sl19⟩)
    (c19 : PySem.W.codeIn K cd19 "Book._check_turn" = true)
    (k19 : PySem.W.keepIn K (.ref f19) = true)
    (a20 : PySem.W.findIn K (.ref C0) "_check_strike" = some (some (.ref f20)))
    (i20 : PySem.W.isFn K (.ref f20) = true)
    (l20 : K.lookup f20 = some ⟨oc20, od20, .func (PySem.W.fnOf "_check_strike" "Book._check_strike" (defArgs s20) (defBody s20) (defScope s20) .none kV20 dc20 pm20 an20 cd20 ct20), sl20⟩)
    (c20 : PySem.W.codeIn K cd20 "Book._check_strike" = true)
    (k20 : PySem.W.keepIn K (.ref f20) = true)
    (a21 : PySem.W.nsIn K mainGlobals "check_report" = some (some (.ref f21)))
    (l21 : K.lookup f21 = some ⟨oc21, od21, .func (PySem.W.fnOf "check_report" "check_report" (defArgs s21) (defBody s21) (defScope s21) .none kV21 dc21 pm21 an21 cd21 ct21), sl21⟩)
    (c21 : PySem.W.codeIn K cd21 "check_report" = true)
    (k21 : PySem.W.keepIn K (.ref f21) = true)
    (a22 : PySem.W.nsIn K mainGlobals "checked_amount" = some (some (.ref f22)))
    (l22 : K.lookup f22 = some ⟨oc22, od22, .func (PySem.W.fnOf "checked_amount" "checked_amount" (defArgs s22) (defBody s22) (defScope s22) .none kV22 dc22 pm22 an22 cd22 ct22), sl22⟩)
    (c22 : PySem.W.codeIn K cd22 "checked_amount" = true)
    (k22 : PySem.W.keepIn K (.ref f22) = true)
    (a23 : PySem.W.nsIn K mainGlobals "check_span" = some (some (.ref f23)))
    (l23 : K.lookup f23 = some ⟨oc23, od23, .func (PySem.W.fnOf "check_span" "check_span" (defArgs s23) (defBody s23) (defScope s23) .none kV23 dc23 pm23 an23 cd23 ct23), sl23⟩)
    (c23 : PySem.W.codeIn K cd23 "check_span" = true)
    (k23 : PySem.W.keepIn K (.ref f23) = true)
    (a24 : PySem.W.nsIn K mainGlobals "stands" = some (some (.ref f24)))
    (l24 : K.lookup f24 = some ⟨oc24, od24, .func (PySem.W.fnOf "stands" "stands" (defArgs s24) (defBody s24) (defScope s24) .none kV24 dc24 pm24 an24 cd24 ct24), sl24⟩)
    (c24 : PySem.W.codeIn K cd24 "stands" = true)
    (k24 : PySem.W.keepIn K (.ref f24) = true)
    (a25 : PySem.W.nsIn K mainGlobals "fact_at" = some (some (.ref f25)))
    (l25 : K.lookup f25 = some ⟨oc25, od25, .func (PySem.W.fnOf "fact_at" "fact_at" (defArgs s25) (defBody s25) (defScope s25) .none kV25 dc25 pm25 an25 cd25 ct25), sl25⟩)
    (c25 : PySem.W.codeIn K cd25 "fact_at" = true)
    (k25 : PySem.W.keepIn K (.ref f25) = true)
    (a26 : PySem.W.nsIn K mainGlobals "rule_at" = some (some (.ref f26)))
    (l26 : K.lookup f26 = some ⟨oc26, od26, .func (PySem.W.fnOf "rule_at" "rule_at" (defArgs s26) (defBody s26) (defScope s26) .none kV26 dc26 pm26 an26 cd26 ct26), sl26⟩)
    (c26 : PySem.W.codeIn K cd26 "rule_at" = true)
    (k26 : PySem.W.keepIn K (.ref f26) = true)
    (a27 : PySem.W.nsIn K mainGlobals "holds" = some (some (.ref f27)))
    (l27 : K.lookup f27 = some ⟨oc27, od27, .func (PySem.W.fnOf "holds" "holds" (defArgs s27) (defBody s27) (defScope s27) .none kV27 dc27 pm27 an27 cd27 ct27), sl27⟩)
    (c27 : PySem.W.codeIn K cd27 "holds" = true)
    (k27 : PySem.W.keepIn K (.ref f27) = true)
    (a28 : PySem.W.nsIn K mainGlobals "value_of" = some (some (.ref f28)))
    (l28 : K.lookup f28 = some ⟨oc28, od28, .func (PySem.W.fnOf "value_of" "value_of" (defArgs s28) (defBody s28) (defScope s28) .none kV28 dc28 pm28 an28 cd28 ct28), sl28⟩)
    (c28 : PySem.W.codeIn K cd28 "value_of" = true)
    (k28 : PySem.W.keepIn K (.ref f28) = true)
    (a29 : PySem.W.nsIn K mainGlobals "amount_of" = some (some (.ref f29)))
    (l29 : K.lookup f29 = some ⟨oc29, od29, .func (PySem.W.fnOf "amount_of" "amount_of" (defArgs s29) (defBody s29) (defScope s29) .none kV29 dc29 pm29 an29 cd29 ct29), sl29⟩)
    (c29 : PySem.W.codeIn K cd29 "amount_of" = true)
    (k29 : PySem.W.keepIn K (.ref f29) = true)
    (a30 : PySem.W.nsIn K mainGlobals "book_with" = some (some (.ref f30)))
    (l30 : K.lookup f30 = some ⟨oc30, od30, .func (PySem.W.fnOf "book_with" "book_with" (defArgs s30) (defBody s30) (defScope s30) .none kV30 dc30 pm30 an30 cd30 ct30), sl30⟩)
    (c30 : PySem.W.codeIn K cd30 "book_with" = true)
    (k30 : PySem.W.keepIn K (.ref f30) = true)
    (xii4 : PySem.W.findIn K (.ref X4) "__init__" = some (some (.ref f31)))
    (xti4 : PySem.W.typeIn K (.ref f31) = some (.type "function"))
    (l31 : K.lookup f31 = some ⟨oc31, od31, .func (PySem.W.fnOf "__init__" "Stop.__init__" (defArgs s31) (defBody s31) (defScope s31) .none kV31 dc31 pm31 an31 cd31 ct31), sl31⟩)
    (c31 : PySem.W.codeIn K cd31 "Stop.__init__" = true)
    (k31 : PySem.W.keepIn K (.ref f31) = true)
    (a32 : PySem.W.findIn K (.ref C1) "__init__" = some (some (.ref f32)))
    (i32 : PySem.W.isFn K (.ref f32) = true)
    (l32 : K.lookup f32 = some ⟨oc32, od32, .func (PySem.W.fnOf "__init__" "Reading.__init__" (defArgs s32) (defBody s32) (defScope s32) .none kV32 dc32 pm32 an32 cd32 ct32), sl32⟩)
    (c32 : PySem.W.codeIn K cd32 "Reading.__init__" = true)
    (k32 : PySem.W.keepIn K (.ref f32) = true)
    (a33 : PySem.W.findIn K (.ref C1) "rule_amount" = some (some (.ref f33)))
    (i33 : PySem.W.isFn K (.ref f33) = true)
    (l33 : K.lookup f33 = some ⟨oc33, od33, .func (PySem.W.fnOf "rule_amount" "Reading.rule_amount" (defArgs s33) (defBody s33) (defScope s33) .none kV33 dc33 pm33 an33 cd33 ct33), sl33⟩)
    (c33 : PySem.W.codeIn K cd33 "Reading.rule_amount" = true)
    (k33 : PySem.W.keepIn K (.ref f33) = true)
    (a34 : PySem.W.findIn K (.ref C1) "_look_up" = some (some (.ref f34)))
    (i34 : PySem.W.isFn K (.ref f34) = true)
    (l34 : K.lookup f34 = some ⟨oc34, od34, .func (PySem.W.fnOf "_look_up" "Reading._look_up" (defArgs s34) (defBody s34) (defScope s34) .none kV34 dc34 pm34 an34 cd34 ct34), sl34⟩)
    (c34 : PySem.W.codeIn K cd34 "Reading._look_up" = true)
    (k34 : PySem.W.keepIn K (.ref f34) = true)
    (a35 : PySem.W.findIn K (.ref C1) "_amount" = some (some (.ref f35)))
    (i35 : PySem.W.isFn K (.ref f35) = true)
    (l35 : K.lookup f35 = some ⟨oc35, od35, .func (PySem.W.fnOf "_amount" "Reading._amount" (defArgs s35) (defBody s35) (defScope s35) .none kV35 dc35 pm35 an35 cd35 ct35), sl35⟩)
    (c35 : PySem.W.codeIn K cd35 "Reading._amount" = true)
    (k35 : PySem.W.keepIn K (.ref f35) = true)
    (a36 : PySem.W.findIn K (.ref C1) "_fact_amount" = some (some (.ref f36)))
    (i36 : PySem.W.isFn K (.ref f36) = true)
    (l36 : K.lookup f36 = some ⟨oc36, od36, .func (PySem.W.fnOf "_fact_amount" "Reading._fact_amount" (defArgs s36) (defBody s36) (defScope s36) .none kV36 dc36 pm36 an36 cd36 ct36), sl36⟩)
    (c36 : PySem.W.codeIn K cd36 "Reading._fact_amount" = true)
    (k36 : PySem.W.keepIn K (.ref f36) = true)
    (a37 : PySem.W.findIn K (.ref C1) "_holds" = some (some (.ref f37)))
    (i37 : PySem.W.isFn K (.ref f37) = true)
    (l37 : K.lookup f37 = some ⟨oc37, od37, .func (PySem.W.fnOf "_holds" "Reading._holds" (defArgs s37) (defBody s37) (defScope s37) .none kV37 dc37 pm37 an37 cd37 ct37), sl37⟩)
    (c37 : PySem.W.codeIn K cd37 "Reading._holds" = true)
    (k37 : PySem.W.keepIn K (.ref f37) = true)
    (a38 : PySem.W.findIn K (.ref C1) "_within_limits" = some (some (.ref f38)))
    (i38 : PySem.W.isFn K (.ref f38) = true)
    (l38 : K.lookup f38 = some ⟨oc38, od38, .func (PySem.W.fnOf "_within_limits" "Reading._within_limits" (defArgs s38) (defBody s38) (defScope s38) .none kV38 dc38 pm38 an38 cd38 ct38), sl38⟩)
    (c38 : PySem.W.codeIn K cd38 "Reading._within_limits" = true)
    (k38 : PySem.W.keepIn K (.ref f38) = true)
    (a39 : PySem.W.nsIn K mainGlobals "joined" = some (some (.ref f39)))
    (l39 : K.lookup f39 = some ⟨oc39, od39, .func (PySem.W.fnOf "joined" "joined" (defArgs s39) (defBody s39) (defScope s39) .none kV39 dc39 pm39 an39 cd39 ct39), sl39⟩)
    (c39 : PySem.W.codeIn K cd39 "joined" = true)
    (k39 : PySem.W.keepIn K (.ref f39) = true)
    (a40 : PySem.W.nsIn K mainGlobals "decide" = some (some (.ref f40)))
    (l40 : K.lookup f40 = some ⟨oc40, od40, .func (PySem.W.fnOf "decide" "decide" (defArgs s40) (defBody s40) (defScope s40) .none kV40 dc40 pm40 an40 cd40 ct40), sl40⟩)
    (c40 : PySem.W.codeIn K cd40 "decide" = true)
    (k40 : PySem.W.keepIn K (.ref f40) = true)
    (a41 : PySem.W.nsIn K mainGlobals "course" = some (some (.ref f41)))
    (l41 : K.lookup f41 = some ⟨oc41, od41, .func (PySem.W.fnOf "course" "course" (defArgs s41) (defBody s41) (defScope s41) .none kV41 dc41 pm41 an41 cd41 ct41), sl41⟩)
    (c41 : PySem.W.codeIn K cd41 "course" = true)
    (k41 : PySem.W.keepIn K (.ref f41) = true)
    (a42 : PySem.W.nsIn K mainGlobals "total" = some (some (.ref f42)))
    (l42 : K.lookup f42 = some ⟨oc42, od42, .func (PySem.W.fnOf "total" "total" (defArgs s42) (defBody s42) (defScope s42) .none kV42 dc42 pm42 an42 cd42 ct42), sl42⟩)
    (c42 : PySem.W.codeIn K cd42 "total" = true)
    (k42 : PySem.W.keepIn K (.ref f42) = true)
    (a43 : PySem.W.nsIn K mainGlobals "stretches" = some (some (.ref f43)))
    (l43 : K.lookup f43 = some ⟨oc43, od43, .func (PySem.W.fnOf "stretches" "stretches" (defArgs s43) (defBody s43) (defScope s43) .none kV43 dc43 pm43 an43 cd43 ct43), sl43⟩)
    (c43 : PySem.W.codeIn K cd43 "stretches" = true)
    (k43 : PySem.W.keepIn K (.ref f43) = true)
    (a44 : PySem.W.findIn K (.ref C2) "__init__" = some (some (.ref f44)))
    (i44 : PySem.W.isFn K (.ref f44) = true)
    (l44 : K.lookup f44 = some ⟨oc44, od44, .func (PySem.W.fnOf "__init__" "Ledger.__init__" (defArgs s44) (defBody s44) (defScope s44) .none kV44 dc44 pm44 an44 cd44 ct44), sl44⟩)
    (c44 : PySem.W.codeIn K cd44 "Ledger.__init__" = true)
    (k44 : PySem.W.keepIn K (.ref f44) = true)
    (a45 : PySem.W.findIn K (.ref C2) "settle" = some (some (.ref f45)))
    (i45 : PySem.W.isFn K (.ref f45) = true)
    (l45 : K.lookup f45 = some ⟨oc45, od45, .func (PySem.W.fnOf "settle" "Ledger.settle" (defArgs s45) (defBody s45) (defScope s45) .none kV45 dc45 pm45 an45 cd45 ct45), sl45⟩)
    (c45 : PySem.W.codeIn K cd45 "Ledger.settle" = true)
    (k45 : PySem.W.keepIn K (.ref f45) = true)
    (a46 : PySem.W.findIn K (.ref C2) "paid" = some (some (.ref f46)))
    (i46 : PySem.W.isFn K (.ref f46) = true)
    (l46 : K.lookup f46 = some ⟨oc46, od46, .func (PySem.W.fnOf "paid" "Ledger.paid" (defArgs s46) (defBody s46) (defScope s46) .none kV46 dc46 pm46 an46 cd46 ct46), sl46⟩)
    (c46 : PySem.W.codeIn K cd46 "Ledger.paid" = true)
    (k46 : PySem.W.keepIn K (.ref f46) = true)
    (a47 : PySem.W.findIn K (.ref C2) "payments" = some (some (.ref f47)))
    (i47 : PySem.W.isFn K (.ref f47) = true)
    (l47 : K.lookup f47 = some ⟨oc47, od47, .func (PySem.W.fnOf "payments" "Ledger.payments" (defArgs s47) (defBody s47) (defScope s47) .none kV47 dc47 pm47 an47 cd47 ct47), sl47⟩)
    (c47 : PySem.W.codeIn K cd47 "Ledger.payments" = true)
    (k47 : PySem.W.keepIn K (.ref f47) = true)
    (a48 : PySem.W.findIn K (.ref C3) "__init__" = some (some (.ref f48)))
    (i48 : PySem.W.isFn K (.ref f48) = true)
    (l48 : K.lookup f48 = some ⟨oc48, od48, .func (PySem.W.fnOf "__init__" "Desk.__init__" (defArgs s48) (defBody s48) (defScope s48) .none kV48 dc48 pm48 an48 cd48 ct48), sl48⟩)
    (c48 : PySem.W.codeIn K cd48 "Desk.__init__" = true)
    (k48 : PySem.W.keepIn K (.ref f48) = true)
    (a49 : PySem.W.findIn K (.ref C3) "do" = some (some (.ref f49)))
    (i49 : PySem.W.isFn K (.ref f49) = true)
    (l49 : K.lookup f49 = some ⟨oc49, od49, .func (PySem.W.fnOf "do" "Desk.do" (defArgs s49) (defBody s49) (defScope s49) .none kV49 dc49 pm49 an49 cd49 ct49), sl49⟩)
    (c49 : PySem.W.codeIn K cd49 "Desk.do" = true)
    (k49 : PySem.W.keepIn K (.ref f49) = true)
    (a50 : PySem.W.findIn K (.ref C3) "totals" = some (some (.ref f50)))
    (i50 : PySem.W.isFn K (.ref f50) = true)
    (l50 : K.lookup f50 = some ⟨oc50, od50, .func (PySem.W.fnOf "totals" "Desk.totals" (defArgs s50) (defBody s50) (defScope s50) .none kV50 dc50 pm50 an50 cd50 ct50), sl50⟩)
    (c50 : PySem.W.codeIn K cd50 "Desk.totals" = true)
    (k50 : PySem.W.keepIn K (.ref f50) = true)
    (a51 : PySem.W.findIn K (.ref C3) "changes" = some (some (.ref f51)))
    (i51 : PySem.W.isFn K (.ref f51) = true)
    (l51 : K.lookup f51 = some ⟨oc51, od51, .func (PySem.W.fnOf "changes" "Desk.changes" (defArgs s51) (defBody s51) (defScope s51) .none kV51 dc51 pm51 an51 cd51 ct51), sl51⟩)
    (c51 : PySem.W.codeIn K cd51 "Desk.changes" = true)
    (k51 : PySem.W.keepIn K (.ref f51) = true)
    (a52 : PySem.W.findIn K (.ref C3) "entries" = some (some (.ref f52)))
    (i52 : PySem.W.isFn K (.ref f52) = true)
    (l52 : K.lookup f52 = some ⟨oc52, od52, .func (PySem.W.fnOf "entries" "Desk.entries" (defArgs s52) (defBody s52) (defScope s52) .none kV52 dc52 pm52 an52 cd52 ct52), sl52⟩)
    (c52 : PySem.W.codeIn K cd52 "Desk.entries" = true)
    (k52 : PySem.W.keepIn K (.ref f52) = true)
    (a53 : PySem.W.findIn K (.ref C3) "payments" = some (some (.ref f53)))
    (i53 : PySem.W.isFn K (.ref f53) = true)
    (l53 : K.lookup f53 = some ⟨oc53, od53, .func (PySem.W.fnOf "payments" "Desk.payments" (defArgs s53) (defBody s53) (defScope s53) .none kV53 dc53 pm53 an53 cd53 ct53), sl53⟩)
    (c53 : PySem.W.codeIn K cd53 "Desk.payments" = true)
    (k53 : PySem.W.keepIn K (.ref f53) = true)
    (a54 : PySem.W.findIn K (.ref C3) "journal" = some (some (.ref f54)))
    (i54 : PySem.W.isFn K (.ref f54) = true)
    (l54 : K.lookup f54 = some ⟨oc54, od54, .func (PySem.W.fnOf "journal" "Desk.journal" (defArgs s54) (defBody s54) (defScope s54) .none kV54 dc54 pm54 an54 cd54 ct54), sl54⟩)
    (c54 : PySem.W.codeIn K cd54 "Desk.journal" = true)
    (k54 : PySem.W.keepIn K (.ref f54) = true)
    (a55 : PySem.W.findIn K (.ref C3) "_enter" = some (some (.ref f55)))
    (i55 : PySem.W.isFn K (.ref f55) = true)
    (l55 : K.lookup f55 = some ⟨oc55, od55, .func (PySem.W.fnOf "_enter" "Desk._enter" (defArgs s55) (defBody s55) (defScope s55) .none kV55 dc55 pm55 an55 cd55 ct55), sl55⟩)
    (c55 : PySem.W.codeIn K cd55 "Desk._enter" = true)
    (k55 : PySem.W.keepIn K (.ref f55) = true)
    (a56 : PySem.W.findIn K (.ref C3) "_stand" = some (some (.ref f56)))
    (i56 : PySem.W.isFn K (.ref f56) = true)
    (l56 : K.lookup f56 = some ⟨oc56, od56, .func (PySem.W.fnOf "_stand" "Desk._stand" (defArgs s56) (defBody s56) (defScope s56) .none kV56 dc56 pm56 an56 cd56 ct56), sl56⟩)
    (c56 : PySem.W.codeIn K cd56 "Desk._stand" = true)
    (k56 : PySem.W.keepIn K (.ref f56) = true)
    (a57 : PySem.W.findIn K (.ref C3) "_drop" = some (some (.ref f57)))
    (i57 : PySem.W.isFn K (.ref f57) = true)
    (l57 : K.lookup f57 = some ⟨oc57, od57, .func (PySem.W.fnOf "_drop" "Desk._drop" (defArgs s57) (defBody s57) (defScope s57) .none kV57 dc57 pm57 an57 cd57 ct57), sl57⟩)
    (c57 : PySem.W.codeIn K cd57 "Desk._drop" = true)
    (k57 : PySem.W.keepIn K (.ref f57) = true)
    (a58 : PySem.W.findIn K (.ref C3) "_settle" = some (some (.ref f58)))
    (i58 : PySem.W.isFn K (.ref f58) = true)
    (l58 : K.lookup f58 = some ⟨oc58, od58, .func (PySem.W.fnOf "_settle" "Desk._settle" (defArgs s58) (defBody s58) (defScope s58) .none kV58 dc58 pm58 an58 cd58 ct58), sl58⟩)
    (c58 : PySem.W.codeIn K cd58 "Desk._settle" = true)
    (k58 : PySem.W.keepIn K (.ref f58) = true)
    (a59 : PySem.W.findIn K (.ref C3) "_check_standing" = some (some (.ref f59)))
    (i59 : PySem.W.isFn K (.ref f59) = true)
    (l59 : K.lookup f59 = some ⟨oc59, od59, .func (PySem.W.fnOf "_check_standing" "Desk._check_standing" (defArgs s59) (defBody s59) (defScope s59) .none kV59 dc59 pm59 an59 cd59 ct59), sl59⟩)
    (c59 : PySem.W.codeIn K cd59 "Desk._check_standing" = true)
    (k59 : PySem.W.keepIn K (.ref f59) = true)
    (a60 : PySem.W.findIn K (.ref C3) "_check_room" = some (some (.ref f60)))
    (i60 : PySem.W.isFn K (.ref f60) = true)
    (l60 : K.lookup f60 = some ⟨oc60, od60, .func (PySem.W.fnOf "_check_room" "Desk._check_room" (defArgs s60) (defBody s60) (defScope s60) .none kV60 dc60 pm60 an60 cd60 ct60), sl60⟩)
    (c60 : PySem.W.codeIn K cd60 "Desk._check_room" = true)
    (k60 : PySem.W.keepIn K (.ref f60) = true)
    (a61 : PySem.W.nsIn K mainGlobals "check_claim" = some (some (.ref f61)))
    (l61 : K.lookup f61 = some ⟨oc61, od61, .func (PySem.W.fnOf "check_claim" "check_claim" (defArgs s61) (defBody s61) (defScope s61) .none kV61 dc61 pm61 an61 cd61 ct61), sl61⟩)
    (c61 : PySem.W.codeIn K cd61 "check_claim" = true)
    (k61 : PySem.W.keepIn K (.ref f61) = true)
    (a62 : PySem.W.nsIn K mainGlobals "_law_refused" = some (some (.ref f62)))
    (l62 : K.lookup f62 = some ⟨oc62, od62, .func (PySem.W.fnOf "_law_refused" "_law_refused" (defArgs s62) (defBody s62) (defScope s62) .none kV62 dc62 pm62 an62 cd62 ct62), sl62⟩)
    (c62 : PySem.W.codeIn K cd62 "_law_refused" = true)
    (k62 : PySem.W.keepIn K (.ref f62) = true)
    (a63 : PySem.W.nsIn K mainGlobals "law" = some (some (.ref f63)))
    (l63 : K.lookup f63 = some ⟨oc63, od63, .func (PySem.W.fnOf "law" "law" (defArgs s63) (defBody s63) (defScope s63) .none kV63 dc63 pm63 an63 cd63 ct63), sl63⟩)
    (c63 : PySem.W.codeIn K cd63 "law" = true)
    (k63 : PySem.W.keepIn K (.ref f63) = true)
    : ∃ fd : FuncData, (∀ (s : Shared) (v : Value), BindsTo s fd ⟨[v], []⟩ [("script", v)]) ∧ ∀ base : Heap, K.In base → base.Ns mainGlobals mg → FnOk l.prog w K mg base (L2N.CX l.prog w) 201 fa fd ["script"] (spL K) := by
  have e := hfa.symm.trans (PySem.W.mg_of X G a63)
  cases e
  have T : Txt ⟨K, fun c => ([C0, C1, C2, C3] : List Addr).getD c 0, fun c => ([["_entries", "_struck", "_amounts"], ["_book", "_person", "_day", "_known", "_rules", "dossier"], ["_payments"], ["_book", "_ledger", "_claims", "_journal"]] : List (List Str)).getD c [], fun k => ([X0, X1, X2, X3, X4] : List Addr).getD k X0, xf⟩ w mg (fun k => ([f0, f1, f2, f3, f4, f5, f6, f7, f8, f9, f10, f11, f12, f13, f14, f15, f16, f17, f18, f19, f20, f21, f22, f23, f24, f25, f26, f27, f28, f29, f30, f31, f32, f33, f34, f35, f36, f37, f38, f39, f40, f41, f42, f43, f44, f45, f46, f47, f48, f49, f50, f51, f52, f53, f54, f55, f56, f57, f58, f59, f60, f61, f62, fa] : List Addr).getD k 0) (fun k => ([PySem.W.fnOf "__init__" "BadText.__init__" (defArgs s0) (defBody s0) (defScope s0) .none kV0 dc0 pm0 an0 cd0 ct0, PySem.W.fnOf "is_name" "is_name" (defArgs s1) (defBody s1) (defScope s1) .none kV1 dc1 pm1 an1 cd1 ct1, PySem.W.fnOf "is_day" "is_day" (defArgs s2) (defBody s2) (defScope s2) .none kV2 dc2 pm2 an2 cd2 ct2, PySem.W.fnOf "is_span" "is_span" (defArgs s3) (defBody s3) (defScope s3) .none kV3 dc3 pm3 an3 cd3 ct3, PySem.W.fnOf "is_value" "is_value" (defArgs s4) (defBody s4) (defScope s4) .none kV4 dc4 pm4 an4 cd4 ct4, PySem.W.fnOf "is_number" "is_number" (defArgs s5) (defBody s5) (defScope s5) .none kV5 dc5 pm5 an5 cd5 ct5, PySem.W.fnOf "parse_amount" "parse_amount" (defArgs s6) (defBody s6) (defScope s6) .none kV6 dc6 pm6 an6 cd6 ct6, PySem.W.fnOf "split_words" "split_words" (defArgs s7) (defBody s7) (defScope s7) .none kV7 dc7 pm7 an7 cd7 ct7, PySem.W.fnOf "read_amount" "read_amount" (defArgs s8) (defBody s8) (defScope s8) .none kV8 dc8 pm8 an8 cd8 ct8, PySem.W.fnOf "read_condition" "read_condition" (defArgs s9) (defBody s9) (defScope s9) .none kV9 dc9 pm9 an9 cd9 ct9, PySem.W.fnOf "read_fact" "read_fact" (defArgs s10) (defBody s10) (defScope s10) .none kV10 dc10 pm10 an10 cd10 ct10, PySem.W.fnOf "read_parts" "read_parts" (defArgs s11) (defBody s11) (defScope s11) .none kV11 dc11 pm11 an11 cd11 ct11, PySem.W.fnOf "read_part" "read_part" (defArgs s12) (defBody s12) (defScope s12) .none kV12 dc12 pm12 an12 cd12 ct12, PySem.W.fnOf "read_hundredths" "read_hundredths" (defArgs s13) (defBody s13) (defScope s13) .none kV13 dc13 pm13 an13 cd13 ct13, PySem.W.fnOf "read_name" "read_name" (defArgs s14) (defBody s14) (defScope s14) .none kV14 dc14 pm14 an14 cd14 ct14, PySem.W.fnOf "word_at" "word_at" (defArgs s15) (defBody s15) (defScope s15) .none kV15 dc15 pm15 an15 cd15 ct15, PySem.W.fnOf "__init__" "Book.__init__" (defArgs s16) (defBody s16) (defScope s16) .none kV16 dc16 pm16 an16 cd16 ct16, PySem.W.fnOf "enter" "Book.enter" (defArgs s17) (defBody s17) (defScope s17) .none kV17 dc17 pm17 an17 cd17 ct17, PySem.W.fnOf "entries" "Book.entries" (defArgs s18) (defBody s18) (defScope s18) .none kV18 dc18 pm18 an18 cd18 ct18, PySem.W.fnOf "_check_turn" "Book._check_turn" (defArgs s19) (defBody s19) (defScope s19) .none kV19 dc19 pm19 an19 cd19 ct19, PySem.W.fnOf "_check_strike" "Book._check_strike" (defArgs s20) (defBody s20) (defScope s20) .none kV20 dc20 pm20 an20 cd20 ct20, PySem.W.fnOf "check_report" "check_report" (defArgs s21) (defBody s21) (defScope s21) .none kV21 dc21 pm21 an21 cd21 ct21, PySem.W.fnOf "checked_amount" "checked_amount" (defArgs s22) (defBody s22) (defScope s22) .none kV22 dc22 pm22 an22 cd22 ct22, PySem.W.fnOf "check_span" "check_span" (defArgs s23) (defBody s23) (defScope s23) .none kV23 dc23 pm23 an23 cd23 ct23, PySem.W.fnOf "stands" "stands" (defArgs s24) (defBody s24) (defScope s24) .none kV24 dc24 pm24 an24 cd24 ct24, PySem.W.fnOf "fact_at" "fact_at" (defArgs s25) (defBody s25) (defScope s25) .none kV25 dc25 pm25 an25 cd25 ct25, PySem.W.fnOf "rule_at" "rule_at" (defArgs s26) (defBody s26) (defScope s26) .none kV26 dc26 pm26 an26 cd26 ct26, PySem.W.fnOf "holds" "holds" (defArgs s27) (defBody s27) (defScope s27) .none kV27 dc27 pm27 an27 cd27 ct27, PySem.W.fnOf "value_of" "value_of" (defArgs s28) (defBody s28) (defScope s28) .none kV28 dc28 pm28 an28 cd28 ct28, PySem.W.fnOf "amount_of" "amount_of" (defArgs s29) (defBody s29) (defScope s29) .none kV29 dc29 pm29 an29 cd29 ct29, PySem.W.fnOf "book_with" "book_with" (defArgs s30) (defBody s30) (defScope s30) .none kV30 dc30 pm30 an30 cd30 ct30, PySem.W.fnOf "__init__" "Stop.__init__" (defArgs s31) (defBody s31) (defScope s31) .none kV31 dc31 pm31 an31 cd31 ct31, PySem.W.fnOf "__init__" "Reading.__init__" (defArgs s32) (defBody s32) (defScope s32) .none kV32 dc32 pm32 an32 cd32 ct32, PySem.W.fnOf "rule_amount" "Reading.rule_amount" (defArgs s33) (defBody s33) (defScope s33) .none kV33 dc33 pm33 an33 cd33 ct33, PySem.W.fnOf "_look_up" "Reading._look_up" (defArgs s34) (defBody s34) (defScope s34) .none kV34 dc34 pm34 an34 cd34 ct34, PySem.W.fnOf "_amount" "Reading._amount" (defArgs s35) (defBody s35) (defScope s35) .none kV35 dc35 pm35 an35 cd35 ct35, PySem.W.fnOf "_fact_amount" "Reading._fact_amount" (defArgs s36) (defBody s36) (defScope s36) .none kV36 dc36 pm36 an36 cd36 ct36, PySem.W.fnOf "_holds" "Reading._holds" (defArgs s37) (defBody s37) (defScope s37) .none kV37 dc37 pm37 an37 cd37 ct37, PySem.W.fnOf "_within_limits" "Reading._within_limits" (defArgs s38) (defBody s38) (defScope s38) .none kV38 dc38 pm38 an38 cd38 ct38, PySem.W.fnOf "joined" "joined" (defArgs s39) (defBody s39) (defScope s39) .none kV39 dc39 pm39 an39 cd39 ct39, PySem.W.fnOf "decide" "decide" (defArgs s40) (defBody s40) (defScope s40) .none kV40 dc40 pm40 an40 cd40 ct40, PySem.W.fnOf "course" "course" (defArgs s41) (defBody s41) (defScope s41) .none kV41 dc41 pm41 an41 cd41 ct41, PySem.W.fnOf "total" "total" (defArgs s42) (defBody s42) (defScope s42) .none kV42 dc42 pm42 an42 cd42 ct42, PySem.W.fnOf "stretches" "stretches" (defArgs s43) (defBody s43) (defScope s43) .none kV43 dc43 pm43 an43 cd43 ct43, PySem.W.fnOf "__init__" "Ledger.__init__" (defArgs s44) (defBody s44) (defScope s44) .none kV44 dc44 pm44 an44 cd44 ct44, PySem.W.fnOf "settle" "Ledger.settle" (defArgs s45) (defBody s45) (defScope s45) .none kV45 dc45 pm45 an45 cd45 ct45, PySem.W.fnOf "paid" "Ledger.paid" (defArgs s46) (defBody s46) (defScope s46) .none kV46 dc46 pm46 an46 cd46 ct46, PySem.W.fnOf "payments" "Ledger.payments" (defArgs s47) (defBody s47) (defScope s47) .none kV47 dc47 pm47 an47 cd47 ct47, PySem.W.fnOf "__init__" "Desk.__init__" (defArgs s48) (defBody s48) (defScope s48) .none kV48 dc48 pm48 an48 cd48 ct48, PySem.W.fnOf "do" "Desk.do" (defArgs s49) (defBody s49) (defScope s49) .none kV49 dc49 pm49 an49 cd49 ct49, PySem.W.fnOf "totals" "Desk.totals" (defArgs s50) (defBody s50) (defScope s50) .none kV50 dc50 pm50 an50 cd50 ct50, PySem.W.fnOf "changes" "Desk.changes" (defArgs s51) (defBody s51) (defScope s51) .none kV51 dc51 pm51 an51 cd51 ct51, PySem.W.fnOf "entries" "Desk.entries" (defArgs s52) (defBody s52) (defScope s52) .none kV52 dc52 pm52 an52 cd52 ct52, PySem.W.fnOf "payments" "Desk.payments" (defArgs s53) (defBody s53) (defScope s53) .none kV53 dc53 pm53 an53 cd53 ct53, PySem.W.fnOf "journal" "Desk.journal" (defArgs s54) (defBody s54) (defScope s54) .none kV54 dc54 pm54 an54 cd54 ct54, PySem.W.fnOf "_enter" "Desk._enter" (defArgs s55) (defBody s55) (defScope s55) .none kV55 dc55 pm55 an55 cd55 ct55, PySem.W.fnOf "_stand" "Desk._stand" (defArgs s56) (defBody s56) (defScope s56) .none kV56 dc56 pm56 an56 cd56 ct56, PySem.W.fnOf "_drop" "Desk._drop" (defArgs s57) (defBody s57) (defScope s57) .none kV57 dc57 pm57 an57 cd57 ct57, PySem.W.fnOf "_settle" "Desk._settle" (defArgs s58) (defBody s58) (defScope s58) .none kV58 dc58 pm58 an58 cd58 ct58, PySem.W.fnOf "_check_standing" "Desk._check_standing" (defArgs s59) (defBody s59) (defScope s59) .none kV59 dc59 pm59 an59 cd59 ct59, PySem.W.fnOf "_check_room" "Desk._check_room" (defArgs s60) (defBody s60) (defScope s60) .none kV60 dc60 pm60 an60 cd60 ct60, PySem.W.fnOf "check_claim" "check_claim" (defArgs s61) (defBody s61) (defScope s61) .none kV61 dc61 pm61 an61 cd61 ct61, PySem.W.fnOf "_law_refused" "_law_refused" (defArgs s62) (defBody s62) (defScope s62) .none kV62 dc62 pm62 an62 cd62 ct62, PySem.W.fnOf "law" "law" (defArgs s63) (defBody s63) (defScope s63) .none kV63 dc63 pm63 an63 cd63 ct63] : List FuncData).getD k (PySem.W.fnOf "law" "law" (defArgs s63) (defBody s63) (defScope s63) .none kV63 dc63 pm63 an63 cd63 ct63)) := {
    n_all := PySem.W.mg_none_of X G z_all
    n_dict := PySem.W.mg_none_of X G z_dict
    n_int := PySem.W.mg_none_of X G z_int
    n_isinstance := PySem.W.mg_none_of X G z_isinstance
    n_len := PySem.W.mg_none_of X G z_len
    n_list := PySem.W.mg_none_of X G z_list
    n_range := PySem.W.mg_none_of X G z_range
    n_tuple := PySem.W.mg_none_of X G z_tuple
    k_AMOUNTS := by obtain ⟨d, e, k⟩ := k_AMOUNTS; exact ⟨d, PySem.W.mg_of X G e, k⟩
    k_CONDITIONS := by obtain ⟨d, e, k⟩ := k_CONDITIONS; exact ⟨d, PySem.W.mg_of X G e, k⟩
    g_DAYS := ⟨_, PySem.W.mg_of X G g_DAYS⟩
    g_DIGITS := ⟨_, PySem.W.mg_of X G g_DIGITS⟩
    g_LARGEST_NUMBER := ⟨_, PySem.W.mg_of X G g_LARGEST_NUMBER⟩
    g_LETTERS := ⟨_, PySem.W.mg_of X G g_LETTERS⟩
    g_LONGEST_NAME := ⟨_, PySem.W.mg_of X G g_LONGEST_NAME⟩
    g_LONGEST_NUMBER := ⟨_, PySem.W.mg_of X G g_LONGEST_NUMBER⟩
    g_MOST_DEEDS := ⟨_, PySem.W.mg_of X G g_MOST_DEEDS⟩
    g_MOST_ENTRIES := ⟨_, PySem.W.mg_of X G g_MOST_ENTRIES⟩
    g_MOST_PERCENT := ⟨_, PySem.W.mg_of X G g_MOST_PERCENT⟩
    g_MOST_WORDS := ⟨_, PySem.W.mg_of X G g_MOST_WORDS⟩
    k_RESERVED := by obtain ⟨d, e, k⟩ := k_RESERVED; exact ⟨d, PySem.W.mg_of X G e, k⟩
    F0 := rfl
    C0 := clsAt_mk pg0 hd0 po0 sa0 (by show (["_entries", "_struck", "_amounts"] : List Str).Nodup; decide +kernel) (by show (["_entries", "_struck", "_amounts"] : List Str).length ≤ 900; decide) (fun f hf => by
        have hf : f ∈ (["_entries", "_struck", "_amounts"] : List Str) := hf
        simp only [List.mem_cons, List.not_mem_nil, or_false] at hf
        rcases hf with rfl | rfl | rfl
        all_goals first | exact na0_0 | exact na0_1 | exact na0_2)
    g_Book := PySem.W.mg_of X G aC0
    M0 := ⟨mk0, a16, i16, kc0⟩
    F1 := rfl
    C1 := clsAt_mk pg1 hd1 po1 sa1 (by show (["_book", "_person", "_day", "_known", "_rules", "dossier"] : List Str).Nodup; decide +kernel) (by show (["_book", "_person", "_day", "_known", "_rules", "dossier"] : List Str).length ≤ 900; decide) (fun f hf => by
        have hf : f ∈ (["_book", "_person", "_day", "_known", "_rules", "dossier"] : List Str) := hf
        simp only [List.mem_cons, List.not_mem_nil, or_false] at hf
        rcases hf with rfl | rfl | rfl | rfl | rfl | rfl
        all_goals first | exact na1_0 | exact na1_1 | exact na1_2 | exact na1_3 | exact na1_4 | exact na1_5)
    g_Reading := PySem.W.mg_of X G aC1
    M1 := ⟨mk1, a32, i32, kc1⟩
    F2 := rfl
    C2 := clsAt_mk pg2 hd2 po2 sa2 (by show (["_payments"] : List Str).Nodup; decide +kernel) (by show (["_payments"] : List Str).length ≤ 900; decide) (fun f hf => by
        have hf : f ∈ (["_payments"] : List Str) := hf
        simp only [List.mem_cons, List.not_mem_nil, or_false] at hf
        subst hf
        all_goals first | exact na2_0)
    g_Ledger := PySem.W.mg_of X G aC2
    M2 := ⟨mk2, a44, i44, kc2⟩
    F3 := rfl
    C3 := clsAt_mk pg3 hd3 po3 sa3 (by show (["_book", "_ledger", "_claims", "_journal"] : List Str).Nodup; decide +kernel) (by show (["_book", "_ledger", "_claims", "_journal"] : List Str).length ≤ 900; decide) (fun f hf => by
        have hf : f ∈ (["_book", "_ledger", "_claims", "_journal"] : List Str) := hf
        simp only [List.mem_cons, List.not_mem_nil, or_false] at hf
        rcases hf with rfl | rfl | rfl | rfl
        all_goals first | exact na3_0 | exact na3_1 | exact na3_2 | exact na3_3)
    g_Desk := PySem.W.mg_of X G aC3
    M3 := ⟨mk3, a48, i48, kc3⟩
    xfl := fun _ => rfl
    gx_WritError := PySem.W.mg_of X G gx0
    gx_BadText := PySem.W.mg_of X G gx1
    gx_NotAllowed := PySem.W.mg_of X G gx2
    X2 := ⟨xxc2, xkp2, xsb2, xty2⟩
    gx_UnknownName := PySem.W.mg_of X G gx3
    gx_Stop := PySem.W.mg_of X G gx4
    XI1 := ⟨oex_mk xlk1 xrf1 xsa1 xsb1 xty1 xkp1, xii1, xti1⟩
    XI4 := ⟨oex_mk xlk4 xrf4 xsa4 xsb4 xty4 xkp4, xii4, xti4⟩
    BI_WritError := ⟨xbg0, xty0, xbr0, xbf0⟩
    EX := fun | 0 => ⟨xga0, xgt0, xsb0, xhd0, xca0, xhn, xht, xmr0⟩ | 1 => ⟨xga1, xgt1, xsb1, xhd1, xca1, xhn, xht, xmr1⟩ | 2 => ⟨xga2, xgt2, xsb2, xhd2, xca2, xhn, xht, xmr2⟩ | 3 => ⟨xga3, xgt3, xsb3, xhd3, xca3, xhn, xht, xmr3⟩ | 4 => ⟨xga4, xgt4, xsb4, xhd4, xca4, xhn, xht, xmr4⟩ | _ + 5 => ⟨xga0, xgt0, xsb0, xhd0, xca0, xhn, xht, xmr0⟩
    XF := fun | 0 => ⟨xga0, xgt0, xsb0, xhd0⟩ | 1 => ⟨xga1, xgt1, xsb1, xhd1⟩ | 2 => ⟨xga2, xgt2, xsb2, xhd2⟩ | 3 => ⟨xga3, xgt3, xsb3, xhd3⟩ | 4 => ⟨xga4, xgt4, xsb4, xhd4⟩ | _ + 5 => ⟨xga0, xgt0, xsb0, xhd0⟩
    xno_at := fun | 0 => xno0_at | 1 => xno1_at | 2 => xno2_at | 3 => xno3_at | 4 => xno4_at | _ + 5 => xno0_at
    ki_BadText := fun | 0, b, h => (by have h : some false = some b := h; cases h; exact kit_f xhd1 xty1 xs0_BadText xn0_BadText) | 1, b, h => (by have h : some true = some b := h; cases h; exact kit_t xhd1 xty1 xs1_BadText) | 2, b, h => (by have h : some false = some b := h; cases h; exact kit_f xhd1 xty1 xs2_BadText xn2_BadText) | 3, b, h => (by have h : some false = some b := h; cases h; exact kit_f xhd1 xty1 xs3_BadText xn3_BadText) | 4, b, h => (by have h : some false = some b := h; cases h; exact kit_f xhd1 xty1 xs4_BadText xn4_BadText) | _ + 5, b, h => (by have h : none = some b := h; cases h)
    ki_NotAllowed := fun | 0, b, h => (by have h : some false = some b := h; cases h; exact kit_f xhd2 xty2 xs0_NotAllowed xn0_NotAllowed) | 1, b, h => (by have h : some false = some b := h; cases h; exact kit_f xhd2 xty2 xs1_NotAllowed xn1_NotAllowed) | 2, b, h => (by have h : some true = some b := h; cases h; exact kit_t xhd2 xty2 xs2_NotAllowed) | 3, b, h => (by have h : some false = some b := h; cases h; exact kit_f xhd2 xty2 xs3_NotAllowed xn3_NotAllowed) | 4, b, h => (by have h : some false = some b := h; cases h; exact kit_f xhd2 xty2 xs4_NotAllowed xn4_NotAllowed) | _ + 5, b, h => (by have h : none = some b := h; cases h)
    ki_UnknownName := fun | 0, b, h => (by have h : some false = some b := h; cases h; exact kit_f xhd3 xty3 xs0_UnknownName xn0_UnknownName) | 1, b, h => (by have h : some false = some b := h; cases h; exact kit_f xhd3 xty3 xs1_UnknownName xn1_UnknownName) | 2, b, h => (by have h : some false = some b := h; cases h; exact kit_f xhd3 xty3 xs2_UnknownName xn2_UnknownName) | 3, b, h => (by have h : some true = some b := h; cases h; exact kit_t xhd3 xty3 xs3_UnknownName) | 4, b, h => (by have h : some false = some b := h; cases h; exact kit_f xhd3 xty3 xs4_UnknownName xn4_UnknownName) | _ + 5, b, h => (by have h : none = some b := h; cases h)
    em_WritError := fun | 0, b, h => (by have h : some true = some b := h; cases h; exact PySem.W.exm_ref xsb0 xhd0 xty0 xs0_WritError) | 1, b, h => (by have h : some true = some b := h; cases h; exact PySem.W.exm_ref xsb0 xhd0 xty0 xs1_WritError) | 2, b, h => (by have h : some true = some b := h; cases h; exact PySem.W.exm_ref xsb0 xhd0 xty0 xs2_WritError) | 3, b, h => (by have h : some true = some b := h; cases h; exact PySem.W.exm_ref xsb0 xhd0 xty0 xs3_WritError) | 4, b, h => (by have h : some true = some b := h; cases h; exact PySem.W.exm_ref xsb0 xhd0 xty0 xs4_WritError) | _ + 5, b, h => (by have h : none = some b := h; cases h)
    f0 := xm_mk (C := X1) l0 c0 k0 fun _ _ _ _ _ _ us hl => match us, hl with | [_, _], _ => rfl
    f1 := fnAt_mk X G a1 l1 c1 k1 fun _ _ _ _ _ _ us hl => match us, hl with | [_], _ => rfl
    f2 := fnAt_mk X G a2 l2 c2 k2 fun _ _ _ _ _ _ us hl => match us, hl with | [_], _ => rfl
    f3 := fnAt_mk X G a3 l3 c3 k3 fun _ _ _ _ _ _ us hl => match us, hl with | [_], _ => rfl
    f4 := fnAt_mk X G a4 l4 c4 k4 fun _ _ _ _ _ _ us hl => match us, hl with | [_], _ => rfl
    f5 := fnAt_mk X G a5 l5 c5 k5 fun _ _ _ _ _ _ us hl => match us, hl with | [_], _ => rfl
    f6 := fnAt_mk X G a6 l6 c6 k6 fun _ _ _ _ _ _ us hl => match us, hl with | [_], _ => rfl
    f7 := fnAt_mk X G a7 l7 c7 k7 fun _ _ _ _ _ _ us hl => match us, hl with | [_], _ => rfl
    f8 := fnAt_mk X G a8 l8 c8 k8 fun _ _ _ _ _ _ us hl => match us, hl with | [_, _], _ => rfl
    f9 := fnAt_mk X G a9 l9 c9 k9 fun _ _ _ _ _ _ us hl => match us, hl with | [_, _], _ => rfl
    f10 := fnAt_mk X G a10 l10 c10 k10 fun _ _ _ _ _ _ us hl => match us, hl with | [_, _], _ => rfl
    f11 := fnAt_mk X G a11 l11 c11 k11 fun _ _ _ _ _ _ us hl => match us, hl with | [_, _, _], _ => rfl
    f12 := fnAt_mk X G a12 l12 c12 k12 fun _ _ _ _ _ _ us hl => match us, hl with | [_, _, _], _ => rfl
    f13 := fnAt_mk X G a13 l13 c13 k13 fun _ _ _ _ _ _ us hl => match us, hl with | [_, _], _ => rfl
    f14 := fnAt_mk X G a14 l14 c14 k14 fun _ _ _ _ _ _ us hl => match us, hl with | [_, _], _ => rfl
    f15 := fnAt_mk X G a15 l15 c15 k15 fun _ _ _ _ _ _ us hl => match us, hl with | [_, _], _ => rfl
    f16 := mtAt_mk a16 i16 l16 c16 k16 fun _ _ _ _ _ _ us hl => match us, hl with | [_], _ => rfl
    f17 := mtAt_mk a17 i17 l17 c17 k17 fun _ _ _ _ _ _ us hl => match us, hl with | [_, _], _ => rfl
    f18 := mtAt_mk a18 i18 l18 c18 k18 fun _ _ _ _ _ _ us hl => match us, hl with | [_], _ => rfl
    f19 := mtAt_mk a19 i19 l19 c19 k19 fun _ _ _ _ _ _ us hl => match us, hl with | [_, _], _ => rfl
    f20 := mtAt_mk a20 i20 l20 c20 k20 fun _ _ _ _ _ _ us hl => match us, hl with | [_, _], _ => rfl
    f21 := fnAt_mk X G a21 l21 c21 k21 fun _ _ _ _ _ _ us hl => match us, hl with | [_], _ => rfl
    f22 := fnAt_mk X G a22 l22 c22 k22 fun _ _ _ _ _ _ us hl => match us, hl with | [_], _ => rfl
    f23 := fnAt_mk X G a23 l23 c23 k23 fun _ _ _ _ _ _ us hl => match us, hl with | [_], _ => rfl
    f24 := fnAt_mk X G a24 l24 c24 k24 fun _ _ _ _ _ _ us hl => match us, hl with | [_, _, _], _ => rfl
    f25 := fnAt_mk X G a25 l25 c25 k25 fun _ _ _ _ _ _ us hl => match us, hl with | [_, _, _, _, _], _ => rfl
    f26 := fnAt_mk X G a26 l26 c26 k26 fun _ _ _ _ _ _ us hl => match us, hl with | [_, _, _, _], _ => rfl
    f27 := fnAt_mk X G a27 l27 c27 k27 fun _ _ _ _ _ _ us hl => match us, hl with | [_, _, _, _], _ => rfl
    f28 := fnAt_mk X G a28 l28 c28 k28 fun _ _ _ _ _ _ us hl => match us, hl with | [_, _], _ => rfl
    f29 := fnAt_mk X G a29 l29 c29 k29 fun _ _ _ _ _ _ us hl => match us, hl with | [_, _], _ => rfl
    f30 := fnAt_mk X G a30 l30 c30 k30 fun _ _ _ _ _ _ us hl => match us, hl with | [_, _], _ => rfl
    f31 := xm_mk (C := X4) l31 c31 k31 fun _ _ _ _ _ _ us hl => match us, hl with | [_, _, _], _ => rfl
    f32 := mtAt_mk a32 i32 l32 c32 k32 fun _ _ _ _ _ _ us hl => match us, hl with | [_, _, _, _, _], _ => rfl
    f33 := mtAt_mk a33 i33 l33 c33 k33 fun _ _ _ _ _ _ us hl => match us, hl with | [_, _], _ => rfl
    f34 := mtAt_mk a34 i34 l34 c34 k34 fun _ _ _ _ _ _ us hl => match us, hl with | [_, _, _], _ => rfl
    f35 := mtAt_mk a35 i35 l35 c35 k35 fun _ _ _ _ _ _ us hl => match us, hl with | [_, _], _ => rfl
    f36 := mtAt_mk a36 i36 l36 c36 k36 fun _ _ _ _ _ _ us hl => match us, hl with | [_, _, _], _ => rfl
    f37 := mtAt_mk a37 i37 l37 c37 k37 fun _ _ _ _ _ _ us hl => match us, hl with | [_, _], _ => rfl
    f38 := mtAt_mk a38 i38 l38 c38 k38 fun _ _ _ _ _ _ us hl => match us, hl with | [_, _], _ => rfl
    f39 := fnAt_mk X G a39 l39 c39 k39 fun _ _ _ _ _ _ us hl => match us, hl with | [_, _, _], _ => rfl
    f40 := fnAt_mk X G a40 l40 c40 k40 fun _ _ _ _ _ _ us hl => match us, hl with | [_, _], _ => rfl
    f41 := fnAt_mk X G a41 l41 c41 k41 fun _ _ _ _ _ _ us hl => match us, hl with | [_, _, _], _ => rfl
    f42 := fnAt_mk X G a42 l42 c42 k42 fun _ _ _ _ _ _ us hl => match us, hl with | [_, _, _], _ => rfl
    f43 := fnAt_mk X G a43 l43 c43 k43 fun _ _ _ _ _ _ us hl => match us, hl with | [_, _, _], _ => rfl
    f44 := mtAt_mk a44 i44 l44 c44 k44 fun _ _ _ _ _ _ us hl => match us, hl with | [_], _ => rfl
    f45 := mtAt_mk a45 i45 l45 c45 k45 fun _ _ _ _ _ _ us hl => match us, hl with | [_, _, _, _], _ => rfl
    f46 := mtAt_mk a46 i46 l46 c46 k46 fun _ _ _ _ _ _ us hl => match us, hl with | [_, _], _ => rfl
    f47 := mtAt_mk a47 i47 l47 c47 k47 fun _ _ _ _ _ _ us hl => match us, hl with | [_], _ => rfl
    f48 := mtAt_mk a48 i48 l48 c48 k48 fun _ _ _ _ _ _ us hl => match us, hl with | [_], _ => rfl
    f49 := mtAt_mk a49 i49 l49 c49 k49 fun _ _ _ _ _ _ us hl => match us, hl with | [_, _], _ => rfl
    f50 := mtAt_mk a50 i50 l50 c50 k50 fun _ _ _ _ _ _ us hl => match us, hl with | [_, _], _ => rfl
    f51 := mtAt_mk a51 i51 l51 c51 k51 fun _ _ _ _ _ _ us hl => match us, hl with | [_, _], _ => rfl
    f52 := mtAt_mk a52 i52 l52 c52 k52 fun _ _ _ _ _ _ us hl => match us, hl with | [_], _ => rfl
    f53 := mtAt_mk a53 i53 l53 c53 k53 fun _ _ _ _ _ _ us hl => match us, hl with | [_], _ => rfl
    f54 := mtAt_mk a54 i54 l54 c54 k54 fun _ _ _ _ _ _ us hl => match us, hl with | [_], _ => rfl
    f55 := mtAt_mk a55 i55 l55 c55 k55 fun _ _ _ _ _ _ us hl => match us, hl with | [_, _], _ => rfl
    f56 := mtAt_mk a56 i56 l56 c56 k56 fun _ _ _ _ _ _ us hl => match us, hl with | [_, _, _], _ => rfl
    f57 := mtAt_mk a57 i57 l57 c57 k57 fun _ _ _ _ _ _ us hl => match us, hl with | [_, _], _ => rfl
    f58 := mtAt_mk a58 i58 l58 c58 k58 fun _ _ _ _ _ _ us hl => match us, hl with | [_, _, _], _ => rfl
    f59 := mtAt_mk a59 i59 l59 c59 k59 fun _ _ _ _ _ _ us hl => match us, hl with | [_, _], _ => rfl
    f60 := mtAt_mk a60 i60 l60 c60 k60 fun _ _ _ _ _ _ us hl => match us, hl with | [_], _ => rfl
    f61 := fnAt_mk X G a61 l61 c61 k61 fun _ _ _ _ _ _ us hl => match us, hl with | [_, _], _ => rfl
    f62 := fnAt_mk X G a62 l62 c62 k62 fun _ _ _ _ _ _ us hl => match us, hl with | [_, _, _], _ => rfl
    f63 := fnAt_mk X G a63 l63 c63 k63 fun _ _ _ _ _ _ us hl => match us, hl with | [_], _ => rfl }
  exact ⟨_, fun s v => .of_eq rfl, fun base _ _ => fn_weak (good (P := l.prog) (base := base) T 201 63 (by decide)) (spL_spF (G := ⟨K, fun c => ([C0, C1, C2, C3] : List Addr).getD c 0, fun c => ([["_entries", "_struck", "_amounts"], ["_book", "_person", "_day", "_known", "_rules", "dossier"], ["_payments"], ["_book", "_ledger", "_claims", "_journal"]] : List (List Str)).getD c [], fun k => ([X0, X1, X2, X3, X4] : List Addr).getD k X0, xf⟩) law_end)⟩
theorem walk {l : PySem.W.OpenLaw} {q : Program} {loose : List Str} {XP : (Str → Option Value) → Heap → Prop} {YP : World → Heap → Prop} {d : DefRec} {K : Params → PySem.W.Frag} (hn : l.most = some 63) (hdf : d.params.defaults = [])
    (hY : ∀ (w : World) (h : Heap), YP w h → (K w.params).In h)
    (F : ∀ (w : World) (mg : Str → Option Value) (fa : Addr) (h : Heap), (K w.params).In h → h.Ns mainGlobals mg → mg d.name = some (.ref fa) →
      ∃ fd : FuncData, (∀ (s : Shared) (u : Value), BindsTo s fd ⟨[u], []⟩ [("script", u)]) ∧ ∀ base : Heap, (K w.params).In base → base.Ns mainGlobals mg → FnOk l.prog w (K w.params) mg base (L2N.CX l.prog w) 201 fa fd ["script"] (spL (K w.params))) :
    PySem.W.WalkO q loose XP YP l.row.toRowW d [] (fun f vs => PySem.call f vs) :=
  L2.walk_of (n := 63) (k := 201) (x := "script") (CX := fun w => L2N.CX l.prog w) (sp := fun w => spL (K w.params)) hn (by decide) hdf ⟨rfl, by decide, by decide⟩ hY F
    (fun _ _ a ns hl _ hS => ⟨a, ns, rfl, hl, hS, fun _ => rfl⟩) fun _ _ _ _ _ z => cx_none z
end K31
set_option linter.all false
set_option Elab.async false
set_option maxRecDepth 100000
set_option maxHeartbeats 4000000
open PySem PySem.W PyProof.Rows
set_option maxRecDepth 100000 in
set_option maxHeartbeats 0 in
theorem PySem.Challenge.cw_duewrits_k31_a_hundred_entries_holds : PySem.Challenge.rw_duewrits_k31_a_hundred_entries.Holds := by
  w_on; o_law; k_head; (case hw => w_witness2)
  k_fill
  refine K31.walk (l := PySem.Challenge.rw_duewrits_k31_a_hundred_entries) rfl rfl (fun w h Y => PySem.W.kIn_of Y) ?F
  case F =>
    intro w mg fa h KX G hmg
    refine' K31.all_mk KX G hmg ?z_all ?z_dict ?z_int ?z_isinstance ?z_len ?z_list ?z_range ?z_tuple ?k_AMOUNTS ?k_CONDITIONS ?g_DAYS ?g_DIGITS ?g_LARGEST_NUMBER ?g_LETTERS ?g_LONGEST_NAME ?g_LONGEST_NUMBER ?g_MOST_DEEDS ?g_MOST_ENTRIES ?g_MOST_PERCENT ?g_MOST_WORDS ?k_RESERVED ?aC0 ?pg0 ?hd0 ?po0 ?sa0 ?mk0 ?kc0 ?na0_0 ?na0_1 ?na0_2 ?aC1 ?pg1 ?hd1 ?po1 ?sa1 ?mk1 ?kc1 ?na1_0 ?na1_1 ?na1_2 ?na1_3 ?na1_4 ?na1_5 ?aC2 ?pg2 ?hd2 ?po2 ?sa2 ?mk2 ?kc2 ?na2_0 ?aC3 ?pg3 ?hd3 ?po3 ?sa3 ?mk3 ?kc3 ?na3_0 ?na3_1 ?na3_2 ?na3_3 ?xhn ?xht ?gx0 ?xga0 ?xgt0 ?xsb0 ?xhd0 ?xca0 ?xmr0 ?xty0 ?xkp0 ?xno0_at ?gx1 ?xga1 ?xgt1 ?xsb1 ?xhd1 ?xca1 ?xmr1 ?xty1 ?xkp1 ?xno1_at ?gx2 ?xga2 ?xgt2 ?xsb2 ?xhd2 ?xca2 ?xmr2 ?xty2 ?xkp2 ?xno2_at ?xxc2 ?gx3 ?xga3 ?xgt3 ?xsb3 ?xhd3 ?xca3 ?xmr3 ?xty3 ?xkp3 ?xno3_at ?gx4 ?xga4 ?xgt4 ?xsb4 ?xhd4 ?xca4 ?xmr4 ?xty4 ?xkp4 ?xno4_at ?xlk1 ?xrf1 ?xsa1 ?xlk4 ?xrf4 ?xsa4 ?xbg0 ?xbr0 ?xbf0 ?xs0_BadText ?xn0_BadText ?xs1_BadText ?xs2_BadText ?xn2_BadText ?xs3_BadText ?xn3_BadText ?xs4_BadText ?xn4_BadText ?xs0_NotAllowed ?xn0_NotAllowed ?xs1_NotAllowed ?xn1_NotAllowed ?xs2_NotAllowed ?xs3_NotAllowed ?xn3_NotAllowed ?xs4_NotAllowed ?xn4_NotAllowed ?xs0_UnknownName ?xn0_UnknownName ?xs1_UnknownName ?xn1_UnknownName ?xs2_UnknownName ?xn2_UnknownName ?xs3_UnknownName ?xs4_UnknownName ?xn4_UnknownName ?xs0_WritError ?xs1_WritError ?xs2_WritError ?xs3_WritError ?xs4_WritError ?xii1 ?xti1 ?l0 ?c0 ?k0 ?a1 ?l1 ?c1 ?k1 ?a2 ?l2 ?c2 ?k2 ?a3 ?l3 ?c3 ?k3 ?a4 ?l4 ?c4 ?k4 ?a5 ?l5 ?c5 ?k5 ?a6 ?l6 ?c6 ?k6 ?a7 ?l7 ?c7 ?k7 ?a8 ?l8 ?c8 ?k8 ?a9 ?l9 ?c9 ?k9 ?a10 ?l10 ?c10 ?k10 ?a11 ?l11 ?c11 ?k11 ?a12 ?l12 ?c12 ?k12 ?a13 ?l13 ?c13 ?k13 ?a14 ?l14 ?c14 ?k14 ?a15 ?l15 ?c15 ?k15 ?a16 ?i16 ?l16 ?c16 ?k16 ?a17 ?i17 ?l17 ?c17 ?k17 ?a18 ?i18 ?l18 ?c18 ?k18 ?a19 ?i19 ?l19 ?c19 ?k19 ?a20 ?i20 ?l20 ?c20 ?k20 ?a21 ?l21 ?c21 ?k21 ?a22 ?l22 ?c22 ?k22 ?a23 ?l23 ?c23 ?k23 ?a24 ?l24 ?c24 ?k24 ?a25 ?l25 ?c25 ?k25 ?a26 ?l26 ?c26 ?k26 ?a27 ?l27 ?c27 ?k27 ?a28 ?l28 ?c28 ?k28 ?a29 ?l29 ?c29 ?k29 ?a30 ?l30 ?c30 ?k30 ?xii4 ?xti4 ?l31 ?c31 ?k31 ?a32 ?i32 ?l32 ?c32 ?k32 ?a33 ?i33 ?l33 ?c33 ?k33 ?a34 ?i34 ?l34 ?c34 ?k34 ?a35 ?i35 ?l35 ?c35 ?k35 ?a36 ?i36 ?l36 ?c36 ?k36 ?a37 ?i37 ?l37 ?c37 ?k37 ?a38 ?i38 ?l38 ?c38 ?k38 ?a39 ?l39 ?c39 ?k39 ?a40 ?l40 ?c40 ?k40 ?a41 ?l41 ?c41 ?k41 ?a42 ?l42 ?c42 ?k42 ?a43 ?l43 ?c43 ?k43 ?a44 ?i44 ?l44 ?c44 ?k44 ?a45 ?i45 ?l45 ?c45 ?k45 ?a46 ?i46 ?l46 ?c46 ?k46 ?a47 ?i47 ?l47 ?c47 ?k47 ?a48 ?i48 ?l48 ?c48 ?k48 ?a49 ?i49 ?l49 ?c49 ?k49 ?a50 ?i50 ?l50 ?c50 ?k50 ?a51 ?i51 ?l51 ?c51 ?k51 ?a52 ?i52 ?l52 ?c52 ?k52 ?a53 ?i53 ?l53 ?c53 ?k53 ?a54 ?i54 ?l54 ?c54 ?k54 ?a55 ?i55 ?l55 ?c55 ?k55 ?a56 ?i56 ?l56 ?c56 ?k56 ?a57 ?i57 ?l57 ?c57 ?k57 ?a58 ?i58 ?l58 ?c58 ?k58 ?a59 ?i59 ?l59 ?c59 ?k59 ?a60 ?i60 ?l60 ?c60 ?k60 ?a61 ?l61 ?c61 ?k61 ?a62 ?l62 ?c62 ?k62 ?a63 ?l63 ?c63 ?k63
    (case z_all => k_is)
    (case z_dict => k_is)
    (case z_int => k_is)
    (case z_isinstance => k_is)
    (case z_len => k_is)
    (case z_list => k_is)
    (case z_range => k_is)
    (case z_tuple => k_is)
    (case k_AMOUNTS => open L2 Ev K31 in refine' ⟨_, ?aAMOUNTS, kd_mk ?lAMOUNTS ?iAMOUNTS ?oAMOUNTS ?pAMOUNTS⟩; (case aAMOUNTS => k_is); (case lAMOUNTS => k_is); (case iAMOUNTS => exact ⟨⟨_, _, rfl, rfl⟩, ⟨⟨_, _, rfl, rfl⟩, ⟨⟨_, _, rfl, rfl⟩, ⟨⟨_, _, rfl, rfl⟩, ⟨⟨_, _, rfl, rfl⟩, ⟨⟨_, _, rfl, rfl⟩, ⟨⟨_, _, rfl, rfl⟩, ⟨⟨_, _, rfl, rfl⟩, trivial⟩⟩⟩⟩⟩⟩⟩⟩); (case oAMOUNTS => rfl); (case pAMOUNTS => refine Paired.cons ⟨_, .ref _, rfl, rfl, ?_⟩ ?_; (refine' always_tup (vs := (["name"] : List Str).map V.str) ?tAMOUNTS0 ?tAMOUNTS01 ?tAMOUNTS02 ?tAMOUNTS03 ?tAMOUNTS04 (txts_always (["name"] : List Str)); (case tAMOUNTS0 => k_is); (case tAMOUNTS01 => rfl); (case tAMOUNTS02 => rfl); (case tAMOUNTS03 => decide); (case tAMOUNTS04 => exact (.cons ⟨_, rfl⟩ .nil))); refine Paired.cons ⟨_, .ref _, rfl, rfl, ?_⟩ ?_; (refine' always_tup (vs := (["amount", "amount"] : List Str).map V.str) ?tAMOUNTS1 ?tAMOUNTS11 ?tAMOUNTS12 ?tAMOUNTS13 ?tAMOUNTS14 (txts_always (["amount", "amount"] : List Str)); (case tAMOUNTS1 => k_is); (case tAMOUNTS11 => rfl); (case tAMOUNTS12 => rfl); (case tAMOUNTS13 => decide); (case tAMOUNTS14 => exact (.cons ⟨_, rfl⟩ (.cons ⟨_, rfl⟩ .nil)))); refine Paired.cons ⟨_, .ref _, rfl, rfl, ?_⟩ ?_; (refine' always_tup (vs := (["amount", "amount"] : List Str).map V.str) ?tAMOUNTS2 ?tAMOUNTS21 ?tAMOUNTS22 ?tAMOUNTS23 ?tAMOUNTS24 (txts_always (["amount", "amount"] : List Str)); (case tAMOUNTS2 => k_is); (case tAMOUNTS21 => rfl); (case tAMOUNTS22 => rfl); (case tAMOUNTS23 => decide); (case tAMOUNTS24 => exact (.cons ⟨_, rfl⟩ (.cons ⟨_, rfl⟩ .nil)))); refine Paired.cons ⟨_, .ref _, rfl, rfl, ?_⟩ ?_; (refine' always_tup (vs := (["amount", "amount"] : List Str).map V.str) ?tAMOUNTS3 ?tAMOUNTS31 ?tAMOUNTS32 ?tAMOUNTS33 ?tAMOUNTS34 (txts_always (["amount", "amount"] : List Str)); (case tAMOUNTS3 => k_is); (case tAMOUNTS31 => rfl); (case tAMOUNTS32 => rfl); (case tAMOUNTS33 => decide); (case tAMOUNTS34 => exact (.cons ⟨_, rfl⟩ (.cons ⟨_, rfl⟩ .nil)))); refine Paired.cons ⟨_, .ref _, rfl, rfl, ?_⟩ ?_; (refine' always_tup (vs := (["amount", "amount"] : List Str).map V.str) ?tAMOUNTS4 ?tAMOUNTS41 ?tAMOUNTS42 ?tAMOUNTS43 ?tAMOUNTS44 (txts_always (["amount", "amount"] : List Str)); (case tAMOUNTS4 => k_is); (case tAMOUNTS41 => rfl); (case tAMOUNTS42 => rfl); (case tAMOUNTS43 => decide); (case tAMOUNTS44 => exact (.cons ⟨_, rfl⟩ (.cons ⟨_, rfl⟩ .nil)))); refine Paired.cons ⟨_, .ref _, rfl, rfl, ?_⟩ ?_; (refine' always_tup (vs := (["amount", "amount"] : List Str).map V.str) ?tAMOUNTS5 ?tAMOUNTS51 ?tAMOUNTS52 ?tAMOUNTS53 ?tAMOUNTS54 (txts_always (["amount", "amount"] : List Str)); (case tAMOUNTS5 => k_is); (case tAMOUNTS51 => rfl); (case tAMOUNTS52 => rfl); (case tAMOUNTS53 => decide); (case tAMOUNTS54 => exact (.cons ⟨_, rfl⟩ (.cons ⟨_, rfl⟩ .nil)))); refine Paired.cons ⟨_, .ref _, rfl, rfl, ?_⟩ ?_; (refine' always_tup (vs := (["hundredths", "amount"] : List Str).map V.str) ?tAMOUNTS6 ?tAMOUNTS61 ?tAMOUNTS62 ?tAMOUNTS63 ?tAMOUNTS64 (txts_always (["hundredths", "amount"] : List Str)); (case tAMOUNTS6 => k_is); (case tAMOUNTS61 => rfl); (case tAMOUNTS62 => rfl); (case tAMOUNTS63 => decide); (case tAMOUNTS64 => exact (.cons ⟨_, rfl⟩ (.cons ⟨_, rfl⟩ .nil)))); refine Paired.cons ⟨_, .ref _, rfl, rfl, ?_⟩ ?_; (refine' always_tup (vs := (["condition", "amount", "amount"] : List Str).map V.str) ?tAMOUNTS7 ?tAMOUNTS71 ?tAMOUNTS72 ?tAMOUNTS73 ?tAMOUNTS74 (txts_always (["condition", "amount", "amount"] : List Str)); (case tAMOUNTS7 => k_is); (case tAMOUNTS71 => rfl); (case tAMOUNTS72 => rfl); (case tAMOUNTS73 => decide); (case tAMOUNTS74 => exact (.cons ⟨_, rfl⟩ (.cons ⟨_, rfl⟩ (.cons ⟨_, rfl⟩ .nil))))); exact .nil))
    (case k_CONDITIONS => open L2 Ev K31 in refine' ⟨_, ?aCONDITIONS, kd_mk ?lCONDITIONS ?iCONDITIONS ?oCONDITIONS ?pCONDITIONS⟩; (case aCONDITIONS => k_is); (case lCONDITIONS => k_is); (case iCONDITIONS => exact ⟨⟨_, _, rfl, rfl⟩, ⟨⟨_, _, rfl, rfl⟩, ⟨⟨_, _, rfl, rfl⟩, ⟨⟨_, _, rfl, rfl⟩, ⟨⟨_, _, rfl, rfl⟩, ⟨⟨_, _, rfl, rfl⟩, trivial⟩⟩⟩⟩⟩⟩); (case oCONDITIONS => rfl); (case pCONDITIONS => refine Paired.cons ⟨_, .ref _, rfl, rfl, ?_⟩ ?_; (refine' always_tup (vs := (["amount", "amount"] : List Str).map V.str) ?tCONDITIONS0 ?tCONDITIONS01 ?tCONDITIONS02 ?tCONDITIONS03 ?tCONDITIONS04 (txts_always (["amount", "amount"] : List Str)); (case tCONDITIONS0 => k_is); (case tCONDITIONS01 => rfl); (case tCONDITIONS02 => rfl); (case tCONDITIONS03 => decide); (case tCONDITIONS04 => exact (.cons ⟨_, rfl⟩ (.cons ⟨_, rfl⟩ .nil)))); refine Paired.cons ⟨_, .ref _, rfl, rfl, ?_⟩ ?_; (refine' always_tup (vs := (["amount", "amount"] : List Str).map V.str) ?tCONDITIONS1 ?tCONDITIONS11 ?tCONDITIONS12 ?tCONDITIONS13 ?tCONDITIONS14 (txts_always (["amount", "amount"] : List Str)); (case tCONDITIONS1 => k_is); (case tCONDITIONS11 => rfl); (case tCONDITIONS12 => rfl); (case tCONDITIONS13 => decide); (case tCONDITIONS14 => exact (.cons ⟨_, rfl⟩ (.cons ⟨_, rfl⟩ .nil)))); refine Paired.cons ⟨_, .ref _, rfl, rfl, ?_⟩ ?_; (refine' always_tup (vs := (["name"] : List Str).map V.str) ?tCONDITIONS2 ?tCONDITIONS21 ?tCONDITIONS22 ?tCONDITIONS23 ?tCONDITIONS24 (txts_always (["name"] : List Str)); (case tCONDITIONS2 => k_is); (case tCONDITIONS21 => rfl); (case tCONDITIONS22 => rfl); (case tCONDITIONS23 => decide); (case tCONDITIONS24 => exact (.cons ⟨_, rfl⟩ .nil))); refine Paired.cons ⟨_, .ref _, rfl, rfl, ?_⟩ ?_; (refine' always_tup (vs := (["condition"] : List Str).map V.str) ?tCONDITIONS3 ?tCONDITIONS31 ?tCONDITIONS32 ?tCONDITIONS33 ?tCONDITIONS34 (txts_always (["condition"] : List Str)); (case tCONDITIONS3 => k_is); (case tCONDITIONS31 => rfl); (case tCONDITIONS32 => rfl); (case tCONDITIONS33 => decide); (case tCONDITIONS34 => exact (.cons ⟨_, rfl⟩ .nil))); refine Paired.cons ⟨_, .ref _, rfl, rfl, ?_⟩ ?_; (refine' always_tup (vs := (["condition", "condition"] : List Str).map V.str) ?tCONDITIONS4 ?tCONDITIONS41 ?tCONDITIONS42 ?tCONDITIONS43 ?tCONDITIONS44 (txts_always (["condition", "condition"] : List Str)); (case tCONDITIONS4 => k_is); (case tCONDITIONS41 => rfl); (case tCONDITIONS42 => rfl); (case tCONDITIONS43 => decide); (case tCONDITIONS44 => exact (.cons ⟨_, rfl⟩ (.cons ⟨_, rfl⟩ .nil)))); refine Paired.cons ⟨_, .ref _, rfl, rfl, ?_⟩ ?_; (refine' always_tup (vs := (["condition", "condition"] : List Str).map V.str) ?tCONDITIONS5 ?tCONDITIONS51 ?tCONDITIONS52 ?tCONDITIONS53 ?tCONDITIONS54 (txts_always (["condition", "condition"] : List Str)); (case tCONDITIONS5 => k_is); (case tCONDITIONS51 => rfl); (case tCONDITIONS52 => rfl); (case tCONDITIONS53 => decide); (case tCONDITIONS54 => exact (.cons ⟨_, rfl⟩ (.cons ⟨_, rfl⟩ .nil)))); exact .nil))
    (case g_DAYS => k_is)
    (case g_DIGITS => k_is)
    (case g_LARGEST_NUMBER => k_is)
    (case g_LETTERS => k_is)
    (case g_LONGEST_NAME => k_is)
    (case g_LONGEST_NUMBER => k_is)
    (case g_MOST_DEEDS => k_is)
    (case g_MOST_ENTRIES => k_is)
    (case g_MOST_PERCENT => k_is)
    (case g_MOST_WORDS => k_is)
    (case k_RESERVED => open L2 Ev K31 in refine' tup_mk ?aRESERVED ?pRESERVED; (case aRESERVED => k_is); (case pRESERVED => (refine' always_tup (vs := (["fact", "known", "due", "or", "plus", "minus", "times", "least", "most", "percent", "if", "below", "same", "not", "both", "either"] : List Str).map V.str) ?tRESERVED ?tRESERVED1 ?tRESERVED2 ?tRESERVED3 ?tRESERVED4 (txts_always (["fact", "known", "due", "or", "plus", "minus", "times", "least", "most", "percent", "if", "below", "same", "not", "both", "either"] : List Str)); (case tRESERVED => k_is); (case tRESERVED1 => rfl); (case tRESERVED2 => rfl); (case tRESERVED3 => decide); (case tRESERVED4 => exact (.cons ⟨_, rfl⟩ (.cons ⟨_, rfl⟩ (.cons ⟨_, rfl⟩ (.cons ⟨_, rfl⟩ (.cons ⟨_, rfl⟩ (.cons ⟨_, rfl⟩ (.cons ⟨_, rfl⟩ (.cons ⟨_, rfl⟩ (.cons ⟨_, rfl⟩ (.cons ⟨_, rfl⟩ (.cons ⟨_, rfl⟩ (.cons ⟨_, rfl⟩ (.cons ⟨_, rfl⟩ (.cons ⟨_, rfl⟩ (.cons ⟨_, rfl⟩ (.cons ⟨_, rfl⟩ .nil))))))))))))))))))))
    (case aC0 => k_is)
    (case pg0 => k_is)
    (case hd0 => k_is)
    (case po0 => k_is)
    (case sa0 => k_is)
    (case mk0 => k_is)
    (case kc0 => k_is)
    (case na0_0 => k_is)
    (case na0_1 => k_is)
    (case na0_2 => k_is)
    (case aC1 => k_is)
    (case pg1 => k_is)
    (case hd1 => k_is)
    (case po1 => k_is)
    (case sa1 => k_is)
    (case mk1 => k_is)
    (case kc1 => k_is)
    (case na1_0 => k_is)
    (case na1_1 => k_is)
    (case na1_2 => k_is)
    (case na1_3 => k_is)
    (case na1_4 => k_is)
    (case na1_5 => k_is)
    (case aC2 => k_is)
    (case pg2 => k_is)
    (case hd2 => k_is)
    (case po2 => k_is)
    (case sa2 => k_is)
    (case mk2 => k_is)
    (case kc2 => k_is)
    (case na2_0 => k_is)
    (case aC3 => k_is)
    (case pg3 => k_is)
    (case hd3 => k_is)
    (case po3 => k_is)
    (case sa3 => k_is)
    (case mk3 => k_is)
    (case kc3 => k_is)
    (case na3_0 => k_is)
    (case na3_1 => k_is)
    (case na3_2 => k_is)
    (case na3_3 => k_is)
    (case xhn => k_is)
    (case xht => k_is)
    (case gx0 => k_is)
    (case xga0 => k_is)
    (case xgt0 => k_is)
    (case xsb0 => k_is)
    (case xhd0 => k_is)
    (case xca0 => k_is)
    (case xmr0 => k_is)
    (case xty0 => k_is)
    (case xkp0 => k_is)
    (case xno0_at => k_is)
    (case gx1 => k_is)
    (case xga1 => k_is)
    (case xgt1 => k_is)
    (case xsb1 => k_is)
    (case xhd1 => k_is)
    (case xca1 => k_is)
    (case xmr1 => k_is)
    (case xty1 => k_is)
    (case xkp1 => k_is)
    (case xno1_at => k_is)
    (case gx2 => k_is)
    (case xga2 => k_is)
    (case xgt2 => k_is)
    (case xsb2 => k_is)
    (case xhd2 => k_is)
    (case xca2 => k_is)
    (case xmr2 => k_is)
    (case xty2 => k_is)
    (case xkp2 => k_is)
    (case xno2_at => k_is)
    (case xxc2 => k_exc)
    (case gx3 => k_is)
    (case xga3 => k_is)
    (case xgt3 => k_is)
    (case xsb3 => k_is)
    (case xhd3 => k_is)
    (case xca3 => k_is)
    (case xmr3 => k_is)
    (case xty3 => k_is)
    (case xkp3 => k_is)
    (case xno3_at => k_is)
    (case gx4 => k_is)
    (case xga4 => k_is)
    (case xgt4 => k_is)
    (case xsb4 => k_is)
    (case xhd4 => k_is)
    (case xca4 => k_is)
    (case xmr4 => k_is)
    (case xty4 => k_is)
    (case xkp4 => k_is)
    (case xno4_at => k_is)
    (case xlk1 => k_is)
    (case xrf1 => first | rfl | k_is)
    (case xsa1 => k_is)
    (case xlk4 => k_is)
    (case xrf4 => first | rfl | k_is)
    (case xsa4 => k_is)
    (case xbg0 => k_is)
    (case xbr0 => k_is)
    (case xbf0 => k_is)
    (case xs0_BadText => k_is)
    (case xn0_BadText => first | rfl | decide)
    (case xs1_BadText => k_is)
    (case xs2_BadText => k_is)
    (case xn2_BadText => first | rfl | decide)
    (case xs3_BadText => k_is)
    (case xn3_BadText => first | rfl | decide)
    (case xs4_BadText => k_is)
    (case xn4_BadText => first | rfl | decide)
    (case xs0_NotAllowed => k_is)
    (case xn0_NotAllowed => first | rfl | decide)
    (case xs1_NotAllowed => k_is)
    (case xn1_NotAllowed => first | rfl | decide)
    (case xs2_NotAllowed => k_is)
    (case xs3_NotAllowed => k_is)
    (case xn3_NotAllowed => first | rfl | decide)
    (case xs4_NotAllowed => k_is)
    (case xn4_NotAllowed => first | rfl | decide)
    (case xs0_UnknownName => k_is)
    (case xn0_UnknownName => first | rfl | decide)
    (case xs1_UnknownName => k_is)
    (case xn1_UnknownName => first | rfl | decide)
    (case xs2_UnknownName => k_is)
    (case xn2_UnknownName => first | rfl | decide)
    (case xs3_UnknownName => k_is)
    (case xs4_UnknownName => k_is)
    (case xn4_UnknownName => first | rfl | decide)
    (case xs0_WritError => k_is)
    (case xs1_WritError => k_is)
    (case xs2_WritError => k_is)
    (case xs3_WritError => k_is)
    (case xs4_WritError => k_is)
    (case xii1 => k_is)
    (case xti1 => k_is)
    (case l0 => k_is)
    (case c0 => k_is)
    (case k0 => k_is)
    (case a1 => k_is)
    (case l1 => k_is)
    (case c1 => k_is)
    (case k1 => k_is)
    (case a2 => k_is)
    (case l2 => k_is)
    (case c2 => k_is)
    (case k2 => k_is)
    (case a3 => k_is)
    (case l3 => k_is)
    (case c3 => k_is)
    (case k3 => k_is)
    (case a4 => k_is)
    (case l4 => k_is)
    (case c4 => k_is)
    (case k4 => k_is)
    (case a5 => k_is)
    (case l5 => k_is)
    (case c5 => k_is)
    (case k5 => k_is)
    (case a6 => k_is)
    (case l6 => k_is)
    (case c6 => k_is)
    (case k6 => k_is)
    (case a7 => k_is)
    (case l7 => k_is)
    (case c7 => k_is)
    (case k7 => k_is)
    (case a8 => k_is)
    (case l8 => k_is)
    (case c8 => k_is)
    (case k8 => k_is)
    (case a9 => k_is)
    (case l9 => k_is)
    (case c9 => k_is)
    (case k9 => k_is)
    (case a10 => k_is)
    (case l10 => k_is)
    (case c10 => k_is)
    (case k10 => k_is)
    (case a11 => k_is)
    (case l11 => k_is)
    (case c11 => k_is)
    (case k11 => k_is)
    (case a12 => k_is)
    (case l12 => k_is)
    (case c12 => k_is)
    (case k12 => k_is)
    (case a13 => k_is)
    (case l13 => k_is)
    (case c13 => k_is)
    (case k13 => k_is)
    (case a14 => k_is)
    (case l14 => k_is)
    (case c14 => k_is)
    (case k14 => k_is)
    (case a15 => k_is)
    (case l15 => k_is)
    (case c15 => k_is)
    (case k15 => k_is)
    (case a16 => k_is)
    (case i16 => k_is)
    (case l16 => k_is)
    (case c16 => k_is)
    (case k16 => k_is)
    (case a17 => k_is)
    (case i17 => k_is)
    (case l17 => k_is)
    (case c17 => k_is)
    (case k17 => k_is)
    (case a18 => k_is)
    (case i18 => k_is)
    (case l18 => k_is)
    (case c18 => k_is)
    (case k18 => k_is)
    (case a19 => k_is)
    (case i19 => k_is)
    (case l19 => k_is)
    (case c19 => k_is)
    (case k19 => k_is)
    (case a20 => k_is)
    (case i20 => k_is)
    (case l20 => k_is)
    (case c20 => k_is)
    (case k20 => k_is)
    (case a21 => k_is)
    (case l21 => k_is)
    (case c21 => k_is)
    (case k21 => k_is)
    (case a22 => k_is)
    (case l22 => k_is)
    (case c22 => k_is)
    (case k22 => k_is)
    (case a23 => k_is)
    (case l23 => k_is)
    (case c23 => k_is)
    (case k23 => k_is)
    (case a24 => k_is)
    (case l24 => k_is)
    (case c24 => k_is)
    (case k24 => k_is)
    (case a25 => k_is)
    (case l25 => k_is)
    (case c25 => k_is)
    (case k25 => k_is)
    (case a26 => k_is)
    (case l26 => k_is)
    (case c26 => k_is)
    (case k26 => k_is)
    (case a27 => k_is)
    (case l27 => k_is)
    (case c27 => k_is)
    (case k27 => k_is)
    (case a28 => k_is)
    (case l28 => k_is)
    (case c28 => k_is)
    (case k28 => k_is)
    (case a29 => k_is)
    (case l29 => k_is)
    (case c29 => k_is)
    (case k29 => k_is)
    (case a30 => k_is)
    (case l30 => k_is)
    (case c30 => k_is)
    (case k30 => k_is)
    (case xii4 => k_is)
    (case xti4 => k_is)
    (case l31 => k_is)
    (case c31 => k_is)
    (case k31 => k_is)
    (case a32 => k_is)
    (case i32 => k_is)
    (case l32 => k_is)
    (case c32 => k_is)
    (case k32 => k_is)
    (case a33 => k_is)
    (case i33 => k_is)
    (case l33 => k_is)
    (case c33 => k_is)
    (case k33 => k_is)
    (case a34 => k_is)
    (case i34 => k_is)
    (case l34 => k_is)
    (case c34 => k_is)
    (case k34 => k_is)
    (case a35 => k_is)
    (case i35 => k_is)
    (case l35 => k_is)
    (case c35 => k_is)
    (case k35 => k_is)
    (case a36 => k_is)
    (case i36 => k_is)
    (case l36 => k_is)
    (case c36 => k_is)
    (case k36 => k_is)
    (case a37 => k_is)
    (case i37 => k_is)
    (case l37 => k_is)
    (case c37 => k_is)
    (case k37 => k_is)
    (case a38 => k_is)
    (case i38 => k_is)
    (case l38 => k_is)
    (case c38 => k_is)
    (case k38 => k_is)
    (case a39 => k_is)
    (case l39 => k_is)
    (case c39 => k_is)
    (case k39 => k_is)
    (case a40 => k_is)
    (case l40 => k_is)
    (case c40 => k_is)
    (case k40 => k_is)
    (case a41 => k_is)
    (case l41 => k_is)
    (case c41 => k_is)
    (case k41 => k_is)
    (case a42 => k_is)
    (case l42 => k_is)
    (case c42 => k_is)
    (case k42 => k_is)
    (case a43 => k_is)
    (case l43 => k_is)
    (case c43 => k_is)
    (case k43 => k_is)
    (case a44 => k_is)
    (case i44 => k_is)
    (case l44 => k_is)
    (case c44 => k_is)
    (case k44 => k_is)
    (case a45 => k_is)
    (case i45 => k_is)
    (case l45 => k_is)
    (case c45 => k_is)
    (case k45 => k_is)
    (case a46 => k_is)
    (case i46 => k_is)
    (case l46 => k_is)
    (case c46 => k_is)
    (case k46 => k_is)
    (case a47 => k_is)
    (case i47 => k_is)
    (case l47 => k_is)
    (case c47 => k_is)
    (case k47 => k_is)
    (case a48 => k_is)
    (case i48 => k_is)
    (case l48 => k_is)
    (case c48 => k_is)
    (case k48 => k_is)
    (case a49 => k_is)
    (case i49 => k_is)
    (case l49 => k_is)
    (case c49 => k_is)
    (case k49 => k_is)
    (case a50 => k_is)
    (case i50 => k_is)
    (case l50 => k_is)
    (case c50 => k_is)
    (case k50 => k_is)
    (case a51 => k_is)
    (case i51 => k_is)
    (case l51 => k_is)
    (case c51 => k_is)
    (case k51 => k_is)
    (case a52 => k_is)
    (case i52 => k_is)
    (case l52 => k_is)
    (case c52 => k_is)
    (case k52 => k_is)
    (case a53 => k_is)
    (case i53 => k_is)
    (case l53 => k_is)
    (case c53 => k_is)
    (case k53 => k_is)
    (case a54 => k_is)
    (case i54 => k_is)
    (case l54 => k_is)
    (case c54 => k_is)
    (case k54 => k_is)
    (case a55 => k_is)
    (case i55 => k_is)
    (case l55 => k_is)
    (case c55 => k_is)
    (case k55 => k_is)
    (case a56 => k_is)
    (case i56 => k_is)
    (case l56 => k_is)
    (case c56 => k_is)
    (case k56 => k_is)
    (case a57 => k_is)
    (case i57 => k_is)
    (case l57 => k_is)
    (case c57 => k_is)
    (case k57 => k_is)
    (case a58 => k_is)
    (case i58 => k_is)
    (case l58 => k_is)
    (case c58 => k_is)
    (case k58 => k_is)
    (case a59 => k_is)
    (case i59 => k_is)
    (case l59 => k_is)
    (case c59 => k_is)
    (case k59 => k_is)
    (case a60 => k_is)
    (case i60 => k_is)
    (case l60 => k_is)
    (case c60 => k_is)
    (case k60 => k_is)
    (case a61 => k_is)
    (case l61 => k_is)
    (case c61 => k_is)
    (case k61 => k_is)
    (case a62 => k_is)
    (case l62 => k_is)
    (case c62 => k_is)
    (case k62 => k_is)
    (case a63 => k_is)
    (case l63 => k_is)
    (case c63 => k_is)
    (case k63 => k_is)
