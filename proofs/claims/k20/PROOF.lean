import PyProof.Rows.All
import Wide.All
import OpenK.AllK
import Wide.FinOn
import HandS.ForMost
import HandS.Exc
import HandS.TryOnly
import HandS.ExcOwn
import HandS.WordsExc
import HandS.TupAny
import HandS.StrMore
import HandS.IsInst
import HandS.Flow
import HandS.Style
import HandS.Codes
import HandS.NoneIn
import HandS.RevRange
import HandS.Deep
import HandS.RaiseMore
import HandS.ExcCtx
import HandS.More
import HandS.Wide
import HandS.Conv
import HandS.ExcInit
import HandS.FStr
import HandS.ExcIs
import HandS.ExcField
import HandS.HotCalls
import KE.KExcIs
import HandS.Iter
import HandS.Zip
import HandS.Walk
import HandS.SortRule
import PySem.Challenge.RW_duewrits_k20_whole_shares
set_option linter.all false
set_option Elab.async false
set_option maxRecDepth 100000
/-! Ev: a small evaluator over pure data and a store of own objects, and its soundness over the hand layer. -/
namespace Ev
open PySem L2

/-! ### data -/
/-- data that nobody changes: scr is the script's list -/
inductive D where
  | non | bl (b : Bool) | int (i : Int) | str (x : Str) | scr (ns : List Int)
  | tup (ds : List D) | lst (ds : List D)
inductive Val where
  | d (x : D) | ref (n : Nat) | vt (vs : List Val)
  /-- a caught exception: its address, its own dict's, the names and data of its fields -/
  | exc (a : Addr) (d : Option Addr) (nm : List Str) (fs : List D)
inductive Cell where
  | lst (ds : List D) | lck (ds : List D) | dic (ks : List Key) (ds : List D) | obj (c : Nat) (fs : List Val)
  /-- a dict while it is walked -/
  | ldk (ks : List Key) (ds : List D)
  /-- a dict whose keys are tuples, and while it is walked -/
  | dit (ks : List (List Key)) (ds : List D) | ldt (ks : List (List Key)) (ds : List D)
abbrev Store := List Cell
/-- an exception: its class's number, the data of its fields -/
structure Ex where
  k : Nat
  fs : List D
inductive R (α : Type) where
  | ok (a : α) (S : Store) | ex (x : Ex) (S : Store) | bad
abbrev Loc := List (Option Val)
inductive SR where
  | nx (L : Loc) (S : Store) | rt (v : Val) (S : Store) | bk (L : Loc) (S : Store) | ct (L : Loc) (S : Store) | ex (x : Ex) (L : Loc) (S : Store) | bad
abbrev SE := Loc → Store → R Val
abbrev SB := Loc → Store → R Bool
abbrev SA := Loc → Store → R (List Val)
abbrev SS := Loc → Store → SR

/-- what is fixed for a program: the classes' addresses, the names of their fields, those of the exceptions -/
structure PC where
  K : PySem.W.Frag
  cls : Nat → Addr
  fld : Nat → List Str
  xcl : Nat → Addr
  xfl : Nat → List Str

/-! ### how data lies in the abstract heap; A: the addresses of own objects -/
section
variable (K : PySem.W.Frag) (A : Addr → Prop) (H : Hp)
mutual
def RepD : D → V → Prop
  | .non, v => v = .non
  | .bl b, v => v = .bl b
  | .int i, v => v = .int i
  | .str x, v => v = .str x
  | .scr ns, v => ∃ a, v = .ref a ∧ ((Rd H a (.lst (ns.map V.int)) ∧ ¬ A a) ∨ ∀ H', SqL K H' a (ns.map V.int))
  | .tup ds, v => ∃ a vs, v = .ref a ∧ SqT K H a vs ∧ RepDs ds vs
  | .lst ds, v => ∃ a vs, v = .ref a ∧ H a = some (.lst vs) ∧ ¬ A a ∧ RepDs ds vs
def RepDs : List D → List V → Prop
  | [], vs => vs = []
  | d :: ds, vs => ∃ v r, vs = v :: r ∧ RepD d v ∧ RepDs ds r
end
/-- as RepD, but a list may be an own one -/
def RepT : D → V → Prop
  | .lst ds, v => ∃ a vs, v = .ref a ∧ H a = some (.lst vs) ∧ RepDs K A H ds vs
  | d, v => RepD K A H d v
variable (ρ : List Addr)
mutual
def RepV : Val → V → Prop
  | .d x, v => RepD K A H x v
  | .ref n, v => ∃ a, ρ[n]? = some a ∧ v = .ref a
  | .vt vs, v => ∃ a ws, v = .ref a ∧ SqT K H a ws ∧ RepVs vs ws
  | .exc a d nm fs, v => v = .ref a ∧ ((d = none ∧ fs = []) ∨ ∃ dx vs, d = some dx ∧ H dx = some (.xd (nm.zip vs)) ∧ RepDs K A H fs vs)
def RepVs : List Val → List V → Prop
  | [], ws => ws = []
  | v :: vs, ws => ∃ w r, ws = w :: r ∧ RepV v w ∧ RepVs vs r
end
end
/-- what a cell is at its address -/
def RepC (G : PC) (A : Addr → Prop) (H : Hp) (ρ : List Addr) (a : Addr) : Cell → Prop
  | .lst ds => ∃ vs, H a = some (.lst vs) ∧ RepDs G.K A H ds vs
  | .lck ds => ∃ vs, H a = some (.lst vs) ∧ RepDs G.K A H ds vs
  | .dic ks ds => ∃ vs, H a = some (.dK (ks.zip vs)) ∧ ks.length = ds.length ∧ RepDs G.K A H ds vs
  | .ldk ks ds => ∃ vs, (∃ od, H a = some (.frz od (.dK (ks.zip vs)))) ∧ ks.length = ds.length ∧ RepDs G.K A H ds vs
  | .dit ks ds => ∃ vs, H a = some (.dT (ks.zip vs)) ∧ ks.length = ds.length ∧ RepDs G.K A H ds vs
  | .ldt ks ds => ∃ vs, (∃ od, H a = some (.frz od (.dT (ks.zip vs)))) ∧ ks.length = ds.length ∧ RepDs G.K A H ds vs
  | .obj c fs => ∃ dx vs, H a = some (.ins (G.cls c) dx (((G.fld c).take fs.length).zip vs)) ∧ fs.length ≤ (G.fld c).length ∧ RepVs G.K A H ρ fs vs

/-- between two states -/
structure Ext (F A : Addr → Prop) (ρ : List Addr) (H : Hp) (A' : Addr → Prop) (ρ' : List Addr) (H' : Hp) : Prop where
  pre : ρ <+: ρ'
  fr : ∀ a o, (a ∈ ρ → F a) → H a = some o → H' a = some o
  st : ∀ a, H' a = none → H a = none
  up : ∀ a, A a → A' a
  nw : ∀ a, A' a → A a ∨ H a = none
  nr : ∀ a, a ∈ ρ' → a ∈ ρ ∨ H a = none
def isOwn : HO → Prop
  | .lst _ => True
  | .dK _ => True
  | .ins _ _ _ => True
  | .frz _ (.dK _) => True
  | .dT _ => True
  | .frz _ (.dT _) => True
  | _ => False
/-- what is locked -/
@[reducible] def isLk : Cell → Prop
  | .lck _ => True
  | .ldk _ _ => True
  | .ldt _ _ => True
  | _ => False
structure RS (G : PC) (F A : Addr → Prop) (ρ : List Addr) (S : Store) (H : Hp) : Prop where
  sub : ∀ a, a ∈ ρ → A a
  trk : ∀ a, A a → ∃ o, H a = some o
  nd : ρ.Nodup
  len : ρ.length = S.length
  own : ∀ a, a ∈ ρ → ∃ o, H a = some o ∧ isOwn o
  fin : ∀ a, F a → a ∈ ρ
  lk : ∀ (n : Nat) (a : Addr) (c : Cell), ρ[n]? = some a → S[n]? = some c → (F a ↔ isLk c)
  cells : ∀ (n : Nat) (c : Cell), S[n]? = some c → ∃ a, ρ[n]? = some a ∧ RepC G A H ρ a c

variable {F F1 A A1 A2 : Addr → Prop} {ρ ρ1 ρ2 : List Addr} {H H1 H2 : Hp} {K : PySem.W.Frag} {G : PC} {S S1 S2 : Store}
theorem Ext.refl : Ext F A ρ H A ρ H :=
  ⟨List.prefix_refl _, fun _ _ _ h => h, fun _ h => h, fun _ h => h, fun _ h => .inl h, fun _ h => .inl h⟩
theorem Ext.trans (x : Ext F A ρ H A1 ρ1 H1) (y : Ext F A1 ρ1 H1 A2 ρ2 H2) : Ext F A ρ H A2 ρ2 H2 where
  pre := x.pre.trans y.pre
  fr := fun a o n h => y.fr a o (fun z => (x.nr a z).elim n fun q => by rw [q] at h; cases h) (x.fr a o n h)
  st := fun a h => x.st a (y.st a h)
  up := fun a h => y.up a (x.up a h)
  nw := fun a h => (y.nw a h).elim (x.nw a) fun q => .inr (x.st a q)
  nr := fun a h => (y.nr a h).elim (x.nr a) fun q => .inr (x.st a q)
/-- no own object is a tuple or a known thing -/
def NoTup (ρ : List Addr) (H : Hp) : Prop := ∀ a, a ∈ ρ → ∃ o, H a = some o ∧ isOwn o
theorem RS.noTup (r : RS G F A ρ S H) : NoTup ρ H := r.own
theorem Ext.sqT (x : Ext F A ρ H A1 ρ1 H1) (n : NoTup ρ H) {a : Addr} {vs : List V} (h : SqT K H a vs) : SqT K H1 a vs := by
  have ne : ∀ o, H a = some o → ¬ isOwn o → a ∈ ρ → F a := fun o e q z => by
    obtain ⟨o', e', w⟩ := n a z
    rw [e] at e'; cases e'; exact (q w).elim
  rcases h with (h | ⟨o, h⟩) | h
  · exact .inl (.inl (x.fr a _ (ne _ h fun z => z) h))
  · exact .inl (.inr ⟨o, x.fr a _ (ne _ h fun z => z) h⟩)
  · exact .inr h
theorem Ext.back (x : Ext F A ρ H A1 ρ1 H1) {a : Addr} {o : HO} (h : H a = some o) (n : ¬ A a) : ¬ A1 a := fun z =>
  (x.nw a z).elim n fun q => by rw [h] at q; cases q
theorem Ext.rd (x : Ext F A ρ H A1 ρ1 H1) {a : Addr} {o : HO} (na : a ∈ ρ → F a) (h : Rd H a o) : Rd H1 a o := by
  rcases h with h | ⟨o', h⟩
  · exact .inl (x.fr a _ na h)
  · exact .inr ⟨o', x.fr a _ na h⟩
theorem Rd.some {a : Addr} {u : HO} (h : Rd H a u) : ∃ o, H a = some o := h.elim (fun h => ⟨_, h⟩) fun ⟨_, h⟩ => ⟨_, h⟩
/-- what is asked of a state where values move -/
structure RN (A : Addr → Prop) (ρ : List Addr) (H : Hp) : Prop where
  sub : ∀ a, a ∈ ρ → A a
  own : NoTup ρ H
theorem RS.rn (r : RS G F A ρ S H) : RN A ρ H := ⟨r.sub, r.own⟩
mutual
theorem RepD.mvN (x : Ext F A ρ H A1 ρ1 H1) (r : RN A ρ H) : ∀ (d : D) (v : V), RepD K A H d v → RepD K A1 H1 d v
  | .non, v, h => h
  | .bl b, v, h => h
  | .int i, v, h => h
  | .str y, v, h => h
  | .scr ns, v, h => by
    obtain ⟨a, e, q⟩ := h
    rcases q with ⟨q, na⟩ | q
    · obtain ⟨o, e'⟩ := Rd.some q
      exact ⟨a, e, .inl ⟨x.rd (fun z => (na (r.sub a z)).elim) q, x.back e' na⟩⟩
    · exact ⟨a, e, .inr q⟩
  | .tup ds, v, h => by
    obtain ⟨a, vs, e, q, p⟩ := h
    exact ⟨a, vs, e, x.sqT r.own q, RepDs.mvN x r ds vs p⟩
  | .lst ds, v, h => by
    obtain ⟨a, vs, e, q, na, p⟩ := h
    exact ⟨a, vs, e, x.fr a _ (fun z => (na (r.sub a z)).elim) q, x.back q na, RepDs.mvN x r ds vs p⟩
theorem RepDs.mvN (x : Ext F A ρ H A1 ρ1 H1) (r : RN A ρ H) : ∀ (ds : List D) (vs : List V), RepDs K A H ds vs → RepDs K A1 H1 ds vs
  | [], vs, h => h
  | d :: ds, vs, h => by
    obtain ⟨v, t, e, p, q⟩ := h
    exact ⟨v, t, e, RepD.mvN x r d v p, RepDs.mvN x r ds t q⟩
end
mutual
theorem RepV.mv' {τ τ1 : List Addr} (x : Ext F A τ H A1 τ1 H1) (r : RN A τ H) (pre : ρ <+: ρ1) : ∀ (d : Val) (v : V), RepV K A H ρ d v → RepV K A1 H1 ρ1 d v
  | .d y, v, h => RepD.mvN x r y v h
  | .ref n, v, h => by
    obtain ⟨a, e, q⟩ := h
    refine ⟨a, ?_, q⟩
    obtain ⟨t, rfl⟩ := pre
    rw [List.getElem?_append_left (List.getElem?_eq_some_iff.mp e).1]
    exact e
  | .vt vs, v, h => by
    obtain ⟨a, ws, e, q, p⟩ := h
    exact ⟨a, ws, e, x.sqT r.own q, RepVs.mv' x r pre vs ws p⟩
  | .exc a d nm fs, v, h => by
    obtain ⟨e, q⟩ := h
    refine ⟨e, q.imp (fun q => q) fun ⟨dx, vs, e1, e2, p⟩ => ⟨dx, vs, e1, x.fr dx _ (fun z => ?_) e2, RepDs.mvN x r fs vs p⟩⟩
    obtain ⟨o, e3, w⟩ := r.own dx z
    rw [e2] at e3; cases e3
    exact w.elim
theorem RepVs.mv' {τ τ1 : List Addr} (x : Ext F A τ H A1 τ1 H1) (r : RN A τ H) (pre : ρ <+: ρ1) : ∀ (ds : List Val) (vs : List V), RepVs K A H ρ ds vs → RepVs K A1 H1 ρ1 ds vs
  | [], vs, h => h
  | d :: ds, vs, h => by
    obtain ⟨v, t, e, p, q⟩ := h
    exact ⟨v, t, e, RepV.mv' x r pre d v p, RepVs.mv' x r pre ds t q⟩
end
theorem RepD.mv (x : Ext F A ρ H A1 ρ1 H1) (r : RS G F A ρ S H) (d : D) (v : V) (h : RepD K A H d v) : RepD K A1 H1 d v := RepD.mvN x r.rn d v h
theorem RepDs.mv (x : Ext F A ρ H A1 ρ1 H1) (r : RS G F A ρ S H) (ds : List D) (vs : List V) (h : RepDs K A H ds vs) : RepDs K A1 H1 ds vs := RepDs.mvN x r.rn ds vs h
theorem RepV.mv (x : Ext F A ρ H A1 ρ1 H1) (r : RS G F A ρ S H) (d : Val) (v : V) (h : RepV K A H ρ d v) : RepV K A1 H1 ρ1 d v := RepV.mv' x r.rn x.pre d v h
theorem RepVs.mv (x : Ext F A ρ H A1 ρ1 H1) (r : RS G F A ρ S H) (d : List Val) (v : List V) (h : RepVs K A H ρ d v) : RepVs K A1 H1 ρ1 d v := RepVs.mv' x r.rn x.pre d v h
mutual
theorem RepD.weak (w : ∀ a, A1 a → A a) : ∀ (d : D) (v : V), RepD K A H d v → RepD K A1 H d v
  | .non, v, h => h
  | .bl b, v, h => h
  | .int i, v, h => h
  | .str y, v, h => h
  | .scr ns, v, h => by
    obtain ⟨a, e, q⟩ := h
    exact ⟨a, e, q.imp (fun ⟨q, na⟩ => ⟨q, fun z => na (w a z)⟩) fun q => q⟩
  | .tup ds, v, h => by
    obtain ⟨a, vs, e, q, p⟩ := h
    exact ⟨a, vs, e, q, RepDs.weak w ds vs p⟩
  | .lst ds, v, h => by
    obtain ⟨a, vs, e, q, na, p⟩ := h
    exact ⟨a, vs, e, q, fun z => na (w a z), RepDs.weak w ds vs p⟩
theorem RepDs.weak (w : ∀ a, A1 a → A a) : ∀ (ds : List D) (vs : List V), RepDs K A H ds vs → RepDs K A1 H ds vs
  | [], vs, h => h
  | d :: ds, vs, h => by
    obtain ⟨v, t, e, p, q⟩ := h
    exact ⟨v, t, e, RepD.weak w d v p, RepDs.weak w ds t q⟩
end
mutual
/-- the own addresses of a state that is left may be forgotten -/
theorem RepV.weak (w : ∀ a, A1 a → A a) : ∀ (d : Val) (v : V), RepV K A H ρ d v → RepV K A1 H ρ d v
  | .d y, v, h => RepD.weak w y v h
  | .ref n, v, h => h
  | .vt vs, v, h => by
    obtain ⟨a, ws, e, q, p⟩ := h
    exact ⟨a, ws, e, q, RepVs.weak w vs ws p⟩
  | .exc a d nm fs, v, h => ⟨h.1, h.2.imp (fun q => q) fun ⟨dx, vs, e1, e2, p⟩ => ⟨dx, vs, e1, e2, RepDs.weak w fs vs p⟩⟩
theorem RepVs.weak (w : ∀ a, A1 a → A a) : ∀ (ds : List Val) (vs : List V), RepVs K A H ρ ds vs → RepVs K A1 H ρ ds vs
  | [], vs, h => h
  | d :: ds, vs, h => by
    obtain ⟨v, t, e, p, q⟩ := h
    exact ⟨v, t, e, RepV.weak w d v p, RepVs.weak w ds t q⟩
end
theorem RepDs.len : ∀ {ds : List D} {vs : List V}, RepDs K A H ds vs → vs.length = ds.length
  | [], vs, h => by rw [show vs = [] from h]; rfl
  | d :: ds, vs, h => by
    obtain ⟨v, t, rfl, p, q⟩ := h
    exact congrArg (· + 1) (RepDs.len q)
theorem RepVs.len : ∀ {ds : List Val} {vs : List V}, RepVs K A H ρ ds vs → vs.length = ds.length
  | [], vs, h => by rw [show vs = [] from h]; rfl
  | d :: ds, vs, h => by
    obtain ⟨v, t, rfl, p, q⟩ := h
    exact congrArg (· + 1) (RepVs.len q)
theorem RepDs.get : ∀ {ds : List D} {vs : List V} {i : Nat} {d : D}, RepDs K A H ds vs → ds[i]? = some d → ∃ v, vs[i]? = some v ∧ RepD K A H d v
  | [], vs, i, d, h, e => by simp at e
  | x :: ds, vs, 0, d, h, e => by
    obtain ⟨v, t, rfl, p, q⟩ := h
    simp at e; subst e
    exact ⟨v, rfl, p⟩
  | x :: ds, vs, i + 1, d, h, e => by
    obtain ⟨v, t, rfl, p, q⟩ := h
    obtain ⟨u, e1, e2⟩ := RepDs.get (i := i) (d := d) q (by simpa using e)
    exact ⟨u, by simpa using e1, e2⟩
theorem RepVs.get : ∀ {ds : List Val} {vs : List V} {i : Nat} {d : Val}, RepVs K A H ρ ds vs → ds[i]? = some d → ∃ v, vs[i]? = some v ∧ RepV K A H ρ d v
  | [], vs, i, d, h, e => by simp at e
  | x :: ds, vs, 0, d, h, e => by
    obtain ⟨v, t, rfl, p, q⟩ := h
    simp at e; subst e
    exact ⟨v, rfl, p⟩
  | x :: ds, vs, i + 1, d, h, e => by
    obtain ⟨v, t, rfl, p, q⟩ := h
    obtain ⟨u, e1, e2⟩ := RepVs.get (i := i) (d := d) q (by simpa using e)
    exact ⟨u, by simpa using e1, e2⟩
theorem RepDs.app : ∀ {ds es : List D} {vs us : List V}, RepDs K A H ds vs → RepDs K A H es us → RepDs K A H (ds ++ es) (vs ++ us)
  | [], es, vs, us, h, g => by rw [show vs = [] from h]; exact g
  | d :: ds, es, vs, us, h, g => by
    obtain ⟨v, t, rfl, p, q⟩ := h
    exact ⟨v, t ++ us, rfl, p, RepDs.app q g⟩
theorem RepDs.take : ∀ {ds : List D} {vs : List V} (n : Nat), RepDs K A H ds vs → RepDs K A H (ds.take n) (vs.take n)
  | ds, vs, 0, h => by rw [List.take_zero, List.take_zero]; exact rfl
  | [], vs, n + 1, h => by rw [show vs = [] from h, List.take_nil, List.take_nil]; exact rfl
  | d :: ds, vs, n + 1, h => by
    obtain ⟨v, t, rfl, p, q⟩ := h
    exact ⟨v, t.take n, rfl, p, RepDs.take n q⟩
theorem RepDs.drop : ∀ {ds : List D} {vs : List V} (n : Nat), RepDs K A H ds vs → RepDs K A H (ds.drop n) (vs.drop n)
  | ds, vs, 0, h => h
  | [], vs, n + 1, h => by rw [show vs = [] from h, List.drop_nil, List.drop_nil]; exact rfl
  | d :: ds, vs, n + 1, h => by
    obtain ⟨v, t, rfl, p, q⟩ := h
    exact RepDs.drop (ds := ds) (vs := t) n q
theorem RepDs.set : ∀ {ds : List D} {vs : List V} {d : D} {v : V} (i : Nat), RepDs K A H ds vs → RepD K A H d v → RepDs K A H (ds.set i d) (vs.set i v)
  | [], vs, d, v, i, h, g => by rw [show vs = [] from h]; exact rfl
  | x :: ds, vs, d, v, 0, h, g => by
    obtain ⟨u, t, rfl, p, q⟩ := h
    exact ⟨v, t, rfl, g, q⟩
  | x :: ds, vs, d, v, i + 1, h, g => by
    obtain ⟨u, t, rfl, p, q⟩ := h
    exact ⟨u, t.set i v, rfl, p, RepDs.set i q g⟩
theorem RepVs.setv : ∀ {ds : List Val} {vs : List V} {d : Val} {v : V} (i : Nat), RepVs K A H ρ ds vs → RepV K A H ρ d v → RepVs K A H ρ (ds.set i d) (vs.set i v)
  | [], vs, d, v, i, h, g => by rw [show vs = [] from h]; exact rfl
  | x :: ds, vs, d, v, 0, h, g => by
    obtain ⟨u, t, rfl, p, q⟩ := h
    exact ⟨v, t, rfl, g, q⟩
  | x :: ds, vs, d, v, i + 1, h, g => by
    obtain ⟨u, t, rfl, p, q⟩ := h
    exact ⟨u, t.set i v, rfl, p, RepVs.setv i q g⟩
theorem RepVs.app : ∀ {ds es : List Val} {vs us : List V}, RepVs K A H ρ ds vs → RepVs K A H ρ es us → RepVs K A H ρ (ds ++ es) (vs ++ us)
  | [], es, vs, us, h, g => by rw [show vs = [] from h]; exact g
  | d :: ds, es, vs, us, h, g => by
    obtain ⟨v, t, rfl, p, q⟩ := h
    exact ⟨v, t ++ us, rfl, p, RepVs.app q g⟩
theorem RepT.of : ∀ {d : D} {v : V}, RepD K A H d v → RepT K A H d v
  | .non, v, h => h
  | .bl b, v, h => h
  | .int i, v, h => h
  | .str y, v, h => h
  | .scr ns, v, h => h
  | .tup ds, v, h => h
  | .lst ds, v, h => by
    obtain ⟨a, vs, e, q, na, p⟩ := h
    exact ⟨a, vs, e, q, p⟩
theorem RepC.mv' {τ τ1 : List Addr} (x : Ext F A τ H A1 τ1 H1) (r : RN A τ H) (pre : ρ <+: ρ1) {a : Addr} : ∀ {c : Cell}, H1 a = H a → RepC G A H ρ a c → RepC G A1 H1 ρ1 a c
  | .lst ds, e, ⟨vs, h, q⟩ => ⟨vs, e.trans h, RepDs.mvN x r ds vs q⟩
  | .lck ds, e, ⟨vs, h, q⟩ => ⟨vs, e.trans h, RepDs.mvN x r ds vs q⟩
  | .dic ks ds, e, ⟨vs, h, l, q⟩ => ⟨vs, e.trans h, l, RepDs.mvN x r ds vs q⟩
  | .ldk ks ds, e, ⟨vs, ⟨od, h⟩, l, q⟩ => ⟨vs, ⟨od, e.trans h⟩, l, RepDs.mvN x r ds vs q⟩
  | .dit ks ds, e, ⟨vs, h, l, q⟩ => ⟨vs, e.trans h, l, RepDs.mvN x r ds vs q⟩
  | .ldt ks ds, e, ⟨vs, ⟨od, h⟩, l, q⟩ => ⟨vs, ⟨od, e.trans h⟩, l, RepDs.mvN x r ds vs q⟩
  | .obj c fs, e, ⟨dx, vs, h, l, q⟩ => ⟨dx, vs, e.trans h, l, RepVs.mv' x r pre fs vs q⟩
theorem RepC.mv (x : Ext F A ρ H A1 ρ1 H1) (r : RS G F A ρ S H) {a : Addr} {c : Cell} (e : H1 a = H a) (h : RepC G A H ρ a c) : RepC G A1 H1 ρ1 a c := RepC.mv' x r.rn x.pre e h
theorem RepC.weak (w : ∀ a, A1 a → A a) {a : Addr} : ∀ {c : Cell}, RepC G A H ρ a c → RepC G A1 H ρ a c
  | .lst ds, ⟨vs, h, q⟩ => ⟨vs, h, RepDs.weak w ds vs q⟩
  | .lck ds, ⟨vs, h, q⟩ => ⟨vs, h, RepDs.weak w ds vs q⟩
  | .dic ks ds, ⟨vs, h, l, q⟩ => ⟨vs, h, l, RepDs.weak w ds vs q⟩
  | .ldk ks ds, ⟨vs, h, l, q⟩ => ⟨vs, h, l, RepDs.weak w ds vs q⟩
  | .dit ks ds, ⟨vs, h, l, q⟩ => ⟨vs, h, l, RepDs.weak w ds vs q⟩
  | .ldt ks ds, ⟨vs, h, l, q⟩ => ⟨vs, h, l, RepDs.weak w ds vs q⟩
  | .obj c fs, ⟨dx, vs, h, l, q⟩ => ⟨dx, vs, h, l, RepVs.weak w fs vs q⟩
end Ev
set_option linter.all false
set_option Elab.async false
set_option maxRecDepth 100000
namespace Ev
open PySem L2
variable {F F1 A A1 A2 : Addr → Prop} {ρ ρ1 ρ2 : List Addr} {H H1 H2 : Hp} {K : PySem.W.Frag} {G : PC} {S S1 S2 : Store}

/-- what was there is there; A may grow by new addresses -/
theorem RS.same (r : RS G F A ρ S H) (k : ∀ a o, H a = some o → H1 a = some o) (up : ∀ a, A a → A1 a) (nw : ∀ a, A1 a → A a ∨ H a = none) (tr : ∀ a, A1 a → ∃ o, H1 a = some o) :
    Ext F A ρ H A1 ρ H1 ∧ RS G F A1 ρ S H1 := by
  have x : Ext F A ρ H A1 ρ H1 := ⟨List.prefix_refl _, fun a o _ h => k a o h, fun a h => (by
    cases e : H a with
    | none => rfl
    | some o => rw [k a o e] at h; cases h), up, nw, fun a h => .inl h⟩
  refine ⟨x, fun a h => up a (r.sub a h), tr, r.nd, r.len, fun a h => ?_, r.fin, r.lk, fun n c e => ?_⟩
  · obtain ⟨o, e, w⟩ := r.own a h
    exact ⟨o, k a o e, w⟩
  · obtain ⟨a, e1, q⟩ := r.cells n c e
    obtain ⟨o, e2, w⟩ := r.own a (List.mem_of_getElem? e1)
    exact ⟨a, e1, q.mv x r ((k a o e2).trans e2.symm)⟩
theorem RS.laid (r : RS G F A ρ S H) {p : Addr} (hp : H p = none) (o : HO) : Ext F A ρ H A ρ (upd H p o) ∧ RS G F A ρ S (upd H p o) := by
  have k : ∀ a u, H a = some u → upd H p o a = some u := fun a u e => by rw [upd_ne (ne_of_none e hp)]; exact e
  exact r.same k (fun _ h => h) (fun _ h => .inl h) fun a h => let ⟨u, e⟩ := r.trk a h; ⟨u, k a u e⟩
theorem RS.notA (r : RS G F A ρ S H) {p : Addr} (hp : H p = none) : ¬ A p := fun z => by
  obtain ⟨o, e⟩ := r.trk p z
  rw [hp] at e; cases e
/-- a new own object -/
theorem RS.push (r : RS G F A ρ S H) {p : Addr} (hp : H p = none) {o : HO} {c : Cell} (ho : isOwn o) (nl : Unit → ¬ isLk c)
    (hc : Ext F A ρ H (fun a => A a ∨ a = p) (ρ ++ [p]) (upd H p o) → RepC G (fun a => A a ∨ a = p) (upd H p o) (ρ ++ [p]) p c) :
    Ext F A ρ H (fun a => A a ∨ a = p) (ρ ++ [p]) (upd H p o) ∧ RS G F (fun a => A a ∨ a = p) (ρ ++ [p]) (S ++ [c]) (upd H p o) := by
  have k : ∀ a u, H a = some u → upd H p o a = some u := fun a u e => by rw [upd_ne (ne_of_none e hp)]; exact e
  have x : Ext F A ρ H (fun a => A a ∨ a = p) (ρ ++ [p]) (upd H p o) := by
    refine ⟨List.prefix_append _ _, fun a u _ h => k a u h, fun a h => ?_, fun a h => .inl h, fun a h => ?_, fun a h => ?_⟩
    · cases e : H a with
      | none => rfl
      | some u => rw [k a u e] at h; cases h
    · exact h.imp (fun h => h) fun h => by rw [h]; exact hp
    · rcases List.mem_append.mp h with h | h
      · exact .inl h
      · rw [List.mem_singleton.mp h]; exact .inr hp
  refine ⟨x, fun a h => ?_, fun a h => ?_, ?_, ?_, fun a h => ?_, fun a h => List.mem_append_left _ (r.fin a h), fun n a c' e1 e2 => ?_, fun n c' e => ?_⟩
  · rcases List.mem_append.mp h with h | h
    · exact .inl (r.sub a h)
    · exact .inr (List.mem_singleton.mp h)
  · rcases h with h | h
    · obtain ⟨u, e⟩ := r.trk a h
      exact ⟨u, k a u e⟩
    · rw [h]; exact ⟨o, upd_same⟩
  · refine List.nodup_append.mpr ⟨r.nd, by simp, fun a h b hb => ?_⟩
    rw [List.mem_singleton.mp hb]
    rintro rfl
    exact r.notA hp (r.sub _ h)
  · rw [List.length_append, List.length_append, r.len]; rfl
  · rcases List.mem_append.mp h with h | h
    · obtain ⟨u, e, w⟩ := r.own a h
      exact ⟨u, k a u e, w⟩
    · rw [List.mem_singleton.mp h]; exact ⟨o, upd_same, ho⟩
  · by_cases hn : n < S.length
    · rw [List.getElem?_append_left hn] at e2
      rw [List.getElem?_append_left (by rw [r.len]; exact hn)] at e1
      exact r.lk n a c' e1 e2
    · have hl := (List.getElem?_eq_some_iff.mp e2).1
      rw [List.length_append, List.length_singleton] at hl
      have hn' : n = S.length := by omega
      subst hn'
      rw [List.getElem?_append_right (Nat.le_refl _), Nat.sub_self] at e2
      cases e2
      rw [List.getElem?_append_right (by rw [r.len]; exact Nat.le_refl _), r.len, Nat.sub_self] at e1
      cases e1
      refine ⟨fun z => ?_, fun z => (nl () z).elim⟩
      exact (r.notA hp (r.sub _ (r.fin _ z))).elim
  · by_cases hn : n < S.length
    · rw [List.getElem?_append_left hn] at e
      obtain ⟨a, e1, q⟩ := r.cells n c' e
      obtain ⟨u, e2, w⟩ := r.own a (List.mem_of_getElem? e1)
      refine ⟨a, ?_, q.mv x r ((k a u e2).trans e2.symm)⟩
      rw [List.getElem?_append_left (by rw [r.len]; exact hn)]
      exact e1
    · have hl := (List.getElem?_eq_some_iff.mp e).1
      rw [List.length_append, List.length_singleton] at hl
      have hn' : n = S.length := by omega
      subst hn'
      rw [List.getElem?_append_right (Nat.le_refl _), Nat.sub_self] at e
      cases e
      refine ⟨p, ?_, hc x⟩
      rw [List.getElem?_append_right (by rw [r.len]; exact Nat.le_refl _), r.len, Nat.sub_self]
      rfl
/-- an own object is changed -/
theorem RS.write (r : RS G F A ρ S H) {a : Addr} {n : Nat} (ea : ρ[n]? = some a) {o : HO} {c c0 : Cell} (ho : isOwn o) (e0 : S[n]? = some c0) (n0 : Unit → ¬ isLk c0) (nl : Unit → ¬ isLk c)
    (hc : Ext F A ρ H A ρ (upd H a o) → RepC G A (upd H a o) ρ a c) : Ext F A ρ H A ρ (upd H a o) ∧ RS G F A ρ (S.set n c) (upd H a o) := by
  have ma := List.mem_of_getElem? ea
  have nF : ¬ F a := fun z => by
    exact n0 () ((r.lk n a c0 ea e0).mp z)
  have x : Ext F A ρ H A ρ (upd H a o) := by
    refine ⟨List.prefix_refl _, fun b u nb h => (by
    by_cases hb : b = a
    · subst hb; exact (nF (nb ma)).elim
    · rw [upd_ne hb]; exact h), fun b h => ?_, fun b h => h, fun b h => .inl h, fun b h => .inl h⟩
    · by_cases hb : b = a
      · rw [hb, upd_same] at h; cases h
      · rw [upd_ne hb] at h; exact h
  have k : ∀ b, b ≠ a → upd H a o b = H b := fun b hb => upd_ne hb
  refine ⟨x, r.sub, fun b h => ?_, r.nd, by rw [List.length_set]; exact r.len, fun b h => ?_, r.fin, fun m b c' e1 e2 => ?_, fun m c' e => ?_⟩
  · by_cases hb : b = a
    · rw [hb]; exact ⟨o, upd_same⟩
    · obtain ⟨u, e⟩ := r.trk b h
      exact ⟨u, (k b hb).trans e⟩
  · by_cases hb : b = a
    · rw [hb]; exact ⟨o, upd_same, ho⟩
    · obtain ⟨u, e, w⟩ := r.own b h
      exact ⟨u, (k b hb).trans e, w⟩
  · by_cases hm : m = n
    · subst hm
      have hl := (List.getElem?_eq_some_iff.mp e2).1
      rw [List.length_set] at hl
      rw [List.getElem?_set_self hl] at e2
      cases e2
      rw [ea] at e1; cases e1
      exact ⟨fun z => (nF z).elim, fun z => (nl () z).elim⟩
    · rw [List.getElem?_set_ne (Ne.symm hm)] at e2
      exact r.lk m b c' e1 e2
  · by_cases hm : m = n
    · subst hm
      have hl := (List.getElem?_eq_some_iff.mp e).1
      rw [List.length_set] at hl
      rw [List.getElem?_set_self hl] at e
      cases e
      exact ⟨a, ea, hc x⟩
    · rw [List.getElem?_set_ne (Ne.symm hm)] at e
      obtain ⟨b, e1, q⟩ := r.cells m c' e
      refine ⟨b, e1, q.mv x r (k b ?_)⟩
      rintro rfl
      obtain ⟨h1, e1⟩ := List.getElem?_eq_some_iff.mp e1
      obtain ⟨h2, e2⟩ := List.getElem?_eq_some_iff.mp ea
      exact hm ((List.getElem_inj r.nd).mp (e1.trans e2.symm))

/-! ### frames -/
def RL (K : PySem.W.Frag) (A : Addr → Prop) (H : Hp) (ρ : List Addr) (L : Loc) (σ : St) : Prop :=
  L.length = σ.length ∧ ∀ (i : Nat) (w : Val), L[i]? = some (some w) → ∃ v, σ[i]? = some (some v) ∧ RepV K A H ρ w v
theorem RL.mv (x : Ext F A ρ H A1 ρ1 H1) (r : RS G F A ρ S H) {L : Loc} {σ : St} (h : RL K A H ρ L σ) : RL K A1 H1 ρ1 L σ :=
  ⟨h.1, fun i w e => let ⟨v, e1, q⟩ := h.2 i w e; ⟨v, e1, q.mv x r⟩⟩
theorem RL.set {L : Loc} {σ : St} (h : RL K A H ρ L σ) (i : Nat) {w : Val} {v : V} (q : RepV K A H ρ w v) : RL K A H ρ (L.set i (some w)) (σ.set i (some v)) := by
  refine ⟨by rw [List.length_set, List.length_set]; exact h.1, fun j u e => ?_⟩
  by_cases hj : j = i
  · subst hj
    have hl := (List.getElem?_eq_some_iff.mp e).1
    rw [List.length_set] at hl
    rw [List.getElem?_set_self hl] at e
    cases e
    exact ⟨v, List.getElem?_set_self (by rw [← h.1]; exact hl), q⟩
  · rw [List.getElem?_set_ne (Ne.symm hj)] at e
    obtain ⟨v', e1, q'⟩ := h.2 j u e
    exact ⟨v', by rw [List.getElem?_set_ne (Ne.symm hj)]; exact e1, q'⟩
theorem RL.unset {L : Loc} {σ : St} (h : RL K A H ρ L σ) (i : Nat) (o : Option V) : RL K A H ρ (L.set i none) (σ.set i o) := by
  refine ⟨by rw [List.length_set, List.length_set]; exact h.1, fun j u e => ?_⟩
  by_cases hj : j = i
  · subst hj
    have hl := (List.getElem?_eq_some_iff.mp e).1
    rw [List.length_set] at hl
    rw [List.getElem?_set_self hl] at e
    cases e
  · rw [List.getElem?_set_ne (Ne.symm hj)] at e
    obtain ⟨v', e1, q'⟩ := h.2 j u e
    exact ⟨v', by rw [List.getElem?_set_ne (Ne.symm hj)]; exact e1, q'⟩

/-- an exception of this class with these fields -/
def RepX (G : PC) (x : Ex) (H : Hp) (cls : Value) (d : Option Addr) : Prop :=
  cls = .ref (G.xcl x.k) ∧ ((d = none ∧ x.fs = []) ∨ ∃ dx vs, d = some dx ∧ H dx = some (.xd ((G.xfl x.k).zip vs)) ∧ RepDs G.K (fun _ => True) H x.fs vs)

/-! ### what the evaluator's answers promise -/
section
variable (G : PC)
def EvOk {α : Type} (F : Addr → Prop) (P : (Addr → Prop) → List Addr → Hp → α → Prop) (W : Value → Option Addr → Hp → Prop) (A : Addr → Prop) (ρ : List Addr) (H : Hp) : R α → Prop
  | .ok v S' => ∀ A' ρ' H', Ext F A ρ H A' ρ' H' → RS G F A' ρ' S' H' → P A' ρ' H' v
  | .ex x S' => ∀ A' ρ' H' cls d, Ext F A ρ H A' ρ' H' → RS G F A' ρ' S' H' → RepX G x H' cls d → W cls d H'
  | .bad => False
def tE (W : WX) (f : SE) : TE := fun σ H Q => ∃ F A ρ L S, RL G.K A H ρ L σ ∧ RS G F A ρ S H ∧
  EvOk G F (fun A' ρ' H' v => ∀ w, RepV G.K A' H' ρ' v w → Q w H') (fun cls d H' => W cls d σ H') A ρ H (f L S)
def tB' (W : WX) (f : SB) : TT := fun σ H Q => ∃ F A ρ L S, RL G.K A H ρ L σ ∧ RS G F A ρ S H ∧
  EvOk G F (fun A' ρ' H' b => Q b H') (fun cls d H' => W cls d σ H') A ρ H (f L S)
def tA' (W : WX) (f : SA) : TA := fun σ H Q => ∃ F A ρ L S, RL G.K A H ρ L σ ∧ RS G F A ρ S H ∧
  EvOk G F (fun A' ρ' H' vs => ∀ ws, RepVs G.K A' H' ρ' vs ws → Q ws H') (fun cls d H' => W cls d σ H') A ρ H (f L S)
def StOk (F : Addr → Prop) (W : WX) (D : Ends) (A : Addr → Prop) (ρ : List Addr) (H : Hp) : SR → Prop
  | .nx L S' => ∀ A' ρ' H' σ', Ext F A ρ H A' ρ' H' → RS G F A' ρ' S' H' → RL G.K A' H' ρ' L σ' → D.nx σ' H'
  | .bk L S' => ∀ A' ρ' H' σ', Ext F A ρ H A' ρ' H' → RS G F A' ρ' S' H' → RL G.K A' H' ρ' L σ' → D.bk σ' H'
  | .ct L S' => ∀ A' ρ' H' σ', Ext F A ρ H A' ρ' H' → RS G F A' ρ' S' H' → RL G.K A' H' ρ' L σ' → D.ct σ' H'
  | .rt v S' => ∀ A' ρ' H' w, Ext F A ρ H A' ρ' H' → RS G F A' ρ' S' H' → RepV G.K A' H' ρ' v w → D.rt w H'
  | .ex x L S' => ∀ A' ρ' H' σ' cls d, Ext F A ρ H A' ρ' H' → RS G F A' ρ' S' H' → RL G.K A' H' ρ' L σ' → RepX G x H' cls d → W cls d σ' H'
  | .bad => False
def tS (W : WX) (f : SS) : TS := fun D σ H => ∃ F A ρ L S, RL G.K A H ρ L σ ∧ RS G F A ρ S H ∧ StOk G F W D A ρ H (f L S)
end

theorem EvOk.mono {α : Type} {P P' : (Addr → Prop) → List Addr → Hp → α → Prop} {W W' : Value → Option Addr → Hp → Prop} (h : ∀ A' ρ' H' v, P A' ρ' H' v → P' A' ρ' H' v) (hw : ∀ c d H, W c d H → W' c d H) :
    ∀ {r : R α}, EvOk G F P W A ρ H r → EvOk G F P' W' A ρ H r
  | .ok v S', q => fun A' ρ' H' x r => h _ _ _ _ (q A' ρ' H' x r)
  | .ex y S', q => fun A' ρ' H' c d x r z => hw _ _ _ (q A' ρ' H' c d x r z)
  | .bad, q => q
/-- a first step, then what it leads to -/
def R.bind {α β : Type} (r : R α) (k : α → Store → R β) : R β := match r with
  | .ok a S => k a S
  | .ex x S => .ex x S
  | .bad => .bad
theorem EvOk.shift {α : Type} {P : (Addr → Prop) → List Addr → Hp → α → Prop} {W : Value → Option Addr → Hp → Prop} (x : Ext F A ρ H A1 ρ1 H1) : ∀ {r : R α}, EvOk G F P W A ρ H r → EvOk G F P W A1 ρ1 H1 r
  | .ok v S', q => fun A' ρ' H' y r => q A' ρ' H' (x.trans y) r
  | .ex e S', q => fun A' ρ' H' c d y r z => q A' ρ' H' c d (x.trans y) r z
  | .bad, q => q
theorem EvOk.bind {α β : Type} {P : (Addr → Prop) → List Addr → Hp → β → Prop} {P1 : (Addr → Prop) → List Addr → Hp → α → Prop} {W : Value → Option Addr → Hp → Prop} {k : α → Store → R β} :
    ∀ {r : R α}, EvOk G F P W A ρ H (r.bind k) → (∀ v S' A' ρ' H', Ext F A ρ H A' ρ' H' → RS G F A' ρ' S' H' → EvOk G F P W A' ρ' H' (k v S') → P1 A' ρ' H' v) → EvOk G F P1 W A ρ H r
  | .ok v S', q, h => fun A' ρ' H' y r => h v S' A' ρ' H' y r (EvOk.shift y q)
  | .ex e S', q, _ => q
  | .bad, q, _ => q
theorem StOk.shift {W : WX} {D : Ends} (x : Ext F A ρ H A1 ρ1 H1) : ∀ {r : SR}, StOk G F W D A ρ H r → StOk G F W D A1 ρ1 H1 r
  | .nx .., q => fun A' ρ' H' σ y => q A' ρ' H' σ (x.trans y)
  | .bk .., q => fun A' ρ' H' σ y => q A' ρ' H' σ (x.trans y)
  | .ct .., q => fun A' ρ' H' σ y => q A' ρ' H' σ (x.trans y)
  | .rt .., q => fun A' ρ' H' w y => q A' ρ' H' w (x.trans y)
  | .ex .., q => fun A' ρ' H' σ c d y => q A' ρ' H' σ c d (x.trans y)
  | .bad, q => q
end Ev
set_option linter.all false
set_option Elab.async false
set_option maxRecDepth 100000
namespace Ev
open PySem L2
variable {F F1 A A1 A2 : Addr → Prop} {ρ ρ1 ρ2 : List Addr} {H H1 H2 : Hp} {K : PySem.W.Frag} {G : PC} {S S1 S2 : Store} {X : Cx} {W : WX}

theorem PE.imp {e : Expr} {t t' : TE} (h : PE X e t) (i : ∀ σ H Q, t' σ H Q → t σ H Q) : PE X e t' := ⟨fun pins s σ H Q I q => h.run pins s σ H Q I (i σ H Q q)⟩
theorem PT.imp {e : Expr} {t t' : TT} (h : PT X e t) (i : ∀ σ H Q, t' σ H Q → t σ H Q) : PT X e t' := ⟨fun pins s σ H Q I q => h.run pins s σ H Q I (i σ H Q q)⟩
theorem PW.imp {e : Expr} {t t' : TT} (h : PW X e t) (i : ∀ σ H Q, t' σ H Q → t σ H Q) : PW X e t' := ⟨fun wh pins s σ H Q I q => h.run wh pins s σ H Q I (i σ H Q q)⟩
theorem PA.imp {e : List Expr} {t t' : TA} (h : PA X e t) (i : ∀ σ H Q, t' σ H Q → t σ H Q) : PA X e t' := ⟨fun p pins s σ H Q I q => h.run p pins s σ H Q I (i σ H Q q)⟩
theorem PS.imp {e : Stmt} {t t' : TS} (h : PS X e t) (i : ∀ D σ H, t' D σ H → t D σ H) : PS X e t' := ⟨fun pins s σ H D I q => h.run pins s σ H D I (i D σ H q)⟩
theorem PSs.imp {e : List Stmt} {t t' : TS} (h : PSs X e t) (i : ∀ D σ H, t' D σ H → t D σ H) : PSs X e t' := ⟨fun pins s σ H D I q => h.run pins s σ H D I (i D σ H q)⟩
theorem PO.imp {e : Option Expr} {t t' : TO} (h : PO X e t) (i : ∀ σ H Q, t' σ H Q → t σ H Q) : PO X e t' := ⟨fun pins s σ H Q I q => h.run pins s σ H Q I (i σ H Q q)⟩

/-! ### names and constants -/
def eV (i : Nat) : SE := fun L S => match L[i]? with
  | some (some v) => .ok v S
  | _ => .bad
def eC (x : D) : SE := fun _ S => .ok (.d x) S
theorem v_ {i : Nat} {e : Expr} (h : PE X e (tVar i)) : PE X e (tE G W (eV i)) := PE.imp h fun σ H Q ⟨F, A, ρ, L, S, l, r, q⟩ => by
  unfold eV at q
  split at q
  · rename_i v e
    obtain ⟨w, e1, p⟩ := l.2 i v e
    exact ⟨w, e1, q A ρ H Ext.refl r w p⟩
  · exact q.elim
/-- a fixed datum: what represents it in every state -/
def Always (K : PySem.W.Frag) (x : D) (v : V) : Prop := ∀ (A : Addr → Prop) (H : Hp), RepD K A H x v
theorem c_ {e : Expr} {x : D} {v : V} (h : PE X e (tC v)) (a : Always G.K x v) : PE X e (tE G W (eC x)) := PE.imp h fun σ H Q ⟨F, A, ρ, L, S, l, r, q⟩ => q A ρ H Ext.refl r v (a A H)
theorem ci_ {i : Int} {j pos} : PE X (.Constant (.int i) j pos) (tE G W (eC (.int i))) := c_ pe_int fun _ _ => rfl
theorem cb_ {b : Bool} {j pos} : PE X (.Constant (.bool b) j pos) (tE G W (eC (.bl b))) := c_ pe_bl fun _ _ => rfl
theorem cn_ {j pos} : PE X (.Constant .none j pos) (tE G W (eC .non)) := c_ pe_non fun _ _ => rfl
theorem cs_ {x : Str} {j pos} : PE X (.Constant (.str x) j pos) (tE G W (eC (.str x))) := c_ pe_str fun _ _ => rfl
theorem g_ {x : Str} {d : D} {v : V} {u : Value} {pos : Pos} (hg : Gl X x) (hm : X.mg x = some u) (r : RelV v u) (a : Always G.K d v) (hd : (x == ("__debug__" : Str)) = false := by decide) : PE X (.Name x pos) (tE G W (eC d)) := c_ (pe_glob hg hm r hd) a

/-! ### operations upon data -/
/-- the datum that a value is at the moment (an own list: its content) -/
def top (S : Store) : Val → Option D
  | .d x => some x
  | .ref n => match S[n]? with
    | some (.lst ds) => some (.lst ds)
    | some (.lck ds) => some (.lst ds)
    | _ => none
  | .vt _ => none
  | .exc .. => none
theorem RS.top (r : RS G F A ρ S H) {v : Val} {w : V} {x : D} (h : RepV G.K A H ρ v w) (e : top S v = some x) : RepT G.K A H x w := by
  cases v with
  | d y => cases e; exact RepT.of h
  | vt vs => cases e
  | exc _ _ _ _ => cases e
  | ref n =>
    obtain ⟨a, e1, rfl⟩ := h
    unfold Ev.top at e
    simp only at e
    split at e
    · rename_i ds e2
      cases e
      obtain ⟨a', e3, vs, h1, h2⟩ := r.cells n _ e2
      rw [e1] at e3; cases e3
      exact ⟨a, vs, rfl, h1, h2⟩
    · rename_i ds e2
      cases e
      obtain ⟨a', e3, vs, h1, h2⟩ := r.cells n _ e2
      rw [e1] at e3; cases e3
      exact ⟨a, vs, rfl, h1, h2⟩
    · cases e
def R.of (o : Option D) (S : Store) : R Val := match o with
  | some z => .ok (.d z) S
  | none => .bad
def eOp1 (f : D → Option D) (a : SE) : SE := fun L S => (a L S).bind fun v S1 => match top S1 v with
  | some x => R.of (f x) S1
  | none => .bad
def eOp2 (f : D → D → Option D) (a b : SE) : SE := fun L S => (a L S).bind fun v S1 => (b L S1).bind fun w S2 => match top S2 v, top S2 w with
  | some x, some y => R.of (f x y) S2
  | _, _ => .bad
/-- a rule of the layer does what the operation upon data says -/
def Snd1 (K : PySem.W.Frag) (r : V → Hp → VK → Prop) (f : D → Option D) : Prop := ∀ (G : PC) (F A : Addr → Prop) (ρ : List Addr) (S : Store) (H : Hp) (x z : D) (v : V) (Q : VK), G.K = K → RS G F A ρ S H → RepT K A H x v → f x = some z →
  (∀ H' u, Ext F A ρ H A ρ H' → RS G F A ρ S H' → RepD K A H' z u → Q u H') → r v H Q
def Snd2 (K : PySem.W.Frag) (r : R2) (f : D → D → Option D) : Prop := ∀ (G : PC) (F A : Addr → Prop) (ρ : List Addr) (S : Store) (H : Hp) (x y z : D) (v w : V) (Q : VK), G.K = K → RS G F A ρ S H → RepT K A H x v → RepT K A H y w → f x y = some z →
  (∀ H' u, Ext F A ρ H A ρ H' → RS G F A ρ S H' → RepD K A H' z u → Q u H') → r v w H Q
theorem of_ok {P : (Addr → Prop) → List Addr → Hp → Val → Prop} {E : Value → Option Addr → Hp → Prop} {o : Option D} (q : EvOk G F P E A ρ H (R.of o S)) : ∃ z, o = some z ∧ EvOk G F P E A ρ H (.ok (.d z) S) := by
  cases o with
  | none => exact q.elim
  | some z => exact ⟨z, rfl, q⟩
theorem tOp_of {r : R2} {f : D → D → Option D} {fa fb : SE} (hs : Snd2 G.K r f) : ∀ σ H Q, tE G W (eOp2 f fa fb) σ H Q → tOp r (tE G W fa) (tE G W fb) σ H Q := fun σ H Q ⟨F, A, ρ, L, S, l, r0, q⟩ => by
  refine ⟨F, A, ρ, L, S, l, r0, EvOk.bind q fun v S1 A1 ρ1 H1 x1 r1 q1 w rw1 => ?_⟩
  refine ⟨F, A1, ρ1, L, S1, l.mv x1 r0, r1, EvOk.bind q1 fun v2 S2 A2 ρ2 H2 x2 r2 q2 w2 rw2 => ?_⟩
  have rw1' := rw1.mv x2 r1
  split at q2
  · rename_i x y e1 e2
    obtain ⟨z, ez, q3⟩ := of_ok q2
    exact hs G F A2 ρ2 S2 H2 x y z w w2 Q rfl r2 (r2.top rw1' e1) (r2.top rw2 e2) ez fun H' u xe re rd => q3 A2 ρ2 H' xe re u rd
  · exact q2.elim
theorem tUn_of {r : V → Hp → VK → Prop} {f : D → Option D} {fa : SE} (hs : Snd1 G.K r f) : ∀ σ H Q, tE G W (eOp1 f fa) σ H Q → tUn r (tE G W fa) σ H Q := fun σ H Q ⟨F, A, ρ, L, S, l, r0, q⟩ => by
  refine ⟨F, A, ρ, L, S, l, r0, EvOk.bind q fun v S1 A1 ρ1 H1 x1 r1 q1 w rw1 => ?_⟩
  split at q1
  · rename_i x e1
    obtain ⟨z, ez, q3⟩ := of_ok q1
    exact hs G F A1 ρ1 S1 H1 x z w Q rfl r1 (r1.top rw1 e1) ez fun H' u xe re rd => q3 A1 ρ1 H' xe re u rd
  · exact q1.elim
section
variable {a b : Expr} {fa fb : SE} {pos : Pos}
theorem bin_ {op : Operator} {r : R2} {f : D → D → Option D} (ho : OpR X (binaryOp op) r) (hs : Snd2 G.K r f) (ha : PE X a (tE G W fa)) (hb : PE X b (tE G W fb)) : PE X (.BinOp a op b pos) (tE G W (eOp2 f fa fb)) := PE.imp (pe_op ho ha hb) (tOp_of hs)
theorem cmp_ {op : CmpOp} {r : R2} {f : D → D → Option D} (ho : OpR X (compareOp op) r) (hs : Snd2 G.K r f) (ha : PE X a (tE G W fa)) (hb : PE X b (tE G W fb)) (hm : behindInMarks op b = false) : PE X (.Compare a [op] [b] pos) (tE G W (eOp2 f fa fb)) := PE.imp (pe_cmpR ho ha hb hm) (tOp_of hs)
theorem ix_ {r : R2} {f : D → D → Option D} (ho : IxR X r) (hs : Snd2 G.K r f) (ha : PE X a (tE G W fa)) (hb : PE X b (tE G W fb)) (hp : PlainIx b) : PE X (.Subscript a b pos) (tE G W (eOp2 f fa fb)) := PE.imp (pe_ix ho ha hb hp) (tOp_of hs)
theorem un_ {op : UnaryOp} {r : V → Hp → VK → Prop} {f : D → Option D} (ho : UnR X (unaryOp op) r) (hs : Snd1 G.K r f) (ha : PE X a (tE G W fa)) : PE X (.UnaryOp op a pos) (tE G W (eOp1 f fa)) := PE.imp (pe_un ho ha) (tUn_of hs)
end
theorem Snd2.or {r r' : R2} {f f' : D → D → Option D} (h : Snd2 K r f) (h' : Snd2 K r' f') : Snd2 K (fun x y H Q => r x y H Q ∨ r' x y H Q) (fun x y => (f x y).orElse fun _ => f' x y) := fun G F A ρ S H x y z v w Q e rs h1 h2 ez q => by
  have ez : ((f x y).orElse fun _ => f' x y) = some z := ez
  cases e1 : f x y with
  | none => rw [e1] at ez; exact .inr (h' G F A ρ S H x y z v w Q e rs h1 h2 ez q)
  | some u => rw [e1] at ez; cases ez; exact .inl (h G F A ρ S H x y _ v w Q e rs h1 h2 e1 q)

/-! ### the operations: ints -/
def opI (C : Int → Int → Prop) [∀ i j, Decidable (C i j)] (g : Int → Int → D) : D → D → Option D
  | .int i, .int j => if C i j then some (g i j) else none
  | _, _ => none
def opI0 (g : Int → Int → D) : D → D → Option D
  | .int i, .int j => some (g i j)
  | _, _ => none
def DV : D → V
  | .non => .non
  | .bl b => .bl b
  | .int i => .int i
  | .str x => .str x
  | _ => .non
theorem repT_int {i : Int} {v : V} (h : RepT K A H (.int i) v) : v = .int i := h
theorem repT_str {x : Str} {v : V} (h : RepT K A H (.str x) v) : v = .str x := h
theorem snd_I {C : Int → Int → Prop} [∀ i j, Decidable (C i j)] {g : Int → Int → D} {gv : Int → Int → V} (hg : ∀ i j A H, RepD K A H (g i j) (gv i j)) : Snd2 K (rI C gv) (opI C g) := fun G F A ρ S H x y z v w Q _ rs h1 h2 ez q => by
  cases x with
  | int i =>
    cases y with
    | int j =>
      by_cases c : C i j
      · have e : opI C g (.int i) (.int j) = some (g i j) := if_pos c
        rw [e] at ez; cases ez
        exact ⟨i, j, repT_int h1, repT_int h2, c, q H _ Ext.refl rs (hg i j A H)⟩
      · have e : opI C g (.int i) (.int j) = none := if_neg c
        rw [e] at ez; cases ez
    | _ => simp [opI] at ez
  | _ => simp [opI] at ez
theorem snd_I0 {g : Int → Int → D} {gv : Int → Int → V} (hg : ∀ i j A H, RepD K A H (g i j) (gv i j)) : Snd2 K (rI0 gv) (opI0 g) := fun G F A ρ S H x y z v w Q _ rs h1 h2 ez q => by
  cases x with
  | int i =>
    cases y with
    | int j =>
      cases ez
      exact ⟨i, j, repT_int h1, repT_int h2, q H _ Ext.refl rs (hg i j A H)⟩
    | _ => cases ez
  | _ => cases ez
instance {i j : Int} : Decidable (CMul i j) := by unfold CMul; infer_instance
instance {i j : Int} : Decidable (CDiv i j) := by unfold CDiv; infer_instance
instance {i j : Int} : Decidable (CPow i j) := by unfold CPow; infer_instance
def subD := opI0 fun i j => .int (i - j)
def mulI := opI CMul fun i j => .int (i * j)
def fdivD := opI CDiv fun i j => .int (i / j)
def modD := opI (fun _ j => 0 < j) fun i j => .int (i % j)
def powD := opI CPow fun i j => .int (i ^ j.toNat)
def addI := opI0 fun i j => .int (i + j)
def ltD := opI0 fun i j => .bl (decide (i < j))
def leD := opI0 fun i j => .bl (decide (i ≤ j))
def gtD := opI0 fun i j => .bl (decide (j < i))
def geD := opI0 fun i j => .bl (decide (j ≤ i))
section
variable {a b : Expr} {fa fb : SE} {pos : Pos} (ha : PE X a (tE G W fa)) (hb : PE X b (tE G W fb))
include ha hb
theorem sub_ : PE X (.BinOp a .Sub b pos) (tE G W (eOp2 subD fa fb)) := bin_ op_sub (snd_I0 fun _ _ _ _ => rfl) ha hb
theorem mul_ : PE X (.BinOp a .Mult b pos) (tE G W (eOp2 mulI fa fb)) := bin_ op_mul (snd_I fun _ _ _ _ => rfl) ha hb
theorem fdiv_ : PE X (.BinOp a .FloorDiv b pos) (tE G W (eOp2 fdivD fa fb)) := bin_ op_fdiv (snd_I fun _ _ _ _ => rfl) ha hb
theorem mod_ : PE X (.BinOp a .Mod b pos) (tE G W (eOp2 modD fa fb)) := bin_ op_mod (snd_I fun _ _ _ _ => rfl) ha hb
theorem pow_ : PE X (.BinOp a .Pow b pos) (tE G W (eOp2 powD fa fb)) := bin_ op_pow (snd_I fun _ _ _ _ => rfl) ha hb
theorem lt_ : PE X (.Compare a [.Lt] [b] pos) (tE G W (eOp2 ltD fa fb)) := cmp_ op_lt (snd_I0 fun _ _ _ _ => rfl) ha hb (nomark _)
theorem le_ : PE X (.Compare a [.LtE] [b] pos) (tE G W (eOp2 leD fa fb)) := cmp_ op_le (snd_I0 fun _ _ _ _ => rfl) ha hb (nomark _)
theorem gt_ : PE X (.Compare a [.Gt] [b] pos) (tE G W (eOp2 gtD fa fb)) := cmp_ op_gt (snd_I0 fun _ _ _ _ => rfl) ha hb (nomark _)
theorem ge_ : PE X (.Compare a [.GtE] [b] pos) (tE G W (eOp2 geD fa fb)) := cmp_ op_ge (snd_I0 fun _ _ _ _ => rfl) ha hb (nomark _)
end
end Ev
set_option linter.all false
set_option Elab.async false
set_option maxRecDepth 100000
namespace Ev
open PySem L2
variable {F F1 A A1 A2 : Addr → Prop} {ρ ρ1 ρ2 : List Addr} {H H1 H2 : Hp} {K : PySem.W.Frag} {G : PC} {S S1 S2 : Store} {X : Cx} {W : WX}

/-- a new list or tuple of pure data -/
theorem new_lst (r : RS G F A ρ S H) {ds : List D} {vs : List V} (h : RepDs K A H ds vs) {p : Addr} (hp : H p = none) :
    Ext F A ρ H A ρ (upd H p (.lst vs)) ∧ RS G F A ρ S (upd H p (.lst vs)) ∧ RepD K A (upd H p (.lst vs)) (.lst ds) (.ref p) :=
  let ⟨x, r'⟩ := r.laid hp (.lst vs)
  ⟨x, r', p, vs, rfl, upd_same, r.notA hp, h.mv x r⟩
theorem new_tup (r : RS G F A ρ S H) {ds : List D} {vs : List V} (h : RepDs K A H ds vs) {p : Addr} (hp : H p = none) :
    Ext F A ρ H A ρ (upd H p (.tup vs)) ∧ RS G F A ρ S (upd H p (.tup vs)) ∧ RepD K A (upd H p (.tup vs)) (.tup ds) (.ref p) :=
  let ⟨x, r'⟩ := r.laid hp (.tup vs)
  ⟨x, r', p, vs, rfl, SqT.of upd_same, h.mv x r⟩

/-! ### + -/
def addD : D → D → Option D
  | .int i, .int j => some (.int (i + j))
  | .str x, .str y => if x.length + y.length ≤ sizeLine then some (.str (x ++ y)) else none
  | .lst xs, .lst ys => if xs.length + ys.length ≤ sizeLine then some (.lst (xs ++ ys)) else none
  | .tup xs, .tup ys => if xs.length + ys.length ≤ sizeLine then some (.tup (xs ++ ys)) else none
  | _, _ => none
theorem op_addD : OpR X (binaryOp .Add) (fun x y H Q => rI0 (fun i j => V.int (i + j)) x y H Q ∨ (∃ i j, x = .str i ∧ y = .str j ∧ i.length + j.length ≤ sizeLine ∧ Q (.str (i ++ j)) H) ∨ rCat x y H Q ∨ rCatA X.K x y H Q) :=
  op_add.or (op_add_str.or (op_cat.or op_catA))
theorem snd_add : Snd2 K (fun x y H Q => rI0 (fun i j => V.int (i + j)) x y H Q ∨ (∃ i j, x = .str i ∧ y = .str j ∧ i.length + j.length ≤ sizeLine ∧ Q (.str (i ++ j)) H) ∨ rCat x y H Q ∨ rCatA K x y H Q) addD := fun G F A ρ S H x y z v w Q eK rs h1 h2 ez q => by
  cases x with
  | int i => cases y with
    | int j => cases ez; exact .inl ⟨i, j, h1, h2, q H _ Ext.refl rs rfl⟩
    | _ => simp [addD] at ez
  | str i => cases y with
    | str j =>
      by_cases c : i.length + j.length ≤ sizeLine
      · simp only [addD, if_pos c] at ez; cases ez; exact .inr (.inl ⟨i, j, h1, h2, c, q H _ Ext.refl rs rfl⟩)
      · simp only [addD, if_neg c] at ez; cases ez
    | _ => simp [addD] at ez
  | lst xs => cases y with
    | lst ys =>
      by_cases c : xs.length + ys.length ≤ sizeLine
      · simp only [addD, if_pos c] at ez; cases ez
        obtain ⟨a, vs, rfl, e1, p1⟩ := h1
        obtain ⟨b, us, rfl, e2, p2⟩ := h2
        refine .inr (.inr (.inl ⟨a, b, vs, us, rfl, rfl, e1, e2, by rw [p1.len, p2.len]; exact c, fun p hp => ?_⟩))
        obtain ⟨x, r', d⟩ := new_lst rs (p1.app p2) hp
        exact q _ _ x r' d
      · simp only [addD, if_neg c] at ez; cases ez
    | _ => simp [addD] at ez
  | tup xs => cases y with
    | tup ys =>
      by_cases c : xs.length + ys.length ≤ sizeLine
      · simp only [addD, if_pos c] at ez; cases ez
        obtain ⟨a, vs, rfl, e1, p1⟩ := h1
        obtain ⟨b, us, rfl, e2, p2⟩ := h2
        refine .inr (.inr (.inr ⟨a, b, vs, us, rfl, rfl, e1, e2, by rw [p1.len, p2.len]; exact c, fun z => ?_, fun _ z => ?_, fun _ _ p hp => ?_⟩))
        · subst z
          have := p1.len
          have z : xs = [] := List.eq_nil_of_length_eq_zero (by rw [← this]; rfl)
          subst z
          exact q _ _ Ext.refl rs ⟨b, us, rfl, e2, p2⟩
        · subst z
          have := p2.len
          have z : ys = [] := List.eq_nil_of_length_eq_zero (by rw [← this]; rfl)
          subst z
          exact q _ _ Ext.refl rs ⟨a, vs, rfl, e1, by rw [List.append_nil]; exact p1⟩
        · obtain ⟨x, r', d⟩ := new_tup rs (p1.app p2) hp
          exact q _ _ x r' d
      · simp only [addD, if_neg c] at ez; cases ez
    | _ => simp [addD] at ez
  | _ => simp [addD] at ez
/-! ### * of texts and lists by ints -/
/-! ### == and != -/
mutual
def D.py : D → PyData
  | .non => .none
  | .bl b => .bool b
  | .int i => .int i
  | .str x => .str x
  | .scr ns => .list (ns.map .int)
  | .tup ds => .tuple (D.pys ds)
  | .lst ds => .list (D.pys ds)
def D.pys : List D → List PyData
  | [] => []
  | d :: ds => d.py :: D.pys ds
end
mutual
theorem RepD.dp : ∀ {d : D} {v : V}, RepD K A H d v → Dp K H v d.py
  | .non, v, h => by rw [show v = _ from h]; exact .non
  | .bl b, v, h => by rw [show v = _ from h]; exact .bl b
  | .int i, v, h => by rw [show v = _ from h]; exact .int i
  | .str x, v, h => by rw [show v = _ from h]; exact .str x
  | .scr ns, v, h => by
    obtain ⟨a, rfl, q⟩ := h
    refine .lst (xs := ns.map V.int) (q.elim (fun q => .inl q.1) fun q => q H) ?_
    have all : ∀ ns : List Int, DpAll K H (ns.map V.int) (ns.map PyData.int) := fun ns => by
      induction ns with
      | nil => exact .nil
      | cons n r ih => exact .cons (.int n) ih
    exact all ns
  | .tup ds, v, h => by
    obtain ⟨a, vs, rfl, e, p⟩ := h
    exact .tup e (RepDs.dp p)
  | .lst ds, v, h => by
    obtain ⟨a, vs, rfl, e, na, p⟩ := h
    exact .lst (SqL.of e) (RepDs.dp p)
theorem RepDs.dp : ∀ {ds : List D} {vs : List V}, RepDs K A H ds vs → DpAll K H vs (D.pys ds)
  | [], vs, h => by rw [show vs = [] from h]; exact .nil
  | d :: ds, vs, h => by
    obtain ⟨v, t, rfl, p, q⟩ := h
    exact .cons (RepD.dp p) (RepDs.dp q)
end
theorem RepT.dp {d : D} {v : V} (h : RepT K A H d v) : Dp K H v d.py := by
  cases d with
  | lst ds =>
    obtain ⟨a, vs, rfl, e, p⟩ := h
    exact .lst (SqL.of e) (RepDs.dp p)
  | _ => exact RepD.dp (A := A) h
def eqD : D → D → Option Bool
  | .int i, .int j => some (decide (i = j))
  | .str i, .str j => some (decide (i = j))
  | .bl i, .bl j => some (decide (i = j))
  | .non, .non => some true
  | .non, .int _ => some false
  | .non, .str _ => some false
  | .non, .bl _ => some false
  | .int _, .non => some false
  | .str _, .non => some false
  | .bl _, .non => some false
  | .int _, .str _ => some false
  | .str _, .int _ => some false
  | .bl _, .str _ => some false
  | .str _, .bl _ => some false
  | x, y => if SeqAt.shaped x.py = true ∧ SeqAt.shaped y.py = true then some (PyData.eqv x.py y.py) else none
def eqD' (x y : D) : Option D := (eqD x y).map .bl
def neD' (x y : D) : Option D := (eqD x y).map fun b => .bl (!b)
theorem eqD_cases {x y : D} {b : Bool} (h : eqD x y = some b) : (∃ v w, (∀ K A H u, RepT K A H x u → u = v) ∧ (∀ K A H u, RepT K A H y u → u = w) ∧ scal v w = true ∧ b = decide (v = w)) ∨
    (SeqAt.shaped x.py = true ∧ SeqAt.shaped y.py = true ∧ b = PyData.eqv x.py y.py) := by
  have fin : (if SeqAt.shaped x.py = true ∧ SeqAt.shaped y.py = true then some (PyData.eqv x.py y.py) else none) = some b → (∃ v w, (∀ K A H u, RepT K A H x u → u = v) ∧ (∀ K A H u, RepT K A H y u → u = w) ∧ scal v w = true ∧ b = decide (v = w)) ∨
    (SeqAt.shaped x.py = true ∧ SeqAt.shaped y.py = true ∧ b = PyData.eqv x.py y.py) := fun h => by
    split at h
    · rename_i c
      cases h
      exact .inr ⟨c.1, c.2, rfl⟩
    · cases h
  cases x <;> cases y <;> first
    | exact fin h
    | (refine .inl ⟨_, _, fun _ _ _ _ q => q, fun _ _ _ _ q => q, rfl, ?_⟩
       have h := Option.some.inj h
       rw [← h]
       simp)
theorem snd_eq : Snd2 K (fun x y H Q => rEq x y H Q ∨ rEqD K x y H Q) eqD' := fun G F A ρ S H x y z v w Q eK rs h1 h2 ez q => by
  unfold eqD' at ez
  cases e : eqD x y with
  | none => rw [e] at ez; cases ez
  | some b =>
    rw [e] at ez; cases ez
    rcases eqD_cases e with ⟨v', w', e1, e2, sc, eb⟩ | ⟨s1, s2, eb⟩
    · rw [e1 _ _ _ _ h1, e2 _ _ _ _ h2]
      refine .inl ⟨sc, ?_⟩
      rw [← eb]
      exact q H _ Ext.refl rs rfl
    · refine .inr ⟨_, _, h1.dp, h2.dp, s1, s2, ?_⟩
      rw [← eb]
      exact q H _ Ext.refl rs rfl
theorem snd_ne : Snd2 K (fun x y H Q => rNe x y H Q ∨ rNeD K x y H Q) neD' := fun G F A ρ S H x y z v w Q eK rs h1 h2 ez q => by
  unfold neD' at ez
  cases e : eqD x y with
  | none => rw [e] at ez; cases ez
  | some b =>
    rw [e] at ez; cases ez
    rcases eqD_cases e with ⟨v', w', e1, e2, sc, eb⟩ | ⟨s1, s2, eb⟩
    · rw [e1 _ _ _ _ h1, e2 _ _ _ _ h2]
      refine .inl ⟨sc, ?_⟩
      rw [← eb]
      exact q H _ Ext.refl rs rfl
    · refine .inr ⟨_, _, h1.dp, h2.dp, s1, s2, ?_⟩
      rw [← eb]
      exact q H _ Ext.refl rs rfl
/-! ### in -/
def flatD : D → Bool
  | .non => true
  | .bl _ => true
  | .int _ => true
  | .str _ => true
  | _ => false
theorem flat_rep {d : D} {v : V} (f : flatD d = true) (h : RepD K A H d v) : v = DV d := by
  cases d with
  | non => exact h
  | bl _ => exact h
  | int _ => exact h
  | str _ => exact h
  | _ => cases f
theorem flat_reps : ∀ {ds : List D} {vs : List V}, ds.all flatD = true → RepDs K A H ds vs → vs = ds.map DV
  | [], vs, _, h => h
  | d :: ds, vs, f, h => by
    obtain ⟨v, t, rfl, p, q⟩ := h
    rw [List.all_cons, Bool.and_eq_true] at f
    rw [flat_rep f.1 p, flat_reps f.2 q]
    rfl
theorem flatV_DV (d : D) : flatV (DV d) = true := by cases d <;> rfl
/-- == of flat data -/
def eqF (x y : D) : Bool := eqV (DV x) (DV y)
def inF (neg : Bool) (x : D) (ds : List D) : Option D := if flatD x = true ∧ ds.all flatD = true then some (.bl (if neg then !(ds.any fun y => eqF y x) else ds.any fun y => eqF y x)) else none
def inS (neg : Bool) (x z : Str) : Option D := match x.cps.toList with
  | [c] => some (.bl (if neg then !decide (c ∈ z.cps.toList) else decide (c ∈ z.cps.toList)))
  | _ => none
def inD (neg : Bool) : D → D → Option D
  | .str x, .str z => inS neg x z
  | x, .lst ds => inF neg x ds
  | x, .tup ds => inF neg x ds
  | _, _ => none
def rSgn (neg : Bool) : R2 := fun x y H Q => ∃ (c : Nat) (z : Str), x = .str ⟨#[c]⟩ ∧ y = .str z ∧ Q (.bl (if neg then !decide (c ∈ z.cps.toList) else decide (c ∈ z.cps.toList))) H
theorem op_inD' : OpR X (compareOp .In) (fun x y H Q => rSgn false x y H Q ∨ rIn X.K false x y H Q) := OpR.or op_in_sign op_in_seq
theorem op_notInD' : OpR X (compareOp .NotIn) (fun x y H Q => rSgn true x y H Q ∨ rIn X.K true x y H Q) := OpR.or op_notIn_sign op_notIn_seq
theorem snd_in (neg : Bool) : Snd2 K (fun x y H Q => rSgn neg x y H Q ∨ rIn K neg x y H Q) (inD neg) := fun G F A ρ S H x y z v w Q eK rs h1 h2 ez q => by
  have seq : ∀ (ds : List D) (p : Addr) (vs : List V), w = .ref p → (SqL K H p vs ∨ SqT K H p vs) → RepDs K A H ds vs → inF neg x ds = some z → rIn K neg v w H Q := fun ds p vs e sq rd ei => by
    unfold inF at ei
    split at ei
    · rename_i c
      cases ei
      have e1 : v = DV x := by
        have c1 := c.1
        cases x with
        | non => exact h1
        | bl _ => exact h1
        | int _ => exact h1
        | str _ => exact h1
        | _ => cases c1
      have e2 := flat_reps c.2 rd
      subst e1 e2
      refine ⟨p, _, e, sq, flatV_DV x, ?_, ?_⟩
      · rw [List.all_map]
        exact List.all_eq_true.mpr fun d _ => flatV_DV d
      · have ee : inV (DV x) (ds.map DV) = ds.any fun y => eqF y x := by
          unfold inV
          rw [List.any_map]
          rfl
        rw [ee]
        exact q H _ Ext.refl rs rfl
    · cases ei
  cases y with
  | lst ds =>
    obtain ⟨a, vs, rfl, e, p⟩ := h2
    refine .inr (seq ds a vs rfl (.inl (SqL.of e)) p ?_)
    cases x <;> exact ez
  | tup ds =>
    obtain ⟨a, vs, rfl, e, p⟩ := h2
    refine .inr (seq ds a vs rfl (.inr e) p ?_)
    cases x <;> exact ez
  | str y =>
    cases x with
    | str x =>
      have ez : inS neg x y = some z := ez
      unfold inS at ez
      split at ez
      · rename_i c e
        cases ez
        have e1 : x = ⟨#[c]⟩ := by
          obtain ⟨⟨l⟩⟩ := x
          simp at e
          subst e
          rfl
        refine .inl ⟨c, y, ?_, h2, q H _ Ext.refl rs rfl⟩
        rw [← e1]
        exact h1
      · cases ez
    | _ => simp [inD] at ez
  | _ => cases x <;> simp [inD] at ez
/-! ### items -/
def idxD : D → D → Option D
  | .lst ds, .int i => atI ds i
  | .tup ds, .int i => atI ds i
  | .scr ns, .int i => (atI ns i).map .int
  | .str z, .int i => if z.length ≤ sizeLine then (atI z.cps.toList i).map fun c => .str ⟨#[c]⟩ else none
  | _, _ => none
theorem atI_len {α β : Type} {xs : List α} {ys : List β} (e : xs.length = ys.length) {i : Int} {x : α} (h : atI xs i = some x) : ∃ j, ixN ys.length i = some j ∧ xs[j]? = some x := by
  unfold atI at h
  rw [← e]
  cases q : ixN xs.length i with
  | none => rw [q] at h; cases h
  | some j => rw [q] at h; exact ⟨j, rfl, h⟩
theorem atI_rep {ds : List D} {vs : List V} {i : Int} {d : D} (h : RepDs K A H ds vs) (e : atI ds i = some d) : ∃ v, atI vs i = some v ∧ RepD K A H d v := by
  obtain ⟨j, e1, e2⟩ := atI_len h.len.symm e
  obtain ⟨v, e3, p⟩ := h.get e2
  exact ⟨v, by unfold atI; rw [e1]; exact e3, p⟩
theorem atI_map {α β : Type} (f : α → β) (xs : List α) (i : Int) : atI (xs.map f) i = (atI xs i).map f := by
  unfold atI
  rw [List.length_map]
  cases ixN xs.length i with
  | none => rfl
  | some j => simp [List.getElem?_map]
theorem snd_ix : Snd2 K (rIx K) idxD := fun G F A ρ S H x y z v w Q eK rs h1 h2 ez q => by
  cases y with
  | int i =>
    cases x with
    | lst ds =>
      obtain ⟨a, vs, rfl, e, p⟩ := h1
      obtain ⟨u, e1, p1⟩ := atI_rep p ez
      exact .inl ⟨a, vs, i, u, rfl, h2, SqL.of e, e1, q H _ Ext.refl rs p1⟩
    | tup ds =>
      obtain ⟨a, vs, rfl, e, p⟩ := h1
      obtain ⟨u, e1, p1⟩ := atI_rep p ez
      exact .inr (.inl ⟨a, vs, i, u, rfl, h2, e, e1, q H _ Ext.refl rs p1⟩)
    | scr ns =>
      obtain ⟨a, rfl, p⟩ := h1
      cases e : atI ns i with
      | none => simp [idxD, e] at ez
      | some n =>
        simp [idxD, e] at ez; subst ez
        exact .inl ⟨a, _, i, .int n, rfl, h2, p.elim (fun p => .inl p.1) fun p => p H, by rw [atI_map, e]; rfl, q H _ Ext.refl rs rfl⟩
    | str s =>
      by_cases c : s.length ≤ sizeLine
      · simp only [idxD, if_pos c] at ez
        cases e : atI s.cps.toList i with
        | none => rw [e] at ez; cases ez
        | some n =>
          rw [e] at ez; cases ez
          exact .inr (.inr ⟨s, i, n, h1, h2, c, e, q H _ Ext.refl rs rfl⟩)
      · simp only [idxD, if_neg c] at ez; cases ez
    | _ => simp [idxD] at ez
  | _ => cases x <;> simp [idxD] at ez
end Ev
set_option linter.all false
set_option Elab.async false
set_option maxRecDepth 100000
namespace Ev
open PySem L2
variable {F F1 A A1 A2 : Addr → Prop} {ρ ρ1 ρ2 : List Addr} {H H1 H2 : Hp} {K : PySem.W.Frag} {G : PC} {S S1 S2 : Store} {X : Cx} {W : WX}

section
variable {a b c : Expr} {fa fb fc : SE} {pos : Pos}
/-- hK: the program's written part is the context's -/
theorem add_ (hK : X.K = G.K) (ha : PE X a (tE G W fa)) (hb : PE X b (tE G W fb)) : PE X (.BinOp a .Add b pos) (tE G W (eOp2 addD fa fb)) := bin_ op_addD (hK ▸ snd_add) ha hb
theorem eq_ (hK : X.K = G.K) (hu : X.A.units + 64 < cLine) (ha : PE X a (tE G W fa)) (hb : PE X b (tE G W fb)) : PE X (.Compare a [.Eq] [b] pos) (tE G W (eOp2 eqD' fa fb)) := cmp_ (OpR.or op_eq (op_eqD hu)) (hK ▸ snd_eq) ha hb (nomark _)
theorem ne_ (hK : X.K = G.K) (hu : X.A.units + 64 < cLine) (ha : PE X a (tE G W fa)) (hb : PE X b (tE G W fb)) : PE X (.Compare a [.NotEq] [b] pos) (tE G W (eOp2 neD' fa fb)) := cmp_ (OpR.or op_ne (op_neD hu)) (hK ▸ snd_ne) ha hb (nomark _)
theorem in_ (hK : X.K = G.K) (ha : PE X a (tE G W fa)) (hb : PE X b (tE G W fb)) (hm : behindInMarks .In b = false) : PE X (.Compare a [.In] [b] pos) (tE G W (eOp2 (inD false) fa fb)) := cmp_ op_inD' (hK ▸ snd_in false) ha hb hm
theorem notin_ (hK : X.K = G.K) (ha : PE X a (tE G W fa)) (hb : PE X b (tE G W fb)) (hm : behindInMarks .NotIn b = false) : PE X (.Compare a [.NotIn] [b] pos) (tE G W (eOp2 (inD true) fa fb)) := cmp_ op_notInD' (hK ▸ snd_in true) ha hb hm

/-! ### is None -/
def isN : Val → Bool
  | .d .non => true
  | _ => false
def eIsN (neg : Bool) (a : SE) : SE := fun L S => (a L S).bind fun v S1 => .ok (.d (.bl (if neg then !isN v else isN v))) S1
theorem isN_rep {v : Val} {w : V} (h : RepV K A H ρ v w) : decide (w = .non) = isN v := by
  cases v with
  | d x => cases x with
    | non => rw [show w = _ from h]; rfl
    | bl _ => rw [show w = _ from h]; simp [isN]
    | int _ => rw [show w = _ from h]; simp [isN]
    | str _ => rw [show w = _ from h]; simp [isN]
    | scr _ => obtain ⟨a, rfl, _⟩ := h; simp [isN]
    | tup _ => obtain ⟨a, vs, rfl, _⟩ := h; simp [isN]
    | lst _ => obtain ⟨a, vs, rfl, _⟩ := h; simp [isN]
  | ref n => obtain ⟨a, _, rfl⟩ := h; simp [isN]
  | vt vs => obtain ⟨a, vs, rfl, _⟩ := h; simp [isN]
  | exc a d nm fs => obtain ⟨rfl, _⟩ := h; simp [isN]
theorem isn_t : ∀ σ H Q, tE G W (eIsN false fa) σ H Q → tIsN (tE G W fa) σ H Q := fun σ H Q ⟨F, A, ρ, L, S, l, r0, q⟩ => by
  refine ⟨F, A, ρ, L, S, l, r0, EvOk.bind q fun v S1 A1 ρ1 H1 x1 r1 q1 w rw1 => ?_⟩
  have := q1 A1 ρ1 H1 Ext.refl r1 (.bl (isN v)) rfl
  show Q (.bl (decide (w = .non))) H1
  rw [isN_rep rw1]
  exact this
theorem isnn_t : ∀ σ H Q, tE G W (eIsN true fa) σ H Q → tNotN (tE G W fa) σ H Q := fun σ H Q ⟨F, A, ρ, L, S, l, r0, q⟩ => by
  refine ⟨F, A, ρ, L, S, l, r0, EvOk.bind q fun v S1 A1 ρ1 H1 x1 r1 q1 w rw1 => ?_⟩
  have := q1 A1 ρ1 H1 Ext.refl r1 (.bl (!isN v)) rfl
  show Q (.bl (!decide (w = .non))) H1
  rw [isN_rep rw1]
  exact this
theorem isn_ {j pos'} (ha : PE X a (tE G W fa)) : PE X (.Compare a [.Is] [.Constant .none j pos'] pos) (tE G W (eIsN false fa)) := PE.imp (pe_cmp (pc_isN ha)) isn_t
theorem isnn_ {j pos'} (ha : PE X a (tE G W fa)) : PE X (.Compare a [.IsNot] [.Constant .none j pos'] pos) (tE G W (eIsN true fa)) := PE.imp (pe_cmp (pc_notN ha)) isnn_t

/-! ### items, slices -/
def eIdx (a b : SE) : SE := fun L S => (a L S).bind fun v S1 => (b L S1).bind fun w S2 => match v with
  | .vt vs => match w with
    | .d (.int i) => match atI vs i with
      | some u => .ok u S2
      | none => .bad
    | _ => .bad
  | _ => match top S2 v, top S2 w with
    | some x, some y => R.of (idxD x y) S2
    | _, _ => .bad
theorem atI_repV {ds : List Val} {vs : List V} {i : Int} {d : Val} (h : RepVs K A H ρ ds vs) (e : atI ds i = some d) : ∃ v, atI vs i = some v ∧ RepV K A H ρ d v := by
  obtain ⟨j, e1, e2⟩ := atI_len h.len.symm e
  obtain ⟨v, e3, p⟩ := h.get e2
  exact ⟨v, by unfold atI; rw [e1]; exact e3, p⟩
theorem idx_t : ∀ σ H Q, tE G W (eIdx fa fb) σ H Q → tOp (rIx G.K) (tE G W fa) (tE G W fb) σ H Q := fun σ H Q ⟨F, A, ρ, L, S, l, r0, q⟩ => by
  refine ⟨F, A, ρ, L, S, l, r0, EvOk.bind q fun v S1 A1 ρ1 H1 x1 r1 q1 w rw1 => ?_⟩
  refine ⟨F, A1, ρ1, L, S1, l.mv x1 r0, r1, EvOk.bind q1 fun v2 S2 A2 ρ2 H2 x2 r2 q2 w2 rw2 => ?_⟩
  have rw1' := rw1.mv x2 r1
  split at q2
  · rename_i vs
    split at q2
    · rename_i i
      split at q2
      · rename_i u e
        obtain ⟨a, ws, rfl, sq, p⟩ := rw1'
        obtain ⟨z, e1, pz⟩ := atI_repV p e
        exact .inr (.inl ⟨a, ws, i, z, rfl, rw2, sq, e1, q2 A2 ρ2 H2 Ext.refl r2 z pz⟩)
      · exact q2.elim
    · exact q2.elim
  · split at q2
    · rename_i x y e1 e2
      obtain ⟨z, ez, q3⟩ := of_ok q2
      exact snd_ix G F A2 ρ2 S2 H2 x y z w w2 Q rfl r2 (r2.top rw1' e1) (r2.top rw2 e2) ez fun H' u xe re rd => q3 A2 ρ2 H' xe re u rd
    · exact q2.elim
theorem idx_ (hK : X.K = G.K) (ha : PE X a (tE G W fa)) (hb : PE X b (tE G W fb)) (hp : PlainIx b) : PE X (.Subscript a b pos) (tE G W (eIdx fa fb)) := PE.imp (pe_ix (hK ▸ ix_seq) ha hb hp) idx_t

abbrev SO := Loc → Store → R (Option Int)
def tO' (G : PC) (W : WX) (f : SO) : TO := fun σ H Q => ∃ F A ρ L S, RL G.K A H ρ L σ ∧ RS G F A ρ S H ∧ EvOk G F (fun A' ρ' H' b => Q b H') (fun cls d H' => W cls d σ H') A ρ H (f L S)
def oN : SO := fun _ S => .ok none S
def oE (a : SE) : SO := fun L S => (a L S).bind fun v S1 => match v with
  | .d (.int i) => .ok (some i) S1
  | _ => .bad
theorem oN_ : PO X none (tO' G W oN) := PO.imp po_none fun σ H Q ⟨F, A, ρ, L, S, l, r, q⟩ => q A ρ H Ext.refl r
theorem oE_ (ha : PE X a (tE G W fa)) : PO X (some a) (tO' G W (oE fa)) := PO.imp (po_some ha) fun σ H Q ⟨F, A, ρ, L, S, l, r0, q⟩ => by
  refine ⟨F, A, ρ, L, S, l, r0, EvOk.bind q fun v S1 A1 ρ1 H1 x1 r1 q1 w rw1 => ?_⟩
  split at q1
  · rename_i i
    exact ⟨i, rw1, q1 A1 ρ1 H1 Ext.refl r1⟩
  · exact q1.elim
def cutD {α : Type} (xs : List α) (lo hi : Option Int) : List α := (xs.drop (HT.sIx xs.length 0 lo)).take (HT.sIx xs.length xs.length hi - HT.sIx xs.length 0 lo)
def slD : D → Option Int → Option Int → Option D
  | .lst ds, lo, hi => some (.lst (cutD ds lo hi))
  | .tup ds, lo, hi => some (.tup (cutD ds lo hi))
  | .str z, lo, hi => if z.length ≤ sizeLine then some (.str (cutS z lo hi)) else none
  | _, _, _ => none
def eSl (a : SE) (lo hi : SO) : SE := fun L S => (a L S).bind fun v S1 => (lo L S1).bind fun l S2 => (hi L S2).bind fun h S3 => match top S3 v with
  | some x => R.of (slD x l h) S3
  | none => .bad
def rSl (K : PySem.W.Frag) : V → Option Int → Option Int → Hp → VK → Prop := fun x lo hi H Q => rSlL K x lo hi H Q ∨ rSlA K x lo hi H Q ∨ rSlS x lo hi H Q
theorem cut_rep {ds : List D} {vs : List V} (h : RepDs K A H ds vs) (lo hi : Option Int) : RepDs K A H (cutD ds lo hi) (cutV vs lo hi) := by
  unfold cutD cutV
  rw [h.len]
  exact (h.drop _).take _
theorem cut_all {ds : List D} {lo hi : Option Int} (h : HT.sIx ds.length 0 lo = 0 ∧ HT.sIx ds.length ds.length hi = ds.length) : cutD ds lo hi = ds := by
  unfold cutD
  rw [h.1, h.2, List.drop_zero, Nat.sub_zero, List.take_length]
theorem sl_t {lo hi : SO} : ∀ σ H Q, tE G W (eSl fa lo hi) σ H Q → tSl (rSl G.K) (tE G W fa) (tO' G W lo) (tO' G W hi) σ H Q := fun σ H Q ⟨F, A, ρ, L, S, l, r0, q⟩ => by
  refine ⟨F, A, ρ, L, S, l, r0, EvOk.bind q fun v S1 A1 ρ1 H1 x1 r1 q1 w rw1 => ?_⟩
  refine ⟨F, A1, ρ1, L, S1, l.mv x1 r0, r1, EvOk.bind q1 fun i S2 A2 ρ2 H2 x2 r2 q2 => ?_⟩
  have l2 := (l.mv x1 r0).mv x2 r1
  refine ⟨F, A2, ρ2, L, S2, l2, r2, EvOk.bind q2 fun j S3 A3 ρ3 H3 x3 r3 q3 => ?_⟩
  have rw3 := (rw1.mv x2 r1).mv x3 r2
  split at q3
  · rename_i x e1
    obtain ⟨z, ez, q4⟩ := of_ok q3
    have t := r3.top rw3 e1
    cases x with
    | lst ds =>
      cases ez
      obtain ⟨a, vs, rfl, e, p⟩ := t
      refine .inl ⟨a, vs, rfl, SqL.of e, fun p' hp => ?_⟩
      obtain ⟨x, r', d⟩ := new_lst r3 (cut_rep p i j) hp
      exact q4 _ _ _ x r' _ d
    | tup ds =>
      cases ez
      obtain ⟨a, vs, rfl, e, p⟩ := t
      refine .inr (.inl ⟨a, vs, rfl, e, fun h => ?_, fun _ p' hp => ?_⟩)
      · rw [p.len] at h
        rw [cut_all h] at q4
        exact q4 _ _ _ Ext.refl r3 _ ⟨a, vs, rfl, e, p⟩
      · obtain ⟨x, r', d⟩ := new_tup r3 (cut_rep p i j) hp
        exact q4 _ _ _ x r' _ d
    | str s =>
      by_cases c : s.length ≤ sizeLine
      · simp only [slD, if_pos c] at ez; cases ez
        exact .inr (.inr ⟨s, t, c, q4 _ _ _ Ext.refl r3 _ rfl⟩)
      · simp only [slD, if_neg c] at ez; cases ez
    | _ => simp [slD] at ez
  · exact q3.elim
theorem sl_ {lo hi : Option Expr} {fl fh : SO} {p2 : Pos} (hK : X.K = G.K) (ha : PE X a (tE G W fa)) (hl : PO X lo (tO' G W fl)) (hh : PO X hi (tO' G W fh)) : PE X (.Subscript a (.Slice lo hi none p2) pos) (tE G W (eSl fa fl fh)) :=
  PE.imp (pe_slice (r := rSl G.K) (hK ▸ SlR.or sl_list (SlR.or sl_tupA sl_str)) ha hl hh) sl_t

/-! ### tests -/
def bE (e : SE) : SB := fun L S => (e L S).bind fun v S1 => match v with
  | .d (.bl b) => .ok b S1
  | _ => .bad
theorem bE_t : ∀ σ H Q, tB' G W (bE fa) σ H Q → tE G W fa σ H fun x H' => ∃ k, x = .bl k ∧ Q k H' := fun σ H Q ⟨F, A, ρ, L, S, l, r0, q⟩ => by
  refine ⟨F, A, ρ, L, S, l, r0, EvOk.bind q fun v S1 A1 ρ1 H1 x1 r1 q1 w rw1 => ?_⟩
  split at q1
  · rename_i b
    exact ⟨b, rw1, q1 A1 ρ1 H1 Ext.refl r1⟩
  · exact q1.elim
theorem tcmp_ {op : CmpOp} {r : R2} {f : D → D → Option D} (ho : OpR X (compareOp op) r) (hs : Snd2 G.K r f) (ha : PE X a (tE G W fa)) (hb : PE X b (tE G W fb)) (hm : behindInMarks op b = false) : PT X (.Compare a [op] [b] pos) (tB' G W (bE (eOp2 f fa fb))) :=
  PT.imp (pt_cmpR ho ha hb hm) fun σ H Q q => tOp_of hs σ H _ (bE_t σ H Q q)
theorem tisn_ {j pos'} (ha : PE X a (tE G W fa)) : PT X (.Compare a [.Is] [.Constant .none j pos'] pos) (tB' G W (bE (eIsN false fa))) := PT.imp (pt_cmp (pc_isN ha)) fun σ H Q q => isn_t σ H _ (bE_t σ H Q q)
theorem tisnn_ {j pos'} (ha : PE X a (tE G W fa)) : PT X (.Compare a [.IsNot] [.Constant .none j pos'] pos) (tB' G W (bE (eIsN true fa))) := PT.imp (pt_cmp (pc_notN ha)) fun σ H Q q => isnn_t σ H _ (bE_t σ H Q q)
theorem tlt_ (ha : PE X a (tE G W fa)) (hb : PE X b (tE G W fb)) : PT X (.Compare a [.Lt] [b] pos) (tB' G W (bE (eOp2 ltD fa fb))) := tcmp_ op_lt (snd_I0 fun _ _ _ _ => rfl) ha hb (nomark _)
theorem tle_ (ha : PE X a (tE G W fa)) (hb : PE X b (tE G W fb)) : PT X (.Compare a [.LtE] [b] pos) (tB' G W (bE (eOp2 leD fa fb))) := tcmp_ op_le (snd_I0 fun _ _ _ _ => rfl) ha hb (nomark _)
theorem tgt_ (ha : PE X a (tE G W fa)) (hb : PE X b (tE G W fb)) : PT X (.Compare a [.Gt] [b] pos) (tB' G W (bE (eOp2 gtD fa fb))) := tcmp_ op_gt (snd_I0 fun _ _ _ _ => rfl) ha hb (nomark _)
theorem tge_ (ha : PE X a (tE G W fa)) (hb : PE X b (tE G W fb)) : PT X (.Compare a [.GtE] [b] pos) (tB' G W (bE (eOp2 geD fa fb))) := tcmp_ op_ge (snd_I0 fun _ _ _ _ => rfl) ha hb (nomark _)
theorem teq_ (hK : X.K = G.K) (hu : X.A.units + 64 < cLine) (ha : PE X a (tE G W fa)) (hb : PE X b (tE G W fb)) : PT X (.Compare a [.Eq] [b] pos) (tB' G W (bE (eOp2 eqD' fa fb))) := tcmp_ (OpR.or op_eq (op_eqD hu)) (hK ▸ snd_eq) ha hb (nomark _)
theorem tne_ (hK : X.K = G.K) (hu : X.A.units + 64 < cLine) (ha : PE X a (tE G W fa)) (hb : PE X b (tE G W fb)) : PT X (.Compare a [.NotEq] [b] pos) (tB' G W (bE (eOp2 neD' fa fb))) := tcmp_ (OpR.or op_ne (op_neD hu)) (hK ▸ snd_ne) ha hb (nomark _)
theorem tin_ (hK : X.K = G.K) (ha : PE X a (tE G W fa)) (hb : PE X b (tE G W fb)) (hm : behindInMarks .In b = false) : PT X (.Compare a [.In] [b] pos) (tB' G W (bE (eOp2 (inD false) fa fb))) := tcmp_ op_inD' (hK ▸ snd_in false) ha hb hm
theorem tnotin_ (hK : X.K = G.K) (ha : PE X a (tE G W fa)) (hb : PE X b (tE G W fb)) (hm : behindInMarks .NotIn b = false) : PT X (.Compare a [.NotIn] [b] pos) (tB' G W (bE (eOp2 (inD true) fa fb))) := tcmp_ op_notInD' (hK ▸ snd_in true) ha hb hm
/-- a call (or a name, an item ..) that gives a bool -/
theorem tval_ (ha : PE X a (tE G W fa)) (he : ∀ whole, isTrue a X.env whole = (do let v ← whole; standAt a.pos; holding [v] (truthy v)) := by intro _; rfl) : PT X a (tB' G W (bE fa)) := PT.imp (pt_val ha he) fun σ H Q q => bE_t σ H Q q
/-- truth of a value -/
def truD : D → Option Bool
  | .non => some false
  | .bl b => some b
  | .int i => some (i != 0)
  | .str y => if y.length ≤ sizeLine then some ((y.length : Int) != 0) else none
  | .scr ns => some (!ns.isEmpty)
  | .lst ds => some (!ds.isEmpty)
  | .tup ds => some (!ds.isEmpty)
def bTr (e : SE) : SB := fun L S => (e L S).bind fun v S1 => match top S1 v with
  | some x => match truD x with
    | some b => .ok b S1
    | none => .bad
  | none => match v with
    | .ref n => match S1[n]? with
      | some (.dic ks ds) => .ok (!ks.isEmpty) S1
      | _ => .bad
    | _ => .bad
theorem ttru_ (hK : X.K = G.K) (ha : PE X a (tE G W fa)) (he : ∀ whole, isTrue a X.env whole = (do let v ← whole; standAt a.pos; holding [v] (truthy v)) := by intro _; rfl) : PT X a (tB' G W (bTr fa)) := PT.imp (pt_truth ha he) fun σ H Q ⟨F, A, ρ, L, S, l, r0, q⟩ => by
  refine ⟨F, A, ρ, L, S, l, r0, EvOk.bind q fun v S1 A1 ρ1 H1 x1 r1 q1 w rw1 => ?_⟩
  rw [hK]
  split at q1
  · rename_i x e
    have t := r1.top rw1 e
    split at q1
    · rename_i b eb
      refine ⟨b, ?_, q1 A1 ρ1 H1 Ext.refl r1⟩
      cases x with
      | non => cases eb; rw [show w = _ from t]; rfl
      | bl _ => cases eb; rw [show w = _ from t]; rfl
      | int _ => cases eb; rw [show w = _ from t]; rfl
      | str y =>
        rw [show w = _ from t]
        by_cases c : y.length ≤ sizeLine
        · simp only [truD, if_pos c] at eb; cases eb; exact ⟨c, rfl⟩
        · simp only [truD, if_neg c] at eb; cases eb
      | scr ns =>
        cases eb
        obtain ⟨a, rfl, p⟩ := t
        exact .inl ⟨_, p.elim (fun p => .inl p.1) (fun p => p H1), by cases ns <;> rfl⟩
      | lst ds =>
        cases eb
        obtain ⟨a, vs, rfl, e, p⟩ := t
        refine .inl ⟨_, SqL.of e, ?_⟩
        have := p.len
        cases ds <;> cases vs <;> first | rfl | (simp at this)
      | tup ds =>
        cases eb
        obtain ⟨a, vs, rfl, e, p⟩ := t
        refine .inr (.inl ⟨_, e, ?_⟩)
        have := p.len
        cases ds <;> cases vs <;> first | rfl | (simp at this)
    · exact q1.elim
  · split at q1
    · rename_i n _
      split at q1
      · rename_i ks ds e
        obtain ⟨a, e1, rfl⟩ := rw1
        obtain ⟨a', e2, vs, h1, h2, h3⟩ := r1.cells n _ e
        rw [e1] at e2; cases e2
        refine ⟨_, .inr (.inr ⟨_, h1, rfl⟩), ?_⟩
        have e3 : (ks.zip vs).isEmpty = ks.isEmpty := by
          have := h3.len
          cases ks <;> cases vs <;> first | rfl | (simp at h2 this; omega)
        rw [e3]
        exact q1 A1 ρ1 H1 Ext.refl r1
      · exact q1.elim
    · exact q1.elim
def bNot (f : SB) : SB := fun L S => (f L S).bind fun b S1 => .ok (!b) S1
def bAnd (f g : SB) : SB := fun L S => (f L S).bind fun b S1 => if b = true then g L S1 else .ok false S1
def bOr (f g : SB) : SB := fun L S => (f L S).bind fun b S1 => if b = true then .ok true S1 else g L S1
theorem tnot_ {f : SB} (h : PT X a (tB' G W f)) : PT X (.UnaryOp .Not a pos) (tB' G W (bNot f)) := PT.imp (pt_not h) fun σ H Q ⟨F, A, ρ, L, S, l, r0, q⟩ =>
  ⟨F, A, ρ, L, S, l, r0, EvOk.bind q fun v S1 A1 ρ1 H1 x1 r1 q1 => q1 A1 ρ1 H1 Ext.refl r1⟩
theorem and_t {f g : SB} : ∀ σ H Q, tB' G W (bAnd f g) σ H Q → tAnd (tB' G W f) (tB' G W g) σ H Q := fun σ H Q ⟨F, A, ρ, L, S, l, r0, q⟩ => by
  refine ⟨F, A, ρ, L, S, l, r0, EvOk.bind q fun b S1 A1 ρ1 H1 x1 r1 q1 => ?_⟩
  cases b with
  | true => exact ⟨F, A1, ρ1, L, S1, l.mv x1 r0, r1, q1⟩
  | false => exact q1 A1 ρ1 H1 Ext.refl r1
theorem or_t {f g : SB} : ∀ σ H Q, tB' G W (bOr f g) σ H Q → tOr (tB' G W f) (tB' G W g) σ H Q := fun σ H Q ⟨F, A, ρ, L, S, l, r0, q⟩ => by
  refine ⟨F, A, ρ, L, S, l, r0, EvOk.bind q fun b S1 A1 ρ1 H1 x1 r1 q1 => ?_⟩
  cases b with
  | false => exact ⟨F, A1, ρ1, L, S1, l.mv x1 r0, r1, q1⟩
  | true => exact q1 A1 ρ1 H1 Ext.refl r1
theorem wand1_ {f : SB} (h : PT X a (tB' G W f)) : PW X (.BoolOp .And [a] pos) (tB' G W f) := pw_and1 h
theorem wor1_ {f : SB} (h : PT X a (tB' G W f)) : PW X (.BoolOp .Or [a] pos) (tB' G W f) := pw_or1 h
theorem wand_ {f g : SB} {es : List Expr} (h : PT X a (tB' G W f)) (h' : PW X (.BoolOp .And (b :: es) pos) (tB' G W g)) : PW X (.BoolOp .And (a :: b :: es) pos) (tB' G W (bAnd f g)) := PW.imp (pw_and h h') and_t
theorem wor_ {f g : SB} {es : List Expr} (h : PT X a (tB' G W f)) (h' : PW X (.BoolOp .Or (b :: es) pos) (tB' G W g)) : PW X (.BoolOp .Or (a :: b :: es) pos) (tB' G W (bOr f g)) := PW.imp (pw_or h h') or_t
/-- as values: all of them bools -/
def eAnd (f g : SE) : SE := fun L S => (f L S).bind fun v S1 => match v with
  | .d (.bl true) => g L S1
  | .d (.bl false) => .ok (.d (.bl false)) S1
  | _ => .bad
def eOr (f g : SE) : SE := fun L S => (f L S).bind fun v S1 => match v with
  | .d (.bl false) => g L S1
  | .d (.bl true) => .ok (.d (.bl true)) S1
  | _ => .bad
def eNot (f : SE) : SE := fun L S => (f L S).bind fun v S1 => match v with
  | .d (.bl b) => .ok (.d (.bl (!b))) S1
  | _ => .bad
theorem and1_ {op : BoolOp} (h : PE X a (tE G W fa)) : PE X (.BoolOp op [a] pos) (tE G W fa) := pe_one h
theorem and_ {es : List Expr} (h : PE X a (tE G W fa)) (h' : PE X (.BoolOp .And (b :: es) pos) (tE G W fb)) : PE X (.BoolOp .And (a :: b :: es) pos) (tE G W (eAnd fa fb)) := PE.imp (pe_and h h') fun σ H Q ⟨F, A, ρ, L, S, l, r0, q⟩ => by
  refine ⟨F, A, ρ, L, S, l, r0, EvOk.bind q fun v S1 A1 ρ1 H1 x1 r1 q1 w rw1 => ?_⟩
  split at q1
  · exact ⟨true, rw1, F, A1, ρ1, L, S1, l.mv x1 r0, r1, q1⟩
  · exact ⟨false, rw1, q1 A1 ρ1 H1 Ext.refl r1 _ rfl⟩
  · exact q1.elim
theorem or_ {es : List Expr} (h : PE X a (tE G W fa)) (h' : PE X (.BoolOp .Or (b :: es) pos) (tE G W fb)) : PE X (.BoolOp .Or (a :: b :: es) pos) (tE G W (eOr fa fb)) := PE.imp (pe_or h h') fun σ H Q ⟨F, A, ρ, L, S, l, r0, q⟩ => by
  refine ⟨F, A, ρ, L, S, l, r0, EvOk.bind q fun v S1 A1 ρ1 H1 x1 r1 q1 w rw1 => ?_⟩
  split at q1
  · exact ⟨false, rw1, F, A1, ρ1, L, S1, l.mv x1 r0, r1, q1⟩
  · exact ⟨true, rw1, q1 A1 ρ1 H1 Ext.refl r1 _ rfl⟩
  · exact q1.elim
theorem not_ (h : PE X a (tE G W fa)) : PE X (.UnaryOp .Not a pos) (tE G W (eNot fa)) := PE.imp (pe_not h) fun σ H Q ⟨F, A, ρ, L, S, l, r0, q⟩ => by
  refine ⟨F, A, ρ, L, S, l, r0, EvOk.bind q fun v S1 A1 ρ1 H1 x1 r1 q1 w rw1 => ?_⟩
  split at q1
  · rename_i b
    exact ⟨b, rw1, q1 A1 ρ1 H1 Ext.refl r1 _ rfl⟩
  · exact q1.elim
def eIf (c : SB) (f g : SE) : SE := fun L S => (c L S).bind fun b S1 => if b = true then f L S1 else g L S1
theorem if_ {f : SB} (h : PT X c (tB' G W f)) (ha : PE X a (tE G W fa)) (hb : PE X b (tE G W fb)) : PE X (.IfExp c a b pos) (tE G W (eIf f fa fb)) := PE.imp (pe_ifExp h ha hb) fun σ H Q ⟨F, A, ρ, L, S, l, r0, q⟩ => by
  refine ⟨F, A, ρ, L, S, l, r0, EvOk.bind q fun b S1 A1 ρ1 H1 x1 r1 q1 => ?_⟩
  cases b with
  | true => exact ⟨F, A1, ρ1, L, S1, l.mv x1 r0, r1, q1⟩
  | false => exact ⟨F, A1, ρ1, L, S1, l.mv x1 r0, r1, q1⟩
/-- a op b op' c -/
def eChain (f f' : D → D → Option D) (a b c : SE) : SE := fun L S => (a L S).bind fun v S1 => (b L S1).bind fun w S2 => match top S2 v, top S2 w with
  | some x, some y => match f x y with
    | some (.bl true) => (c L S2).bind fun u S3 => match top S3 w, top S3 u with
      | some y, some z => R.of (f' y z) S3
      | _, _ => .bad
    | some (.bl false) => .ok (.d (.bl false)) S2
    | _ => .bad
  | _, _ => .bad
theorem chain_t {r r' : R2} {f f' : D → D → Option D} (hs : Snd2 G.K r f) (hs' : Snd2 G.K r' f') : ∀ σ H Q, tE G W (eChain f f' fa fb fc) σ H Q → tChain r r' (tE G W fa) (tE G W fb) (tE G W fc) σ H Q := fun σ H Q ⟨F, A, ρ, L, S, l, r0, q⟩ => by
  refine ⟨F, A, ρ, L, S, l, r0, EvOk.bind q fun v S1 A1 ρ1 H1 x1 r1 q1 w rw1 => ?_⟩
  have l1 := l.mv x1 r0
  refine ⟨F, A1, ρ1, L, S1, l1, r1, EvOk.bind q1 fun v2 S2 A2 ρ2 H2 x2 r2 q2 w2 rw2 => ?_⟩
  have rw1' := rw1.mv x2 r1
  have l2 := l1.mv x2 r1
  split at q2
  · rename_i x y e1 e2
    split at q2
    · rename_i e3
      refine hs G F A2 ρ2 S2 H2 x y _ w w2 _ rfl r2 (r2.top rw1' e1) (r2.top rw2 e2) e3 fun H' u xe re rd => ⟨true, rd, ?_⟩
      refine ⟨F, A2, ρ2, L, S2, l2.mv xe r2, re, EvOk.bind (EvOk.shift xe q2) fun v3 S3 A3 ρ3 H3 x3 r3 q3 w3 rw3 => ?_⟩
      split at q3
      · rename_i y' z e4 e5
        obtain ⟨z', ez, q4⟩ := of_ok q3
        exact hs' G F A3 ρ3 S3 H3 y' z z' w2 w3 Q rfl r3 (r3.top ((rw2.mv xe r2).mv x3 re) e4) (r3.top rw3 e5) ez fun H4 u4 xe4 re4 rd4 => q4 A3 ρ3 H4 xe4 re4 u4 rd4
      · exact q3.elim
    · rename_i e3
      refine hs G F A2 ρ2 S2 H2 x y _ w w2 _ rfl r2 (r2.top rw1' e1) (r2.top rw2 e2) e3 fun H' u xe re rd => ⟨false, rd, ?_⟩
      exact q2 A2 ρ2 H' xe re _ rfl
    · exact q2.elim
  · exact q2.elim
theorem chain_ {op op' : CmpOp} {r r' : R2} {f f' : D → D → Option D} (ho : OpR X (compareOp op) r) (ho' : OpR X (compareOp op') r') (hs : Snd2 G.K r f) (hs' : Snd2 G.K r' f')
    (ha : PE X a (tE G W fa)) (hb : PE X b (tE G W fb)) (hc : PE X c (tE G W fc)) (hm : lastMarks [op, op'] [b, c] = false := by with_unfolding_all rfl) : PE X (.Compare a [op, op'] [b, c] pos) (tE G W (eChain f f' fa fb fc)) := PE.imp (pe_chain ho ho' ha hb hc hm) (chain_t hs hs')
theorem tchain_ {op op' : CmpOp} {r r' : R2} {f f' : D → D → Option D} (ho : OpR X (compareOp op) r) (ho' : OpR X (compareOp op') r') (hs : Snd2 G.K r f) (hs' : Snd2 G.K r' f')
    (ha : PE X a (tE G W fa)) (hb : PE X b (tE G W fb)) (hc : PE X c (tE G W fc)) (hm : lastMarks [op, op'] [b, c] = false := by with_unfolding_all rfl) : PT X (.Compare a [op, op'] [b, c] pos) (tB' G W (bE (eChain f f' fa fb fc))) :=
  PT.imp (pt_chain ho ho' ha hb hc hm) fun σ H Q q => chain_t hs hs' σ H _ (bE_t σ H Q q)
end
end Ev
set_option linter.all false
set_option Elab.async false
set_option maxRecDepth 100000
namespace Ev
open PySem L2
variable {F F1 A A1 A2 : Addr → Prop} {ρ ρ1 ρ2 : List Addr} {H H1 H2 : Hp} {K : PySem.W.Frag} {G : PC} {S S1 S2 : Store} {X : Cx} {W : WX}

/-! ### argument lists, displays -/
def aN : SA := fun _ S => .ok [] S
def aC (f : SE) (g : SA) : SA := fun L S => (f L S).bind fun v S1 => (g L S1).bind fun vs S2 => .ok (v :: vs) S2
section
variable {a b c : Expr} {es : List Expr} {fa fb fc : SE} {as : SA} {pos : Pos}
theorem aN_ : PA X [] (tA' G W aN) := PA.imp pa_nil fun σ H Q ⟨F, A, ρ, L, S, l, r0, q⟩ => q A ρ H Ext.refl r0 [] rfl
theorem aC_ (ha : PE X a (tE G W fa)) (hb : PA X es (tA' G W as)) (hs : starEach (a :: es) X.env = (false, eval a X.env) :: starEach es X.env := by rfl) : PA X (a :: es) (tA' G W (aC fa as)) := PA.imp (pa_cons ha hb hs) fun σ H Q ⟨F, A, ρ, L, S, l, r0, q⟩ => by
  refine ⟨F, A, ρ, L, S, l, r0, EvOk.bind q fun v S1 A1 ρ1 H1 x1 r1 q1 w rw1 => ?_⟩
  refine ⟨F, A1, ρ1, L, S1, l.mv x1 r0, r1, EvOk.bind q1 fun vs S2 A2 ρ2 H2 x2 r2 q2 ws rws => ?_⟩
  exact q2 A2 ρ2 H2 Ext.refl r2 (w :: ws) ⟨w, ws, rfl, rw1.mv x2 r1, rws⟩
def allD : List Val → Option (List D)
  | [] => some []
  | .d x :: vs => (allD vs).map (x :: ·)
  | _ :: _ => none
theorem allD_rep : ∀ {vs : List Val} {ws : List V} {ds : List D}, RepVs K A H ρ vs ws → allD vs = some ds → RepDs K A H ds ws
  | [], ws, ds, h, e => by cases e; exact h
  | .d x :: vs, ws, ds, h, e => by
    obtain ⟨w, t, rfl, p, q⟩ := h
    unfold allD at e
    cases e1 : allD vs with
    | none => rw [e1] at e; cases e
    | some es => rw [e1] at e; cases e; exact ⟨w, t, rfl, p, allD_rep q e1⟩
  | .ref n :: vs, ws, ds, h, e => by cases e
  | .vt n :: vs, ws, ds, h, e => by cases e
  | .exc .. :: vs, ws, ds, h, e => by cases e
def eTup (as : SA) : SE := fun L S => (as L S).bind fun vs S1 => if vs.length ≤ 1000 then (match allD vs with
  | some ds => .ok (.d (.tup ds)) S1
  | none => .ok (.vt vs) S1) else .bad
theorem le_line {n : Nat} (h : n ≤ 1000) : n ≤ sizeLine := Nat.le_of_lt (small1000 h)
theorem tup_ {x1} (h : PA X es (tA' G W as)) : PE X (.Tuple es x1 pos) (tE G W (eTup as)) := PE.imp (pe_tup h) fun σ H Q ⟨F, A, ρ, L, S, l, r0, q⟩ => by
  refine ⟨F, A, ρ, L, S, l, r0, EvOk.bind q fun vs S1 A1 ρ1 H1 x1 r1 q1 ws rws => ?_⟩
  split at q1
  · rename_i c
    refine ⟨le_line (by rw [rws.len]; exact c), fun p hp => ?_⟩
    split at q1
    · rename_i ds e
      obtain ⟨x, r', d⟩ := new_tup r1 (allD_rep rws e) hp
      exact q1 _ _ _ x r' _ d
    · obtain ⟨x, r'⟩ := r1.laid hp (.tup ws)
      exact q1 _ _ _ x r' _ ⟨p, ws, rfl, SqT.of upd_same, rws.mv x r1⟩
  · exact q1.elim
/-- a list that nobody changes -/
def eLst (as : SA) : SE := fun L S => (as L S).bind fun vs S1 => if vs.length ≤ 1000 then (match allD vs with
  | some ds => .ok (.d (.lst ds)) S1
  | none => .bad) else .bad
theorem lst_ (h : PA X es (tA' G W as)) : PE X (.List es pos) (tE G W (eLst as)) := PE.imp (pe_lst h) fun σ H Q ⟨F, A, ρ, L, S, l, r0, q⟩ => by
  refine ⟨F, A, ρ, L, S, l, r0, EvOk.bind q fun vs S1 A1 ρ1 H1 x1 r1 q1 ws rws => ?_⟩
  split at q1
  · rename_i c
    refine ⟨le_line (by rw [rws.len]; exact c), fun p hp => ?_⟩
    split at q1
    · rename_i ds e
      obtain ⟨x, r', d⟩ := new_lst r1 (allD_rep rws e) hp
      exact q1 _ _ _ x r' _ d
    · exact q1.elim
  · exact q1.elim
theorem push_lst (r : RS G F A ρ S H) {ds : List D} {vs : List V} (h : RepDs G.K A H ds vs) {p : Addr} (hp : H p = none) :
    Ext F A ρ H (fun a => A a ∨ a = p) (ρ ++ [p]) (upd H p (.lst vs)) ∧ RS G F (fun a => A a ∨ a = p) (ρ ++ [p]) (S ++ [.lst ds]) (upd H p (.lst vs)) ∧ RepV G.K (fun a => A a ∨ a = p) (upd H p (.lst vs)) (ρ ++ [p]) (.ref S.length) (.ref p) := by
  obtain ⟨x, r'⟩ := r.push (c := .lst ds) hp (o := .lst vs) True.intro (fun _ z => nomatch z) fun x => ⟨vs, upd_same, h.mv x r⟩
  refine ⟨x, r', p, ?_, rfl⟩
  rw [List.getElem?_append_right (by rw [r.len]; exact Nat.le_refl _), r.len, Nat.sub_self]
  rfl
/-- a list of one's own -/
def eLstO (as : SA) : SE := fun L S => (as L S).bind fun vs S1 => if vs.length ≤ 1000 then (match allD vs with
  | some ds => .ok (.ref S1.length) (S1 ++ [.lst ds])
  | none => .bad) else .bad
theorem lstO_ (h : PA X es (tA' G W as)) : PE X (.List es pos) (tE G W (eLstO as)) := PE.imp (pe_lst h) fun σ H Q ⟨F, A, ρ, L, S, l, r0, q⟩ => by
  refine ⟨F, A, ρ, L, S, l, r0, EvOk.bind q fun vs S1 A1 ρ1 H1 x1 r1 q1 ws rws => ?_⟩
  split at q1
  · rename_i c
    refine ⟨le_line (by rw [rws.len]; exact c), fun p hp => ?_⟩
    split at q1
    · rename_i ds e
      obtain ⟨x, r', d⟩ := push_lst r1 (allD_rep rws e) hp
      exact q1 _ _ _ x r' _ d
    · exact q1.elim
  · exact q1.elim

/-! ### built-in calls upon data -/
theorem tCB1_of {r : List V → Hp → VK → Prop} {f : D → Option D} (hs : Snd1 G.K (fun v H Q => r [v] H Q) f) : ∀ σ H Q, tE G W (eOp1 f fa) σ H Q → tCB r (tCons (tE G W fa) tNil) σ H Q := fun σ H Q q => tUn_of hs σ H Q q
theorem tCB2_of {r : List V → Hp → VK → Prop} {f : D → D → Option D} (hs : Snd2 G.K (fun v w H Q => r [v, w] H Q) f) : ∀ σ H Q, tE G W (eOp2 f fa fb) σ H Q → tCB r (tCons (tE G W fa) (tCons (tE G W fb) tNil)) σ H Q := fun σ H Q q => tOp_of hs σ H Q q
theorem cb1_ {e : Expr} {r : List V → Hp → VK → Prop} {f : D → Option D} (h : PE X e (tCB r (tCons (tE G W fa) tNil))) (hs : Snd1 G.K (fun v H Q => r [v] H Q) f) : PE X e (tE G W (eOp1 f fa)) := PE.imp h (tCB1_of hs)
theorem cb2_ {e : Expr} {r : List V → Hp → VK → Prop} {f : D → D → Option D} (h : PE X e (tCB r (tCons (tE G W fa) (tCons (tE G W fb) tNil)))) (hs : Snd2 G.K (fun v w H Q => r [v, w] H Q) f) : PE X e (tE G W (eOp2 f fa fb)) := PE.imp h (tCB2_of hs)
def rInt : List V → Hp → VK → Prop := fun xs H Q => ((∃ i, xs = [V.int i] ∧ Q (.int i) H) ∨ ∃ k, xs = [.bl k] ∧ Q (.int (if k then 1 else 0)) H) ∨ ∃ a n, xs = [.str a] ∧ PySem.intText? a = some n ∧ a.length ≤ 640 ∧ Q (.int n) H
def rStrC : List V → Hp → VK → Prop := fun xs H Q => (∃ i : Int, xs = [V.int i] ∧ i.natAbs.log2 < 1920 ∧ Q (.str (toString i)) H) ∨ ∃ a, xs = [.str a] ∧ Q (.str a) H
def rLen (K : PySem.W.Frag) : List V → Hp → VK → Prop := fun xs H Q => (∃ p ys, xs = [V.ref p] ∧ (SqL K H p ys ∨ SqT K H p ys) ∧ Q (.int ys.length) H) ∨ ∃ z, xs = [.str z] ∧ z.length ≤ sizeLine ∧ Q (.int z.length) H
def rListC (K : PySem.W.Frag) : List V → Hp → VK → Prop := fun xs H Q => ∃ p ys, xs = [V.ref p] ∧ (SqL K H p ys ∨ SqT K H p ys) ∧ ∀ l, H l = none → Q (.ref l) (upd H l (.lst ys))
def rTupleC (K : PySem.W.Frag) : List V → Hp → VK → Prop := fun xs H Q => ∃ p ys, xs = [V.ref p] ∧ ((SqL K H p ys ∧ ∀ l, H l = none → Q (.ref l) (upd H l (.tup ys))) ∨ (SqT K H p ys ∧ Q (.ref p) H))
def rAbs : List V → Hp → VK → Prop := fun xs H Q => ∃ i, xs = [V.int i] ∧ Q (.int (if i < 0 then -i else i)) H
def rMax2 : List V → Hp → VK → Prop := fun xs H Q => ∃ i j, xs = [V.int i, .int j] ∧ Q (.int (if j > i then j else i)) H
def rMin2 : List V → Hp → VK → Prop := fun xs H Q => ∃ i j, xs = [V.int i, .int j] ∧ Q (.int (if j < i then j else i)) H
/-- int(x), str(x), len(x), tuple(x), list(x), all(x) -/
def intD : D → Option D
  | .int i => some (.int i)
  | .bl b => some (.int (if b then 1 else 0))
  | .str a => if a.length ≤ 640 then (PySem.intText? a).map .int else none
  | _ => none
theorem snd_int : Snd1 K (fun v H Q =>  rInt [v] H Q) intD := fun G F A ρ S H x z v Q eK rs h ez q => by
  cases x with
  | int i => cases ez; exact .inl (.inl ⟨i, by rw [show v = _ from h], q H _ Ext.refl rs rfl⟩)
  | bl b => cases ez; exact .inl (.inr ⟨b, by rw [show v = _ from h], q H _ Ext.refl rs rfl⟩)
  | str a =>
    by_cases c : a.length ≤ 640
    · simp only [intD, if_pos c] at ez
      cases e : PySem.intText? a with
      | none => rw [e] at ez; cases ez
      | some n => rw [e] at ez; cases ez; exact .inr ⟨a, n, by rw [show v = _ from h], e, c, q H _ Ext.refl rs rfl⟩
    · simp only [intD, if_neg c] at ez; cases ez
  | _ => simp [intD] at ez
def strD : D → Option D
  | .int i => if i.natAbs.log2 < 1920 then some (.str (toString i)) else none
  | .str a => some (.str a)
  | _ => none
theorem call_str_sX : CallR X (.type "str") (fun xs H Q => ∃ a, xs = [.str a] ∧ Q (.str a) H) := SkE.call_str_str
theorem snd_str : Snd1 K (fun v H Q =>  rStrC [v] H Q) strD := fun G F A ρ S H x z v Q eK rs h ez q => by
  cases x with
  | int i =>
    by_cases c : i.natAbs.log2 < 1920
    · simp only [strD, if_pos c] at ez; cases ez
      exact .inl ⟨i, by rw [show v = _ from h], c, q H _ Ext.refl rs rfl⟩
    · simp only [strD, if_neg c] at ez; cases ez
  | str a => cases ez; exact .inr ⟨a, by rw [show v = _ from h], q H _ Ext.refl rs rfl⟩
  | _ => simp [strD] at ez
def lenD : D → Option D
  | .str x => if x.length ≤ sizeLine then some (.int (x.length : Int)) else none
  | .lst ds => some (.int (ds.length : Int))
  | .tup ds => some (.int (ds.length : Int))
  | .scr ns => some (.int (ns.length : Int))
  | _ => none
theorem snd_len : Snd1 K (fun v H Q =>  (rLen K) [v] H Q) lenD := fun G F A ρ S H x z v Q eK rs h ez q => by
  cases x with
  | str a =>
    by_cases c : a.length ≤ sizeLine
    · simp only [lenD, if_pos c] at ez; cases ez
      exact .inr ⟨a, by rw [show v = _ from h], c, q H _ Ext.refl rs rfl⟩
    · simp only [lenD, if_neg c] at ez; cases ez
  | lst ds =>
    cases ez
    obtain ⟨a, vs, rfl, e, p⟩ := h
    exact .inl ⟨a, vs, rfl, .inl (SqL.of e), q H _ Ext.refl rs (by rw [p.len]; rfl)⟩
  | tup ds =>
    cases ez
    obtain ⟨a, vs, rfl, e, p⟩ := h
    exact .inl ⟨a, vs, rfl, .inr e, q H _ Ext.refl rs (by rw [p.len]; rfl)⟩
  | scr ns =>
    cases ez
    obtain ⟨a, rfl, p⟩ := h
    exact .inl ⟨a, _, rfl, .inl (p.elim (fun p => .inl p.1) fun p => p H), q H _ Ext.refl rs (by rw [List.length_map]; rfl)⟩
  | _ => simp [lenD] at ez
def listD : D → Option D
  | .lst ds => some (.lst ds)
  | .tup ds => some (.lst ds)
  | _ => none
theorem snd_list : Snd1 K (fun v H Q =>  (rListC K) [v] H Q) listD := fun G F A ρ S H x z v Q eK rs h ez q => by
  cases x with
  | lst ds =>
    cases ez
    obtain ⟨a, vs, rfl, e, p⟩ := h
    refine ⟨a, vs, rfl, .inl (SqL.of e), fun l hl => ?_⟩
    obtain ⟨x, r', d⟩ := new_lst rs p hl
    exact q _ _ x r' d
  | tup ds =>
    cases ez
    obtain ⟨a, vs, rfl, e, p⟩ := h
    refine ⟨a, vs, rfl, .inr e, fun l hl => ?_⟩
    obtain ⟨x, r', d⟩ := new_lst rs p hl
    exact q _ _ x r' d
  | _ => simp [listD] at ez
def tupleD : D → Option D
  | .lst ds => some (.tup ds)
  | .tup ds => some (.tup ds)
  | _ => none
theorem snd_tuple : Snd1 K (fun v H Q =>  (rTupleC K) [v] H Q) tupleD := fun G F A ρ S H x z v Q eK rs h ez q => by
  cases x with
  | lst ds =>
    cases ez
    obtain ⟨a, vs, rfl, e, p⟩ := h
    refine ⟨a, vs, rfl, .inl ⟨SqL.of e, fun l hl => ?_⟩⟩
    obtain ⟨x, r', d⟩ := new_tup rs p hl
    exact q _ _ x r' d
  | tup ds =>
    cases ez
    obtain ⟨a, vs, rfl, e, p⟩ := h
    exact ⟨a, vs, rfl, .inr ⟨e, q H _ Ext.refl rs ⟨a, vs, rfl, e, p⟩⟩⟩
  | _ => simp [tupleD] at ez
def bools : List D → Option (List Bool)
  | [] => some []
  | .bl b :: ds => (bools ds).map (b :: ·)
  | _ :: _ => none
theorem bools_rep : ∀ {ds : List D} {vs : List V} {bs : List Bool}, RepDs K A H ds vs → bools ds = some bs → vs = bs.map V.bl
  | [], ws, ds, h, e => by cases e; exact h
  | .bl x :: vs, ws, ds, h, e => by
    obtain ⟨w, t, rfl, p, q⟩ := h
    unfold bools at e
    cases e1 : bools vs with
    | none => rw [e1] at e; cases e
    | some es => rw [e1] at e; cases e; rw [bools_rep q e1, show w = _ from p]; rfl
  | .non :: vs, ws, ds, h, e => by cases e
  | .int _ :: vs, ws, ds, h, e => by cases e
  | .str _ :: vs, ws, ds, h, e => by cases e
  | .scr _ :: vs, ws, ds, h, e => by cases e
  | .tup _ :: vs, ws, ds, h, e => by cases e
  | .lst _ :: vs, ws, ds, h, e => by cases e
def allB : D → Option D
  | .lst ds => (bools ds).map fun bs => .bl (bs.all id)
  | _ => none
def anyB : D → Option D
  | .lst ds => (bools ds).map fun bs => .bl (bs.any id)
  | _ => none
theorem snd_all : Snd1 K (fun v H Q => rAll K [v] H Q) allB := fun G F A ρ S H x z v Q eK rs h ez q => by
  cases x with
  | lst ds =>
    obtain ⟨a, vs, rfl, e, p⟩ := h
    cases e1 : bools ds with
    | none => simp [allB, e1] at ez
    | some bs =>
      simp [allB, e1] at ez; subst ez
      refine ⟨a, bs, rfl, by rw [← bools_rep p e1]; exact SqL.of e, q H _ Ext.refl rs rfl⟩
  | _ => simp [allB] at ez
theorem snd_any : Snd1 K (fun v H Q => rAny K [v] H Q) anyB := fun G F A ρ S H x z v Q eK rs h ez q => by
  cases x with
  | lst ds =>
    obtain ⟨a, vs, rfl, e, p⟩ := h
    cases e1 : bools ds with
    | none => simp [anyB, e1] at ez
    | some bs =>
      simp [anyB, e1] at ez; subst ez
      refine ⟨a, bs, rfl, by rw [← bools_rep p e1]; exact SqL.of e, q H _ Ext.refl rs rfl⟩
  | _ => simp [anyB] at ez
def absD : D → Option D
  | .int i => some (.int (if i < 0 then -i else i))
  | _ => none
theorem snd_abs : Snd1 K (fun v H Q =>  rAbs [v] H Q) absD := fun G F A ρ S H x z v Q eK rs h ez q => by
  cases x with
  | int i => cases ez; exact ⟨i, by rw [show v = _ from h], q H _ Ext.refl rs rfl⟩
  | _ => simp [absD] at ez
def max2 := opI0 fun i j => .int (if j > i then j else i)
def min2 := opI0 fun i j => .int (if j < i then j else i)
theorem snd_max2 : Snd2 K (fun v w H Q =>  rMax2 [v, w] H Q) max2 := fun G F A ρ S H x y z v w Q eK rs h1 h2 ez q => by
  cases x with
  | int i => cases y with
    | int j => cases ez; exact ⟨i, j, by rw [show v = _ from h1, show w = _ from h2], q H _ Ext.refl rs rfl⟩
    | _ => cases ez
  | _ => cases ez
theorem snd_min2 : Snd2 K (fun v w H Q =>  rMin2 [v, w] H Q) min2 := fun G F A ρ S H x y z v w Q eK rs h1 h2 ez q => by
  cases x with
  | int i => cases y with
    | int j => cases ez; exact ⟨i, j, by rw [show v = _ from h1, show w = _ from h2], q H _ Ext.refl rs rfl⟩
    | _ => cases ez
  | _ => cases ez
theorem call_intD : CallR X (.type "int")  rInt := CallR.or call_int1 call_int_str
theorem call_strD : CallR X (.type "str")  rStrC := CallR.or call_str_int call_str_sX
theorem call_lenD' : CallR X (.builtin "len") (rLen X.K) := CallR.or call_len_seq call_len_str
section
variable {e : Expr} {as : SA}
theorem int_ (h : PE X e (tCB rInt (tCons (tE G W fa) tNil))) : PE X e (tE G W (eOp1 intD fa)) := cb1_ h snd_int
theorem str_ (h : PE X e (tCB rStrC (tCons (tE G W fa) tNil))) : PE X e (tE G W (eOp1 strD fa)) := cb1_ h snd_str
theorem len_ (hK : X.K = G.K) (h : PE X e (tCB (rLen X.K) (tCons (tE G W fa) tNil))) : PE X e (tE G W (eOp1 lenD fa)) := cb1_ h (hK ▸ snd_len)
theorem list_ (hK : X.K = G.K) (h : PE X e (tCB (rListC X.K) (tCons (tE G W fa) tNil))) : PE X e (tE G W (eOp1 listD fa)) := cb1_ h (hK ▸ snd_list)
theorem tuple_ (hK : X.K = G.K) (h : PE X e (tCB (rTupleC X.K) (tCons (tE G W fa) tNil))) : PE X e (tE G W (eOp1 tupleD fa)) := cb1_ h (hK ▸ snd_tuple)
theorem all_ (hK : X.K = G.K) (h : PE X e (tCB (rAll X.K) (tCons (tE G W fa) tNil))) : PE X e (tE G W (eOp1 allB fa)) := cb1_ h (hK ▸ snd_all)
theorem any_ (hK : X.K = G.K) (h : PE X e (tCB (rAny X.K) (tCons (tE G W fa) tNil))) : PE X e (tE G W (eOp1 anyB fa)) := cb1_ h (hK ▸ snd_any)
theorem abs_ (h : PE X e (tCB rAbs (tCons (tE G W fa) tNil))) : PE X e (tE G W (eOp1 absD fa)) := cb1_ h snd_abs
theorem max2_ (h : PE X e (tCB rMax2 (tCons (tE G W fa) (tCons (tE G W fb) tNil)))) : PE X e (tE G W (eOp2 max2 fa fb)) := cb2_ h snd_max2
theorem min2_ (h : PE X e (tCB rMin2 (tCons (tE G W fa) (tCons (tE G W fb) tNil)))) : PE X e (tE G W (eOp2 min2 fa fb)) := cb2_ h snd_min2
end

/-! ### isinstance against a built-in type -/
inductive Ty where | int | bool | str | list | tuple | dict
def Ty.name : Ty → String
  | .int => "int" | .bool => "bool" | .str => "str" | .list => "list" | .tuple => "tuple" | .dict => "dict"
def tyOf : D → String
  | .non => "NoneType" | .bl _ => "bool" | .int _ => "int" | .str _ => "str" | .scr _ => "list" | .tup _ => "tuple" | .lst _ => "list"
def isTy : Ty → D → Bool
  | .int, .int _ => true
  | .int, .bl _ => true
  | .bool, .bl _ => true
  | .str, .str _ => true
  | .list, .lst _ => true
  | .list, .scr _ => true
  | .tuple, .tup _ => true
  | _, _ => false
theorem kit_D (t : Ty) (d : D) : PySem.W.kitOne K (.type (tyOf d)) (.type t.name) = some (isTy t d) := by
  cases t <;> cases d <;> exact kit_ty rfl
def isTyV (S : Store) (t : Ty) : Val → Option Bool
  | .d x => some (isTy t x)
  | .vt _ => some (isTy t (.tup []))
  | .exc .. => none
  | .ref n => match S[n]? with
    | some (.lst _) => some (isTy t (.lst []))
    | some (.lck _) => some (isTy t (.lst []))
    | _ => none
def eIs (t : Ty) (a : SE) : SE := fun L S => (a L S).bind fun v S1 => match isTyV S1 t v with
  | some b => .ok (.d (.bl b)) S1
  | none => .bad
theorem ty_tup {a : Addr} {vs : List V} (h : SqT K H a vs) : TyX K H (.ref a) (.type "tuple") := by
  rcases h with (h | ⟨o, h⟩) | ⟨o, its, n, h, c, _⟩
  · exact .base (.tup h)
  · exact .fTuple h
  · exact .kTuple h c
theorem ty_lst {a : Addr} {vs : List V} (h : SqL K H a vs) : TyX K H (.ref a) (.type "list") := by
  rcases h with (h | ⟨o, h⟩) | ⟨o, its, n, h, c, _⟩
  · exact .base (.lst h)
  · exact .base (.frz h)
  · exact .kList h c
theorem RepD.ty {d : D} {v : V} (h : RepD K A H d v) : TyX K H v (.type (tyOf d)) := by
  cases d with
  | non => rw [show v = _ from h]; exact .base .non
  | bl b => rw [show v = _ from h]; exact .base (.bl b)
  | int i => rw [show v = _ from h]; exact .base (.int i)
  | str x => rw [show v = _ from h]; exact .base (.str x)
  | scr ns =>
    obtain ⟨a, rfl, p⟩ := h
    exact ty_lst (p.elim (fun p => .inl p.1) fun p => p H)
  | tup ds =>
    obtain ⟨a, vs, rfl, e, p⟩ := h
    exact ty_tup e
  | lst ds =>
    obtain ⟨a, vs, rfl, e, p⟩ := h
    exact .base (.lst e)
theorem RS.ty (r : RS G F A ρ S H) {t : Ty} {v : Val} {w : V} {b : Bool} (h : RepV G.K A H ρ v w) (e : isTyV S t v = some b) : ∃ T, TyX G.K H w T ∧ PySem.W.kitOne G.K T (.type t.name) = some b := by
  cases v with
  | d x => cases e; exact ⟨_, RepD.ty h, kit_D t x⟩
  | exc _ _ _ _ => cases e
  | vt vs =>
    cases e
    obtain ⟨a, ws, rfl, q, _⟩ := h
    exact ⟨_, ty_tup q, kit_D t (.tup [])⟩
  | ref n =>
    obtain ⟨a, e1, rfl⟩ := h
    unfold isTyV at e
    simp only at e
    split at e
    · rename_i ds e2
      cases e
      obtain ⟨a', e3, vs, h1, _⟩ := r.cells n _ e2
      rw [e1] at e3; cases e3
      exact ⟨_, ty_lst (SqL.of h1), kit_D t (.lst [])⟩
    · rename_i ds e2
      cases e
      obtain ⟨a', e3, vs, h1, _⟩ := r.cells n _ e2
      rw [e1] at e3; cases e3
      exact ⟨_, ty_lst (SqL.of h1), kit_D t (.lst [])⟩
    · cases e
theorem is_ {t : Ty} {e : Expr} (hK : X.K = G.K) (h : PE X e (tCB (rIsi X.K) (tCons (tE G W fa) (tCons (tC (.ty t.name)) tNil)))) : PE X e (tE G W (eIs t fa)) := PE.imp h fun σ H Q ⟨F, A, ρ, L, S, l, r0, q⟩ => by
  refine ⟨F, A, ρ, L, S, l, r0, EvOk.bind q fun v S1 A1 ρ1 H1 x1 r1 q1 w rw1 => ?_⟩
  split at q1
  · rename_i b e
    obtain ⟨T, h1, h2⟩ := r1.ty rw1 e
    exact ⟨w, _, T, _, b, rfl, .ty _, hK ▸ h1, hK ▸ h2, q1 A1 ρ1 H1 Ext.refl r1 _ rfl⟩
  · exact q1.elim
end
end Ev
set_option linter.all false
set_option Elab.async false
set_option maxRecDepth 100000
namespace Ev
open PySem L2 PySem.Spec
variable {F F1 A A1 A2 : Addr → Prop} {ρ ρ1 ρ2 : List Addr} {H H1 H2 : Hp} {K : PySem.W.Frag} {G : PC} {S S1 S2 : Store} {X : Cx} {W : WX}
variable {a b c e : Expr} {es : List Expr} {fa fb fc : SE} {as : SA} {pos : Pos}

/-! ### methods of texts -/
def eStrM (f : Str → D → Option D) (a b : SE) : SE := fun L S => (a L S).bind fun v S1 => match v with
  | .d (.str x) => (b L S1).bind fun w S2 => match top S2 w with
    | some y => R.of (f x y) S2
    | none => .bad
  | _ => .bad
def SndM (K : PySem.W.Frag) (r : V → List V → Hp → VK → Prop) (f : Str → D → Option D) : Prop := ∀ (G : PC) (F A : Addr → Prop) (ρ : List Addr) (S : Store) (H : Hp) (x : Str) (y z : D) (w : V) (Q : VK), G.K = K → RS G F A ρ S H → RepT K A H y w → f x y = some z →
  (∀ H' u, Ext F A ρ H A ρ H' → RS G F A ρ S H' → RepD K A H' z u → Q u H') → r (.str x) [w] H Q
theorem strM_ {r : V → List V → Hp → VK → Prop} {f : Str → D → Option D} (hK : X.K = G.K) (h : PE X e (tBM X.K "str" r (tE G W fa) (tCons (tE G W fb) tNil))) (hs : SndM G.K r f) : PE X e (tE G W (eStrM f fa fb)) := PE.imp h fun σ H Q ⟨F, A, ρ, L, S, l, r0, q⟩ => by
  refine ⟨F, A, ρ, L, S, l, r0, EvOk.bind q fun v S1 A1 ρ1 H1 x1 r1 q1 w rw1 => ?_⟩
  split at q1
  · rename_i x
    rw [show w = _ from rw1]
    refine ⟨rfl, F, A1, ρ1, L, S1, l.mv x1 r0, r1, EvOk.bind q1 fun v2 S2 A2 ρ2 H2 x2 r2 q2 w2 rw2 => ?_⟩
    split at q2
    · rename_i y e2
      obtain ⟨z, ez, q3⟩ := of_ok q2
      exact hs G F A2 ρ2 S2 H2 x y z w2 Q rfl r2 (r2.top rw2 e2) ez fun H' u xe re rd => q3 A2 ρ2 H' xe re u rd
    · exact q2.elim
  · exact q1.elim
def txts : List D → Option (List Str)
  | [] => some []
  | .str b :: ds => (txts ds).map (b :: ·)
  | _ :: _ => none
theorem txts_rep : ∀ {ds : List D} {vs : List V} {bs : List Str}, RepDs K A H ds vs → txts ds = some bs → vs = bs.map V.str
  | [], ws, ds, h, e => by cases e; exact h
  | .str x :: vs, ws, ds, h, e => by
    obtain ⟨w, t, rfl, p, q⟩ := h
    unfold txts at e
    cases e1 : txts vs with
    | none => rw [e1] at e; cases e
    | some es => rw [e1] at e; cases e; rw [txts_rep q e1, show w = _ from p]; rfl
  | .non :: vs, ws, ds, h, e => by cases e
  | .int _ :: vs, ws, ds, h, e => by cases e
  | .bl _ :: vs, ws, ds, h, e => by cases e
  | .scr _ :: vs, ws, ds, h, e => by cases e
  | .tup _ :: vs, ws, ds, h, e => by cases e
  | .lst _ :: vs, ws, ds, h, e => by cases e
theorem txts_map (xs : List Str) : txts (xs.map D.str) = some xs := by
  induction xs with
  | nil => rfl
  | cons x r ih => simp [txts, ih]
theorem txts_of {ds : List D} {xs : List Str} (e : txts ds = some xs) : ds = xs.map D.str := by
  induction ds generalizing xs with
  | nil => cases e; rfl
  | cons d r ih =>
    cases d with
    | str x =>
      unfold txts at e
      cases e1 : txts r with
      | none => rw [e1] at e; cases e
      | some ys => rw [e1] at e; cases e; rw [ih e1]; rfl
    | _ => cases e
theorem txts_reps (xs : List Str) : RepDs K A H (xs.map D.str) (xs.map V.str) := by
  induction xs with
  | nil => rfl
  | cons x r ih => exact ⟨_, _, rfl, rfl, ih⟩
def joinD (a : Str) : D → Option D
  | .lst ds => match txts ds with
    | some ys => if (ys.map (·.length)).sum + ys.length * a.length ≤ 16777216 then some (.str (Txt.join a ys)) else none
    | none => none
  | .tup ds => match txts ds with
    | some ys => if (ys.map (·.length)).sum + ys.length * a.length ≤ 16777216 then some (.str (Txt.join a ys)) else none
    | none => none
  | _ => none
def rJoin (K : PySem.W.Frag) : V → List V → Hp → VK → Prop := fun x xs H Q => ∃ a p, ∃ ys : List Str, x = .str a ∧ xs = [.ref p] ∧ (SqL K H p (ys.map V.str) ∨ SqT K H p (ys.map V.str)) ∧ (ys.map (·.length)).sum + ys.length * a.length ≤ 16777216 ∧ Q (.str (Txt.join a ys)) H
theorem snd_join : SndM K (rJoin K) joinD := fun G F A ρ S H x y z w Q eK rs h ez q => by
  have fin : ∀ (ds : List D) (p : Addr) (vs : List V), w = .ref p → (SqL K H p vs ∨ SqT K H p vs) → RepDs K A H ds vs → (match txts ds with
    | some ys => if (ys.map (·.length)).sum + ys.length * x.length ≤ 16777216 then some (D.str (Txt.join x ys)) else none
    | none => none) = some z → rJoin K (.str x) [w] H Q := fun ds p vs e sq rd ei => by
    split at ei
    · rename_i ys e1
      split at ei
      · rename_i c
        cases ei
        have e2 := txts_rep rd e1
        subst e2
        exact ⟨x, p, ys, rfl, by rw [e], sq, c, q H _ Ext.refl rs rfl⟩
      · cases ei
    · cases ei
  cases y with
  | lst ds =>
    obtain ⟨a, vs, rfl, e, p⟩ := h
    exact fin ds a vs rfl (.inl (SqL.of e)) p ez
  | tup ds =>
    obtain ⟨a, vs, rfl, e, p⟩ := h
    exact fin ds a vs rfl (.inr e) p ez
  | _ => simp [joinD] at ez
theorem mt_join' : MtR X "str.join" (rJoin X.K) := mt_join
def splitD (a : Str) : D → Option D
  | .str b => if (b.length == 0) = false ∧ a.length + 2 ≤ sizeLine then some (.lst ((Txt.split a b).map .str)) else none
  | _ => none
def rSplit : V → List V → Hp → VK → Prop := fun x xs H Q => ∃ a b, x = .str a ∧ xs = [.str b] ∧ (b.length == 0) = false ∧ a.length + 2 ≤ sizeLine ∧ rNewStrs (Txt.split a b) H Q
theorem snd_split : SndM K rSplit splitD := fun G F A ρ S H x y z w Q eK rs h ez q => by
  cases y with
  | str b =>
    by_cases c : (b.length == 0) = false ∧ x.length + 2 ≤ sizeLine
    · simp only [splitD, if_pos c] at ez; cases ez
      refine ⟨x, b, rfl, by rw [show w = _ from h], c.1, c.2, fun p hp => ?_⟩
      obtain ⟨y, r', d⟩ := new_lst rs (txts_reps _) hp
      exact q _ _ y r' d
    · simp only [splitD, if_neg c] at ez; cases ez
  | _ => simp [splitD] at ez
def rempD (a : Str) : D → Option D
  | .str b => if a.length ≤ sizeLine then some (.str (Txt.removeprefix a b)) else none
  | _ => none
def rRemp : V → List V → Hp → VK → Prop := fun x xs H Q => ∃ a b, x = .str a ∧ xs = [.str b] ∧ a.length ≤ sizeLine ∧ Q (.str (Txt.removeprefix a b)) H
theorem snd_remp : SndM K rRemp rempD := fun G F A ρ S H x y z w Q eK rs h ez q => by
  cases y with
  | str b =>
    by_cases c : x.length ≤ sizeLine
    · simp only [rempD, if_pos c] at ez; cases ez
      exact ⟨x, b, rfl, by rw [show w = _ from h], c, q H _ Ext.refl rs rfl⟩
    · simp only [rempD, if_neg c] at ez; cases ez
  | _ => simp [rempD] at ez
def startsD (a : Str) : D → Option D
  | .str b => some (.bl (Txt.startswith a b))
  | _ => none
def rStarts : V → List V → Hp → VK → Prop := fun x xs H Q => ∃ a b, x = .str a ∧ xs = [.str b] ∧ Q (.bl (Txt.startswith a b)) H
theorem snd_starts : SndM K rStarts startsD := fun G F A ρ S H x y z w Q eK rs h ez q => by
  cases y with
  | str b => cases ez; exact ⟨x, b, rfl, by rw [show w = _ from h], q H _ Ext.refl rs rfl⟩
  | _ => simp [startsD] at ez

/-! ### own lists: append, extend, pop -/
def isL (S : Store) : Val → Bool
  | .ref n => match S[n]? with
    | some (.lst _) => true
    | some (.lck _) => true
    | _ => false
  | _ => false
theorem RS.isL (r : RS G F A ρ S H) {v : Val} {w : V} (h : RepV G.K A H ρ v w) (e : isL S v = true) : tyV G.K "list" w H := by
  cases v with
  | ref n =>
    obtain ⟨a, e1, rfl⟩ := h
    unfold Ev.isL at e
    simp only at e
    split at e
    · rename_i ds e2
      obtain ⟨a', e3, vs, h1, _⟩ := r.cells n _ e2
      rw [e1] at e3; cases e3
      exact .inl ⟨rfl, vs, SqL.of h1⟩
    · rename_i ds e2
      obtain ⟨a', e3, vs, h1, _⟩ := r.cells n _ e2
      rw [e1] at e3; cases e3
      exact .inl ⟨rfl, vs, SqL.of h1⟩
    · cases e
  | _ => cases e
def eAppend (a b : SE) : SE := fun L S => (a L S).bind fun v S1 => if isL S1 v = true then (b L S1).bind fun w S2 => match v, w with
  | .ref n, .d x => match S2[n]? with
    | some (.lst ds) => if ds.length < sizeLine then .ok (.d .non) (S2.set n (.lst (ds ++ [x]))) else .bad
    | _ => .bad
  | _, _ => .bad else .bad
theorem append_ (hK : X.K = G.K) (h : PE X e (tBM X.K "list" rAppend (tE G W fa) (tCons (tE G W fb) tNil))) : PE X e (tE G W (eAppend fa fb)) := PE.imp h fun σ H Q ⟨F, A, ρ, L, S, l, r0, q⟩ => by
  refine ⟨F, A, ρ, L, S, l, r0, EvOk.bind q fun v S1 A1 ρ1 H1 x1 r1 q1 w rw1 => ?_⟩
  split at q1
  · rename_i c
    refine ⟨hK ▸ r1.isL rw1 c, F, A1, ρ1, L, S1, l.mv x1 r0, r1, EvOk.bind q1 fun v2 S2 A2 ρ2 H2 x2 r2 q2 w2 rw2 => ?_⟩
    have rw1' := rw1.mv x2 r1
    split at q2
    · rename_i n x
      split at q2
      · rename_i ds e2
        split at q2
        · rename_i c2
          obtain ⟨a, e1, rfl⟩ := rw1'
          obtain ⟨a', e3, vs, h1, h2⟩ := r2.cells n _ e2
          rw [e1] at e3; cases e3
          refine ⟨a, vs, w2, rfl, rfl, h1, by rw [h2.len]; exact c2, ?_⟩
          obtain ⟨x', r'⟩ := r2.write e1 (o := .lst (vs ++ [w2])) (c := .lst (ds ++ [x])) True.intro e2 (fun _ z => nomatch z) (fun _ z => nomatch z) fun x' => ⟨vs ++ [w2], upd_same, (RepDs.app h2 (us := [w2]) (es := [x]) ⟨w2, [], rfl, rw2, rfl⟩).mv x' r2⟩
          exact q2 A2 ρ2 _ x' r' _ rfl
        · exact q2.elim
      · exact q2.elim
    · exact q2.elim
  · exact q1.elim
def eExtend (a b : SE) : SE := fun L S => (a L S).bind fun v S1 => if isL S1 v = true then (b L S1).bind fun w S2 => match v, top S2 w with
  | .ref n, some (.lst xs) => match S2[n]? with
    | some (.lst ds) => if ds.length + xs.length ≤ sizeLine then .ok (.d .non) (S2.set n (.lst (ds ++ xs))) else .bad
    | _ => .bad
  | _, _ => .bad else .bad
theorem extend_ (hK : X.K = G.K) (h : PE X e (tBM X.K "list" rExtend (tE G W fa) (tCons (tE G W fb) tNil))) : PE X e (tE G W (eExtend fa fb)) := PE.imp h fun σ H Q ⟨F, A, ρ, L, S, l, r0, q⟩ => by
  refine ⟨F, A, ρ, L, S, l, r0, EvOk.bind q fun v S1 A1 ρ1 H1 x1 r1 q1 w rw1 => ?_⟩
  split at q1
  · rename_i c
    refine ⟨hK ▸ r1.isL rw1 c, F, A1, ρ1, L, S1, l.mv x1 r0, r1, EvOk.bind q1 fun v2 S2 A2 ρ2 H2 x2 r2 q2 w2 rw2 => ?_⟩
    have rw1' := rw1.mv x2 r1
    split at q2
    · rename_i n xs e0
      split at q2
      · rename_i ds e2
        split at q2
        · rename_i c2
          obtain ⟨a, e1, rfl⟩ := rw1'
          obtain ⟨a', e3, vs, h1, h2⟩ := r2.cells n _ e2
          rw [e1] at e3; cases e3
          obtain ⟨b, us, rfl, g1, g2⟩ := r2.top rw2 e0
          refine ⟨a, b, vs, us, rfl, rfl, h1, g1, by rw [h2.len, g2.len]; exact c2, ?_⟩
          obtain ⟨x', r'⟩ := r2.write e1 (o := .lst (vs ++ us)) (c := .lst (ds ++ xs)) True.intro e2 (fun _ z => nomatch z) (fun _ z => nomatch z) fun x' => ⟨vs ++ us, upd_same, (h2.app g2).mv x' r2⟩
          exact q2 A2 ρ2 _ x' r' _ rfl
        · exact q2.elim
      · exact q2.elim
    · exact q2.elim
  · exact q1.elim
def ePop (a : SE) : SE := fun L S => (a L S).bind fun v S1 => match v with
  | .ref n => match S1[n]? with
    | some (.lst ds) => match ds[ds.length - 1]? with
      | some x => .ok (.d x) (S1.set n (.lst ds.dropLast))
      | none => .bad
    | _ => .bad
  | _ => .bad
theorem RepDs.dropLast {ds : List D} {vs : List V} (h : RepDs K A H ds vs) : RepDs K A H ds.dropLast vs.dropLast := by
  rw [List.dropLast_eq_take, List.dropLast_eq_take, h.len]
  exact h.take _
theorem pop_ (hK : X.K = G.K) (h : PE X e (tBM0 X.K "list" rPop (tE G W fa))) : PE X e (tE G W (ePop fa)) := PE.imp h fun σ H Q ⟨F, A, ρ, L, S, l, r0, q⟩ => by
  refine ⟨F, A, ρ, L, S, l, r0, EvOk.bind q fun v S1 A1 ρ1 H1 x1 r1 q1 w rw1 => ?_⟩
  split at q1
  · rename_i n
    split at q1
    · rename_i ds e2
      split at q1
      · rename_i x e0
        obtain ⟨a, e1, rfl⟩ := rw1
        obtain ⟨a', e3, vs, h1, h2⟩ := r1.cells n _ e2
        rw [e1] at e3; cases e3
        obtain ⟨u, e4, p⟩ := h2.get e0
        refine ⟨.inl ⟨rfl, vs, SqL.of h1⟩, a, vs, u, rfl, rfl, h1, by rw [h2.len]; exact e4, ?_⟩
        obtain ⟨x', r'⟩ := r1.write e1 (o := .lst vs.dropLast) (c := .lst ds.dropLast) True.intro e2 (fun _ z => nomatch z) (fun _ z => nomatch z) fun x' => ⟨vs.dropLast, upd_same, h2.dropLast.mv x' r1⟩
        exact q1 A1 ρ1 _ x' r' _ (p.mv x' r1)
      · exact q1.elim
    · exact q1.elim
  · exact q1.elim
end Ev
set_option linter.all false
set_option Elab.async false
set_option maxRecDepth 100000
namespace Ev
open PySem L2 PySem.Spec
variable {F F1 A A1 A2 : Addr → Prop} {ρ ρ1 ρ2 : List Addr} {H H1 H2 : Hp} {K : PySem.W.Frag} {G : PC} {S S1 S2 : Store} {X : Cx} {W : WX}
variable {a b c e : Expr} {es : List Expr} {fa fb fc : SE} {as : SA} {pos : Pos}

/-! ### own functions -/
abbrev Fn := List Val → Store → R Val
/-- what a def promises whose answers are those of g -/
def spF (G : PC) (n : Nat) (g : Fn) : Sp := fun vs H Q E => ∃ F A ρ args S, RepVs G.K A H ρ args vs ∧ args.length = n ∧ RS G F A ρ S H ∧
  EvOk G F (fun A' ρ' H' v => ∀ w, RepV G.K A' H' ρ' v w → Q w H') (fun cls d H' => E cls d H') A ρ H (g args S)
theorem spF_len {n : Nat} {g : Fn} : ∀ vs H Q E, spF G n g vs H Q E → vs.length = n := fun vs H Q E ⟨_, _, _, args, _, h, e, _⟩ => h.len.trans e
/-- a call in the same store -/
def eCall (g : Fn) (n : Nat) (as : SA) : SE := fun L S => (as L S).bind fun vs S1 => if vs.length = n then g vs S1 else .bad
theorem call_ {n : Nat} {g : Fn} (h : PE X e (tCallS (spF G n g) (WE W) (tA' G W as))) : PE X e (tE G W (eCall g n as)) := PE.imp h fun σ H Q ⟨F, A, ρ, L, S, l, r0, q⟩ => by
  refine ⟨F, A, ρ, L, S, l, r0, EvOk.bind q fun vs S1 A1 ρ1 H1 x1 r1 q1 ws rws => ?_⟩
  split at q1
  · rename_i c
    exact ⟨F, A1, ρ1, vs, S1, rws, c, r1, q1⟩
  · exact q1.elim
mutual
def dview (S : Store) : Val → Option D
  | .d x => some x
  | .ref n => match S[n]? with
    | some (.lst ds) => some (.lst ds)
    | some (.lck ds) => some (.lst ds)
    | _ => none
  | .vt vs => (dviews S vs).map .tup
  | .exc .. => none
def dviews (S : Store) : List Val → Option (List D)
  | [] => some []
  | v :: vs => (dview S v).bind fun x => (dviews S vs).map (x :: ·)
end
section
variable {B : Addr → Prop} (r : RS G F A ρ S H) (h1 : ∀ a, B a → A a) (h2 : ∀ a, a ∈ ρ → ¬ B a)
include r h1 h2
mutual
theorem dview_rep : ∀ (v : Val) (w : V) (x : D), RepV G.K A H ρ v w → dview S v = some x → RepD G.K B H x w
  | .d y, w, x, h, e => by
    unfold dview at e
    cases e
    exact RepD.weak h1 y w h
  | .ref n, w, x, h, e => by
    obtain ⟨a, e1, rfl⟩ := h
    unfold dview at e
    split at e
    · rename_i ds e2
      cases e
      obtain ⟨a', e3, vs, g1, g2⟩ := r.cells n _ e2
      rw [e1] at e3; cases e3
      exact ⟨a, vs, rfl, g1, h2 a (List.mem_of_getElem? e1), RepDs.weak h1 ds vs g2⟩
    · rename_i ds e2
      cases e
      obtain ⟨a', e3, vs, g1, g2⟩ := r.cells n _ e2
      rw [e1] at e3; cases e3
      exact ⟨a, vs, rfl, g1, h2 a (List.mem_of_getElem? e1), RepDs.weak h1 ds vs g2⟩
    · cases e
  | .exc .., w, x, h, e => by unfold dview at e; cases e
  | .vt vs, w, x, h, e => by
    obtain ⟨a, ws, rfl, q, p⟩ := h
    unfold dview at e
    cases e1 : dviews S vs with
    | none => rw [e1] at e; cases e
    | some ds =>
      rw [e1] at e; cases e
      exact ⟨a, ws, rfl, q, dviews_rep vs ws ds p e1⟩
theorem dviews_rep : ∀ (vs : List Val) (ws : List V) (xs : List D), RepVs G.K A H ρ vs ws → dviews S vs = some xs → RepDs G.K B H xs ws
  | [], ws, xs, h, e => by
    unfold dviews at e
    cases e
    exact h
  | v :: vs, ws, xs, h, e => by
    obtain ⟨w, t, rfl, p, q⟩ := h
    unfold dviews at e
    cases e1 : dview S v with
    | none => rw [e1] at e; cases e
    | some x =>
      rw [e1] at e
      cases e2 : dviews S vs with
      | none => rw [e2] at e; cases e
      | some ys =>
        rw [e2] at e; cases e
        exact ⟨w, t, rfl, dview_rep v w x p e1, dviews_rep vs t ys q e2⟩
end
end
def pureV : Val → Bool
  | .d _ => true
  | _ => false
theorem repVs_d : ∀ {ds : List D} {ws : List V}, RepDs K A H ds ws → RepVs K A H ρ (ds.map Val.d) ws
  | [], ws, h => h
  | d :: ds, ws, h => by
    obtain ⟨w, t, rfl, p, q⟩ := h
    exact ⟨w, t, rfl, p, repVs_d q⟩
theorem flat_any {x : D} {w : V} {B : Addr → Prop} (f : flatD x = true) (h : RepD K A H x w) : RepD K B H x w := by
  cases x with
  | non => exact h
  | bl _ => exact h
  | int _ => exact h
  | str _ => exact h
  | _ => cases f
theorem pure_rep : ∀ {vs : List Val} {ws : List V} {ds : List D}, RepVs K A H ρ vs ws → vs.all pureV = true → dviews S vs = some ds → RepDs K A H ds ws
  | [], ws, ds, h, _, e => by
    unfold dviews at e; cases e; exact h
  | .d x :: vs, ws, ds, h, f, e => by
    obtain ⟨w, t, rfl, p, q⟩ := h
    unfold dviews dview at e
    cases e2 : dviews S vs with
    | none => rw [e2] at e; cases e
    | some ys =>
      rw [e2] at e; cases e
      rw [List.all_cons, Bool.and_eq_true] at f
      exact ⟨w, t, rfl, p, pure_rep q f.2 e2⟩
  | .ref n :: vs, ws, ds, h, f, e => by simp [pureV] at f
  | .vt n :: vs, ws, ds, h, f, e => by simp [pureV] at f
  | .exc .. :: vs, ws, ds, h, f, e => by simp [pureV] at f
theorem RS.empty (tr : ∀ a, A a → ∃ o, H a = some o) : RS G (fun _ => False) A [] [] H :=
  ⟨fun _ h => (nomatch h), tr, .nil, rfl, fun _ h => (nomatch h), fun _ h => h.elim, fun _ _ _ h => (nomatch h), fun _ _ h => (nomatch h)⟩
theorem Ext.keep0 (x : Ext F1 A [] H A1 ρ1 H1) : ∀ a o, H a = some o → H1 a = some o := fun a o h => x.fr a o (fun z => nomatch z) h
/-- a call in a store of its own: data in, a datum out -/
def isoF (pureArgs : Bool) (r : R Val) (S1 : Store) : R Val := match r with
  | .ok v S' => match dview S' v with
    | some x => if (pureArgs || flatD x) = true then .ok (.d x) S1 else .bad
    | none => .bad
  | .ex x _ => .ex x S1
  | .bad => .bad
def eCallI (g : Fn) (n : Nat) (as : SA) : SE := fun L S => (as L S).bind fun vs S1 => match dviews S1 vs with
  | some ds => if vs.length = n then isoF (vs.all pureV) (g (ds.map Val.d) []) S1 else .bad
  | none => .bad
theorem dviews_len : ∀ {vs : List Val} {ds : List D}, dviews S vs = some ds → ds.length = vs.length
  | [], ds, e => by unfold dviews at e; cases e; rfl
  | v :: vs, ds, e => by
    unfold dviews at e
    cases e1 : dview S v with
    | none => rw [e1] at e; cases e
    | some x =>
      rw [e1] at e
      cases e2 : dviews S vs with
      | none => rw [e2] at e; cases e
      | some ys => rw [e2] at e; cases e; simp [dviews_len e2]
theorem iso_ok {P : (Addr → Prop) → List Addr → Hp → Val → Prop} {E : Value → Option Addr → Hp → Prop} {g : R Val} {B : Addr → Prop} {pa : Bool} (r1 : RS G F A ρ S H) (hB : (pa = true → B = A) ∧ ∀ a, B a → A a)
    (q : EvOk G F P E A ρ H (isoF pa g S)) :
    EvOk G (fun _ => False) (fun A' ρ' H' v => ∀ w, RepV G.K A' H' ρ' v w → ∃ x, Ext F A ρ H A ρ H' ∧ RS G F A ρ S H' ∧ RepD G.K A H' x w ∧ P A ρ H' (.d x)) E B [] H g := by
  cases g with
  | bad => exact q
  | ex x S' =>
    intro A' ρ' H' cls d x1 r2 rx
    obtain ⟨x2, r3⟩ := r1.same x1.keep0 (fun _ h => h) (fun _ h => .inl h) fun a h => let ⟨o, e⟩ := r1.trk a h; ⟨o, x1.keep0 a o e⟩
    exact q A ρ H' cls d x2 r3 rx
  | ok v S' =>
    intro A' ρ' H' x1 r2 w rw
    unfold isoF at q
    simp only at q
    split at q
    · rename_i x ex
      split at q
      · rename_i c
        obtain ⟨x2, r3⟩ := r1.same x1.keep0 (fun _ h => h) (fun _ h => .inl h) fun a h => let ⟨o, e⟩ := r1.trk a h; ⟨o, x1.keep0 a o e⟩
        have rd : RepD G.K A H' x w := by
          rw [Bool.or_eq_true] at c
          rcases c with c | c
          · have e := hB.1 c
            subst e
            refine dview_rep r2 x1.up (fun a ha z => ?_) v w x rw ex
            rcases x1.nr a ha with h | h
            · cases h
            · obtain ⟨o, ho⟩ := r1.trk a z
              rw [h] at ho; cases ho
          · exact flat_any c (dview_rep (B := fun _ => False) r2 (fun _ h => h.elim) (fun _ _ h => h) v w x rw ex)
        exact ⟨x, x2, r3, rd, q A ρ H' x2 r3⟩
      · exact q.elim
    · exact q.elim
theorem callI_ {n : Nat} {g : Fn} (h : PE X e (tCallS (spF G n g) (WE W) (tA' G W as))) : PE X e (tE G W (eCallI g n as)) := PE.imp h fun σ H Q ⟨F, A, ρ, L, S, l, r0, q⟩ => by
  refine ⟨F, A, ρ, L, S, l, r0, EvOk.bind q fun vs S1 A1 ρ1 H1 x1 r1 q1 ws rws => ?_⟩
  split at q1
  · rename_i ds ed
    split at q1
    · rename_i c
      cases hp : vs.all pureV with
      | true =>
        rw [hp] at q1
        have h := iso_ok (B := A1) r1 ⟨fun _ => rfl, fun _ h => h⟩ q1
        refine ⟨fun _ => False, A1, [], ds.map Val.d, [], repVs_d (pure_rep rws hp ed), ?_, RS.empty r1.trk, h.mono (fun A' ρ' H' v k w rw => ?_) fun _ _ _ z => z⟩
        · rw [List.length_map, dviews_len ed]; exact c
        · obtain ⟨x, _, _, rd, p⟩ := k w rw
          exact p w rd
      | false =>
        rw [hp] at q1
        have h := iso_ok (pa := false) (B := fun _ => False) r1 ⟨fun z => (nomatch z), fun _ h => h.elim⟩ q1
        refine ⟨fun _ => False, fun _ => False, [], ds.map Val.d, [], repVs_d (dviews_rep r1 (fun _ h => h.elim) (fun _ _ h => h) vs ws ds rws ed), ?_, RS.empty fun _ h => h.elim, h.mono (fun A' ρ' H' v k w rw => ?_) fun _ _ _ z => z⟩
        · rw [List.length_map, dviews_len ed]; exact c
        · obtain ⟨x, _, _, rd, p⟩ := k w rw
          exact p w rd
    · exact q1.elim
  · exact q1.elim
/-- without arguments -/
def eCall0 (g : Fn) : SE := fun L S => match isoF true (g [] []) S with
  | .ex _ _ => .bad
  | r => r
theorem call0_ {g : Fn} (h : PE X e (tCall (spF G 0 g) [] E0 tNil)) : PE X e (tE G W (eCall0 g)) := PE.imp h fun σ H Q ⟨F, A, ρ, L, S, l, r0, q⟩ => by
  have q1 : EvOk G F (fun A' ρ' H' v => ∀ w, RepV G.K A' H' ρ' v w → Q w H') (fun _ _ _ => False) A ρ H (isoF true (g [] []) S) := by
    unfold eCall0 at q
    revert q
    cases isoF true (g [] []) S with
    | ok v S' => exact fun q => q
    | ex x S' => exact fun q => q.elim
    | bad => exact fun q => q
  have h := iso_ok (B := A) r0 ⟨fun _ => rfl, fun _ h => h⟩ q1
  refine ⟨fun _ => False, A, [], [], [], rfl, rfl, RS.empty r0.trk, h.mono (fun A' ρ' H' v k w rw => ?_) fun _ _ _ z => z.elim⟩
  obtain ⟨x, _, _, rd, p⟩ := k w rw
  exact p w rd

/-! ### a call whose new own objects come into the caller's store -/
mutual
def shiftV (k : Nat) : Val → Val
  | .d x => .d x
  | .ref n => .ref (k + n)
  | .vt vs => .vt (shiftVs k vs)
  | .exc a d nm fs => .exc a d nm fs
def shiftVs (k : Nat) : List Val → List Val
  | [] => []
  | v :: vs => shiftV k v :: shiftVs k vs
end
def shiftC (k : Nat) : Cell → Cell
  | .obj c fs => .obj c (shiftVs k fs)
  | c => c
mutual
theorem shift_rep : ∀ (v : Val) (w : V), RepV K A H ρ1 v w → RepV K A H (ρ ++ ρ1) (shiftV ρ.length v) w
  | .d x, w, h => by unfold shiftV; exact h
  | .ref n, w, h => by
    obtain ⟨a, e, rfl⟩ := h
    unfold shiftV
    refine ⟨a, ?_, rfl⟩
    rw [List.getElem?_append_right (Nat.le_add_right _ _), Nat.add_sub_cancel_left]
    exact e
  | .exc .., w, h => by unfold shiftV; exact h
  | .vt vs, w, h => by
    obtain ⟨a, ws, rfl, q, p⟩ := h
    unfold shiftV
    exact ⟨a, ws, rfl, q, shift_reps vs ws p⟩
theorem shift_reps : ∀ (vs : List Val) (ws : List V), RepVs K A H ρ1 vs ws → RepVs K A H (ρ ++ ρ1) (shiftVs ρ.length vs) ws
  | [], ws, h => by unfold shiftVs; exact h
  | v :: vs, ws, h => by
    obtain ⟨w, t, rfl, p, q⟩ := h
    unfold shiftVs
    exact ⟨w, t, rfl, shift_rep v w p, shift_reps vs t q⟩
end
theorem shiftVs_len (k : Nat) : ∀ vs : List Val, (shiftVs k vs).length = vs.length
  | [] => by unfold shiftVs; rfl
  | v :: vs => by unfold shiftVs; simp [shiftVs_len k vs]
theorem shiftC_rep : ∀ {c : Cell}, RepC G A H ρ1 a' c → RepC G A H (ρ ++ ρ1) a' (shiftC ρ.length c)
  | .lst ds, h => h
  | .lck ds, h => h
  | .dic ks ds, h => h
  | .ldk ks ds, h => h
  | .dit ks ds, h => h
  | .ldt ks ds, h => h
  | .obj c fs, ⟨dx, vs, h, l, q⟩ => ⟨dx, vs, by rw [shiftVs_len]; exact h, by rw [shiftVs_len]; exact l, shift_reps fs vs q⟩
theorem RS.join (r1 : RS G F A ρ S H) (x : Ext (fun _ => False) A [] H A1 ρ1 H1) (r2 : RS G (fun _ => False) A1 ρ1 S1 H1) :
    Ext F A ρ H A1 (ρ ++ ρ1) H1 ∧ RS G F A1 (ρ ++ ρ1) (S ++ S1.map (shiftC ρ.length)) H1 := by
  have new : ∀ a, a ∈ ρ1 → H a = none := fun a h => (x.nr a h).elim (fun z => nomatch z) fun z => z
  have x' : Ext F A ρ H A1 (ρ ++ ρ1) H1 := ⟨List.prefix_append _ _, fun a o _ h => x.keep0 a o h, x.st, x.up, x.nw, fun a h => (List.mem_append.mp h).imp (fun h => h) (new a)⟩
  refine ⟨x', fun a h => ?_, r2.trk, ?_, ?_, fun a h => ?_, fun a h => List.mem_append_left _ (r1.fin a h), fun n a c e1 e2 => ?_, fun n c e => ?_⟩
  · exact (List.mem_append.mp h).elim (fun h => x.up a (r1.sub a h)) (r2.sub a)
  · refine List.nodup_append.mpr ⟨r1.nd, r2.nd, fun a h b hb z => ?_⟩
    subst z
    obtain ⟨o, e⟩ := r1.trk a (r1.sub a h)
    rw [new a hb] at e; cases e
  · rw [List.length_append, List.length_append, List.length_map, r1.len, r2.len]
  · rcases List.mem_append.mp h with h | h
    · obtain ⟨o, e, w⟩ := r1.own a h
      exact ⟨o, x.keep0 a o e, w⟩
    · exact r2.own a h
  · by_cases hn : n < S.length
    · rw [List.getElem?_append_left hn] at e2
      rw [List.getElem?_append_left (by rw [r1.len]; exact hn)] at e1
      exact r1.lk n a c e1 e2
    · have hn : S.length ≤ n := Nat.le_of_not_lt hn
      rw [List.getElem?_append_right hn, List.getElem?_map] at e2
      rw [List.getElem?_append_right (by rw [r1.len]; exact hn), r1.len] at e1
      cases e3 : S1[n - S.length]? with
      | none => rw [e3] at e2; cases e2
      | some c' =>
        rw [e3] at e2
        simp only [Option.map_some, Option.some.injEq] at e2
        subst e2
        have hl := r2.lk _ a c' e1 e3
        refine ⟨fun z => ?_, fun z => ?_⟩
        · have m := List.mem_of_getElem? e1
          obtain ⟨o, e⟩ := r1.trk a (r1.sub a (r1.fin a z))
          rw [new a m] at e; cases e
        · cases c' with
          | lck es => exact (hl.mpr True.intro).elim
          | ldk _ _ => exact (hl.mpr True.intro).elim
          | ldt _ _ => exact (hl.mpr True.intro).elim
          | dit _ _ => cases z
          | lst es => cases z
          | dic _ _ => cases z
          | obj _ _ => cases z
  · by_cases hn : n < S.length
    · rw [List.getElem?_append_left hn] at e
      obtain ⟨a, e1, q⟩ := r1.cells n c e
      obtain ⟨o, e2, w⟩ := r1.own a (List.mem_of_getElem? e1)
      refine ⟨a, ?_, q.mv x' r1 ((x.keep0 a o e2).trans e2.symm)⟩
      rw [List.getElem?_append_left (by rw [r1.len]; exact hn)]
      exact e1
    · have hn : S.length ≤ n := Nat.le_of_not_lt hn
      rw [List.getElem?_append_right hn, List.getElem?_map] at e
      cases e3 : S1[n - S.length]? with
      | none => rw [e3] at e; cases e
      | some c' =>
        rw [e3] at e
        simp only [Option.map_some, Option.some.injEq] at e
        subst e
        obtain ⟨a, e1, q⟩ := r2.cells _ c' e3
        refine ⟨a, ?_, shiftC_rep q⟩
        rw [List.getElem?_append_right (by rw [r1.len]; exact hn), r1.len]
        exact e1
def newF (r : R Val) (S1 : Store) : R Val := match r with
  | .ok v S' => .ok (shiftV S1.length v) (S1 ++ S'.map (shiftC S1.length))
  | .ex x _ => .ex x S1
  | .bad => .bad
def eCallN (g : Fn) (n : Nat) (as : SA) : SE := fun L S => (as L S).bind fun vs S1 => match allD vs with
  | some ds => if vs.length = n then newF (g (ds.map Val.d) []) S1 else .bad
  | none => .bad
theorem allD_len : ∀ {vs : List Val} {ds : List D}, allD vs = some ds → ds.length = vs.length
  | [], ds, e => by cases e; rfl
  | .d x :: vs, ds, e => by
    unfold allD at e
    cases e1 : allD vs with
    | none => rw [e1] at e; cases e
    | some es => rw [e1] at e; cases e; simp [allD_len e1]
  | .ref n :: vs, ds, e => by cases e
  | .vt n :: vs, ds, e => by cases e
  | .exc .. :: vs, ds, e => by cases e
theorem callN_ {n : Nat} {g : Fn} (h : PE X e (tCallS (spF G n g) (WE W) (tA' G W as))) : PE X e (tE G W (eCallN g n as)) := PE.imp h fun σ H Q ⟨F, A, ρ, L, S, l, r0, q⟩ => by
  refine ⟨F, A, ρ, L, S, l, r0, EvOk.bind q fun vs S1 A1 ρ1 H1 x1 r1 q1 ws rws => ?_⟩
  split at q1
  · rename_i ds ed
    split at q1
    · rename_i c
      refine ⟨fun _ => False, A1, [], ds.map Val.d, [], repVs_d (allD_rep rws ed), ?_, RS.empty r1.trk, ?_⟩
      · rw [List.length_map, allD_len ed]; exact c
      · revert q1
        cases g (ds.map Val.d) [] with
        | bad => exact fun q => q
        | ex y S' =>
          intro q A' ρ' H' cls d x2 r2 rx
          obtain ⟨x3, r3⟩ := r1.same x2.keep0 (fun _ h => h) (fun _ h => .inl h) fun a h => let ⟨o, e⟩ := r1.trk a h; ⟨o, x2.keep0 a o e⟩
          exact q A1 ρ1 H' cls d x3 r3 rx
        | ok v S' =>
          intro q A' ρ' H' x2 r2 w rw
          obtain ⟨x3, r3⟩ := r1.join x2 r2
          rw [r1.len] at r3
          refine q A' (ρ1 ++ ρ') H' x3 r3 w ?_
          rw [← r1.len]
          exact shift_rep v w rw
    · exact q1.elim
  · exact q1.elim
end Ev
set_option linter.all false
set_option Elab.async false
set_option maxRecDepth 100000
namespace Ev
open PySem L2 PySem.Spec
variable {F F1 A A1 A2 : Addr → Prop} {ρ ρ1 ρ2 : List Addr} {H H1 H2 : Hp} {K : PySem.W.Frag} {G : PC} {S S1 S2 : Store} {X : Cx} {W : WX}
variable {a b c e : Expr} {es : List Expr} {fa fb fc : SE} {as : SA} {pos : Pos}

/-! ### targets -/
abbrev SG := Val → Loc → Option Loc
abbrev SGs := List Val → Loc → Option Loc
def tG (G : PC) (g : SG) : TG := fun v σ H Q => ∃ A ρ L w, RL G.K A H ρ L σ ∧ RepV G.K A H ρ w v ∧ ∃ L', g w L = some L' ∧ ∀ σ', RL G.K A H ρ L' σ' → Q σ' H
def tGs (G : PC) (g : SGs) : TGs := fun v σ H Q => ∃ A ρ L w, RL G.K A H ρ L σ ∧ RepVs G.K A H ρ w v ∧ ∃ L', g w L = some L' ∧ ∀ σ', RL G.K A H ρ L' σ' → Q σ' H
theorem PG.imp {t t' : TG} (h : PG X e t) (i : ∀ v σ H Q, t' v σ H Q → t v σ H Q) : PG X e t' := ⟨fun pins s σ H v u Q I r q => h.run pins s σ H v u Q I r (i v σ H Q q)⟩
theorem PGs.imp {t t' : TGs} (h : PGs X es t) (i : ∀ v σ H Q, t' v σ H Q → t v σ H Q) : PGs X es t' := ⟨fun pins s σ H v u Q I r q => h.run pins s σ H v u Q I r (i v σ H Q q)⟩
def gN (i : Nat) : SG := fun w L => some (L.set i (some w))
theorem gN_t {i : Nat} : ∀ v σ H Q, tG G (gN i) v σ H Q → gName i v σ H Q := fun v σ H Q ⟨A, ρ, L, w, l, rw, L', e, q⟩ => by
  cases e
  exact q _ (l.set i rw)
theorem gN_ {i : Nat} (h : PG X e (gName i)) : PG X e (tG G (gN i)) := PG.imp h gN_t
def gsN : SGs := fun ws L => match ws with
  | [] => some L
  | _ => none
def gsC (g : SG) (gs : SGs) : SGs := fun ws L => match ws with
  | w :: r => (g w L).bind (gs r)
  | [] => none
theorem gsN_ : PGs X [] (tGs G gsN) := PGs.imp pgs_nil fun v σ H Q ⟨A, ρ, L, w, l, rw, L', e, q⟩ => by
  cases w with
  | nil => cases e; exact ⟨rw, q σ l⟩
  | cons _ _ => cases e
theorem gsC_ {g : SG} {gs : SGs} (h : PGs X es (gCons (tG G g) (tGs G gs))) : PGs X es (tGs G (gsC g gs)) := PGs.imp h fun v σ H Q ⟨A, ρ, L, w, l, rw, L', e, q⟩ => by
  cases w with
  | nil => cases e
  | cons w r =>
    obtain ⟨v', t, rfl, p, p2⟩ := rw
    unfold gsC at e
    simp only at e
    cases e1 : g w L with
    | none => rw [e1] at e; cases e
    | some L1 =>
      rw [e1] at e
      exact ⟨v', t, rfl, A, ρ, L, w, l, p, L1, e1, fun σ' l' => ⟨A, ρ, L1, r, l', p2, L', e, q⟩⟩
def unp : Val → Option (List Val)
  | .d (.tup ds) => some (ds.map .d)
  | .vt vs => some vs
  | _ => none
def gT (n : Nat) (gs : SGs) : SG := fun w L => match unp w with
  | some vs => if vs.length = n then gs vs L else none
  | none => none
theorem unp_rep {w : Val} {vs : List Val} {v : V} (h : RepV K A H ρ w v) (e : unp w = some vs) : ∃ a ws, v = .ref a ∧ SqT K H a ws ∧ RepVs K A H ρ vs ws := by
  cases w with
  | d x => cases x with
    | tup ds =>
      cases e
      obtain ⟨a, ws, rfl, q, p⟩ := h
      exact ⟨a, ws, rfl, q, repVs_d p⟩
    | _ => cases e
  | vt us =>
    cases e
    obtain ⟨a, ws, rfl, q, p⟩ := h
    exact ⟨a, ws, rfl, q, p⟩
  | ref n => cases e
  | exc _ _ _ _ => cases e
theorem gT_ {gs : SGs} {n : Nat} (hK : X.K = G.K) (h : PG X e (gTup X.K n (tGs G gs))) : PG X e (tG G (gT n gs)) := PG.imp h fun v σ H Q ⟨A, ρ, L, w, l, rw, L', e, q⟩ => by
  unfold gT at e
  split at e
  · rename_i vs e1
    split at e
    · rename_i c
      obtain ⟨a, ws, rfl, sq, p⟩ := unp_rep rw e1
      exact ⟨a, ws, rfl, hK ▸ sq, p.len.trans c, A, ρ, L, vs, l, p, L', e, q⟩
    · cases e
  · cases e

/-! ### statements -/
section
variable {st : Stmt} {sts : List Stmt} {f g : SS}
def sNx : SS := fun L S => .nx L S
def sSeq (f g : SS) : SS := fun L S => match f L S with
  | .nx L1 S1 => g L1 S1
  | r => r
def sBad : SS := fun _ _ => .bad
def sBk : SS := fun L S => .bk L S
def sCt : SS := fun L S => .ct L S
def R.to {α : Type} (r : R α) (L : Loc) (k : α → Store → SR) : SR := match r with
  | .ok v S1 => k v S1
  | .ex x S1 => .ex x L S1
  | .bad => .bad
def sEx (e : SE) : SS := fun L S => (e L S).to L fun _ S1 => .nx L S1
def sRt (e : SE) : SS := fun L S => (e L S).to L fun v S1 => .rt v S1
def sRtN : SS := fun _ S => .rt (.d .non) S
def sIf (c : SB) (f g : SS) : SS := fun L S => (c L S).to L fun b S1 => if b = true then f L S1 else g L S1
def sAsg (e : SE) (g : SG) : SS := fun L S => (e L S).to L fun v S1 => match g v L with
  | some L1 => .nx L1 S1
  | none => .bad
theorem st_ok {α : Type} {D : Ends} {r : R α} {L : Loc} {σ : St} {k : α → Store → SR} {P : (Addr → Prop) → List Addr → Hp → α → Prop} (r0 : RS G F A ρ S H) (l : RL G.K A H ρ L σ) (q : StOk G F W D A ρ H (r.to L k))
    (h : ∀ v S' A' ρ' H', Ext F A ρ H A' ρ' H' → RS G F A' ρ' S' H' → StOk G F W D A' ρ' H' (k v S') → P A' ρ' H' v) : EvOk G F P (fun cls d H' => W cls d σ H') A ρ H r := by
  cases r with
  | bad => exact q.elim
  | ok v S' => exact fun A' ρ' H' x r' => h v S' A' ρ' H' x r' (StOk.shift x q)
  | ex y S' => exact fun A' ρ' H' cls d x r' rx => q A' ρ' H' σ cls d x r' (l.mv x r0) rx
theorem nx_ (h : PS X st tNext) : PS X st (tS G W sNx) := PS.imp h fun D σ H ⟨F, A, ρ, L, S, l, r, q⟩ => q A ρ H σ Ext.refl r l
theorem nil_ : PSs X [] (tS G W sNx) := PSs.imp pss_nil fun D σ H ⟨F, A, ρ, L, S, l, r, q⟩ => q A ρ H σ Ext.refl r l
theorem bk_ (h : PS X st tBreak) : PS X st (tS G W sBk) := PS.imp h fun D σ H ⟨F, A, ρ, L, S, l, r, q⟩ => q A ρ H σ Ext.refl r l
theorem ct_ (h : PS X st tCont) : PS X st (tS G W sCt) := PS.imp h fun D σ H ⟨F, A, ρ, L, S, l, r, q⟩ => q A ρ H σ Ext.refl r l
theorem bad_ : PS X st (tS G W sBad) := PS.imp ps_never fun D σ H ⟨F, A, ρ, L, S, l, r, q⟩ => q.elim
theorem seq_ (h1 : PS X st (tS G W f)) (h2 : PSs X sts (tS G W g)) : PSs X (st :: sts) (tS G W (sSeq f g)) := PSs.imp (pss_cons h1 h2) fun D σ H ⟨F, A, ρ, L, S, l, r, q⟩ => by
  refine ⟨F, A, ρ, L, S, l, r, ?_⟩
  unfold sSeq at q
  revert q
  cases f L S with
  | nx L1 S1 => exact fun q A' ρ' H' σ' x r' l' => ⟨F, A', ρ', L1, S1, l', r', StOk.shift x q⟩
  | rt v S1 => exact fun q => q
  | bk L1 S1 => exact fun q => q
  | ct L1 S1 => exact fun q => q
  | ex x L1 S1 => exact fun q => q
  | bad => exact fun q => q
theorem one_ (h : PS X st (tS G W f)) : PSs X [st] (tS G W f) := pss_one h
theorem ex_ (h : PS X st (tDrop (tE G W fa))) : PS X st (tS G W (sEx fa)) := PS.imp h fun D σ H ⟨F, A, ρ, L, S, l, r, q⟩ =>
  ⟨F, A, ρ, L, S, l, r, st_ok r l q fun v S' A' ρ' H' x r' q' w rw => q' A' ρ' H' σ Ext.refl r' (l.mv x r)⟩
theorem rt_ (h : PS X st (tRet (tE G W fa))) : PS X st (tS G W (sRt fa)) := PS.imp h fun D σ H ⟨F, A, ρ, L, S, l, r, q⟩ =>
  ⟨F, A, ρ, L, S, l, r, st_ok r l q fun v S' A' ρ' H' x r' q' w rw => q' A' ρ' H' w Ext.refl r' rw⟩
theorem rtN_ (h : PS X st tRetN) : PS X st (tS G W sRtN) := PS.imp h fun D σ H ⟨F, A, ρ, L, S, l, r, q⟩ => q A ρ H .non Ext.refl r rfl
theorem sif_ {c : Expr} {x y : List Stmt} {f : SB} {g h : SS} {pos : Pos} (hc : PT X c (tB' G W f)) (hx : PSs X x (tS G W g)) (hy : PSs X y (tS G W h)) : PS X (.If c x y pos) (tS G W (sIf f g h)) := PS.imp (ps_if hc hx hy) fun D σ H ⟨F, A, ρ, L, S, l, r, q⟩ => by
  refine ⟨F, A, ρ, L, S, l, r, st_ok r l q fun b S' A' ρ' H' x r' q' => ?_⟩
  cases b with
  | true => exact ⟨F, A', ρ', L, S', l.mv x r, r', q'⟩
  | false => exact ⟨F, A', ρ', L, S', l.mv x r, r', q'⟩
theorem asg_ {g : SG} (h : PS X st (tAsg (tE G W fa) (tG G g))) : PS X st (tS G W (sAsg fa g)) := PS.imp h fun D σ H ⟨F, A, ρ, L, S, l, r, q⟩ => by
  refine ⟨F, A, ρ, L, S, l, r, st_ok r l q fun v S' A' ρ' H' x r' q' w rw => ?_⟩
  split at q'
  · rename_i L1 e
    exact ⟨A', ρ', L, v, l.mv x r, rw, L1, e, fun σ' l' => q' A' ρ' H' σ' Ext.refl r' l'⟩
  · exact q'.elim
theorem set_ {i : Nat} (h : PS X st (tAsg (tE G W fa) (gName i))) : PS X st (tS G W (sAsg fa (gN i))) := PS.imp h fun D σ H ⟨F, A, ρ, L, S, l, r, q⟩ =>
  ⟨F, A, ρ, L, S, l, r, st_ok r l q fun v S' A' ρ' H' x r' q' w rw => q' A' ρ' H' _ Ext.refl r' ((l.mv x r).set i rw)⟩
end

/-! ### what is walked -/
def ItRep0 (K : PySem.W.Frag) (F A : Addr → Prop) (ρ : List Addr) (H : Hp) (J : It) (ds : List D) : Prop := ∃ vs, RepDs K A H ds vs ∧ ∀ A2 ρ2 H2, Ext F A ρ H A2 ρ2 H2 →
  (∀ i, i < vs.length → J.go i H2) ∧ (∀ i, vs.length ≤ i → J.stop i H2) ∧ ∀ i x H3, i < vs.length → J.yld i H2 x H3 → H3 = H2 ∧ vs[i]? = some x
/-- what is walked yields fresh tuples -/
def ItRepT (K : PySem.W.Frag) (F A : Addr → Prop) (ρ : List Addr) (H : Hp) (J : It) (ds : List D) : Prop := ∃ (dss : List (List D)) (vss : List (List V)), ds = dss.map D.tup ∧ vss.length = dss.length ∧ (∀ (i : Nat) (es : List D) (vs : List V), dss[i]? = some es → vss[i]? = some vs → RepDs K A H es vs) ∧ ∀ A2 ρ2 H2, Ext F A ρ H A2 ρ2 H2 →
  (∀ i, i < ds.length → J.go i H2) ∧ (∀ i, ds.length ≤ i → J.stop i H2) ∧ ∀ i x H3, i < ds.length → J.yld i H2 x H3 → ∃ T vs, x = .ref T ∧ H2 T = none ∧ H3 = upd H2 T (.tup vs) ∧ vss[i]? = some vs
def ItRep (K : PySem.W.Frag) (F A : Addr → Prop) (ρ : List Addr) (H : Hp) (J : It) (ds : List D) : Prop := ItRep0 K F A ρ H J ds ∨ ItRepT K F A ρ H J ds
theorem ItRep.use {J : It} {ds : List D} (r1 : RS G F A1 ρ1 S1 H1) (h : ItRep G.K F A1 ρ1 H1 J ds) {A' : Addr → Prop} {ρ' : List Addr} {S' : Store} {H' : Hp} (x' : Ext F A1 ρ1 H1 A' ρ' H') (r' : RS G F A' ρ' S' H') :
    (∀ i, i < ds.length → J.go i H') ∧ (∀ i, ds.length ≤ i → J.stop i H') ∧ ∀ i v H3 d, ds[i]? = some d → J.yld i H' v H3 → Ext F A' ρ' H' A' ρ' H3 ∧ RS G F A' ρ' S' H3 ∧ RepD G.K A' H3 d v := by
  rcases h with ⟨vs, rd, it⟩ | ⟨dss, vss, rfl, hl, rd, it⟩
  · have hl := rd.len
    obtain ⟨go, stop, yld⟩ := it A' ρ' H' x'
    refine ⟨fun i hi => go i (by omega), fun i hi => stop i (by omega), fun i v H3 d hd y => ?_⟩
    have hi : i < ds.length := (List.getElem?_eq_some_iff.mp hd).1
    obtain ⟨rfl, hv⟩ := yld i v H3 (by omega) y
    obtain ⟨v', e1, p⟩ := rd.get hd
    rw [hv] at e1; cases e1
    exact ⟨Ext.refl, r', p.mv x' r1⟩
  · obtain ⟨go, stop, yld⟩ := it A' ρ' H' x'
    refine ⟨go, stop, fun i v H3 d hd y => ?_⟩
    have hi := (List.getElem?_eq_some_iff.mp hd).1
    obtain ⟨T, vs, rfl, hT, rfl, hv⟩ := yld i v H3 hi y
    rw [List.getElem?_map] at hd
    cases he : dss[i]? with
    | none => rw [he] at hd; cases hd
    | some es =>
      rw [he] at hd
      cases hd
      obtain ⟨x3, r3⟩ := r'.laid hT (.tup vs)
      exact ⟨x3, r3, T, vs, rfl, SqT.of upd_same, RepDs.mv x3 r' es vs (RepDs.mv x' r1 es vs (rd i es vs he hv))⟩
abbrev SI := Loc → Store → R (List D)
def tI (G : PC) (W : WX) (f : SI) : TI := fun σ H Q => ∃ F A ρ L S, RL G.K A H ρ L σ ∧ RS G F A ρ S H ∧
  EvOk G F (fun A' ρ' H' ds => ∀ J, ItRep G.K F A' ρ' H' J ds → Q J H') (fun cls d H' => W cls d σ H') A ρ H (f L S)
theorem PI.imp {tg it : Expr} {t t' : TI} (h : PI X tg it t) (i : ∀ σ H Q, t' σ H Q → t σ H Q) : PI X tg it t' := ⟨fun pins s σ H R I q => h.run pins s σ H R I (i σ H R q)⟩
def iL (e : SE) : SI := fun L S => (e L S).bind fun v S1 => match v with
  | .d (.lst ds) => .ok ds S1
  | .d (.scr ns) => .ok (ns.map .int) S1
  | _ => .bad
def iT (e : SE) : SI := fun L S => (e L S).bind fun v S1 => match v with
  | .d (.tup ds) => .ok ds S1
  | _ => .bad
def iS (e : SE) : SI := fun L S => (e L S).bind fun v S1 => match v with
  | .d (.str x) => .ok (x.cps.toList.map fun c => .str ⟨#[c]⟩) S1
  | _ => .bad
def rng (lo : Int) (n : Nat) : List D := (List.range n).map fun (i : Nat) => .int (lo + i)
def iR1 (e : SE) : SI := fun L S => (e L S).bind fun v S1 => match v with
  | .d (.int j) => if -(2 ^ 62) ≤ j ∧ j < 2 ^ 62 then .ok (rng 0 j.toNat) S1 else .bad
  | _ => .bad
def iR2 (e e' : SE) : SI := fun L S => (e L S).bind fun v S1 => (e' L S1).bind fun w S2 => match v, w with
  | .d (.int i), .d (.int j) => if (-(2 ^ 62) ≤ i ∧ i < 2 ^ 62) ∧ -(2 ^ 62) ≤ j ∧ j < 2 ^ 62 then .ok (rng i (j - i).toNat) S2 else .bad
  | _, _ => .bad
theorem itl_rep {a : Addr} {ds : List D} {vs : List V} (h : RepDs K A H ds vs) (k : ∀ A2 ρ2 H2, Ext F A ρ H A2 ρ2 H2 → SqL K H2 a vs) : ItRep K F A ρ H (Itl K a) ds :=
  .inl ⟨vs, h, fun A2 ρ2 H2 x => ⟨fun i hi => ⟨vs, vs[i], k A2 ρ2 H2 x, List.getElem?_eq_getElem hi⟩, fun i hi => ⟨vs, k A2 ρ2 H2 x, hi⟩, fun i y H3 _ z => ⟨z.1, z.2 vs (k A2 ρ2 H2 x)⟩⟩⟩
theorem itt_rep {a : Addr} {ds : List D} {vs : List V} (h : RepDs K A H ds vs) (k : ∀ A2 ρ2 H2, Ext F A ρ H A2 ρ2 H2 → SqT K H2 a vs) : ItRep K F A ρ H (Itt K a) ds :=
  .inl ⟨vs, h, fun A2 ρ2 H2 x => ⟨fun i hi => ⟨vs, vs[i], k A2 ρ2 H2 x, List.getElem?_eq_getElem hi⟩, fun i hi => ⟨vs, k A2 ρ2 H2 x, hi⟩, fun i y H3 _ z => ⟨z.1, z.2 vs (k A2 ρ2 H2 x)⟩⟩⟩
theorem ints_rep : ∀ ns : List Int, RepDs K A H (ns.map D.int) (ns.map V.int)
  | [] => rfl
  | n :: r => ⟨_, _, rfl, rfl, ints_rep r⟩
theorem iL_t : ∀ σ H Q, tI G W (iL fa) σ H Q → iList G.K (tE G W fa) σ H Q := fun σ H Q ⟨F, A, ρ, L, S, l, r, q⟩ => by
  refine ⟨F, A, ρ, L, S, l, r, EvOk.bind q fun v S1 A1 ρ1 H1 x1 r1 q1 w rw1 => ?_⟩
  split at q1
  · rename_i ds
    obtain ⟨a, vs, rfl, e1, na, p⟩ := rw1
    exact ⟨a, rfl, ⟨vs, SqL.of e1⟩, q1 A1 ρ1 H1 Ext.refl r1 _ (itl_rep p fun A2 ρ2 H2 x => SqL.of (x.fr a _ (fun z => (na (r1.sub a z)).elim) e1))⟩
  · rename_i ns
    obtain ⟨a, rfl, p⟩ := rw1
    refine ⟨a, rfl, ⟨ns.map V.int, p.elim (fun p => .inl p.1) fun p => p H1⟩, q1 A1 ρ1 H1 Ext.refl r1 _ (itl_rep (ints_rep ns) fun A2 ρ2 H2 x => ?_)⟩
    rcases p with ⟨p, na⟩ | p
    · exact .inl (x.rd (fun z => (na (r1.sub a z)).elim) p)
    · exact p H2
  · exact q1.elim
theorem iL_ {tg : Expr} (hK : X.K = G.K) (h : PI X tg e (iList X.K (tE G W fa))) : PI X tg e (tI G W (iL fa)) := PI.imp h fun σ H Q q => hK ▸ iL_t σ H Q q
theorem iT_ {tg : Expr} (hK : X.K = G.K) (h : PI X tg e (iTup X.K (tE G W fa))) : PI X tg e (tI G W (iT fa)) := PI.imp h fun σ H Q ⟨F, A, ρ, L, S, l, r, q⟩ => by
  refine ⟨F, A, ρ, L, S, l, r, EvOk.bind q fun v S1 A1 ρ1 H1 x1 r1 q1 w rw1 => ?_⟩
  rw [hK]
  split at q1
  · rename_i ds
    obtain ⟨a, vs, rfl, e1, p⟩ := rw1
    exact ⟨a, rfl, ⟨vs, e1⟩, q1 A1 ρ1 H1 Ext.refl r1 _ (itt_rep p fun A2 ρ2 H2 x => x.sqT r1.noTup e1)⟩
  · exact q1.elim
theorem rng_rep (lo : Int) (n : Nat) : RepDs K A H (rng lo n) ((List.range n).map fun (i : Nat) => V.int (lo + (i : Nat))) := by
  unfold rng
  have all : ∀ ks : List Nat, RepDs K A H (ks.map fun (i : Nat) => D.int (lo + (i : Nat))) (ks.map fun (i : Nat) => V.int (lo + (i : Nat))) := fun ks => by
    induction ks with
    | nil => rfl
    | cons k r ih => exact ⟨_, _, rfl, rfl, ih⟩
  exact all _
theorem itr_rep (lo : Int) (n : Nat) : ItRep K F A ρ H (Itr lo n) (rng lo n) :=
  .inl ⟨_, rng_rep lo n, fun A2 ρ2 H2 x => ⟨fun i hi => (show i < n by simpa using hi), fun i hi => (show n ≤ i by simpa using hi), fun i y H3 hi z => ⟨z.1, by
    have hi : i < n := by simpa using hi
    rw [z.2, List.getElem?_map, List.getElem?_range hi]; rfl⟩⟩⟩
theorem iR1_ {tg : Expr} (h : PI X tg e (iRng1 (tCons (tE G W fa) tNil))) : PI X tg e (tI G W (iR1 fa)) := PI.imp h fun σ H Q ⟨F, A, ρ, L, S, l, r, q⟩ => by
  refine ⟨F, A, ρ, L, S, l, r, EvOk.bind q fun v S1 A1 ρ1 H1 x1 r1 q1 w rw1 => ?_⟩
  split at q1
  · rename_i j
    split at q1
    · rename_i c
      rw [show w = _ from rw1]
      exact ⟨j, rfl, c.1, c.2, q1 A1 ρ1 H1 Ext.refl r1 _ (itr_rep 0 j.toNat)⟩
    · exact q1.elim
  · exact q1.elim
theorem iR2_ {tg : Expr} (h : PI X tg e (iRng2 (tCons (tE G W fa) (tCons (tE G W fb) tNil)))) : PI X tg e (tI G W (iR2 fa fb)) := PI.imp h fun σ H Q ⟨F, A, ρ, L, S, l, r, q⟩ => by
  refine ⟨F, A, ρ, L, S, l, r, EvOk.bind q fun v S1 A1 ρ1 H1 x1 r1 q1 w rw1 => ?_⟩
  refine ⟨F, A1, ρ1, L, S1, l.mv x1 r, r1, EvOk.bind q1 fun v2 S2 A2 ρ2 H2 x2 r2 q2 w2 rw2 => ?_⟩
  split at q2
  · rename_i i j
    split at q2
    · rename_i c
      rw [show w = _ from rw1, show w2 = _ from rw2]
      exact ⟨i, j, rfl, ⟨c.1.1, c.1.2, c.2.1, c.2.2⟩, q2 A2 ρ2 H2 Ext.refl r2 _ (itr_rep i (j - i).toNat)⟩
    · exact q2.elim
  · exact q2.elim
theorem iS_ {tg : Expr} (h : PI X tg e (iStr (tE G W fa))) : PI X tg e (tI G W (iS fa)) := PI.imp h fun σ H Q ⟨F, A, ρ, L, S, l, r, q⟩ => by
  refine ⟨F, A, ρ, L, S, l, r, EvOk.bind q fun v S1 A1 ρ1 H1 x1 r1 q1 w rw1 => ?_⟩
  split at q1
  · rename_i x
    refine ⟨x, rw1, q1 A1 ρ1 H1 Ext.refl r1 _ <| .inl ⟨x.cps.toList.map fun c => V.str ⟨#[c]⟩, ?_, fun A2 ρ2 H2 y => ⟨fun i hi => ?_, fun i hi => ?_, fun i z H3 _ q => ⟨q.1, ?_⟩⟩⟩⟩
    · have all : ∀ cs : List Nat, RepDs G.K A1 H1 (cs.map fun c => D.str ⟨#[c]⟩) (cs.map fun c => V.str ⟨#[c]⟩) := fun cs => by
        induction cs with
        | nil => rfl
        | cons k r ih => exact ⟨_, _, rfl, rfl, ih⟩
      exact all _
    · show i < x.cps.size
      simpa using hi
    · show x.cps.size ≤ i
      simpa using hi
    · obtain ⟨_, c, e, rfl⟩ := q
      rw [List.getElem?_map]
      simp [e]
  · exact q1.elim
end Ev
set_option linter.all false
set_option Elab.async false
set_option maxRecDepth 100000
namespace Ev
open PySem L2 PySem.Spec
variable {F F1 A A1 A2 : Addr → Prop} {ρ ρ1 ρ2 : List Addr} {H H1 H2 : Hp} {K : PySem.W.Frag} {G : PC} {S S1 S2 : Store} {X : Cx} {W : WX}
variable {a b c e : Expr} {es : List Expr} {fa fb fc : SE} {as : SA} {pos : Pos} {st : Stmt}

/-! ### for -/
def forL (g : SG) (b : SS) : List D → SS
  | [] => fun L S => .nx L S
  | d :: ds => fun L S => match g (.d d) L with
    | none => .bad
    | some L1 => match b L1 S with
      | .nx L2 S2 => forL g b ds L2 S2
      | .ct L2 S2 => forL g b ds L2 S2
      | .bk L2 S2 => .nx L2 S2
      | r => r
def sFor (f : SI) (g : SG) (b : SS) : SS := fun L S => (f L S).to L fun ds S1 => forL g b ds L S1
theorem for_ {f : SI} {g : SG} {b : SS} (h : PS X st (tFor (tI G W f) (tG G g) (tS G W b))) : PS X st (tS G W (sFor f g b)) := PS.imp h fun D σ H ⟨F, A, ρ, L, S, l, r, q⟩ => by
  refine ⟨F, A, ρ, L, S, l, r, st_ok r l q fun ds S1 A1 ρ1 H1 x1 r1 q1 J it => ?_⟩
  refine ⟨fun i m σ' H' => i ≤ ds.length ∧ m = ds.length - i ∧ ∃ A' ρ' L' S', Ext F A1 ρ1 H1 A' ρ' H' ∧ RL G.K A' H' ρ' L' σ' ∧ RS G F A' ρ' S' H' ∧ StOk G F W D A' ρ' H' (forL g b (ds.drop i) L' S'), ⟨ds.length, Nat.zero_le _, rfl, A1, ρ1, L, S1, Ext.refl, l.mv x1 r, r1, q1⟩, ?_⟩
  rintro i m σ' H' ⟨hi, rfl, A', ρ', L', S', x', l', r', q'⟩
  obtain ⟨go, stop, yld⟩ := it.use r1 x' r'
  by_cases e : i = ds.length
  · left
    refine ⟨stop i (Nat.le_of_eq e.symm), ?_⟩
    rw [List.drop_eq_nil_of_le (by omega)] at q'
    exact q' A' ρ' H' σ' Ext.refl r' l'
  · right
    have hi' : i < ds.length := by omega
    refine ⟨go i hi', _, fun σ2 H2 z => ⟨ds.length - (i + 1), by omega, z⟩, fun v H3 y => ?_⟩
    have hd : i < ds.length := by omega
    obtain ⟨x3, r3, p⟩ := yld i v H3 _ (List.getElem?_eq_getElem hd) y
    have l' := l'.mv x3 r'
    have x' := x'.trans x3
    have q' := StOk.shift x3 q'
    have r' := r3
    rw [List.drop_eq_getElem_cons hd] at q'
    have q2 : StOk G F W D A' ρ' H3 (match g (.d ds[i]) L' with
      | none => .bad
      | some L1 => match b L1 S' with
        | .nx L2 S2 => forL g b (ds.drop (i + 1)) L2 S2
        | .ct L2 S2 => forL g b (ds.drop (i + 1)) L2 S2
        | .bk L2 S2 => .nx L2 S2
        | r => r) := q'
    cases eg : g (.d ds[i]) L' with
    | none => rw [eg] at q2; exact q2.elim
    | some L1 =>
      rw [eg] at q2
      refine ⟨A', ρ', L', .d ds[i], l', p, L1, eg, fun σ2 l2 => ⟨F, A', ρ', L1, S', l2, r', ?_⟩⟩
      revert q2
      show StOk G F W D A' ρ' H3 (match b L1 S' with
        | .nx L2 S2 => forL g b (ds.drop (i + 1)) L2 S2
        | .ct L2 S2 => forL g b (ds.drop (i + 1)) L2 S2
        | .bk L2 S2 => .nx L2 S2
        | r => r) → _
      cases b L1 S' with
      | nx L2 S2 => exact fun q A4 ρ4 H4 σ4 x4 r4 l4 => ⟨by omega, rfl, A4, ρ4, L2, S2, x'.trans x4, l4, r4, StOk.shift x4 q⟩
      | ct L2 S2 => exact fun q A4 ρ4 H4 σ4 x4 r4 l4 => ⟨by omega, rfl, A4, ρ4, L2, S2, x'.trans x4, l4, r4, StOk.shift x4 q⟩
      | bk L2 S2 => exact fun q => q
      | rt v S2 => exact fun q => q
      | ex y L2 S2 => exact fun q => q
      | bad => exact fun q => q

/-! ### comprehensions -/
theorem wipe_in {σ : St} {i : Nat} : ∀ {vs : List Nat}, i ∈ vs → (wipe σ vs)[i]? = if i < σ.length then some none else none
  | v :: vs, h => by
    unfold wipe
    by_cases e : i = v
    · subst e
      by_cases hl : i < σ.length
      · rw [if_pos hl, List.getElem?_set_self (by rw [wipe_length]; exact hl)]
      · rw [if_neg hl]
        exact List.getElem?_eq_none (by rw [List.length_set, wipe_length]; omega)
    · rw [List.getElem?_set_ne (Ne.symm e), wipe_in (by
        rcases List.mem_cons.mp h with h | h
        · exact (e h).elim
        · exact h)]
theorem wipe_outE {σ : St} {i : Nat} : ∀ {vs : List Nat}, i ∉ vs → (wipe σ vs)[i]? = σ[i]?
  | [], _ => rfl
  | v :: vs, h => by
    unfold wipe
    rw [List.getElem?_set_ne (fun e => h (by rw [e]; exact List.mem_cons_self)), wipe_outE fun z => h (List.mem_cons_of_mem _ z)]
theorem wipe_setE {σ : St} {i : Nat} {x : Option V} {vs : List Nat} (h : i ∈ vs) : wipe (σ.set i x) vs = wipe σ vs := by
  apply List.ext_getElem?
  intro j
  by_cases hj : j ∈ vs
  · rw [wipe_in hj, wipe_in hj, List.length_set]
  · rw [wipe_outE hj, wipe_outE hj, List.getElem?_set_ne (by rintro rfl; exact hj h)]
theorem wipe_wipe {σ : St} {vs : List Nat} : wipe (wipe σ vs) vs = wipe σ vs := by
  apply List.ext_getElem?
  intro j
  by_cases hj : j ∈ vs
  · rw [wipe_in hj, wipe_in hj, wipe_length]
  · rw [wipe_outE hj]
def wipeL (L : Loc) : List Nat → Loc
  | [] => L
  | v :: vs => (wipeL L vs).set v none
theorem RL.wipe {L : Loc} {σ : St} (h : RL K A H ρ L σ) : ∀ vs : List Nat, RL K A H ρ (wipeL L vs) (wipe σ vs)
  | [] => h
  | v :: vs => (RL.wipe h vs).unset v none
/-- a target of a comprehension: its slots are among vs -/
def tGw (G : PC) (vs : List Nat) (g : SG) : TG := fun v σ H Q => ∃ A ρ L w, RL G.K A H ρ L σ ∧ RepV G.K A H ρ w v ∧ ∃ L', g w L = some L' ∧ ∀ σ', RL G.K A H ρ L' σ' → wipe σ' vs = wipe σ vs → Q σ' H
def tGws (G : PC) (vs : List Nat) (g : SGs) : TGs := fun v σ H Q => ∃ A ρ L w, RL G.K A H ρ L σ ∧ RepVs G.K A H ρ w v ∧ ∃ L', g w L = some L' ∧ ∀ σ', RL G.K A H ρ L' σ' → wipe σ' vs = wipe σ vs → Q σ' H
theorem gNw_ {i : Nat} {vs : List Nat} (hi : i ∈ vs) (h : PG X e (gName i)) : PG X e (tGw G vs (gN i)) := PG.imp h fun v σ H Q ⟨A, ρ, L, w, l, rw, L', e, q⟩ => by
  cases e
  exact q _ (l.set i rw) (wipe_setE hi)
theorem gsNw_ {vs : List Nat} : PGs X [] (tGws G vs gsN) := PGs.imp pgs_nil fun v σ H Q ⟨A, ρ, L, w, l, rw, L', e, q⟩ => by
  cases w with
  | nil => cases e; exact ⟨rw, q σ l rfl⟩
  | cons _ _ => cases e
theorem gsCw_ {g : SG} {gs : SGs} {vs : List Nat} (h : PGs X es (gCons (tGw G vs g) (tGws G vs gs))) : PGs X es (tGws G vs (gsC g gs)) := PGs.imp h fun v σ H Q ⟨A, ρ, L, w, l, rw, L', e, q⟩ => by
  cases w with
  | nil => cases e
  | cons w r =>
    obtain ⟨v', t, rfl, p, p2⟩ := rw
    unfold gsC at e
    simp only at e
    cases e1 : g w L with
    | none => rw [e1] at e; cases e
    | some L1 =>
      rw [e1] at e
      exact ⟨v', t, rfl, A, ρ, L, w, l, p, L1, e1, fun σ' l' w1 => ⟨A, ρ, L1, r, l', p2, L', e, fun σ2 l2 w2 => q σ2 l2 (w2.trans w1)⟩⟩
theorem gTw_ {gs : SGs} {n : Nat} {vs : List Nat} (hK : X.K = G.K) (h : PG X e (gTup X.K n (tGws G vs gs))) : PG X e (tGw G vs (gT n gs)) := PG.imp h fun v σ H Q ⟨A, ρ, L, w, l, rw, L', e, q⟩ => by
  unfold gT at e
  split at e
  · rename_i us e1
    split at e
    · rename_i c
      obtain ⟨a, ws, rfl, sq, p⟩ := unp_rep rw e1
      exact ⟨a, ws, rfl, hK ▸ sq, p.len.trans c, A, ρ, L, us, l, p, L', e, q⟩
    · cases e
  · cases e
def R.nox {α : Type} (r : R α) : R α := match r with
  | .ex _ _ => .bad
  | r => r
theorem EvOk.nox {α : Type} {P : (Addr → Prop) → List Addr → Hp → α → Prop} {E E' : Value → Option Addr → Hp → Prop} : ∀ {r : R α}, EvOk G F P E A ρ H r.nox → EvOk G F P E' A ρ H r
  | .ok v S, q => q
  | .ex y S, q => q.elim
  | .bad, q => q
theorem EvOk.bind0 {α β : Type} {P : (Addr → Prop) → List Addr → Hp → β → Prop} {P1 : (Addr → Prop) → List Addr → Hp → α → Prop} {E : Value → Option Addr → Hp → Prop} {k : α → Store → R β} (y : Ext F A ρ H A1 ρ1 H1) :
    ∀ {r : R α}, EvOk G F P E A ρ H (r.bind k) → (∀ v S' A' ρ' H', Ext F A1 ρ1 H1 A' ρ' H' → RS G F A' ρ' S' H' → EvOk G F P E A ρ H (k v S') → P1 A' ρ' H' v) → EvOk G F P1 E A1 ρ1 H1 r
  | .ok v S', q, h => fun A' ρ' H' x r => h v S' A' ρ' H' x r q
  | .ex e S', q, _ => fun A' ρ' H' c d x r z => q A' ρ' H' c d (y.trans x) r z
  | .bad, q, _ => q
def compL (g : SG) (t : SB) (e : SE) (Lw : Loc) : List D → List D → Store → R (List D)
  | [], acc, S => .ok acc S
  | d :: ds, acc, S => match g (.d d) Lw with
    | none => .bad
    | some L1 => (t L1 S).nox.bind fun b S1 => if b = true then (e L1 S1).nox.bind fun v S2 => match v with
      | .d x => compL g t e Lw ds (acc ++ [x]) S2
      | _ => .bad else compL g t e Lw ds acc S1
def bYes : SB := fun _ S => .ok true S
def eComp (f : SI) (g : SG) (t : SB) (e : SE) (vs : List Nat) : SE := fun L S => (f L S).bind fun ds S1 => if ds.length ≤ sizeLine then (compL g t e (wipeL L vs) ds [] S1).bind fun acc S2 => .ok (.d (.lst acc)) S2 else .bad
/-- the list that a comprehension makes is changed -/
theorem RS.poke (r : RS G F A ρ S H) {p : Addr} {acc : List D} {vacc vs : List V} (np : p ∉ ρ) (hA : A p) (e : H p = some (.lst vacc)) (rd : RepDs G.K A H acc vacc) :
    RS G F A ρ S (upd H p (.lst vs)) ∧ (∀ ds us, RepDs G.K A H ds us → RepDs G.K A (upd H p (.lst vs)) ds us) ∧ ∀ {A0 : Addr → Prop} {ρ0 : List Addr} {H0 : Hp}, H0 p = none → Ext F A0 ρ0 H0 A ρ H → Ext F A0 ρ0 H0 A ρ (upd H p (.lst vs)) := by
  have rp : RS G (fun _ => False) A [p] [.lst acc] H := by
    refine ⟨fun a h => ?_, r.trk, by simp, rfl, fun a h => ?_, fun _ h => h.elim, fun n a c e1 e2 => ?_, fun n c e1 => ?_⟩
    · rw [List.mem_singleton.mp h]; exact hA
    · rw [List.mem_singleton.mp h]; exact ⟨_, e, True.intro⟩
    · refine ⟨fun z => z.elim, fun z => ?_⟩
      cases n with
      | zero => cases e2; exact z
      | succ n => cases e2
    · cases n with
      | zero => cases e1; exact ⟨p, rfl, vacc, e, rd⟩
      | succ n => cases e1
  have xp : Ext (fun _ => False) A [p] H A [p] (upd H p (.lst vs)) := by
    refine ⟨List.prefix_refl _, fun a o h1 h2 => ?_, fun a h => ?_, fun a h => h, fun a h => .inl h, fun a h => .inl h⟩
    · rw [upd_ne (fun z => h1 (by rw [z]; simp))]; exact h2
    · by_cases z : a = p
      · rw [z, upd_same] at h; cases h
      · rw [upd_ne z] at h; exact h
  have k : ∀ a, a ≠ p → upd H p (.lst vs) a = H a := fun a h => upd_ne h
  have ne : ∀ a, a ∈ ρ → a ≠ p := fun a h z => np (z ▸ h)
  refine ⟨⟨r.sub, fun a h => ?_, r.nd, r.len, fun a h => ?_, r.fin, r.lk, fun n c e1 => ?_⟩, fun ds us h => RepDs.mv xp rp ds us h, fun {A0 ρ0 H0} h0 x => ⟨x.pre, fun a o h1 h2 => ?_, fun a h => ?_, x.up, x.nw, x.nr⟩⟩
  · by_cases z : a = p
    · rw [z]; exact ⟨_, upd_same⟩
    · rw [k a z]; exact r.trk a h
  · rw [k a (ne a h)]; exact r.own a h
  · obtain ⟨a, e2, q⟩ := r.cells n c e1
    exact ⟨a, e2, RepC.mv' xp rp.rn (List.prefix_refl _) (k a (ne a (List.mem_of_getElem? e2))) q⟩
  · rw [k a (fun z => by rw [z, h0] at h2; cases h2)]; exact x.fr a o h1 h2
  · by_cases z : a = p
    · rw [z]; exact h0
    · rw [k a z] at h; exact x.st a h
theorem comp_t {f : SI} {g : SG} {t : SB} {e : SE} {vs : List Nat} : ∀ σ H Q, tE G W (eComp f g t e vs) σ H Q →
    tLc (tI G W f) (tGw G vs g) (tB' G (fun _ _ _ _ => False) t) (tE G (fun _ _ _ _ => False) e) vs σ H Q := fun σ H Q ⟨F, A, ρ, L, S, l, r, q⟩ => by
  refine ⟨F, A, ρ, L, S, l, r, EvOk.bind q fun ds S1 A1 ρ1 H1 x1 r1 q1 J it p hp => ?_⟩
  split at q1
  · rename_i hz
    have l1 := l.mv x1 r
    have kk : ∀ a o, H1 a = some o → upd H1 p (.lst []) a = some o := fun a o h => by rw [upd_ne (ne_of_none h hp)]; exact h
    obtain ⟨x0, r0⟩ := r1.same (A1 := fun a => A1 a ∨ a = p) kk (fun _ h => .inl h) (fun a h => h.imp (fun h => h) fun h => by rw [h]; exact hp) fun a h => by
      rcases h with h | h
      · obtain ⟨o, e⟩ := r1.trk a h; exact ⟨o, kk a o e⟩
      · rw [h]; exact ⟨_, upd_same⟩
    have np0 : p ∉ ρ1 := fun z => by
      obtain ⟨o, e⟩ := r1.trk p (r1.sub p z)
      rw [hp] at e; cases e
    refine ⟨fun i m H' => i ≤ ds.length ∧ m = ds.length - i ∧ ∃ A' ρ' S' acc vacc, Ext F A1 ρ1 H1 A' ρ' H' ∧ RS G F A' ρ' S' H' ∧ A' p ∧ p ∉ ρ' ∧ H' p = some (.lst vacc) ∧ RepDs G.K A' H' acc vacc ∧ acc.length ≤ i ∧
      EvOk G F (fun A' ρ' H' v => ∀ w, RepV G.K A' H' ρ' v w → Q w H') (fun cls d H' => W cls d σ H') A1 ρ1 H1 ((compL g t e (wipeL L vs) (ds.drop i) acc S').bind fun acc S2 => .ok (.d (.lst acc)) S2),
      ⟨ds.length, Nat.zero_le _, rfl, _, ρ1, S1, [], [], x0, r0, .inr rfl, np0, upd_same, rfl, Nat.le_refl _, q1⟩, ?_⟩
    rintro i m H' ⟨hi, rfl, A', ρ', S', acc, vacc, x', r', hA, np, ea, ra, hacc, q'⟩
    obtain ⟨go, stop, yld⟩ := it.use r1 x' r'
    by_cases ei : i = ds.length
    · left
      refine ⟨stop i (Nat.le_of_eq ei.symm), ?_⟩
      rw [List.drop_eq_nil_of_le (by omega)] at q'
      have xd : Ext F A1 ρ1 H1 (fun a => A' a ∧ a ≠ p) ρ' H' := ⟨x'.pre, x'.fr, x'.st, fun a h => ⟨x'.up a h, fun z => by
        obtain ⟨o, e⟩ := r1.trk a h
        rw [z, hp] at e; cases e⟩, fun a h => x'.nw a h.1, x'.nr⟩
      have rdp : RS G F (fun a => A' a ∧ a ≠ p) ρ' S' H' := ⟨fun a h => ⟨r'.sub a h, fun z => np (z ▸ h)⟩, fun a h => r'.trk a h.1, r'.nd, r'.len, r'.own, r'.fin, r'.lk, fun n c e => by
        obtain ⟨a, e1, q⟩ := r'.cells n c e
        exact ⟨a, e1, q.weak fun _ h => h.1⟩⟩
      exact q' _ ρ' H' xd rdp (.ref p) ⟨p, vacc, rfl, ea, fun z => z.2 rfl, ra.weak fun _ h => h.1⟩
    · right
      have hi' : i < ds.length := by omega
      refine ⟨go i hi', _, fun H2 z => ⟨ds.length - (i + 1), by omega, z⟩, fun v H3 y => ?_⟩
      have hd : i < ds.length := by omega
      obtain ⟨x3, r3, pv⟩ := yld i v H3 _ (List.getElem?_eq_getElem hd) y
      have x' := x'.trans x3
      have ea := x3.fr p _ (fun z => (np z).elim) ea
      have ra := RepDs.mv x3 r' _ _ ra
      have r' := r3
      rw [List.drop_eq_getElem_cons hd] at q'
      unfold compL at q'
      cases eg : g (.d ds[i]) (wipeL L vs) with
      | none => rw [eg] at q'; exact q'.elim
      | some L1 =>
        rw [eg] at q'
        refine ⟨A', ρ', wipeL L vs, .d ds[i], (l1.mv x' r1).wipe vs, pv, L1, eg, fun σ2 l2 w2 => ⟨w2.trans wipe_wipe, F, A', ρ', L1, S', l2, r', ?_⟩⟩
        simp only at q'
        have q2 : EvOk G F (fun A' ρ' H' v => ∀ w, RepV G.K A' H' ρ' v w → Q w H') (fun cls d H' => W cls d σ H') A1 ρ1 H1 (((t L1 S').nox).bind fun b S1 => ((if b = true then (e L1 S1).nox.bind fun v S2 => match v with
            | .d x => compL g t e (wipeL L vs) (ds.drop (i + 1)) (acc ++ [x]) S2
            | _ => .bad else compL g t e (wipeL L vs) (ds.drop (i + 1)) acc S1) : R (List D)).bind fun acc S2 => .ok (.d (.lst acc)) S2) := by
          revert q'
          cases (t L1 S').nox with
          | ok b S2 => exact fun q => q
          | ex y S2 => exact fun q => q
          | bad => exact fun q => q
        refine EvOk.nox (EvOk.bind0 x' q2 fun b S3 A3 ρ3 H4 x3 r3 q3 => ?_)
        have np3 : p ∉ ρ3 := fun z => (x3.nr p z).elim np fun z => by rw [ea] at z; cases z
        have ea3 : H4 p = some (.lst vacc) := x3.fr p _ (fun z => (np z).elim) ea
        have ra3 := ra.mv x3 r'
        cases b with
        | false =>
          exact ⟨by omega, rfl, A3, ρ3, S3, acc, vacc, x'.trans x3, r3, x3.up p hA, np3, ea3, ra3, by omega, q3⟩
        | true =>
          refine ⟨F, A3, ρ3, L1, S3, l2.mv x3 r', r3, ?_⟩
          have q4 : EvOk G F (fun A' ρ' H' v => ∀ w, RepV G.K A' H' ρ' v w → Q w H') (fun cls d H' => W cls d σ H') A1 ρ1 H1 (((e L1 S3).nox).bind fun v S2 => ((match v with
              | .d x => compL g t e (wipeL L vs) (ds.drop (i + 1)) (acc ++ [x]) S2
              | _ => .bad) : R (List D)).bind fun acc S2 => .ok (.d (.lst acc)) S2) := by
            revert q3
            show EvOk G F _ _ A1 ρ1 H1 ((((e L1 S3).nox).bind _).bind _) → _
            cases (e L1 S3).nox with
            | ok b S2 => exact fun q => q
            | ex y S2 => exact fun q => q
            | bad => exact fun q => q
          refine EvOk.nox (EvOk.bind0 (x'.trans x3) q4 fun v S4 A4 ρ4 H5 x4 r4 q5 w rw => ?_)
          cases v with
          | d y =>
            have np4 : p ∉ ρ4 := fun z => (x4.nr p z).elim np3 fun z => by rw [ea3] at z; cases z
            have ea4 : H5 p = some (.lst vacc) := x4.fr p _ (fun z => (np3 z).elim) ea3
            have ra4 := ra3.mv x4 r3
            have hA4 := x4.up p (x3.up p hA)
            obtain ⟨r5, mv5, ex5⟩ := r4.poke (vs := vacc ++ [w]) np4 hA4 ea4 ra4
            refine ⟨vacc, ea4, ?_, by omega, rfl, A4, ρ4, S4, acc ++ [y], vacc ++ [w], ex5 hp ((x'.trans x3).trans x4), r5, hA4, np4, upd_same, mv5 _ _ (ra4.app (us := [w]) (es := [y]) ⟨w, [], rfl, rw, rfl⟩), ?_, q5⟩
            · rw [ra4.len]
              omega
            · rw [List.length_append, List.length_singleton]
              omega
          | ref n => exact q5.elim
          | vt n => exact q5.elim
          | exc _ _ _ _ => exact q5.elim
  · exact q1.elim
theorem comp_ {f : SI} {g : SG} {t : SB} {e' : SE} {vs : List Nat} (h : PE X e (tLc (tI G W f) (tGw G vs g) (tB' G (fun _ _ _ _ => False) t) (tE G (fun _ _ _ _ => False) e') vs)) : PE X e (tE G W (eComp f g t e' vs)) := PE.imp h comp_t
theorem setComp_ {i : Nat} {f : SI} {g : SG} {t : SB} {e' : SE} {vs : List Nat} (h : PS X st (tAsg (tLc (tI G W f) (tGw G vs g) (tB' G (fun _ _ _ _ => False) t) (tE G (fun _ _ _ _ => False) e') vs) (gName i))) : PS X st (tS G W (sAsg (eComp f g t e' vs) (gN i))) :=
  set_ (PS.imp h fun D σ H q => comp_t σ H _ q)

/-! ### the body of a def -/
def runFn (np nl : Nat) (body : SS) : Fn := fun args S => if args.length = np then (match body (args.map some ++ List.replicate (nl - np) none) S with
  | .nx _ S' => .ok (.d .non) S'
  | .rt v S' => .ok v S'
  | .ex x _ S' => .ex x S'
  | _ => .bad) else .bad
theorem start_rep : ∀ {args : List Val} {vs : List V}, RepVs K A H ρ args vs → ∀ n, RL K A H ρ (args.map some ++ List.replicate n none) (vs.map some ++ List.replicate n none) := fun {args vs} h n => by
  refine ⟨by simp [h.len], fun i w e => ?_⟩
  by_cases hi : i < args.length
  · rw [List.getElem?_append_left (by simpa using hi), List.getElem?_map] at e
    cases e1 : args[i]? with
    | none => rw [e1] at e; cases e
    | some u =>
      rw [e1] at e
      cases e
      obtain ⟨v, e2, p⟩ := h.get e1
      exact ⟨v, by rw [List.getElem?_append_left (by rw [List.length_map, h.len]; exact hi), List.getElem?_map, e2]; rfl, p⟩
  · rw [List.getElem?_append_right (by simpa using Nat.le_of_not_lt hi), List.getElem?_replicate] at e
    split at e <;> cases e
theorem okN {P : Program} {w : World} {mg : Str → Option Value} {base : Heap} {x qual : Str} {f : Addr} {fd : FuncData} {N ps : List Str} {k : Nat} {sp : Sp} (Fu : Fun G.K x qual st f fd) (Sc : FnScope N ps (defScope st)) (hl : ∀ us H Q E, sp us H Q E → us.length = ps.length)
    (hb : ∀ (cd : Value) (B : Around) (out : List Env) (s : Shared) (H : Hp) (us : List V) (Q : VK) (E : XK), Room k (B.deeper (PyProof.Rows.envOfC qual (defScope st) s.heap.objs.size f cd)) → sp us H Q E →
      ∃ t, PSs (cxOf (L2N.CX P w) P w G.K mg base N qual (defScope st) f cd B out s H E) (defBody st) t ∧ t { nx := fun _ H' => Q .non H', rt := Q } (L2.start N us) H) : FnOk P w G.K mg base (L2N.CX P w) (k + 1) f fd ps sp := by
  obtain ⟨_, _, _, _, _, _, cd, _, _, e, lk, hc⟩ := Fu.ex
  subst e
  exact fn_of lk hc Sc hl fun B out s H us Q E => hb cd B out s H us Q E
theorem fn_ {P : Program} {w : World} {mg : Str → Option Value} {base : Heap} {x qual : Str} {f : Addr} {fd : FuncData} {N ps : List Str} {k np nl : Nat} {body : SS} (Fu : Fun G.K x qual st f fd) (Sc : FnScope N ps (defScope st)) (hp : ps.length = np) (hn : N.length = nl)
    (hb : ∀ (cdv : Value) (A : Around) (outer : List Env) (s : Shared) (H : Hp) (E : XK), Room k (A.deeper (PyProof.Rows.envOfC qual (defScope st) s.heap.objs.size f cdv)) →
      PSs (cxOf (L2N.CX P w) P w G.K mg base N qual (defScope st) f cdv A outer s H E) (defBody st) (tS G (fun cls d _ H => E cls d H) body)) :
    FnOk P w G.K mg base (L2N.CX P w) (k + 1) f fd ps (spF G np (runFn np nl body)) := by
  refine okN Fu Sc (fun vs H Q E h => (spF_len vs H Q E h).trans hp.symm) fun cdv A outer s H vs Q E hr h => ⟨_, hb cdv A outer s H E hr, ?_⟩
  obtain ⟨F, A, ρ, args, S, ra, el, rs, q⟩ := h
  refine ⟨F, A, ρ, args.map some ++ List.replicate (nl - np) none, S, ?_, rs, ?_⟩
  · have := start_rep ra (nl - np)
    unfold L2.start
    rw [hn, ra.len, el]
    exact this
  · revert q
    unfold runFn
    simp only [el, if_true]
    cases body (args.map some ++ List.replicate (nl - np) none) S with
    | nx L S' => exact fun q A' ρ' H' σ' x r _ => q A' ρ' H' x r .non rfl
    | rt v S' => exact fun q A' ρ' H' w x r rw => q A' ρ' H' x r w rw
    | ex y L S' => exact fun q A' ρ' H' σ' cls d x r _ rx => q A' ρ' H' cls d x r rx
    | bk _ _ => exact fun q => q.elim
    | ct _ _ => exact fun q => q.elim
    | bad => exact fun q => q.elim
end Ev
set_option linter.all false
set_option Elab.async false
set_option maxRecDepth 100000
namespace Ev
open PySem L2 PySem.Spec
variable {F F1 A A1 A2 : Addr → Prop} {ρ ρ1 ρ2 : List Addr} {H H1 H2 : Hp} {K : PySem.W.Frag} {G : PC} {S S1 S2 : Store} {X : Cx} {W : WX}
variable {a b c e : Expr} {es : List Expr} {fa fb fc : SE} {as : SA} {pos : Pos} {st : Stmt}

/-! ### * -/
theorem mulOk_small {x : Str} {n : Int} (h1 : x.length ≤ 1000) (h2 : -1000 ≤ n) (h3 : n ≤ 1000) : MulOk x n := by
  refine ⟨?_, fun h _ => ?_, fun h _ => ?_⟩
  · rw [decide_eq_false (by omega), decide_eq_false (by omega)]; rfl
  · have : (1000 : Int) ≤ (2 ^ 63 - 1) / n := by
      rw [Int.le_ediv_iff_mul_le (by omega)]
      omega
    omega
  · have h4 : x.length * n.toNat ≤ 1000 * 1000 := Nat.mul_le_mul h1 (by omega)
    unfold PySem.Builtin.Str.tooLong
    simp only [decide_eq_false_iff_not]
    have := sizeLine_eq
    omega
instance {i j : Int} : Decidable (CMulW i j) := by unfold CMulW; infer_instance
def CMulA (i j : Int) : Prop := CMul i j ∨ CMulW i j
theorem op_mulA : OpR X (binaryOp .Mult) (rI CMulA fun i j => .int (i * j)) := by
  intro pins s σ H x y v u Q I rx ry h
  obtain ⟨i, j, e1, e2, c, q⟩ := h
  rcases c with c | c
  · exact op_mul pins s σ H x y v u Q I rx ry ⟨i, j, e1, e2, c, q⟩
  · exact op_mulW pins s σ H x y v u Q I rx ry ⟨i, j, e1, e2, c, q⟩
def mulD : D → D → Option D
  | .int i, .int j => if CMul i j then some (.int (i * j)) else if CMulW i j then some (.int (i * j)) else none
  | .str x, .int n => if x.length ≤ 1000 ∧ -1000 ≤ n ∧ n ≤ 1000 then some (.str (Txt.mul x n)) else none
  | _, _ => none
def rMulS : R2 := fun x y H Q => ∃ s n, x = .str s ∧ y = .int n ∧ MulOk s n ∧ Q (.str (Txt.mul s n)) H
theorem op_mulS : OpR X (binaryOp .Mult) rMulS := by
  intro pins s σ H x y v u Q I rx ry h
  obtain ⟨z, n, rfl, rfl, ok, q⟩ := h
  obtain ⟨t, rfl⟩ := rx
  obtain ⟨t', rfl⟩ := ry
  exact SB.mul ok fun t2 k => ⟨.str _, H, I.tok _, ⟨_, rfl⟩, q⟩
theorem snd_mul : Snd2 K (fun x y H Q => rI CMulA (fun i j => V.int (i * j)) x y H Q ∨ rMulS x y H Q) mulD := fun G F A ρ S H x y z v w Q eK rs h1 h2 ez q => by
  cases x with
  | int i => cases y with
    | int j =>
      by_cases c : CMul i j
      · simp only [mulD, if_pos c] at ez; cases ez
        exact .inl ⟨i, j, h1, h2, .inl c, q H _ Ext.refl rs rfl⟩
      · by_cases c2 : CMulW i j
        · simp only [mulD, if_neg c, if_pos c2] at ez; cases ez
          exact .inl ⟨i, j, h1, h2, .inr c2, q H _ Ext.refl rs rfl⟩
        · simp only [mulD, if_neg c, if_neg c2] at ez; cases ez
    | _ => simp [mulD] at ez
  | str s => cases y with
    | int n =>
      by_cases c : s.length ≤ 1000 ∧ -1000 ≤ n ∧ n ≤ 1000
      · simp only [mulD, if_pos c] at ez; cases ez
        exact .inr ⟨s, n, h1, h2, mulOk_small c.1 c.2.1 c.2.2, q H _ Ext.refl rs rfl⟩
      · simp only [mulD, if_neg c] at ez; cases ez
    | _ => simp [mulD] at ez
  | _ => simp [mulD] at ez
theorem mulG_ (ha : PE X a (tE G W fa)) (hb : PE X b (tE G W fb)) : PE X (.BinOp a .Mult b pos) (tE G W (eOp2 mulD fa fb)) := bin_ (OpR.or op_mulA op_mulS) snd_mul ha hb

/-! ### tables of the module -/
structure KD (K : PySem.W.Frag) (w : World) (d : Addr) (tbl : List (Str × D)) : Prop where
  ex : ∃ es n, KDict K w d es n ∧ Paired (fun (e : DictEntry) (kv : Str × D) => ∃ t v, e.key = .str kv.1 t ∧ RelV v e.val ∧ Always K kv.2 v) es.toList tbl
theorem kd_find {tbl : List (Str × D)} {K : PySem.W.Frag} : ∀ {es : List DictEntry} {tbl : List (Str × D)} (z : Str), Paired (fun (e : DictEntry) (kv : Str × D) => ∃ t v, e.key = .str kv.1 t ∧ RelV v e.val ∧ Always K kv.2 v) es tbl →
    (match tbl.lookup z with
      | some x => ∃ e v, es.find? (·.key.isStr z) = some e ∧ RelV v e.val ∧ Always K x v
      | none => es.find? (·.key.isStr z) = none) ∧ es.any (·.refKey) = false
  | _, _, z, .nil => ⟨rfl, rfl⟩
  | e :: es, (k, x) :: tbl, z, .cons ⟨t, v, h1, h2, h3⟩ h => by
    obtain ⟨ih, ih2⟩ := kd_find (tbl := tbl) z h
    have e1 : e.key.isStr z = (k == z) := by rw [h1]; rfl
    refine ⟨?_, ?_⟩
    · rw [List.lookup_cons]
      by_cases hk : z = k
      · subst hk
        simp only [beq_self_eq_true]
        exact ⟨e, v, by rw [List.find?_cons, e1, beq_self_eq_true], h2, h3⟩
      · have n1 : (z == k) = false := by simpa using hk
        have n2 : (k == z) = false := by simpa using fun q => hk q.symm
        simp only [n1]
        revert ih
        cases tbl.lookup z with
        | none => intro ih; show (e :: es).find? _ = none; rw [List.find?_cons, e1, n2]; exact ih
        | some y => intro ⟨e', v', i1, i2, i3⟩; exact ⟨e', v', by rw [List.find?_cons, e1, n2]; exact i1, i2, i3⟩
    · rw [List.any_cons, ih2, Bool.or_false]
      unfold DictEntry.refKey
      rw [h1]
theorem KD.ns {w : World} {d : Addr} {tbl : List (Str × D)} (h : KD K w d tbl) (z : Str) : match tbl.lookup z with
    | some x => ∃ u v, PySem.W.nsIn K d z = some (some u) ∧ RelV v u ∧ Always K x v
    | none => PySem.W.nsIn K d z = some none := by
  obtain ⟨es, n, kd, p⟩ := h.ex
  obtain ⟨f, g⟩ := kd_find (tbl := tbl) z p
  have e1 : PySem.W.nsIn K d z = (match es.toList.find? (·.key.isStr z) with
      | some e => some (some e.val)
      | none => if es.toList.any (·.refKey) then none else some none) := by
    unfold PySem.W.nsIn
    rw [kd.at_]
    rfl
  revert f
  cases tbl.lookup z with
  | none =>
    intro f
    have f : es.toList.find? (·.key.isStr z) = none := f
    show PySem.W.nsIn K d z = some none
    rw [e1]
    simp only [f]
    show (if es.toList.any (·.refKey) then none else some none) = some none
    rw [g]
    rfl
  | some x =>
    intro ⟨e, v, i1, i2, i3⟩
    refine ⟨e.val, v, ?_, i2, i3⟩
    rw [e1]
    simp only [i1]
def kInD (neg : Bool) (tbl : List (Str × D)) : D → Option D
  | .str z => some (.bl (if neg then !(tbl.lookup z).isSome else (tbl.lookup z).isSome))
  | _ => none
def kGetD (tbl : List (Str × D)) : D → Option D
  | .str z => tbl.lookup z
  | _ => none
theorem kin_t {w : World} {d : Addr} {tbl : List (Str × D)} {neg : Bool} (h : KD G.K w d tbl) : ∀ σ H Q, tE G W (eOp1 (kInD neg tbl) fa) σ H Q →
    tOp (fun x y H Q => ∃ (z : Str) (r : Option Value), x = .str z ∧ y = .ref d ∧ PySem.W.nsIn G.K d z = some r ∧ Q (.bl (if neg then !r.isSome else r.isSome)) H) (tE G W fa) (tC (.ref d)) σ H Q := fun σ H Q q => by
  refine tUn_of (r := fun x H Q => ∃ (z : Str) (r : Option Value), x = .str z ∧ V.ref d = .ref d ∧ PySem.W.nsIn G.K d z = some r ∧ Q (.bl (if neg then !r.isSome else r.isSome)) H) ?_ σ H Q q
  intro G' F A ρ S H x z v Q eK rs hx ez q
  cases x with
  | str s =>
    cases ez
    have n := h.ns s
    revert n q
    cases tbl.lookup s with
    | none => intro q n; exact ⟨s, none, hx, rfl, n, q H _ Ext.refl rs rfl⟩
    | some y => intro q ⟨u, v, n, _⟩; exact ⟨s, some u, hx, rfl, n, q H _ Ext.refl rs rfl⟩
  | _ => cases ez
theorem kin_ {w : World} {d : Addr} {tbl : List (Str × D)} {x : Str} {p : Pos} (hK : X.K = G.K) (hw : X.w = w) (h : KD G.K w d tbl) (hg : Gl X x) (hm : X.mg x = some (.ref d)) (ha : PE X a (tE G W fa)) (hb : behindInMarks .In (.Name x p) = false) (hd : (x == ("__debug__" : Str)) = false := by decide) :
    PE X (.Compare a [.In] [.Name x p] pos) (tE G W (eOp1 (kInD false tbl) fa)) := by
  obtain ⟨es, n, kd, _⟩ := h.ex
  subst hw
  rw [← hK] at kd
  refine PE.imp (pe_cmpR (op_in_kd kd) ha (pe_glob (v := .ref d) hg hm rfl hd) hb) ?_
  rw [hK]
  exact kin_t (neg := false) h
theorem knotin_ {w : World} {d : Addr} {tbl : List (Str × D)} {x : Str} {p : Pos} (hK : X.K = G.K) (hw : X.w = w) (h : KD G.K w d tbl) (hg : Gl X x) (hm : X.mg x = some (.ref d)) (ha : PE X a (tE G W fa)) (hb : behindInMarks .NotIn (.Name x p) = false) (hd : (x == ("__debug__" : Str)) = false := by decide) :
    PE X (.Compare a [.NotIn] [.Name x p] pos) (tE G W (eOp1 (kInD true tbl) fa)) := by
  obtain ⟨es, n, kd, _⟩ := h.ex
  subst hw
  rw [← hK] at kd
  refine PE.imp (pe_cmpR (op_notIn_kd kd) ha (pe_glob (v := .ref d) hg hm rfl hd) hb) ?_
  rw [hK]
  exact kin_t (neg := true) h
theorem tkin_ {w : World} {d : Addr} {tbl : List (Str × D)} {x : Str} {p : Pos} (hK : X.K = G.K) (hw : X.w = w) (h : KD G.K w d tbl) (hg : Gl X x) (hm : X.mg x = some (.ref d)) (ha : PE X a (tE G W fa)) (hb : behindInMarks .In (.Name x p) = false) (hd : (x == ("__debug__" : Str)) = false := by decide) :
    PT X (.Compare a [.In] [.Name x p] pos) (tB' G W (bE (eOp1 (kInD false tbl) fa))) := by
  obtain ⟨es, n, kd, _⟩ := h.ex
  subst hw
  rw [← hK] at kd
  refine PT.imp (pt_cmpR (op_in_kd kd) ha (pe_glob (v := .ref d) hg hm rfl hd) hb) fun σ H Q q => ?_
  rw [hK]
  exact kin_t (neg := false) h σ H _ (bE_t σ H Q q)
theorem tknotin_ {w : World} {d : Addr} {tbl : List (Str × D)} {x : Str} {p : Pos} (hK : X.K = G.K) (hw : X.w = w) (h : KD G.K w d tbl) (hg : Gl X x) (hm : X.mg x = some (.ref d)) (ha : PE X a (tE G W fa)) (hb : behindInMarks .NotIn (.Name x p) = false) (hd : (x == ("__debug__" : Str)) = false := by decide) :
    PT X (.Compare a [.NotIn] [.Name x p] pos) (tB' G W (bE (eOp1 (kInD true tbl) fa))) := by
  obtain ⟨es, n, kd, _⟩ := h.ex
  subst hw
  rw [← hK] at kd
  refine PT.imp (pt_cmpR (op_notIn_kd kd) ha (pe_glob (v := .ref d) hg hm rfl hd) hb) fun σ H Q q => ?_
  rw [hK]
  exact kin_t (neg := true) h σ H _ (bE_t σ H Q q)
theorem kget_ {w : World} {d : Addr} {tbl : List (Str × D)} {x : Str} {p : Pos} (hK : X.K = G.K) (hw : X.w = w) (h : KD G.K w d tbl) (hg : Gl X x) (hm : X.mg x = some (.ref d)) (hb : PE X b (tE G W fb)) (hp : PlainIx b) (hd : (x == ("__debug__" : Str)) = false := by decide) :
    PE X (.Subscript (.Name x p) b pos) (tE G W (eOp1 (kGetD tbl) fb)) := by
  refine PE.imp (pe_ix ix_kdict (pe_glob (v := .ref d) hg hm rfl hd) hb hp) fun σ H Q q => ?_
  refine tUn_of (r := fun y H Q => rIxD X.K X.w (.ref d) y H Q) ?_ σ H Q q
  intro G' F A ρ S H x z v Q eK rs hx ez q
  cases x with
  | str s =>
    have n := h.ns s
    have ez : tbl.lookup s = some z := ez
    rw [ez] at n
    obtain ⟨u, v', n1, n2, n3⟩ := n
    obtain ⟨es, k, kd, _⟩ := h.ex
    subst hw
    rw [← hK] at kd n1
    refine ⟨d, s, v', rfl, hx, ⟨es, k, u, kd.at_, kd.lit, n1, n2⟩, q H _ Ext.refl rs ?_⟩
    exact n3 A H
  | _ => cases ez
/-- a written tuple of texts and ints -/
theorem always_tup {a : Addr} {o : Obj} {its : Array Value} {n : Nat} {ds : List D} {vs : List V} (h : K.lookup a = some o) (hc : o.cls = .type "tuple") (hd : o.data = .seq its n) (hz : its.size ≤ sizeLine) (hv : Vals vs its.toList) (hr : ∀ A H, RepDs K A H ds vs) : Always K (.tup ds) (.ref a) :=
  fun A H => ⟨a, vs, rfl, .inr ⟨o, its, n, h, hc, hd, hz, hv⟩, hr A H⟩
theorem txts_always (xs : List Str) : ∀ A H, RepDs K A H (xs.map D.str) (xs.map V.str) := fun A H => txts_reps xs
end Ev
set_option linter.all false
set_option Elab.async false
set_option maxRecDepth 100000
namespace Ev
open PySem L2 PySem.Spec
variable {F F1 A A1 A2 : Addr → Prop} {ρ ρ1 ρ2 : List Addr} {H H1 H2 : Hp} {K : PySem.W.Frag} {G : PC} {S S1 S2 : Store} {X : Cx} {W : WX}
variable {a b c e : Expr} {es : List Expr} {fa fb fc : SE} {as : SA} {pos : Pos} {st : Stmt}
theorem gs_ {x z : Str} {p : Pos} (hg : Gl X x) (hm : ∃ t, X.mg x = some (.str z t)) (hd : (x == ("__debug__" : Str)) = false := by decide) : PE X (.Name x p) (tE G W (eC (.str z))) := by
  obtain ⟨t, hm⟩ := hm
  exact g_ (v := .str z) hg hm ⟨t, rfl⟩ (fun _ _ => rfl) hd
theorem gi_ {x : Str} {i : Int} {p : Pos} (hg : Gl X x) (hm : ∃ t, X.mg x = some (.int i t)) (hd : (x == ("__debug__" : Str)) = false := by decide) : PE X (.Name x p) (tE G W (eC (.int i))) := by
  obtain ⟨t, hm⟩ := hm
  exact g_ (v := .int i) hg hm ⟨t, rfl⟩ (fun _ _ => rfl) hd
theorem gtup_ {x : Str} {d : D} {a : Addr} {p : Pos} (hg : Gl X x) (hm : X.mg x = some (.ref a)) (al : Always G.K d (.ref a)) (hd : (x == ("__debug__" : Str)) = false := by decide) : PE X (.Name x p) (tE G W (eC d)) :=
  g_ (v := .ref a) hg hm rfl al hd
def negD : D → Option D
  | .int i => some (.int (-i))
  | _ => none
theorem snd_neg : Snd1 K (rU fun i => .int (-i)) negD := fun G F A ρ S H x z v Q eK rs h ez q => by
  cases x with
  | int i => cases ez; exact ⟨i, h, q H _ Ext.refl rs rfl⟩
  | _ => cases ez
theorem neg_ (ha : PE X a (tE G W fa)) : PE X (.UnaryOp .USub a pos) (tE G W (eOp1 negD fa)) := un_ un_neg snd_neg ha
theorem tsN_ : PTs X [] (tB' G W bYes) := ⟨fun pins s σ H Q I ⟨F, A, ρ, L, S, l, r, q⟩ => pts_nil.run pins s σ H Q I (q A ρ H Ext.refl r)⟩
theorem ts1_ {f : SB} (h : PT X c (tB' G W f)) : PTs X [c] (tB' G W f) := pts_one h
theorem bt_int : bootBuiltins "int" = some (.type "int") := by decide +kernel
theorem bt_str : bootBuiltins "str" = some (.type "str") := by decide +kernel
theorem bt_bool : bootBuiltins "bool" = some (.type "bool") := by decide +kernel
theorem bt_list : bootBuiltins "list" = some (.type "list") := by decide +kernel
theorem bt_tuple : bootBuiltins "tuple" = some (.type "tuple") := by decide +kernel
theorem bt_dict : bootBuiltins "dict" = some (.type "dict") := by decide +kernel
theorem bt_len : bootBuiltins "len" = some (.builtin "len") := by decide +kernel
theorem bt_isinstance : bootBuiltins "isinstance" = some (.builtin "isinstance") := by decide +kernel
theorem bt_all : bootBuiltins "all" = some (.builtin "all") := by decide +kernel
theorem bt_any : bootBuiltins "any" = some (.builtin "any") := by decide +kernel
theorem bt_abs : bootBuiltins "abs" = some (.builtin "abs") := by decide +kernel
theorem bt_max : bootBuiltins "max" = some (.builtin "max") := by decide +kernel
theorem bt_min : bootBuiltins "min" = some (.builtin "min") := by decide +kernel
theorem bt_sum : bootBuiltins "sum" = some (.builtin "sum") := by decide +kernel
theorem bt_sorted : bootBuiltins "sorted" = some (.builtin "sorted") := by decide +kernel
/-- what is known of a def of the program: its number's address, its data -/
structure FnAt (K : PySem.W.Frag) (mg : Str → Option Value) (x qual : Str) (st : Stmt) (ps : List Str) (f : Addr) (fd : FuncData) : Prop where
  fn : Fun K x qual st f fd
  mg : mg x = some (.ref f)
  bi : Binds K fd ps []
theorem FnAt.kp {mg : Str → Option Value} {x qual : Str} {ps : List Str} {f : Addr} {fd : FuncData} (h : FnAt K mg x qual st ps f fd) : PySem.W.keepIn K (.ref f) = true := h.fn.kp
end Ev
set_option linter.all false
set_option Elab.async false
set_option maxRecDepth 100000
namespace Ev
open PySem L2 PySem.Spec
variable {F F1 A A1 A2 : Addr → Prop} {ρ ρ1 ρ2 : List Addr} {H H1 H2 : Hp} {K : PySem.W.Frag} {G : PC} {S S1 S2 : Store} {X : Cx} {W : WX}
variable {a b c e o : Expr} {es : List Expr} {fa fb fc : SE} {as : SA} {pos : Pos} {st : Stmt}

/-! ### own objects: their fields -/
/-- what the text says of an own class -/
structure ClsAt (G : PC) (c : Nat) : Prop where
  cl : Cls G.K (G.cls c)
  nd : (G.fld c).Nodup
  na : ∀ f ∈ G.fld c, NoAttr G.K (G.cls c) f
  sz : (G.fld c).length ≤ 900
theorem lookup_zip : ∀ {ns : List Str} {vs : List V} {j : Nat} {f : Str} {u : V}, ns.Nodup → ns[j]? = some f → vs[j]? = some u → (ns.zip vs).lookup f = some u
  | [], vs, j, f, u, _, h, _ => by simp at h
  | n :: ns, [], j, f, u, _, _, h => by simp at h
  | n :: ns, v :: vs, 0, f, u, nd, h, g => by
    simp at h g; subst h; subst g
    simp [List.lookup]
  | n :: ns, v :: vs, j + 1, f, u, nd, h, g => by
    have h' : ns[j]? = some f := by simpa using h
    have g' : vs[j]? = some u := by simpa using g
    have hn : f ≠ n := fun z => (List.nodup_cons.mp nd).1 (z ▸ List.mem_of_getElem? h')
    have e : (f == n) = false := by simpa using hn
    rw [List.zip_cons_cons, List.lookup_cons]
    simp only [e]
    exact lookup_zip (List.nodup_cons.mp nd).2 h' g'
theorem lookup_zip_none : ∀ {ns : List Str} {vs : List V} {f : Str}, f ∉ ns → (ns.zip vs).lookup f = none
  | [], vs, f, _ => by simp [List.lookup]
  | n :: ns, [], f, _ => by simp [List.lookup]
  | n :: ns, v :: vs, f, h => by
    have e : (f == n) = false := by simpa using fun (z : f = n) => h (z ▸ List.mem_cons_self)
    rw [List.zip_cons_cons, List.lookup_cons]
    simp only [e]
    exact lookup_zip_none fun z => h (List.mem_cons_of_mem _ z)
theorem putF_old : ∀ {ns : List Str} {vs : List V} {j : Nat} {f : Str} {u : V}, ns.Nodup → ns[j]? = some f → j < vs.length → putF f u (ns.zip vs) = ns.zip (vs.set j u)
  | [], vs, j, f, u, _, h, _ => by simp at h
  | n :: ns, [], j, f, u, _, _, h => by simp at h
  | n :: ns, v :: vs, 0, f, u, nd, h, g => by
    simp at h; subst h
    simp [putF]
  | n :: ns, v :: vs, j + 1, f, u, nd, h, g => by
    have h' : ns[j]? = some f := by simpa using h
    have hn : n ≠ f := fun z => (List.nodup_cons.mp nd).1 (z ▸ List.mem_of_getElem? h')
    rw [List.zip_cons_cons, putF, if_neg hn, putF_old (List.nodup_cons.mp nd).2 h' (by simpa using g)]
    rfl
theorem putF_new : ∀ {ns : List Str} {vs : List V} {f : Str} {u : V}, ns.Nodup → ns[vs.length]? = some f → putF f u ((ns.take vs.length).zip vs) = (ns.take (vs.length + 1)).zip (vs ++ [u])
  | [], vs, f, u, _, h => by simp at h
  | n :: ns, [], f, u, nd, h => by
    simp at h; subst h
    simp [putF]
  | n :: ns, v :: vs, f, u, nd, h => by
    have h' : ns[vs.length]? = some f := by simpa using h
    have hn : n ≠ f := fun z => (List.nodup_cons.mp nd).1 (z ▸ List.mem_of_getElem? h')
    have ih := putF_new (vs := vs) (u := u) (List.nodup_cons.mp nd).2 h'
    rw [List.length_cons, List.take_succ_cons, List.zip_cons_cons, putF, if_neg hn, ih]
    rfl
def fldC (c j : Nat) (o : Option Cell) : Option Val := match o with
  | some (.obj c' fs) => if c' = c then fs[j]? else none
  | _ => none
def eFld (c j : Nat) (a : SE) : SE := fun L S => (a L S).bind fun v S1 => match v with
  | .ref n => (match fldC c j S1[n]? with
    | some w => .ok w S1
    | none => .bad)
  | _ => .bad
theorem fldC_some {c j : Nat} {o : Option Cell} {w : Val} (h : fldC c j o = some w) : ∃ fs, o = some (.obj c fs) ∧ fs[j]? = some w := by
  unfold fldC at h
  split at h
  · rename_i c' fs
    split at h
    · rename_i e; subst e; exact ⟨fs, rfl, h⟩
    · cases h
  · cases h
/-- an own object, as it lies -/
theorem RS.obj (r : RS G F A ρ S H) {n c : Nat} {fs : List Val} {w : V} (e : S[n]? = some (.obj c fs)) (h : RepV G.K A H ρ (.ref n) w) :
    ∃ a dx vs, w = .ref a ∧ ρ[n]? = some a ∧ H a = some (.ins (G.cls c) dx (((G.fld c).take fs.length).zip vs)) ∧ fs.length ≤ (G.fld c).length ∧ RepVs G.K A H ρ fs vs := by
  obtain ⟨a, e1, rfl⟩ := h
  obtain ⟨a', e3, dx, vs, h1, h2, h3⟩ := r.cells n _ e
  rw [e1] at e3; cases e3
  exact ⟨a, dx, vs, rfl, e1, h1, h2, h3⟩
theorem fld_ {f : Str} {c j : Nat} (hK : X.K = G.K) (hc : ClsAt G c) (hj : (G.fld c)[j]? = some f) (h : PE X e (tFld X.K (tE G W fa) f)) : PE X e (tE G W (eFld c j fa)) := PE.imp h fun σ H Q ⟨F, A, ρ, L, S, l, r0, q⟩ => by
  refine ⟨F, A, ρ, L, S, l, r0, EvOk.bind q fun v S1 A1 ρ1 H1 x1 r1 q1 w rw1 => ?_⟩
  rw [hK]
  cases v with
  | ref n =>
    simp only at q1
    split at q1
    · rename_i u eu
      obtain ⟨fs, e1, e2⟩ := fldC_some eu
      obtain ⟨a, dx, vs, rfl, ea, h1, h2, h3⟩ := r1.obj e1 rw1
      obtain ⟨y, e3, p⟩ := h3.get e2
      have hl : j < fs.length := (List.getElem?_eq_some_iff.mp e2).1
      exact ⟨a, _, dx, _, y, rfl, h1, hc.cl, hc.na f (List.mem_of_getElem? hj), lookup_zip (hc.nd.sublist (List.take_sublist _ _)) (by rw [List.getElem?_take_of_lt hl]; exact hj) e3, q1 A1 ρ1 H1 Ext.refl r1 y p⟩
    · exact q1.elim
  | d _ => exact q1.elim
  | vt _ => exact q1.elim
  | exc _ _ _ _ => exact q1.elim
def setC (c j : Nat) (w : Val) (o : Option Cell) : Option Cell := match o with
  | some (.obj c' fs) => if c' = c then (if j < fs.length then some (.obj c (fs.set j w)) else if j = fs.length then some (.obj c (fs ++ [w])) else none) else none
  | _ => none
def sSetF (c j : Nat) (o e : SE) : SS := fun L S => (e L S).to L fun w S1 => (o L S1).to L fun v S2 => match v with
  | .ref n => (match setC c j w S2[n]? with
    | some c' => .nx L (S2.set n c')
    | none => .bad)
  | _ => .bad
theorem setF_ {f : Str} {c j : Nat} (hK : X.K = G.K) (hc : ClsAt G c) (hj : (G.fld c)[j]? = some f) (h : PS X st (sFld X.K (tE G W fa) (tE G W fb) f)) : PS X st (tS G W (sSetF c j fa fb)) := PS.imp h fun D σ H ⟨F, A, ρ, L, S, l, r0, q⟩ => by
  refine ⟨F, A, ρ, L, S, l, r0, st_ok r0 l q fun w S1 A1 ρ1 H1 x1 r1 q1 y rw1 => ?_⟩
  refine ⟨F, A1, ρ1, L, S1, l.mv x1 r0, r1, st_ok r1 (l.mv x1 r0) q1 fun v S2 A2 ρ2 H2 x2 r2 q2 z rw2 => ?_⟩
  rw [hK]
  have l2 := (l.mv x1 r0).mv x2 r1
  have rw1' := rw1.mv x2 r1
  cases v with
  | ref n =>
    simp only at q2
    split at q2
    · rename_i c' ec
      unfold setC at ec
      split at ec
      · rename_i c0 fs e1
        split at ec
        · rename_i ecc
          subst ecc
          obtain ⟨a, dx, vs, rfl, ea, h1, h2, h3⟩ := r2.obj e1 rw2
          have hvl := h3.len
          have na := hc.na f (List.mem_of_getElem? hj)
          have ndt : ((G.fld c0).take fs.length).Nodup := hc.nd.sublist (List.take_sublist _ _)
          have hlen : (((G.fld c0).take fs.length).zip vs).length < 1000 := by
            rw [List.length_zip, List.length_take]
            have := hc.sz
            omega
          refine ⟨a, _, dx, _, rfl, h1, hc.cl, na, hlen, ?_⟩
          split at ec
          · rename_i hl
            cases ec
            rw [putF_old ndt (by rw [List.getElem?_take_of_lt hl]; exact hj) (by omega)]
            obtain ⟨x3, r3⟩ := r2.write (o := .ins (G.cls c0) dx (((G.fld c0).take fs.length).zip (vs.set j y))) (c := .obj c0 (fs.set j w)) ea True.intro e1 (fun _ z => nomatch z) (fun _ z => nomatch z) fun x => ⟨dx, vs.set j y, by rw [List.length_set]; exact upd_same, by rw [List.length_set]; exact h2, (RepVs.setv j h3 rw1').mv x r2⟩
            exact q2 A2 ρ2 _ σ x3 r3 (l2.mv x3 r2)
          · rename_i hl
            split at ec
            · rename_i hl'
              subst hl'
              cases ec
              have hj' : fs.length < (G.fld c0).length := (List.getElem?_eq_some_iff.mp hj).1
              have e5 := putF_new (ns := G.fld c0) (vs := vs) (f := f) (u := y) hc.nd (by rw [hvl]; exact hj)
              rw [hvl] at e5
              rw [e5]
              obtain ⟨x3, r3⟩ := r2.write (o := .ins (G.cls c0) dx (((G.fld c0).take (fs.length + 1)).zip (vs ++ [y]))) (c := .obj c0 (fs ++ [w])) ea True.intro e1 (fun _ z => nomatch z) (fun _ z => nomatch z) fun x => ⟨dx, vs ++ [y], by rw [List.length_append]; exact upd_same, by rw [List.length_append, List.length_singleton]; omega, (RepVs.app (es := [w]) (us := [y]) h3 ⟨y, [], rfl, rw1', rfl⟩).mv x r2⟩
              exact q2 A2 ρ2 _ σ x3 r3 (l2.mv x3 r2)
            · cases ec
        · cases ec
      · cases ec
    · exact q2.elim
  | d _ => exact q2.elim
  | vt _ => exact q2.elim
  | exc _ _ _ _ => exact q2.elim

/-! ### methods, new objects -/
def isOb (c : Nat) (v : Val) (S : Store) : Bool := match v with
  | .ref n => (match S[n]? with
    | some (.obj c' _) => decide (c' = c)
    | _ => false)
  | _ => false
theorem isOb_some {c : Nat} {v : Val} (h : isOb c v S = true) : ∃ n fs, v = .ref n ∧ S[n]? = some (.obj c fs) := by
  unfold isOb at h
  split at h
  · rename_i n
    split at h
    · rename_i c' fs e
      have e' := of_decide_eq_true h
      subst e'
      exact ⟨n, fs, rfl, e⟩
    · cases h
  · cases h
def eMeth (c : Nat) (g : Fn) (n : Nat) (o : SE) (as : SA) : SE := fun L S => (o L S).bind fun v S1 => if isOb c v S1 = true then (as L S1).bind fun vs S2 => if vs.length = n then g (v :: vs) S2 else .bad else .bad
/-- o.m(..), what is raised wished for at the slots -/
def tMethW (C : Addr) (m : Str) (sp : Sp) (E : St → XK) (ta : TE) (t : TA) : TE := fun σ H Q => ta σ H fun x H1 => ∃ a dx fs, x = .ref a ∧ H1 a = some (.ins C dx fs) ∧ fs.lookup m = none ∧ t σ H1 fun vs H2 => sp (x :: vs) H2 Q (E σ)
section
variable {CX : CXT} {k : Nat} {f C : Addr} {fd : FuncData} {ps : List Str} {sp : Sp} {E : St → XK} {m : Str} {apos : Pos} {ta : TE} {t : TA}
theorem pe_methW {pl : Sem Bool} (he : PE X o ta) (c : Cls X.K C) (hm : Meth X.K C m f) (Fk : FnOk X.prog X.w X.K X.mg X.base CX k f fd ps sp) (hr : Room k X.A) (hb : Binds X.K fd ps []) (hx : ∀ σ, PassesAt CX X σ (E σ)) (ha : PA X (e :: es) t)
    (h1 : starEach (e :: es) X.env = (false, eval e X.env) :: starEach es X.env := by rfl) (h2 : (backTo pos (starEach es X.env)).any (·.1) = false := by rfl)
    (ht : eval (.Call (.Attribute o m apos) (e :: es) [] pos) X.env = (do
      let ov ← eval o X.env
      standAt apos.atName
      let (f, first) ← holding [ov] (getMethod ov m pl)
      callWith pos f first (backTo pos (starEach (e :: es) X.env)) (backToKw pos (keywordEach [] X.env))) := by rfl) : PE X (.Call (.Attribute o m apos) (e :: es) [] pos) (tMethW C m sp E ta t) := by
  constructor
  intro pins s σ H Q I h
  refine PySem.W.methodCall_KW (pl := pl) (thn (he.run pins s σ H _ I h) fun u s1 hh => ?_) ht
  obtain ⟨x, H1, I1, rx, a, dx, fs, ex, ea, l, q⟩ := hh
  subst ex
  obtain rfl : u = Value.ref a := rx
  refine getmeth_ok I1 ea c hm l (PySem.W.callWith_K (first := [.ref a]) (h₀ := X.base) I.ok.mod.kin hm.kp (thn (ha.run pos pins s1 σ H1 _ I1 q) fun us s2 hh2 => ?_) h1 h2)
  obtain ⟨vs, H2, I2, r, q2⟩ := hh2
  exact ⟨I2.kIn, run_fnS (us := .ref a :: us) (vs := .ref a :: vs) Fk hr hb (hx σ) I2 (.cons rfl r) q2⟩
theorem pe_methW0 {pl : Sem Bool} (he : PE X o ta) (c : Cls X.K C) (hm : Meth X.K C m f) (Fk : FnOk X.prog X.w X.K X.mg X.base CX k f fd ps sp) (hr : Room k X.A) (hb : Binds X.K fd ps []) (hx : ∀ σ, PassesAt CX X σ (E σ))
    (ht : eval (.Call (.Attribute o m apos) [] [] pos) X.env = (do
      let ov ← eval o X.env
      standAt apos.atName
      let (f, first) ← holding [ov] (getMethod ov m pl)
      callWith pos f first (backTo pos (starEach [] X.env)) (backToKw pos (keywordEach [] X.env))) := by rfl) : PE X (.Call (.Attribute o m apos) [] [] pos) (tMethW C m sp E ta tNil) := by
  constructor
  intro pins s σ H Q I h
  refine PySem.W.methodCall_KW (pl := pl) (thn (he.run pins s σ H _ I h) fun u s1 hh => ?_) ht
  obtain ⟨x, H1, I1, rx, a, dx, fs, ex, ea, l, q⟩ := hh
  subst ex
  obtain rfl : u = Value.ref a := rx
  exact getmeth_ok I1 ea c hm l (PySem.W.callWith_K0 (first := [.ref a]) I1.kIn hm.kp (run_fnS (us := [.ref a]) (vs := [.ref a]) Fk hr hb (hx σ) I1 (.cons rfl .nil) q))
end
/-- a method of the text -/
structure MtAt (K : PySem.W.Frag) (C : Addr) (m qual : Str) (st : Stmt) (ps : List Str) (f : Addr) (fd : FuncData) : Prop where
  fn : Fun K m qual st f fd
  mt : Meth K C m f
  bi : Binds K fd ps []
theorem meth_ {n c : Nat} {g : Fn} {m : Str} (hc : ClsAt G c) (hm : m ∉ G.fld c) (h : PE X e (tMethW (G.cls c) m (spF G (n + 1) g) (WE W) (tE G W fa) (tA' G W as))) : PE X e (tE G W (eMeth c g n fa as)) := PE.imp h fun σ H Q ⟨F, A, ρ, L, S, l, r0, q⟩ => by
  refine ⟨F, A, ρ, L, S, l, r0, EvOk.bind q fun v S1 A1 ρ1 H1 x1 r1 q1 w rw1 => ?_⟩
  split at q1
  · rename_i ob
    obtain ⟨k, fs, rfl, e1⟩ := isOb_some ob
    obtain ⟨a, dx, vs, rfl, ea, h1, h2, h3⟩ := r1.obj e1 rw1
    refine ⟨a, dx, _, rfl, h1, lookup_zip_none fun z => hm (List.mem_of_mem_take z), F, A1, ρ1, L, S1, l.mv x1 r0, r1, EvOk.bind q1 fun us S2 A2 ρ2 H2 x2 r2 q2 ws rws => ?_⟩
    split at q2
    · rename_i hn
      exact ⟨F, A2, ρ2, .ref k :: us, S2, ⟨_, ws, rfl, rw1.mv x2 r1, rws⟩, by rw [List.length_cons, hn], r2, q2⟩
    · exact q2.elim
  · exact q1.elim
theorem meth0_ {c : Nat} {g : Fn} {m : Str} (hc : ClsAt G c) (hm : m ∉ G.fld c) (h : PE X e (tMethW (G.cls c) m (spF G 1 g) (WE W) (tE G W fa) tNil)) : PE X e (tE G W (eMeth c g 0 fa aN)) := PE.imp h fun σ H Q ⟨F, A, ρ, L, S, l, r0, q⟩ => by
  refine ⟨F, A, ρ, L, S, l, r0, EvOk.bind q fun v S1 A1 ρ1 H1 x1 r1 q1 w rw1 => ?_⟩
  split at q1
  · rename_i ob
    obtain ⟨k, fs, rfl, e1⟩ := isOb_some ob
    obtain ⟨a, dx, vs, rfl, ea, h1, h2, h3⟩ := r1.obj e1 rw1
    have q2 : EvOk G F (fun A' ρ' H' v => ∀ w, RepV G.K A' H' ρ' v w → Q w H') (fun cls d H' => W cls d σ H') A1 ρ1 H1 (g [.ref k] S1) := q1
    exact ⟨a, dx, _, rfl, h1, lookup_zip_none fun z => hm (List.mem_of_mem_take z), F, A1, ρ1, [.ref k], S1, ⟨_, [], rfl, rw1, rfl⟩, rfl, r1, q2⟩
  · exact q1.elim
/-- C(..): a new object in the same store, then its __init__ -/
def newR (N : Nat) (r : R Val) : R Val := match r with
  | .ok (.d .non) S' => .ok (.ref N) S'
  | _ => .bad
def eNew (c : Nat) (g : Fn) (n : Nat) (as : SA) : SE := fun L S => (as L S).bind fun vs S1 => if vs.length = n then newR S1.length (g (.ref S1.length :: vs) (S1 ++ [.obj c []])) else .bad
theorem RS.make (r : RS G F A ρ S H) {c : Nat} {x dx : Addr} (hx : H x = none) (hd : H dx = none) (ne : dx ≠ x) :
    Ext F A ρ H (fun a => A a ∨ a = x) (ρ ++ [x]) (upd (upd H dx (.own x)) x (.ins (G.cls c) dx [])) ∧ RS G F (fun a => A a ∨ a = x) (ρ ++ [x]) (S ++ [.obj c []]) (upd (upd H dx (.own x)) x (.ins (G.cls c) dx [])) := by
  obtain ⟨x1, r1⟩ := r.laid hd (.own x)
  have hx' : upd H dx (.own x) x = none := by rw [upd_ne (Ne.symm ne)]; exact hx
  obtain ⟨x2, r2⟩ := r1.push (o := .ins (G.cls c) dx []) (c := .obj c []) hx' True.intro (fun _ z => nomatch z) fun _ => ⟨dx, [], by rw [upd_same]; simp, Nat.zero_le _, rfl⟩
  exact ⟨x1.trans x2, r2⟩
theorem new_t {n c : Nat} {g : Fn} : ∀ σ H Q, tE G W (eNew c g n as) σ H Q → (tA' G W as) σ H fun vs H1 => ∀ x dx, H1 x = none → H1 dx = none → dx ≠ x →
    spF G (n + 1) g (.ref x :: vs) (upd (upd H1 dx (.own x)) x (.ins (G.cls c) dx [])) (fun v H2 => v = .non ∧ Q (.ref x) H2) E0 := fun σ H Q ⟨F, A, ρ, L, S, l, r0, q⟩ => by
  refine ⟨F, A, ρ, L, S, l, r0, EvOk.bind q fun vs S1 A1 ρ1 H1 x1 r1 q1 ws rws x dx hx hd ne => ?_⟩
  split at q1
  · rename_i hn
    obtain ⟨x2, r2⟩ := r1.make (c := c) hx hd ne
    have ex : (ρ1 ++ [x])[S1.length]? = some x := by
      rw [List.getElem?_append_right (by rw [r1.len]; exact Nat.le_refl _), r1.len, Nat.sub_self]
      rfl
    refine ⟨F, _, ρ1 ++ [x], .ref S1.length :: vs, S1 ++ [.obj c []], ⟨_, ws, rfl, ⟨x, ex, rfl⟩, rws.mv x2 r1⟩, by rw [List.length_cons, hn], r2, ?_⟩
    have q2 := EvOk.shift x2 q1
    revert q2
    cases g (.ref S1.length :: vs) (S1 ++ [.obj c []]) with
    | bad => exact fun q => q.elim
    | ex y S' => exact fun q => q.elim
    | ok v S' =>
      cases v with
      | ref _ => exact fun q => q.elim
      | vt _ => exact fun q => q.elim
      | exc _ _ _ _ => exact fun q => q.elim
      | d y =>
        cases y with
        | non =>
          intro q2 A' ρ' H' x3 r3 w rw
          refine ⟨rw, q2 A' ρ' H' x3 r3 (.ref x) ⟨x, ?_, rfl⟩⟩
          obtain ⟨t, e⟩ := x3.pre
          rw [← e, List.getElem?_append_left (List.getElem?_eq_some_iff.mp ex).1]
          exact ex
        | _ => exact fun q => q.elim
  · exact q1.elim
theorem new_ {n c : Nat} {g : Fn} (h : PE X e (tMake (G.cls c) (spF G (n + 1) g) [] E0 (tA' G W as))) : PE X e (tE G W (eNew c g n as)) := PE.imp h fun σ H Q q => by
  obtain ⟨F, A, ρ, L, S, l, r0, q⟩ := new_t σ H Q q
  exact ⟨F, A, ρ, L, S, l, r0, EvOk.mono (fun A' ρ' H' v k ws rws x dx h1 h2 h3 => by rw [List.append_nil]; exact k ws rws x dx h1 h2 h3) (fun _ _ _ z => z) q⟩
theorem new0_ {c : Nat} {g : Fn} (h : PE X e (tMake (G.cls c) (spF G 1 g) [] E0 tNil)) : PE X e (tE G W (eNew c g 0 aN)) := PE.imp h fun σ H Q q => by
  obtain ⟨F, A, ρ, L, S, l, r0, q⟩ := new_t σ H Q q
  exact q A ρ H Ext.refl r0 [] rfl

/-! ### own dicts -/
def keyD : D → Option Key
  | .int i => some (.inl i)
  | .str x => some (.inr x)
  | _ => none
def dLook (ks : List Key) (ds : List D) (k : Key) : Option D := ((ks.zip ds).find? fun kv => decide (kv.1 = k)).map (·.2)
def hasK (ks : List Key) (k : Key) : Bool := ks.any fun x => decide (x = k)
def setDs (ks : List Key) (ds : List D) (k : Key) (d : D) : List D := match ks, ds with
  | a :: ks, x :: ds => (if a = k then d else x) :: setDs ks ds k d
  | _, _ => []
def putC (ks : List Key) (ds : List D) (k : Key) (d : D) : Cell := if hasK ks k = true then .dic ks (setDs ks ds k d) else .dic (ks ++ [k]) (ds ++ [d])
theorem keyD_rep {x : D} {k : Key} {v : V} (e : keyD x = some k) (h : RepD K A H x v) : v = kV k := by
  cases x with
  | int i => cases e; exact h
  | str s => cases e; exact h
  | _ => cases e
theorem dLook_rep {ks : List Key} : ∀ {ds : List D} {vs : List V} {k : Key}, ks.length = ds.length → RepDs K A H ds vs →
    match dLook ks ds k with
    | some d => ∃ v, valV (ks.zip vs) k = some v ∧ RepD K A H d v
    | none => valV (ks.zip vs) k = none := by
  induction ks with
  | nil => intro ds vs k _ _; exact rfl
  | cons a ks ih =>
    intro ds vs k hl h
    cases ds with
    | nil => simp at hl
    | cons d ds =>
      obtain ⟨v, t, rfl, p, q⟩ := h
      have ih := ih (ds := ds) (vs := t) (k := k) (by simpa using hl) q
      unfold dLook valV at ih ⊢
      rw [List.zip_cons_cons, List.zip_cons_cons, List.find?_cons, List.find?_cons]
      by_cases hk : a = k
      · simp only [hk, decide_true]
        exact ⟨v, rfl, p⟩
      · simp only [hk, decide_false]
        exact ih
theorem setDs_rep : ∀ {ks : List Key} {ds : List D} {vs : List V} {k : Key} {d : D} {v : V}, ks.length = ds.length → RepDs K A H ds vs → RepD K A H d v →
    ∃ vs', (ks.zip vs).map (fun kv => if kv.1 = k then (kv.1, v) else kv) = ks.zip vs' ∧ (setDs ks ds k d).length = ds.length ∧ RepDs K A H (setDs ks ds k d) vs'
  | [], [], vs, k, d, v, _, _, _ => ⟨[], by simp, rfl, rfl⟩
  | [], _ :: _, _, _, _, _, h, _, _ => by simp at h
  | _ :: _, [], _, _, _, _, h, _, _ => by simp at h
  | a :: ks, x :: ds, vs, k, d, v, hl, h, g => by
    obtain ⟨u, t, rfl, p, q⟩ := h
    obtain ⟨vs', e1, e2, e3⟩ := setDs_rep (ks := ks) (ds := ds) (vs := t) (k := k) (by simpa using hl) q g
    unfold setDs
    by_cases hk : a = k
    · refine ⟨v :: vs', ?_, by rw [List.length_cons, e2, List.length_cons], v, vs', rfl, by rw [if_pos hk]; exact g, e3⟩
      rw [List.zip_cons_cons, List.map_cons, e1, List.zip_cons_cons, if_pos hk]
    · refine ⟨u :: vs', ?_, by rw [List.length_cons, e2, List.length_cons], u, vs', rfl, by rw [if_neg hk]; exact p, e3⟩
      rw [List.zip_cons_cons, List.map_cons, e1, List.zip_cons_cons, if_neg hk]
theorem any_zip {ks : List Key} : ∀ {vs : List V} {k : Key}, ks.length = vs.length → (ks.zip vs).any (fun kv => decide (kv.1 = k)) = hasK ks k := by
  induction ks with
  | nil => intro vs k _; rfl
  | cons a ks ih =>
    intro vs k hl
    cases vs with
    | nil => simp at hl
    | cons v vs =>
      have := ih (vs := vs) (k := k) (by simpa using hl)
      unfold hasK at this ⊢
      rw [List.zip_cons_cons, List.any_cons, List.any_cons, this]
def eDicO : SE := fun _ S => .ok (.ref S.length) (S ++ [.dic [] []])
theorem dicO_ (h : PE X e tDNewK) : PE X e (tE G W eDicO) := PE.imp h fun σ H Q ⟨F, A, ρ, L, S, l, r0, q⟩ p hp => by
  obtain ⟨x, r'⟩ := r0.push (c := .dic [] []) hp (o := .dK []) True.intro (fun _ z => nomatch z) fun x => ⟨[], by rw [upd_same]; rfl, rfl, rfl⟩
  refine q _ _ _ x r' (.ref p) ⟨p, ?_, rfl⟩
  rw [List.getElem?_append_right (by rw [r0.len]; exact Nat.le_refl _), r0.len, Nat.sub_self]
  rfl
def dicOf (o : Option Cell) : Option (List Key × List D) := match o with
  | some (.dic ks ds) => some (ks, ds)
  | some (.ldk ks ds) => some (ks, ds)
  | _ => none
def dicV (S : Store) (v : Val) : Option (List Key × List D) := match v with
  | .ref n => dicOf S[n]?
  | _ => none
theorem dicV_some {v : Val} {ks : List Key} {ds : List D} (h : dicV S v = some (ks, ds)) : ∃ n, v = .ref n ∧ (S[n]? = some (.dic ks ds) ∨ S[n]? = some (.ldk ks ds)) := by
  unfold dicV at h
  split at h
  · rename_i n
    unfold dicOf at h
    split at h
    · rename_i ks' ds' e; cases h; exact ⟨n, rfl, .inl e⟩
    · rename_i ks' ds' e; cases h; exact ⟨n, rfl, .inr e⟩
    · cases h
  · cases h
theorem RS.dicR (r : RS G F A ρ S H) {n : Nat} {ks : List Key} {ds : List D} {w : V} (e : S[n]? = some (.dic ks ds) ∨ S[n]? = some (.ldk ks ds)) (h : RepV G.K A H ρ (.ref n) w) :
    ∃ a vs, w = .ref a ∧ ρ[n]? = some a ∧ Rd H a (.dK (ks.zip vs)) ∧ ks.length = ds.length ∧ RepDs G.K A H ds vs := by
  obtain ⟨a, e1, rfl⟩ := h
  rcases e with e | e
  · obtain ⟨a', e3, vs, h1, h2, h3⟩ := r.cells n _ e
    rw [e1] at e3; cases e3
    exact ⟨a, vs, rfl, e1, .inl h1, h2, h3⟩
  · obtain ⟨a', e3, vs, h1, h2, h3⟩ := r.cells n _ e
    rw [e1] at e3; cases e3
    exact ⟨a, vs, rfl, e1, .inr h1, h2, h3⟩
/-- what may be written -/
def dicWOf (o : Option Cell) : Option (List Key × List D) := match o with
  | some (.dic ks ds) => some (ks, ds)
  | _ => none
def dicWV (S : Store) (v : Val) : Option (List Key × List D) := match v with
  | .ref n => dicWOf S[n]?
  | _ => none
theorem dicWV_some {v : Val} {ks : List Key} {ds : List D} (h : dicWV S v = some (ks, ds)) : ∃ n, v = .ref n ∧ S[n]? = some (.dic ks ds) := by
  unfold dicWV at h
  split at h
  · rename_i n
    unfold dicWOf at h
    split at h
    · rename_i ks' ds' e; cases h; exact ⟨n, rfl, e⟩
    · cases h
  · cases h
theorem RS.dic (r : RS G F A ρ S H) {n : Nat} {ks : List Key} {ds : List D} {w : V} (e : S[n]? = some (.dic ks ds)) (h : RepV G.K A H ρ (.ref n) w) :
    ∃ a vs, w = .ref a ∧ ρ[n]? = some a ∧ H a = some (.dK (ks.zip vs)) ∧ ks.length = ds.length ∧ RepDs G.K A H ds vs := by
  obtain ⟨a, e1, rfl⟩ := h
  obtain ⟨a', e3, vs, h1, h2, h3⟩ := r.cells n _ e
  rw [e1] at e3; cases e3
  exact ⟨a, vs, rfl, e1, h1, h2, h3⟩
def keyV (v : Val) : Option Key := match v with
  | .d x => keyD x
  | _ => none
theorem keyV_rep {v : Val} {k : Key} {w : V} (e : keyV v = some k) (h : RepV K A H ρ v w) : w = kV k := by
  cases v with
  | d x => exact keyD_rep e h
  | ref _ => cases e
  | vt _ => cases e
  | exc _ _ _ _ => cases e
def inDic (neg : Bool) (k : Option Key) (d : Option (List Key × List D)) (S : Store) : R Val := match k, d with
  | some k, some (ks, ds) => .ok (.d (.bl (if neg then !(dLook ks ds k).isSome else (dLook ks ds k).isSome))) S
  | _, _ => .bad
def eInDic (neg : Bool) (a b : SE) : SE := fun L S => (a L S).bind fun v S1 => (b L S1).bind fun w S2 => inDic neg (keyV v) (dicV S2 w) S2
theorem inDic_t {neg : Bool} : ∀ σ H Q, tE G W (eInDic neg fa fb) σ H Q → tE G W fa σ H fun y H1 => tE G W fb σ H1 fun x H2 => ∃ a o, x = .ref a ∧ DGet H2 a y o ∧ Q (.bl (if neg then !o.isSome else o.isSome)) H2 := fun σ H Q ⟨F, A, ρ, L, S, l, r0, q⟩ => by
  refine ⟨F, A, ρ, L, S, l, r0, EvOk.bind q fun v S1 A1 ρ1 H1 x1 r1 q1 y rw1 => ?_⟩
  refine ⟨F, A1, ρ1, L, S1, l.mv x1 r0, r1, EvOk.bind q1 fun v2 S2 A2 ρ2 H2 x2 r2 q2 w rw2 => ?_⟩
  unfold inDic at q2
  split at q2
  · rename_i k ks ds e1 e2
    obtain ⟨n, rfl, e3⟩ := dicV_some e2
    obtain ⟨a, vs, rfl, ea, h1, h2, h3⟩ := r2.dicR e3 rw2
    have hy := keyV_rep e1 rw1
    subst hy
    refine ⟨a, _, rfl, .inl ⟨_, _, h1, rfl, rfl⟩, ?_⟩
    have hd := dLook_rep (k := k) h2 h3
    have e : (valV (ks.zip vs) k).isSome = (dLook ks ds k).isSome := by
      revert hd
      cases dLook ks ds k with
      | none => intro hd; rw [show valV (ks.zip vs) k = none from hd]; rfl
      | some d => intro ⟨v, hv, _⟩; rw [hv]; rfl
    rw [e]
    exact q2 A2 ρ2 H2 Ext.refl r2 _ rfl
  · exact q2.elim
theorem din_ (hu : X.A.units + 1 < cLine) (ha : PE X a (tE G W fa)) (hb : PE X b (tE G W fb)) (hm : behindInMarks .In b = false) : PE X (.Compare a [.In] [b] pos) (tE G W (eInDic false fa fb)) := PE.imp (pe_cmp (pc_din hu ha hb) hm) fun σ H Q q => inDic_t σ H Q q
theorem dnotin_ (hu : X.A.units + 1 < cLine) (ha : PE X a (tE G W fa)) (hb : PE X b (tE G W fb)) (hm : behindInMarks .NotIn b = false) : PE X (.Compare a [.NotIn] [b] pos) (tE G W (eInDic true fa fb)) := PE.imp (pe_cmp (pc_dnotin hu ha hb) hm) fun σ H Q q => inDic_t σ H Q q
theorem tdin_ (hu : X.A.units + 1 < cLine) (ha : PE X a (tE G W fa)) (hb : PE X b (tE G W fb)) (hm : behindInMarks .In b = false) : PT X (.Compare a [.In] [b] pos) (tB' G W (bE (eInDic false fa fb))) := PT.imp (pt_cmp (pc_din hu ha hb) hm) fun σ H Q q => inDic_t σ H _ (bE_t σ H Q q)
theorem tdnotin_ (hu : X.A.units + 1 < cLine) (ha : PE X a (tE G W fa)) (hb : PE X b (tE G W fb)) (hm : behindInMarks .NotIn b = false) : PT X (.Compare a [.NotIn] [b] pos) (tB' G W (bE (eInDic true fa fb))) := PT.imp (pt_cmp (pc_dnotin hu ha hb) hm) fun σ H Q q => inDic_t σ H _ (bE_t σ H Q q)
def getDic (d : Option (List Key × List D)) (k : Option Key) (S : Store) : R Val := match d, k with
  | some (ks, ds), some k => R.of (dLook ks ds k) S
  | _, _ => .bad
def eGetDic (a b : SE) : SE := fun L S => (a L S).bind fun v S1 => (b L S1).bind fun w S2 => getDic (dicV S2 v) (keyV w) S2
theorem getdic_ (hu : X.A.units + 1 < cLine) (ha : PE X a (tE G W fa)) (hb : PE X b (tE G W fb)) (hs : NoSl b) : PE X (.Subscript a b pos) (tE G W (eGetDic fa fb)) := PE.imp (pe_dget hu ha hb hs) fun σ H Q ⟨F, A, ρ, L, S, l, r0, q⟩ => by
  refine ⟨F, A, ρ, L, S, l, r0, EvOk.bind q fun v S1 A1 ρ1 H1 x1 r1 q1 y rw1 => ?_⟩
  refine ⟨F, A1, ρ1, L, S1, l.mv x1 r0, r1, EvOk.bind q1 fun v2 S2 A2 ρ2 H2 x2 r2 q2 w rw2 => ?_⟩
  unfold getDic at q2
  split at q2
  · rename_i ks ds k e2 e1
    obtain ⟨n, rfl, e3⟩ := dicV_some e2
    obtain ⟨a, vs, rfl, ea, h1, h2, h3⟩ := r2.dicR e3 (rw1.mv x2 r1)
    have hy := keyV_rep e1 rw2
    subst hy
    obtain ⟨z, ez, q3⟩ := of_ok q2
    have hd := dLook_rep (k := k) h2 h3
    rw [ez] at hd
    obtain ⟨v, hv, p⟩ := hd
    exact ⟨a, v, rfl, hv ▸ .inl ⟨_, _, h1, rfl, rfl⟩, q3 A2 ρ2 H2 Ext.refl r2 v p⟩
  · exact q2.elim
def putDic (L : Loc) (v : Val) (d : Option (List Key × List D)) (k : Option Key) (w : Val) (S : Store) : SR := match v, d, k, w with
  | .ref n, some (ks, ds), some k, .d x => if ks.length < sizeLine then .nx L (S.set n (putC ks ds k x)) else .bad
  | _, _, _, _ => .bad
def sPutDic (o k e : SE) : SS := fun L S => (e L S).to L fun w S1 => (o L S1).to L fun v S2 => (k L S2).to L fun u S3 => putDic L v (dicWV S3 v) (keyV u) w S3
theorem putdic_ (h : PS X st (sDPut (tE G W fa) (tE G W fb) (tE G W fc))) : PS X st (tS G W (sPutDic fa fb fc)) := PS.imp h fun D σ H ⟨F, A, ρ, L, S, l, r0, q⟩ => by
  refine ⟨F, A, ρ, L, S, l, r0, st_ok r0 l q fun w S1 A1 ρ1 H1 x1 r1 q1 y rw1 => ?_⟩
  have l1 := l.mv x1 r0
  refine ⟨F, A1, ρ1, L, S1, l1, r1, st_ok r1 l1 q1 fun v S2 A2 ρ2 H2 x2 r2 q2 z rw2 => ?_⟩
  have l2 := l1.mv x2 r1
  refine ⟨F, A2, ρ2, L, S2, l2, r2, st_ok r2 l2 q2 fun u S3 A3 ρ3 H3 x3 r3 q3 t rw3 => ?_⟩
  have l3 := l2.mv x3 r2
  cases v with
  | d _ => exact q3.elim
  | vt _ => exact q3.elim
  | exc _ _ _ _ => exact q3.elim
  | ref n =>
    cases e2 : dicWV S3 (.ref n) with
    | none => rw [e2] at q3; exact q3.elim
    | some p =>
      obtain ⟨ks, ds⟩ := p
      rw [e2] at q3
      cases e1 : keyV u with
      | none => rw [e1] at q3; exact q3.elim
      | some k =>
        rw [e1] at q3
        cases w with
        | ref _ => exact q3.elim
        | vt _ => exact q3.elim
        | exc _ _ _ _ => exact q3.elim
        | d x =>
          obtain ⟨n', en, e3⟩ := dicWV_some e2
          cases en
          obtain ⟨a, vs, rfl, ea, h1, h2, h3⟩ := r3.dic e3 (rw2.mv x3 r2)
          have hy := keyV_rep e1 rw3
          subst hy
          have hvl := h3.len
          have px : RepD G.K A3 H3 x y := RepD.mv x3 r2 x y (RepD.mv x2 r1 x y rw1)
          have q4 : StOk G F W D A3 ρ3 H3 (if ks.length < sizeLine then .nx L (S3.set n (putC ks ds k x)) else .bad) := q3
          by_cases hz : ks.length < sizeLine
          · rw [if_pos hz] at q4
            have kl : (ks.zip vs).length < sizeLine := by rw [List.length_zip]; omega
            refine ⟨a, _, rfl, DPut.k h1 kl, ?_⟩
            unfold putK
            rw [any_zip (by omega)]
            unfold putC at q4
            by_cases hk : hasK ks k = true
            · rw [if_pos hk] at q4 ⊢
              obtain ⟨vs', g1, g2, g3⟩ := setDs_rep (k := k) h2 h3 px
              rw [g1]
              obtain ⟨x4, r4⟩ := r3.write (o := .dK (ks.zip vs')) (c := .dic ks (setDs ks ds k x)) ea True.intro e3 (fun _ z => nomatch z) (fun _ z => nomatch z) fun x => ⟨vs', upd_same, by rw [g2]; exact h2, RepDs.mv x r3 _ _ g3⟩
              exact q4 A3 ρ3 _ σ x4 r4 (l3.mv x4 r3)
            · rw [if_neg hk] at q4 ⊢
              have ez : ks.zip vs ++ [(k, y)] = (ks ++ [k]).zip (vs ++ [y]) := by rw [List.zip_append (by omega)]; rfl
              rw [ez]
              obtain ⟨x4, r4⟩ := r3.write (o := .dK ((ks ++ [k]).zip (vs ++ [y]))) (c := .dic (ks ++ [k]) (ds ++ [x])) ea True.intro e3 (fun _ z => nomatch z) (fun _ z => nomatch z) fun x' => ⟨vs ++ [y], upd_same, by simp [h2], RepDs.mv x' r3 _ _ (h3.app (es := [x]) (us := [y]) ⟨y, [], rfl, px, rfl⟩)⟩
              exact q4 A3 ρ3 _ σ x4 r4 (l3.mv x4 r3)
          · rw [if_neg hz] at q4; exact q4.elim

/-! ### for i in reversed(range(n)) -/
def rngR : Nat → List D
  | 0 => []
  | n + 1 => .int n :: rngR n
theorem rngR_get : ∀ {n i : Nat}, i < n → (rngR n)[i]? = some (.int ((n : Int) - 1 - i))
  | n + 1, 0, _ => by
    show some (D.int (n : Int)) = _
    congr 2; omega
  | n + 1, i + 1, h => by
    show (rngR n)[i]? = _
    rw [rngR_get (by omega)]
    congr 2; omega
theorem rngR_len : ∀ n, (rngR n).length = n
  | 0 => rfl
  | n + 1 => by show (rngR n).length + 1 = _; rw [rngR_len n]
theorem rngR_rep : ∀ n : Nat, ∃ vs, RepDs K A H (rngR n) vs ∧ vs.length = n ∧ ∀ i, i < n → vs[i]? = some (.int ((n : Int) - 1 - i))
  | 0 => ⟨[], rfl, rfl, fun i h => absurd h (by omega)⟩
  | n + 1 => by
    obtain ⟨vs, h1, h2, h3⟩ := rngR_rep n
    refine ⟨.int n :: vs, ⟨_, vs, rfl, rfl, h1⟩, by rw [List.length_cons, h2], fun i h => ?_⟩
    cases i with
    | zero => rw [List.getElem?_cons_zero]; congr 2; omega
    | succ i => rw [List.getElem?_cons_succ, h3 i (by omega)]; congr 2; omega
def revR (v : Val) (S : Store) : R (List D) := match v with
  | .d (.int j) => if -(2 ^ 62) ≤ j ∧ j < 2 ^ 62 then .ok (rngR j.toNat) S else .bad
  | _ => .bad
def iRv1 (e : SE) : SI := fun L S => (e L S).bind revR
theorem iRv1_ {tg : Expr} (h : PI X tg e (iRevR (tRg1 (tE G W fa)))) : PI X tg e (tI G W (iRv1 fa)) := PI.imp h fun σ H Q ⟨F, A, ρ, L, S, l, r, q⟩ => by
  refine ⟨F, A, ρ, L, S, l, r, EvOk.bind (k := revR) q fun v S1 A1 ρ1 H1 x1 r1 q1 w rw1 => ?_⟩
  unfold revR at q1
  split at q1
  · rename_i j
    split at q1
    · rename_i c
      rw [show w = _ from rw1]
      refine ⟨j, rfl, by decide, by decide, c.1, c.2, ?_⟩
      rw [Int.sub_zero]
      obtain ⟨vs, h1, h2, h3⟩ := rngR_rep (K := G.K) (A := A1) (H := H1) j.toNat
      refine q1 A1 ρ1 H1 Ext.refl r1 _ <| .inl ⟨vs, h1, fun A2 ρ2 H2 x => ⟨fun i hi => (show i < j.toNat by omega), fun i hi => (show j.toNat ≤ i by omega), fun i y H3 hi z => ⟨z.1, ?_⟩⟩⟩
      rw [z.2, h3 i (by omega)]
      congr 2; omega
    · exact q1.elim
  · exact q1.elim

/-! ### a op b op' c op'' d -/
def bThen (o : Option D) (k : R Val) (S : Store) : R Val := match o with
  | some (.bl true) => k
  | some (.bl false) => .ok (.d (.bl false)) S
  | _ => .bad
def opt2 (f : D → D → Option D) (x y : Option D) : Option D := match x, y with
  | some x, some y => f x y
  | _, _ => none
theorem opt2_some {f : D → D → Option D} {x y : Option D} {z : D} (h : opt2 f x y = some z) : ∃ x' y', x = some x' ∧ y = some y' ∧ f x' y' = some z := by
  unfold opt2 at h
  split at h
  · exact ⟨_, _, rfl, rfl, h⟩
  · cases h
def eChain3 (f f' f'' : D → D → Option D) (a b c d : SE) : SE := fun L S => (a L S).bind fun v S1 => (b L S1).bind fun w S2 => bThen (opt2 f (top S2 v) (top S2 w)) ((c L S2).bind fun u S3 => bThen (opt2 f' (top S3 w) (top S3 u)) ((d L S3).bind fun t S4 => R.of (opt2 f'' (top S4 u) (top S4 t)) S4) S3) S2
def tChain3 (r r' r'' : R2) (ta tb tc td : TE) : TE := fun σ H Q => ta σ H fun x H1 => tb σ H1 fun y H2 => r x y H2 fun z H3 => ∃ k, z = .bl k ∧
  (if k = true then tc σ H3 fun w' H4 => r' y w' H4 fun z' H5 => ∃ k', z' = .bl k' ∧ (if k' = true then td σ H5 fun v' H6 => r'' w' v' H6 Q else Q (.bl false) H5) else Q (.bl false) H3)
open PyProof.Rows in
theorem pe_chain3 {d : Expr} {ta tb tc td : TE} {op op' op'' : CmpOp} {r r' r'' : R2} (ho : OpR X (compareOp op) r) (ho' : OpR X (compareOp op') r') (ho'' : OpR X (compareOp op'') r'') (ha : PE X a ta) (hb : PE X b tb) (hc : PE X c tc) (hd : PE X d td)
    (hm : lastMarks [op, op', op''] [b, c, d] = false := by with_unfolding_all rfl) : PE X (.Compare a [op, op', op''] [b, c, d] pos) (tChain3 r r' r'' ta tb tc td) := by
  constructor
  intro pins s σ H Q I h
  refine PyProof.Rows.Compare_chain (thn (ha.run pins s σ H _ I h) fun v s1 g1 => ?_) hm
  obtain ⟨x, H1, I1, r1, q1⟩ := g1
  refine PyProof.Rows.chain_link (thn (hb.run pins s1 σ H1 _ I1 q1) fun u s2 g2 => ?_)
  obtain ⟨y, H2, I2, r2, q2⟩ := g2
  refine thn (ho pins s2 σ H2 x y v u _ I2 r1 r2 q2) fun d0 s3 g3 => ?_
  obtain ⟨z, H3, I3, r3, k, e, q3⟩ := g3
  subst e
  cases r3
  refine wpAny_truthy_bool ?_
  cases k with
  | false => exact ite_ff ⟨.bl false, H3, I3, rfl, q3⟩
  | true =>
    refine ite_tt (PyProof.Rows.chain_link (thn (hc.run pins s3 σ H3 _ I3 q3) fun u2 s4 g4 => ?_))
    obtain ⟨y2, H4, I4, r4, q4⟩ := g4
    refine thn (ho' pins s4 σ H4 y y2 u u2 _ I4 r2 r4 q4) fun d1 s5 g5 => ?_
    obtain ⟨z2, H5, I5, r5, k2, e2, q5⟩ := g5
    subst e2
    cases r5
    refine wpAny_truthy_bool ?_
    cases k2 with
    | false => exact ite_ff ⟨.bl false, H5, I5, rfl, q5⟩
    | true =>
      refine ite_tt (PyProof.Rows.chain_last (thn (hd.run pins s5 σ H5 _ I5 q5) fun u3 s6 g6 => ?_))
      obtain ⟨y3, H6, I6, r6, q6⟩ := g6
      exact ho'' pins s6 σ H6 y2 y3 u2 u3 Q I6 r4 r6 q6
theorem bThen_ok {P : (Addr → Prop) → List Addr → Hp → Val → Prop} {E : Value → Option Addr → Hp → Prop} {o : Option D} {k : R Val} (q : EvOk G F P E A ρ H (bThen o k S)) :
    (o = some (.bl true) ∧ EvOk G F P E A ρ H k) ∨ (o = some (.bl false) ∧ EvOk G F P E A ρ H (.ok (.d (.bl false)) S)) := by
  unfold bThen at q
  split at q
  · exact .inl ⟨rfl, q⟩
  · exact .inr ⟨rfl, q⟩
  · exact q.elim
theorem chain3_t {fd : SE} {r r' r'' : R2} {f f' f'' : D → D → Option D} (hs : Snd2 G.K r f) (hs' : Snd2 G.K r' f') (hs'' : Snd2 G.K r'' f'') : ∀ σ H Q, tE G W (eChain3 f f' f'' fa fb fc fd) σ H Q → tChain3 r r' r'' (tE G W fa) (tE G W fb) (tE G W fc) (tE G W fd) σ H Q := fun σ H Q ⟨F, A, ρ, L, S, l, r0, q⟩ => by
  refine ⟨F, A, ρ, L, S, l, r0, EvOk.bind q fun v S1 A1 ρ1 H1 x1 r1 q1 w rw1 => ?_⟩
  have l1 := l.mv x1 r0
  refine ⟨F, A1, ρ1, L, S1, l1, r1, EvOk.bind q1 fun v2 S2 A2 ρ2 H2 x2 r2 q2 w2 rw2 => ?_⟩
  have rw1' := rw1.mv x2 r1
  have l2 := l1.mv x2 r1
  rcases bThen_ok q2 with ⟨e0, q3⟩ | ⟨e0, q3⟩
  · obtain ⟨x, y, e1, e2, e3⟩ := opt2_some e0
    refine hs G F A2 ρ2 S2 H2 x y _ w w2 _ rfl r2 (r2.top rw1' e1) (r2.top rw2 e2) e3 fun H' u xe re rd => ⟨true, rd, ?_⟩
    refine ⟨F, A2, ρ2, L, S2, l2.mv xe r2, re, EvOk.bind (EvOk.shift xe q3) fun v3 S3 A3 ρ3 H3 x3 r3 q4 w3 rw3 => ?_⟩
    have rw2' := (rw2.mv xe r2).mv x3 re
    have l3 := (l2.mv xe r2).mv x3 re
    rcases bThen_ok q4 with ⟨e4, q5⟩ | ⟨e4, q5⟩
    · obtain ⟨y', z, e5, e6, e7⟩ := opt2_some e4
      refine hs' G F A3 ρ3 S3 H3 y' z _ w2 w3 _ rfl r3 (r3.top rw2' e5) (r3.top rw3 e6) e7 fun H4 u4 xe4 re4 rd4 => ⟨true, rd4, ?_⟩
      refine ⟨F, A3, ρ3, L, S3, l3.mv xe4 r3, re4, EvOk.bind (EvOk.shift xe4 q5) fun v5 S5 A5 ρ5 H5 x5 r5 q6 w5 rw5 => ?_⟩
      obtain ⟨z', ez, q7⟩ := of_ok q6
      obtain ⟨z1, z2, e8, e9, e10⟩ := opt2_some ez
      exact hs'' G F A5 ρ5 S5 H5 z1 z2 z' w3 w5 Q rfl r5 (r5.top ((rw3.mv xe4 r3).mv x5 re4) e8) (r5.top rw5 e9) e10 fun H6 u6 xe6 re6 rd6 => q7 A5 ρ5 H6 xe6 re6 u6 rd6
    · obtain ⟨y', z, e5, e6, e7⟩ := opt2_some e4
      refine hs' G F A3 ρ3 S3 H3 y' z _ w2 w3 _ rfl r3 (r3.top rw2' e5) (r3.top rw3 e6) e7 fun H4 u4 xe4 re4 rd4 => ⟨false, rd4, ?_⟩
      exact q5 A3 ρ3 H4 xe4 re4 _ rfl
  · obtain ⟨x, y, e1, e2, e3⟩ := opt2_some e0
    refine hs G F A2 ρ2 S2 H2 x y _ w w2 _ rfl r2 (r2.top rw1' e1) (r2.top rw2 e2) e3 fun H' u xe re rd => ⟨false, rd, ?_⟩
    exact q3 A2 ρ2 H' xe re _ rfl
theorem chain3_ {d : Expr} {fd : SE} {op op' op'' : CmpOp} {r r' r'' : R2} {f f' f'' : D → D → Option D} (ho : OpR X (compareOp op) r) (ho' : OpR X (compareOp op') r') (ho'' : OpR X (compareOp op'') r'') (hs : Snd2 G.K r f) (hs' : Snd2 G.K r' f') (hs'' : Snd2 G.K r'' f'')
    (ha : PE X a (tE G W fa)) (hb : PE X b (tE G W fb)) (hc : PE X c (tE G W fc)) (hd : PE X d (tE G W fd)) (hm : lastMarks [op, op', op''] [b, c, d] = false := by with_unfolding_all rfl) : PE X (.Compare a [op, op', op''] [b, c, d] pos) (tE G W (eChain3 f f' f'' fa fb fc fd)) :=
  PE.imp (pe_chain3 ho ho' ho'' ha hb hc hd hm) (chain3_t hs hs' hs'')
end Ev
set_option linter.all false
set_option Elab.async false
set_option maxRecDepth 100000
/-! own lists that are walked: locked for as long -/
namespace Ev
open PySem L2 PySem.Spec
variable {F F1 A A1 A2 : Addr → Prop} {ρ ρ1 ρ2 : List Addr} {H H1 H2 : Hp} {K : PySem.W.Frag} {G : PC} {S S1 S2 : Store} {X : Cx} {W : WX}
variable {a b c e o : Expr} {es : List Expr} {fa fb fc : SE} {as : SA} {pos : Pos} {st : Stmt}
abbrev plus (F : Addr → Prop) (x : Addr) : Addr → Prop := fun a => F a ∨ a = x
theorem Ext.less {x : Addr} (h : Ext (plus F x) A ρ H A1 ρ1 H1) : Ext F A ρ H A1 ρ1 H1 :=
  ⟨h.pre, fun a o n e => h.fr a o (fun z => .inl (n z)) e, h.st, h.up, h.nw, h.nr⟩
theorem RS.lock (r : RS G F A ρ S H) {n : Nat} {x : Addr} {ds : List D} (ex : ρ[n]? = some x) (e0 : S[n]? = some (.lst ds)) : RS G (plus F x) A ρ (S.set n (.lck ds)) H := by
  have hn := (List.getElem?_eq_some_iff.mp e0).1
  refine ⟨r.sub, r.trk, r.nd, by rw [List.length_set]; exact r.len, r.own, fun a h => h.elim (r.fin a) fun h => by rw [h]; exact List.mem_of_getElem? ex, fun m a c e1 e2 => ?_, fun m c e => ?_⟩
  · by_cases hm : m = n
    · subst hm
      rw [List.getElem?_set_self hn] at e2
      cases e2
      rw [ex] at e1; cases e1
      exact ⟨fun _ => True.intro, fun _ => .inr rfl⟩
    · rw [List.getElem?_set_ne (Ne.symm hm)] at e2
      have hl := r.lk m a c e1 e2
      refine ⟨fun z => z.elim hl.mp fun z => ?_, fun z => .inl (hl.mpr z)⟩
      subst z
      obtain ⟨h1, e1⟩ := List.getElem?_eq_some_iff.mp e1
      obtain ⟨h2, e3⟩ := List.getElem?_eq_some_iff.mp ex
      exact (hm ((List.getElem_inj r.nd).mp (e1.trans e3.symm))).elim
  · by_cases hm : m = n
    · subst hm
      rw [List.getElem?_set_self hn] at e
      cases e
      obtain ⟨a, e1, vs, h1, h2⟩ := r.cells m _ e0
      exact ⟨a, e1, vs, h1, h2⟩
    · rw [List.getElem?_set_ne (Ne.symm hm)] at e
      exact r.cells m c e
theorem RS.unlock (r : RS G F A ρ S H) {n : Nat} {x : Addr} {ds : List D} (ex : ρ[n]? = some x) (e0 : S[n]? = some (.lst ds)) (y : Ext (plus F x) A ρ H A1 ρ1 H1) (r1 : RS G (plus F x) A1 ρ1 S1 H1) : RS G F A1 ρ1 (S1.set n (.lst ds)) H1 := by
  have nF : ¬ F x := fun z => (r.lk n x _ ex e0).mp z
  have ex1 : ρ1[n]? = some x := by
    obtain ⟨t, e⟩ := y.pre
    rw [← e, List.getElem?_append_left (List.getElem?_eq_some_iff.mp ex).1]
    exact ex
  have hn : n < S1.length := by
    rw [← r1.len]
    exact (List.getElem?_eq_some_iff.mp ex1).1
  refine ⟨r1.sub, r1.trk, r1.nd, by rw [List.length_set]; exact r1.len, r1.own, fun a h => r1.fin a (.inl h), fun m a c e1 e2 => ?_, fun m c e => ?_⟩
  · by_cases hm : m = n
    · subst hm
      rw [List.getElem?_set_self hn] at e2
      cases e2
      rw [ex1] at e1; cases e1
      exact ⟨fun z => (nF z).elim, fun z => z.elim⟩
    · rw [List.getElem?_set_ne (Ne.symm hm)] at e2
      have hl := r1.lk m a c e1 e2
      refine ⟨fun z => hl.mp (.inl z), fun z => (hl.mpr z).elim (fun z => z) fun z => ?_⟩
      subst z
      obtain ⟨h1, e1⟩ := List.getElem?_eq_some_iff.mp e1
      obtain ⟨h2, e3⟩ := List.getElem?_eq_some_iff.mp ex1
      exact (hm ((List.getElem_inj r1.nd).mp (e1.trans e3.symm))).elim
  · by_cases hm : m = n
    · subst hm
      rw [List.getElem?_set_self hn] at e
      cases e
      obtain ⟨a, e1, vs, h1, h2⟩ := r.cells m _ e0
      rw [ex] at e1; cases e1
      exact ⟨x, ex1, vs, y.fr x _ (fun _ => .inr rfl) h1, RepDs.mv y.less r ds vs h2⟩
    · rw [List.getElem?_set_ne (Ne.symm hm)] at e
      exact r1.cells m c e
def SR.mapS (f : Store → Store) : SR → SR
  | .nx L S => .nx L (f S)
  | .rt v S => .rt v (f S)
  | .bk L S => .bk L (f S)
  | .ct L S => .ct L (f S)
  | .ex x L S => .ex x L (f S)
  | .bad => .bad
def lkC (n : Nat) (s : SS) (L : Loc) (S : Store) (c : Option Cell) : SR := match c with
  | some (.lst ds) => (s L (S.set n (.lck ds))).mapS fun S1 => S1.set n (.lst ds)
  | _ => .bad
def lkV (s : SS) (L : Loc) (S : Store) (v : Option (Option Val)) : SR := match v with
  | some (some (.ref n)) => lkC n s L S S[n]?
  | some (some (.d _)) => s L S
  | _ => .bad
/-- a statement while the own list in slot i is locked -/
def sLk (i : Nat) (s : SS) : SS := fun L S => lkV s L S L[i]?
theorem slk_ {i : Nat} {s : SS} (h : PS X st (tS G W s)) : PS X st (tS G W (sLk i s)) := PS.imp h fun D σ H ⟨F, A, ρ, L, S, l, r, q⟩ => by
  unfold sLk lkV at q
  split at q
  · rename_i n el
    unfold lkC at q
    split at q
    · rename_i ds e0
      obtain ⟨w, _, a, ex, _⟩ := l.2 i _ el
      refine ⟨plus F a, A, ρ, L, S.set n (.lck ds), l, r.lock ex e0, ?_⟩
      revert q
      cases s L (S.set n (.lck ds)) with
      | bad => exact fun q => q
      | nx L1 S1 => exact fun q A' ρ' H' σ' x r' l' => q A' ρ' H' σ' x.less (r.unlock ex e0 x r') l'
      | bk L1 S1 => exact fun q A' ρ' H' σ' x r' l' => q A' ρ' H' σ' x.less (r.unlock ex e0 x r') l'
      | ct L1 S1 => exact fun q A' ρ' H' σ' x r' l' => q A' ρ' H' σ' x.less (r.unlock ex e0 x r') l'
      | rt v S1 => exact fun q A' ρ' H' w x r' rw => q A' ρ' H' w x.less (r.unlock ex e0 x r') rw
      | ex y L1 S1 => exact fun q A' ρ' H' σ' cls d x r' l' rx => q A' ρ' H' σ' cls d x.less (r.unlock ex e0 x r') l' rx
    · exact q.elim
  · exact ⟨F, A, ρ, L, S, l, r, q⟩
  · exact q.elim
def itK (v : Val) (S : Store) : R (List D) := match v with
  | .ref n => (match S[n]? with
    | some (.lck ds) => .ok ds S
    | _ => .bad)
  | .d (.lst ds) => .ok ds S
  | .d (.scr ns) => .ok (ns.map .int) S
  | _ => .bad
/-- the items of a locked own list, or of one that nobody changes -/
def iLk (e : SE) : SI := fun L S => (e L S).bind itK
theorem iLk_ {tg : Expr} (hK : X.K = G.K) (h : PI X tg e (iList X.K (tE G W fa))) : PI X tg e (tI G W (iLk fa)) := PI.imp h fun σ H Q ⟨F, A, ρ, L, S, l, r, q⟩ => by
  refine ⟨F, A, ρ, L, S, l, r, EvOk.bind (k := itK) q fun v S1 A1 ρ1 H1 x1 r1 q1 w rw1 => ?_⟩
  rw [hK]
  unfold itK at q1
  split at q1
  · rename_i n
    split at q1
    · rename_i ds e2
      obtain ⟨a, e1, rfl⟩ := rw1
      obtain ⟨a', e3, vs, h1, h2⟩ := r1.cells n _ e2
      rw [e1] at e3; cases e3
      have hF : F a := (r1.lk n a _ e1 e2).mpr True.intro
      exact ⟨a, rfl, ⟨vs, SqL.of h1⟩, q1 A1 ρ1 H1 Ext.refl r1 _ (itl_rep h2 fun A2 ρ2 H2 x => SqL.of (x.fr a _ (fun _ => hF) h1))⟩
    · exact q1.elim
  · rename_i ds
    obtain ⟨a, vs, rfl, e1, na, p⟩ := rw1
    exact ⟨a, rfl, ⟨vs, SqL.of e1⟩, q1 A1 ρ1 H1 Ext.refl r1 _ (itl_rep p fun A2 ρ2 H2 x => SqL.of (x.fr a _ (fun z => (na (r1.sub a z)).elim) e1))⟩
  · rename_i ns
    obtain ⟨a, rfl, p⟩ := rw1
    refine ⟨a, rfl, ⟨ns.map V.int, p.elim (fun p => .inl p.1) fun p => p H1⟩, q1 A1 ρ1 H1 Ext.refl r1 _ (itl_rep (ints_rep ns) fun A2 ρ2 H2 x => ?_)⟩
    rcases p with ⟨p, na⟩ | p
    · exact .inl (x.rd (fun z => (na (r1.sub a z)).elim) p)
    · exact p H2
  · exact q1.elim
end Ev
set_option linter.all false
set_option Elab.async false
set_option maxRecDepth 100000
/-! own exceptions, raised -/
namespace Ev
open PySem L2 PySem.Spec
variable {F F1 A A1 A2 : Addr → Prop} {ρ ρ1 ρ2 : List Addr} {H H1 H2 : Hp} {K : PySem.W.Frag} {G : PC} {S S1 S2 : Store} {X : Cx} {W : WX}
variable {a b c e o : Expr} {es : List Expr} {fa fb fc : SE} {as : SA} {pos : Pos} {st : Stmt}

/-! ### raise X('..') -/
/-- what the text says of an own exception class, number k, without a maker of its own -/
structure XAt (G : PC) (k : Nat) : Prop where
  xc : PySem.W.excIn G.K (G.xcl k) [.type "ValueError", .type "Exception", .type "BaseException", .type "object"] "ValueError.__new__" = true
  kp : PySem.W.keepIn G.K (.ref (G.xcl k)) = true
  sb : PySem.W.subIn G.K (.ref (G.xcl k)) (.type "BaseException") = some true
  ty : PySem.W.typeIn G.K (.ref (G.xcl k)) = some (.type "type")
def sRaise (k : Nat) : SS := fun L S => .ex ⟨k, []⟩ L S
theorem raise_ {k : Nat} (h : PS X st (fun _ σ H => W (.ref (G.xcl k)) none σ H)) : PS X st (tS G W (sRaise k)) := PS.imp h fun D σ H q => by
  obtain ⟨F, A, ρ, L, S, l, r, q⟩ := q
  exact q A ρ H σ (.ref (G.xcl k)) none Ext.refl r l ⟨rfl, .inl ⟨rfl, rfl⟩⟩

/-! ### an exception class with a maker of its own, which takes an int -/
/-- an own class that has its base's maker -/
structure BaseInit (K : PySem.W.Frag) (C : Addr) : Prop where
  ga : PySem.W.specialIn K (.ref C) "__getattribute__" = some (some (.builtin "type.__getattribute__"))
  ty : PySem.W.typeIn K (.ref C) = some (.type "type")
  rd : PySem.W.readsIn K C (.type "type") = true
  fd : PySem.W.findCls K (.ref C) (.type "type") "__init__" = some (.val (.builtin "ValueError.__init__"))
open PyProof.Rows in
/-- W.__init__(self, ..), W an own class with its base's maker -/
theorem pe_winit {C : Addr} {x : Str} {ta : TA} {p1 p2 : Pos} {pl : Sem Bool} (hg : Gl X x) (hm : X.mg x = some (.ref C)) (bi : BaseInit X.K C) (ha : PA X (e :: es) ta) (hd : (x == ("__debug__" : Str)) = false := by decide)
    (hc : eval (.Call (.Attribute (.Name x p1) "__init__" p2) (e :: es) [] pos) X.env = (do
      let ov ← eval (.Name x p1) X.env
      standAt p2.atName
      let (f, first) ← holding [ov] (getMethod ov "__init__" pl)
      callWith pos f first (backTo pos (starEach (e :: es) X.env)) (backToKw pos (keywordEach [] X.env))) := by rfl)
    (h1 : starEach (e :: es) X.env = (false, eval e X.env) :: starEach es X.env := by rfl) (h2 : (backTo pos (starEach es X.env)).any (·.1) = false := by rfl) : PE X (.Call (.Attribute (.Name x p1) "__init__" p2) (e :: es) [] pos) (tVeI X.K ta) := by
  constructor
  intro pins s σ H Q I h
  refine PySem.W.methodCall_KW (ld_glob I hg hm ?_ hd) hc
  obtain ⟨m, fr⟩ := I.fr
  refine PySem.W.method_of_cls fr I.ok.mod.kin bi.ga (PySem.W.cls_val fr I.ok.mod.kin bi.ty bi.rd bi.fd (by decide +kernel) ?_)
  show wpAny _ _ (callWith pos (Value.builtin "ValueError.__init__") [] (backTo pos (starEach (e :: es) X.env)) []) _ _ _
  refine callWith_method1 (thn (ha.run pos pins _ σ H _ (I.tok _) h) fun us s1 hh => ?_) h1 h2
  obtain ⟨vs, H1, I1, r1, a, C2, ws, ev, hl, T, ea, q⟩ := hh
  subst ev
  cases r1 with
  | @cons _ u0 _ ur ra rw' =>
    obtain rfl : u0 = Value.ref a := ra
    have hlen : ur.length ≤ sizeLine := by
      rw [← Paired.length rw', sizeLine_eq]
      omega
    exact oinit_ok T I1 ea hlen fun s' J => ⟨.non, H1, J, rfl, q⟩
/-- the promise of a maker that keeps one int in a field -/
def spXI (K : PySem.W.Frag) (f : Str) : Sp := fun vs H Q _ => ∃ (a C : Addr) (i : Int), vs = [.ref a, .int i] ∧ (0 ≤ i ∧ i ≤ 1000000) ∧ OexC K C ∧ PySem.W.findIn K (.ref C) f = some none ∧ H a = some (exo a C none) ∧
  ∀ dx, H dx = none → dx ≠ a → Q .non (upd (upd H dx (exd dx [(f, .int i)])) a (exo a C (some dx)))
/-- its body's reading: base.__init__(self, f'a{x}b'); self.f = x -/
def tXI (K : PySem.W.Frag) (f a b : Str) : TS := tSeq (tDrop (tVeI K (tCons (tVar 0) (tCons (fun σ H Q => tJs [tC (.str a), tFmt (tVar 1), tC (.str b)] Str.empty σ H fun out H1 => Q (.str out) H1) tNil)))) (tOst K f (tVar 0) (tVar 1))
theorem txt_small {i : Int} (h0 : 0 ≤ i) (h1 : i ≤ 1000000) : (Str.ofString (toString i)).length ≤ 7 ∧ i.natAbs.log2 < 1920 := by
  refine ⟨PyProof.Rows.toString_length_le h0 (by decide) (by omega), ?_⟩
  by_cases h : i.natAbs = 0
  · rw [h]; decide
  · have := (Nat.log2_lt h (k := 20)).mpr (by omega)
    omega
theorem txi_ok {f a b : Str} (hz : a.length + b.length ≤ 1000) {vs : List V} {H : Hp} {Q : VK} {E : XK} (h : spXI K f vs H Q E) : tXI K f a b { nx := fun _ H' => Q .non H', rt := Q } (vs.map some) H := by
  obtain ⟨x, C, i, rfl, ⟨h0, h1⟩, T, hn, hx, q⟩ := h
  obtain ⟨t1, t2⟩ := txt_small h0 h1
  have big : ∀ n : Nat, n ≤ 2000 → n ≤ sizeLine := fun n hn => by
    rw [sizeLine_eq]
    omega
  have le : (Str.empty : Str).length = 0 := rfl
  have la : ∀ x y : Str, (x ++ y).length = x.length + y.length := fun x y => Array.size_append
  refine ⟨_, rfl, a, rfl, big _ (by rw [la, le]; omega), _, rfl, .inr ⟨i, rfl, t2, ?_⟩⟩
  refine ⟨_, rfl, big _ (by rw [la, la, le]; omega), b, rfl, big _ (by rw [la, la, la, le]; omega), ?_⟩
  refine ⟨x, C, _, rfl, by simp, T, hx, ?_⟩
  refine ⟨_, rfl, _, rfl, x, C, rfl, T, hn, .inl ⟨hx, fun dx n ne => q dx n ne⟩⟩
/-- what the text says of such a class -/
structure XIAt (G : PC) (k : Nat) (fI : Addr) : Prop where
  ox : OexC G.K (G.xcl k)
  ii : PySem.W.findIn G.K (.ref (G.xcl k)) "__init__" = some (some (.ref fI))
  ti : PySem.W.typeIn G.K (.ref fI) = some (.type "function")
def sRaiseI (k : Nat) (e : SE) : SS := fun L S => (e L S).to L fun v S1 => match v with
  | .d (.int i) => if 0 ≤ i ∧ i ≤ 1000000 then .ex ⟨k, [.int i]⟩ L S1 else .bad
  | _ => .bad
theorem raiseI_ {k : Nat} {f : Str} (hf : G.xfl k = [f]) (hx : XIAt G k fI) (hn : PySem.W.findIn G.K (.ref (G.xcl k)) f = some none) (h : PS X st (fun _ σ H => tMkO (G.xcl k) (spXI G.K f) [] (tCons (tE G W fa) tNil) σ H fun cls d H' => W cls d σ H')) : PS X st (tS G W (sRaiseI k fa)) := PS.imp h fun D σ H q => by
  obtain ⟨F, A, ρ, L, S, l, r, q⟩ := q
  refine ⟨F, A, ρ, L, S, l, r, st_ok r l q fun v S1 A1 ρ1 H1 x1 r1 q1 w rw => ?_⟩
  split at q1
  · rename_i i
    split at q1
    · rename_i c
      have ew : w = .int i := rw
      subst ew
      refine ⟨by simp, fun a ha => ?_⟩
      refine ⟨a, G.xcl k, i, rfl, c, hx.ox, hn, upd_same, fun dx hdx ne => ?_⟩
      have hd : H1 dx = none := by rw [upd_ne ne] at hdx; exact hdx
      refine ⟨rfl, dx, [(f, .int i)], upd_same, by rw [upd_ne ne, upd_same], hd, ?_⟩
      have eH : upd (del (upd (upd (upd H1 a (exo a (G.xcl k) none)) dx (exd dx [(f, .int i)])) a (exo a (G.xcl k) (some dx))) a) dx (.xd [(f, .int i)]) = upd H1 dx (.xd [(f, .int i)]) := by
        funext b
        by_cases h1 : b = dx
        · rw [h1, upd_same, upd_same]
        · rw [upd_ne h1, upd_ne h1]
          by_cases h2 : b = a
          · rw [h2, del_same, ha]
          · rw [del_ne h2, upd_ne h2, upd_ne h1, upd_ne h2]
      rw [eH]
      obtain ⟨x2, r2⟩ := r1.laid hd (.xd [(f, .int i)])
      exact q1 A1 ρ1 _ σ (.ref (G.xcl k)) (some dx) x2 r2 ((l.mv x1 r).mv x2 r1) ⟨rfl, .inr ⟨dx, [.int i], rfl, by rw [upd_same, hf]; rfl, _, [], rfl, rfl, rfl⟩⟩
    · exact q1.elim
  · exact q1.elim
end Ev
set_option linter.all false
set_option Elab.async false
set_option maxRecDepth 100000
/-! try: body, except C as n: suite -/
namespace Ev
open PySem L2 PySem.Spec
variable {F F1 A A1 A2 : Addr → Prop} {ρ ρ1 ρ2 : List Addr} {H H1 H2 : Hp} {K : PySem.W.Frag} {G : PC} {S S1 S2 : Store} {X : Cx} {W : WX}
variable {a b c e o : Expr} {es : List Expr} {fa fb fc : SE} {as : SA} {pos : Pos} {st : Stmt}

/-- what an answer is wherever the caught exception lies -/
noncomputable def allR (f : Addr → Option Addr → SR) : SR := open Classical in if h : ∃ r, ∀ a d, f a d = r then h.choose else .bad
theorem allR_const (r : SR) : allR (fun _ _ => r) = r := by
  have h : ∃ r', ∀ (a : Addr) (d : Option Addr), (fun _ _ => r : Addr → Option Addr → SR) a d = r' := ⟨r, fun _ _ => rfl⟩
  unfold allR
  rw [dif_pos h]
  exact (h.choose_spec 0 none).symm
theorem allR_at {f : Addr → Option Addr → SR} {D : Ends} (q : StOk G F W D A ρ H (allR f)) (a : Addr) (d : Option Addr) : StOk G F W D A ρ H (f a d) := by
  unfold allR at q
  split at q
  · rename_i h
    rw [h.choose_spec a d]
    exact q
  · exact q.elim
def SR.unset (i : Nat) : SR → SR
  | .nx L S => .nx (L.set i none) S
  | .rt v S => .rt v S
  | .bk L S => .bk (L.set i none) S
  | .ct L S => .ct (L.set i none) S
  | _ => .bad
/-- xf: the names of the classes' fields; m: which classes are caught; i: the slot of the clause's name -/
noncomputable def sTry (xf : Nat → List Str) (f : SS) (m : Nat → Option Bool) (i : Nat) (h : Addr → Nat → SS) : SS := fun L S => match f L S with
  | .ex x L1 S1 => (match m x.k with
    | some true => allR fun a d => (h a x.k (L1.set i (some (.exc a d (xf x.k) x.fs))) S1).unset i
    | some false => .ex x L1 S1
    | none => .bad)
  | r => r
def noW : WX := fun _ _ _ _ => False
/-- the suite's reading -/
def tsX (G : PC) (h : Addr → Nat → SS) (a : Addr) (cls : Value) (d : Option Addr) : TS := fun D σ H => ∃ k, cls = .ref (G.xcl k) ∧ tS G noW (h a k) D σ H
theorem tsX_ {h : Addr → Nat → SS} {a : Addr} {cls : Value} {d : Option Addr} {sts : List Stmt} (g : ∀ k, cls = .ref (G.xcl k) → PSs X sts (tS G noW (h a k))) : PSs X sts (tsX G h a cls d) :=
  ⟨fun pins s σ H D I q => by
    obtain ⟨k, e, q⟩ := q
    exact (g k e).run pins s σ H D I q⟩
theorem unset_ok {D : Ends} {i : Nat} : ∀ {r : SR}, StOk G F W D A ρ H (r.unset i) → StOk G F noW { nx := fun σ' H' => D.nx (σ'.set i none) H', rt := D.rt, bk := fun σ' H' => D.bk (σ'.set i none) H', ct := fun σ' H' => D.ct (σ'.set i none) H' } A ρ H r
  | .nx L S, q => fun A' ρ' H' σ' x r l => q A' ρ' H' (σ'.set i none) x r (l.unset i none)
  | .bk L S, q => fun A' ρ' H' σ' x r l => q A' ρ' H' (σ'.set i none) x r (l.unset i none)
  | .ct L S, q => fun A' ρ' H' σ' x r l => q A' ρ' H' (σ'.set i none) x r (l.unset i none)
  | .rt v S, q => q
  | .ex .., q => q.elim
  | .bad, q => q
theorem try_ {xf : Nat → List Str} {f : SS} {m : Nat → Option Bool} {i : Nat} {h : Addr → Nat → SS} {C : Value} (hK : X.K = G.K) (hx : ∀ k, G.xfl k = xf k) (hm : ∀ k b, m k = some b → PySem.W.exmOne G.K (.ref (G.xcl k)) C = some b)
    (hp : PS X st (fun D σ H => tS G (wAs X.K C i (tsX G h) W D) f D σ H)) : PS X st (tS G W (sTry xf f m i h)) := PS.imp hp fun D σ H q => by
  obtain ⟨F, A, ρ, L, S, l, r, q⟩ := q
  refine ⟨F, A, ρ, L, S, l, r, ?_⟩
  revert q
  unfold sTry
  cases f L S with
  | nx L1 S1 => exact fun q => q
  | bk L1 S1 => exact fun q => q
  | ct L1 S1 => exact fun q => q
  | rt v S1 => exact fun q => q
  | bad => exact fun q => q
  | ex x L1 S1 =>
    intro q A' ρ' H' σ' cls d x1 r1 l1 rx
    obtain ⟨rfl, rx⟩ := rx
    have q : StOk G F W D A ρ H (match m x.k with
      | some true => allR fun a d => (h a x.k (L1.set i (some (.exc a d (xf x.k) x.fs))) S1).unset i
      | some false => .ex x L1 S1
      | none => .bad) := q
    cases e : m x.k with
    | none => rw [e] at q; exact q.elim
    | some b =>
      rw [e] at q
      refine ⟨b, by rw [hK]; exact hm _ _ e, fun hb a ha => ?_, fun hb => ?_⟩
      · subst hb
        have q1 := StOk.shift x1 (allR_at q a d)
        refine ⟨x.k, rfl, F, A', ρ', _, S1, l1.set i (w := .exc a d (xf x.k) x.fs) (v := .ref a) ⟨rfl, ?_⟩, r1, unset_ok q1⟩
        refine rx.imp (fun z => z) fun z => ?_
        obtain ⟨dx, vs, e1, e2, p⟩ := z
        exact ⟨dx, vs, e1, by rw [← hx]; exact e2, RepDs.weak (fun _ _ => True.intro) _ _ p⟩
      · subst hb
        exact q A' ρ' H' σ' (.ref (G.xcl x.k)) d x1 r1 l1 ⟨rfl, rx⟩

/-! ### in the suite: isinstance(e, C), e.f -/
/-- a caught exception of class number k lies at a -/
structure Pin (X : Cx) (G : PC) (a : Addr) (k : Nat) : Prop where
  ex : ∃ (oe : Obj) (d : Option Addr), (a, oe) ∈ X.pn ∧ Zc (.ref (G.xcl k)) d oe ∧ ∃ vs, oe.data = .fields vs
def isXV (a : Addr) (b : Option Bool) (v : Val) (S : Store) : R Val := match v, b with
  | .exc a' _ _ _, some b => if a' = a then .ok (.d (.bl b)) S else .bad
  | _, _ => .bad
def eIsX (a : Addr) (b : Option Bool) (e : SE) : SE := fun L S => (e L S).bind (isXV a b)
def xatV (a : Addr) (j : Nat) (f : Str) (v : Val) (S : Store) : R Val := match v with
  | .exc a' _ nm fs => if a' = a ∧ nm[j]? = some f ∧ nm.Nodup then R.of fs[j]? S else .bad
  | _ => .bad
def eXat (a : Addr) (j : Nat) (f : Str) (e : SE) : SE := fun L S => (e L S).bind (xatV a j f)
theorem pe_xfP {C x : Addr} {k : Nat} {te : TE} {n : Str} (T : XfC X.K (G.xcl k)) (hno : PySem.W.findIn X.K (.ref (G.xcl k)) n = some none) (hp : Pin X G x k) (he : PE X e te) (hb : attributeBase e n X.env (eval e X.env) = eval e X.env := by rfl) :
    PE X (.Attribute e n pos) (fun σ H Q => te σ H fun y H1 => y = .ref x ∧ ∃ (dd : Addr) (fs : List (Str × V)) (v : V), (∀ oe d, (x, oe) ∈ X.pn → Zc (.ref (G.xcl k)) d oe → d = some dd) ∧ H1 dd = some (.xd fs) ∧ fs.lookup n = some v ∧ Q v H1) := by
  constructor
  intro pins s σ H Q I h
  refine attr_of hb (thn (he.run pins s σ H _ I h) fun u s1 hh => ?_)
  obtain ⟨y, H1, I1, rx, ex, dd, fs, v, ed, ea, l, q⟩ := hh
  subst ex
  obtain rfl : u = Value.ref x := rx
  obtain ⟨oe, d, hm, hz, vs, hd⟩ := hp.ex
  obtain rfl := ed oe d hm hz
  obtain ⟨ha, _⟩ := I1.pin (x, oe) (List.mem_append_left _ hm)
  have hx : ObjOk X.prog X.w H1 s1.heap dd (.xd fs) := I1.hok dd _ ea
  obtain ⟨mA, hns, hr⟩ := hx
  obtain ⟨od, ho, hl⟩ := lookIn_ns hns
  obtain ⟨u2, hu, ru⟩ := RelO.some_of (v := v) (o := mA n) (by rw [← l]; exact hr n)
  have J : PySem.W.InstAt s1.heap x oe (G.xcl k) (some od) := ⟨ha, hz.1, by unfold PySem.W.notCls; rw [hd] <;> rfl, by rw [hz.2]; exact ho⟩
  exact HandSPX.exc_get I1.kIn J T.ga T.gg T.exC (PySem.W.findObj_own T.hdC hno rfl (by rw [hl, hu])) (handed_of ru) ⟨v, H1, I1.tok _, ru, q⟩
end Ev
set_option linter.all false
set_option Elab.async false
set_option maxRecDepth 100000
set_option maxHeartbeats 2000000
/-! while an exception is handled: a list's end, comprehensions, calls; try with named clauses -/
namespace Ev
open PySem L2 PySem.Spec PyProof.Rows

/-! ### the end of a list's walk -/
section
variable {P : Program} {w : World} {B : Around} {E : Value → Shared → Prop} {s : Shared}
theorem listEnd {it l x1 : Addr} {i : Nat} {its : Array Value} {Q : Option Value → Shared → Prop} (hot : HotX.HotAt B x1 s.heap) (hi : s.heap.IsListIter it l i) (hl : s.heap.IsList l its) (hx : its[i]? = none)
    (k : ∀ h, Heap.ExtBut it s.heap h → Q none { s with heap := h }) : wpAny (model P w) B (pyNext (.ref it)) Q E s := by
  have hT := hi.typeIs
  obtain ⟨hh, ox, vx, gx, dx, cx⟩ := hot
  obtain ⟨oi, gi, ci, di⟩ := id hi
  obtain ⟨ol, gl, _, nl, dl⟩ := hl
  have ne : x1 ≠ it := fun e => by
    subst e
    rw [gx] at gi
    cases gi
    rw [dx] at di
    cases di
    cases cx
  unfold pyNext
  refine wpAny_bind (wpAny_attempt (wpAny_callSpecial?_slot (name := Str.ofString "__next__") hT slot_listiter_next (wpAny_call_entry slot_listiter_next hT entry_listiter_next ?_ (args_listiter_next _))))
  show wpAny _ _ (field (Value.ref it) 0 >>= _) _ _ _
  refine wpAny_bind (wpAny_field gi di (x := Value.ref l) rfl ?_)
  have nn : ¬ ((Value.ref l == Value.none) = true) := Bool.false_ne_true
  show wpAny _ _ (if (Value.ref l == Value.none) = true then _ else _) _ _ _
  rw [if_neg nn]
  show wpAny _ _ (field (Value.ref it) 1 >>= _) _ _ _
  refine wpAny_bind (wpAny_field gi di (x := Value.int i 0) rfl ?_)
  show wpAny _ _ (seqItems? (Value.ref l) >>= _) _ _ _
  refine wpAny_bind (wpAny_seqItems gl dl ?_)
  simp only [Int.toNat_natCast, hx]
  refine wpAny_bind (wpAny_rule (wpAny_bind (wpAny_setField gi di (by simp) ?_)))
  generalize hu : s.heap.update it (Obj.mapFields (·.setIfInBounds 0 .none)) = h0
  have g0 : ∀ b o, b ≠ it → s.heap.get? b = some o → h0.get? b = some o := fun b o nb e => by
    rw [← hu, Heap.get?_update_other _ _ (Ne.symm nb)]
    exact e
  show wpAny _ _ (newExc (Value.type "StopIteration") [] >>= _) _ _ _
  refine wpAny_bind ?_
  simp only [newExc, newTuple]
  refine wpAny_bind (wpAny_newObj_type ?_ (by size_fits))
  refine wpAny_bind (m := firstArgMember _ _) (wpAny_of_eq (a := Value.none) (by first | rfl | (simp only [firstArgMember]; rfl)) ?_)
  refine wpAny_newObj_type ?_ (by size_fits)
  have gx0 := g0 x1 ox ne gx
  have gx2 := fun (p q : Obj) => Heap.get?_push_of_some q (Heap.get?_push_of_some p gx0)
  refine HotX.raiseNew_hot ⟨hh, ox, vx, gx2 _ _, dx, cx⟩ (Nat.ne_of_lt (Heap.lt_size (Heap.get?_push_of_some _ gx0))) (Heap.get?_push_size _ rfl) rfl (by first | (simp; done) | (simp; omega)) ?_
  refine wpAny_bind (wpAny_isInstance (T := "StopIteration") (b := true) ⟨_, Heap.get?_update_self _ (Heap.get?_push_size _ rfl) rfl, rfl⟩ isSubtype_stop ?_)
  refine wpAny_pure (k _ fun b o nb e => ?_)
  have at1 := fun (p : Obj) => Heap.get?_push_of_some p (g0 b o nb e)
  rw [Heap.get?_update_other _ _ (Nat.ne_of_gt (Heap.lt_size (at1 _)))]
  exact Heap.get?_push_of_some _ (at1 _)
end

/-! ### a walk that ends while an exception is handled -/
/-- as the layer's Turn; the end asks that the handled exception stands -/
structure TurnQ (P : Program) (w : World) (K : PySem.W.Frag) (tg : Expr) (J : It) (fp : List Addr) (it : Addr) (tn : Nat → Heap → Prop) : Prop where
  me : it ∈ fp
  ob : ∀ i h, tn i h → ∀ b ∈ fp, ∃ o, h.get? b = some o ∧ ∀ v, o.data ≠ .cell v
  kp : ∀ i h h1, tn i h → (∀ b ∈ fp, ∀ o, h.get? b = some o → h1.get? b = some o) → tn i h1
  nx : ∀ (X : Cx), X.prog = P → X.w = w → X.K = K → ∀ (i : Nat) (pins : List (Addr × Obj)) (s : Shared) (σ : L2.St) (H : Hp) (E : Value → Shared → Prop), Inv X pins σ H s → (∀ b ∈ fp, FpOk X pins H b) → tn i s.heap → J.go i H →
    wpAny (model P w) X.A (pyNext (.ref it)) (fun r s1 => ∃ u, r = some u ∧ wpAny (model P w) X.A (letOwnedTupleGo tg (.ref it) u) (fun _ s2 => ∃ x H1, Inv X pins σ H1 s2 ∧ RelV x u ∧ J.yld i H x H1 ∧ tn (i + 1) s2.heap ∧ ∀ b ∈ fp, H1 b = none) E s1) E s
  en : ∀ (X : Cx), X.prog = P → X.w = w → X.K = K → ∀ (i : Nat) (x1 : Addr) (pins : List (Addr × Obj)) (s : Shared) (σ : L2.St) (H : Hp) (E : Value → Shared → Prop), Inv X pins σ H s → (∀ b ∈ fp, FpOk X pins H b) → tn i s.heap → J.stop i H → HotX.HotAt X.A x1 s.heap →
    wpAny (model P w) X.A (pyNext (.ref it)) (fun r s1 => r = none ∧ Inv X pins σ H s1) E s
  se : ∀ (B : Around) (i : Nat) (s : Shared) (Q E : Value → Shared → Prop), tn i s.heap → Q (.ref it) s → wpAny (model P w) B (pyIter (.ref it)) Q E s
theorem turnQ_list {P : Program} {w : World} {K : PySem.W.Frag} {tg : Expr} (a it : Addr) : TurnQ P w K tg (Itl K a) [it] it (fun i h => h.IsListIter it a i) where
  me := List.mem_singleton.mpr rfl
  ob := (turn_list (P := P) (w := w) (K := K) (tg := tg) a it).obj
  kp := (turn_list (P := P) (w := w) (K := K) (tg := tg) a it).keep
  se := (turn_list (P := P) (w := w) (K := K) (tg := tg) a it).self
  nx := fun X hP hw hK i pins s σ H E I hf st ⟨xs, x, hq, hx⟩ => by
    cases hP; cases hw; cases hK
    obtain ⟨us, rv, pl, _⟩ := I.list hq
    obtain ⟨u, hu, ru⟩ := rv.get hx
    have F0 := hf it (List.mem_singleton.mpr rfl)
    refine wpAny_pyNext_list_item st pl.isList (x := u) (by simpa using hu) fun h1 st1 sb => ⟨u, rfl, ?_⟩
    have J1 : Inv X pins σ H { s with heap := h1 } := I.turned (t' := s.toks) (fun b o hb e => (sb.2 b hb).trans e) F0.1 F0.2.1 F0.2.2.2.1 F0.2.2.2.2.1 F0.2.2.2.2.2
    obtain ⟨oi, gi, ci, di⟩ := id st1
    exact go_of (s := { s with heap := h1 }) gi ci di (by decide) ⟨x, H, J1, ru, ⟨rfl, fun ys hy => I.list_inj hy hq ▸ hx⟩, st1, fun b hb => (hf b hb).1⟩
  en := fun X hP hw hK i x1 pins s σ H E I hf st ⟨xs, hq, hx⟩ hot => by
    cases hP; cases hw; cases hK
    obtain ⟨us, rv, pl, _⟩ := I.list hq
    have ll := rv.length
    have hx : xs.length ≤ i := hx
    have F0 := hf it (List.mem_singleton.mpr rfl)
    exact listEnd hot st pl.isList (Array.getElem?_eq_none (by rw [List.size_toArray]; omega)) fun h1 eb => ⟨rfl, I.turned (t' := s.toks) (fun b o hb e => eb b o hb e) F0.1 F0.2.1 F0.2.2.2.1 F0.2.2.2.2.1 F0.2.2.2.2.2⟩
def PIEQ (X : Cx) (pins : List (Addr × Obj)) (σ : L2.St) (tg : Expr) (R : It → Hp → Prop) (v : Value) (s : Shared) : Prop :=
  ∃ (it : Addr) (fp : List Addr) (tn : Nat → Heap → Prop) (J : It) (H1 : Hp), v = .ref it ∧ Inv X pins σ H1 s ∧ TurnQ X.prog X.w X.K tg J fp it tn ∧ tn 0 s.heap ∧ (∀ b ∈ fp, FpOk X pins H1 b) ∧ R J H1
structure PIQ (X : Cx) (tg e : Expr) (wi : TI) : Prop where
  go : ∀ (pins : List (Addr × Obj)) (s : Shared) (σ : L2.St) (H : Hp) (R : It → Hp → Prop), Inv X pins σ H s → wi σ H R → wpAny (model X.prog X.w) X.A (eval e X.env) (fun v s1 => wpAny (model X.prog X.w) X.A (pyIter v) (PIEQ X pins σ tg R) X.xe s1) X.xe s
theorem piq_list {X : Cx} {tg e : Expr} {te : TE} (he : PE X e te) : PIQ X tg e (iList X.K te) := ⟨fun pins s σ H R I h => thn (he.run pins s σ H _ I h) fun u s1 z => by
  obtain ⟨y, H1, J1, ry, a, ey, ⟨ys, sq⟩, q⟩ := z
  cases ey
  cases ry
  obtain ⟨us, _, pl, _⟩ := J1.list sq
  have sz : ∀ o, (s1.heap.push o).get? s1.heap.objs.size = some o → True := fun _ _ => True.intro
  refine wpAny_pyIter_list pl.isList ⟨s1.heap.objs.size, [s1.heap.objs.size], _, _, H1, rfl, J1.kept (t' := s1.toks) fun b o e => Heap.get?_push_of_some _ e, turnQ_list a _, ⟨_, Heap.get?_push_size _ rfl, rfl, rfl⟩, fun b hb => ?_, q⟩
  cases List.mem_singleton.mp hb
  exact J1.fpOk (Nat.le_refl _) (J1.hok.fresh (Nat.le_refl _))⟩

/-! ### a list comprehension while an exception is handled -/
section
variable {X : Cx} {elt tg iter : Expr} {ifs : List Expr} {scope : Scope} {own : List (Str × Nat)} {pos : Pos} {wi : TI} {g : TG} {tt : TT} {te : TE}
/-- what a block starts from: its turns' states -/
def Blk (X : Cx) (s : Shared) (H : Hp) (scope : Scope) (ce : Env) (fp : List Addr) (vs : List Nat) (tn : Nat → Heap → Prop) (W : Nat → Nat → Hp → Prop) (σ : L2.St) (n : Nat) (s1 : Shared) : Prop :=
  ∃ i H1, Inv (X.blk s H scope ce fp) [] (wipe σ vs) H1 s1 ∧ tn i s1.heap ∧ (∀ b ∈ fp, H1 b = none) ∧ W i n H1
theorem blk_hot {pins : List (Addr × Obj)} {s s1 : Shared} {σ σ1 : L2.St} {H H1 : Hp} {ce : Env} {fp : List Addr} (hot : L2H.HotC X) (I : Inv X pins σ H s) (hp : ∀ b ∈ fp, FpOk X pins H b) (hs : X.stack = X.env :: X.outer) (hf : X.env.frame = some X.env.locals) (J : Inv (X.blk s H scope ce fp) [] σ1 H1 s1) :
    ∃ x1, HotX.HotAt X.A x1 s1.heap := by
  obtain ⟨p, ⟨hh, vs, dv, cv⟩, hm⟩ := hot
  obtain ⟨gp, np, nl, nf, _⟩ := I.pin p (List.mem_append_left _ hm)
  refine ⟨p.1, hh, p.2, vs, J.base.keep p.1 p.2 gp np (fun z => ?_) (fun z => ?_), dv, cv⟩
  · have z : p.1 ∈ frs X.stack := z
    rcases List.mem_cons.mp (I.stkSub p.1 z) with e | e
    · exact nl e
    · exact nf e
  · exact (hp p.1 z).2.2.2.2.2 p (List.mem_append_left _ hm) rfl
theorem lcQ (hot : L2H.HotC X) (hst : X.stack = X.env :: X.outer) (hfr : X.env.frame = some X.env.locals) (hN : X.N.Nodup) (hi : PIQ X tg iter wi) (ok : BlkOk X.N X.env.scope scope own)
    (hg : ∀ (s : Shared) (H : Hp) (C : Addr) (cl : List (Str × Addr)) (fp : List Addr), PG (X.blk s H scope (compEnvC scope cl C X.env) fp) tg g) (ht : ∀ (s : Shared) (H : Hp) (C : Addr) (cl : List (Str × Addr)) (fp : List Addr), PTs (X.blk s H scope (compEnvC scope cl C X.env) fp) ifs tt)
    (he : ∀ (s : Shared) (H : Hp) (C : Addr) (cl : List (Str × Addr)) (fp : List Addr), PE (X.blk s H scope (compEnvC scope cl C X.env) fp) elt te) (hf : ∀ x, foldedSetIterable iter X.env x = pure x := by intro _; rfl) :
    PE X (.ListComp elt [⟨tg, iter, ifs, 0⟩] scope pos) (tLc wi g tt te (own.map (·.2))) := by
  constructor
  intro pins s σ H Q I h
  rw [eval_ListComp]
  have fre : ∀ y ∈ scope.names, y.2 = .free → ∃ c, X.env.cells.lookup y.1 = some c := fun y hy e => (ok.free y hy e).elim (fun k => I.ok.has _ (.inl k)) (fun k => I.ok.has _ (.inr k))
  refine wpAny_comprehension_free (use := none) rfl hf (closure_ok fre) ok.kind (fun y hy e => by rw [ok.uniq y hy, e]) (thn (hi.go pins s σ H _ I h) fun _ s1 z1 => thn z1 fun _ s2 z2 => ?_)
  obtain ⟨it, fp, tn, J, H2, rfl, I2, T, t2, F2, q⟩ := z2
  refine wpAny_newObj_type (newEnv_comp ?_) (by show 0 ≤ sizeLine; decide)
  have hDn : H2 s2.heap.objs.size = none := I2.hok.fresh (Nat.le_refl _)
  obtain ⟨W, ⟨m0, w0⟩, turn⟩ := q _ hDn
  -- the new list
  have kk : ∀ b o, s2.heap.get? b = some o → (s2.heap.push { cls := .type "list", data := .seq ([] : List Value).toArray }).get? b = some o := fun b o e => Heap.get?_push_of_some _ e
  have I3 : Inv X pins σ (upd H2 s2.heap.objs.size (.lst [])) { s2 with heap := s2.heap.push { cls := .type "list", data := .seq ([] : List Value).toArray } } :=
    I2.laid (t' := s2.toks) kk (Nat.le_refl _) ⟨Nat.zero_le _, [], 0, .nil, Heap.get?_push_size _ rfl⟩
  have F3 : ∀ b ∈ fp, FpOk X pins (upd H2 s2.heap.objs.size (.lst [])) b ∧ b < (s2.heap.push { cls := .type "list", data := .seq ([] : List Value).toArray }).objs.size := fun b hb => by
    obtain ⟨ob, e, _⟩ := T.ob _ _ t2 b hb
    have lt := Heap.lt_size e
    exact ⟨⟨by rw [upd_ne (Nat.ne_of_lt lt)]; exact (F2 b hb).1, (F2 b hb).2⟩, by rw [Heap.size_push]; exact Nat.lt_succ_of_lt lt⟩
  have t3 : tn 0 (s2.heap.push { cls := .type "list", data := .seq ([] : List Value).toArray }) := T.kp _ _ _ t2 fun b _ o e => kk b o e
  generalize hs3 : ({ s2 with heap := s2.heap.push { cls := .type "list", data := .seq ([] : List Value).toArray } } : Shared) = s3 at I3
  have h3 : s3.heap = s2.heap.push { cls := .type "list", data := .seq ([] : List Value).toArray } := by rw [← hs3]
  rw [← h3] at F3 t3
  have B4 := block_start I3 ok hN F3
  have G1 := fun cl => hg s3 (upd H2 s2.heap.objs.size (.lst [])) s3.heap.objs.size cl fp
  have G2 := fun cl => ht s3 (upd H2 s2.heap.objs.size (.lst [])) s3.heap.objs.size cl fp
  have G3 := fun cl => he s3 (upd H2 s2.heap.objs.size (.lst [])) s3.heap.objs.size cl fp
  show codeAny _ _ (.compStart (.ListComp elt [⟨tg, iter, ifs, 0⟩] scope pos) 0 (.ref it) (.ref s2.heap.objs.size) (compEnvC scope (cellsFrom (s3.heap.objs.size + 1) scope.names (cloFrom X.env.cells scope.names [])) s3.heap.objs.size X.env)) (compPost (model X.prog X.w) X.A X.xe none (EP X pins σ Q) (.ref s2.heap.objs.size) s3.heap.objs.size) { s3 with heap := pushCells (s3.heap.push { cls := .type "dict", data := .dict #[] }) scope.names }
  have no3 : ∀ b ∈ fp, (upd H2 s2.heap.objs.size (.lst [])) b = none := fun b hb => (F3 b hb).1.1
  generalize s2.heap.objs.size = D at *
  generalize cellsFrom (s3.heap.objs.size + 1) scope.names (cloFrom X.env.cells scope.names []) = cl at *
  have G1 := G1 cl
  have G2 := G2 cl
  have G3 := G3 cl
  have cL : (compEnvC scope cl s3.heap.objs.size X.env).locals = s3.heap.objs.size := rfl
  generalize compEnvC scope cl s3.heap.objs.size X.env = ce at *
  generalize upd H2 D (.lst []) = H3 at *
  have t4 : tn 0 (pushCells (s3.heap.push { cls := .type "dict", data := .dict #[] }) scope.names) := T.kp _ _ _ t3 fun b _ o e => pushCells_keeps _ _ _ _ (Heap.get?_push_of_some _ e)
  have fpo : ∀ {τ : L2.St} {H5 : Hp} {s5 : Shared}, Inv (X.blk s3 H3 scope ce fp) [] τ H5 s5 → (∀ b ∈ fp, H5 b = none) → ∀ b ∈ fp, FpOk (X.blk s3 H3 scope ce fp) [] H5 b := fun {τ H5 s5} J5 n5 b hb =>
    ⟨n5 b hb, (J5.ok.exf b hb).1, J5.ok.exfs b hb, .inl hb, fun x c e => (J5.ok.exf b hb).2 x c e, fun p hp => by cases hp⟩
  have loop : codeAny (model X.prog X.w) X.A (.compLoop (.ListComp elt [⟨tg, iter, ifs, 0⟩] scope pos) 0 (.ref it) (.ref D) ce) (compPost (model X.prog X.w) X.A X.xe none (EP X pins σ Q) (.ref D) s3.heap.objs.size) { s3 with heap := pushCells (s3.heap.push { cls := .type "dict", data := .dict #[] }) scope.names } := by
    refine compLoop_any (Blk X s3 H3 scope ce fp (own.map (·.2)) tn W σ) (fun n s5 ⟨i, H5, J5, t5, n5, w5⟩ => ?_) m0 ⟨0, H3, B4, t4, no3, w0⟩
    rcases turn i n H5 w5 with ⟨stop, qq⟩ | ⟨go, Nx, hNx, step⟩
    · obtain ⟨x1, ha⟩ := blk_hot hot I3 (fun b hb => (F3 b hb).1) hst hfr J5
      refine thnF (T.en (X.blk s3 H3 scope ce fp) rfl rfl rfl i x1 [] s5 _ H5 (fun _ _ => False) J5 (fpo J5 n5) t5 stop ha) fun r s6 ⟨hr, J6⟩ => ?_
      cases hr
      have K6 : Inv X pins σ H5 s6 := I3.call' (ch := fp) J6.os J6.base J6.hok J6.bare fun b hb => ⟨(F3 b hb).1.2.2.2.1, (F3 b hb).1.2.1, (F3 b hb).1.2.2.2.2.1, (F3 b hb).1.2.2.2.2.2⟩
      have nC : H5 s3.heap.objs.size = none := cL ▸ (show H5 ce.locals = none from J6.free)
      obtain ⟨m, hn, _⟩ := J6.loc
      obtain ⟨f0, f1, f2, f3, f4, f5⟩ := I3.fpOk (H' := H5) (Nat.le_refl _) nC
      exact ⟨m, cL ▸ hn, fun h7 sb => ⟨.ref D, H5, K6.turned (t' := s6.toks) (fun b o hb e => (sb.2 b hb).trans e) f0 f1 f3 f4 f5, rfl, qq⟩⟩
    · refine thnF (T.nx (X.blk s3 H3 scope ce fp) rfl rfl rfl i [] s5 _ H5 (fun _ _ => False) J5 (fpo J5 n5) t5 go) fun r s6 ⟨u, hr, z6⟩ => ?_
      cases hr
      refine thnF z6 fun _ s7 ⟨x, H7, J7, r7, y7, t7, n7⟩ => ?_
      refine thnF (G1.run _ s7 _ H7 x u _ (J7.pinned (fpo J7 n7) (T.ob _ _ t7)) r7 (step x H7 y7)) fun _ s8 ⟨τ, H8, J8, hw, q8⟩ => ?_
      refine thnF (G2.run _ s8 τ H8 _ J8 q8) fun b s9 ⟨H9, J9, q9⟩ => ?_
      have fin : ∀ {s' : Shared} {H' : Hp}, Inv (X.blk s3 H3 scope ce fp) ([] ++ pinsAt fp s7.heap) τ H' s' → Nx H' → ∃ m, m < n ∧ Blk X s3 H3 scope ce fp (own.map (·.2)) tn W σ m s' := fun {s' H'} J' nx => by
        obtain ⟨m1, lt, w1⟩ := hNx H' nx
        have at1 : ∀ b ∈ fp, ∀ o, s7.heap.get? b = some o → s'.heap.get? b = some o ∧ H' b = none := fun b hb o e => by
          have z := J'.pin (b, o) (List.mem_append_right _ (List.mem_append_right _ (mem_pinsAt hb e)))
          exact ⟨z.1, z.2.1⟩
        refine ⟨m1, lt, i + 1, H', (J'.unpinned (pins := [])).weak (by rw [← hw, wipe_length]) (fun j v e => (wipe_some (hw ▸ e)).1), T.kp _ _ _ t7 fun b hb o e => (at1 b hb o e).1, fun b hb => ?_, w1⟩
        obtain ⟨o, e, _⟩ := T.ob _ _ t7 b hb
        exact (at1 b hb o e).2
      cases b with
      | false => exact fin J9 (by simpa using q9)
      | true =>
        have q9 := (by simpa using q9 : te τ H9 fun y H4 => ∃ acc, H4 D = some (.lst acc) ∧ acc.length < sizeLine ∧ Nx (upd H4 D (.lst (acc ++ [y]))))
        exact thnF (G3.run _ s9 τ H9 _ J9 q9) fun z s10 ⟨yv, H10, J10, r10, acc, hD10, hz10, nx⟩ => app_ok (X := X.blk s3 H3 scope ce fp) J10 hD10 hz10 r10 fun s11 J11 => fin J11 nx
  exact codeAny_compStart_list loop (T.se X.A 0 _ _ _ t4 loop)
end
end Ev
namespace Ev
open PySem L2 PySem.Spec PyProof.Rows
/-! ### defs that are called while the exception p is handled -/
structure FnX (P : Program) (w : World) (K : PySem.W.Frag) (mg : Str → Option Value) (base : Heap) (CX : CXT) (p : Addr × Obj) (k : Nat) (f : Addr) (fd : FuncData) (ps : List Str) (sp : Sp) : Prop where
  ln : ∀ us H Q E, sp us H Q E → us.length = ps.length
  go : ∀ (B : Around) (out : List Env) (s : Shared) (H : Hp) (args : Args) (ws : List Value) (us : List V) (Q : VK) (E : XK), L2H.RoomH k B → L2H.Hot1 B p → L2H.PinOk out H s p → Env0 P w K mg base B out s H → BindsTo s fd args (ps.zip ws) → Vals us ws → sp us H Q E →
    codeAny (model P w) B (.call (.ref f) args) (CR CX out P w H s Q E) s
theorem fnX_ {G : PC} {st : Stmt} {P : Program} {w : World} {mg : Str → Option Value} {base : Heap} {x qual : Str} {f : Addr} {fd : FuncData} {N ps : List Str} {k np nl : Nat} {p : Addr × Obj} {body : SS} (Fu : Fun G.K x qual st f fd) (Sc : FnScope N ps (defScope st)) (hp : ps.length = np) (hn : N.length = nl)
    (hb : ∀ (cd : Value) (B : Around) (out : List Env) (s : Shared) (H : Hp) (E : XK), L2H.Hot1 B p → L2H.RoomH k (B.deeper (envOfC qual (defScope st) s.heap.objs.size f cd)) →
      PSs (L2H.cxH (L2N.CX P w) P w G.K mg base N qual (defScope st) f cd B out s H E p) (defBody st) (tS G (fun c d _ H => E c d H) body)) : FnX P w G.K mg base (L2N.CX P w) p (k + 1) f fd ps (spF G np (runFn np nl body)) := by
  obtain ⟨_, _, _, _, _, _, cd, _, _, e, lk, hc⟩ := Fu.ex
  subst e
  have sl : ∀ us H Q E, spF G np (runFn np nl body) us H Q E → us.length = ps.length := fun us H Q E h => (spF_len us H Q E h).trans hp.symm
  refine ⟨sl, fun B out s H args ws us Q E hr hot hpin e0 hbi r hsp => ?_⟩
  have KX : G.K.In s.heap := e0.mod.kin.keeps fun b o e => (e0.bs b o e).1
  have nl0 : s.heap.NoLimit := e0.mod.nolimit.keeps fun b o e => (e0.bs b o e).1
  refine codeAny_call_function hr.depth (KX _ _ lk) rfl Sc.co Sc.gen rfl (PySem.W.codeRec_of KX hc) (hbi _ _ _ _ ?_)
  refine wpAny_newFunctionEnv_cells Sc.kind (fun y hy => ?_) fun env he s1 z => ?_
  · rcases Sc.par y.1 (List.of_mem_zip (show (y.1, y.2) ∈ _ from hy)).1 with q | q
    · exact .inl q
    · exact .inr ⟨q, PySem.W.cellsFrom_some _ _ _ (.inl q)⟩
  subst he
  refine ⟨nl0.keeps z.toInCall.keep, codeAny_func ?_⟩
  have I := L2H.inv_startH (CX := L2N.CX P w) (E := E) (cd := cd) (f := f) (qual := qual) Sc hpin e0 (sl _ _ _ _ hsp) r z
  have t := (hb cd B out s H E hot (hr.deeper _)).run [] s1 (L2.start N us) H { nx := fun _ H' => Q .non H', rt := Q } I (by
    obtain ⟨F, A, ρ, as, S, ra, el, rs, q⟩ := hsp
    refine ⟨F, A, ρ, as.map some ++ List.replicate (nl - np) none, S, ?_, rs, ?_⟩
    · have := start_rep ra (nl - np)
      unfold L2.start
      rw [hn, ra.len, el]
      exact this
    · revert q
      unfold runFn
      simp only [el, if_true]
      cases body (as.map some ++ List.replicate (nl - np) none) S with
      | nx L S' => exact fun q A' ρ' H' _ x r _ => q A' ρ' H' x r .non rfl
      | rt v S' => exact fun q A' ρ' H' w x r rw => q A' ρ' H' x r w rw
      | ex y L S' => exact fun q A' ρ' H' _ c d x r _ rx => q A' ρ' H' c d x r rx
      | bk _ _ => exact fun q => q.elim
      | ct _ _ => exact fun q => q.elim
      | bad => exact fun q => q.elim)
  refine wpAny_mono t (fun fl s2 h2 => ?_) fun _ _ h2 => h2
  cases fl with
  | next =>
    obtain ⟨_, H2, J, q⟩ := h2
    exact ⟨.non, H2, J.os, J.bare, J.base, J.hok, rfl, q⟩
  | ret u =>
    obtain ⟨v, _, H2, J, rv, q⟩ := h2
    exact ⟨v, H2, J.os, J.bare, J.base, J.hok, rv, q⟩
  | brk => obtain ⟨_, _, _, q⟩ := h2; exact q.elim
  | cont => obtain ⟨_, _, _, q⟩ := h2; exact q.elim
/-- the context holds the handled exception p -/
structure HotP (X : Cx) (p : Addr × Obj) : Prop where
  h1 : L2H.Hot1 X.A p
  pn : p ∈ X.pn
theorem HotP.c {X : Cx} {p : Addr × Obj} (h : HotP X p) : L2H.HotC X := ⟨p, h.h1, h.pn⟩
theorem pe_callX {X : Cx} {CX : CXT} {p : Addr × Obj} {k : Nat} {f : Addr} {fd : FuncData} {ps : List Str} {sp : Sp} {E : L2.St → XK} {x : Str} {q pos : Pos} {e : Expr} {es : List Expr} {t : TA} (Fu : FnX X.prog X.w X.K X.mg X.base CX p k f fd ps sp) (hr : L2H.RoomH k X.A) (hp : HotP X p) (hg : Gl X x) (hm : X.mg x = some (.ref f))
    (hk : PySem.W.keepIn X.K (.ref f) = true) (hb : Binds X.K fd ps []) (hx : ∀ σ, PassesAt CX X σ (E σ)) (ha : PA X (e :: es) t) (hd : (x == ("__debug__" : Str)) = false := by decide) (h1 : starEach (e :: es) X.env = (false, eval e X.env) :: starEach es X.env := by rfl)
    (h2 : (backTo pos (starEach es X.env)).any (·.1) = false := by rfl) : PE X (.Call (.Name x q) (e :: es) [] pos) (tCallS sp E t) := by
  constructor
  intro pins s σ H Q I h
  refine wpAny_Call_Name_kw (ld_glob I hg hm (PySem.W.callWith_K (h₀ := X.base) I.ok.mod.kin hk (thn (ha.run pos pins s σ H _ I h) fun ws s1 z => ?_) h1 h2) hd)
  obtain ⟨us, H1, J, r, q⟩ := z
  refine ⟨J.kIn, ?_⟩
  have b := hb s1 ws J.kIn (by rw [List.append_nil, ← r.length]; exact Fu.ln _ _ _ _ q)
  rw [List.append_nil] at b
  obtain ⟨g1, g2, g3, g4, g5⟩ := J.pin p (List.mem_append_left _ hp.pn)
  refine wpAny_call (codeAny_mono (Fu.go X.A X.stack s1 H1 ⟨ws, []⟩ ws us Q (E σ) hr hp.h1 ⟨g1, g2, fun hm => (List.mem_cons.mp (J.stkSub p.1 hm)).elim g3 g4, g5⟩ J.env0 b r q) fun r s2 z => ?_)
  match r, z with
  | .error e, z => exact hx σ pins H1 s1 e s2 J z
  | .ok (.ret u), z => exact J.after z
  | .ok .next, z => exact z.elim
  | .ok .brk, z => exact z.elim
  | .ok .cont, z => exact z.elim
end Ev
set_option linter.all false
set_option Elab.async false
set_option maxRecDepth 100000
set_option maxHeartbeats 2000000
/-! try with several except clauses, each with a name or without one -/
namespace Ev
open PySem L2 PySem.Spec PyProof.Rows
def unE (D : Ends) (i : Nat) : Ends := { nx := fun σ H => D.nx (σ.set i none) H, rt := D.rt, bk := fun σ H => D.bk (σ.set i none) H, ct := fun σ H => D.ct (σ.set i none) H }
abbrev TC := Addr → Value → Option Addr → TS
def tsO (o : Option Nat) (ts : TC) (a : Addr) (cls : Value) (d : Option Addr) (D : Ends) (σ : L2.St) (H : Hp) : Prop := match o with
  | none => ts a cls d D σ H
  | some i => ts a cls d (unE D i) (σ.set i (some (.ref a))) H
def wN (K : PySem.W.Frag) (Wout : WX) (D : Ends) : List (Value × Option Nat × TC) → WX
  | [] => Wout
  | (c, o, ts) :: r => fun cls d σ H => ∃ b, PySem.W.exmOne K cls c = some b ∧ (b = true → ∀ a, H a = none → tsO o ts a cls d D σ H) ∧ (b = false → wN K Wout D r cls d σ H)
/-- the clauses, as written and as read -/
inductive HsN (X : Cx) : List ExceptHandler → List (Value × Option Nat × TC) → Prop
  | nil : HsN X [] []
  | as {x n : Str} {i : Nat} {c : Value} {ts : TC} {b0 : Stmt} {bs : List Stmt} {p1 p2 : Pos} {hs : List ExceptHandler} {l : List (Value × Option Nat × TC)} (hi : X.N[i]? = some n) (hl : X.env.kindOf n = some .local) (hc : Names X x c)
      (su : ∀ (a : Addr) (o : Obj) (cls : Value) (d : Option Addr) (pn : List (Addr × Obj)), L2N.Zn cls d o → (∃ vs, o.data = .fields vs) → PSs (X.suite a ((a, o) :: pn)) (b0 :: bs) (ts a cls d)) (r : HsN X hs l) : HsN X (.ExceptHandler (some (.Name x p1)) (some n) (b0 :: bs) p2 :: hs) ((c, some i, ts) :: l)
  | no {x : Str} {c : Value} {ts : TC} {b0 : Stmt} {bs : List Stmt} {p1 p2 : Pos} {hs : List ExceptHandler} {l : List (Value × Option Nat × TC)} (hc : Names X x c)
      (su : ∀ (a : Addr) (o : Obj) (cls : Value) (d : Option Addr) (pn : List (Addr × Obj)), L2N.Zn cls d o → (∃ vs, o.data = .fields vs) → PSs (X.suite a ((a, o) :: pn)) (b0 :: bs) (ts a cls d)) (r : HsN X hs l) : HsN X (.ExceptHandler (some (.Name x p1)) none (b0 :: bs) p2 :: hs) ((c, none, ts) :: l)
section
variable {X : Cx} {body : List Stmt} {h0 : ExceptHandler} {hs : List ExceptHandler} {l : List (Value × Option Nat × TC)} {pos : Pos} {tb : WX → TS} {Wout : WX} {pins : List (Addr × Obj)} {D : Ends}
/-- the exception lies on the ground of the def's state; the clauses are asked in turn -/
theorem clauses {a : Addr} {B : Heap} {cls : Value} {d : Option Addr} {sI s0 : Shared} {h : Heap} {σ : L2.St} {H : Hp} (ok : X.Ok) (hst : X.stack = X.env :: X.outer) (hf : X.env.frame = some X.env.locals) (hN : X.N.Nodup) (tk : L2N.Takes X Wout)
    (J : Inv X pins σ H sI) (nb : ∀ b o, sI.heap.get? b = some o → b ∉ frs X.stack → B.get? b = some o) (na : H a = none) (os : s0.os = sI.os) (ag : AllBare s0.gens) (fl : HandSPX.FlyingZ B (X.env :: X.outer) a (L2N.Zn cls d) h) (up : sI.heap.UpToSlots h) :
    ∀ {hs : List ExceptHandler} {l : List (Value × Option Nat × TC)}, HsN X hs l → wN X.K Wout D l cls d σ H → wpAny (model X.prog X.w) X.A (handleBy (.ref a) X.env hs) (SP X pins D) X.xe { s0 with heap := h } := by
  have away : ∀ {h1 : Heap} {o : Obj} {vs : Array Value}, h1.FunFrames B (X.env :: X.outer) → h1.get? a = some o → o.data = .fields vs → a ∉ frs (X.env :: X.outer) := fun {h1 o vs} ff e dd hm => by
    obtain ⟨_, o1, e1, q⟩ := ff.mem hm
    rw [e] at e1
    cases e1
    exact q _ dd
  obtain ⟨o3, v3, g3, z3, d3⟩ := fl.there
  have nfr := away fl.2.2.1 g3 d3
  have nL : a ≠ X.env.locals := fun z => nfr (List.mem_filterMap.mpr ⟨_, List.mem_cons_self, hf.trans (congrArg some z.symm)⟩)
  have nF : a ∉ X.fs := fun hm => by
    obtain ⟨e, he, q⟩ := List.mem_filterMap.mp hm
    exact nfr (List.mem_filterMap.mpr ⟨e, .tail _ he, q⟩)
  have J3 : Inv X pins σ H { s0 with heap := h } := J.landed nb fl.1 up os ag
  have S3 := J3.suite g3 d3 na nL nF
  have LT : PySem.W.Looks (model X.prog X.w) h (typeOf (.ref a)) cls := fun A Q E s k q => wpAny_typeOf_ref (k _ _ g3) (by rw [z3.1]; exact q)
  have ask : ∀ {x : Str} {c : Value} {p1 : Pos} {Q : Value → Shared → Prop} {E : Value → Shared → Prop}, Names X x c → Q c { s0 with heap := h } → wpAny (model X.prog X.w) (X.A.mark (some (.ref a))) (eval (.Name x p1) X.env) Q E { s0 with heap := h } := fun {x c p1 Q E} hc q => by
    obtain ⟨hg, hdb, hm | ⟨hm, hv, hn⟩⟩ := hc
    · exact ld_glob (X := X.suite a ((a, o3) :: (X.pn ++ pins))) S3 hg hm q hdb
    · exact ld_blt (X := X.suite a ((a, o3) :: (X.pn ++ pins))) S3 hg hm hv q hn hdb
  intro hs l hk
  induction hk with
  | nil =>
    intro w
    refine wpAny_handleBy_nil ?_
    obtain ⟨_, _, _, ot, vt, T, _, _, gt, _, dt, t1, _⟩ := id fl
    have nn : ¬ ((Value.ref T == Value.none) = true) := by simp
    have fin : wpAny (model X.prog X.w) X.A (setFlight (.ref a) X.env.frame) (fun _ s4 => wpAny (model X.prog X.w) X.A (throw (.ref a) : Sem Flow) (SP X pins D) X.xe s4) X.xe { s0 with heap := h } := hf ▸
      HandSPX.setFlight_upZ fl fun h4 hh4 up4 => wpAny_throw (tk _ _ ⟨a, B, sI, pins, σ, H, cls, d, rfl, J, nb, up.trans up4, .inr (.inr (hst ▸ hh4)), na, os, ag, w⟩)
    unfold PySem.passOn
    refine wpAny_bind (wpAny_field gt dt t1 ?_)
    rw [if_neg nn]
    first
      | exact wpAny_bind (wpAny_pure (wpAny_bind fin))
      | exact wpAny_bind fin
  | @as x n i c ts b0 bs p1 p2 hs l hi hl hc su r ih =>
    intro ⟨b, e1, yes, no⟩
    refine wpAny_handleBy_cons (codeAny_handlers_test (ask hc ((PySem.W.exm_one (M := model X.prog X.w) J3.kIn LT e1).here ?_))) (by intro q; cases q)
    cases b with
    | false => exact ih (no rfl)
    | true =>
      refine codeAny_handlers_suite_as (HandSPX.lands_againZ fl fun h4 fl4 up4 => ?_)
      obtain ⟨o4, v4, g4, z4, d4⟩ := fl4.there
      have J4 : Inv X pins σ H { s0 with heap := h4 } := J.landed nb fl4.1 (up.trans up4) os ag
      refine store_ok (X := X.suite a ((a, o4) :: (X.pn ++ pins))) (v := .ref a) (J4.suite g4 d4 na nL nF) hN hi (.inl hl) rfl (fun s5 S5 => ?_) (.inr hl)
      have out : ∀ {s6 : Shared} {σ6 : L2.St} {H6 : Hp} {Q : Shared → Prop}, Inv (X.suite a ((a, o4) :: (X.pn ++ pins))) [] σ6 H6 s6 → (∀ s7, Inv X pins (σ6.set i none) H6 s7 → Q s7) → wpAny (model X.prog X.w) X.A (do bindName X.env n .none; unbindBehindTheSuite X.env n p2) (fun _ s7 => Q s7) X.xe s6 :=
        fun {s6 σ6 H6 Q} S6 hq => gone_ok (S6.unsuite ok) hN hi hl hq
      refine wpAny_mono ((su a o4 cls d (X.pn ++ pins) z4 ⟨_, d4⟩).run [] s5 _ H _ S5 (yes rfl a na)) (fun f s6 z => ?_) (fun _ _ z => z.elim)
      match f, z with
      | .next, ⟨_, _, S6, q6⟩ => exact out S6 fun s7 J7 => ⟨_, _, J7, q6⟩
      | .brk, ⟨_, _, S6, q6⟩ => exact out S6 fun s7 J7 => ⟨_, _, J7, q6⟩
      | .cont, ⟨_, _, S6, q6⟩ => exact out S6 fun s7 J7 => ⟨_, _, J7, q6⟩
      | .ret u, ⟨_, _, _, S6, r6, q6⟩ => exact out S6 fun s7 J7 => ⟨_, _, _, J7, r6, q6⟩
  | @no x c ts b0 bs p1 p2 hs l hc su r ih =>
    intro ⟨b, e1, yes, no⟩
    refine wpAny_handleBy_cons (codeAny_handlers_test (ask hc ((PySem.W.exm_one (M := model X.prog X.w) J3.kIn LT e1).here ?_))) (by intro q; cases q)
    cases b with
    | false => exact ih (no rfl)
    | true =>
      refine codeAny_handlers_suite (HandSPX.lands_againZ fl fun h4 fl4 up4 => ?_)
      obtain ⟨o4, v4, g4, z4, d4⟩ := fl4.there
      have J4 : Inv X pins σ H { s0 with heap := h4 } := J.landed nb fl4.1 (up.trans up4) os ag
      refine wpAny_mono ((su a o4 cls d (X.pn ++ pins) z4 ⟨_, d4⟩).run [] _ _ H _ (J4.suite g4 d4 na nL nF) (yes rfl a na)) (fun f s6 z => ?_) (fun _ _ z => z.elim)
      match f, z with
      | .next, ⟨_, _, S6, q6⟩ => exact ⟨_, _, S6.unsuite ok, q6⟩
      | .brk, ⟨_, _, S6, q6⟩ => exact ⟨_, _, S6.unsuite ok, q6⟩
      | .cont, ⟨_, _, S6, q6⟩ => exact ⟨_, _, S6.unsuite ok, q6⟩
      | .ret u, ⟨_, _, _, S6, r6, q6⟩ => exact ⟨_, _, _, S6.unsuite ok, r6, q6⟩
theorem ps_tryN (hst : X.stack = X.env :: X.outer) (hf : X.env.frame = some X.env.locals) (hN : X.N.Nodup) (tk : L2N.Takes X Wout)
    (hb : ∀ (W : WX) (pn : List (Addr × Obj)) (xe : Value → Shared → Prop), L2N.Takes (X.tr pn xe) W → PassesOwn (model X.prog X.w) X.A X.env xe → PSs (X.tr pn xe) body (tb W)) (hh : HsN X (h0 :: hs) l) :
    PS X (.Try body (h0 :: hs) [] [] pos) (fun D σ H => tb (wN X.K Wout D l) D σ H) := by
  constructor
  intro pins s σ H D I h
  have ok := I.ok
  have hfr : X.A.frames = some (X.env :: X.outer) := by rw [ok.frames, hst]
  let after := fun e s1 => wpAny (model X.prog X.w) X.A (noteFrame e X.env) (fun _ s2 => wpAny (model X.prog X.w) X.A (setFlight e none) (fun _ s3 => wpAny (model X.prog X.w) X.A (handleBy e X.env (h0 :: hs)) (SP X pins D) X.xe s3) X.xe s2) X.xe s1
  have body_ := (hb (wN X.K Wout D l) (X.pn ++ pins) after (fun u s1 xx => ?_) PassesOwn.looking).run [] s σ H D (I.toTry _) h
  · refine wpAny_Try_except (wpAny_mono body_ (fun f s1 z => ?_) fun _ _ z => z)
    match f, z with
    | .next, ⟨σ1, H1, J1, q⟩ => exact wpAny_execs_nil ⟨σ1, H1, J1.ofTry ok, q⟩
    | .brk, ⟨σ1, H1, J1, q⟩ => exact ⟨σ1, H1, J1.ofTry ok, q⟩
    | .cont, ⟨σ1, H1, J1, q⟩ => exact ⟨σ1, H1, J1.ofTry ok, q⟩
    | .ret u, ⟨v, σ1, H1, J1, r, q⟩ => exact ⟨v, σ1, H1, J1.ofTry ok, r, q⟩
  · obtain ⟨a, B, sI, pins1, σ1, H1, cls, d, rfl, J1, nb, up, sky, na, os, ag, w⟩ := xx
    have sky1 : Sky B (X.env :: X.outer) a (L2N.Zn cls d) X.env.locals s1.heap := hst ▸ sky
    show wpAny (model X.prog X.w) X.A (noteFrame (.ref a) X.env) _ _ _
    refine L2N.Sky.land L2N.Zn.steady hfr hf sky1 fun h3 fl3 up3 => ?_
    exact clauses (s0 := s1) ok hst hf hN tk (J1.ofTry ok) nb na os ag fl3 (up.trans up3) hh w
end
end Ev
set_option linter.all false
set_option Elab.async false
set_option maxRecDepth 100000
set_option maxHeartbeats 2000000
/-! what a try says of the evaluator; the caught exception's class and fields -/
namespace Ev
open PySem L2 PySem.Spec
variable {F F1 A A1 A2 : Addr → Prop} {ρ ρ1 ρ2 : List Addr} {H H1 H2 : Hp} {K : PySem.W.Frag} {G : PC} {S S1 S2 : Store} {X : Cx} {W : WX}
variable {a b c e o : Expr} {es : List Expr} {fa fb fc : SE} {as : SA} {pos : Pos} {st : Stmt}
/-- a caught exception: its address, its dict's, its class's number -/
structure Cau where
  a : Addr
  d : Option Addr
  k : Nat
/-- an except clause: which classes it catches, the slot of its name, its suite -/
structure Cl where
  m : Nat → Option Bool
  o : Option Nat
  h : Cau → SS
def SR.noex : SR → SR
  | .ex .. => .bad
  | r => r
noncomputable def catchN (xf : Nat → List Str) (x : Ex) (L : Loc) (S : Store) : List Cl → SR
  | [] => .ex x L S
  | c :: r => match c.m x.k with
    | some true => allR fun a d => (match c.o with
      | some i => (c.h ⟨a, d, x.k⟩ (L.set i (some (.exc a d (xf x.k) x.fs))) S).unset i
      | none => (c.h ⟨a, d, x.k⟩ L S).noex)
    | some false => catchN xf x L S r
    | none => .bad
noncomputable def sTryN (xf : Nat → List Str) (f : SS) (cl : List Cl) : SS := fun L S => match f L S with
  | .ex x L1 S1 => catchN xf x L1 S1 cl
  | r => r
def tsY (G : PC) (h : Cau → SS) : TC := fun a cls d D σ H => ∃ k, cls = .ref (G.xcl k) ∧ tS G noW (h ⟨a, d, k⟩) D σ H
inductive HsT (G : PC) : List Cl → List (Value × Option Nat × TC) → Prop
  | nil : HsT G [] []
  | cons {c : Cl} {C : Value} {r : List Cl} {l : List (Value × Option Nat × TC)} (hm : ∀ k b, c.m k = some b → PySem.W.exmOne G.K (.ref (G.xcl k)) C = some b) (t : HsT G r l) : HsT G (c :: r) ((C, c.o, tsY G c.h) :: l)
theorem noex_ok {D : Ends} : ∀ {r : SR}, StOk G F W D A ρ H r.noex → StOk G F noW D A ρ H r
  | .nx .., q => q
  | .bk .., q => q
  | .ct .., q => q
  | .rt .., q => q
  | .ex .., q => q.elim
  | .bad, q => q
theorem catch_ok {xf : Nat → List Str} {D : Ends} {x : Ex} {L : Loc} {σ : L2.St} {cls : Value} {d : Option Addr} (hx : ∀ k, G.xfl k = xf k) (l : RL G.K A H ρ L σ) (rs : RS G F A ρ S H) (rx : RepX G x H cls d) :
    ∀ {cl : List Cl} {ts : List (Value × Option Nat × TC)}, HsT G cl ts → StOk G F W D A ρ H (catchN xf x L S cl) → wN G.K W D ts cls d σ H := fun {cl ts} ht => by
  obtain ⟨rfl, rx⟩ := rx
  induction ht with
  | nil => exact fun q => q A ρ H σ (.ref (G.xcl x.k)) d Ext.refl rs l ⟨rfl, rx⟩
  | @cons c C r l' hm t ih =>
    unfold catchN
    cases e : c.m x.k with
    | none => exact fun q => q.elim
    | some b =>
      refine fun q => ⟨b, hm _ _ e, fun hb a ha => ?_, fun hb => ih (by subst hb; exact q)⟩
      subst hb
      have q := allR_at q a d
      unfold tsO
      revert q
      cases c.o with
      | none => exact fun q => ⟨x.k, rfl, F, A, ρ, L, S, l, rs, noex_ok q⟩
      | some i =>
        intro q
        refine ⟨x.k, rfl, F, A, ρ, _, S, l.set i (w := .exc a d (xf x.k) x.fs) (v := .ref a) ⟨rfl, ?_⟩, rs, unset_ok q⟩
        refine rx.imp (fun z => z) fun z => ?_
        obtain ⟨dx, vs, e1, e2, p⟩ := z
        exact ⟨dx, vs, e1, by rw [← hx]; exact e2, RepDs.weak (fun _ _ => True.intro) _ _ p⟩
theorem tryN_ {xf : Nat → List Str} {f : SS} {cl : List Cl} {ts : List (Value × Option Nat × TC)} (hx : ∀ k, G.xfl k = xf k) (ht : HsT G cl ts) (hp : PS X st (fun D σ H => tS G (wN G.K W D ts) f D σ H)) : PS X st (tS G W (sTryN xf f cl)) := PS.imp hp fun D σ H q => by
  obtain ⟨F, A, ρ, L, S, l, r, q⟩ := q
  refine ⟨F, A, ρ, L, S, l, r, ?_⟩
  revert q
  unfold sTryN
  cases f L S with
  | nx L1 S1 => exact fun q => q
  | bk L1 S1 => exact fun q => q
  | ct L1 S1 => exact fun q => q
  | rt v S1 => exact fun q => q
  | bad => exact fun q => q
  | ex x L1 S1 => exact fun q A' ρ' H' σ' cls d x1 r1 l1 rx => catch_ok hx l1 r1 rx ht (StOk.shift x1 q)
theorem tsY_ {h : Cau → SS} {a : Addr} {cls : Value} {d : Option Addr} {sts : List Stmt} (g : ∀ k, cls = .ref (G.xcl k) → PSs X sts (tS G noW (h ⟨a, d, k⟩))) : PSs X sts (tsY G h a cls d) :=
  ⟨fun pins s σ H D I ⟨k, e, q⟩ => (g k e).run pins s σ H D I q⟩

/-! ### isinstance(e, C), e.f -/
/-- p holds the caught exception y -/
structure PinX (G : PC) (p : Addr × Obj) (y : Cau) : Prop where
  a : p.1 = y.a
  z : L2N.Zn (.ref (G.xcl y.k)) y.d p.2
  f : ∃ vs, p.2.data = .fields vs
def isY (y : Cau) (b : Option Bool) (v : Val) (S : Store) : R Val := match v, b with
  | .exc a d _ _, some b => if a = y.a ∧ d = y.d then .ok (.d (.bl b)) S else .bad
  | _, _ => .bad
def eIsY (y : Cau) (t : Nat → Option Bool) (e : SE) : SE := fun L S => (e L S).bind (isY y (t y.k))
def atY (y : Cau) (j : Nat) (f : Str) (v : Val) (S : Store) : R Val := match v with
  | .exc a d nm fs => if a = y.a ∧ d = y.d ∧ nm[j]? = some f ∧ nm.Nodup then R.of fs[j]? S else .bad
  | _ => .bad
def eAtY (y : Cau) (j : Nat) (f : Str) (e : SE) : SE := fun L S => (e L S).bind (atY y j f)
def rIsY (K : PySem.W.Frag) (y : Cau) (D : Addr) : List V → Hp → VK → Prop := fun xs H Q => ∃ (c : V) (cv : Value) (b : Bool), xs = [.ref y.a, c] ∧ (∀ u, RelV c u → u = cv) ∧ (∀ dx, y.d = some dx → ∃ fs, H dx = some (.xd fs)) ∧ PySem.W.kitOne K (.ref D) cv = some b ∧ Q (.bl b) H
theorem call_isY {p : Addr × Obj} {y : Cau} (hK : X.K = G.K) (C : ExcC X.K (G.xcl y.k)) (hp : p ∈ X.pn) (hy : PinX G p y) : CallR X (.builtin "isinstance") (rIsY X.K y (G.xcl y.k)) := fun pins s σ H xs us Q I r h => by
  obtain ⟨c, cv, b, rfl, hc, hd, e, q⟩ := h
  obtain ⟨u1, u2, rfl, r1, r2⟩ := vals2 r
  cases (show u1 = Value.ref y.a from r1)
  cases hc _ r2
  obtain ⟨ga, _⟩ := I.pin p (List.mem_append_left _ hp)
  obtain ⟨cd, hcd, _⟩ := PySem.W.any_some C.hd
  have hcl : (PySem.W.clsIn X.K (G.xcl y.k)).isSome = true := by rw [hcd]; rfl
  obtain ⟨vs, hv⟩ := hy.f
  have no : PySem.W.notCls p.2 = true := by unfold PySem.W.notCls; rw [hv] <;> rfl
  rw [hy.a] at ga
  have : ∃ od, PySem.W.InstAt s.heap y.a p.2 (G.xcl y.k) od := by
    have dz := hy.z.2.1
    cases dq : y.d with
    | none => exact ⟨none, ga, hy.z.1, no, by rw [dz, dq]; exact True.intro⟩
    | some dx =>
      obtain ⟨fs, hf⟩ := hd dx dq
      obtain ⟨mA, hns, _⟩ := (show ObjOk X.prog X.w H s.heap dx (.xd fs) from I.hok dx _ hf)
      obtain ⟨od, ho, _⟩ := lookIn_ns hns
      exact ⟨some od, ga, hy.z.1, no, by rw [dz, dq]; exact ho⟩
  obtain ⟨od, J⟩ := this
  exact PySem.W.kia_one (PySem.W.kitx_exc hcl C.hg C.hk C.hs C.ha C.hn C.ht C.hm) I.kIn J e (fun z => nomatch z) fun tk => ⟨.bl b, H, I.tok tk, rfl, q⟩
theorem isY_ {y : Cau} {t : Nat → Option Bool} {c : V} {cv : Value} (hK : X.K = G.K) (hc : ∀ u, RelV c u → u = cv) (ht : ∀ k b, t k = some b → PySem.W.kitOne G.K (.ref (G.xcl k)) cv = some b)
    (h : PE X e (tCB (rIsY X.K y (G.xcl y.k)) (tCons (tE G W fa) (tCons (tC c) tNil)))) : PE X e (tE G W (eIsY y t fa)) := PE.imp h fun σ H Q q => by
  obtain ⟨F, A, ρ, L, S, l, r0, q⟩ := q
  refine ⟨F, A, ρ, L, S, l, r0, EvOk.bind q fun v S1 A1 ρ1 H1 x1 r1 q1 w rw => ?_⟩
  unfold isY at q1
  split at q1
  · rename_i a d nm fs b e
    split at q1
    · rename_i z
      obtain ⟨rfl, rfl⟩ := z
      obtain ⟨ew, k⟩ := rw
      subst ew
      refine ⟨c, cv, b, rfl, hc, fun dx ed => ?_, hK ▸ ht _ _ e, q1 A1 ρ1 H1 Ext.refl r1 _ rfl⟩
      rcases k with ⟨k, _⟩ | ⟨dx1, vs, e1, e2, _⟩
      · rw [k] at ed; cases ed
      · rw [e1] at ed; cases ed
        exact ⟨_, e2⟩
    · exact q1.elim
  · exact q1.elim
theorem pe_atP {p : Addr × Obj} {y : Cau} {te : TE} {f : Str} (T : XfC X.K (G.xcl y.k)) (hno : PySem.W.findIn X.K (.ref (G.xcl y.k)) f = some none) (hp : p ∈ X.pn) (hy : PinX G p y) (he : PE X e te) (hb : attributeBase e f X.env (eval e X.env) = eval e X.env := by rfl) :
    PE X (.Attribute e f pos) (fun σ H Q => te σ H fun x H1 => x = .ref y.a ∧ ∃ (dd : Addr) (fs : List (Str × V)) (v : V), y.d = some dd ∧ H1 dd = some (.xd fs) ∧ fs.lookup f = some v ∧ Q v H1) := by
  constructor
  intro pins s σ H Q I h
  refine attr_of hb (thn (he.run pins s σ H _ I h) fun u s1 ⟨x, H1, J, rx, ex, dd, fs, v, ed, ea, l, q⟩ => ?_)
  subst ex
  cases (show u = Value.ref y.a from rx)
  obtain ⟨ga, _⟩ := J.pin p (List.mem_append_left _ hp)
  rw [hy.a] at ga
  obtain ⟨vs, hv⟩ := hy.f
  obtain ⟨mA, hns, hr⟩ := (show ObjOk X.prog X.w H1 s1.heap dd (.xd fs) from J.hok dd _ ea)
  obtain ⟨od, ho, hl⟩ := lookIn_ns hns
  obtain ⟨u2, hu, ru⟩ := RelO.some_of (v := v) (o := mA f) (by rw [← l]; exact hr f)
  have no : PySem.W.notCls p.2 = true := by unfold PySem.W.notCls; rw [hv] <;> rfl
  have K1 : PySem.W.InstAt s1.heap y.a p.2 (G.xcl y.k) (some od) := ⟨ga, hy.z.1, no, by rw [hy.z.2.1, ed]; exact ho⟩
  have fo := PySem.W.findObj_own T.hdC hno rfl (by rw [hl, hu])
  exact HandSPX.exc_get J.kIn K1 T.ga T.gg T.exC fo (handed_of ru) ⟨v, H1, J.tok _, ru, q⟩
theorem atY_ {p : Addr × Obj} {y : Cau} {j : Nat} {f : Str} (hK : X.K = G.K) (T : XfC X.K (G.xcl y.k)) (hno : PySem.W.findIn X.K (.ref (G.xcl y.k)) f = some none) (hp : p ∈ X.pn) (hy : PinX G p y) (he : PE X e (tE G W fa)) (hb : attributeBase e f X.env (eval e X.env) = eval e X.env := by rfl) :
    PE X (.Attribute e f pos) (tE G W (eAtY y j f fa)) := PE.imp (pe_atP T hno hp hy he hb) fun σ H Q q => by
  obtain ⟨F, A, ρ, L, S, l, r0, q⟩ := q
  refine ⟨F, A, ρ, L, S, l, r0, EvOk.bind q fun v S1 A1 ρ1 H1 x1 r1 q1 w rw => ?_⟩
  unfold atY at q1
  split at q1
  · rename_i a d nm fs
    split at q1
    · rename_i z
      obtain ⟨rfl, rfl, z1, z2⟩ := z
      obtain ⟨z, ez, q3⟩ := of_ok q1
      obtain ⟨ew, k⟩ := rw
      subst ew
      rcases k with ⟨_, k⟩ | ⟨dx, vs, e1, e2, p⟩
      · rw [k] at ez; cases ez
      · obtain ⟨u, eu, ru⟩ := p.get ez
        exact ⟨rfl, dx, _, u, e1, e2, lookup_zip z2 z1 eu, q3 A1 ρ1 H1 Ext.refl r1 _ ru⟩
    · exact q1.elim
  · exact q1.elim

/-! ### raise C(e, ..), C an own class with a maker of its own -/
theorem pmkN {CX : CXT} {x : Str} {C fI : Addr} {k : Nat} {fd : FuncData} {ps : List Str} {sp : Sp} {ta : TA} {q1 : Pos} (T : OexC X.K C) (iC : PySem.W.findIn X.K (.ref C) "__init__" = some (some (.ref fI))) (tI : PySem.W.typeIn X.K (.ref fI) = some (.type "function"))
    (Fk : FnOk X.prog X.w X.K X.mg X.base CX k fI fd ps sp) (hr : Room (k + 1) X.A) (hb : Binds X.K fd ps []) (hx : Passes CX X (fun _ _ _ => False)) (hg : Gl X x) (hm : X.mg x = some (.ref C)) (ha : PA X (e :: es) ta)
    (hd : (x == ("__debug__" : Str)) = false := by decide) (h1 : starEach (e :: es) X.env = (false, eval e X.env) :: starEach es X.env := by rfl) (h2 : (backTo pos (starEach es X.env)).any (·.1) = false := by rfl) :
    L2N.PMk X (.Call (.Name x q1) (e :: es) [] pos) (tMkO C sp [] ta) := fun pins s σ H Q I h => by
  obtain ⟨_, _, _, _, bm, _, _, _, _, _, _, _, _, _, _, hC, hbm⟩ := T.cls
  refine wpAny_Call_Name_kw (ld_glob I hg hm (PySem.W.callWith_K (h₀ := X.base) I.ok.mod.kin T.kC (thn (ha.run pos pins s σ H _ I h) fun us s1 z => ?_) h1 h2) hd)
  obtain ⟨vs, H1, J, r, _, z⟩ := z
  refine ⟨J.kIn, ?_⟩
  obtain ⟨hp, g, dr, tk, os⟩ := s1
  show wpAny _ _ (call (.ref C) us) _ _ _
  have le : hp.objs.size ≤ hp.objs.size + 1 := Nat.le_succ _
  have z := z (hp.objs.size + 1) (J.hok.fresh le)
  rw [List.append_nil] at z
  have two : ∀ b o, hp.get? b = some o → ((hp.push (PySem.W.kdv_tup us)).push (PySem.HandSPX.excO C hp.objs.size)).get? b = some o := fun b o e => Heap.get?_push_of_some _ (Heap.get?_push_of_some _ e)
  have J2 : Inv X pins σ (upd H1 (hp.objs.size + 1) (exo (hp.objs.size + 1) C none)) ⟨(hp.push (PySem.W.kdv_tup us)).push (PySem.HandSPX.excO C hp.objs.size), g, dr, tk, os⟩ :=
    J.laid (t' := tk) (a := hp.objs.size + 1) (o := exo (hp.objs.size + 1) C none) (h' := (hp.push (PySem.W.kdv_tup us)).push (PySem.HandSPX.excO C hp.objs.size)) two le (exo_ok (by heap_get))
  have r2 : Vals (V.ref (hp.objs.size + 1) :: vs) (Value.ref (hp.objs.size + 1) :: us) := .cons rfl r
  have ln : (Value.ref (hp.objs.size + 1) :: us ++ []).length = ps.length := by
    rw [List.append_nil, ← r2.length]
    exact Fk.len _ _ _ _ z
  have small : us.length ≤ sizeLine := by
    rw [← Paired.length r, sizeLine_eq]
    omega
  have b2 := hb _ (Value.ref (hp.objs.size + 1) :: us) J2.kIn ln
  rw [List.append_nil] at b2
  refine wpAny_call (PySem.HandSPX.call_own F.excBase_ValueError (fun Y => PySem.HandSPX.refsVE_contains Y bm hbm) (J.kIn _ _ hC) (PySem.W.looks_findIn J.kIn iC) (fun self => PySem.W.bind_fn J.kIn self tI) small
    (codeAny_mono (Fk.run _ X.stack _ _ ⟨Value.ref (hp.objs.size + 1) :: us, []⟩ (Value.ref (hp.objs.size + 1) :: us) _ _ (fun _ _ _ => False) (hr.make C us []) (J2.env0.make C us []) b2 r2 z) fun r s2 z2 => ?_))
  match r, z2 with
  | .error er, z2 => exact hx pins σ _ _ er s2 J2 z2
  | .ok (.ret u), z2 =>
    obtain ⟨v, H2, os2, bare2, un2, hok2, rv, ev, d, fs, ea, ed, hd1, q2⟩ := z2
    subst ev
    obtain ⟨h2, g2, d2, t2, os3⟩ := s2
    obtain ⟨t0, G2, J3, kG, ge, hoe, na⟩ := mk_end0 (d2 := d2) (t2 := t2) J le two un2 hok2 os2 bare2 ea ed hd1
    exact ⟨rv, hp.objs.size + 1, _, _, ⟨G2, g2, d2, t2, os3⟩, _, .ref C, some d, rfl, J3, kG, ge, hoe, ⟨rfl, rfl, fun vs hv => by cases hv; rfl⟩, rfl, rfl, na, rfl, bare2, raises_own T.exC T.tyC, q2⟩
  | .ok .next, z2 => exact z2.elim
  | .ok .brk, z2 => exact z2.elim
  | .ok .cont, z2 => exact z2.elim
end Ev
set_option linter.all false
set_option Elab.async false
set_option maxRecDepth 100000
set_option maxHeartbeats 2000000
/-! an exception class with a maker of its own, which takes two texts and keeps them as a pair -/
namespace Ev
open PySem L2 PySem.Spec
variable {F F1 A A1 A2 : Addr → Prop} {ρ ρ1 ρ2 : List Addr} {H H1 H2 : Hp} {K : PySem.W.Frag} {G : PC} {S S1 S2 : Store} {X : Cx} {W : WX}
variable {a b c e o : Expr} {es : List Expr} {fa fb fc : SE} {as : SA} {pos : Pos} {st : Stmt}
/-- the promise of a maker that keeps two texts in a field -/
def spXP (K : PySem.W.Frag) (f : Str) : Sp := fun vs H Q _ => ∃ (a C : Addr) (x y : Str), vs = [.ref a, .str x, .str y] ∧ (x.length ≤ 1000 ∧ y.length ≤ 1000) ∧ OexC K C ∧ PySem.W.findIn K (.ref C) f = some none ∧ H a = some (exo a C none) ∧
  ∀ p, H p = none → ∀ dx, upd H p (.tup [.str x, .str y]) dx = none → dx ≠ a → Q .non (upd (upd (upd H p (.tup [.str x, .str y])) dx (exd dx [(f, .ref p)])) a (exo a C (some dx)))
/-- its body's reading: base.__init__(self, f'u{x}v{y}'); self.f = (x, y) -/
def tXP (K : PySem.W.Frag) (f u v : Str) : TS := tSeq (tDrop (tVeI K (tCons (tVar 0) (tCons (fun σ H Q => tJs [tC (.str u), tFmt (tVar 1), tC (.str v), tFmt (tVar 2)] Str.empty σ H fun out H1 => Q (.str out) H1) tNil)))) (tOst K f (tVar 0) (tTup (tCons (tVar 1) (tCons (tVar 2) tNil))))
theorem txp_ok {f u v : Str} (hz : u.length + v.length ≤ 1000) {vs : List V} {H : Hp} {Q : VK} {E : XK} (h : spXP K f vs H Q E) : tXP K f u v { nx := fun _ H' => Q .non H', rt := Q } (vs.map some) H := by
  obtain ⟨a, C, x, y, rfl, ⟨h0, h1⟩, T, hn, hx, q⟩ := h
  have big : ∀ n : Nat, n ≤ 5000 → n ≤ sizeLine := fun n hn => by
    rw [sizeLine_eq]
    omega
  have le : (Str.empty : Str).length = 0 := rfl
  have la : ∀ x y : Str, (x ++ y).length = x.length + y.length := fun x y => Array.size_append
  refine ⟨_, rfl, u, rfl, big _ (by rw [la, le]; omega), _, rfl, .inl ⟨x, rfl, big _ (by omega), ?_⟩⟩
  refine ⟨_, rfl, big _ (by rw [la, la, le]; omega), v, rfl, big _ (by rw [la, la, la, le]; omega), _, rfl, .inl ⟨y, rfl, big _ (by omega), ?_⟩⟩
  refine ⟨_, rfl, big _ (by rw [la, la, la, la, le]; omega), ?_⟩
  refine ⟨a, C, _, rfl, by simp, T, hx, ?_⟩
  refine ⟨_, rfl, _, rfl, big _ (by simp), fun p hp => ?_⟩
  have pa : p ≠ a := fun z => by rw [z, hx] at hp; cases hp
  refine ⟨_, rfl, a, C, rfl, T, hn, .inl ⟨by rw [upd_ne (Ne.symm pa)]; exact hx, fun dx n ne => q p hp dx n ne⟩⟩
def raiP (k : Nat) (L : Loc) (v : Val) (S : Store) : SR := match v with
  | .d (.tup [.str x, .str y]) => if x.length ≤ 1000 ∧ y.length ≤ 1000 then .ex ⟨k, [.tup [.str x, .str y]]⟩ L S else .bad
  | _ => .bad
def sRaiseP (k : Nat) (e : SE) : SS := fun L S => (e L S).to L (raiP k L)
theorem allD_two {vs : List Val} {x y : D} (h : allD vs = some [x, y]) : vs = [.d x, .d y] := by
  match vs, h with
  | [], h => cases h
  | .d a :: r, h =>
    rw [show allD (.d a :: r) = (allD r).map (a :: ·) from rfl] at h
    match r, h with
    | [], h => cases h
    | .d b :: r, h =>
      rw [show allD (.d b :: r) = (allD r).map (b :: ·) from rfl] at h
      match r, h with
      | [], h => cases h; rfl
      | .d c :: r, h =>
        rw [show allD (.d c :: r) = (allD r).map (c :: ·) from rfl] at h
        cases e : allD r with
        | none => rw [e] at h; cases h
        | some z => rw [e] at h; cases h
      | .ref _ :: r, h => cases h
      | .vt _ :: r, h => cases h
      | .exc .. :: r, h => cases h
    | .ref _ :: r, h => cases h
    | .vt _ :: r, h => cases h
    | .exc .. :: r, h => cases h
  | .ref _ :: r, h => cases h
  | .vt _ :: r, h => cases h
  | .exc .. :: r, h => cases h
theorem raiP_some {k : Nat} {L : Loc} {v : Val} {S : Store} (h : raiP k L v S ≠ .bad) : ∃ x y : Str, v = .d (.tup [.str x, .str y]) ∧ (x.length ≤ 1000 ∧ y.length ≤ 1000) ∧ raiP k L v S = .ex ⟨k, [.tup [.str x, .str y]]⟩ L S := by
  unfold raiP at h ⊢
  split at h
  · rename_i x y
    split at h
    · rename_i c
      exact ⟨x, y, rfl, c, if_pos c⟩
    · exact (h rfl).elim
  · exact (h rfl).elim
theorem raise2_ {k : Nat} {f : Str} (hf : G.xfl k = [f]) (hx : XIAt G k fI) (hn : PySem.W.findIn G.K (.ref (G.xcl k)) f = some none) (h : PS X st (fun _ σ H => tMkO (G.xcl k) (spXP G.K f) [] (tA' G W as) σ H fun cls d H' => W cls d σ H')) : PS X st (tS G W (sRaiseP k (eTup as))) := PS.imp h fun D σ H q => by
  obtain ⟨F, A, ρ, L, S, l, r, q⟩ := q
  refine ⟨F, A, ρ, L, S, l, r, ?_⟩
  have q0 : StOk G F W D A ρ H ((as L S).to L fun vs S1 => (eTup (fun _ _ => .ok vs S1) L S1).to L (raiP k L)) := by
    have e : sRaiseP k (eTup as) L S = ((as L S).to L fun vs S1 => (eTup (fun _ _ => .ok vs S1) L S1).to L (raiP k L)) := by
      unfold sRaiseP eTup
      cases as L S <;> rfl
    rw [← e]; exact q
  refine st_ok r l q0 fun vs S1 A1 ρ1 H1 x1 r1 q1 ws rws => ?_
  have q2 : StOk G F W D A1 ρ1 H1 ((if vs.length ≤ 1000 then (match allD vs with
    | some ds => (.ok (.d (.tup ds)) S1 : R Val)
    | none => .ok (.vt vs) S1) else .bad).to L (raiP k L)) := q1
  split at q2
  · rename_i c
    cases e : allD vs with
    | none => rw [e] at q2; exact q2.elim
    | some ds =>
      rw [e] at q2
      have q3 : StOk G F W D A1 ρ1 H1 (raiP k L (.d (.tup ds)) S1) := q2
      by_cases hb : raiP k L (.d (.tup ds)) S1 = .bad
      · rw [hb] at q3; exact q3.elim
      · obtain ⟨x, y, ev, hl, er⟩ := raiP_some hb
        rw [er] at q3
        cases ev
        have ew := allD_two e
        subst ew
        obtain ⟨w1, t1, rfl, p1, w2, t2, rfl, p2, e3⟩ := rws
        cases e3
        have p1 : w1 = .str x := p1
        have p2 : w2 = .str y := p2
        subst p1 p2
        refine ⟨by simp, fun a ha => ?_⟩
        refine ⟨a, G.xcl k, x, y, rfl, hl, hx.ox, hn, upd_same, fun p hp dx hdx ne => ?_⟩
        have pa : p ≠ a := fun z => by rw [z, upd_same] at hp; cases hp
        have hp1 : H1 p = none := by rw [upd_ne pa] at hp; exact hp
        have dp : dx ≠ p := fun z => by rw [z, upd_same] at hdx; cases hdx
        have hd : H1 dx = none := by rw [upd_ne dp, upd_ne ne] at hdx; exact hdx
        refine ⟨rfl, dx, [(f, .ref p)], upd_same, by rw [upd_ne ne, upd_same], hd, ?_⟩
        have eH : upd (del (upd (upd (upd (upd H1 a (exo a (G.xcl k) none)) p (.tup [.str x, .str y])) dx (exd dx [(f, .ref p)])) a (exo a (G.xcl k) (some dx))) a) dx (.xd [(f, .ref p)]) = upd (upd H1 p (.tup [.str x, .str y])) dx (.xd [(f, .ref p)]) := by
          funext b
          by_cases h1 : b = dx
          · rw [h1, upd_same, upd_same]
          · rw [upd_ne h1, upd_ne h1]
            by_cases h2 : b = a
            · rw [h2, del_same, upd_ne (Ne.symm pa), ha]
            · rw [del_ne h2, upd_ne h2, upd_ne h1]
              by_cases h3 : b = p
              · rw [h3, upd_same, upd_same]
              · rw [upd_ne h3, upd_ne h3, upd_ne h2]
        rw [eH]
        obtain ⟨x2, r2⟩ := r1.laid hp1 (.tup [.str x, .str y])
        have hd2 : upd H1 p (.tup [.str x, .str y]) dx = none := by rw [upd_ne dp]; exact hd
        obtain ⟨x3, r3⟩ := r2.laid hd2 (.xd [(f, .ref p)])
        refine q3 A1 ρ1 _ σ (.ref (G.xcl k)) (some dx) (x2.trans x3) r3 (((l.mv x1 r).mv x2 r1).mv x3 r2) ⟨rfl, .inr ⟨dx, [.ref p], rfl, by rw [upd_same, hf]; rfl, _, [], rfl, ?_, rfl⟩⟩
        exact ⟨p, [.str x, .str y], rfl, SqT.of (by rw [upd_ne (Ne.symm dp), upd_same]), _, _, rfl, rfl, _, _, rfl, rfl, rfl⟩
  · exact q2.elim
theorem raiP_two {k : Nat} {L : Loc} {x y : Str} {S : Store} (h : x.length ≤ 1000 ∧ y.length ≤ 1000) : raiP k L (.d (.tup [.str x, .str y])) S = .ex ⟨k, [.tup [.str x, .str y]]⟩ L S := if_pos h
end Ev
set_option linter.all false
set_option Elab.async false
set_option maxRecDepth 100000
set_option maxHeartbeats 2000000
/-! what a generated text names -/
namespace Ev
open PySem L2 PySem.Spec
variable {F F1 A A1 A2 : Addr → Prop} {ρ ρ1 ρ2 : List Addr} {H H1 H2 : Hp} {K : PySem.W.Frag} {G : PC} {S S1 S2 : Store} {X : Cx} {W : WX}
variable {a b c e o : Expr} {es : List Expr} {fa fb fc : SE} {as : SA} {pos : Pos} {st : Stmt}
theorem passN : Passes (L2N.CX X.prog X.w) X E0 := fun _ _ _ _ _ _ _ z => by
  obtain ⟨_, _, _, _, _, _, _, _, _, _, _, _, q⟩ := z
  exact q.elim
theorem takesN : L2N.Takes X (fun _ _ _ _ => False) := fun _ _ z => by
  obtain ⟨_, _, _, _, _, _, _, _, _, _, _, _, _, _, _, _, q⟩ := z
  exact q.elim
/-- an own exception's method -/
structure XmAt (K : PySem.W.Frag) (m qual : Str) (st : Stmt) (ps : List Str) (f : Addr) (fd : FuncData) : Prop where
  fn : Fun K m qual st f fd
  bi : Binds K fd ps []
/-- raise C(e) of such a class, in a def of level n -/
def rz : Nat → Nat → SE → SS
  | _ + 2, k, e => if k < 1000 then sRaiseI k e else sRaiseP (k - 1000) e
  | _, _, _ => sBad
theorem rz_i {n k : Nat} {e : SE} (h : k < 1000) : rz (n + 2) k e = sRaiseI k e := if_pos h
theorem rz_p {n k : Nat} {e : SE} : rz (n + 2) (k + 1000) e = sRaiseP k e := by
  show (if k + 1000 < 1000 then sRaiseI (k + 1000) e else sRaiseP (k + 1000 - 1000) e) = _
  rw [if_neg (by omega), Nat.add_sub_cancel]
theorem raiseP {k : Nat} {x m : Str} {j : Nat} {p p2 q : Pos} (x0 : XAt G k) (hK : X.K = G.K) (hc : X.calm = true) (tk : L2N.Takes X W) (hg : Gl X x) (hm : X.mg x = some (.ref (G.xcl k))) (hd : (x == ("__debug__" : Str)) = false := by decide) :
    PS X (.Raise (some (.Call (.Name x p) [.Constant (.str m) j p2] [] q)) none pos) (tS G W (sRaise k)) :=
  raise_ (L2N.ps_raise hc tk (L2N.pmk_own PySem.F.excBase_ValueError (hK ▸ x0.xc) hm (hK ▸ x0.kp) (raises_own (hK ▸ x0.sb) (hK ▸ x0.ty)) hg hd))
theorem raiseG {k n : Nat} {f x : Str} {fI : Addr} {fd : FuncData} {ps : List Str} {p q : Pos} (x0 : XIAt G k fI) (hf : G.xfl k = [f]) (hn : PySem.W.findIn G.K (.ref (G.xcl k)) f = some none) (Fk : ∀ m, FnOk X.prog X.w X.K X.mg X.base (L2N.CX X.prog X.w) (m + 1) fI fd ps (spXI G.K f)) (hb : Binds X.K fd ps []) (hr : Room n X.A) (hK : X.K = G.K) (hc : X.calm = true)
    (tk : L2N.Takes X W) (hg : Gl X x) (hm : X.mg x = some (.ref (G.xcl k))) (ha : PE X e (tE G W fa)) (hd : (x == ("__debug__" : Str)) = false := by decide) (h1 : starEach [e] X.env = (false, eval e X.env) :: starEach [] X.env := by rfl) (hk : k < 1000 := by decide) :
    PS X (.Raise (some (.Call (.Name x p) [e] [] q)) none pos) (tS G W (rz n k fa)) := by
  match n, hr with
  | 0, _ => exact bad_
  | 1, _ => exact bad_
  | n + 2, hr =>
    rw [rz_i hk]
    exact raiseI_ hf x0 hn (L2N.ps_raise hc tk (pmkN (hK ▸ x0.ox) (hK ▸ x0.ii) (hK ▸ x0.ti) (Fk n) hr hb passN hg hm (pa_cons ha pa_nil h1) hd h1))
/-- such a class's maker -/
theorem initN {P : Program} {w : World} {mg : Str → Option Value} {base : Heap} {f : Addr} {fd : FuncData} {N ps : List Str} {k : Nat} {x qual nm u v : Str} (Fu : Fun G.K x qual st f fd) (Sc : FnScope N ps (defScope st)) (hN : N = ps) (hp : ps.length = 2) (hz : u.length + v.length ≤ 1000)
    (hb : ∀ (cd : Value) (B : Around) (out : List Env) (s : Shared) (H : Hp) (E : XK), PSs (cxOf (L2N.CX P w) P w G.K mg base N qual (defScope st) f cd B out s H E) (defBody st) (tXI G.K nm u v)) : FnOk P w G.K mg base (L2N.CX P w) (k + 1) f fd ps (spXI G.K nm) := by
  refine okN Fu Sc (fun us H Q E h => ?_) fun cd B out s H us Q E _ h => ⟨_, hb cd B out s H E, ?_⟩
  · obtain ⟨a, C, i, rfl, _⟩ := h
    exact hp.symm
  · have := txi_ok hz h
    obtain ⟨a, C, i, rfl, _⟩ := h
    have : L2.start N [V.ref a, V.int i] = [V.ref a, V.int i].map some := by
      unfold L2.start
      rw [hN, hp]
      rfl
    rw [this]
    assumption
theorem raise2G {k n : Nat} {f x : Str} {fI : Addr} {fd : FuncData} {ps : List Str} {p q : Pos} {e2 : Expr} (x0 : XIAt G k fI) (hf : G.xfl k = [f]) (hn : PySem.W.findIn G.K (.ref (G.xcl k)) f = some none) (Fk : ∀ m, FnOk X.prog X.w X.K X.mg X.base (L2N.CX X.prog X.w) (m + 1) fI fd ps (spXP G.K f)) (hb : Binds X.K fd ps []) (hr : Room n X.A) (hK : X.K = G.K) (hc : X.calm = true)
    (tk : L2N.Takes X W) (hg : Gl X x) (hm : X.mg x = some (.ref (G.xcl k))) (ha : PA X [e, e2] (tA' G W as)) (hd : (x == ("__debug__" : Str)) = false := by decide) (h1 : starEach [e, e2] X.env = (false, eval e X.env) :: starEach [e2] X.env := by rfl) (h2 : (backTo q (starEach [e2] X.env)).any (·.1) = false := by rfl) :
    PS X (.Raise (some (.Call (.Name x p) [e, e2] [] q)) none pos) (tS G W (rz n (k + 1000) (eTup as))) := by
  match n, hr with
  | 0, _ => exact bad_
  | 1, _ => exact bad_
  | n + 2, hr =>
    rw [rz_p]
    exact raise2_ hf x0 hn (L2N.ps_raise hc tk (pmkN (hK ▸ x0.ox) (hK ▸ x0.ii) (hK ▸ x0.ti) (Fk n) hr hb passN hg hm ha hd h1 h2))
/-- such a class's maker -/
theorem initP {P : Program} {w : World} {mg : Str → Option Value} {base : Heap} {f : Addr} {fd : FuncData} {N ps : List Str} {k : Nat} {x qual nm u v : Str} (Fu : Fun G.K x qual st f fd) (Sc : FnScope N ps (defScope st)) (hN : N = ps) (hp : ps.length = 3) (hz : u.length + v.length ≤ 1000)
    (hb : ∀ (cd : Value) (B : Around) (out : List Env) (s : Shared) (H : Hp) (E : XK), PSs (cxOf (L2N.CX P w) P w G.K mg base N qual (defScope st) f cd B out s H E) (defBody st) (tXP G.K nm u v)) : FnOk P w G.K mg base (L2N.CX P w) (k + 1) f fd ps (spXP G.K nm) := by
  refine okN Fu Sc (fun us H Q E h => ?_) fun cd B out s H us Q E _ h => ⟨_, hb cd B out s H E, ?_⟩
  · obtain ⟨a, C, x, y, rfl, _⟩ := h
    exact hp.symm
  · have := txp_ok hz h
    obtain ⟨a, C, x, y, rfl, _⟩ := h
    have : L2.start N [V.ref a, V.str x, V.str y] = [V.ref a, V.str x, V.str y].map some := by
      unfold L2.start
      rw [hN, hp]
      rfl
    rw [this]
    assumption
theorem hotS {a : Addr} {o : Obj} {cls : Value} {d : Option Addr} {pn : List (Addr × Obj)} (hz : L2N.Zn cls d o) (hf : ∃ vs, o.data = .fields vs) : HotP (X.suite a ((a, o) :: pn)) (a, o) := by
  obtain ⟨vs, e⟩ := hf
  exact ⟨⟨rfl, vs, e, hz.2.2 vs e⟩, List.mem_cons_self⟩
theorem hotF {CX : CXT} {P : Program} {w : World} {mg : Str → Option Value} {base : Heap} {N : List Str} {qual : Str} {sc : Scope} {f : Addr} {cd : Value} {B : Around} {out : List Env} {s : Shared} {H : Hp} {E : XK} {p : Addr × Obj} (h : L2H.Hot1 B p) : HotP (L2H.cxH CX P w K mg base N qual sc f cd B out s H E p) p :=
  ⟨⟨h.1, h.2⟩, List.mem_singleton.mpr rfl⟩
theorem huH {B : Around} {k : Nat} (hr : L2H.RoomH k B) : B.units + 64 < cLine := by have := hr.un; omega
theorem hu1H {B : Around} {k : Nat} (hr : L2H.RoomH k B) : B.units + 1 < cLine := by have := hr.un; omega
theorem iLq_ {tg : Expr} (hK : X.K = G.K) (h : PIQ X tg e (iList X.K (tE G W fa))) : PIQ X tg e (tI G W (iL fa)) := ⟨fun pins s σ H R I q => h.go pins s σ H R I (hK ▸ iL_t σ H R q)⟩
/-- list(x), a list of one's own -/
def eLstOf (a : SE) : SE := fun L S => (a L S).bind fun v S1 => match (top S1 v).bind listD with
  | some (.lst ds) => .ok (.ref S1.length) (S1 ++ [.lst ds])
  | _ => .bad
theorem lstOf_ (hK : X.K = G.K) (h : PE X e (tCB (rListC X.K) (tCons (tE G W fa) tNil))) : PE X e (tE G W (eLstOf fa)) := PE.imp h fun σ H Q q => by
  obtain ⟨F, A, ρ, L, S, l, r0, q⟩ := q
  refine ⟨F, A, ρ, L, S, l, r0, EvOk.bind q fun v S1 A1 ρ1 H1 x1 r1 q1 w rw => ?_⟩
  cases et : top S1 v with
  | none => rw [et] at q1; exact q1.elim
  | some d =>
    rw [et] at q1
    have rt := r1.top rw et
    rw [hK]
    cases d with
    | lst ds =>
      obtain ⟨a, vs, rfl, e, p⟩ := rt
      refine ⟨a, vs, rfl, .inl (SqL.of e), fun l hl => ?_⟩
      obtain ⟨x, r', d⟩ := push_lst r1 p hl
      exact q1 _ _ _ x r' _ d
    | tup ds =>
      obtain ⟨a, vs, rfl, e, p⟩ := rt
      refine ⟨a, vs, rfl, .inr e, fun l hl => ?_⟩
      obtain ⟨x, r', d⟩ := push_lst r1 p hl
      exact q1 _ _ _ x r' _ d
    | non => exact q1.elim
    | bl _ => exact q1.elim
    | int _ => exact q1.elim
    | str _ => exact q1.elim
    | scr _ => exact q1.elim
theorem btx_ValueError : bootBuiltins "ValueError" = some (.type "ValueError") := by decide +kernel
end Ev
set_option linter.all false
set_option Elab.async false
set_option maxRecDepth 100000
set_option maxHeartbeats 2000000
/-! enumerate, zip, over data -/
namespace Ev
open PySem L2 PySem.Spec
variable {F F1 A A1 A2 : Addr → Prop} {ρ ρ1 ρ2 : List Addr} {H H1 H2 : Hp} {K : PySem.W.Frag} {G : PC} {S S1 S2 : Store} {X : Cx} {W : WX}
variable {a b c e e2 o : Expr} {es : List Expr} {fa fb fc : SE} {as : SA} {pos : Pos} {st : Stmt} {L : Loc}
def enumFrom (k : Nat) : List D → List (List D)
  | [] => []
  | d :: ds => [.int (k : Int), d] :: enumFrom (k + 1) ds
def enumD (ds : List D) : List D := (enumFrom 0 ds).map .tup
def enumV (k : Nat) : List V → List (List V)
  | [] => []
  | v :: vs => [.int (k : Int), v] :: enumV (k + 1) vs
theorem enumFrom_len (k : Nat) (ds : List D) : (enumFrom k ds).length = ds.length := by
  induction ds generalizing k with
  | nil => rfl
  | cons d ds ih => exact congrArg (· + 1) (ih (k + 1))
theorem enumV_len (k : Nat) (ds : List V) : (enumV k ds).length = ds.length := by
  induction ds generalizing k with
  | nil => rfl
  | cons d ds ih => exact congrArg (· + 1) (ih (k + 1))
theorem enumFrom_get (ds : List D) : ∀ (k i : Nat), (enumFrom k ds)[i]? = (ds[i]?).map fun d => [.int ((k + i : Nat) : Int), d] := by
  induction ds with
  | nil => intro k i; simp [enumFrom]
  | cons d ds ih =>
    intro k i
    cases i with
    | zero => rfl
    | succ i =>
      have := ih (k + 1) i
      rw [show k + 1 + i = k + (i + 1) from by omega] at this
      simpa [enumFrom] using this
theorem enumV_get (ds : List V) : ∀ (k i : Nat), (enumV k ds)[i]? = (ds[i]?).map fun d => [.int ((k + i : Nat) : Int), d] := by
  induction ds with
  | nil => intro k i; simp [enumV]
  | cons d ds ih =>
    intro k i
    cases i with
    | zero => rfl
    | succ i =>
      have := ih (k + 1) i
      rw [show k + 1 + i = k + (i + 1) from by omega] at this
      simpa [enumV] using this
def itE (v : Val) (S : Store) : R (List D) := match v with
  | .d (.lst ds) => .ok (enumD ds) S
  | _ => .bad
def iEn (e : SE) : SI := fun L S => (e L S).bind itE
theorem iEn_ {elts : List Expr} {kk : Nat} {tpos : Pos} {x : Expr} (hK : X.K = G.K) (h : PI X (.Tuple elts kk tpos) x (iEnum X.K (tCons (tE G W fa) tNil))) : PI X (.Tuple elts kk tpos) x (tI G W (iEn fa)) := PI.imp h fun σ H Q ⟨F, A, ρ, L, S, l, r, q⟩ => by
  refine ⟨F, A, ρ, L, S, l, r, EvOk.bind (k := itE) q fun v S1 A1 ρ1 H1 x1 r1 q1 w rw1 => ?_⟩
  rw [hK]
  unfold itE at q1
  split at q1
  · rename_i ds
    obtain ⟨a, vs, rfl, e1, na, p⟩ := rw1
    have hl := p.len
    have kp : ∀ A2 ρ2 H2, Ext F A1 ρ1 H1 A2 ρ2 H2 → SqL G.K H2 a vs := fun A2 ρ2 H2 x => SqL.of (x.fr a _ (fun z => (na (r1.sub a z)).elim) e1)
    refine ⟨a, vs, rfl, SqL.of e1, q1 A1 ρ1 H1 Ext.refl r1 _ (.inr ⟨enumFrom 0 ds, enumV 0 vs, rfl, by rw [enumFrom_len, enumV_len, hl], fun i es us h1 h2 => ?_, fun A2 ρ2 H2 x => ⟨fun i hi => ?_, fun i hi => ?_, fun i y H3 hi z => ?_⟩⟩)⟩
    · rw [enumFrom_get] at h1
      rw [enumV_get] at h2
      cases hd : ds[i]? with
      | none => rw [hd] at h1; cases h1
      | some d =>
        rw [hd] at h1
        cases h1
        obtain ⟨v, ev, pv⟩ := p.get hd
        rw [ev] at h2
        cases h2
        exact ⟨_, _, rfl, rfl, _, _, rfl, pv, rfl⟩
    · unfold enumD at hi
      rw [List.length_map, enumFrom_len] at hi
      exact ⟨vs, vs[i], kp A2 ρ2 H2 x, List.getElem?_eq_getElem (by omega)⟩
    · unfold enumD at hi
      rw [List.length_map, enumFrom_len] at hi
      exact ⟨vs, kp A2 ρ2 H2 x, by omega⟩
    · obtain ⟨T, u, rfl, hT, rfl, hu⟩ := z
      refine ⟨T, _, rfl, hT, rfl, ?_⟩
      rw [enumV_get, hu vs (kp A2 ρ2 H2 x), Nat.zero_add]
      rfl
  · exact q1.elim
def zipD (xs ys : List D) : List (List D) := (xs.zip ys).map fun p => [p.1, p.2]
def zipV (xs ys : List V) : List (List V) := (xs.zip ys).map fun p => [p.1, p.2]
theorem zipD_get (xs ys : List D) (i : Nat) {es : List D} (h : (zipD xs ys)[i]? = some es) : ∃ x y, xs[i]? = some x ∧ ys[i]? = some y ∧ es = [x, y] := by
  unfold zipD at h
  rw [List.getElem?_map] at h
  cases hz : (xs.zip ys)[i]? with
  | none => rw [hz] at h; cases h
  | some p =>
    rw [hz] at h
    cases h
    obtain ⟨h1, h2⟩ := List.getElem?_zip_eq_some.mp hz
    exact ⟨p.1, p.2, h1, h2, rfl⟩
theorem zipV_get {xs ys : List V} {i : Nat} {x y : V} (h1 : xs[i]? = some x) (h2 : ys[i]? = some y) : (zipV xs ys)[i]? = some [x, y] := by
  unfold zipV
  rw [List.getElem?_map, List.getElem?_zip_eq_some (z := (x, y)) |>.mpr ⟨h1, h2⟩]
  rfl
theorem zipD_len (xs ys : List D) : (zipD xs ys).length = min xs.length ys.length := by
  unfold zipD
  rw [List.length_map, List.length_zip]
theorem zipV_len (xs ys : List V) : (zipV xs ys).length = min xs.length ys.length := by
  unfold zipV
  rw [List.length_map, List.length_zip]
theorem zip_reps {xs ys : List D} {us vs : List V} (p : RepDs K A H xs us) (q : RepDs K A H ys vs) (i : Nat) (es : List D) (ws : List V) (h1 : (zipD xs ys)[i]? = some es) (h2 : (zipV us vs)[i]? = some ws) : RepDs K A H es ws := by
  obtain ⟨x, y, hx, hy, rfl⟩ := zipD_get xs ys i h1
  obtain ⟨u, eu, pu⟩ := p.get hx
  obtain ⟨v, ev, pv⟩ := q.get hy
  rw [zipV_get eu ev] at h2
  cases h2
  exact ⟨u, [v], rfl, pu, v, [], rfl, pv, rfl⟩
def itZ (v w : Val) (S : Store) : R (List D) := match v, w with
  | .d (.lst xs), .d (.lst ys) => .ok ((zipD xs ys).map .tup) S
  | .d (.tup xs), .d (.tup ys) => .ok ((zipD xs ys).map .tup) S
  | _, _ => .bad
def iZp (e e' : SE) : SI := fun L S => (e L S).bind fun v S1 => (e' L S1).bind fun w S2 => itZ v w S2
theorem iZp_ {elts : List Expr} {kk : Nat} {tpos : Pos} {x : Expr} (hK : X.K = G.K) (h : PI X (.Tuple elts kk tpos) x (RZ.iZipA X.K (tCons (tE G W fa) (tCons (tE G W fb) tNil)))) : PI X (.Tuple elts kk tpos) x (tI G W (iZp fa fb)) := PI.imp h fun σ H Q ⟨F, A, ρ, L, S, l, r, q⟩ => by
  refine ⟨F, A, ρ, L, S, l, r, EvOk.bind q fun v S1 A1 ρ1 H1 x1 r1 q1 w rw1 => ?_⟩
  refine ⟨F, A1, ρ1, L, S1, l.mv x1 r, r1, EvOk.bind q1 fun v2 S2 A2 ρ2 H2 x2 r2 q2 w2 rw2 => ?_⟩
  rw [hK]
  have rw1' := rw1.mv x2 r1
  unfold itZ at q2
  split at q2
  · rename_i xs ys
    obtain ⟨a, us, rfl, e1, na, p⟩ := rw1'
    obtain ⟨b, vs, rfl, e3, nb, p3⟩ := rw2
    have l1 := p.len
    have l3 := p3.len
    have k1 : ∀ A3 ρ3 H3, Ext F A2 ρ2 H2 A3 ρ3 H3 → SqL G.K H3 a us := fun A3 ρ3 H3 x => SqL.of (x.fr a _ (fun z => (na (r2.sub a z)).elim) e1)
    have k3 : ∀ A3 ρ3 H3, Ext F A2 ρ2 H2 A3 ρ3 H3 → SqL G.K H3 b vs := fun A3 ρ3 H3 x => SqL.of (x.fr b _ (fun z => (nb (r2.sub b z)).elim) e3)
    refine ⟨a, b, us, vs, rfl, .inl ⟨SqL.of e1, SqL.of e3, q2 A2 ρ2 H2 Ext.refl r2 _ (.inr ⟨zipD xs ys, zipV us vs, rfl, by rw [zipD_len, zipV_len, l1, l3], zip_reps p p3, fun A3 ρ3 H3 x => ⟨fun i hi => ?_, fun i hi => ?_, fun i y H4 hi z => ?_⟩⟩)⟩⟩
    · rw [List.length_map, zipD_len] at hi
      exact ⟨us, vs, us[i]'(by omega), vs[i]'(by omega), k1 _ _ _ x, k3 _ _ _ x, List.getElem?_eq_getElem _, List.getElem?_eq_getElem _⟩
    · rw [List.length_map, zipD_len] at hi
      exact ⟨us, vs, k1 _ _ _ x, k3 _ _ _ x, by omega⟩
    · obtain ⟨T, u, v, rfl, hT, rfl, hu, hv⟩ := z
      exact ⟨T, _, rfl, hT, rfl, zipV_get (hu us (k1 _ _ _ x)) (hv vs (k3 _ _ _ x))⟩
  · rename_i xs ys
    obtain ⟨a, us, rfl, e1, p⟩ := rw1'
    obtain ⟨b, vs, rfl, e3, p3⟩ := rw2
    have l1 := p.len
    have l3 := p3.len
    have k1 : ∀ A3 ρ3 H3, Ext F A2 ρ2 H2 A3 ρ3 H3 → SqT G.K H3 a us := fun A3 ρ3 H3 x => x.sqT r2.noTup e1
    have k3 : ∀ A3 ρ3 H3, Ext F A2 ρ2 H2 A3 ρ3 H3 → SqT G.K H3 b vs := fun A3 ρ3 H3 x => x.sqT r2.noTup e3
    refine ⟨a, b, us, vs, rfl, .inr ⟨e1, e3, q2 A2 ρ2 H2 Ext.refl r2 _ (.inr ⟨zipD xs ys, zipV us vs, rfl, by rw [zipD_len, zipV_len, l1, l3], zip_reps p p3, fun A3 ρ3 H3 x => ⟨fun i hi => ?_, fun i hi => ?_, fun i y H4 hi z => ?_⟩⟩)⟩⟩
    · rw [List.length_map, zipD_len] at hi
      exact ⟨us, vs, us[i]'(by omega), vs[i]'(by omega), k1 _ _ _ x, k3 _ _ _ x, List.getElem?_eq_getElem _, List.getElem?_eq_getElem _⟩
    · rw [List.length_map, zipD_len] at hi
      exact ⟨us, vs, k1 _ _ _ x, k3 _ _ _ x, by omega⟩
    · obtain ⟨T, u, v, rfl, hT, rfl, hu, hv⟩ := z
      exact ⟨T, _, rfl, hT, rfl, zipV_get (hu us (k1 _ _ _ x)) (hv vs (k3 _ _ _ x))⟩
  · exact q2.elim
/-! ### x is not True -/
def isnotB : D → D → Option D
  | .bl a, .bl b => some (.bl (!decide (a = b)))
  | _, _ => none
theorem snd_isnotB : Snd2 K rNotB isnotB := fun G F A ρ S H x y z v w Q _ rs h1 h2 ez q => by
  cases x with
  | bl a => cases y with
    | bl b => cases ez; exact ⟨a, b, h1, h2, q H _ Ext.refl rs rfl⟩
    | _ => cases ez
  | _ => cases ez
theorem isnotb_ (ha : PE X a (tE G W fa)) (hb : PE X b (tE G W fb)) (hm : behindInMarks .IsNot b = false := by rfl) : PE X (.Compare a [.IsNot] [b] pos) (tE G W (eOp2 isnotB fa fb)) := cmp_ op_notBl snd_isnotB ha hb hm
theorem tisnotb_ (ha : PE X a (tE G W fa)) (hb : PE X b (tE G W fb)) (hm : behindInMarks .IsNot b = false := by rfl) : PT X (.Compare a [.IsNot] [b] pos) (tB' G W (bE (eOp2 isnotB fa fb))) := tcmp_ op_notBl snd_isnotB ha hb hm
end Ev
set_option linter.all false
set_option Elab.async false
set_option maxRecDepth 100000
set_option maxHeartbeats 2000000
/-! own dicts that are walked (locked for as long), copied; locks by expression -/
namespace Ev
open PySem L2 PySem.Spec
variable {F F1 A A1 A2 : Addr → Prop} {ρ ρ1 ρ2 : List Addr} {H H1 H2 : Hp} {K : PySem.W.Frag} {G : PC} {S S1 S2 : Store} {X : Cx} {W : WX}
variable {a b c e e2 o : Expr} {es : List Expr} {fa fb fc : SE} {as : SA} {pos : Pos} {st : Stmt} {L : Loc}
/-- an own object is changed and locked -/
theorem RS.lockW (r : RS G F A ρ S H) {a : Addr} {n : Nat} (ea : ρ[n]? = some a) {o : HO} {c c0 : Cell} (ho : isOwn o) (e0 : S[n]? = some c0) (n0 : ¬ isLk c0) (nl : isLk c)
    (hc : Ext F A ρ H A ρ (upd H a o) → RepC G A (upd H a o) ρ a c) : Ext F A ρ H A ρ (upd H a o) ∧ RS G (plus F a) A ρ (S.set n c) (upd H a o) := by
  have ma := List.mem_of_getElem? ea
  have nF : ¬ F a := fun z => n0 ((r.lk n a c0 ea e0).mp z)
  have x : Ext F A ρ H A ρ (upd H a o) := by
    refine ⟨List.prefix_refl _, fun b u nb h => (by
    by_cases hb : b = a
    · subst hb; exact (nF (nb ma)).elim
    · rw [upd_ne hb]; exact h), fun b h => ?_, fun b h => h, fun b h => .inl h, fun b h => .inl h⟩
    · by_cases hb : b = a
      · rw [hb, upd_same] at h; cases h
      · rw [upd_ne hb] at h; exact h
  have k : ∀ b, b ≠ a → upd H a o b = H b := fun b hb => upd_ne hb
  have inj : ∀ {m : Nat} {b : Addr}, m ≠ n → ρ[m]? = some b → b ≠ a := fun {m b} hm e1 z => by
    subst z
    obtain ⟨h1, e1⟩ := List.getElem?_eq_some_iff.mp e1
    obtain ⟨h2, e2⟩ := List.getElem?_eq_some_iff.mp ea
    exact hm ((List.getElem_inj r.nd).mp (e1.trans e2.symm))
  refine ⟨x, r.sub, fun b h => ?_, r.nd, by rw [List.length_set]; exact r.len, fun b h => ?_, fun b h => h.elim (r.fin b) fun h => by rw [h]; exact ma, fun m b c' e1 e2 => ?_, fun m c' e => ?_⟩
  · by_cases hb : b = a
    · rw [hb]; exact ⟨o, upd_same⟩
    · obtain ⟨u, e⟩ := r.trk b h
      exact ⟨u, (k b hb).trans e⟩
  · by_cases hb : b = a
    · rw [hb]; exact ⟨o, upd_same, ho⟩
    · obtain ⟨u, e, w⟩ := r.own b h
      exact ⟨u, (k b hb).trans e, w⟩
  · by_cases hm : m = n
    · subst hm
      have hl := (List.getElem?_eq_some_iff.mp e2).1
      rw [List.length_set] at hl
      rw [List.getElem?_set_self hl] at e2
      cases e2
      rw [ea] at e1; cases e1
      exact ⟨fun _ => nl, fun _ => .inr rfl⟩
    · rw [List.getElem?_set_ne (Ne.symm hm)] at e2
      have hl := r.lk m b c' e1 e2
      exact ⟨fun z => z.elim hl.mp fun z => (inj hm e1 z).elim, fun z => .inl (hl.mpr z)⟩
  · by_cases hm : m = n
    · subst hm
      have hl := (List.getElem?_eq_some_iff.mp e).1
      rw [List.length_set] at hl
      rw [List.getElem?_set_self hl] at e
      cases e
      exact ⟨a, ea, hc x⟩
    · rw [List.getElem?_set_ne (Ne.symm hm)] at e
      obtain ⟨b, e1, q⟩ := r.cells m c' e
      exact ⟨b, e1, q.mv x r (k b (inj hm e1))⟩
/-- and set back -/
theorem RS.unlockW (r : RS G F A ρ S H) {a : Addr} {n : Nat} (ea : ρ[n]? = some a) {o u : HO} {c0 : Cell} (hu : isOwn u) (e0 : S[n]? = some c0) (n0 : ¬ isLk c0) (h0 : H a = some u)
    (y : Ext (plus F a) A ρ (upd H a o) A1 ρ1 H1) (r1 : RS G (plus F a) A1 ρ1 S1 H1) (hc : Ext F A ρ H A1 ρ1 (upd H1 a u) → RepC G A1 (upd H1 a u) ρ1 a c0) :
    Ext F A ρ H A1 ρ1 (upd H1 a u) ∧ Ext F A1 ρ1 H1 A1 ρ1 (upd H1 a u) ∧ RS G F A1 ρ1 (S1.set n c0) (upd H1 a u) := by
  have ma := List.mem_of_getElem? ea
  have nF : ¬ F a := fun z => n0 ((r.lk n a c0 ea e0).mp z)
  have ea1 : ρ1[n]? = some a := by
    obtain ⟨t, e⟩ := y.pre
    rw [← e, List.getElem?_append_left (List.getElem?_eq_some_iff.mp ea).1]
    exact ea
  have ma1 := List.mem_of_getElem? ea1
  have x : Ext F A ρ H A1 ρ1 (upd H1 a u) := by
    refine ⟨y.pre, fun b q nb h => ?_, fun b h => ?_, y.up, fun b h => ?_, fun b h => ?_⟩
    · have hb : b ≠ a := fun z => by subst z; exact nF (nb ma)
      rw [upd_ne hb]
      exact y.fr b q (fun m => .inl (nb m)) (by rw [upd_ne hb]; exact h)
    · by_cases hb : b = a
      · rw [hb, upd_same] at h; cases h
      · rw [upd_ne hb] at h
        have := y.st b h
        rw [upd_ne hb] at this; exact this
    · rcases y.nw b h with h | h
      · exact .inl h
      · by_cases hb : b = a
        · rw [hb, upd_same] at h; cases h
        · rw [upd_ne hb] at h; exact .inr h
    · rcases y.nr b h with h | h
      · exact .inl h
      · by_cases hb : b = a
        · rw [hb, upd_same] at h; cases h
        · rw [upd_ne hb] at h; exact .inr h
  have x1 : Ext F A1 ρ1 H1 A1 ρ1 (upd H1 a u) := by
    refine ⟨List.prefix_refl _, fun b q nb h => (by
    by_cases hb : b = a
    · subst hb; exact (nF (nb ma1)).elim
    · rw [upd_ne hb]; exact h), fun b h => ?_, fun b h => h, fun b h => .inl h, fun b h => .inl h⟩
    · by_cases hb : b = a
      · rw [hb, upd_same] at h; cases h
      · rw [upd_ne hb] at h; exact h
  have k : ∀ b, b ≠ a → upd H1 a u b = H1 b := fun b hb => upd_ne hb
  have inj : ∀ {m : Nat} {b : Addr}, m ≠ n → ρ1[m]? = some b → b ≠ a := fun {m b} hm e1 z => by
    subst z
    obtain ⟨h1, e1⟩ := List.getElem?_eq_some_iff.mp e1
    obtain ⟨h2, e2⟩ := List.getElem?_eq_some_iff.mp ea1
    exact hm ((List.getElem_inj r1.nd).mp (e1.trans e2.symm))
  refine ⟨x, x1, r1.sub, fun b h => ?_, r1.nd, by rw [List.length_set]; exact r1.len, fun b h => ?_, fun b h => r1.fin b (.inl h), fun m b c' e1 e2 => ?_, fun m c' e => ?_⟩
  · by_cases hb : b = a
    · rw [hb]; exact ⟨u, upd_same⟩
    · obtain ⟨q, e⟩ := r1.trk b h
      exact ⟨q, (k b hb).trans e⟩
  · by_cases hb : b = a
    · rw [hb]; exact ⟨u, upd_same, hu⟩
    · obtain ⟨q, e, w⟩ := r1.own b h
      exact ⟨q, (k b hb).trans e, w⟩
  · by_cases hm : m = n
    · subst hm
      have hl := (List.getElem?_eq_some_iff.mp e2).1
      rw [List.length_set] at hl
      rw [List.getElem?_set_self hl] at e2
      cases e2
      rw [ea1] at e1; cases e1
      exact ⟨fun z => (nF z).elim, fun z => (n0 z).elim⟩
    · rw [List.getElem?_set_ne (Ne.symm hm)] at e2
      have hl := r1.lk m b c' e1 e2
      exact ⟨fun z => hl.mp (.inl z), fun z => (hl.mpr z).elim (fun z => z) fun z => (inj hm e1 z).elim⟩
  · by_cases hm : m = n
    · subst hm
      have hl := (List.getElem?_eq_some_iff.mp e).1
      rw [List.length_set] at hl
      rw [List.getElem?_set_self hl] at e
      cases e
      exact ⟨a, ea1, hc x⟩
    · rw [List.getElem?_set_ne (Ne.symm hm)] at e
      obtain ⟨b, e1, q⟩ := r1.cells m c' e
      exact ⟨b, e1, RepC.mv' x1 r1.rn (List.prefix_refl _) (k b (inj hm e1)) q⟩
/-- as mapS; nothing is said of what is raised -/
def SR.mapD (f : Store → Store) : SR → SR
  | .nx L S => .nx L (f S)
  | .rt v S => .rt v (f S)
  | .bk L S => .bk L (f S)
  | .ct L S => .ct L (f S)
  | .ex .. => .bad
  | .bad => .bad
/-- what a lock names -/
def refOf (r : R Val) : Option Nat := match r with
  | .ok (.ref n) _ => some n
  | _ => none
/-- a statement while the own dict at n is locked -/
def lkDC (n : Nat) (s : SS) (L : Loc) (S : Store) (c : Option Cell) : SR := match c with
  | some (.dic ks ds) => (s L (S.set n (.ldk ks ds))).mapD fun S1 => S1.set n (.dic ks ds)
  | some (.dit ks ds) => (s L (S.set n (.ldt ks ds))).mapD fun S1 => S1.set n (.dit ks ds)
  | _ => .bad
def lkDO (s : SS) (L : Loc) (S : Store) (n : Option Nat) : SR := match n with
  | some n => lkDC n s L S S[n]?
  | none => .bad
/-- a statement while the own dict that e names is locked -/
def sLkD (e : SE) (s : SS) : SS := fun L S => lkDO s L S (refOf (e L S))
theorem lock_ok {D : Ends} {σ : St} {a : Addr} {n : Nat} {o u : HO} {c c0 : Cell} {s : SS} (r : RS G F A ρ S H) (l : RL G.K A H ρ L σ) (ea : ρ[n]? = some a) (e0 : S[n]? = some c0) (n0 : ¬ isLk c0) (hu : isOwn u) (h0 : H a = some u)
    (x : Ext F A ρ H A ρ (upd H a o)) (r2 : RS G (plus F a) A ρ (S.set n c) (upd H a o)) (hc : ∀ A1 ρ1 H1, Ext F A ρ H A1 ρ1 (upd H1 a u) → RepC G A1 (upd H1 a u) ρ1 a c0)
    (q : StOk G F W D A ρ H ((s L (S.set n c)).mapD fun S1 => S1.set n c0)) :
    tS G W s ⟨fun σ' H' => H' a = some o ∧ D.nx σ' (upd H' a u), fun v H' => H' a = some o ∧ D.rt v (upd H' a u), fun σ' H' => H' a = some o ∧ D.bk σ' (upd H' a u), fun σ' H' => H' a = some o ∧ D.ct σ' (upd H' a u)⟩ σ (upd H a o) := by
  have inn : ∀ {A1 ρ1 H1 S1}, Ext (plus F a) A ρ (upd H a o) A1 ρ1 H1 → RS G (plus F a) A1 ρ1 S1 H1 → H1 a = some o ∧ Ext F A ρ H A1 ρ1 (upd H1 a u) ∧ Ext F A1 ρ1 H1 A1 ρ1 (upd H1 a u) ∧ RS G F A1 ρ1 (S1.set n c0) (upd H1 a u) := fun {A1 ρ1 H1 S1} y r1 =>
    ⟨y.fr a o (fun _ => .inr rfl) upd_same, r.unlockW ea hu e0 n0 h0 y r1 (hc A1 ρ1 H1)⟩
  refine ⟨plus F a, A, ρ, L, S.set n c, l.mv x r, r2, ?_⟩
  revert q
  cases s L (S.set n c) with
  | bad => exact fun q => q
  | ex y L1 S1 => exact fun q => q.elim
  | nx L1 S1 =>
    intro q A1 ρ1 H1 σ1 y r1 l1
    obtain ⟨h1, y2, y3, r3⟩ := inn y r1
    exact ⟨h1, q A1 ρ1 _ σ1 y2 r3 ⟨l1.1, fun i w e => let ⟨v, e1, p⟩ := l1.2 i w e; ⟨v, e1, RepV.mv' y3 r1.rn (List.prefix_refl _) w v p⟩⟩⟩
  | bk L1 S1 =>
    intro q A1 ρ1 H1 σ1 y r1 l1
    obtain ⟨h1, y2, y3, r3⟩ := inn y r1
    exact ⟨h1, q A1 ρ1 _ σ1 y2 r3 ⟨l1.1, fun i w e => let ⟨v, e1, p⟩ := l1.2 i w e; ⟨v, e1, RepV.mv' y3 r1.rn (List.prefix_refl _) w v p⟩⟩⟩
  | ct L1 S1 =>
    intro q A1 ρ1 H1 σ1 y r1 l1
    obtain ⟨h1, y2, y3, r3⟩ := inn y r1
    exact ⟨h1, q A1 ρ1 _ σ1 y2 r3 ⟨l1.1, fun i w e => let ⟨v, e1, p⟩ := l1.2 i w e; ⟨v, e1, RepV.mv' y3 r1.rn (List.prefix_refl _) w v p⟩⟩⟩
  | rt v S1 =>
    intro q A1 ρ1 H1 w y r1 rw
    obtain ⟨h1, y2, y3, r3⟩ := inn y r1
    exact ⟨h1, q A1 ρ1 _ w y2 r3 (RepV.mv' y3 r1.rn (List.prefix_refl _) v w rw)⟩
theorem slkd_ {s : SS} {fe : SE} (h : PS X st (tS G W s)) : PS X st (tS G W (sLkD fe s)) := PS.imp (ps_lock h) fun D σ H ⟨F, A, ρ, L, S, l, r, q⟩ => by
  unfold sLkD lkDO at q
  split at q
  · rename_i n en
    unfold lkDC at q
    split at q
    · rename_i ks ds e0
      obtain ⟨a, ea, vs, h0, h1, h2⟩ := r.cells n _ e0
      refine ⟨a, .dK (ks.zip vs), h0, True.intro, fun od => ?_⟩
      obtain ⟨x, r2⟩ := r.lockW ea (o := .frz od (.dK (ks.zip vs))) (c := .ldk ks ds) True.intro e0 (fun z => z) True.intro (fun x => ⟨vs, ⟨od, upd_same⟩, h1, RepDs.mv x r ds vs h2⟩)
      exact lock_ok r l ea e0 (fun z => z) True.intro h0 x r2 (fun A1 ρ1 H1 y => ⟨vs, upd_same, h1, RepDs.mv y r ds vs h2⟩) q
    · rename_i ks ds e0
      obtain ⟨a, ea, vs, h0, h1, h2⟩ := r.cells n _ e0
      refine ⟨a, .dT (ks.zip vs), h0, True.intro, fun od => ?_⟩
      obtain ⟨x, r2⟩ := r.lockW ea (o := .frz od (.dT (ks.zip vs))) (c := .ldt ks ds) True.intro e0 (fun z => z) True.intro (fun x => ⟨vs, ⟨od, upd_same⟩, h1, RepDs.mv x r ds vs h2⟩)
      exact lock_ok r l ea e0 (fun z => z) True.intro h0 x r2 (fun A1 ρ1 H1 y => ⟨vs, upd_same, h1, RepDs.mv y r ds vs h2⟩) q
    · exact q.elim
  · exact q.elim
/-- a statement while the own list that e names is locked (nothing else is: it runs as it is) -/
def lkLO (s : SS) (L : Loc) (S : Store) (n : Option Nat) : SR := match n with
  | some n => lkC n s L S S[n]?
  | none => s L S
def sLkL (e : SE) (s : SS) : SS := fun L S => lkLO s L S (refOf (e L S))
theorem slkl_ {s : SS} {fe : SE} (h : PS X st (tS G W s)) : PS X st (tS G W (sLkL fe s)) := PS.imp h fun D σ H ⟨F, A, ρ, L, S, l, r, q⟩ => by
  unfold sLkL lkLO at q
  split at q
  · rename_i n en
    unfold lkC at q
    split at q
    · rename_i ds e0
      obtain ⟨a, ex, vs, h1, h2⟩ := r.cells n _ e0
      refine ⟨plus F a, A, ρ, L, S.set n (.lck ds), l, r.lock ex e0, ?_⟩
      revert q
      cases s L (S.set n (.lck ds)) with
      | bad => exact fun q => q
      | nx L1 S1 => exact fun q A' ρ' H' σ' x r' l' => q A' ρ' H' σ' x.less (r.unlock ex e0 x r') l'
      | bk L1 S1 => exact fun q A' ρ' H' σ' x r' l' => q A' ρ' H' σ' x.less (r.unlock ex e0 x r') l'
      | ct L1 S1 => exact fun q A' ρ' H' σ' x r' l' => q A' ρ' H' σ' x.less (r.unlock ex e0 x r') l'
      | rt v S1 => exact fun q A' ρ' H' w x r' rw => q A' ρ' H' w x.less (r.unlock ex e0 x r') rw
      | ex y L1 S1 => exact fun q A' ρ' H' σ' cls d x r' l' rx => q A' ρ' H' σ' cls d x.less (r.unlock ex e0 x r') l' rx
    · exact q.elim
  · exact ⟨F, A, ρ, L, S, l, r, q⟩
/-! ### the walk of a locked dict -/
def kD : Key → D
  | .inl i => .int i
  | .inr x => .str x
theorem kD_rep (k : Key) : RepD K A H (kD k) (kV k) := by cases k <;> rfl
def itDK (v : Val) (S : Store) : R (List D) := match v with
  | .ref n => (match S[n]? with
    | some (.ldk ks _) => .ok (ks.map kD) S
    | _ => .bad)
  | _ => .bad
/-- the keys of a locked own dict -/
def iDK (e : SE) : SI := fun L S => (e L S).bind itDK
theorem zip_key {ks : List Key} {vs : List V} (hl : ks.length = vs.length) (i : Nat) : (ks.zip vs)[i]?.map Prod.fst = ks[i]? := by
  rw [← List.getElem?_map, List.map_fst_zip (by omega)]
theorem zip_val {ks : List Key} {vs : List V} (hl : ks.length = vs.length) (i : Nat) : (ks.zip vs)[i]?.map Prod.snd = vs[i]? := by
  rw [← List.getElem?_map, List.map_snd_zip (by omega)]
theorem keys_rep (ks : List Key) : RepDs K A H (ks.map kD) (ks.map kV) := by
  induction ks with
  | nil => rfl
  | cons k r ih => exact ⟨_, _, rfl, kD_rep k, ih⟩
theorem iDK_ {tg : Expr} (h : PI X tg e (iKeys (tE G W fa))) : PI X tg e (tI G W (iDK fa)) := PI.imp h fun σ H Q ⟨F, A, ρ, L, S, l, r, q⟩ => by
  refine ⟨F, A, ρ, L, S, l, r, EvOk.bind (k := itDK) q fun v S1 A1 ρ1 H1 x1 r1 q1 w rw1 => ?_⟩
  unfold itDK at q1
  split at q1
  · rename_i n
    split at q1
    · rename_i ks ds e2
      obtain ⟨a, e1, rfl⟩ := rw1
      obtain ⟨a', e3, vs, ⟨od, h1⟩, h2, h3⟩ := r1.cells n _ e2
      rw [e1] at e3; cases e3
      have hF : F a := (r1.lk n a _ e1 e2).mpr True.intro
      have hl : (ks.zip vs).length = ks.length := by rw [List.length_zip, h3.len]; omega
      refine ⟨a, od, rfl, .inl ⟨_, h1, q1 A1 ρ1 H1 Ext.refl r1 _ (.inl ⟨ks.map kV, keys_rep ks, fun A2 ρ2 H2 x => ?_⟩)⟩⟩
      have h4 := x.fr a _ (fun _ => hF) h1
      rw [List.length_map]
      refine ⟨fun i hi => ⟨h4, by omega⟩, fun i hi => ⟨h4, by omega⟩, fun i y H3 hi z => ⟨z.1, ?_⟩⟩
      obtain ⟨_, k, v, hk, rfl⟩ := z
      have := zip_key (ks := ks) (vs := vs) (by rw [h3.len]; exact h2) i
      rw [hk] at this
      rw [List.getElem?_map, ← this]
      rfl
    · exact q1.elim
  · exact q1.elim
def kvD (ks : List Key) (ds : List D) : List (List D) := (ks.zip ds).map fun p => [kD p.1, p.2]
def itDI (v : Val) (S : Store) : R (List D) := match v with
  | .ref n => (match S[n]? with
    | some (.ldk ks ds) => .ok ((kvD ks ds).map .tup) S
    | _ => .bad)
  | _ => .bad
/-- the keys and values of a locked own dict -/
def iDI (e : SE) : SI := fun L S => (e L S).bind itDI
theorem iDI_ {elts : List Expr} {kk : Nat} {tpos apos cpos : Pos} {x : Expr} (h : PI X (.Tuple elts kk tpos) (.Call (.Attribute x "items" apos) [] [] cpos) (iItems (tE G W fa))) : PI X (.Tuple elts kk tpos) (.Call (.Attribute x "items" apos) [] [] cpos) (tI G W (iDI fa)) := PI.imp h fun σ H Q ⟨F, A, ρ, L, S, l, r, q⟩ => by
  refine ⟨F, A, ρ, L, S, l, r, EvOk.bind (k := itDI) q fun v S1 A1 ρ1 H1 x1 r1 q1 w rw1 => ?_⟩
  unfold itDI at q1
  split at q1
  · rename_i n
    split at q1
    · rename_i ks ds e2
      obtain ⟨a, e1, rfl⟩ := rw1
      obtain ⟨a', e3, vs, ⟨od, h1⟩, h2, h3⟩ := r1.cells n _ e2
      rw [e1] at e3; cases e3
      have hF : F a := (r1.lk n a _ e1 e2).mpr True.intro
      have hv := h3.len
      have hl : (ks.zip vs).length = ks.length := by rw [List.length_zip, hv]; omega
      have hl2 : (kvD ks ds).length = ks.length := by unfold kvD; rw [List.length_map, List.length_zip]; omega
      refine ⟨a, od, _, rfl, h1, q1 A1 ρ1 H1 Ext.refl r1 _ (.inr ⟨kvD ks ds, (ks.zip vs).map fun p => [kV p.1, p.2], rfl, by rw [List.length_map, hl, hl2], fun i es us g1 g2 => ?_, fun A2 ρ2 H2 x => ?_⟩)⟩
      · unfold kvD at g1
        rw [List.getElem?_map] at g1 g2
        cases z1 : (ks.zip ds)[i]? with
        | none => rw [z1] at g1; cases g1
        | some p =>
          rw [z1] at g1; cases g1
          obtain ⟨p1, p2⟩ := List.getElem?_zip_eq_some.mp z1
          obtain ⟨u, p3, p4⟩ := h3.get p2
          have z2 : (ks.zip vs)[i]? = some (p.1, u) := List.getElem?_zip_eq_some.mpr ⟨p1, p3⟩
          rw [z2] at g2; cases g2
          exact ⟨_, _, rfl, kD_rep _, _, _, rfl, p4, rfl⟩
      · have h4 := x.fr a _ (fun _ => hF) h1
        rw [List.length_map]
        refine ⟨fun i hi => ⟨h4, by omega⟩, fun i hi => ⟨h4, by omega⟩, fun i y H3 hi z => ?_⟩
        obtain ⟨T, k, v, hk, rfl, hT, rfl⟩ := z
        refine ⟨T, _, rfl, hT, rfl, ?_⟩
        rw [List.getElem?_map, hk]
        rfl
    · exact q1.elim
  · exact q1.elim
/-! ### dict(d) -/
def dicCp (v : Val) (S : Store) : R Val := match v with
  | .ref n => (match S[n]? with
    | some (.dic ks ds) => .ok (.ref S.length) (S ++ [.dic ks ds])
    | some (.ldk ks ds) => .ok (.ref S.length) (S ++ [.dic ks ds])
    | _ => .bad)
  | _ => .bad
def eDicOf (a : SE) : SE := fun L S => (a L S).bind dicCp
theorem dicOf_ (h : PE X e (tCB (fun xs H Q => ∃ (a : Addr) (kvs : List (Key × V)), xs = [.ref a] ∧ Rd H a (.dK kvs) ∧ ∀ p, H p = none → Q (.ref p) (upd H p (.dK kvs))) (tCons (tE G W fa) tNil))) : PE X e (tE G W (eDicOf fa)) := PE.imp h fun σ H Q ⟨F, A, ρ, L, S, l, r0, q⟩ => by
  refine ⟨F, A, ρ, L, S, l, r0, EvOk.bind q fun v S1 A1 ρ1 H1 x1 r1 q1 w rw => ?_⟩
  have fin : ∀ {n : Nat} {ks : List Key} {ds : List D}, v = .ref n → (S1[n]? = some (.dic ks ds) ∨ S1[n]? = some (.ldk ks ds)) → EvOk G F (fun A' ρ' H' y => ∀ w', RepV G.K A' H' ρ' y w' → Q w' H') (fun cls d H' => W cls d σ H') A1 ρ1 H1 (.ok (.ref S1.length) (S1 ++ [.dic ks ds])) → ∃ (a : Addr) (kvs : List (Key × V)), [w] = [.ref a] ∧ Rd H1 a (.dK kvs) ∧ ∀ p, H1 p = none → Q (.ref p) (upd H1 p (.dK kvs)) := fun {n ks ds} ev e2 q2 => by
    subst ev
    obtain ⟨a, vs, rfl, ea, h1, h2, h3⟩ := r1.dicR e2 rw
    refine ⟨a, _, rfl, h1, fun p hp => ?_⟩
    obtain ⟨x, r'⟩ := r1.push (c := .dic ks ds) hp (o := .dK (ks.zip vs)) True.intro (fun _ z => z) fun x => ⟨vs, upd_same, h2, RepDs.weak (fun a h => h) ds vs (RepDs.mv x r1 ds vs h3)⟩
    refine q2 _ _ _ x r' (.ref p) ⟨p, ?_, rfl⟩
    rw [List.getElem?_append_right (by rw [r1.len]; exact Nat.le_refl _), r1.len, Nat.sub_self]
    rfl
  unfold dicCp at q1
  split at q1
  · rename_i n
    split at q1
    · rename_i ks ds e2; exact fin rfl (.inl e2) q1
    · rename_i ks ds e2; exact fin rfl (.inr e2) q1
    · exact q1.elim
  · exact q1.elim
end Ev
namespace Ev
open PySem L2 PySem.Spec
theorem runFn_bad {np nl : Nat} : runFn np nl sBad = fun _ _ => .bad := by
  funext args S
  unfold runFn
  split <;> rfl
/-- a def that is never reached: nothing is said of it -/
theorem fn_dead {G : PC} {P : Program} {w : World} {mg : Str → Option Value} {base : Heap} {CX : CXT} {k np nl : Nat} {f : Addr} {fd : FuncData} {ps : List Str} (hl : ps.length = np := by rfl) :
    FnOk P w G.K mg base CX k f fd ps (spF G np (runFn np nl sBad)) := by
  rw [runFn_bad]
  exact ⟨fun vs H Q E h => (spF_len vs H Q E h).trans hl.symm, fun A outer s H args us vs Q E _ _ _ _ h => by
    obtain ⟨F, A, ρ, as, S, _, _, _, q⟩ := h
    exact q.elim⟩
end Ev
set_option linter.all false
set_option Elab.async false
set_option maxRecDepth 100000
/-! items of a list that is written out, of own things; == of tuples that hold own lists -/
namespace Ev
open PySem L2
variable {F A A1 A2 : Addr → Prop} {ρ ρ1 ρ2 : List Addr} {H H1 H2 : Hp} {K : PySem.W.Frag} {G : PC} {S S1 S2 : Store} {X : Cx} {W : WX}
def pickV (vs : List Val) (S : Store) : Val → R Val
  | .d (.int i) => match atI vs i with
    | some u => .ok u S
    | none => .bad
  | _ => .bad
def ePick (as : SA) (b : SE) : SE := fun L S => (as L S).bind fun vs S1 => if vs.length ≤ 1000 then (b L S1).bind fun w S2 => pickV vs S2 w else .bad
theorem pick_t {as : SA} {fb : SE} : ∀ σ H Q, tE G W (ePick as fb) σ H Q → tOp (rIx G.K) (tLst (tA' G W as)) (tE G W fb) σ H Q := fun σ H Q ⟨F, A, ρ, L, S, l, r0, q⟩ => by
  refine ⟨F, A, ρ, L, S, l, r0, EvOk.bind q fun vs S1 A1 ρ1 H1 x1 r1 q1 ws rws => ?_⟩
  split at q1
  · rename_i c
    refine ⟨le_line (by rw [rws.len]; exact c), fun p hp => ?_⟩
    obtain ⟨x, r'⟩ := r1.laid hp (.lst ws)
    refine ⟨F, A1, ρ1, L, S1, (l.mv x1 r0).mv x r1, r', EvOk.bind (EvOk.shift x q1) fun w S2 A2 ρ2 H2 x2 r2 q2 u ru => ?_⟩
    unfold pickV at q2
    split at q2
    · rename_i i
      split at q2
      · rename_i d e
        obtain ⟨z, e1, pz⟩ := atI_repV rws e
        have hq : H2 p = some (.lst ws) := x2.fr p _ (fun z => (r1.notA hp (r1.sub p z)).elim) upd_same
        exact .inl ⟨p, ws, i, z, rfl, ru, SqL.of hq, e1, q2 A2 ρ2 H2 Ext.refl r2 z (RepV.mv x2 r' _ _ (RepV.mv x r1 _ _ pz))⟩
      · exact q2.elim
    · exact q2.elim
  · exact q1.elim
theorem pick_ {es : List Expr} {pos pos' : Pos} {b : Expr} {as : SA} {fb : SE} (hK : X.K = G.K) (h : PA X es (tA' G W as)) (hb : PE X b (tE G W fb)) (hp : PlainIx b) : PE X (.Subscript (.List es pos) b pos') (tE G W (ePick as fb)) := PE.imp (pe_ix (hK ▸ ix_seq) (pe_lst h) hb hp) pick_t

/-- the datum that a value is at the moment, also of a tuple that holds own lists -/
def dvL (S : Store) : List Val → Option (List D)
  | [] => some []
  | v :: vs => match top S v, dvL S vs with
    | some x, some xs => some (x :: xs)
    | _, _ => none
def dv (S : Store) : Val → Option D
  | .vt vs => (dvL S vs).map .tup
  | v => top S v
theorem RS.dvL (r : RS G F A ρ S H) : ∀ {vs : List Val} {ws : List V} {ds : List D}, RepVs G.K A H ρ vs ws → Ev.dvL S vs = some ds → DpAll G.K H ws (D.pys ds)
  | [], ws, ds, h, e => by
    cases e
    rw [show ws = [] from h]
    exact .nil
  | v :: vs, ws, ds, h, e => by
    obtain ⟨w, t, rfl, p, q⟩ := h
    unfold Ev.dvL at e
    split at e
    · rename_i x xs e1 e2
      cases e
      exact .cons (r.top p e1).dp (r.dvL q e2)
    · cases e
theorem RS.dv (r : RS G F A ρ S H) {v : Val} {w : V} {x : D} (h : RepV G.K A H ρ v w) (e : Ev.dv S v = some x) : Dp G.K H w x.py := by
  cases v with
  | vt vs =>
    obtain ⟨a, ws, rfl, sq, p⟩ := h
    unfold Ev.dv at e
    simp only at e
    cases e2 : Ev.dvL S vs with
    | none => rw [e2] at e; cases e
    | some ds =>
      rw [e2] at e
      cases e
      exact .tup sq (r.dvL p e2)
  | d y => exact (r.top h e).dp
  | ref n => exact (r.top h e).dp
  | exc _ _ _ _ => cases e
def eqW (neg : Bool) (x y : D) : Option D := if SeqAt.shaped x.py = true ∧ SeqAt.shaped y.py = true then some (.bl (if neg = true then !PyData.eqv x.py y.py else PyData.eqv x.py y.py)) else none
def eqV (neg : Bool) (S : Store) (a b : Option D) : R Val := match a, b with
  | some x, some y => R.of (eqW neg x y) S
  | _, _ => .bad
def eEqV (neg : Bool) (a b : SE) : SE := fun L S => (a L S).bind fun v S1 => (b L S1).bind fun w S2 => eqV neg S2 (dv S2 v) (dv S2 w)
theorem eqv_t {neg : Bool} {fa fb : SE} : ∀ σ H Q, tE G W (eEqV neg fa fb) σ H Q → tOp (if neg = true then rNeD G.K else rEqD G.K) (tE G W fa) (tE G W fb) σ H Q := fun σ H Q ⟨F, A, ρ, L, S, l, r0, q⟩ => by
  refine ⟨F, A, ρ, L, S, l, r0, EvOk.bind q fun v S1 A1 ρ1 H1 x1 r1 q1 w rw1 => ?_⟩
  refine ⟨F, A1, ρ1, L, S1, l.mv x1 r0, r1, EvOk.bind q1 fun v2 S2 A2 ρ2 H2 x2 r2 q2 w2 rw2 => ?_⟩
  have rw1' := RepV.mv x2 r1 _ _ rw1
  unfold eqV at q2
  split at q2
  · rename_i x y e1 e2
    obtain ⟨z, ez, q3⟩ := of_ok q2
    unfold eqW at ez
    split at ez
    · rename_i c
      cases ez
      have h1 := r2.dv rw1' e1
      have h2 := r2.dv rw2 e2
      have q4 := q3 A2 ρ2 H2 Ext.refl r2 _ rfl
      cases neg with
      | true => exact ⟨_, _, h1, h2, c.1, c.2, q4⟩
      | false => exact ⟨_, _, h1, h2, c.1, c.2, q4⟩
    · cases ez
  · exact q2.elim
theorem eqv_ {a b : Expr} {pos : Pos} {fa fb : SE} (hK : X.K = G.K) (hu : X.A.units + 64 < cLine) (ha : PE X a (tE G W fa)) (hb : PE X b (tE G W fb)) : PE X (.Compare a [.Eq] [b] pos) (tE G W (eEqV false fa fb)) := PE.imp (pe_cmpR (hK ▸ op_eqD hu) ha hb (nomark _)) eqv_t
theorem nev_ {a b : Expr} {pos : Pos} {fa fb : SE} (hK : X.K = G.K) (hu : X.A.units + 64 < cLine) (ha : PE X a (tE G W fa)) (hb : PE X b (tE G W fb)) : PE X (.Compare a [.NotEq] [b] pos) (tE G W (eEqV true fa fb)) := PE.imp (pe_cmpR (hK ▸ op_neD hu) ha hb (nomark _)) eqv_t
theorem teqv_ {a b : Expr} {pos : Pos} {fa fb : SE} (hK : X.K = G.K) (hu : X.A.units + 64 < cLine) (ha : PE X a (tE G W fa)) (hb : PE X b (tE G W fb)) : PT X (.Compare a [.Eq] [b] pos) (tB' G W (bE (eEqV false fa fb))) := PT.imp (pt_cmpR (hK ▸ op_eqD hu) ha hb (nomark _)) fun σ H Q q => eqv_t σ H _ (bE_t σ H Q q)
theorem tnev_ {a b : Expr} {pos : Pos} {fa fb : SE} (hK : X.K = G.K) (hu : X.A.units + 64 < cLine) (ha : PE X a (tE G W fa)) (hb : PE X b (tE G W fb)) : PT X (.Compare a [.NotEq] [b] pos) (tB' G W (bE (eEqV true fa fb))) := PT.imp (pt_cmpR (hK ▸ op_neD hu) ha hb (nomark _)) fun σ H Q q => eqv_t σ H _ (bE_t σ H Q q)
end Ev
set_option linter.all false
set_option Elab.async false
set_option maxRecDepth 100000
/-! items of own lists are written: one, two at once -/
namespace Ev
open PySem L2
variable {F A A1 A2 : Addr → Prop} {ρ ρ1 ρ2 : List Addr} {H H1 H2 : Hp} {K : PySem.W.Frag} {G : PC} {S S1 S2 : Store} {X : Cx} {W : WX} {fa fb fc fd ff : SE} {st : Stmt}
/-- xs[i] = x -/
def putLC (i : Int) (x : D) : Option Cell → Option Cell
  | some (.lst ds) => match ixN ds.length i with
    | some j => some (.lst (ds.set j x))
    | none => none
  | _ => none
def putLst (L : Loc) (v u w : Val) (S : Store) : SR := match v, u, w with
  | .ref n, .d (.int i), .d x => match putLC i x S[n]? with
    | some c => .nx L (S.set n c)
    | none => .bad
  | _, _, _ => .bad
def thenS (r : SR) (g : Loc → Store → SR) : SR := match r with
  | .nx L S => g L S
  | r => r
def sPutL (o k e : SE) : SS := fun L S => (e L S).to L fun w S1 => (o L S1).to L fun v S2 => (k L S2).to L fun u S3 => putLst L v u w S3
def put2 (o k p l : SE) (L : Loc) (S1 : Store) : Option (List Val) → SR
  | some [x, y] => (o L S1).to L fun v S2 => (k L S2).to L fun u S3 => thenS (putLst L v u x S3) fun _ S4 => (p L S4).to L fun v2 S5 => (l L S5).to L fun u2 S6 => putLst L v2 u2 y S6
  | _ => .bad
def sPutL2 (o k p l : SE) (e : SE) : SS := fun L S => (e L S).to L fun w S1 => put2 o k p l L S1 (unp w)
theorem putl_w {D : Ends} {L : Loc} {v u w : Val} {z t y : V} {σ : St} {g : Loc → Store → SR} (r : RS G F A ρ S H) (l : RL G.K A H ρ L σ) (rv : RepV G.K A H ρ v z) (ru : RepV G.K A H ρ u t) (rw0 : RepV G.K A H ρ w y) (q : StOk G F W D A ρ H (thenS (putLst L v u w S) g)) (Q : Hp → Prop)
    (h : ∀ S1 A1 ρ1 H1, Ext F A ρ H A1 ρ1 H1 → RS G F A1 ρ1 S1 H1 → RL G.K A1 H1 ρ1 L σ → StOk G F W D A1 ρ1 H1 (g L S1) → Q H1) : rSetL z t y H Q := by
  unfold putLst at q
  split at q
  · rename_i n i x
    split at q
    · rename_i c e
      unfold putLC at e
      split at e
      · rename_i ds e2
        split at e
        · rename_i j ej
          cases e
          obtain ⟨a, e1, rfl⟩ := rv
          obtain ⟨a', e3, vs, h1, h2⟩ := r.cells n _ e2
          rw [e1] at e3; cases e3
          have rw0 : RepD G.K A H x y := rw0
          have ru : t = .int i := ru
          subst ru
          refine ⟨a, vs, i, j, rfl, rfl, h1, by rw [h2.len]; exact ej, ?_⟩
          obtain ⟨x', r'⟩ := r.write e1 (o := .lst (vs.set j y)) (c := .lst (ds.set j x)) True.intro e2 (fun _ z => nomatch z) (fun _ z => nomatch z) fun x' => ⟨vs.set j y, upd_same, (RepDs.set j h2 rw0).mv x' r⟩
          exact h _ A ρ _ x' r' (l.mv x' r) (StOk.shift x' q)
        · cases e
      · cases e
    · exact q.elim
  · exact q.elim
theorem thenS_self {r : SR} : thenS r (fun L S => .nx L S) = r := by cases r <;> rfl
theorem putl_ (h : PS X st (tAsg (tE G W fa) (gSub (tE G W fb) (tE G W fc) rSetL))) : PS X st (tS G W (sPutL fb fc fa)) := PS.imp h fun D σ H ⟨F, A, ρ, L, S, l, r0, q⟩ => by
  refine ⟨F, A, ρ, L, S, l, r0, st_ok r0 l q fun w S1 A1 ρ1 H1 x1 r1 q1 y rw1 => ?_⟩
  have l1 := l.mv x1 r0
  refine ⟨F, A1, ρ1, L, S1, l1, r1, st_ok r1 l1 q1 fun v S2 A2 ρ2 H2 x2 r2 q2 z rw2 => ?_⟩
  have l2 := l1.mv x2 r1
  refine ⟨F, A2, ρ2, L, S2, l2, r2, st_ok r2 l2 q2 fun u S3 A3 ρ3 H3 x3 r3 q3 t rw3 => ?_⟩
  have l3 := l2.mv x3 r2
  refine putl_w (g := fun L S => .nx L S) r3 l3 (rw2.mv x3 r2) rw3 ((rw1.mv x2 r1).mv x3 r2) (by rw [thenS_self]; exact q3) _ fun S4 A4 ρ4 H4 x4 r4 l4 q4 => ?_
  exact q4 A4 ρ4 H4 σ Ext.refl r4 l4
theorem putl2_ (hK : X.K = G.K) (h : PS X st (tAsg (tE G W ff) (gTup X.K 2 (gCons (gSub (tE G W fa) (tE G W fb) rSetL) (gCons (gSub (tE G W fc) (tE G W fd) rSetL) gNil))))) : PS X st (tS G W (sPutL2 fa fb fc fd ff)) := PS.imp h fun D σ H ⟨F, A, ρ, L, S, l, r0, q⟩ => by
  refine ⟨F, A, ρ, L, S, l, r0, st_ok r0 l q fun w S1 A1 ρ1 H1 x1 r1 q1 y rw1 => ?_⟩
  have l1 := l.mv x1 r0
  unfold put2 at q1
  split at q1
  · rename_i x y e
    obtain ⟨a, ws, rfl, sq, p⟩ := unp_rep rw1 e
    obtain ⟨w1, t1, rfl, p1, w2, t2, rfl, p2, rfl⟩ := p
    refine ⟨a, _, rfl, hK ▸ sq, rfl, w1, _, rfl, ?_⟩
    refine ⟨F, A1, ρ1, L, S1, l1, r1, st_ok r1 l1 q1 fun v S2 A2 ρ2 H2 x2 r2 q2 z rw2 => ?_⟩
    have l2 := l1.mv x2 r1
    have p1 := p1.mv x2 r1
    have p2 := p2.mv x2 r1
    refine ⟨F, A2, ρ2, L, S2, l2, r2, st_ok r2 l2 q2 fun u S3 A3 ρ3 H3 x3 r3 q3 t rw3 => ?_⟩
    have l3 := l2.mv x3 r2
    have p1 := p1.mv x3 r2
    have p2 := p2.mv x3 r2
    refine putl_w r3 l3 (rw2.mv x3 r2) rw3 p1 q3 _ fun S4 A4 ρ4 H4 x4 r4 l4 q4 => ?_
    have p2 := p2.mv x4 r3
    refine ⟨w2, _, rfl, ?_⟩
    refine ⟨F, A4, ρ4, L, S4, l4, r4, st_ok r4 l4 q4 fun v S5 A5 ρ5 H5 x5 r5 q5 z rw4 => ?_⟩
    have l5 := l4.mv x5 r4
    have p2 := p2.mv x5 r4
    refine ⟨F, A5, ρ5, L, S5, l5, r5, st_ok r5 l5 q5 fun u S6 A6 ρ6 H6 x6 r6 q6 t rw5 => ?_⟩
    have l6 := l5.mv x6 r5
    have p2 := p2.mv x6 r5
    refine putl_w (g := fun L S => .nx L S) r6 l6 (rw4.mv x6 r5) rw5 p2 (by rw [thenS_self]; exact q6) _ fun S7 A7 ρ7 H7 x7 r7 l7 q7 => ?_
    exact ⟨rfl, q7 A7 ρ7 H7 σ Ext.refl r7 l7⟩
  · exact q1.elim
/-! ### a list comprehension whose list is one's own -/
def eCompO (f : SI) (g : SG) (t : SB) (e : SE) (vs : List Nat) : SE := fun L S => (f L S).bind fun ds S1 => if ds.length ≤ sizeLine then (compL g t e (wipeL L vs) ds [] S1).bind fun acc S2 => .ok (.ref S2.length) (S2 ++ [Cell.lst acc]) else .bad
theorem compO_t {f : SI} {g : SG} {t : SB} {e : SE} {vs : List Nat} : ∀ σ H Q, tE G W (eCompO f g t e vs) σ H Q →
    tLc (tI G W f) (tGw G vs g) (tB' G (fun _ _ _ _ => False) t) (tE G (fun _ _ _ _ => False) e) vs σ H Q := fun σ H Q ⟨F, A, ρ, L, S, l, r, q⟩ => by
  refine ⟨F, A, ρ, L, S, l, r, EvOk.bind q fun ds S1 A1 ρ1 H1 x1 r1 q1 J it p hp => ?_⟩
  split at q1
  · rename_i hz
    have l1 := l.mv x1 r
    have kk : ∀ a o, H1 a = some o → upd H1 p (.lst []) a = some o := fun a o h => by rw [upd_ne (ne_of_none h hp)]; exact h
    obtain ⟨x0, r0⟩ := r1.same (A1 := fun a => A1 a ∨ a = p) kk (fun _ h => .inl h) (fun a h => h.imp (fun h => h) fun h => by rw [h]; exact hp) fun a h => by
      rcases h with h | h
      · obtain ⟨o, e⟩ := r1.trk a h; exact ⟨o, kk a o e⟩
      · rw [h]; exact ⟨_, upd_same⟩
    have np0 : p ∉ ρ1 := fun z => by
      obtain ⟨o, e⟩ := r1.trk p (r1.sub p z)
      rw [hp] at e; cases e
    refine ⟨fun i m H' => i ≤ ds.length ∧ m = ds.length - i ∧ ∃ A' ρ' S' acc vacc, Ext F A1 ρ1 H1 A' ρ' H' ∧ RS G F A' ρ' S' H' ∧ A' p ∧ p ∉ ρ' ∧ H' p = some (.lst vacc) ∧ RepDs G.K A' H' acc vacc ∧ acc.length ≤ i ∧
      EvOk G F (fun A' ρ' H' v => ∀ w, RepV G.K A' H' ρ' v w → Q w H') (fun cls d H' => W cls d σ H') A1 ρ1 H1 ((compL g t e (wipeL L vs) (ds.drop i) acc S').bind fun acc S2 => .ok (.ref S2.length) (S2 ++ [Cell.lst acc])),
      ⟨ds.length, Nat.zero_le _, rfl, _, ρ1, S1, [], [], x0, r0, .inr rfl, np0, upd_same, rfl, Nat.le_refl _, q1⟩, ?_⟩
    rintro i m H' ⟨hi, rfl, A', ρ', S', acc, vacc, x', r', hA, np, ea, ra, hacc, q'⟩
    obtain ⟨go, stop, yld⟩ := it.use r1 x' r'
    by_cases ei : i = ds.length
    · left
      refine ⟨stop i (Nat.le_of_eq ei.symm), ?_⟩
      rw [List.drop_eq_nil_of_le (by omega)] at q'
      have xd : Ext F A1 ρ1 H1 A' (ρ' ++ [p]) H' := ⟨x'.pre.trans (List.prefix_append _ _), x'.fr, x'.st, x'.up, x'.nw, fun a h => by
        rcases List.mem_append.mp h with h | h
        · exact x'.nr a h
        · rw [List.mem_singleton.mp h]; exact .inr hp⟩
      have rdp : RS G F A' (ρ' ++ [p]) (S' ++ [Cell.lst acc]) H' := by
        refine ⟨fun a h => ?_, r'.trk, ?_, ?_, fun a h => ?_, fun a h => List.mem_append_left _ (r'.fin a h), fun n a c' e1 e2 => ?_, fun n c' e => ?_⟩
        · rcases List.mem_append.mp h with h | h
          · exact r'.sub a h
          · rw [List.mem_singleton.mp h]; exact hA
        · refine List.nodup_append.mpr ⟨r'.nd, by simp, fun a h b hb => ?_⟩
          rw [List.mem_singleton.mp hb]
          rintro rfl
          exact np h
        · rw [List.length_append, List.length_append, r'.len]; rfl
        · rcases List.mem_append.mp h with h | h
          · exact r'.own a h
          · rw [List.mem_singleton.mp h]; exact ⟨_, ea, True.intro⟩
        · by_cases hn : n < S'.length
          · rw [List.getElem?_append_left hn] at e2
            rw [List.getElem?_append_left (by rw [r'.len]; exact hn)] at e1
            exact r'.lk n a c' e1 e2
          · have hl := (List.getElem?_eq_some_iff.mp e2).1
            rw [List.length_append, List.length_singleton] at hl
            have hn' : n = S'.length := by omega
            subst hn'
            rw [List.getElem?_append_right (Nat.le_refl _), Nat.sub_self] at e2
            cases e2
            rw [List.getElem?_append_right (by rw [r'.len]; exact Nat.le_refl _), r'.len, Nat.sub_self] at e1
            cases e1
            exact ⟨fun z => (np (r'.fin _ z)).elim, fun z => nomatch z⟩
        · by_cases hn : n < S'.length
          · rw [List.getElem?_append_left hn] at e
            obtain ⟨a, e1, q⟩ := r'.cells n c' e
            refine ⟨a, ?_, ?_⟩
            · rw [List.getElem?_append_left (by rw [r'.len]; exact hn)]
              exact e1
            · exact RepC.mv' (Ext.refl (F := F)) r'.rn (List.prefix_append _ _) rfl q
          · have hl := (List.getElem?_eq_some_iff.mp e).1
            rw [List.length_append, List.length_singleton] at hl
            have hn' : n = S'.length := by omega
            subst hn'
            rw [List.getElem?_append_right (Nat.le_refl _), Nat.sub_self] at e
            cases e
            refine ⟨p, ?_, vacc, ea, ra⟩
            rw [List.getElem?_append_right (by rw [r'.len]; exact Nat.le_refl _), r'.len, Nat.sub_self]
            rfl
      refine q' _ _ H' xd rdp (.ref p) ⟨p, ?_, rfl⟩
      rw [List.getElem?_append_right (by rw [r'.len]; exact Nat.le_refl _), r'.len, Nat.sub_self]
      rfl
    · right
      have hi' : i < ds.length := by omega
      refine ⟨go i hi', _, fun H2 z => ⟨ds.length - (i + 1), by omega, z⟩, fun v H3 y => ?_⟩
      have hd : i < ds.length := by omega
      obtain ⟨x3, r3, pv⟩ := yld i v H3 _ (List.getElem?_eq_getElem hd) y
      have x' := x'.trans x3
      have ea := x3.fr p _ (fun z => (np z).elim) ea
      have ra := RepDs.mv x3 r' _ _ ra
      have r' := r3
      rw [List.drop_eq_getElem_cons hd] at q'
      unfold compL at q'
      cases eg : g (.d ds[i]) (wipeL L vs) with
      | none => rw [eg] at q'; exact q'.elim
      | some L1 =>
        rw [eg] at q'
        refine ⟨A', ρ', wipeL L vs, .d ds[i], (l1.mv x' r1).wipe vs, pv, L1, eg, fun σ2 l2 w2 => ⟨w2.trans wipe_wipe, F, A', ρ', L1, S', l2, r', ?_⟩⟩
        simp only at q'
        have q2 : EvOk G F (fun A' ρ' H' v => ∀ w, RepV G.K A' H' ρ' v w → Q w H') (fun cls d H' => W cls d σ H') A1 ρ1 H1 (((t L1 S').nox).bind fun b S1 => ((if b = true then (e L1 S1).nox.bind fun v S2 => match v with
            | .d x => compL g t e (wipeL L vs) (ds.drop (i + 1)) (acc ++ [x]) S2
            | _ => .bad else compL g t e (wipeL L vs) (ds.drop (i + 1)) acc S1) : R (List D)).bind fun acc S2 => .ok (.ref S2.length) (S2 ++ [Cell.lst acc])) := by
          revert q'
          cases (t L1 S').nox with
          | ok b S2 => exact fun q => q
          | ex y S2 => exact fun q => q
          | bad => exact fun q => q
        refine EvOk.nox (EvOk.bind0 x' q2 fun b S3 A3 ρ3 H4 x3 r3 q3 => ?_)
        have np3 : p ∉ ρ3 := fun z => (x3.nr p z).elim np fun z => by rw [ea] at z; cases z
        have ea3 : H4 p = some (.lst vacc) := x3.fr p _ (fun z => (np z).elim) ea
        have ra3 := ra.mv x3 r'
        cases b with
        | false =>
          exact ⟨by omega, rfl, A3, ρ3, S3, acc, vacc, x'.trans x3, r3, x3.up p hA, np3, ea3, ra3, by omega, q3⟩
        | true =>
          refine ⟨F, A3, ρ3, L1, S3, l2.mv x3 r', r3, ?_⟩
          have q4 : EvOk G F (fun A' ρ' H' v => ∀ w, RepV G.K A' H' ρ' v w → Q w H') (fun cls d H' => W cls d σ H') A1 ρ1 H1 (((e L1 S3).nox).bind fun v S2 => ((match v with
              | .d x => compL g t e (wipeL L vs) (ds.drop (i + 1)) (acc ++ [x]) S2
              | _ => .bad) : R (List D)).bind fun acc S2 => .ok (.ref S2.length) (S2 ++ [Cell.lst acc])) := by
            revert q3
            show EvOk G F _ _ A1 ρ1 H1 ((((e L1 S3).nox).bind _).bind _) → _
            cases (e L1 S3).nox with
            | ok b S2 => exact fun q => q
            | ex y S2 => exact fun q => q
            | bad => exact fun q => q
          refine EvOk.nox (EvOk.bind0 (x'.trans x3) q4 fun v S4 A4 ρ4 H5 x4 r4 q5 w rw => ?_)
          cases v with
          | d y =>
            have np4 : p ∉ ρ4 := fun z => (x4.nr p z).elim np3 fun z => by rw [ea3] at z; cases z
            have ea4 : H5 p = some (.lst vacc) := x4.fr p _ (fun z => (np3 z).elim) ea3
            have ra4 := ra3.mv x4 r3
            have hA4 := x4.up p (x3.up p hA)
            obtain ⟨r5, mv5, ex5⟩ := r4.poke (vs := vacc ++ [w]) np4 hA4 ea4 ra4
            refine ⟨vacc, ea4, ?_, by omega, rfl, A4, ρ4, S4, acc ++ [y], vacc ++ [w], ex5 hp ((x'.trans x3).trans x4), r5, hA4, np4, upd_same, mv5 _ _ (ra4.app (us := [w]) (es := [y]) ⟨w, [], rfl, rw, rfl⟩), ?_, q5⟩
            · rw [ra4.len]
              omega
            · rw [List.length_append, List.length_singleton]
              omega
          | ref n => exact q5.elim
          | vt n => exact q5.elim
          | exc _ _ _ _ => exact q5.elim
  · exact q1.elim
theorem setCompO_ {i : Nat} {f : SI} {g : SG} {t : SB} {e' : SE} {vs : List Nat} (h : PS X st (tAsg (tLc (tI G W f) (tGw G vs g) (tB' G (fun _ _ _ _ => False) t) (tE G (fun _ _ _ _ => False) e') vs) (gName i))) : PS X st (tS G W (sAsg (eCompO f g t e' vs) (gN i))) :=
  set_ (PS.imp h fun D σ H q => compO_t σ H _ q)
end Ev
set_option linter.all false
set_option Elab.async false
set_option maxRecDepth 100000
/-! sum, min, max, sorted pairs, index, xs[i] += , // of wide ints -/
namespace Ev
open PySem L2 PySem.Spec PyProof.Rows
variable {F A A1 A2 : Addr → Prop} {ρ ρ1 ρ2 : List Addr} {H H1 H2 : Hp} {K : PySem.W.Frag} {G : PC} {S S1 S2 : Store} {X : Cx} {W : WX} {fa fb fc : SE} {st : Stmt} {e a b : Expr} {pos : Pos}
def intsD : List D → Option (List Int)
  | [] => some []
  | .int i :: ds => (intsD ds).map (i :: ·)
  | _ :: _ => none
theorem intsD_rep : ∀ {ds : List D} {vs : List V} {ns : List Int}, RepDs K A H ds vs → intsD ds = some ns → vs = ns.map V.int ∧ ds = ns.map D.int
  | [], ws, ds, h, e => by cases e; exact ⟨h, rfl⟩
  | .int x :: vs, ws, ds, h, e => by
    obtain ⟨w, t, rfl, p, q⟩ := h
    unfold intsD at e
    cases e1 : intsD vs with
    | none => rw [e1] at e; cases e
    | some es =>
      rw [e1] at e
      cases e
      obtain ⟨h1, h2⟩ := intsD_rep q e1
      rw [h1, h2, show w = _ from p]
      exact ⟨rfl, rfl⟩
  | .non :: vs, ws, ds, h, e => by cases e
  | .bl _ :: vs, ws, ds, h, e => by cases e
  | .str _ :: vs, ws, ds, h, e => by cases e
  | .scr _ :: vs, ws, ds, h, e => by cases e
  | .tup _ :: vs, ws, ds, h, e => by cases e
  | .lst _ :: vs, ws, ds, h, e => by cases e
theorem intsD_map : ∀ ns : List Int, intsD (ns.map D.int) = some ns
  | [] => rfl
  | n :: ns => by rw [List.map_cons, intsD, intsD_map ns]; rfl
def sumD : D → Option D
  | .lst ds => (intsD ds).map fun ns => .int ns.sum
  | _ => none
theorem snd_sum : Snd1 K (fun v H Q => (rSum K) [v] H Q) sumD := fun G F A ρ S H x z v Q eK rs h ez q => by
  cases x with
  | lst ds =>
    obtain ⟨a, vs, rfl, e, p⟩ := h
    have ez : (intsD ds).map (fun ns => D.int ns.sum) = some z := ez
    cases e1 : intsD ds with
    | none => rw [e1] at ez; cases ez
    | some ns =>
      rw [e1] at ez
      cases ez
      obtain ⟨rfl, _⟩ := intsD_rep p e1
      exact ⟨a, ns, rfl, SqL.of e, q H _ Ext.refl rs rfl⟩
  | _ => cases ez
theorem sum_ (hK : X.K = G.K) (h : PE X e (tCB (rSum X.K) (tCons (tE G W fa) tNil))) : PE X e (tE G W (eOp1 sumD fa)) := cb1_ h (hK ▸ snd_sum)
/-- the greatest (least) of a list that is not empty -/
def maxI : Int → List Int → Int
  | m, [] => m
  | m, n :: ns => if m < n then maxI n ns else maxI m ns
theorem maxI_spec : ∀ (ns : List Int) (m : Int), maxI m ns ∈ m :: ns ∧ ∀ y ∈ m :: ns, y ≤ maxI m ns
  | [], m => ⟨List.mem_singleton.mpr rfl, fun y hy => by rw [List.mem_singleton.mp hy]; exact Int.le_refl _⟩
  | n :: ns, m => by
    unfold maxI
    by_cases h : m < n
    · rw [if_pos h]
      obtain ⟨h1, h2⟩ := maxI_spec ns n
      refine ⟨List.mem_cons_of_mem _ h1, fun y hy => ?_⟩
      rcases List.mem_cons.mp hy with rfl | hy
      · have := h2 n List.mem_cons_self; omega
      · exact h2 y hy
    · rw [if_neg h]
      obtain ⟨h1, h2⟩ := maxI_spec ns m
      refine ⟨?_, fun y hy => ?_⟩
      · rcases List.mem_cons.mp h1 with h1 | h1
        · rw [h1]; exact List.mem_cons_self
        · exact List.mem_cons_of_mem _ (List.mem_cons_of_mem _ h1)
      · rcases List.mem_cons.mp hy with rfl | hy
        · exact h2 _ List.mem_cons_self
        · rcases List.mem_cons.mp hy with rfl | hy
          · have := h2 m List.mem_cons_self; omega
          · exact h2 y (List.mem_cons_of_mem _ hy)
def minI (m : Int) (ns : List Int) : Int := -maxI (-m) (ns.map fun x => -x)
theorem minI_spec (ns : List Int) (m : Int) : minI m ns ∈ m :: ns ∧ ∀ y ∈ m :: ns, minI m ns ≤ y := by
  obtain ⟨h1, h2⟩ := maxI_spec (ns.map fun x => -x) (-m)
  unfold minI
  refine ⟨?_, fun y hy => ?_⟩
  · rw [show (-m :: ns.map fun x => -x) = (m :: ns).map fun x => -x from rfl] at h1
    obtain ⟨y, hy, e⟩ := List.mem_map.mp h1
    rw [← e, Int.neg_neg]
    exact hy
  · have := h2 (-y) (by
      rw [show (-m :: ns.map fun x => -x) = (m :: ns).map fun x => -x from rfl]
      exact List.mem_map.mpr ⟨y, hy, rfl⟩)
    omega
def maxO : List Int → Option D
  | n :: ns => some (.int (maxI n ns))
  | [] => none
def minO : List Int → Option D
  | n :: ns => some (.int (minI n ns))
  | [] => none
def maxD : D → Option D
  | .lst ds => (intsD ds).bind maxO
  | _ => none
def minD : D → Option D
  | .lst ds => (intsD ds).bind minO
  | _ => none
theorem snd_maxL : Snd1 K (fun v H Q => (rMax K) [v] H Q) maxD := fun G F A ρ S H x z v Q eK rs h ez q => by
  cases x with
  | lst ds =>
    obtain ⟨a, vs, rfl, e, p⟩ := h
    have ez : (intsD ds).bind maxO = some z := ez
    cases e1 : intsD ds with
    | none => rw [e1] at ez; cases ez
    | some ns =>
      rw [e1] at ez
      cases ns with
      | nil => cases ez
      | cons n ns =>
        cases ez
        obtain ⟨rfl, _⟩ := intsD_rep p e1
        refine ⟨a, n :: ns, rfl, SqL.of e, by simp, fun m h1 h2 => ?_⟩
        obtain ⟨h3, h4⟩ := maxI_spec ns n
        have : m = maxI n ns := Int.le_antisymm (h4 m h1) (h2 _ h3)
        rw [this]
        exact q H _ Ext.refl rs rfl
  | _ => cases ez
theorem snd_minL : Snd1 K (fun v H Q => (rMin K) [v] H Q) minD := fun G F A ρ S H x z v Q eK rs h ez q => by
  cases x with
  | lst ds =>
    obtain ⟨a, vs, rfl, e, p⟩ := h
    have ez : (intsD ds).bind minO = some z := ez
    cases e1 : intsD ds with
    | none => rw [e1] at ez; cases ez
    | some ns =>
      rw [e1] at ez
      cases ns with
      | nil => cases ez
      | cons n ns =>
        cases ez
        obtain ⟨rfl, _⟩ := intsD_rep p e1
        refine ⟨a, n :: ns, rfl, SqL.of e, by simp, fun m h1 h2 => ?_⟩
        obtain ⟨h3, h4⟩ := minI_spec ns n
        have : m = minI n ns := Int.le_antisymm (h2 _ h3) (h4 m h1)
        rw [this]
        exact q H _ Ext.refl rs rfl
  | _ => cases ez
theorem maxL_ (hK : X.K = G.K) (h : PE X e (tCB (rMax X.K) (tCons (tE G W fa) tNil))) : PE X e (tE G W (eOp1 maxD fa)) := cb1_ h (hK ▸ snd_maxL)
theorem minL_ (hK : X.K = G.K) (h : PE X e (tCB (rMin X.K) (tCons (tE G W fa) tNil))) : PE X e (tE G W (eOp1 minD fa)) := cb1_ h (hK ▸ snd_minL)
/-! ### // of wide ints -/
instance {i j : Int} : Decidable (CDivW i j) := by unfold CDivW; infer_instance
def fdivW := opI CDivW fun i j => .int (i / j)
theorem fdivw_ (ha : PE X a (tE G W fa)) (hb : PE X b (tE G W fb)) : PE X (.BinOp a .FloorDiv b pos) (tE G W (eOp2 fdivW fa fb)) := bin_ op_fdivW (snd_I fun _ _ _ _ => rfl) ha hb
/-! ### xs[i] += e -/
theorem get_list : PGet X (rIxL X.K) := fun pins s σ H o iv0 ov iv Q inv ro ri h => by
  rcases h with ⟨la, elems, ix, el, rfl, rfl, seq, at_, want⟩
  cases ro
  rcases ri with ⟨tk, rfl⟩
  rcases inv.list seq with ⟨cells, same, isl, _⟩
  rcases atI_get at_ with ⟨place, found, elAt, _, above, below⟩
  rcases same.get elAt with ⟨cell, cellAt, rc⟩
  have size : cells.toArray.size = elems.length := by rw [List.size_toArray, same.length]
  have room := line63
  have cell' : ∀ m : Nat, m = place → cells.toArray[m]? = some cell := fun m e => by
    rw [e]
    simpa using cellAt
  have goal : EP X pins σ Q cell s := ⟨el, H, inv, rc, want⟩
  rcases Int.lt_or_le ix 0 with neg | pos
  · rw [seqIndex_neg neg above] at found
    refine wpAny_getItem_list_neg isl.isList neg ?_ ?_ (cell' _ ?_) goal
    · rw [size]; omega
    · omega
    · rw [size]; exact Option.some.inj found
  · rw [seqIndex_of pos below] at found
    refine wpAny_getItem_list isl.isList pos ?_ (cell' _ (Option.some.inj found)) goal
    omega
def augLC (i j : Int) : Option Cell → Option Cell
  | some (.lst ds) => match atI ds i, ixN ds.length i with
    | some (.int x), some k => some (.lst (ds.set k (.int (x + j))))
    | _, _ => none
  | _ => none
/-- xs[i] += j, j an int that is written out -/
def augLst (L : Loc) (v u : Val) (j : Int) (S : Store) : SR := match v, u with
  | .ref n, .d (.int i) => match augLC i j S[n]? with
    | some c => .nx L (S.set n c)
    | none => .bad
  | _, _ => .bad
def sAugL (o k : SE) (j : Int) : SS := fun L S => (o L S).to L fun v S2 => (k L S2).to L fun u S3 => augLst L v u j S3
theorem augl_ {j : Int} (hK : X.K = G.K) (h : PS X st (tAugS (tE G W fa) (tE G W fb) (tC (.int j)) (rIxL X.K) (ipI fun i j => i + j) rSetL)) : PS X st (tS G W (sAugL fa fb j)) := PS.imp h fun D σ H ⟨F, A, ρ, L, S, l, r0, q⟩ => by
  refine ⟨F, A, ρ, L, S, l, r0, st_ok r0 l q fun v S2 A2 ρ2 H2 x2 r2 q2 z rw2 => ?_⟩
  have l2 := l.mv x2 r0
  refine ⟨F, A2, ρ2, L, S2, l2, r2, st_ok r2 l2 q2 fun u S3 A3 ρ3 H3 x3 r3 q3 t rw3 => ?_⟩
  have l3 := l2.mv x3 r2
  have rv := rw2.mv x3 r2
  unfold augLst at q3
  split at q3
  · rename_i n i
    split at q3
    · rename_i c e
      unfold augLC at e
      split at e
      · rename_i ds e2
        split at e
        · rename_i x k ea ek
          cases e
          obtain ⟨a, e1, rfl⟩ := rv
          obtain ⟨a', e3, vs, h1, h2⟩ := r3.cells n _ e2
          rw [e1] at e3; cases e3
          have ru : t = .int i := rw3
          subst ru
          obtain ⟨w, ew, pw⟩ := atI_rep h2 ea
          have pw : w = .int x := pw
          subst pw
          refine ⟨a, vs, i, _, rfl, rfl, SqL.of h1, ew, x, j, rfl, rfl, a, vs, i, k, rfl, rfl, h1, by rw [h2.len]; exact ek, ?_⟩
          obtain ⟨x', r'⟩ := r3.write e1 (o := .lst (vs.set k (.int (x + j)))) (c := .lst (ds.set k (.int (x + j)))) True.intro e2 (fun _ z => nomatch z) (fun _ z => nomatch z) fun x' => ⟨_, upd_same, (RepDs.set k h2 (d := .int (x + j)) (v := .int (x + j)) rfl).mv x' r3⟩
          exact q3 A3 ρ3 _ σ x' r' (l3.mv x' r3)
        · cases e
      · cases e
    · exact q3.elim
  · exact q3.elim
/-! ### xs.index(y), ints -/
def ixI (y : Int) : List Int → Nat → Option Nat
  | [], _ => none
  | x :: xs, n => if x = y then some n else ixI y xs (n + 1)
theorem ixI_spec (y : Int) : ∀ (xs : List Int) (n j : Nat), ixI y xs n = some j → ∃ k, j = n + k ∧ xs[k]? = some y ∧ ∀ m, m < k → xs[m]? ≠ some y
  | [], n, j, h => by cases h
  | x :: xs, n, j, h => by
    unfold ixI at h
    by_cases e : x = y
    · rw [if_pos e] at h
      cases h
      exact ⟨0, rfl, by rw [e]; rfl, fun m hm => by omega⟩
    · rw [if_neg e] at h
      obtain ⟨k, rfl, h1, h2⟩ := ixI_spec y xs (n + 1) j h
      refine ⟨k + 1, by omega, h1, fun m hm => ?_⟩
      cases m with
      | zero => intro z; cases z; exact e rfl
      | succ m => exact h2 m (by omega)
def ixOfV : Option D → Val → Option D
  | some (.lst ds), .d (.int y) => (intsD ds).bind fun ns => (ixI y ns 0).map fun j => .int (j : Nat)
  | _, _ => none
def eIndex (a b : SE) : SE := fun L S => (a L S).bind fun v S1 => if isL S1 v = true then (b L S1).bind fun w S2 => R.of (ixOfV (top S2 v) w) S2 else .bad
theorem index_ (hK : X.K = G.K) (h : PE X e (tBM X.K "list" (rIndex X.K) (tE G W fa) (tCons (tE G W fb) tNil))) : PE X e (tE G W (eIndex fa fb)) := PE.imp h fun σ H Q ⟨F, A, ρ, L, S, l, r0, q⟩ => by
  refine ⟨F, A, ρ, L, S, l, r0, EvOk.bind q fun v S1 A1 ρ1 H1 x1 r1 q1 w rw1 => ?_⟩
  split at q1
  · rename_i c
    refine ⟨hK ▸ r1.isL rw1 c, F, A1, ρ1, L, S1, l.mv x1 r0, r1, EvOk.bind q1 fun v2 S2 A2 ρ2 H2 x2 r2 q2 w2 rw2 => ?_⟩
    have rw1' := rw1.mv x2 r1
    obtain ⟨z, ez, q3⟩ := of_ok q2
    unfold ixOfV at ez
    split at ez
    · rename_i ds y et
      have rt := r2.top rw1' et
      obtain ⟨a, vs, rfl, e, p⟩ := rt
      cases e1 : intsD ds with
      | none => rw [e1] at ez; cases ez
      | some ns =>
        rw [e1] at ez
        cases e2 : ixI y ns 0 with
        | none => rw [Option.bind_some, e2] at ez; cases ez
        | some j =>
          rw [Option.bind_some, e2] at ez
          cases ez
          obtain ⟨rfl, _⟩ := intsD_rep p e1
          obtain ⟨k, rfl, h1, h2⟩ := ixI_spec y ns 0 j e2
          have rw2 : w2 = .int y := rw2
          subst rw2
          refine ⟨a, ns.map V.int, .int y, 0 + k, .int y, rfl, rfl, SqL.of e, rfl, ?_, ?_, ?_, fun m z' hm hz => ?_, q3 A2 ρ2 H2 Ext.refl r2 _ rfl⟩
          · rw [List.all_map]
            exact List.all_eq_true.mpr fun _ _ => rfl
          · rw [Nat.zero_add, List.getElem?_map, h1]; rfl
          · show (y == y) = true
            simp
          · rw [List.getElem?_map] at hz
            cases e4 : ns[m]? with
            | none => rw [e4] at hz; cases hz
            | some x =>
              rw [e4] at hz
              cases hz
              have := h2 m (by omega)
              rw [e4] at this
              show (x == y) = false
              simpa using fun z => this (by rw [z])
    · cases ez
  · exact q1.elim
/-! ### sorted(xs), pairs of ints -/
def PairAt (K : PySem.W.Frag) (H : Hp) (x : V) (p : Int × Int) : Prop := ∃ t, x = .ref t ∧ SqT K H t [.int p.1, .int p.2]
def PairsAt (K : PySem.W.Frag) (H : Hp) : List V → List (Int × Int) → Prop
  | [], [] => True
  | x :: xs, p :: ps => PairAt K H x p ∧ PairsAt K H xs ps
  | _, _ => False
theorem PairsAt.map {k : V → Int × Int} : ∀ {xs : List V}, (∀ x ∈ xs, PairAt K H x (k x)) → PairsAt K H xs (xs.map k)
  | [], _ => trivial
  | x :: xs, h => ⟨h x List.mem_cons_self, PairsAt.map fun y hy => h y (List.mem_cons_of_mem _ hy)⟩
theorem PairsAt.each {k : V → Int × Int} : ∀ {xs : List V} {ps : List (Int × Int)}, PairsAt K H xs ps → (∀ x p, PairAt K H x p → k x = p) → ps = xs.map k ∧ ∀ x ∈ xs, PairAt K H x (k x)
  | [], [], _, _ => ⟨rfl, fun _ h => (List.not_mem_nil h).elim⟩
  | x :: xs, p :: ps, h, u => by
    obtain ⟨h1, h2⟩ := PairsAt.each h.2 u
    have e := u x p h.1
    refine ⟨by rw [List.map_cons, e, ← h1], fun y hy => ?_⟩
    rcases List.mem_cons.mp hy with rfl | hy
    · rw [e]; exact h.1
    · exact h2 y hy
  | [], _ :: _, h, _ => h.elim
  | _ :: _, [], h, _ => h.elim
def rSortedPK (K : PySem.W.Frag) : List V → Hp → VK → Prop := fun vs H Q => ∃ (a : Addr) (xs : List V) (ps : List (Int × Int)), vs = [V.ref a] ∧ SqL K H a xs ∧ PairsAt K H xs ps ∧
  ∀ (ys : List V) (qs : List (Int × Int)) (p : Addr), PairsAt K H ys qs → qs.Perm ps → qs.Pairwise (fun x y => SrtO.lexB y x = false) → H p = none → Q (.ref p) (upd H p (.lst ys))
open Classical in
noncomputable def keyAt (K : PySem.W.Frag) (H : Hp) (x : V) : Int × Int := if h : ∃ p, PairAt K H x p then Classical.choose h else (0, 0)
/-- the pair at a place is one alone -/
theorem keyAt_of {pins : List (Addr × Obj)} {σ : L2.St} {s : Shared} (inv : Inv X pins σ H s) {x : V} {p : Int × Int} (h : PairAt X.K H x p) : keyAt X.K H x = p := by
  have some_ : ∃ p, PairAt X.K H x p := ⟨p, h⟩
  have picked := Classical.choose_spec some_
  have e : keyAt X.K H x = Classical.choose some_ := dif_pos some_
  rw [e]
  generalize Classical.choose some_ = q at picked
  rcases h with ⟨t, hx, tup⟩
  rcases picked with ⟨t', hx', tup'⟩
  have tt : t = t' := by
    rw [hx] at hx'
    cases hx'
    rfl
  subst tt
  have both : ([.int p.1, .int p.2] : List V) = [.int q.1, .int q.2] := inv.tuple_inj tup tup'
  simp only [List.cons.injEq, V.int.injEq, and_true] at both
  exact Prod.ext both.1.symm both.2.symm
theorem cr_sortedPK : CallR X (.builtin "sorted") (rSortedPK X.K) := fun pins s σ H args us want inv rel pre => by
  rcases pre with ⟨la, elems, keys, rfl, seq, pairs, done⟩
  obtain ⟨keysEq, each⟩ := pairs.each fun x p h => keyAt_of inv h
  have key1 : ∀ x ∈ elems, ∃ t, x = V.ref t := fun x hx => by
    rcases each x hx with ⟨t, e, _⟩
    exact ⟨t, e⟩
  have args1 : us = [Value.ref la] := by
    rcases vals1 rel with ⟨v, e, rv⟩
    rw [e, show v = Value.ref la from rv]
  rw [args1]
  rcases inv.list seq with ⟨cells, same, isl, fits⟩
  have cellsLen : cells.length ≤ sizeLine := same.length ▸ fits
  rcases refs_back same key1 with ⟨elemsEq, cellRef⟩
  have rawPair : ∀ c ∈ cells, ∃ (t : Addr) (o : Obj) (t1 t2 : Tok) (n : Nat), c = Value.ref t ∧ s.heap.get? t = some o ∧ o.cls = .type "tuple" ∧ o.data = .seq #[Value.int (keyAt X.K H (backV c)).1 t1, Value.int (keyAt X.K H (backV c)).2 t2] n := fun c hc => by
    rcases cellRef c hc with ⟨t, rfl⟩
    have inElems : V.ref t ∈ elems := elemsEq ▸ List.mem_map.mpr ⟨_, hc, rfl⟩
    rcases each _ inElems with ⟨t', e, tup⟩
    have e2 : t' = t := by cases e; rfl
    subst e2
    rcases inv.tuple tup with ⟨two, rtwo, ⟨o, at_, cls, n, dat⟩, _⟩
    rcases vals2 rtwo with ⟨c1, c2, rfl, ⟨t1, rfl⟩, ⟨t2, rfl⟩⟩
    exact ⟨t', o, t1, t2, n, rfl, at_, cls, dat⟩
  refine SrtO.sorted_pairsO (k := fun c => keyAt X.K H (backV c)) isl.isList cellsLen rawPair ?_
  intro heap' fresh out ordered stable keeps isNew laid
  rcases laid with ⟨cap, laid⟩
  have outRef : ∀ c ∈ out, ∃ t, c = Value.ref t := fun c hc => cellRef c (stable.perm.mem_iff.mp hc)
  have stableV : SrtO.Stb (ltP (keyAt X.K H)) (out.map backV) elems := by
    have := SrtO.Stb.map (ltP_swo (keyAt X.K H)) backV stable
    rwa [← elemsEq] at this
  have orderedV : SrtO.Srtd (ltP (keyAt X.K H)) (out.map backV) := SrtO.srtd_map ordered
  have outLen : (out.map backV).length ≤ sizeLine := stableV.len ▸ fits
  have free : H fresh = none := inv.hok.fresh isNew
  have inv' := inv.laid (t' := s.toks) (o := .lst (out.map backV)) keeps isNew ⟨outLen, out, cap, vals_back outRef, laid⟩
  refine ⟨V.ref fresh, _, inv', rfl, done _ ((out.map backV).map (keyAt X.K H)) fresh ?_ ?_ ?_ free⟩
  · exact PairsAt.map fun x hx => each x (stableV.perm.mem_iff.mp hx)
  · exact keysEq ▸ stableV.perm.map (keyAt X.K H)
  · exact List.pairwise_map.mpr orderedV
theorem bt_sorted' : bootBuiltins "sorted" = some (.builtin "sorted") := bt_sorted
def insP (p : Int × Int) : List (Int × Int) → List (Int × Int)
  | [] => [p]
  | q :: qs => if SrtO.lexB q p = true then q :: insP p qs else p :: q :: qs
def sortP : List (Int × Int) → List (Int × Int)
  | [] => []
  | p :: ps => insP p (sortP ps)
theorem insP_perm (p : Int × Int) : ∀ qs, (insP p qs).Perm (p :: qs)
  | [] => .refl _
  | q :: qs => by
    unfold insP
    split
    · exact ((insP_perm p qs).cons q).trans (.swap p q qs)
    · exact .refl _
theorem sortP_perm : ∀ ps, (sortP ps).Perm ps
  | [] => .refl _
  | p :: ps => (insP_perm p _).trans ((sortP_perm ps).cons p)
theorem insP_sorted (p : Int × Int) : ∀ qs : List (Int × Int), qs.Pairwise (fun x y => SrtO.lexB y x = false) → (insP p qs).Pairwise (fun x y => SrtO.lexB y x = false)
  | [], _ => List.pairwise_singleton _ _
  | q :: qs, h => by
    obtain ⟨h1, h2⟩ := List.pairwise_cons.mp h
    unfold insP
    split
    · rename_i c
      refine List.pairwise_cons.mpr ⟨fun y hy => ?_, insP_sorted p qs h2⟩
      rcases List.mem_cons.mp ((insP_perm p qs).mem_iff.mp hy) with rfl | hy
      · have := SrtO.lexB_iff.mp c
        refine SrtO.lexB_no.mpr ?_
        omega
      · exact h1 y hy
    · rename_i c
      have c : SrtO.lexB q p = false := by simpa using c
      refine List.pairwise_cons.mpr ⟨fun y hy => ?_, h⟩
      rcases List.mem_cons.mp hy with rfl | hy
      · exact c
      · have a := SrtO.lexB_no.mp c
        have b := SrtO.lexB_no.mp (h1 y hy)
        refine SrtO.lexB_no.mpr ?_
        omega
theorem sortP_sorted : ∀ ps : List (Int × Int), (sortP ps).Pairwise (fun x y => SrtO.lexB y x = false)
  | [] => .nil
  | p :: ps => insP_sorted p _ (sortP_sorted ps)
theorem srt_uniq : ∀ {l m : List (Int × Int)}, l.Perm m → l.Pairwise (fun x y => SrtO.lexB y x = false) → m.Pairwise (fun x y => SrtO.lexB y x = false) → l = m
  | [], m, h, _, _ => (List.Perm.nil_eq h)
  | x :: l, [], h, _, _ => (List.Perm.eq_nil h)
  | x :: l, y :: m, h, hl, hm => by
    obtain ⟨l1, l2⟩ := List.pairwise_cons.mp hl
    obtain ⟨m1, m2⟩ := List.pairwise_cons.mp hm
    have e : x = y := by
      rcases List.mem_cons.mp (h.mem_iff.mp (List.mem_cons_self (a := x) (l := l))) with e | hx
      · exact e
      · rcases List.mem_cons.mp (h.mem_iff.mpr (List.mem_cons_self (a := y) (l := m))) with e | hy
        · exact e.symm
        · have a := SrtO.lexB_no.mp (m1 x hx)
          have b := SrtO.lexB_no.mp (l1 y hy)
          exact Prod.ext (by omega) (by omega)
    subst e
    rw [srt_uniq h.cons_inv l2 m2]
def pairD (p : Int × Int) : D := .tup [.int p.1, .int p.2]
def pairsD : List D → Option (List (Int × Int))
  | [] => some []
  | .tup [.int i, .int j] :: ds => (pairsD ds).map ((i, j) :: ·)
  | _ => none
theorem pairsD_map : ∀ ps : List (Int × Int), pairsD (ps.map pairD) = some ps
  | [] => rfl
  | p :: ps => by
    show (pairsD (ps.map pairD)).map ((p.1, p.2) :: ·) = _
    rw [pairsD_map ps]
    rfl
theorem pairsD_inv : ∀ {ds : List D} {ps : List (Int × Int)}, pairsD ds = some ps → ds = ps.map pairD
  | [], ps, h => by cases h; rfl
  | d :: ds, ps, h => by
    unfold pairsD at h
    split at h
    · cases h; rename_i e; cases e
    · rename_i i j ds' e
      cases e
      cases e1 : pairsD ds with
      | none => rw [e1] at h; cases h
      | some qs =>
        rw [e1] at h
        cases h
        rw [pairsD_inv e1]
        rfl
    · cases h
theorem pairs_rep : ∀ {ps : List (Int × Int)} {vs : List V}, RepDs K A H (ps.map pairD) vs → PairsAt K H vs ps
  | [], vs, h => by
    have : vs = [] := h
    rw [this]
    exact trivial
  | p :: ps, vs, h => by
    obtain ⟨w, t, rfl, ⟨a, ws, rfl, sq, hw⟩, q⟩ := h
    obtain ⟨w1, t1, rfl, p1, w2, t2, rfl, p2, rfl⟩ := hw
    have p1 : w1 = .int p.1 := p1
    have p2 : w2 = .int p.2 := p2
    subst p1
    subst p2
    exact ⟨⟨a, rfl, sq⟩, pairs_rep q⟩
theorem rep_pairs : ∀ {ps : List (Int × Int)} {vs : List V}, PairsAt K H vs ps → RepDs K A H (ps.map pairD) vs
  | [], [], _ => rfl
  | p :: ps, v :: vs, h => by
    obtain ⟨⟨t, rfl, sq⟩, q⟩ := h
    exact ⟨.ref t, vs, rfl, ⟨t, _, rfl, sq, _, _, rfl, rfl, _, _, rfl, rfl, rfl⟩, rep_pairs q⟩
  | [], _ :: _, h => h.elim
  | _ :: _, [], h => h.elim
def sortedD : D → Option D
  | .lst ds => (pairsD ds).map fun ps => .lst ((sortP ps).map pairD)
  | _ => none
theorem snd_sorted : Snd1 K (fun v H Q => (rSortedPK K) [v] H Q) sortedD := fun G F A ρ S H x z v Q eK rs h ez q => by
  cases x with
  | lst ds =>
    obtain ⟨a, vs, rfl, e, p⟩ := h
    have ez : (pairsD ds).map (fun ps => D.lst ((sortP ps).map pairD)) = some z := ez
    cases e1 : pairsD ds with
    | none => rw [e1] at ez; cases ez
    | some ps =>
      rw [e1] at ez
      cases ez
      have ed := pairsD_inv e1
      subst ed
      refine ⟨a, vs, ps, rfl, SqL.of e, pairs_rep p, fun ys qs l hy hq hs hl => ?_⟩
      have eq : qs = sortP ps := srt_uniq (hq.trans (sortP_perm ps).symm) hs (sortP_sorted ps)
      subst eq
      obtain ⟨x, r', d⟩ := new_lst rs (rep_pairs (A := A) hy) hl
      exact q _ _ x r' d
  | _ => cases ez
theorem sorted_ (hK : X.K = G.K) (h : PE X e (tCB (rSortedPK X.K) (tCons (tE G W fa) tNil))) : PE X e (tE G W (eOp1 sortedD fa)) := cb1_ h (hK ▸ snd_sorted)
end Ev
set_option linter.all false
set_option Elab.async false
set_option maxRecDepth 100000
/-! the evaluator's equations, for runs by simp -/
namespace Ev
open PySem L2 PySem.Spec
/-- keeps a theorem from being used by computation -/
theorem mkE {α : Sort u} {a b : α} (h : a = b) : a = b := h
section
variable {α β : Type} {L : Loc} {S : Store} {v w : Val} {x y : D}
theorem bind_ok {a : α} {k : α → Store → R β} : (R.ok a S).bind k = k a S := mkE rfl
theorem bind_ex {a : Ex} {k : α → Store → R β} : (R.ex a S : R α).bind k = .ex a S := mkE rfl
theorem bind_bad {k : α → Store → R β} : (R.bad : R α).bind k = .bad := mkE rfl
theorem to_ok {a : α} {k : α → Store → SR} : (R.ok a S).to L k = k a S := mkE rfl
theorem to_ex {a : Ex} {k : α → Store → SR} : (R.ex a S : R α).to L k = .ex a L S := mkE rfl
theorem to_bad {k : α → Store → SR} : (R.bad : R α).to L k = .bad := mkE rfl
theorem nox_ok {a : α} : (R.ok a S).nox = .ok a S := mkE rfl
def SR.seq (r : SR) (g : SS) : SR := match r with
  | .nx L1 S1 => g L1 S1
  | r => r
theorem sSeq_eq {f g : SS} : sSeq f g L S = (f L S).seq g := by
  unfold sSeq SR.seq
  cases f L S <;> rfl
theorem seq_nx {g : SS} : (SR.nx L S).seq g = g L S := mkE rfl
theorem seq_rt {g : SS} : (SR.rt v S).seq g = .rt v S := mkE rfl
theorem seq_ex {g : SS} {a : Ex} : (SR.ex a L S).seq g = .ex a L S := mkE rfl
theorem seq_bk {g : SS} : (SR.bk L S).seq g = .bk L S := mkE rfl
theorem seq_ct {g : SS} : (SR.ct L S).seq g = .ct L S := mkE rfl
theorem seq_bad {g : SS} : (SR.bad).seq g = .bad := mkE rfl
theorem seq_if {g : SS} {c : Prop} [Decidable c] {a b : SR} : (if c then a else b).seq g = if c then a.seq g else b.seq g := by split <;> rfl
theorem eV_eq {i : Nat} : eV i L S = (match L[i]? with
  | some (some v) => .ok v S
  | _ => .bad) := mkE rfl
theorem eC_eq : eC x L S = .ok (.d x) S := mkE rfl
def op1 (f : D → Option D) (a : Option D) (S : Store) : R Val := match a with
  | some x => R.of (f x) S
  | none => .bad
theorem op1_some {f : D → Option D} : op1 f (some x) S = R.of (f x) S := mkE rfl
def op2 (f : D → D → Option D) (a b : Option D) (S : Store) : R Val := match a, b with
  | some x, some y => R.of (f x y) S
  | _, _ => .bad
theorem op2_some {f : D → D → Option D} : op2 f (some x) (some y) S = R.of (f x y) S := mkE rfl
theorem eOp1_eq {f : D → Option D} {a : SE} : eOp1 f a L S = (a L S).bind fun v S1 => op1 f (top S1 v) S1 := mkE rfl
theorem eOp2_eq {f : D → D → Option D} {a b : SE} : eOp2 f a b L S = (a L S).bind fun v S1 => (b L S1).bind fun w S2 => op2 f (top S2 v) (top S2 w) S2 := by
  unfold eOp2 op2
  cases a L S with
  | ok v S1 =>
    simp only [bind_ok]
    all_goals (congr 1; try (funext w S2; cases top S2 v <;> cases top S2 w <;> rfl))
  | _ => rfl
theorem of_some {z : D} : R.of (some z) S = .ok (.d z) S := mkE rfl
theorem of_none : R.of none S = .bad := mkE rfl
theorem of_if {c : Prop} [Decidable c] {a b : Option D} : R.of (if c then a else b) S = if c then R.of a S else R.of b S := by split <;> rfl
theorem top_d : top S (.d x) = some x := mkE rfl
def topc : Option Cell → Option D
  | some (.lst ds) => some (.lst ds)
  | some (.lck ds) => some (.lst ds)
  | _ => none
theorem top_ref {n : Nat} : top S (.ref n) = topc S[n]? := by
  unfold top topc
  simp only []
  all_goals (generalize S[n]? = o; rcases o with _ | ⟨_ | _ | _ | _⟩ <;> rfl)
theorem topc_lst {ds : List D} : topc (some (.lst ds)) = some (.lst ds) := mkE rfl
theorem topc_lck {ds : List D} : topc (some (.lck ds)) = some (.lst ds) := mkE rfl
def toB (v : Val) (S : Store) : R Bool := match v with
  | .d (.bl b) => .ok b S
  | _ => .bad
theorem toB_bl {b : Bool} : toB (.d (.bl b)) S = .ok b S := mkE rfl
theorem bE_eq {e : SE} : bE e L S = (e L S).bind toB := mkE rfl
theorem eIsN_eq {neg : Bool} {a : SE} : eIsN neg a L S = (a L S).bind fun v S1 => .ok (.d (.bl (if neg then !isN v else isN v))) S1 := mkE rfl
theorem isN_non : isN (.d .non) = true := mkE rfl
theorem isN_int {i : Int} : isN (.d (.int i)) = false := mkE rfl
theorem isN_str {i : Str} : isN (.d (.str i)) = false := mkE rfl
theorem isN_bl {i : Bool} : isN (.d (.bl i)) = false := mkE rfl
theorem isN_tup {i : List D} : isN (.d (.tup i)) = false := mkE rfl
theorem isN_lst {i : List D} : isN (.d (.lst i)) = false := mkE rfl
theorem isN_ref {i : Nat} : isN (.ref i) = false := mkE rfl
theorem isN_vt {i : List Val} : isN (.vt i) = false := mkE rfl
def idxV (v w : Val) (S : Store) : R Val := match v with
  | .vt vs => match w with
    | .d (.int i) => match atI vs i with
      | some u => .ok u S
      | none => .bad
    | _ => .bad
  | _ => op2 idxD (top S v) (top S w) S
theorem eIdx_eq {a b : SE} : eIdx a b L S = (a L S).bind fun v S1 => (b L S1).bind fun w S2 => idxV v w S2 := by
  unfold eIdx idxV op2
  rfl
theorem idxV_d : idxV (.d x) (.d y) S = R.of (idxD x y) S := mkE rfl
theorem idxV_ref {n : Nat} : idxV (.ref n) (.d y) S = op2 idxD (topc S[n]?) (some y) S := by
  show op2 idxD (top S (.ref n)) (some y) S = _
  rw [top_ref]
theorem idxV_vt {vs : List Val} {i : Int} : idxV (.vt vs) (.d (.int i)) S = match atI vs i with
  | some u => .ok u S
  | none => .bad := mkE rfl
theorem oN_eq : oN L S = .ok none S := mkE rfl
def toI (v : Val) (S : Store) : R (Option Int) := match v with
  | .d (.int i) => .ok (some i) S
  | _ => .bad
theorem toI_int {i : Int} : toI (.d (.int i)) S = .ok (some i) S := mkE rfl
theorem oE_eq {e : SE} : oE e L S = (e L S).bind toI := mkE rfl
theorem eSl_eq {a : SE} {lo hi : SO} : eSl a lo hi L S = (a L S).bind fun v S1 => (lo L S1).bind fun l S2 => (hi L S2).bind fun h S3 => op1 (fun x => slD x l h) (top S3 v) S3 := mkE rfl
theorem bNot_eq {f : SB} : bNot f L S = (f L S).bind fun b S1 => .ok (!b) S1 := mkE rfl
theorem bAnd_eq {f g : SB} : bAnd f g L S = (f L S).bind fun b S1 => if b = true then g L S1 else .ok false S1 := mkE rfl
theorem bOr_eq {f g : SB} : bOr f g L S = (f L S).bind fun b S1 => if b = true then .ok true S1 else g L S1 := mkE rfl
def andV (v : Val) (k : R Val) (S : Store) : R Val := match v with
  | .d (.bl b) => if b = true then k else .ok (.d (.bl false)) S
  | _ => .bad
theorem andV_bl {b : Bool} {k : R Val} : andV (.d (.bl b)) k S = if b = true then k else .ok (.d (.bl false)) S := mkE rfl
theorem eAnd_eq {f g : SE} : eAnd f g L S = (f L S).bind fun v S1 => andV v (g L S1) S1 := by
  unfold eAnd andV
  cases f L S with
  | ok v S1 =>
    simp only [bind_ok]
    split <;> first | rfl | (split <;> first | rfl | simp_all)
  | _ => rfl
def orV (v : Val) (k : R Val) (S : Store) : R Val := match v with
  | .d (.bl b) => if b = true then .ok (.d (.bl true)) S else k
  | _ => .bad
theorem orV_bl {b : Bool} {k : R Val} : orV (.d (.bl b)) k S = if b = true then .ok (.d (.bl true)) S else k := mkE rfl
theorem eOr_eq {f g : SE} : eOr f g L S = (f L S).bind fun v S1 => orV v (g L S1) S1 := by
  unfold eOr orV
  cases f L S with
  | ok v S1 =>
    simp only [bind_ok]
    split <;> first | rfl | (split <;> first | rfl | simp_all)
  | _ => rfl
def notV (v : Val) (S : Store) : R Val := match v with
  | .d (.bl b) => .ok (.d (.bl (!b))) S
  | _ => .bad
theorem notV_bl {b : Bool} : notV (.d (.bl b)) S = .ok (.d (.bl (!b))) S := mkE rfl
theorem eNot_eq {f : SE} : eNot f L S = (f L S).bind notV := mkE rfl
theorem eIf_eq {c : SB} {f g : SE} : eIf c f g L S = (c L S).bind fun b S1 => if b = true then f L S1 else g L S1 := mkE rfl
theorem aN_eq : aN L S = .ok [] S := mkE rfl
theorem aC_eq {f : SE} {g : SA} : aC f g L S = (f L S).bind fun v S1 => (g L S1).bind fun vs S2 => .ok (v :: vs) S2 := mkE rfl
theorem allD_nil : allD [] = some [] := mkE rfl
theorem allD_d {vs : List Val} : allD (.d x :: vs) = (allD vs).map (x :: ·) := mkE rfl
theorem allD_ref {vs : List Val} {n : Nat} : allD (.ref n :: vs) = none := mkE rfl
theorem allD_vt {vs us : List Val} : allD (.vt us :: vs) = none := mkE rfl
def mkTup (vs : List Val) (o : Option (List D)) (S : Store) : R Val := match o with
  | some ds => .ok (.d (.tup ds)) S
  | none => .ok (.vt vs) S
theorem mkTup_some {vs : List Val} {ds : List D} : mkTup vs (some ds) S = .ok (.d (.tup ds)) S := mkE rfl
theorem mkTup_none {vs : List Val} : mkTup vs none S = .ok (.vt vs) S := mkE rfl
theorem eTup_eq {as : SA} : eTup as L S = (as L S).bind fun vs S1 => if vs.length ≤ 1000 then mkTup vs (allD vs) S1 else .bad := mkE rfl
def mkLst (o : Option (List D)) (S : Store) : R Val := match o with
  | some ds => .ok (.d (.lst ds)) S
  | none => .bad
theorem mkLst_some {ds : List D} : mkLst (some ds) S = .ok (.d (.lst ds)) S := mkE rfl
theorem eLst_eq {as : SA} : eLst as L S = (as L S).bind fun vs S1 => if vs.length ≤ 1000 then mkLst (allD vs) S1 else .bad := mkE rfl
def mkLstO (o : Option (List D)) (S : Store) : R Val := match o with
  | some ds => .ok (.ref S.length) (S ++ [.lst ds])
  | none => .bad
theorem mkLstO_some {ds : List D} : mkLstO (some ds) S = .ok (.ref S.length) (S ++ [.lst ds]) := mkE rfl
theorem eLstO_eq {as : SA} : eLstO as L S = (as L S).bind fun vs S1 => if vs.length ≤ 1000 then mkLstO (allD vs) S1 else .bad := mkE rfl
def isB (o : Option Bool) (S : Store) : R Val := match o with
  | some b => .ok (.d (.bl b)) S
  | none => .bad
theorem isB_some {b : Bool} : isB (some b) S = .ok (.d (.bl b)) S := mkE rfl
theorem eIs_eq {t : Ty} {a : SE} : eIs t a L S = (a L S).bind fun v S1 => isB (isTyV S1 t v) S1 := mkE rfl
theorem isTyV_d {t : Ty} : isTyV S t (.d x) = some (isTy t x) := mkE rfl
def strM (f : Str → D → Option D) (v : Val) (b : SE) (L : Loc) (S : Store) : R Val := match v with
  | .d (.str x) => (b L S).bind fun w S2 => op1 (f x) (top S2 w) S2
  | _ => .bad
theorem strM_str {f : Str → D → Option D} {b : SE} {z : Str} : strM f (.d (.str z)) b L S = (b L S).bind fun w S2 => op1 (f z) (top S2 w) S2 := mkE rfl
theorem eStrM_eq {f : Str → D → Option D} {a b : SE} : eStrM f a b L S = (a L S).bind fun v S1 => strM f v b L S1 := mkE rfl
def appC (n : Nat) (w : Val) (c : Option Cell) (S : Store) : R Val := match w, c with
  | .d x, some (.lst ds) => if ds.length < sizeLine then .ok (.d .non) (S.set n (.lst (ds ++ [x]))) else .bad
  | _, _ => .bad
theorem appC_lst {n : Nat} {ds : List D} : appC n (.d x) (some (.lst ds)) S = if ds.length < sizeLine then .ok (.d .non) (S.set n (.lst (ds ++ [x]))) else .bad := mkE rfl
def isLc : Option Cell → Bool
  | some (.lst _) => true
  | some (.lck _) => true
  | _ => false
theorem isLc_lst {ds : List D} : isLc (some (.lst ds)) = true := mkE rfl
theorem isL_ref {n : Nat} : isL S (.ref n) = isLc S[n]? := by
  unfold isL isLc
  simp only []
  all_goals (generalize S[n]? = o; rcases o with _ | ⟨_ | _ | _ | _⟩ <;> rfl)
def appV (v w : Val) (S : Store) : R Val := match v with
  | .ref n => appC n w S[n]? S
  | _ => .bad
theorem appV_ref {n : Nat} : appV (.ref n) w S = appC n w S[n]? S := mkE rfl
theorem eAppend_eq {a b : SE} : eAppend a b L S = (a L S).bind fun v S1 => if isL S1 v = true then (b L S1).bind fun w S2 => appV v w S2 else .bad := by
  unfold eAppend appV appC
  cases a L S with
  | ok v S1 =>
    simp only [bind_ok]
    split
    · cases b L S1 with
      | ok w S2 =>
        simp only [bind_ok]
        cases v <;> cases w <;> first | rfl | (rename_i n _ _; simp only []; generalize S2[n]? = o; rcases o with _ | ⟨_ | _ | _ | _⟩ <;> rfl)
      | _ => rfl
    · rfl
  | _ => rfl
def extC (n : Nat) (w : Option D) (c : Option Cell) (S : Store) : R Val := match w, c with
  | some (.lst xs), some (.lst ds) => if ds.length + xs.length ≤ sizeLine then .ok (.d .non) (S.set n (.lst (ds ++ xs))) else .bad
  | _, _ => .bad
theorem extC_lst {n : Nat} {ds xs : List D} : extC n (some (.lst xs)) (some (.lst ds)) S = if ds.length + xs.length ≤ sizeLine then .ok (.d .non) (S.set n (.lst (ds ++ xs))) else .bad := mkE rfl
def extV (v w : Val) (S : Store) : R Val := match v with
  | .ref n => extC n (top S w) S[n]? S
  | _ => .bad
theorem extV_ref {n : Nat} : extV (.ref n) w S = extC n (top S w) S[n]? S := mkE rfl
theorem eExtend_eq {a b : SE} : eExtend a b L S = (a L S).bind fun v S1 => if isL S1 v = true then (b L S1).bind fun w S2 => extV v w S2 else .bad := by
  unfold eExtend extV extC
  cases a L S with
  | ok v S1 =>
    simp only [bind_ok]
    split
    · cases b L S1 with
      | ok w S2 =>
        simp only [bind_ok]
        cases v <;> first | rfl | (rename_i n _; generalize top S2 w = o2; rcases o2 with _ | ⟨_ | _ | _ | _ | _ | _ | _⟩ <;> first | rfl | (simp only []; generalize S2[n]? = o; rcases o with _ | ⟨_ | _ | _ | _⟩ <;> rfl))
      | _ => rfl
    · rfl
  | _ => rfl
def popC (n : Nat) (c : Option Cell) (S : Store) : R Val := match c with
  | some (.lst ds) => match ds[ds.length - 1]? with
    | some x => .ok (.d x) (S.set n (.lst ds.dropLast))
    | none => .bad
  | _ => .bad
theorem popC_lst {n : Nat} {ds : List D} : popC n (some (.lst ds)) S = match ds[ds.length - 1]? with
    | some x => .ok (.d x) (S.set n (.lst ds.dropLast))
    | none => .bad := mkE rfl
def popV (v : Val) (S : Store) : R Val := match v with
  | .ref n => popC n S[n]? S
  | _ => .bad
theorem popV_ref {n : Nat} : popV (.ref n) S = popC n S[n]? S := mkE rfl
theorem ePop_eq {a : SE} : ePop a L S = (a L S).bind popV := by
  unfold ePop popV popC
  rfl
theorem eCall_eq {g : Fn} {n : Nat} {as : SA} : eCall g n as L S = (as L S).bind fun vs S1 => if vs.length = n then g vs S1 else .bad := mkE rfl
def isoC (g : Fn) (n : Nat) (vs : List Val) (o : Option (List D)) (S : Store) : R Val := match o with
  | some ds => if vs.length = n then isoF (vs.all pureV) (g (ds.map Val.d) []) S else .bad
  | none => .bad
theorem isoC_some {g : Fn} {n : Nat} {vs : List Val} {ds : List D} : isoC g n vs (some ds) S = if vs.length = n then isoF (vs.all pureV) (g (ds.map Val.d) []) S else .bad := mkE rfl
theorem eCallI_eq {g : Fn} {n : Nat} {as : SA} : eCallI g n as L S = (as L S).bind fun vs S1 => isoC g n vs (dviews S1 vs) S1 := mkE rfl
theorem dviews_nil : dviews S [] = some [] := by unfold dviews; rfl
theorem dviews_cons {vs : List Val} : dviews S (v :: vs) = (dview S v).bind fun x => (dviews S vs).map (x :: ·) := by rw [dviews]
theorem dview_d : dview S (.d x) = some x := by unfold dview; rfl
theorem dview_ref {n : Nat} : dview S (.ref n) = topc S[n]? := by
  unfold dview topc
  generalize S[n]? = o
  rcases o with _ | ⟨_ | _ | _ | _⟩ <;> rfl
theorem dview_vt {vs : List Val} : dview S (.vt vs) = (dviews S vs).map .tup := by rw [dview]
def isoD (p : Bool) (o : Option D) (S1 : Store) : R Val := match o with
  | some x => if (p || flatD x) = true then .ok (.d x) S1 else .bad
  | none => .bad
theorem isoD_some {p : Bool} : isoD p (some x) S = if (p || flatD x) = true then .ok (.d x) S else .bad := mkE rfl
theorem isoF_ok {p : Bool} {S' : Store} : isoF p (.ok v S') S = isoD p (dview S' v) S := mkE rfl
theorem isoF_ex {p : Bool} {S' : Store} {a : Ex} : isoF p (.ex a S') S = .ex a S := mkE rfl
def c0 (r : R Val) : R Val := match r with
  | .ex _ _ => .bad
  | r => r
theorem eCall0_eq {g : Fn} : eCall0 g L S = c0 (isoF true (g [] []) S) := by
  unfold eCall0 c0
  generalize isoF true (g [] []) S = o
  cases o <;> rfl
theorem c0_ok : c0 (.ok v S) = .ok v S := mkE rfl
def newC (g : Fn) (n : Nat) (vs : List Val) (o : Option (List D)) (S : Store) : R Val := match o with
  | some ds => if vs.length = n then newF (g (ds.map Val.d) []) S else .bad
  | none => .bad
theorem newC_some {g : Fn} {n : Nat} {vs : List Val} {ds : List D} : newC g n vs (some ds) S = if vs.length = n then newF (g (ds.map Val.d) []) S else .bad := mkE rfl
theorem eCallN_eq {g : Fn} {n : Nat} {as : SA} : eCallN g n as L S = (as L S).bind fun vs S1 => newC g n vs (allD vs) S1 := mkE rfl
theorem newF_ok {S' : Store} : newF (.ok v S') S = .ok (shiftV S.length v) (S ++ S'.map (shiftC S.length)) := mkE rfl
theorem newF_ex {S' : Store} {a : Ex} : newF (.ex a S') S = .ex a S := mkE rfl
theorem shiftV_d {k : Nat} : shiftV k (.d x) = .d x := by unfold shiftV; rfl
theorem shiftV_ref {k n : Nat} : shiftV k (.ref n) = .ref (k + n) := by unfold shiftV; rfl
theorem shiftC_lst {k : Nat} {ds : List D} : shiftC k (.lst ds) = .lst ds := mkE rfl
theorem gN_eq {i : Nat} : gN i v L = some (L.set i (some v)) := mkE rfl
theorem gsN_eq : gsN [] L = some L := mkE rfl
theorem gsC_eq {g : SG} {gs : SGs} {r : List Val} : gsC g gs (w :: r) L = (g w L).bind (gs r) := mkE rfl
def gTo (n : Nat) (gs : SGs) (o : Option (List Val)) (L : Loc) : Option Loc := match o with
  | some vs => if vs.length = n then gs vs L else none
  | none => none
theorem gTo_some {n : Nat} {gs : SGs} {vs : List Val} : gTo n gs (some vs) L = if vs.length = n then gs vs L else none := mkE rfl
theorem gT_eq {n : Nat} {gs : SGs} : gT n gs w L = gTo n gs (unp w) L := mkE rfl
theorem unp_tup {ds : List D} : unp (.d (.tup ds)) = some (ds.map .d) := mkE rfl
theorem unp_vt {vs : List Val} : unp (.vt vs) = some vs := mkE rfl
theorem sNx_eq : sNx L S = .nx L S := mkE rfl
theorem sBad_eq : sBad L S = .bad := mkE rfl
theorem sBk_eq : sBk L S = .bk L S := mkE rfl
theorem sCt_eq : sCt L S = .ct L S := mkE rfl
theorem sEx_eq {e : SE} : sEx e L S = (e L S).to L fun _ S1 => .nx L S1 := mkE rfl
theorem sRt_eq {e : SE} : sRt e L S = (e L S).to L fun v S1 => .rt v S1 := mkE rfl
theorem sRtN_eq : sRtN L S = .rt (.d .non) S := mkE rfl
theorem sIf_eq {c : SB} {f g : SS} : sIf c f g L S = (c L S).to L fun b S1 => if b = true then f L S1 else g L S1 := mkE rfl
def asgO (o : Option Loc) (S : Store) : SR := match o with
  | some L1 => .nx L1 S
  | none => .bad
theorem asgO_some : asgO (some L) S = .nx L S := mkE rfl
theorem sAsg_eq {e : SE} {g : SG} : sAsg e g L S = (e L S).to L fun v S1 => asgO (g v L) S1 := mkE rfl
def itL (v : Val) (S : Store) : R (List D) := match v with
  | .d (.lst ds) => .ok ds S
  | .d (.scr ns) => .ok (ns.map .int) S
  | _ => .bad
theorem itL_lst {ds : List D} : itL (.d (.lst ds)) S = .ok ds S := mkE rfl
theorem itL_scr {ns : List Int} : itL (.d (.scr ns)) S = .ok (ns.map .int) S := mkE rfl
theorem iL_eq {e : SE} : iL e L S = (e L S).bind itL := mkE rfl
def itT (v : Val) (S : Store) : R (List D) := match v with
  | .d (.tup ds) => .ok ds S
  | _ => .bad
theorem itT_tup {ds : List D} : itT (.d (.tup ds)) S = .ok ds S := mkE rfl
theorem iT_eq {e : SE} : iT e L S = (e L S).bind itT := mkE rfl
def itS (v : Val) (S : Store) : R (List D) := match v with
  | .d (.str x) => .ok (x.cps.toList.map fun c => .str ⟨#[c]⟩) S
  | _ => .bad
theorem itS_str {z : Str} : itS (.d (.str z)) S = .ok (z.cps.toList.map fun c => .str ⟨#[c]⟩) S := mkE rfl
theorem iS_eq {e : SE} : iS e L S = (e L S).bind itS := mkE rfl
def itR1 (v : Val) (S : Store) : R (List D) := match v with
  | .d (.int j) => if -(2 ^ 62) ≤ j ∧ j < 2 ^ 62 then .ok (rng 0 j.toNat) S else .bad
  | _ => .bad
theorem itR1_int {j : Int} : itR1 (.d (.int j)) S = if -(2 ^ 62) ≤ j ∧ j < 2 ^ 62 then .ok (rng 0 j.toNat) S else .bad := mkE rfl
theorem iR1_eq {e : SE} : iR1 e L S = (e L S).bind itR1 := mkE rfl
def itR2 (v w : Val) (S : Store) : R (List D) := match v, w with
  | .d (.int i), .d (.int j) => if (-(2 ^ 62) ≤ i ∧ i < 2 ^ 62) ∧ -(2 ^ 62) ≤ j ∧ j < 2 ^ 62 then .ok (rng i (j - i).toNat) S else .bad
  | _, _ => .bad
theorem itR2_int {i j : Int} : itR2 (.d (.int i)) (.d (.int j)) S = if (-(2 ^ 62) ≤ i ∧ i < 2 ^ 62) ∧ -(2 ^ 62) ≤ j ∧ j < 2 ^ 62 then .ok (rng i (j - i).toNat) S else .bad := mkE rfl
theorem iR2_eq {e e' : SE} : iR2 e e' L S = (e L S).bind fun v S1 => (e' L S1).bind fun w S2 => itR2 v w S2 := mkE rfl
theorem sFor_eq {f : SI} {g : SG} {b : SS} : sFor f g b L S = (f L S).to L fun ds S1 => forL g b ds L S1 := mkE rfl
theorem forL_nil {g : SG} {b : SS} : forL g b [] L S = .nx L S := mkE rfl
def SR.loop (r : SR) (k : SS) : SR := match r with
  | .nx L2 S2 => k L2 S2
  | .ct L2 S2 => k L2 S2
  | .bk L2 S2 => .nx L2 S2
  | r => r
def loopO (b : SS) (k : SS) (o : Option Loc) (S : Store) : SR := match o with
  | none => .bad
  | some L1 => (b L1 S).loop k
theorem loopO_some {b k : SS} {L1 : Loc} : loopO b k (some L1) S = (b L1 S).loop k := mkE rfl
theorem forL_cons {g : SG} {b : SS} {ds : List D} : forL g b (x :: ds) L S = loopO b (forL g b ds) (g (.d x) L) S := by
  rw [forL]
  unfold loopO SR.loop
  simp only []
  all_goals
    generalize g (.d x) L = o
    cases o with
    | none => rfl
    | some L1 =>
      simp only []
      all_goals (generalize b L1 S = r; cases r <;> rfl)
theorem loop_nx {k : SS} : (SR.nx L S).loop k = k L S := mkE rfl
theorem loop_ct {k : SS} : (SR.ct L S).loop k = k L S := mkE rfl
theorem loop_bk {k : SS} : (SR.bk L S).loop k = .nx L S := mkE rfl
theorem loop_rt {k : SS} : (SR.rt v S).loop k = .rt v S := mkE rfl
theorem loop_ex {k : SS} {a : Ex} : (SR.ex a L S).loop k = .ex a L S := mkE rfl
theorem eComp_eq {f : SI} {g : SG} {t : SB} {e : SE} {vs : List Nat} : eComp f g t e vs L S = (f L S).bind fun ds S1 => if ds.length ≤ sizeLine then (compL g t e (wipeL L vs) ds [] S1).bind fun acc S2 => .ok (.d (.lst acc)) S2 else .bad := mkE rfl
/-- a comprehension whose tests and items are told item by item, in a store that stays -/
theorem compL_map {g : SG} {t : SB} {e : SE} {Lw : Loc} (P : D → Bool) (h : D → D) (S : Store) : ∀ (ds acc : List D), (∀ d ∈ ds, ∃ L1, g (.d d) Lw = some L1 ∧ t L1 S = .ok (P d) S ∧ (P d = true → e L1 S = .ok (.d (h d)) S)) →
    compL g t e Lw ds acc S = .ok (acc ++ (ds.filter P).map h) S
  | [], acc, _ => by rw [compL]; simp
  | d :: ds, acc, q => by
    obtain ⟨L1, h1, h2, h3⟩ := q d List.mem_cons_self
    rw [compL, h1]
    simp only [h2, nox_ok, bind_ok]
    cases hp : P d with
    | false =>
      simp only [Bool.false_eq_true, if_false]
      rw [compL_map P h S ds acc fun d' hd => q d' (List.mem_cons_of_mem _ hd), List.filter_cons_of_neg (by simp [hp])]
    | true =>
      simp only [if_true, h3 hp, nox_ok, bind_ok]
      rw [compL_map P h S ds _ fun d' hd => q d' (List.mem_cons_of_mem _ hd), List.filter_cons_of_pos hp]
      simp
theorem bYes_eq : bYes L S = .ok true S := mkE rfl
theorem compL_all {g : SG} {e : SE} {Lw : Loc} (h : D → D) (S : Store) (ds : List D) (q : ∀ d ∈ ds, ∃ L1, g (.d d) Lw = some L1 ∧ e L1 S = .ok (.d (h d)) S) :
    compL g bYes e Lw ds [] S = .ok (ds.map h) S := by
  rw [compL_map (t := bYes) (fun _ => true) h S ds [] fun d hd => let ⟨L1, a, b⟩ := q d hd; ⟨L1, a, rfl, fun _ => b⟩]
  simp [List.filter_eq_self.mpr]
def retF (r : SR) : R Val := match r with
  | .nx _ S' => .ok (.d .non) S'
  | .rt v S' => .ok v S'
  | .ex x _ S' => .ex x S'
  | _ => .bad
theorem runFn_eq {np nl : Nat} {b : SS} {args : List Val} : runFn np nl b args S = if args.length = np then retF (b (args.map some ++ List.replicate (nl - np) none) S) else .bad := mkE rfl
theorem retF_nx : retF (.nx L S) = .ok (.d .non) S := mkE rfl
theorem retF_rt : retF (.rt v S) = .ok v S := mkE rfl
theorem retF_ex {a : Ex} : retF (.ex a L S) = .ex a S := mkE rfl
theorem retF_if {c : Prop} [Decidable c] {a b : SR} : retF (if c then a else b) = if c then retF a else retF b := by split <;> rfl
def truR (o : Option D) (v : Val) (S : Store) : R Bool := match o with
  | some x => match truD x with
    | some b => .ok b S
    | none => .bad
  | none => match v with
    | .ref n => match S[n]? with
      | some (.dic ks ds) => .ok (!ks.isEmpty) S
      | _ => .bad
    | _ => .bad
theorem bTr_eq {e : SE} : bTr e L S = (e L S).bind fun v S1 => truR (top S1 v) v S1 := mkE rfl
def truO (o : Option Bool) (S : Store) : R Bool := match o with
  | some b => .ok b S
  | none => .bad
theorem truO_some {b : Bool} : truO (some b) S = .ok b S := mkE rfl
theorem truR_some : truR (some x) v S = truO (truD x) S := mkE rfl
end
end Ev
set_option linter.all false
set_option Elab.async false
set_option maxRecDepth 100000
/-! the equations of own objects and dicts, for runs by simp -/
namespace Ev
open PySem L2 PySem.Spec
section
variable {α β : Type} {L : Loc} {S : Store} {v w : Val} {x y : D}
def fldO (o : Option Val) (S : Store) : R Val := match o with
  | some w => .ok w S
  | none => .bad
theorem fldO_some : fldO (some w) S = .ok w S := mkE rfl
def fldV (c j : Nat) (v : Val) (S : Store) : R Val := match v with
  | .ref n => fldO (fldC c j S[n]?) S
  | _ => .bad
theorem fldV_ref {c j n : Nat} : fldV c j (.ref n) S = fldO (fldC c j S[n]?) S := mkE rfl
theorem eFld_eq {c j : Nat} {a : SE} : eFld c j a L S = (a L S).bind fun v S1 => fldV c j v S1 := by
  unfold eFld fldV fldO
  cases a L S with
  | ok v S1 => cases v <;> rfl
  | _ => rfl
theorem fldC_obj {c j : Nat} {fs : List Val} : fldC c j (some (.obj c fs)) = fs[j]? := mkE (if_pos rfl)
def setO (L : Loc) (n : Nat) (o : Option Cell) (S : Store) : SR := match o with
  | some c => .nx L (S.set n c)
  | none => .bad
theorem setO_some {n : Nat} {c : Cell} : setO L n (some c) S = .nx L (S.set n c) := mkE rfl
def setV (L : Loc) (c j : Nat) (w v : Val) (S : Store) : SR := match v with
  | .ref n => setO L n (setC c j w S[n]?) S
  | _ => .bad
theorem setV_ref {c j n : Nat} : setV L c j w (.ref n) S = setO L n (setC c j w S[n]?) S := mkE rfl
theorem sSetF_eq {c j : Nat} {o e : SE} : sSetF c j o e L S = (e L S).to L fun w S1 => (o L S1).to L fun v S2 => setV L c j w v S2 := by
  unfold sSetF setV setO
  cases e L S with
  | ok w S1 =>
    simp only [to_ok]
    all_goals
      cases o L S1 with
      | ok v S2 => cases v <;> rfl
      | _ => rfl
  | _ => rfl
theorem setC_obj {c j : Nat} {fs : List Val} : setC c j w (some (.obj c fs)) = if j < fs.length then some (.obj c (fs.set j w)) else if j = fs.length then some (.obj c (fs ++ [w])) else none := mkE (if_pos rfl)
def isObC (c : Nat) (o : Option Cell) : Bool := match o with
  | some (.obj c' _) => decide (c' = c)
  | _ => false
theorem isObC_obj {c : Nat} {fs : List Val} : isObC c (some (.obj c fs)) = true := mkE (decide_eq_true rfl)
theorem isOb_ref {c n : Nat} : isOb c (.ref n) S = isObC c S[n]? := by
  unfold isOb isObC
  rfl
theorem eMeth_eq {c : Nat} {g : Fn} {n : Nat} {o : SE} {as : SA} : eMeth c g n o as L S = (o L S).bind fun v S1 => if isOb c v S1 = true then (as L S1).bind fun vs S2 => if vs.length = n then g (v :: vs) S2 else .bad else .bad := mkE rfl
theorem newR_ok {N : Nat} : newR N (.ok (.d .non) S) = .ok (.ref N) S := mkE rfl
theorem eNew_eq {c : Nat} {g : Fn} {n : Nat} {as : SA} : eNew c g n as L S = (as L S).bind fun vs S1 => if vs.length = n then newR S1.length (g (.ref S1.length :: vs) (S1 ++ [.obj c []])) else .bad := mkE rfl
theorem eDicO_eq : eDicO L S = .ok (.ref S.length) (S ++ [.dic [] []]) := mkE rfl
theorem keyV_int {i : Int} : keyV (.d (.int i)) = some (.inl i) := mkE rfl
theorem keyV_str {z : Str} : keyV (.d (.str z)) = some (.inr z) := mkE rfl
theorem dicV_ref {n : Nat} : dicV S (.ref n) = dicOf S[n]? := mkE rfl
theorem dicOf_dic {ks : List Key} {ds : List D} : dicOf (some (.dic ks ds)) = some (ks, ds) := mkE rfl
theorem dicOf_ldk {ks : List Key} {ds : List D} : dicOf (some (.ldk ks ds)) = some (ks, ds) := mkE rfl
theorem dicWV_ref {n : Nat} : dicWV S (.ref n) = dicWOf S[n]? := mkE rfl
theorem dicWOf_dic {ks : List Key} {ds : List D} : dicWOf (some (.dic ks ds)) = some (ks, ds) := mkE rfl
theorem inDic_some {neg : Bool} {k : Key} {ks : List Key} {ds : List D} : inDic neg (some k) (some (ks, ds)) S = .ok (.d (.bl (if neg then !(dLook ks ds k).isSome else (dLook ks ds k).isSome))) S := mkE rfl
theorem eInDic_eq {neg : Bool} {a b : SE} : eInDic neg a b L S = (a L S).bind fun v S1 => (b L S1).bind fun w S2 => inDic neg (keyV v) (dicV S2 w) S2 := mkE rfl
theorem getDic_some {k : Key} {ks : List Key} {ds : List D} : getDic (some (ks, ds)) (some k) S = R.of (dLook ks ds k) S := mkE rfl
theorem eGetDic_eq {a b : SE} : eGetDic a b L S = (a L S).bind fun v S1 => (b L S1).bind fun w S2 => getDic (dicV S2 v) (keyV w) S2 := mkE rfl
theorem putDic_some {n : Nat} {k : Key} {ks : List Key} {ds : List D} : putDic L (.ref n) (some (ks, ds)) (some k) (.d x) S = if ks.length < sizeLine then .nx L (S.set n (putC ks ds k x)) else .bad := mkE rfl
theorem sPutDic_eq {o k e : SE} : sPutDic o k e L S = (e L S).to L fun w S1 => (o L S1).to L fun v S2 => (k L S2).to L fun u S3 => putDic L v (dicWV S3 v) (keyV u) w S3 := mkE rfl
theorem revR_int {j : Int} : revR (.d (.int j)) S = if -(2 ^ 62) ≤ j ∧ j < 2 ^ 62 then .ok (rngR j.toNat) S else .bad := mkE rfl
theorem iRv1_eq {e : SE} : iRv1 e L S = (e L S).bind revR := mkE rfl
theorem iRv1_nat {e : SE} {n : Nat} {S1 : Store} (h : e L S = .ok (.d (.int (n : Int))) S1) (hn : n ≤ 1000000) : iRv1 e L S = .ok (rngR n) S1 := by
  rw [iRv1_eq, h, bind_ok, revR_int, if_pos ⟨by omega, by omega⟩]
  rfl
theorem shiftV_vt {k : Nat} {vs : List Val} : shiftV k (.vt vs) = .vt (shiftVs k vs) := by rw [shiftV]
theorem shiftVs_nil {k : Nat} : shiftVs k [] = [] := by rw [shiftVs]
theorem shiftVs_cons {k : Nat} {vs : List Val} : shiftVs k (v :: vs) = shiftV k v :: shiftVs k vs := by rw [shiftVs]
theorem shiftC_obj {k c : Nat} {fs : List Val} : shiftC k (.obj c fs) = .obj c (shiftVs k fs) := mkE rfl
theorem shiftC_dic {k : Nat} {ks : List Key} {ds : List D} : shiftC k (.dic ks ds) = .dic ks ds := mkE rfl
theorem bThen_t {k : R Val} : bThen (some (.bl true)) k S = k := mkE rfl
theorem bThen_f {k : R Val} : bThen (some (.bl false)) k S = .ok (.d (.bl false)) S := mkE rfl
theorem opt2_ok {f : D → D → Option D} : opt2 f (some x) (some y) = f x y := mkE rfl
theorem eChain3_eq {f f' f'' : D → D → Option D} {a b c d : SE} : eChain3 f f' f'' a b c d L S = (a L S).bind fun v S1 => (b L S1).bind fun w S2 => bThen (opt2 f (top S2 v) (top S2 w)) ((c L S2).bind fun u S3 => bThen (opt2 f' (top S3 w) (top S3 u)) ((d L S3).bind fun t S4 => R.of (opt2 f'' (top S4 u) (top S4 t)) S4) S3) S2 := mkE rfl
theorem eChain_eq {f f' : D → D → Option D} {a b c : SE} : eChain f f' a b c L S = (a L S).bind fun v S1 => (b L S1).bind fun w S2 => bThen (opt2 f (top S2 v) (top S2 w)) ((c L S2).bind fun u S3 => R.of (opt2 f' (top S3 w) (top S3 u)) S3) S2 := by
  unfold eChain bThen opt2
  cases a L S with
  | ok v S1 =>
    simp only [bind_ok]
    all_goals
      cases b L S1 with
      | ok w S2 =>
        simp only [bind_ok]
        all_goals
          cases top S2 v with
          | none => rfl
          | some x => cases top S2 w with
            | none => rfl
            | some y =>
              simp only []
              all_goals
                cases f x y with
                | none => rfl
                | some z => cases z with
                  | bl b0 => cases b0 with
                    | true =>
                      simp only []
                      all_goals
                        cases c L S2 with
                        | ok u S3 =>
                          simp only [bind_ok]
                          all_goals (rw [show top S3 w = top S3 w from rfl]; cases top S3 w <;> cases top S3 u <;> rfl)
                        | _ => rfl
                    | false => rfl
                  | _ => rfl
      | _ => rfl
  | _ => rfl
theorem compL_nil {g : SG} {t : SB} {e : SE} {Lw : Loc} {acc : List D} : compL g t e Lw [] acc S = .ok acc S := mkE rfl
theorem compL_t {g : SG} {t : SB} {e : SE} {Lw L1 : Loc} {d : D} {ds acc : List D} {S1 S2 : Store} (h1 : g (.d d) Lw = some L1) (h2 : t L1 S = .ok true S1) (h3 : e L1 S1 = .ok (.d x) S2) : compL g t e Lw (d :: ds) acc S = compL g t e Lw ds (acc ++ [x]) S2 := by
  rw [compL]
  simp only [h1, h2, h3, nox_ok, bind_ok]
  rfl
theorem compL_f {g : SG} {t : SB} {e : SE} {Lw L1 : Loc} {d : D} {ds acc : List D} {S1 : Store} (h1 : g (.d d) Lw = some L1) (h2 : t L1 S = .ok false S1) : compL g t e Lw (d :: ds) acc S = compL g t e Lw ds acc S1 := by
  rw [compL]
  simp only [h1, h2, nox_ok, bind_ok]
  rfl
theorem sLk_eq {i : Nat} {s : SS} : sLk i s L S = lkV s L S L[i]? := mkE rfl
theorem lkV_ref {n : Nat} {s : SS} : lkV s L S (some (some (.ref n))) = lkC n s L S S[n]? := mkE rfl
theorem lkV_d {x : D} {s : SS} : lkV s L S (some (some (.d x))) = s L S := mkE rfl
theorem itK_lst {ds : List D} : itK (.d (.lst ds)) S = .ok ds S := mkE rfl
theorem itK_scr {ns : List Int} : itK (.d (.scr ns)) S = .ok (ns.map .int) S := mkE rfl
theorem lkC_lst {n : Nat} {s : SS} {ds : List D} : lkC n s L S (some (.lst ds)) = (s L (S.set n (.lck ds))).mapS fun S1 => S1.set n (.lst ds) := mkE rfl
theorem mapS_nx {f : Store → Store} : (SR.nx L S).mapS f = .nx L (f S) := mkE rfl
theorem mapS_rt {f : Store → Store} : (SR.rt v S).mapS f = .rt v (f S) := mkE rfl
theorem mapS_bk {f : Store → Store} : (SR.bk L S).mapS f = .bk L (f S) := mkE rfl
theorem mapS_ct {f : Store → Store} : (SR.ct L S).mapS f = .ct L (f S) := mkE rfl
def itKc (c : Option Cell) (S : Store) : R (List D) := match c with
  | some (.lck ds) => .ok ds S
  | _ => .bad
theorem itKc_lck {ds : List D} : itKc (some (.lck ds)) S = .ok ds S := mkE rfl
theorem itK_ref {n : Nat} : itK (.ref n) S = itKc S[n]? S := by
  unfold itK itKc
  rfl
theorem iLk_eq {e : SE} : iLk e L S = (e L S).bind itK := mkE rfl
theorem bad_bind {k : α → Store → R β} : (R.bad : R α).bind k = .bad := mkE rfl
end
end Ev
set_option linter.all false
set_option Elab.async false
set_option maxRecDepth 100000
namespace Ev
open PySem L2 PySem.Spec
variable {K : PySem.W.Frag}
/-! ### the end: from the written part to what a def's derivation wants, and the law's call -/
theorem fnAt_mk {h : Heap} {mg : Str → Option Value} (X : K.In h) (G : h.Ns mainGlobals mg) {x : Str} {st : Stmt} {ps : List Str} {f : Addr} {od an : Option Addr} {sl : Array (Option Value)} {oc kV dc pm cd ct : Value}
    (a : PySem.W.nsIn K mainGlobals x = some (some (.ref f))) (l : K.lookup f = some ⟨oc, od, .func (PySem.W.fnOf x x (defArgs st) (defBody st) (defScope st) .none kV dc pm an cd ct), sl⟩) (c : PySem.W.codeIn K cd x = true) (k : PySem.W.keepIn K (.ref f) = true)
    (b : ∀ (kV doc pm : Value) (an : Option Addr) (cdv ct : Value) (us : List Value), us.length = ps.length → bindArgs (PySem.W.fnOf x x (defArgs st) (defBody st) (defScope st) .none kV doc pm an cdv ct) ⟨us, []⟩ = pure (ps.zip us)) :
    FnAt K mg x x st ps f (PySem.W.fnOf x x (defArgs st) (defBody st) (defScope st) .none kV dc pm an cd ct) :=
  ⟨fun_mk l c k, PySem.W.mg_of X G a, (fun_mk l c k).binds b⟩
theorem kd_mk {w : World} {d : Addr} {tbl : List (Str × D)} {es : Array DictEntry} {n : Nat} (h : K.lookup d = some ⟨.type "dict", none, .dict es n, #[]⟩) (lit : PySem.W.KeysLit w.params es.toList) (low : (d == sysModules) = false)
    (p : Paired (fun (e : DictEntry) (kv : Str × D) => ∃ t v, e.key = .str kv.1 t ∧ RelV v e.val ∧ Always K kv.2 v) es.toList tbl) : KD K w d tbl := ⟨es, n, ⟨h, lit, low⟩, p⟩
theorem tup_mk {x : Str} {d : Addr} {t : D} (a : PySem.W.nsIn K mainGlobals x = some (some (.ref d))) (p : Always K t (.ref d)) : ∃ d, PySem.W.nsIn K mainGlobals x = some (some (.ref d)) ∧ Always K t (.ref d) := ⟨d, a, p⟩
def pcOf (K : PySem.W.Frag) : PC := ⟨K, fun _ => 0, fun _ => [], fun _ => 0, fun _ => []⟩
theorem cx_none {P : Program} {w : World} {H : Hp} {s : Shared} {e : Value} {s' : Shared} : L2N.CX P w [] H s (fun _ _ _ => False) e s' → False := fun ⟨_, _, _, _, _, _, _, _, _, _, _, _, h⟩ => h
/-- the law's promise: True at every script -/
def spL (K : PySem.W.Frag) : Sp := fun vs H Q _ => ∃ (a : Addr) (ns : List Int), vs = [.ref a] ∧ ns.length ≤ 63 ∧ SqL K H a (ns.map V.int) ∧ ∀ H', Q (.bl true) H'
theorem spL_spF {G : PC} {g : Fn} (e : ∀ ns : List Int, ns.length ≤ 63 → ∃ S', g [.d (.scr ns)] [] = .ok (.d (.bl true)) S') : ∀ vs H Q E, spL G.K vs H Q E → spF G 1 g vs H Q E := by
  intro vs H Q E h
  obtain ⟨a, ns, rfl, hl, hS, q⟩ := h
  obtain ⟨S', e⟩ := e ns hl
  refine ⟨fun _ => False, fun _ => False, [], [.d (.scr ns)], [], ⟨_, _, rfl, ⟨a, rfl, ?_⟩, rfl⟩, rfl, ?_, ?_⟩
  · rcases hS with h | ⟨o, its, n, h⟩
    · exact .inl ⟨h, fun z => z⟩
    · exact .inr fun H' => .inr ⟨o, its, n, h⟩
  · exact ⟨fun a h => absurd h (by simp), fun a h => h.elim, .nil, rfl, fun a h => absurd h (by simp), fun a h => h.elim, fun n a c e1 e2 => by simp at e1, fun n c e1 => by simp at e1⟩
  · rw [e]
    intro A' ρ' H' x r w rw
    rw [show w = .bl true from rw]
    exact q H'
theorem fn_weak {P : Program} {w : World} {mg : Str → Option Value} {base : Heap} {CX : CXT} {k : Nat} {f : Addr} {fd : FuncData} {ps : List Str} {sp sp' : Sp} (F : FnOk P w K mg base CX k f fd ps sp) (h : ∀ vs H Q E, sp' vs H Q E → sp vs H Q E) : FnOk P w K mg base CX k f fd ps sp' :=
  ⟨fun vs H Q E z => F.len vs H Q E (h vs H Q E z), fun A outer s H args us vs Q E a b c d z => F.run A outer s H args us vs Q E a b c d (h vs H Q E z)⟩
/-- a method's facts -/
theorem mtAt_mk {C : Addr} {m qual : Str} {st : Stmt} {ps : List Str} {f : Addr} {od an : Option Addr} {sl : Array (Option Value)} {oc kV dc pm cd ct : Value}
    (a : PySem.W.findIn K (.ref C) m = some (some (.ref f))) (i : PySem.W.isFn K (.ref f) = true) (l : K.lookup f = some ⟨oc, od, .func (PySem.W.fnOf m qual (defArgs st) (defBody st) (defScope st) .none kV dc pm an cd ct), sl⟩) (c : PySem.W.codeIn K cd qual = true) (k : PySem.W.keepIn K (.ref f) = true)
    (b : ∀ (kV doc pm : Value) (an : Option Addr) (cdv ct : Value) (us : List Value), us.length = ps.length → bindArgs (PySem.W.fnOf m qual (defArgs st) (defBody st) (defScope st) .none kV doc pm an cdv ct) ⟨us, []⟩ = pure (ps.zip us)) :
    MtAt K C m qual st ps f (PySem.W.fnOf m qual (defArgs st) (defBody st) (defScope st) .none kV dc pm an cd ct) :=
  ⟨fun_mk l c k, ⟨a, i, k⟩, (fun_mk l c k).binds b⟩
theorem clsAt_mk {G : PC} {c : Nat} (pg : PySem.W.plainGet G.K (G.cls c) Str.empty = true) (hd : PySem.W.hasDictIn G.K (G.cls c) = true) (po : PySem.W.plainOver G.K (G.cls c) = true) (sa : PySem.W.findIn G.K (.ref (G.cls c)) "__setattr__" = some (some (.builtin "object.__setattr__")))
    (nd : (G.fld c).Nodup) (sz : (G.fld c).length ≤ 900) (na : ∀ f ∈ G.fld c, NoAttr G.K (G.cls c) f) : ClsAt G c := ⟨⟨pg, hd, po, sa⟩, nd, na, sz⟩
end Ev
set_option linter.all false
set_option Elab.async false
set_option maxRecDepth 100000
/-! equations for simp: exceptions -/
namespace Ev
open PySem L2 PySem.Spec
variable {L : Loc} {S : Store} {v : Val} {f : SS} {xf : Nat → List Str} {cl : List Cl}
theorem sRaise_eq {k : Nat} : sRaise k L S = .ex ⟨k, []⟩ L S := mkE rfl
def raiV (k : Nat) (L : Loc) (v : Val) (S : Store) : SR := match v with
  | .d (.int i) => if 0 ≤ i ∧ i ≤ 1000000 then .ex ⟨k, [.int i]⟩ L S else .bad
  | _ => .bad
theorem raiV_int {k : Nat} {i : Int} (h : 0 ≤ i ∧ i ≤ 1000000) : raiV k L (.d (.int i)) S = .ex ⟨k, [.int i]⟩ L S := if_pos h
theorem sRaiseI_eq {k : Nat} {e : SE} : sRaiseI k e L S = (e L S).to L (raiV k L) := mkE rfl
theorem rz_1 {n : Nat} {e : SE} : rz (n + 2) 1 e = sRaiseI 1 e := mkE (rz_i (by decide))
theorem rz_1003 {n : Nat} {e : SE} : rz (n + 2) 1003 e = sRaiseP 3 e := mkE (rz_p (k := 3))
theorem rz_1004 {n : Nat} {e : SE} : rz (n + 2) 1004 e = sRaiseP 4 e := mkE (rz_p (k := 4))
theorem sRaiseP_eq {k : Nat} {e : SE} : sRaiseP k e L S = (e L S).to L (raiP k L) := mkE rfl
theorem iEn_eq {e : SE} : iEn e L S = (e L S).bind itE := mkE rfl
theorem itE_lst {ds : List D} : itE (.d (.lst ds)) S = .ok (enumD ds) S := mkE rfl
theorem iZp_eq {e e' : SE} : iZp e e' L S = (e L S).bind fun v S1 => (e' L S1).bind fun w S2 => itZ v w S2 := mkE rfl
theorem itZ_lst {xs ys : List D} : itZ (.d (.lst xs)) (.d (.lst ys)) S = .ok ((zipD xs ys).map .tup) S := mkE rfl
theorem itZ_tup {xs ys : List D} : itZ (.d (.tup xs)) (.d (.tup ys)) S = .ok ((zipD xs ys).map .tup) S := mkE rfl
noncomputable def tryR (xf : Nat → List Str) (cl : List Cl) (r : SR) : SR := match r with
  | .ex x L1 S1 => catchN xf x L1 S1 cl
  | r => r
theorem sTryN_eq : sTryN xf f cl L S = tryR xf cl (f L S) := mkE rfl
theorem tryR_nx : tryR xf cl (.nx L S) = .nx L S := mkE rfl
theorem tryR_rt : tryR xf cl (.rt v S) = .rt v S := mkE rfl
theorem tryR_bk : tryR xf cl (.bk L S) = .bk L S := mkE rfl
theorem tryR_ct : tryR xf cl (.ct L S) = .ct L S := mkE rfl
theorem tryR_bad : tryR xf cl .bad = .bad := mkE rfl
theorem tryR_ex {x : Ex} : tryR xf cl (.ex x L S) = catchN xf x L S cl := mkE rfl
noncomputable def catB (xf : Nat → List Str) (x : Ex) (L : Loc) (S : Store) (c : Cl) (r : List Cl) : Option Bool → SR
  | some true => allR fun a d => (match c.o with
      | some i => (c.h ⟨a, d, x.k⟩ (L.set i (some (.exc a d (xf x.k) x.fs))) S).unset i
      | none => (c.h ⟨a, d, x.k⟩ L S).noex)
  | some false => catchN xf x L S r
  | none => .bad
theorem catchN_eq {k : Nat} {fs : List D} {m : Nat → Option Bool} {o : Option Nat} {h : Cau → SS} {r : List Cl} : catchN xf ⟨k, fs⟩ L S (⟨m, o, h⟩ :: r) = catB xf ⟨k, fs⟩ L S ⟨m, o, h⟩ r (m k) := by
  conv => lhs; unfold catchN
  show (match m k with | some true => _ | some false => _ | none => _) = catB xf ⟨k, fs⟩ L S ⟨m, o, h⟩ r (m k)
  cases m k with
  | none => rfl
  | some b => cases b <;> rfl
theorem catchN_nil {x : Ex} : catchN xf x L S [] = .ex x L S := mkE rfl
theorem catB_f {x : Ex} {c : Cl} {r : List Cl} : catB xf x L S c r (some false) = catchN xf x L S r := mkE rfl
theorem catB_t {k i : Nat} {fs : List D} {m : Nat → Option Bool} {h : Cau → SS} {r : List Cl} : catB xf ⟨k, fs⟩ L S ⟨m, some i, h⟩ r (some true) = allR fun a d => (h ⟨a, d, k⟩ (L.set i (some (.exc a d (xf k) fs))) S).unset i := mkE rfl
theorem catB_tn {k : Nat} {fs : List D} {m : Nat → Option Bool} {h : Cau → SS} {r : List Cl} : catB xf ⟨k, fs⟩ L S ⟨m, none, h⟩ r (some true) = allR fun a d => (h ⟨a, d, k⟩ L S).noex := mkE rfl
theorem unset_rt {i : Nat} : (SR.rt v S).unset i = .rt v S := mkE rfl
theorem unset_nx {i : Nat} : (SR.nx L S).unset i = .nx (L.set i none) S := mkE rfl
theorem unset_bk {i : Nat} : (SR.bk L S).unset i = .bk (L.set i none) S := mkE rfl
theorem unset_ct {i : Nat} : (SR.ct L S).unset i = .ct (L.set i none) S := mkE rfl
theorem noex_rt : (SR.rt v S).noex = .rt v S := mkE rfl
theorem noex_nx : (SR.nx L S).noex = .nx L S := mkE rfl
theorem noex_bk : (SR.bk L S).noex = .bk L S := mkE rfl
theorem noex_ct : (SR.ct L S).noex = .ct L S := mkE rfl
theorem eIsY_eq {y : Cau} {t : Nat → Option Bool} {e : SE} : eIsY y t e L S = (e L S).bind (isY y (t y.k)) := mkE rfl
theorem isY_at {a : Addr} {d : Option Addr} {k : Nat} {b : Bool} {nm : List Str} {fs : List D} : isY ⟨a, d, k⟩ (some b) (.exc a d nm fs) S = .ok (.d (.bl b)) S := if_pos ⟨rfl, rfl⟩
theorem eAtY_eq {y : Cau} {j : Nat} {f : Str} {e : SE} : eAtY y j f e L S = (e L S).bind (atY y j f) := mkE rfl
theorem atY_at {a : Addr} {d : Option Addr} {k j : Nat} {f : Str} {nm : List Str} {fs : List D} {x : D} (h1 : nm[j]? = some f) (h2 : nm.Nodup) (h3 : fs[j]? = some x) : atY ⟨a, d, k⟩ j f (.exc a d nm fs) S = .ok (.d x) S := by
  unfold atY
  simp only [h1, h2, h3, and_self, if_true]
  rfl
theorem mapS_ex {x : Ex} {f : Store → Store} {L : Loc} {S : Store} : (SR.ex x L S).mapS f = .ex x L (f S) := mkE rfl
def lstOfV (v : Val) (S : Store) : R Val := match (top S v).bind listD with
  | some (.lst ds) => .ok (.ref S.length) (S ++ [.lst ds])
  | _ => .bad
theorem eLstOf_eq {e : SE} {L : Loc} {S : Store} : eLstOf e L S = (e L S).bind lstOfV := mkE rfl
theorem lstOfV_d {ds : List D} {S : Store} : lstOfV (.d (.lst ds)) S = .ok (.ref S.length) (S ++ [.lst ds]) := mkE rfl
def lstC (c : Option Cell) (S : Store) : R Val := match c with
  | some (.lst ds) => .ok (.ref S.length) (S ++ [.lst ds])
  | some (.lck ds) => .ok (.ref S.length) (S ++ [.lst ds])
  | _ => .bad
theorem lstOfV_ref {n : Nat} {S : Store} : lstOfV (.ref n) S = lstC S[n]? S := by
  unfold lstOfV top lstC
  simp only
  cases S[n]? with
  | none => rfl
  | some c => cases c <;> rfl
theorem lstC_lst {ds : List D} {S : Store} : lstC (some (.lst ds)) S = .ok (.ref S.length) (S ++ [.lst ds]) := mkE rfl
theorem lstC_lck {ds : List D} {S : Store} : lstC (some (.lck ds)) S = .ok (.ref S.length) (S ++ [.lst ds]) := mkE rfl
end Ev
set_option linter.all false
set_option Elab.async false
set_option maxRecDepth 100000
/-! equations for simp: dicts that are copied and walked -/
namespace Ev
open PySem L2 PySem.Spec
variable {L : Loc} {S : Store} {v : Val}
theorem eDicOf_eq {e : SE} : eDicOf e L S = (e L S).bind dicCp := mkE rfl
def dicCpC (c : Option Cell) (S : Store) : R Val := match c with
  | some (.dic ks ds) => .ok (.ref S.length) (S ++ [.dic ks ds])
  | some (.ldk ks ds) => .ok (.ref S.length) (S ++ [.dic ks ds])
  | _ => .bad
theorem dicCp_ref {n : Nat} : dicCp (.ref n) S = dicCpC S[n]? S := mkE rfl
theorem dicCpC_dic {ks : List Key} {ds : List D} : dicCpC (some (.dic ks ds)) S = .ok (.ref S.length) (S ++ [.dic ks ds]) := mkE rfl
theorem dicCpC_ldk {ks : List Key} {ds : List D} : dicCpC (some (.ldk ks ds)) S = .ok (.ref S.length) (S ++ [.dic ks ds]) := mkE rfl
theorem sLkD_eq {e : SE} {s : SS} : sLkD e s L S = lkDO s L S (refOf (e L S)) := mkE rfl
theorem refOf_ref {n : Nat} : refOf (.ok (.ref n) S) = some n := mkE rfl
theorem lkDO_some {n : Nat} {s : SS} : lkDO s L S (some n) = lkDC n s L S S[n]? := mkE rfl
theorem lkDC_dic {n : Nat} {s : SS} {ks : List Key} {ds : List D} : lkDC n s L S (some (.dic ks ds)) = (s L (S.set n (.ldk ks ds))).mapD fun S1 => S1.set n (.dic ks ds) := mkE rfl
theorem mapD_nx {f : Store → Store} : (SR.nx L S).mapD f = .nx L (f S) := mkE rfl
theorem mapD_rt {f : Store → Store} : (SR.rt v S).mapD f = .rt v (f S) := mkE rfl
theorem mapD_bk {f : Store → Store} : (SR.bk L S).mapD f = .bk L (f S) := mkE rfl
theorem mapD_ct {f : Store → Store} : (SR.ct L S).mapD f = .ct L (f S) := mkE rfl
theorem iDK_eq {e : SE} : iDK e L S = (e L S).bind itDK := mkE rfl
def itDKc (c : Option Cell) (S : Store) : R (List D) := match c with
  | some (.ldk ks _) => .ok (ks.map kD) S
  | _ => .bad
theorem itDK_ref {n : Nat} : itDK (.ref n) S = itDKc S[n]? S := mkE rfl
theorem itDKc_ldk {ks : List Key} {ds : List D} : itDKc (some (.ldk ks ds)) S = .ok (ks.map kD) S := mkE rfl
theorem iDI_eq {e : SE} : iDI e L S = (e L S).bind itDI := mkE rfl
def itDIc (c : Option Cell) (S : Store) : R (List D) := match c with
  | some (.ldk ks ds) => .ok ((kvD ks ds).map .tup) S
  | _ => .bad
theorem itDI_ref {n : Nat} : itDI (.ref n) S = itDIc S[n]? S := mkE rfl
theorem itDIc_ldk {ks : List Key} {ds : List D} : itDIc (some (.ldk ks ds)) S = .ok ((kvD ks ds).map .tup) S := mkE rfl
theorem sLkL_eq {e : SE} {s : SS} : sLkL e s L S = lkLO s L S (refOf (e L S)) := mkE rfl
theorem lkLO_some {n : Nat} {s : SS} : lkLO s L S (some n) = lkC n s L S S[n]? := mkE rfl
theorem refOf_d {x : D} : refOf (.ok (.d x) S) = none := mkE rfl
theorem lkLO_none {s : SS} : lkLO s L S none = s L S := mkE rfl
theorem kvD_nil : kvD [] [] = [] := mkE rfl
end Ev
set_option linter.all false
set_option Elab.async false
/-! equations for simp: picks, views -/
namespace Ev
open PySem L2 PySem.Spec
variable {L : Loc} {S : Store} {v : Val}
theorem ePick_eq {as : SA} {b : SE} : ePick as b L S = (as L S).bind fun vs S1 => if vs.length ≤ 1000 then (b L S1).bind fun w S2 => pickV vs S2 w else .bad := mkE rfl
def pickO (o : Option Val) (S : Store) : R Val := match o with
  | some u => .ok u S
  | none => .bad
theorem pickV_int {vs : List Val} {i : Int} : pickV vs S (.d (.int i)) = pickO (atI vs i) S := by
  show (match atI vs i with
    | some u => R.ok u S
    | none => .bad) = pickO (atI vs i) S
  unfold pickO
  rfl
theorem pickO_some {u : Val} : pickO (some u) S = .ok u S := mkE rfl
theorem eEqV_eq {neg : Bool} {a b : SE} : eEqV neg a b L S = (a L S).bind fun v S1 => (b L S1).bind fun w S2 => eqV neg S2 (dv S2 v) (dv S2 w) := mkE rfl
theorem eqV_some {neg : Bool} {x y : D} : eqV neg S (some x) (some y) = R.of (eqW neg x y) S := mkE rfl
theorem dv_d {x : D} : dv S (.d x) = some x := mkE rfl
theorem dv_ref {n : Nat} : dv S (.ref n) = topc S[n]? := (top_ref (S := S) (n := n))
def mapT (o : Option (List D)) : Option D := o.map .tup
theorem dv_vt {vs : List Val} : dv S (.vt vs) = mapT (dvL S vs) := mkE rfl
theorem mapT_some {ds : List D} : mapT (some ds) = some (.tup ds) := mkE rfl
def consO (a : Option D) (b : Option (List D)) : Option (List D) := match a, b with
  | some x, some xs => some (x :: xs)
  | _, _ => none
theorem dvL_nil : dvL S [] = some [] := mkE rfl
theorem dvL_cons {vs : List Val} : dvL S (v :: vs) = consO (top S v) (dvL S vs) := mkE rfl
theorem consO_some {x : D} {xs : List D} : consO (some x) (some xs) = some (x :: xs) := mkE rfl
end Ev
set_option linter.all false
set_option Elab.async false
/-! equations for simp: items written -/
namespace Ev
open PySem L2 PySem.Spec
variable {L : Loc} {S : Store} {v u w : Val}
theorem sPutL_eq {o k e : SE} : sPutL o k e L S = (e L S).to L fun w S1 => (o L S1).to L fun v S2 => (k L S2).to L fun u S3 => putLst L v u w S3 := mkE rfl
def putO (L : Loc) (n : Nat) (S : Store) : Option Cell → SR
  | some c => .nx L (S.set n c)
  | none => .bad
theorem putLst_eq {n : Nat} {i : Int} {x : D} : putLst L (.ref n) (.d (.int i)) (.d x) S = putO L n S (putLC i x S[n]?) := by
  unfold putLst putO
  rfl
theorem putO_some {n : Nat} {c : Cell} : putO L n S (some c) = .nx L (S.set n c) := mkE rfl
theorem putLC_nat {ds : List D} {i : Nat} {x : D} (h : i < ds.length) : putLC (i : Int) x (some (.lst ds)) = some (.lst (ds.set i x)) := by
  have e : ixN ds.length (i : Int) = some i := by
    unfold ixN
    rw [if_pos (Int.natCast_nonneg i), if_pos (by omega), Int.toNat_natCast]
  unfold putLC
  simp only [e]
theorem thenS_nx {g : Loc → Store → SR} : thenS (.nx L S) g = g L S := mkE rfl
theorem sPutL2_eq {o k p l e : SE} : sPutL2 o k p l e L S = (e L S).to L fun w S1 => put2 o k p l L S1 (unp w) := mkE rfl
theorem put2_eq {o k p l : SE} {x y : Val} : put2 o k p l L S (some [x, y]) = (o L S).to L fun v S2 => (k L S2).to L fun u S3 => thenS (putLst L v u x S3) fun _ S4 => (p L S4).to L fun v2 S5 => (l L S5).to L fun u2 S6 => putLst L v2 u2 y S6 := mkE rfl
theorem eCompO_eq {f : SI} {g : SG} {t : SB} {e : SE} {vs : List Nat} : eCompO f g t e vs L S = (f L S).bind fun ds S1 => if ds.length ≤ sizeLine then (compL g t e (wipeL L vs) ds [] S1).bind fun acc S2 => .ok (.ref S2.length) (S2 ++ [Cell.lst acc]) else .bad := mkE rfl
end Ev
set_option linter.all false
set_option Elab.async false
/-! equations for simp -/
namespace Ev
open PySem L2 PySem.Spec
variable {L : Loc} {S : Store} {v u w : Val}
theorem sAugL_eq {o k : SE} {j : Int} : sAugL o k j L S = (o L S).to L fun v S2 => (k L S2).to L fun u S3 => augLst L v u j S3 := mkE rfl
theorem augLst_eq {n : Nat} {i j : Int} : augLst L (.ref n) (.d (.int i)) j S = putO L n S (augLC i j S[n]?) := by
  unfold augLst putO
  rfl
theorem eIndex_eq {a b : SE} : eIndex a b L S = (a L S).bind fun v S1 => if isL S1 v = true then (b L S1).bind fun w S2 => R.of (ixOfV (top S2 v) w) S2 else .bad := mkE rfl
theorem augLC_nat {ds : List D} {i : Nat} {j x : Int} (h : ds[i]? = some (.int x)) : augLC (i : Int) j (some (.lst ds)) = some (.lst (ds.set i (.int (x + j)))) := by
  have hl := (List.getElem?_eq_some_iff.mp h).1
  have e : ixN ds.length (i : Int) = some i := by
    unfold ixN
    rw [if_pos (Int.natCast_nonneg i), if_pos (by omega), Int.toNat_natCast]
  have e2 : atI ds (i : Int) = some (.int x) := by
    unfold atI
    rw [e]
    exact h
  unfold augLC
  simp only [e, e2]
end Ev
set_option linter.all false
set_option Elab.async false
set_option maxRecDepth 100000
/-! the end, exceptions' classes -/
namespace Ev
open PySem L2 PySem.Spec
variable {K : PySem.W.Frag}
theorem oex_mk {C N : Addr} {nm q : Str} {bs bm sub : List Value} {sn : List Str} {ab : Bool} {col : Option Bool} {dd : Option Addr} {k0 k1 k2 k3 k5 : Option Value} (l : K.lookup C = some (excClassObj nm q C N bs bm true sn sub ab col dd k0 k1 k2 k3 k5 "ValueError.__new__")) (r : PySem.HandSPX.refsVE bm = true)
    (sa : PySem.W.findIn K (.ref C) "__setattr__" = some (some (.builtin "object.__setattr__"))) (sb : PySem.W.subIn K (.ref C) (.type "BaseException") = some true) (ty : PySem.W.typeIn K (.ref C) = some (.type "type")) (kc : PySem.W.keepIn K (.ref C) = true) : OexC K C :=
  ⟨⟨_, _, _, _, _, _, _, _, _, _, _, _, _, _, _, l, r⟩, sa, sb, ty, kc⟩
theorem xm_mk {C : Addr} {m qual : Str} {st : Stmt} {ps : List Str} {f : Addr} {od an : Option Addr} {sl : Array (Option Value)} {oc kV dc pm cd ct : Value} (l : K.lookup f = some ⟨oc, od, .func (PySem.W.fnOf m qual (defArgs st) (defBody st) (defScope st) .none kV dc pm an cd ct), sl⟩) (c : PySem.W.codeIn K cd qual = true) (k : PySem.W.keepIn K (.ref f) = true)
    (b : ∀ (kV doc pm : Value) (an : Option Addr) (cdv ct : Value) (us : List Value), us.length = ps.length → bindArgs (PySem.W.fnOf m qual (defArgs st) (defBody st) (defScope st) .none kV doc pm an cdv ct) ⟨us, []⟩ = pure (ps.zip us)) :
    XmAt K m qual st ps f (PySem.W.fnOf m qual (defArgs st) (defBody st) (defScope st) .none kV dc pm an cd ct) := ⟨fun_mk l c k, (fun_mk l c k).binds b⟩
theorem kit_t {C k : Addr} (hd : PySem.W.hasDictIn K C = true) (ty : PySem.W.typeIn K (.ref C) = some (.type "type")) (sb : PySem.W.subIn K (.ref k) (.ref C) = some true) : PySem.W.kitOne K (.ref k) (.ref C) = some true := by
  obtain ⟨cd, hc, _⟩ := PySem.W.any_some hd
  have e2 : ((PySem.W.clsIn K C).isSome && PySem.W.typeIn K (.ref C) == some (.type "type")) = true := by rw [hc, ty] <;> rfl
  unfold PySem.W.kitOne PySem.W.kitCls
  split
  · rfl
  · show (if ((PySem.W.clsIn K C).isSome && PySem.W.typeIn K (.ref C) == some (.type "type")) = true then PySem.W.subIn K (.ref k) (.ref C) else none) = _
    rw [if_pos e2]
    exact sb
theorem kit_f {C k : Addr} (hd : PySem.W.hasDictIn K C = true) (ty : PySem.W.typeIn K (.ref C) = some (.type "type")) (sb : PySem.W.subIn K (.ref k) (.ref C) = some false) (ne : (Value.ref k == Value.ref C) = false) : PySem.W.kitOne K (.ref k) (.ref C) = some false := by
  obtain ⟨cd, hc, _⟩ := PySem.W.any_some hd
  have e2 : ((PySem.W.clsIn K C).isSome && PySem.W.typeIn K (.ref C) == some (.type "type")) = true := by rw [hc, ty] <;> rfl
  unfold PySem.W.kitOne PySem.W.kitCls
  rw [if_neg (by rw [ne]; decide)]
  show (if ((PySem.W.clsIn K C).isSome && PySem.W.typeIn K (.ref C) == some (.type "type")) = true then PySem.W.subIn K (.ref k) (.ref C) else none) = _
  rw [if_pos e2]
  exact sb
theorem kit_ve {k : Addr} {b : Bool} (sb : PySem.W.subIn K (.ref k) (.type "ValueError") = some b) : PySem.W.kitOne K (.ref k) (.type "ValueError") = some b := by
  unfold PySem.W.kitOne PySem.W.kitCls
  rw [if_neg (show ¬ ((Value.ref k == Value.type "ValueError") = true) from Bool.false_ne_true)]
  show (if PySem.W.kitMeta "ValueError" = true then PySem.W.subIn K (.ref k) (.type "ValueError") else none) = _
  rw [if_pos (by decide +kernel)]
  exact sb
end Ev
set_option linter.all false
set_option Elab.async false
set_option maxRecDepth 100000
/-! the defs of the program and the law, as terms of Ev -/
namespace K20
open PySem L2 PySem.Spec Ev
/-- the fields of the exceptions -/
def xf : Nat → List Str
  | 0 => []
  | 1 => ["at"]
  | 2 => []
  | 3 => []
  | _ => []
def tx_BadText : Nat → Option Bool
  | 0 => some false
  | 1 => some true
  | 2 => some false
  | 3 => some false
  | _ => none
def cx_BadText (G : PC) : Value := .ref (G.xcl 1)
def tx_NotAllowed : Nat → Option Bool
  | 0 => some false
  | 1 => some false
  | 2 => some true
  | 3 => some false
  | _ => none
def cx_NotAllowed (G : PC) : Value := .ref (G.xcl 2)
def tx_UnknownName : Nat → Option Bool
  | 0 => some false
  | 1 => some false
  | 2 => some false
  | 3 => some true
  | _ => none
def cx_UnknownName (G : PC) : Value := .ref (G.xcl 3)
def tx_WritError : Nat → Option Bool
  | 0 => some true
  | 1 => some true
  | 2 => some true
  | 3 => some true
  | _ => none
def cx_WritError (G : PC) : Value := .ref (G.xcl 0)
def hots : List (Nat × Nat × Nat × ((Cau → Nat → Fn) → Cau → SS)) := []
def runXB (x : Cau → Nat → Fn) (y : Cau) (k : Nat) : Fn := match hots.find? (fun q => q.1 == k) with
  | some (_, np, nl, b) => runFn np nl (b x y)
  | none => fun _ _ => .bad
def runX : Nat → Cau → Nat → Fn
  | 0 => fun _ _ _ _ => .bad
  | n + 1 => runXB (runX n)
/-- BadText.__init__ -/
noncomputable def b0 (c : Nat → Fn) (w : Nat → Nat → Nat → SA → SE) (z : Nat → SE → SS) (x : Cau → Nat → Fn) : SS :=
    (sSeq sBad sBad)
/-- share -/
noncomputable def b1 (c : Nat → Fn) (w : Nat → Nat → Nat → SA → SE) (z : Nat → SE → SS) (x : Cau → Nat → Fn) : SS :=
    (sSeq (sEx (eCallI (c 2) 1 (aC (eV 1) aN)))
    (sSeq (sAsg (eOp1 sumD (eV 1)) (gN 2))
    (sSeq (sAsg (eCompO (iL (eV 1)) (gN 4) bYes (eOp2 fdivW (eOp2 mulD (eV 0) (eV 4)) (eV 2)) [4]) (gN 3))
    (sSeq (sAsg (eOp2 subD (eV 0) (eOp1 sumD (eV 3))) (gN 5))
    (sSeq (sFor (iL (eSl (eCallI (c 3) 2 (aC (eV 0) (aC (eV 1) aN))) oN (oE (eV 5)))) (gN 6) (sAugL (eV 3) (eV 6) 1))
    (sRt (eV 3)))))))
/-- check_weights -/
noncomputable def b2 (c : Nat → Fn) (w : Nat → Nat → Nat → SA → SE) (z : Nat → SE → SS) (x : Cau → Nat → Fn) : SS :=
    (sSeq (sIf (bNot (bTr (eV 0))) (sRaise 2) sNx)
    (sSeq (sIf (bE (eOp2 ltD (eOp1 minD (eV 0)) (eC (.int 0)))) (sRaise 2) sNx)
    (sIf (bE (eOp2 eqD' (eOp1 maxD (eV 0)) (eC (.int 0)))) (sRaise 2) sNx)))
/-- by_remainder -/
noncomputable def b3 (c : Nat → Fn) (w : Nat → Nat → Nat → SA → SE) (z : Nat → SE → SS) (x : Cau → Nat → Fn) : SS :=
    (sSeq (sAsg (eOp1 sumD (eV 1)) (gN 2))
    (sSeq (sAsg (eComp (iEn (eV 1)) (gT 2 (gsC (gN 4) (gsC (gN 5) gsN))) bYes (eTup (aC (eOp1 negD (eOp2 modD (eOp2 mulD (eV 0) (eV 5)) (eV 2))) (aC (eV 4) aN))) [4, 5]) (gN 3))
    (sRt (eComp (iL (eOp1 sortedD (eV 3))) (gT 2 (gsC (gN 6) (gsC (gN 4) gsN))) bYes (eV 4) [6, 4]))))
/-- _law_is_integer -/
noncomputable def b4 (c : Nat → Fn) (w : Nat → Nat → Nat → SA → SE) (z : Nat → SE → SS) (x : Cau → Nat → Fn) : SS :=
    (sRt (eAnd (eIs .int (eV 0)) (eNot (eIs .bool (eV 0)))))
/-- _law_row -/
noncomputable def b5 (c : Nat → Fn) (w : Nat → Nat → Nat → SA → SE) (z : Nat → SE → SS) (x : Cau → Nat → Fn) : SS :=
    (sSeq (sAsg (eOp2 addD (eOp2 mulD (eC (.int 7919)) (eV 1)) (eC (.int 5))) (gN 3))
    (sSeq (sIf (bE (eOp2 ltD (eV 1) (eOp1 lenD (eV 0)))) (sAsg (eIdx (eV 0) (eV 1)) (gN 3)) sNx)
    (sSeq (sAsg (eOp2 subD (eV 3) (eOp2 powD (eC (.int 10)) (eC (.int 18)))) (gN 4))
    (sSeq (sAsg (eLstO aN) (gN 5))
    (sSeq (sFor (iR1 (eV 2)) (gN 6) (sIf (bE (eOp2 gtD (eV 4) (eC (.int 0)))) (sSeq (sEx (eAppend (eV 5) (eOp2 modD (eOp1 intD (eV 4)) (eC (.int 1000)))))
    (sAsg (eOp2 fdivD (eV 4) (eC (.int 1000))) (gN 4))) (sSeq (sAsg (eOp2 modD (eOp1 intD (eOp2 addD (eOp2 addD (eOp2 mulD (eV 3) (eC (.int 48271))) (eOp2 mulD (eV 6) (eC (.int 69621)))) (eC (.int 12345)))) (eC (.int 2147483647))) (gN 7))
    (sSeq (sAsg (eOp2 modD (eOp1 intD (eOp2 addD (eOp2 addD (eOp2 mulD (eV 7) (eV 7)) (eOp2 mulD (eV 7) (eC (.int 16807)))) (eOp2 mulD (eV 6) (eC (.int 40692))))) (eC (.int 2147483399))) (gN 7))
    (sEx (eAppend (eV 5) (eOp2 modD (eOp2 fdivD (eV 7) (eC (.int 64))) (eC (.int 1000)))))))))
    (sRt (eV 5)))))))
/-- _law_refused -/
noncomputable def b6 (c : Nat → Fn) (w : Nat → Nat → Nat → SA → SE) (z : Nat → SE → SS) (x : Cau → Nat → Fn) : SS :=
    (sSeq (sTryN xf (sEx (eCallI (c 1) 2 (aC (eV 0) (aC (eV 1) aN)))) [⟨tx_WritError, some 2, fun y => (sRt (eAnd (eIsY y tx_NotAllowed (eV 2)) (eAnd (eNot (eIsY y tx_BadText (eV 2))) (eNot (eIsY y tx_UnknownName (eV 2))))))⟩])
    (sRt (eC (.bl false))))
/-- _law_weights -/
noncomputable def b7 (c : Nat → Fn) (w : Nat → Nat → Nat → SA → SE) (z : Nat → SE → SS) (x : Cau → Nat → Fn) : SS :=
    (sSeq (sAsg (eLstO aN) (gN 1))
    (sSeq (sFor (iR1 (eOp2 addD (eC (.int 1)) (eOp2 modD (eOp1 intD (eIdx (eV 0) (eC (.int 0)))) (eC (.int 8))))) (gN 2) (sSeq (sAsg (eOp2 modD (eOp1 intD (eIdx (eV 0) (eOp2 addD (eC (.int 2)) (eV 2)))) (eC (.int 13))) (gN 3))
    (sSeq (sIf (bE (eOp2 eqD' (eOp2 modD (eOp1 intD (eIdx (eV 0) (eC (.int 1)))) (eC (.int 3))) (eC (.int 0)))) (sAsg (eOp2 addD (eOp2 mulD (eIdx (eV 0) (eOp2 addD (eC (.int 2)) (eV 2))) (eC (.int 1000000))) (eIdx (eV 0) (eOp2 addD (eC (.int 10)) (eV 2)))) (gN 3)) sNx)
    (sSeq (sIf (bE (eOp2 eqD' (eOp2 modD (eOp1 intD (eIdx (eV 0) (eOp2 addD (eC (.int 18)) (eV 2)))) (eC (.int 5))) (eC (.int 0)))) (sAsg (eC (.int 0)) (gN 3)) sNx)
    (sEx (eAppend (eV 1) (eV 3)))))))
    (sSeq (sIf (bE (eOp2 eqD' (eOp1 maxD (eV 1)) (eC (.int 0)))) (sPutL (eV 1) (eOp2 modD (eOp1 intD (eIdx (eV 0) (eC (.int 1)))) (eOp1 lenD (eV 1))) (eOp2 addD (eC (.int 1)) (eIdx (eV 0) (eC (.int 2))))) sNx)
    (sRt (eV 1)))))
/-- _law_parts -/
noncomputable def b8 (c : Nat → Fn) (w : Nat → Nat → Nat → SA → SE) (z : Nat → SE → SS) (x : Cau → Nat → Fn) : SS :=
    (sSeq (sAsg (eOp1 sumD (eV 1)) (gN 2))
    (sSeq (sAsg (eLstO aN) (gN 3))
    (sSeq (sAsg (eLstO aN) (gN 4))
    (sSeq (sFor (iL (eV 1)) (gN 5) (sSeq (sEx (eAppend (eV 3) (eOp2 fdivW (eOp1 intD (eOp2 mulD (eV 0) (eV 5))) (eV 2))))
    (sEx (eAppend (eV 4) (eOp2 subD (eOp2 mulD (eV 0) (eV 5)) (eOp2 mulD (eIdx (eV 3) (eOp1 negD (eC (.int 1)))) (eV 2)))))))
    (sSeq (sFor (iR1 (eOp2 subD (eV 0) (eOp1 sumD (eV 3)))) (gN 6) (sSeq (sAsg (eIndex (eV 4) (eOp1 maxD (eV 4))) (gN 7))
    (sSeq (sPutL (eV 3) (eV 7) (eOp2 addD (eIdx (eV 3) (eV 7)) (eC (.int 1))))
    (sPutL (eV 4) (eV 7) (eOp1 negD (eC (.int 1)))))))
    (sRt (eV 3)))))))
/-- law -/
noncomputable def b9 (c : Nat → Fn) (w : Nat → Nat → Nat → SA → SE) (z : Nat → SE → SS) (x : Cau → Nat → Fn) : SS :=
    (sSeq (sAsg (eCallI (c 5) 3 (aC (eV 0) (aC (eC (.int 0)) (aC (eC (.int 30)) aN)))) (gN 1))
    (sSeq (sAsg (eCallI (c 7) 1 (aC (eV 1) aN)) (gN 2))
    (sSeq (sAsg (eOp2 mulD (eOp2 addD (eOp2 addD (eOp2 mulD (eIdx (eV 1) (eC (.int 26))) (eC (.int 1000000))) (eOp2 mulD (eIdx (eV 1) (eC (.int 27))) (eC (.int 1000)))) (eIdx (eV 1) (eC (.int 28)))) (eOp2 subD (eC (.int 1)) (eOp2 mulD (eC (.int 2)) (eOp2 modD (eOp1 intD (eIdx (eV 1) (eC (.int 29)))) (eC (.int 2)))))) (gN 3))
    (sSeq (sIf (bE (eOp2 eqD' (eOp2 modD (eOp1 intD (eIdx (eV 1) (eC (.int 28)))) (eC (.int 3))) (eC (.int 0)))) (sAsg (eOp2 subD (eOp2 modD (eOp1 intD (eIdx (eV 1) (eC (.int 27)))) (eC (.int 60))) (eC (.int 20))) (gN 3)) sNx)
    (sSeq (sAsg (eOp1 listD (eV 2)) (gN 4))
    (sSeq (sAsg (eCallI (c 1) 2 (aC (eV 3) (aC (eV 4) aN))) (gN 5))
    (sSeq (sIf (bOr (bNot (bE (eIs .list (eV 5)))) (bOr (bE (eOp2 neD' (eOp1 lenD (eV 5)) (eOp1 lenD (eV 2)))) (bE (eOp2 neD' (eV 4) (eV 2))))) (sRt (eC (.bl false))) sNx)
    (sSeq (sAsg (eOp1 sumD (eV 2)) (gN 6))
    (sSeq (sFor (iR1 (eOp1 lenD (eV 2))) (gN 7) (sSeq (sIf (bOr (bNot (bE (eCallI (c 4) 1 (aC (eIdx (eV 5) (eV 7)) aN)))) (bE (eOp2 geD (eOp1 absD (eOp2 subD (eOp2 mulD (eIdx (eV 5) (eV 7)) (eV 6)) (eOp2 mulD (eV 3) (eIdx (eV 2) (eV 7))))) (eV 6)))) (sRt (eC (.bl false))) sNx)
    (sIf (bAnd (bE (eOp2 eqD' (eIdx (eV 2) (eV 7)) (eC (.int 0)))) (bE (eOp2 neD' (eIdx (eV 5) (eV 7)) (eC (.int 0))))) (sRt (eC (.bl false))) sNx)))
    (sSeq (sIf (bOr (bE (eOp2 neD' (eOp1 sumD (eV 5)) (eV 3))) (bE (eOp2 neD' (eV 5) (eCallI (c 8) 2 (aC (eV 3) (aC (eV 2) aN)))))) (sRt (eC (.bl false))) sNx)
    (sSeq (sAsg (eOp2 modD (eOp1 intD (eIdx (eV 1) (eC (.int 25)))) (eOp1 lenD (eV 2))) (gN 8))
    (sSeq (sAsg (eOp2 addD (eOp2 addD (eSl (eV 2) oN (oE (eV 8))) (eLst (aC (eOp2 subD (eOp1 negD (eC (.int 1))) (eOp2 modD (eOp1 intD (eIdx (eV 1) (eC (.int 24)))) (eC (.int 9)))) aN))) (eSl (eV 2) (oE (eOp2 addD (eV 8) (eC (.int 1)))) oN)) (gN 9))
    (sSeq (sFor (iL (eLst (aC (eLst aN) (aC (eLst (aC (eC (.int 0)) (aC (eC (.int 0)) aN))) (aC (eLst (aC (eC (.int 2)) (aC (eOp1 negD (eC (.int 1))) aN))) (aC (eLst (aC (eOp1 negD (eC (.int 2))) (aC (eC (.int 2)) aN))) (aC (eLst (aC (eOp1 negD (eC (.int 1))) (aC (eC (.int 2)) aN))) (aC (eLst (aC (eC (.int 0)) aN)) (aC (eV 9) (aC (eOp2 addD (eV 9) (eLst (aC (eC (.int 5)) aN))) aN)))))))))) (gN 10) (sIf (bNot (bE (eCallI (c 6) 2 (aC (eV 3) (aC (eV 10) aN))))) (sRt (eC (.bl false))) sNx))
    (sRt (eC (.bl true))))))))))))))))
noncomputable def bodies : List (Nat × Nat × ((Nat → Fn) → (Nat → Nat → Nat → SA → SE) → (Nat → SE → SS) → (Cau → Nat → Fn) → SS)) := [(2, 2, b0), (2, 7, b1), (1, 1, b2), (2, 7, b3), (1, 1, b4), (3, 8, b5), (2, 3, b6), (1, 4, b7), (2, 8, b8), (1, 11, b9)]
def noN : Nat → Nat → Nat → SA → SE := fun _ _ _ _ _ _ => .bad
def mkN (r : Nat → Fn) : Nat → Nat → Nat → SA → SE := fun c j k as => eNew c (r j) k as
noncomputable def runB (c : Nat → Fn) (w : Nat → Nat → Nat → SA → SE) (z : Nat → SE → SS) (x : Cau → Nat → Fn) (k : Nat) : Fn := match bodies[k]? with
  | some (np, nl, b) => runFn np nl (b c w z x)
  | none => fun _ _ => .bad
noncomputable def run : Nat → Nat → Fn
  | 0 => fun _ _ _ => .bad
  | 1 => runB (fun _ _ _ => .bad) noN (rz 0) (runX 0)
  | n + 2 => runB (run (n + 1)) (mkN (run n)) (rz (n + 1)) (runX (n + 1))
noncomputable def nw : Nat → Nat → Nat → Nat → SA → SE
  | 0 => noN
  | n + 1 => mkN (run n)
theorem run_all (n k : Nat) : run (n + 1) k = runB (run n) (nw n) (rz n) (runX n) k := by cases n <;> rfl
theorem nw_eq {n c j k : Nat} {as : SA} : nw (n + 1) c j k as = eNew c (run n j) k as := rfl
theorem run0 (n : Nat) : run (n + 1) 0 = runFn 2 2 (b0 (run n) (nw n) (rz n) (runX n)) := (run_all n 0).trans rfl
theorem run1 (n : Nat) : run (n + 1) 1 = runFn 2 7 (b1 (run n) (nw n) (rz n) (runX n)) := (run_all n 1).trans rfl
theorem run2 (n : Nat) : run (n + 1) 2 = runFn 1 1 (b2 (run n) (nw n) (rz n) (runX n)) := (run_all n 2).trans rfl
theorem run3 (n : Nat) : run (n + 1) 3 = runFn 2 7 (b3 (run n) (nw n) (rz n) (runX n)) := (run_all n 3).trans rfl
theorem run4 (n : Nat) : run (n + 1) 4 = runFn 1 1 (b4 (run n) (nw n) (rz n) (runX n)) := (run_all n 4).trans rfl
theorem run5 (n : Nat) : run (n + 1) 5 = runFn 3 8 (b5 (run n) (nw n) (rz n) (runX n)) := (run_all n 5).trans rfl
theorem run6 (n : Nat) : run (n + 1) 6 = runFn 2 3 (b6 (run n) (nw n) (rz n) (runX n)) := (run_all n 6).trans rfl
theorem run7 (n : Nat) : run (n + 1) 7 = runFn 1 4 (b7 (run n) (nw n) (rz n) (runX n)) := (run_all n 7).trans rfl
theorem run8 (n : Nat) : run (n + 1) 8 = runFn 2 8 (b8 (run n) (nw n) (rz n) (runX n)) := (run_all n 8).trans rfl
theorem run9 (n : Nat) : run (n + 1) 9 = runFn 1 11 (b9 (run n) (nw n) (rz n) (runX n)) := (run_all n 9).trans rfl
end K20
set_option linter.all false
set_option Elab.async false
set_option maxRecDepth 100000
set_option maxHeartbeats 4000000
namespace K20
open PySem L2 PySem.Spec Ev
def top (i : Nat) : Stmt := PySem.Challenge.pw_duewrits_k20_whole_shares.main.body.getD i (.Pass ⟨0, 0, 0, 0⟩)
def sub (i j : Nat) : Stmt := match top i with
  | .ClassDef _ _ _ b _ _ _ _ _ _ _ => b.getD j (.Pass ⟨0, 0, 0, 0⟩)
  | _ => .Pass ⟨0, 0, 0, 0⟩
abbrev s0 : Stmt := sub 2 0
abbrev N0 : List Str := ["self", "at"]
theorem sc0 : FnScope N0 ["self", "at"] (defScope s0) := ⟨rfl, rfl, rfl, by decide +kernel, rfl, by decide +kernel, by decide +kernel⟩
abbrev s1 : Stmt := top 6
abbrev N1 : List Str := ["amount", "weights", "whole", "parts", "weight", "left_over", "at"]
theorem sc1 : FnScope N1 ["amount", "weights"] (defScope s1) := ⟨rfl, rfl, rfl, by decide +kernel, rfl, by decide +kernel, by decide +kernel⟩
abbrev s2 : Stmt := top 7
abbrev N2 : List Str := ["weights"]
theorem sc2 : FnScope N2 ["weights"] (defScope s2) := ⟨rfl, rfl, rfl, by decide +kernel, rfl, by decide +kernel, by decide +kernel⟩
abbrev s3 : Stmt := top 8
abbrev N3 : List Str := ["amount", "weights", "whole", "ranks", "at", "weight", "_"]
theorem sc3 : FnScope N3 ["amount", "weights"] (defScope s3) := ⟨rfl, rfl, rfl, by decide +kernel, rfl, by decide +kernel, by decide +kernel⟩
abbrev s4 : Stmt := top 10
abbrev N4 : List Str := ["x"]
theorem sc4 : FnScope N4 ["x"] (defScope s4) := ⟨rfl, rfl, rfl, by decide +kernel, rfl, by decide +kernel, by decide +kernel⟩
abbrev s5 : Stmt := top 11
abbrev N5 : List Str := ["script", "place", "many", "cell", "rest", "row", "k", "mixed"]
theorem sc5 : FnScope N5 ["script", "place", "many"] (defScope s5) := ⟨rfl, rfl, rfl, by decide +kernel, rfl, by decide +kernel, by decide +kernel⟩
abbrev s6 : Stmt := top 12
abbrev N6 : List Str := ["amount", "weights", "e"]
theorem sc6 : FnScope N6 ["amount", "weights"] (defScope s6) := ⟨rfl, rfl, rfl, by decide +kernel, rfl, by decide +kernel, by decide +kernel⟩
abbrev s7 : Stmt := top 13
abbrev N7 : List Str := ["row", "weights", "k", "weight"]
theorem sc7 : FnScope N7 ["row"] (defScope s7) := ⟨rfl, rfl, rfl, by decide +kernel, rfl, by decide +kernel, by decide +kernel⟩
abbrev s8 : Stmt := top 14
abbrev N8 : List Str := ["amount", "weights", "whole", "parts", "rests", "weight", "turn", "at"]
theorem sc8 : FnScope N8 ["amount", "weights"] (defScope s8) := ⟨rfl, rfl, rfl, by decide +kernel, rfl, by decide +kernel, by decide +kernel⟩
abbrev s9 : Stmt := top 15
abbrev N9 : List Str := ["script", "row", "weights", "amount", "passed", "found", "whole", "k", "at", "lower", "wrong"]
theorem sc9 : FnScope N9 ["script"] (defScope s9) := ⟨rfl, rfl, rfl, by decide +kernel, rfl, by decide +kernel, by decide +kernel⟩
/-- what the program's top has made -/
structure Txt (G : PC) (w : World) (mg : Str → Option Value) (fa : Nat → Addr) (fd : Nat → FuncData) : Prop where
  n_abs : mg "abs" = none
  n_bool : mg "bool" = none
  n_enumerate : mg "enumerate" = none
  n_int : mg "int" = none
  n_isinstance : mg "isinstance" = none
  n_len : mg "len" = none
  n_list : mg "list" = none
  n_max : mg "max" = none
  n_min : mg "min" = none
  n_range : mg "range" = none
  n_sorted : mg "sorted" = none
  n_sum : mg "sum" = none
  f0 : XmAt G.K "__init__" "BadText.__init__" s0 ["self", "at"] (fa 0) (fd 0)
  f1 : FnAt G.K mg "share" "share" s1 ["amount", "weights"] (fa 1) (fd 1)
  f2 : FnAt G.K mg "check_weights" "check_weights" s2 ["weights"] (fa 2) (fd 2)
  f3 : FnAt G.K mg "by_remainder" "by_remainder" s3 ["amount", "weights"] (fa 3) (fd 3)
  f4 : FnAt G.K mg "_law_is_integer" "_law_is_integer" s4 ["x"] (fa 4) (fd 4)
  f5 : FnAt G.K mg "_law_row" "_law_row" s5 ["script", "place", "many"] (fa 5) (fd 5)
  f6 : FnAt G.K mg "_law_refused" "_law_refused" s6 ["amount", "weights"] (fa 6) (fd 6)
  f7 : FnAt G.K mg "_law_weights" "_law_weights" s7 ["row"] (fa 7) (fd 7)
  f8 : FnAt G.K mg "_law_parts" "_law_parts" s8 ["amount", "weights"] (fa 8) (fd 8)
  f9 : FnAt G.K mg "law" "law" s9 ["script"] (fa 9) (fd 9)
  xfl : ∀ k, G.xfl k = xf k
  gx_WritError : mg "WritError" = some (.ref (G.xcl 0))
  gx_BadText : mg "BadText" = some (.ref (G.xcl 1))
  XI1 : XIAt G 1 (fa 0)
  gx_NotAllowed : mg "NotAllowed" = some (.ref (G.xcl 2))
  X2 : XAt G 2
  gx_UnknownName : mg "UnknownName" = some (.ref (G.xcl 3))
  BI_WritError : BaseInit G.K (G.xcl 0)
  EX : ∀ k, ExcC G.K (G.xcl k)
  XF : ∀ k, XfC G.K (G.xcl k)
  ki_BadText : ∀ k b, tx_BadText k = some b → PySem.W.kitOne G.K (.ref (G.xcl k)) (cx_BadText G) = some b
  ki_NotAllowed : ∀ k b, tx_NotAllowed k = some b → PySem.W.kitOne G.K (.ref (G.xcl k)) (cx_NotAllowed G) = some b
  ki_UnknownName : ∀ k b, tx_UnknownName k = some b → PySem.W.kitOne G.K (.ref (G.xcl k)) (cx_UnknownName G) = some b
  em_WritError : ∀ k b, tx_WritError k = some b → PySem.W.exmOne G.K (.ref (G.xcl k)) (cx_WritError G) = some b
section
variable {P : Program} {w : World} {G : PC} {mg : Str → Option Value} {base : Heap} {fa : Nat → Addr} {fd : Nat → FuncData}
def pars : Nat → List Str
  | 0 => ["self", "at"]
  | 1 => ["amount", "weights"]
  | 2 => ["weights"]
  | 3 => ["amount", "weights"]
  | 4 => ["x"]
  | 5 => ["script", "place", "many"]
  | 6 => ["amount", "weights"]
  | 7 => ["row"]
  | 8 => ["amount", "weights"]
  | 9 => ["script"]
  | _ => []
abbrev Good (P : Program) (w : World) (G : PC) (mg : Str → Option Value) (base : Heap) (fa : Nat → Addr) (fd : Nat → FuncData) (n k : Nat) : Prop := FnOk P w G.K mg base (L2N.CX P w) n (fa k) (fd k) (pars k) (spF G (pars k).length (run n k))
abbrev hotL : List Nat := []
/-- BadText -/
theorem gx1 (T : Txt G w mg fa fd) (m : Nat) : FnOk P w G.K mg base (L2N.CX P w) (m + 1) (fa 0) (fd 0) (["self", "at"] : List Str) (spXI G.K "at") := initN (u := "the words are no expression from word ") (v := " on") T.f0.fn sc0 rfl rfl (by decide +kernel) fun cd B out s H E => pss_cons (ps_expr (pe_winit rfl T.gx_WritError T.BI_WritError (pa_cons (pv 0) (pa_cons (pe_joined (.cons pe_str (.cons (pe_fmt (pv 1)) (.cons pe_str .nil)))) pa_nil)))) (pss_one (ps_ost (pv 0) (pv 1)))
abbrev GoodX (P : Program) (w : World) (G : PC) (mg : Str → Option Value) (base : Heap) (fa : Nat → Addr) (fd : Nat → FuncData) (p : Addr × Obj) (y : Cau) (n k : Nat) : Prop := FnX P w G.K mg base (L2N.CX P w) p n (fa k) (fd k) (pars k) (spF G (pars k).length (runX n y k))
theorem goodX (T : Txt G w mg fa fd) {p : Addr × Obj} {y : Cau} (hy : PinX G p y) : ∀ n k, k ∈ hotL → GoodX P w G mg base fa fd p y n k
  | 0, k, _ => ⟨fun vs H Q E h => spF_len vs H Q E h, fun B out s H args ws us Q E _ _ _ _ _ _ h => by
    obtain ⟨F, A, ρ, as, S, _, _, _, q⟩ := h
    exact q.elim⟩
  | n + 1, k, hk => by
    have IX := goodX T hy n
    exact absurd hk List.not_mem_nil
/-- BadText.__init__ -/
theorem d0 {n : Nat} (T : Txt G w mg fa fd) (IH : ∀ k, k < 10 → Good P w G mg base fa fd n k) (IM : ∀ m, n = m + 1 → ∀ k, k < 10 → Good P w G mg base fa fd m k) (IX : ∀ p y, PinX G p y → ∀ k, k ∈ hotL → GoodX P w G mg base fa fd p y n k) : Good P w G mg base fa fd (n + 1) 0 := by
  show FnOk P w G.K mg base (L2N.CX P w) (n + 1) (fa 0) (fd 0) (["self", "at"] : List Str) (spF G 2 (run (n + 1) 0))
  rw [run0]
  refine fn_ T.f0.fn sc0 rfl rfl fun cdv A outer s H E hr => ?_
  have hu := hr.units
  have hu1 := hu_of hr
  have tk : L2N.Takes (cxOf (L2N.CX P w) P w G.K mg base N0 "BadText.__init__" (defScope s0) (fa 0) cdv A outer s H E) (fun cls d _ H => E cls d H) := L2N.takes_of rfl rfl rfl rfl
  exact (seq_ bad_ (one_ bad_))
/-- share -/
theorem d1 {n : Nat} (T : Txt G w mg fa fd) (IH : ∀ k, k < 10 → Good P w G mg base fa fd n k) (IM : ∀ m, n = m + 1 → ∀ k, k < 10 → Good P w G mg base fa fd m k) (IX : ∀ p y, PinX G p y → ∀ k, k ∈ hotL → GoodX P w G mg base fa fd p y n k) : Good P w G mg base fa fd (n + 1) 1 := by
  show FnOk P w G.K mg base (L2N.CX P w) (n + 1) (fa 1) (fd 1) (["amount", "weights"] : List Str) (spF G 2 (run (n + 1) 1))
  rw [run1]
  refine fn_ T.f1.fn sc1 rfl rfl fun cdv A outer s H E hr => ?_
  have hu := hr.units
  have hu1 := hu_of hr
  have tk : L2N.Takes (cxOf (L2N.CX P w) P w G.K mg base N1 "share" (defScope s1) (fa 1) cdv A outer s H E) (fun cls d _ H => E cls d H) := L2N.takes_of rfl rfl rfl rfl
  exact (seq_ (ex_ (ps_expr (callI_ (pe_callS (IH 2 (by decide)) hr rfl (T.f2).mg (T.f2).kp (T.f2).bi (fun σ => L2N.passAt tk σ) (aC_ (v_ (pv 1)) aN_)))))
    (seq_ (set_ (ps_set (i := 2) sc1.nd rfl (Or.inr rfl) (sum_ rfl (pe_callB (cr_sum rfl) rfl T.n_sum bt_sum (pa_cons (v_ (pv 1)) pa_nil)))))
    (seq_ (setCompO_ (ps_setLc (i := 3) (own := [("weight", 4)]) rfl sc1.nd rfl rfl (sw_true rfl rfl rfl (by decide +kernel)) (iL_ rfl (pi_list (v_ (pv 1)))) (blkOk_by (N := N1) (sc := defScope s1) (by decide +kernel)) (fun _ _ _ _ _ => (gNw_ (by decide) (pg_name (i := 4) sc1.nd rfl (Or.inl rfl)))) (fun _ _ _ _ _ => tsN_) (fun _ _ _ _ _ => (fdivw_ (mulG_ (v_ (pv 0)) (v_ (pv 4))) (v_ (pv 2))))))
    (seq_ (set_ (ps_set (i := 5) sc1.nd rfl (Or.inl rfl) (sub_ (v_ (pv 0)) (sum_ rfl (pe_callB (cr_sum rfl) rfl T.n_sum bt_sum (pa_cons (v_ (pv 3)) pa_nil))))))
    (seq_ (for_ (ps_for (passes_of rfl) rfl (iL_ rfl (pi_list (sl_ rfl (callI_ (pe_callS (IH 3 (by decide)) hr rfl (T.f3).mg (T.f3).kp (T.f3).bi (fun σ => L2N.passAt tk σ) (aC_ (v_ (pv 0)) (aC_ (v_ (pv 1)) aN_)))) oN_ (oE_ (v_ (pv 5)))))) (gN_ (pg_name (i := 6) sc1.nd rfl (Or.inl rfl))) (one_ (augl_ rfl (ps_augS (v_ (pv 3)) (v_ (pv 6)) get_list pe_int ip_add set_list)))))
    (one_ (rt_ (ps_ret (v_ (pv 3))))))))))
/-- check_weights -/
theorem d2 {n : Nat} (T : Txt G w mg fa fd) (IH : ∀ k, k < 10 → Good P w G mg base fa fd n k) (IM : ∀ m, n = m + 1 → ∀ k, k < 10 → Good P w G mg base fa fd m k) (IX : ∀ p y, PinX G p y → ∀ k, k ∈ hotL → GoodX P w G mg base fa fd p y n k) : Good P w G mg base fa fd (n + 1) 2 := by
  show FnOk P w G.K mg base (L2N.CX P w) (n + 1) (fa 2) (fd 2) (["weights"] : List Str) (spF G 1 (run (n + 1) 2))
  rw [run2]
  refine fn_ T.f2.fn sc2 rfl rfl fun cdv A outer s H E hr => ?_
  have hu := hr.units
  have hu1 := hu_of hr
  have tk : L2N.Takes (cxOf (L2N.CX P w) P w G.K mg base N2 "check_weights" (defScope s2) (fa 2) cdv A outer s H E) (fun cls d _ H => E cls d H) := L2N.takes_of rfl rfl rfl rfl
  exact (seq_ (sif_ (tnot_ (ttru_ rfl (v_ (pv 0)))) (one_ (raiseP T.X2 rfl rfl tk rfl T.gx_NotAllowed)) nil_)
    (seq_ (sif_ (tlt_ (minL_ rfl (pe_callB (cr_min rfl) rfl T.n_min bt_min (pa_cons (v_ (pv 0)) pa_nil))) ci_) (one_ (raiseP T.X2 rfl rfl tk rfl T.gx_NotAllowed)) nil_)
    (one_ (sif_ (teq_ rfl hu (maxL_ rfl (pe_callB (cr_max rfl) rfl T.n_max bt_max (pa_cons (v_ (pv 0)) pa_nil))) ci_) (one_ (raiseP T.X2 rfl rfl tk rfl T.gx_NotAllowed)) nil_))))
/-- by_remainder -/
theorem d3 {n : Nat} (T : Txt G w mg fa fd) (IH : ∀ k, k < 10 → Good P w G mg base fa fd n k) (IM : ∀ m, n = m + 1 → ∀ k, k < 10 → Good P w G mg base fa fd m k) (IX : ∀ p y, PinX G p y → ∀ k, k ∈ hotL → GoodX P w G mg base fa fd p y n k) : Good P w G mg base fa fd (n + 1) 3 := by
  show FnOk P w G.K mg base (L2N.CX P w) (n + 1) (fa 3) (fd 3) (["amount", "weights"] : List Str) (spF G 2 (run (n + 1) 3))
  rw [run3]
  refine fn_ T.f3.fn sc3 rfl rfl fun cdv A outer s H E hr => ?_
  have hu := hr.units
  have hu1 := hu_of hr
  have tk : L2N.Takes (cxOf (L2N.CX P w) P w G.K mg base N3 "by_remainder" (defScope s3) (fa 3) cdv A outer s H E) (fun cls d _ H => E cls d H) := L2N.takes_of rfl rfl rfl rfl
  exact (seq_ (set_ (ps_set (i := 2) sc3.nd rfl (Or.inr rfl) (sum_ rfl (pe_callB (cr_sum rfl) rfl T.n_sum bt_sum (pa_cons (v_ (pv 1)) pa_nil)))))
    (seq_ (setComp_ (ps_setLc (i := 3) (own := [("at", 4), ("weight", 5)]) rfl sc3.nd rfl rfl (sw_true rfl rfl rfl (by decide +kernel)) (iEn_ rfl (pi_enum rfl T.n_enumerate (pa_cons (v_ (pv 1)) pa_nil))) (blkOk_by (N := N3) (sc := defScope s3) (by decide +kernel)) (fun _ _ _ _ _ => (gTw_ rfl (pg_tup rfl (gsCw_ (pgs_cons (gNw_ (by decide) (pg_name (i := 4) sc3.nd rfl (Or.inl rfl))) (gsCw_ (pgs_cons (gNw_ (by decide) (pg_name (i := 5) sc3.nd rfl (Or.inl rfl))) gsNw_))))))) (fun _ _ _ _ _ => tsN_) (fun _ _ _ _ _ => (tup_ (aC_ (neg_ (mod_ (mulG_ (v_ (pv 0)) (v_ (pv 5))) (v_ (pv 2)))) (aC_ (v_ (pv 4)) aN_))))))
    (one_ (rt_ (ps_ret (comp_ (pe_lc (own := [("_", 6), ("at", 4)]) rfl sc3.nd (iL_ rfl (pi_list (sorted_ rfl (pe_callB cr_sortedPK rfl T.n_sorted bt_sorted (pa_cons (v_ (pv 3)) pa_nil))))) (blkOk_by (N := N3) (sc := defScope s3) (by decide +kernel)) (fun _ _ _ _ _ => (gTw_ rfl (pg_tup rfl (gsCw_ (pgs_cons (gNw_ (by decide) (pg_name (i := 6) sc3.nd rfl (Or.inl rfl))) (gsCw_ (pgs_cons (gNw_ (by decide) (pg_name (i := 4) sc3.nd rfl (Or.inl rfl))) gsNw_))))))) (fun _ _ _ _ _ => tsN_) (fun _ _ _ _ _ => (v_ (pv 4))))))))))
/-- _law_is_integer -/
theorem d4 {n : Nat} (T : Txt G w mg fa fd) (IH : ∀ k, k < 10 → Good P w G mg base fa fd n k) (IM : ∀ m, n = m + 1 → ∀ k, k < 10 → Good P w G mg base fa fd m k) (IX : ∀ p y, PinX G p y → ∀ k, k ∈ hotL → GoodX P w G mg base fa fd p y n k) : Good P w G mg base fa fd (n + 1) 4 := by
  show FnOk P w G.K mg base (L2N.CX P w) (n + 1) (fa 4) (fd 4) (["x"] : List Str) (spF G 1 (run (n + 1) 4))
  rw [run4]
  refine fn_ T.f4.fn sc4 rfl rfl fun cdv A outer s H E hr => ?_
  have hu := hr.units
  have hu1 := hu_of hr
  have tk : L2N.Takes (cxOf (L2N.CX P w) P w G.K mg base N4 "_law_is_integer" (defScope s4) (fa 4) cdv A outer s H E) (fun cls d _ H => E cls d H) := L2N.takes_of rfl rfl rfl rfl
  exact (one_ (rt_ (ps_ret (and_ (is_ (t := .int) rfl (pe_callB call_isi rfl T.n_isinstance bt_isinstance (pa_cons (v_ (pv 0)) (pa_cons (pe_bltn (v := .ty "int") rfl T.n_int bt_int rfl) pa_nil)))) (and1_ (not_ (is_ (t := .bool) rfl (pe_callB call_isi rfl T.n_isinstance bt_isinstance (pa_cons (v_ (pv 0)) (pa_cons (pe_bltn (v := .ty "bool") rfl T.n_bool bt_bool rfl) pa_nil))))))))))
/-- _law_row -/
theorem d5 {n : Nat} (T : Txt G w mg fa fd) (IH : ∀ k, k < 10 → Good P w G mg base fa fd n k) (IM : ∀ m, n = m + 1 → ∀ k, k < 10 → Good P w G mg base fa fd m k) (IX : ∀ p y, PinX G p y → ∀ k, k ∈ hotL → GoodX P w G mg base fa fd p y n k) : Good P w G mg base fa fd (n + 1) 5 := by
  show FnOk P w G.K mg base (L2N.CX P w) (n + 1) (fa 5) (fd 5) (["script", "place", "many"] : List Str) (spF G 3 (run (n + 1) 5))
  rw [run5]
  refine fn_ T.f5.fn sc5 rfl rfl fun cdv A outer s H E hr => ?_
  have hu := hr.units
  have hu1 := hu_of hr
  have tk : L2N.Takes (cxOf (L2N.CX P w) P w G.K mg base N5 "_law_row" (defScope s5) (fa 5) cdv A outer s H E) (fun cls d _ H => E cls d H) := L2N.takes_of rfl rfl rfl rfl
  exact (seq_ (set_ (ps_set (i := 3) sc5.nd rfl (Or.inl rfl) (add_ rfl (mulG_ ci_ (v_ (pv 1))) ci_)))
    (seq_ (sif_ (tlt_ (v_ (pv 1)) (len_ rfl (pe_callB call_lenD' rfl T.n_len bt_len (pa_cons (v_ (pv 0)) pa_nil)))) (one_ (set_ (ps_set (i := 3) sc5.nd rfl (Or.inl rfl) (idx_ rfl (v_ (pv 0)) (v_ (pv 1)) (fun _ _ => rfl))))) nil_)
    (seq_ (set_ (ps_set (i := 4) sc5.nd rfl (Or.inl rfl) (sub_ (v_ (pv 3)) (pow_ ci_ ci_))))
    (seq_ (set_ (ps_set (i := 5) sc5.nd rfl (Or.inl rfl) (lstO_ aN_)))
    (seq_ (for_ (ps_for (passes_of rfl) rfl (iR1_ (pi_range1 rfl T.n_range (pa_cons (v_ (pv 2)) pa_nil))) (gN_ (pg_name (i := 6) sc5.nd rfl (Or.inl rfl))) (one_ (sif_ (tgt_ (v_ (pv 4)) ci_) (seq_ (ex_ (ps_expr (append_ rfl (pe_bm PySem.F.plainAttrs_list PySem.F.slot_list_append PySem.F.type_list_append mt_append (v_ (pv 5)) (pa_cons (mod_ (int_ (pe_callTy call_intD rfl T.n_int bt_int (pa_cons (v_ (pv 4)) pa_nil))) ci_) pa_nil)))))
    (one_ (set_ (ps_set (i := 4) sc5.nd rfl (Or.inl rfl) (fdiv_ (v_ (pv 4)) ci_))))) (seq_ (set_ (ps_set (i := 7) sc5.nd rfl (Or.inl rfl) (mod_ (int_ (pe_callTy call_intD rfl T.n_int bt_int (pa_cons (add_ rfl (add_ rfl (mulG_ (v_ (pv 3)) ci_) (mulG_ (v_ (pv 6)) ci_)) ci_) pa_nil))) ci_)))
    (seq_ (set_ (ps_set (i := 7) sc5.nd rfl (Or.inl rfl) (mod_ (int_ (pe_callTy call_intD rfl T.n_int bt_int (pa_cons (add_ rfl (add_ rfl (mulG_ (v_ (pv 7)) (v_ (pv 7))) (mulG_ (v_ (pv 7)) ci_)) (mulG_ (v_ (pv 6)) ci_)) pa_nil))) ci_)))
    (one_ (ex_ (ps_expr (append_ rfl (pe_bm PySem.F.plainAttrs_list PySem.F.slot_list_append PySem.F.type_list_append mt_append (v_ (pv 5)) (pa_cons (mod_ (fdiv_ (v_ (pv 7)) ci_) ci_) pa_nil))))))))))))
    (one_ (rt_ (ps_ret (v_ (pv 5))))))))))
/-- _law_refused -/
theorem d6 {n : Nat} (T : Txt G w mg fa fd) (IH : ∀ k, k < 10 → Good P w G mg base fa fd n k) (IM : ∀ m, n = m + 1 → ∀ k, k < 10 → Good P w G mg base fa fd m k) (IX : ∀ p y, PinX G p y → ∀ k, k ∈ hotL → GoodX P w G mg base fa fd p y n k) : Good P w G mg base fa fd (n + 1) 6 := by
  show FnOk P w G.K mg base (L2N.CX P w) (n + 1) (fa 6) (fd 6) (["amount", "weights"] : List Str) (spF G 2 (run (n + 1) 6))
  rw [run6]
  refine fn_ T.f6.fn sc6 rfl rfl fun cdv A outer s H E hr => ?_
  have hu := hr.units
  have hu1 := hu_of hr
  have tk : L2N.Takes (cxOf (L2N.CX P w) P w G.K mg base N6 "_law_refused" (defScope s6) (fa 6) cdv A outer s H E) (fun cls d _ H => E cls d H) := L2N.takes_of rfl rfl rfl rfl
  exact (seq_ (tryN_ T.xfl (.cons (C := cx_WritError G) T.em_WritError .nil) (ps_tryN (tb := fun W => tS G W _) rfl rfl sc6.nd tk (fun W1 pn1 xe1 tk1 po1 => (one_ (ex_ (ps_expr (callI_ (pe_callS (IH 1 (by decide)) hr rfl (T.f1).mg (T.f1).kp (T.f1).bi (fun σ => L2N.passAt tk1 σ) (aC_ (v_ (pv 0)) (aC_ (v_ (pv 1)) aN_)))))))) (.as rfl rfl ⟨rfl, by decide, .inl T.gx_WritError⟩ (fun ax ox cx dx px hz hf => tsY_ fun kx ex => by subst ex; have hy : PinX G (ax, ox) ⟨ax, dx, kx⟩ := ⟨rfl, hz, hf⟩; exact (one_ (rt_ (ps_ret (and_ (isY_ (c := .ref (G.xcl 2)) (cv := cx_NotAllowed G) rfl (fun _ z => z) T.ki_NotAllowed (pe_callB (call_isY rfl (T.EX _) ((hotS hz hf)).pn hy) rfl T.n_isinstance bt_isinstance (pa_cons (v_ (pv 2)) (pa_cons (pe_glob (v := .ref _) rfl T.gx_NotAllowed rfl) pa_nil)))) (and_ (not_ (isY_ (c := .ref (G.xcl 1)) (cv := cx_BadText G) rfl (fun _ z => z) T.ki_BadText (pe_callB (call_isY rfl (T.EX _) ((hotS hz hf)).pn hy) rfl T.n_isinstance bt_isinstance (pa_cons (v_ (pv 2)) (pa_cons (pe_glob (v := .ref _) rfl T.gx_BadText rfl) pa_nil))))) (and1_ (not_ (isY_ (c := .ref (G.xcl 3)) (cv := cx_UnknownName G) rfl (fun _ z => z) T.ki_UnknownName (pe_callB (call_isY rfl (T.EX _) ((hotS hz hf)).pn hy) rfl T.n_isinstance bt_isinstance (pa_cons (v_ (pv 2)) (pa_cons (pe_glob (v := .ref _) rfl T.gx_UnknownName rfl) pa_nil)))))))))))) .nil)))
    (one_ (rt_ (ps_ret cb_))))
/-- _law_weights -/
theorem d7 {n : Nat} (T : Txt G w mg fa fd) (IH : ∀ k, k < 10 → Good P w G mg base fa fd n k) (IM : ∀ m, n = m + 1 → ∀ k, k < 10 → Good P w G mg base fa fd m k) (IX : ∀ p y, PinX G p y → ∀ k, k ∈ hotL → GoodX P w G mg base fa fd p y n k) : Good P w G mg base fa fd (n + 1) 7 := by
  show FnOk P w G.K mg base (L2N.CX P w) (n + 1) (fa 7) (fd 7) (["row"] : List Str) (spF G 1 (run (n + 1) 7))
  rw [run7]
  refine fn_ T.f7.fn sc7 rfl rfl fun cdv A outer s H E hr => ?_
  have hu := hr.units
  have hu1 := hu_of hr
  have tk : L2N.Takes (cxOf (L2N.CX P w) P w G.K mg base N7 "_law_weights" (defScope s7) (fa 7) cdv A outer s H E) (fun cls d _ H => E cls d H) := L2N.takes_of rfl rfl rfl rfl
  exact (seq_ (set_ (ps_set (i := 1) sc7.nd rfl (Or.inl rfl) (lstO_ aN_)))
    (seq_ (for_ (ps_for (passes_of rfl) rfl (iR1_ (pi_range1 rfl T.n_range (pa_cons (add_ rfl ci_ (mod_ (int_ (pe_callTy call_intD rfl T.n_int bt_int (pa_cons (idx_ rfl (v_ (pv 0)) ci_ (fun _ _ => rfl)) pa_nil))) ci_)) pa_nil))) (gN_ (pg_name (i := 2) sc7.nd rfl (Or.inl rfl))) (seq_ (set_ (ps_set (i := 3) sc7.nd rfl (Or.inl rfl) (mod_ (int_ (pe_callTy call_intD rfl T.n_int bt_int (pa_cons (idx_ rfl (v_ (pv 0)) (add_ rfl ci_ (v_ (pv 2))) (fun _ _ => rfl)) pa_nil))) ci_)))
    (seq_ (sif_ (teq_ rfl hu (mod_ (int_ (pe_callTy call_intD rfl T.n_int bt_int (pa_cons (idx_ rfl (v_ (pv 0)) ci_ (fun _ _ => rfl)) pa_nil))) ci_) ci_) (one_ (set_ (ps_set (i := 3) sc7.nd rfl (Or.inl rfl) (add_ rfl (mulG_ (idx_ rfl (v_ (pv 0)) (add_ rfl ci_ (v_ (pv 2))) (fun _ _ => rfl)) ci_) (idx_ rfl (v_ (pv 0)) (add_ rfl ci_ (v_ (pv 2))) (fun _ _ => rfl)))))) nil_)
    (seq_ (sif_ (teq_ rfl hu (mod_ (int_ (pe_callTy call_intD rfl T.n_int bt_int (pa_cons (idx_ rfl (v_ (pv 0)) (add_ rfl ci_ (v_ (pv 2))) (fun _ _ => rfl)) pa_nil))) ci_) ci_) (one_ (set_ (ps_set (i := 3) sc7.nd rfl (Or.inl rfl) ci_))) nil_)
    (one_ (ex_ (ps_expr (append_ rfl (pe_bm PySem.F.plainAttrs_list PySem.F.slot_list_append PySem.F.type_list_append mt_append (v_ (pv 1)) (pa_cons (v_ (pv 3)) pa_nil)))))))))))
    (seq_ (sif_ (teq_ rfl hu (maxL_ rfl (pe_callB (cr_max rfl) rfl T.n_max bt_max (pa_cons (v_ (pv 1)) pa_nil))) ci_) (one_ (putl_ (ps_asg (add_ rfl ci_ (idx_ rfl (v_ (pv 0)) ci_ (fun _ _ => rfl))) (pg_sub (v_ (pv 1)) (mod_ (int_ (pe_callTy call_intD rfl T.n_int bt_int (pa_cons (idx_ rfl (v_ (pv 0)) ci_ (fun _ _ => rfl)) pa_nil))) (len_ rfl (pe_callB call_lenD' rfl T.n_len bt_len (pa_cons (v_ (pv 1)) pa_nil)))) set_list)))) nil_)
    (one_ (rt_ (ps_ret (v_ (pv 1))))))))
/-- _law_parts -/
theorem d8 {n : Nat} (T : Txt G w mg fa fd) (IH : ∀ k, k < 10 → Good P w G mg base fa fd n k) (IM : ∀ m, n = m + 1 → ∀ k, k < 10 → Good P w G mg base fa fd m k) (IX : ∀ p y, PinX G p y → ∀ k, k ∈ hotL → GoodX P w G mg base fa fd p y n k) : Good P w G mg base fa fd (n + 1) 8 := by
  show FnOk P w G.K mg base (L2N.CX P w) (n + 1) (fa 8) (fd 8) (["amount", "weights"] : List Str) (spF G 2 (run (n + 1) 8))
  rw [run8]
  refine fn_ T.f8.fn sc8 rfl rfl fun cdv A outer s H E hr => ?_
  have hu := hr.units
  have hu1 := hu_of hr
  have tk : L2N.Takes (cxOf (L2N.CX P w) P w G.K mg base N8 "_law_parts" (defScope s8) (fa 8) cdv A outer s H E) (fun cls d _ H => E cls d H) := L2N.takes_of rfl rfl rfl rfl
  exact (seq_ (set_ (ps_set (i := 2) sc8.nd rfl (Or.inl rfl) (sum_ rfl (pe_callB (cr_sum rfl) rfl T.n_sum bt_sum (pa_cons (v_ (pv 1)) pa_nil)))))
    (seq_ (set_ (ps_set (i := 3) sc8.nd rfl (Or.inl rfl) (lstO_ aN_)))
    (seq_ (set_ (ps_set (i := 4) sc8.nd rfl (Or.inl rfl) (lstO_ aN_)))
    (seq_ (for_ (ps_for (passes_of rfl) rfl (iL_ rfl (pi_list (v_ (pv 1)))) (gN_ (pg_name (i := 5) sc8.nd rfl (Or.inl rfl))) (seq_ (ex_ (ps_expr (append_ rfl (pe_bm PySem.F.plainAttrs_list PySem.F.slot_list_append PySem.F.type_list_append mt_append (v_ (pv 3)) (pa_cons (fdivw_ (int_ (pe_callTy call_intD rfl T.n_int bt_int (pa_cons (mulG_ (v_ (pv 0)) (v_ (pv 5))) pa_nil))) (v_ (pv 2))) pa_nil)))))
    (one_ (ex_ (ps_expr (append_ rfl (pe_bm PySem.F.plainAttrs_list PySem.F.slot_list_append PySem.F.type_list_append mt_append (v_ (pv 4)) (pa_cons (sub_ (mulG_ (v_ (pv 0)) (v_ (pv 5))) (mulG_ (idx_ rfl (v_ (pv 3)) (neg_ ci_) (fun _ _ => rfl)) (v_ (pv 2)))) pa_nil)))))))))
    (seq_ (for_ (ps_for (passes_of rfl) rfl (iR1_ (pi_range1 rfl T.n_range (pa_cons (sub_ (v_ (pv 0)) (sum_ rfl (pe_callB (cr_sum rfl) rfl T.n_sum bt_sum (pa_cons (v_ (pv 3)) pa_nil)))) pa_nil))) (gN_ (pg_name (i := 6) sc8.nd rfl (Or.inl rfl))) (seq_ (set_ (ps_set (i := 7) sc8.nd rfl (Or.inl rfl) (index_ rfl (pe_bm PySem.F.plainAttrs_list PySem.F.slot_list_index PySem.F.type_list_index mt_index (v_ (pv 4)) (pa_cons (maxL_ rfl (pe_callB (cr_max rfl) rfl T.n_max bt_max (pa_cons (v_ (pv 4)) pa_nil))) pa_nil)))))
    (seq_ (putl_ (ps_asg (add_ rfl (idx_ rfl (v_ (pv 3)) (v_ (pv 7)) (fun _ _ => rfl)) ci_) (pg_sub (v_ (pv 3)) (v_ (pv 7)) set_list)))
    (one_ (putl_ (ps_asg (neg_ ci_) (pg_sub (v_ (pv 4)) (v_ (pv 7)) set_list))))))))
    (one_ (rt_ (ps_ret (v_ (pv 3))))))))))
/-- law -/
theorem d9 {n : Nat} (T : Txt G w mg fa fd) (IH : ∀ k, k < 10 → Good P w G mg base fa fd n k) (IM : ∀ m, n = m + 1 → ∀ k, k < 10 → Good P w G mg base fa fd m k) (IX : ∀ p y, PinX G p y → ∀ k, k ∈ hotL → GoodX P w G mg base fa fd p y n k) : Good P w G mg base fa fd (n + 1) 9 := by
  show FnOk P w G.K mg base (L2N.CX P w) (n + 1) (fa 9) (fd 9) (["script"] : List Str) (spF G 1 (run (n + 1) 9))
  rw [run9]
  refine fn_ T.f9.fn sc9 rfl rfl fun cdv A outer s H E hr => ?_
  have hu := hr.units
  have hu1 := hu_of hr
  have tk : L2N.Takes (cxOf (L2N.CX P w) P w G.K mg base N9 "law" (defScope s9) (fa 9) cdv A outer s H E) (fun cls d _ H => E cls d H) := L2N.takes_of rfl rfl rfl rfl
  exact (seq_ (set_ (ps_set (i := 1) sc9.nd rfl (Or.inl rfl) (callI_ (pe_callS (IH 5 (by decide)) hr rfl (T.f5).mg (T.f5).kp (T.f5).bi (fun σ => L2N.passAt tk σ) (aC_ (v_ (pv 0)) (aC_ ci_ (aC_ ci_ aN_)))))))
    (seq_ (set_ (ps_set (i := 2) sc9.nd rfl (Or.inl rfl) (callI_ (pe_callS (IH 7 (by decide)) hr rfl (T.f7).mg (T.f7).kp (T.f7).bi (fun σ => L2N.passAt tk σ) (aC_ (v_ (pv 1)) aN_)))))
    (seq_ (set_ (ps_set (i := 3) sc9.nd rfl (Or.inl rfl) (mulG_ (add_ rfl (add_ rfl (mulG_ (idx_ rfl (v_ (pv 1)) ci_ (fun _ _ => rfl)) ci_) (mulG_ (idx_ rfl (v_ (pv 1)) ci_ (fun _ _ => rfl)) ci_)) (idx_ rfl (v_ (pv 1)) ci_ (fun _ _ => rfl))) (sub_ ci_ (mulG_ ci_ (mod_ (int_ (pe_callTy call_intD rfl T.n_int bt_int (pa_cons (idx_ rfl (v_ (pv 1)) ci_ (fun _ _ => rfl)) pa_nil))) ci_))))))
    (seq_ (sif_ (teq_ rfl hu (mod_ (int_ (pe_callTy call_intD rfl T.n_int bt_int (pa_cons (idx_ rfl (v_ (pv 1)) ci_ (fun _ _ => rfl)) pa_nil))) ci_) ci_) (one_ (set_ (ps_set (i := 3) sc9.nd rfl (Or.inl rfl) (sub_ (mod_ (int_ (pe_callTy call_intD rfl T.n_int bt_int (pa_cons (idx_ rfl (v_ (pv 1)) ci_ (fun _ _ => rfl)) pa_nil))) ci_) ci_)))) nil_)
    (seq_ (set_ (ps_set (i := 4) sc9.nd rfl (Or.inl rfl) (list_ rfl (pe_callTy call_list_of rfl T.n_list bt_list (pa_cons (v_ (pv 2)) pa_nil)))))
    (seq_ (set_ (ps_set (i := 5) sc9.nd rfl (Or.inl rfl) (callI_ (pe_callS (IH 1 (by decide)) hr rfl (T.f1).mg (T.f1).kp (T.f1).bi (fun σ => L2N.passAt tk σ) (aC_ (v_ (pv 3)) (aC_ (v_ (pv 4)) aN_))))))
    (seq_ (sif_ (PW.pt (wor_ (tnot_ (tval_ (is_ (t := .list) rfl (pe_callB call_isi rfl T.n_isinstance bt_isinstance (pa_cons (v_ (pv 5)) (pa_cons (pe_bltn (v := .ty "list") rfl T.n_list bt_list rfl) pa_nil)))))) (wor_ (tne_ rfl hu (len_ rfl (pe_callB call_lenD' rfl T.n_len bt_len (pa_cons (v_ (pv 5)) pa_nil))) (len_ rfl (pe_callB call_lenD' rfl T.n_len bt_len (pa_cons (v_ (pv 2)) pa_nil)))) (wor1_ (tne_ rfl hu (v_ (pv 4)) (v_ (pv 2))))))) (one_ (rt_ (ps_ret cb_))) nil_)
    (seq_ (set_ (ps_set (i := 6) sc9.nd rfl (Or.inl rfl) (sum_ rfl (pe_callB (cr_sum rfl) rfl T.n_sum bt_sum (pa_cons (v_ (pv 2)) pa_nil)))))
    (seq_ (for_ (ps_for (passes_of rfl) rfl (iR1_ (pi_range1 rfl T.n_range (pa_cons (len_ rfl (pe_callB call_lenD' rfl T.n_len bt_len (pa_cons (v_ (pv 2)) pa_nil))) pa_nil))) (gN_ (pg_name (i := 7) sc9.nd rfl (Or.inl rfl))) (seq_ (sif_ (PW.pt (wor_ (tnot_ (tval_ (callI_ (pe_callS (IH 4 (by decide)) hr rfl (T.f4).mg (T.f4).kp (T.f4).bi (fun σ => L2N.passAt tk σ) (aC_ (idx_ rfl (v_ (pv 5)) (v_ (pv 7)) (fun _ _ => rfl)) aN_))))) (wor1_ (tge_ (abs_ (pe_callB call_abs rfl T.n_abs bt_abs (pa_cons (sub_ (mulG_ (idx_ rfl (v_ (pv 5)) (v_ (pv 7)) (fun _ _ => rfl)) (v_ (pv 6))) (mulG_ (v_ (pv 3)) (idx_ rfl (v_ (pv 2)) (v_ (pv 7)) (fun _ _ => rfl)))) pa_nil))) (v_ (pv 6)))))) (one_ (rt_ (ps_ret cb_))) nil_)
    (one_ (sif_ (PW.pt (wand_ (teq_ rfl hu (idx_ rfl (v_ (pv 2)) (v_ (pv 7)) (fun _ _ => rfl)) ci_) (wand1_ (tne_ rfl hu (idx_ rfl (v_ (pv 5)) (v_ (pv 7)) (fun _ _ => rfl)) ci_)))) (one_ (rt_ (ps_ret cb_))) nil_)))))
    (seq_ (sif_ (PW.pt (wor_ (tne_ rfl hu (sum_ rfl (pe_callB (cr_sum rfl) rfl T.n_sum bt_sum (pa_cons (v_ (pv 5)) pa_nil))) (v_ (pv 3))) (wor1_ (tne_ rfl hu (v_ (pv 5)) (callI_ (pe_callS (IH 8 (by decide)) hr rfl (T.f8).mg (T.f8).kp (T.f8).bi (fun σ => L2N.passAt tk σ) (aC_ (v_ (pv 3)) (aC_ (v_ (pv 2)) aN_)))))))) (one_ (rt_ (ps_ret cb_))) nil_)
    (seq_ (set_ (ps_set (i := 8) sc9.nd rfl (Or.inl rfl) (mod_ (int_ (pe_callTy call_intD rfl T.n_int bt_int (pa_cons (idx_ rfl (v_ (pv 1)) ci_ (fun _ _ => rfl)) pa_nil))) (len_ rfl (pe_callB call_lenD' rfl T.n_len bt_len (pa_cons (v_ (pv 2)) pa_nil))))))
    (seq_ (set_ (ps_set (i := 9) sc9.nd rfl (Or.inl rfl) (add_ rfl (add_ rfl (sl_ rfl (v_ (pv 2)) oN_ (oE_ (v_ (pv 8)))) (lst_ (aC_ (sub_ (neg_ ci_) (mod_ (int_ (pe_callTy call_intD rfl T.n_int bt_int (pa_cons (idx_ rfl (v_ (pv 1)) ci_ (fun _ _ => rfl)) pa_nil))) ci_)) aN_))) (sl_ rfl (v_ (pv 2)) (oE_ (add_ rfl (v_ (pv 8)) ci_)) oN_))))
    (seq_ (for_ (ps_for (passes_of rfl) rfl (iL_ rfl (pi_list (lst_ (aC_ (lst_ aN_) (aC_ (lst_ (aC_ ci_ (aC_ ci_ aN_))) (aC_ (lst_ (aC_ ci_ (aC_ (neg_ ci_) aN_))) (aC_ (lst_ (aC_ (neg_ ci_) (aC_ ci_ aN_))) (aC_ (lst_ (aC_ (neg_ ci_) (aC_ ci_ aN_))) (aC_ (lst_ (aC_ ci_ aN_)) (aC_ (v_ (pv 9)) (aC_ (add_ rfl (v_ (pv 9)) (lst_ (aC_ ci_ aN_))) aN_))))))))))) (gN_ (pg_name (i := 10) sc9.nd rfl (Or.inl rfl))) (one_ (sif_ (tnot_ (tval_ (callI_ (pe_callS (IH 6 (by decide)) hr rfl (T.f6).mg (T.f6).kp (T.f6).bi (fun σ => L2N.passAt tk σ) (aC_ (v_ (pv 3)) (aC_ (v_ (pv 10)) aN_)))))) (one_ (rt_ (ps_ret cb_))) nil_))))
    (one_ (rt_ (ps_ret cb_))))))))))))))))
theorem step {n : Nat} (T : Txt G w mg fa fd) (IH : ∀ k, k < 10 → Good P w G mg base fa fd n k) (IM : ∀ m, n = m + 1 → ∀ k, k < 10 → Good P w G mg base fa fd m k) (IX : ∀ p y, PinX G p y → ∀ k, k ∈ hotL → GoodX P w G mg base fa fd p y n k) : ∀ k, k < 10 → Good P w G mg base fa fd (n + 1) k := by
  intro k hk
  match k, hk with
  | 0, _ => exact d0 T IH IM IX
  | 1, _ => exact d1 T IH IM IX
  | 2, _ => exact d2 T IH IM IX
  | 3, _ => exact d3 T IH IM IX
  | 4, _ => exact d4 T IH IM IX
  | 5, _ => exact d5 T IH IM IX
  | 6, _ => exact d6 T IH IM IX
  | 7, _ => exact d7 T IH IM IX
  | 8, _ => exact d8 T IH IM IX
  | 9, _ => exact d9 T IH IM IX
  | k + 10, hk => exact absurd hk (by omega)
theorem good0 : ∀ k, k < 10 → Good P w G mg base fa fd 0 k := fun k _ => ⟨fun vs H Q E h => spF_len vs H Q E h, fun A outer s H args us vs Q E _ _ _ _ h => by
    obtain ⟨F, A, ρ, as, S, _, _, _, q⟩ := h
    exact q.elim⟩
theorem good (T : Txt G w mg fa fd) : ∀ n k, k < 10 → Good P w G mg base fa fd n k
  | 0 => good0
  | 1 => step T good0 (fun m e => absurd e (by omega)) fun p y hy => goodX T hy 0
  | n + 2 => step T (good T (n + 1)) (fun m e => by
    cases e
    exact good T n) fun p y hy => goodX T hy (n + 1)
end
end K20
set_option linter.all false
set_option Elab.async false
set_option maxRecDepth 100000
set_option maxHeartbeats 4000000
namespace K20
open PySem L2 PySem.Spec Ev TL
local macro_rules | `(tactic| walk_at "ev") => `(tactic| simp only [bind_ok, bind_ex, bind_bad, to_ok, to_ex, to_bad, nox_ok, sSeq_eq, seq_nx, seq_rt, seq_ex, seq_bk, seq_ct, seq_bad, eV_eq, eC_eq, op1_some, op2_some, eOp1_eq, eOp2_eq, of_some, of_none, top_d, top_ref, topc_lst, topc_lck, toB_bl, bE_eq,
  eIsN_eq, isN_non, isN_int, isN_str, isN_bl, isN_tup, isN_lst, isN_ref, isN_vt, eIdx_eq, idxV_d, idxV_ref, idxV_vt, oN_eq, toI_int, oE_eq, eSl_eq, bNot_eq, bAnd_eq, bOr_eq, andV_bl, eAnd_eq, orV_bl, eOr_eq, notV_bl, eNot_eq, eIf_eq, aN_eq, aC_eq, allD_nil, allD_d, allD_ref, allD_vt, mkTup_some, mkTup_none, eTup_eq,
  mkLst_some, eLst_eq, mkLstO_some, eLstO_eq, isB_some, eIs_eq, isTyV_d, strM_str, eStrM_eq, appC_lst, isLc_lst, isL_ref, appV_ref, eAppend_eq, extC_lst, extV_ref, eExtend_eq, popC_lst, popV_ref, ePop_eq, eCall_eq, isoC_some, eCallI_eq, dviews_nil, dviews_cons, dview_d, dview_ref, dview_vt, isoD_some, isoF_ok, isoF_ex, eCall0_eq, c0_ok,
  newC_some, eCallN_eq, newF_ok, newF_ex, shiftV_d, shiftV_ref, shiftC_lst, gN_eq, gsN_eq, gsC_eq, gTo_some, gT_eq, unp_tup, unp_vt, sNx_eq, sBad_eq, sBk_eq, sCt_eq, sEx_eq, sRt_eq, sRtN_eq, sIf_eq, asgO_some, sAsg_eq, itL_lst, itL_scr, iL_eq, itT_tup, iT_eq, itS_str, iS_eq, sFor_eq,
  forL_nil, loopO_some, loop_nx, loop_ct, loop_bk, loop_rt, loop_ex, eComp_eq, bYes_eq, runFn_eq, retF_nx, retF_rt, retF_ex, bTr_eq, truO_some, truR_some,
  List.length_cons, List.length_nil, List.map_cons, List.map_nil, List.replicate_zero, Nat.reduceAdd, Nat.reduceSub, Nat.zero_add, List.cons_append, List.nil_append, List.getElem?_cons_zero, List.getElem?_cons_succ, List.set_cons_zero, List.set_cons_succ, Option.map_some, Option.map_none, Option.bind_some, Option.bind_none,
  Nat.reduceLeDiff, Nat.reduceEqDiff, if_true, if_false, reduceIte, Bool.not_true, Bool.not_false, List.all_cons, List.all_nil, pureV, Bool.true_and, Bool.true_or, Bool.and_true, Bool.false_eq_true, List.reduceReplicate, reduceCtorEq,
  sRaise_eq, sRaiseI_eq, rz_1, rz_1003, rz_1004, sRaiseP_eq, iEn_eq, itE_lst, iZp_eq, itZ_lst, itZ_tup, sTryN_eq, tryR_nx, tryR_rt, tryR_bk, tryR_ct, tryR_bad, tryR_ex, catchN_eq, catchN_nil, catB_f, catB_t, catB_tn, unset_rt, unset_nx, unset_bk, unset_ct, noex_rt, noex_nx, noex_bk, noex_ct, allR_const, eIsY_eq, isY_at, eAtY_eq, eLstOf_eq, lstOfV_d, lstOfV_ref, lstC_lst, lstC_lck, fldO_some, fldV_ref, eFld_eq, fldC_obj, setO_some, setV_ref, sSetF_eq, setC_obj, isObC_obj, isOb_ref, eMeth_eq, newR_ok, eNew_eq, eDicO_eq, keyV_int, keyV_str, dicV_ref, dicOf_dic, dicOf_ldk, dicWV_ref, dicWOf_dic, ePick_eq, pickV_int, pickO_some, eEqV_eq, eqV_some, dv_d, dv_ref, dv_vt, dvL_nil, dvL_cons, consO_some, mapT_some, sPutL_eq, putLst_eq, putO_some, thenS_nx, sPutL2_eq, put2_eq, eCompO_eq, sAugL_eq, augLst_eq, eIndex_eq, eDicOf_eq, dicCp_ref, dicCpC_dic, dicCpC_ldk, sLkD_eq, refOf_ref, lkDO_some, lkDC_dic, mapD_nx, mapD_rt, mapD_bk, mapD_ct, iDK_eq, itDK_ref, itDKc_ldk, iDI_eq, itDI_ref, itDIc_ldk, kvD_nil, sLkL_eq, lkLO_some, refOf_d, lkLO_none, inDic_some, eInDic_eq, getDic_some, eGetDic_eq, putDic_some, sPutDic_eq, revR_int, shiftV_vt, shiftVs_nil, shiftVs_cons, shiftC_obj, shiftC_dic, bThen_t, bThen_f, opt2_ok, eChain3_eq, eChain_eq, sLk_eq, lkV_ref, lkV_d, itK_lst, itK_scr, lkC_lst, mapS_nx, mapS_ex, mapS_rt, mapS_bk, mapS_ct, itKc_lck, itK_ref, iLk_eq])
/-! ### names and numbers as words -/
abbrev cs (x : Str) : List Nat := tl x
abbrev mk (l : List Nat) : Str := ⟨l.toArray⟩
theorem str_ext {x y : Str} (h : cs x = cs y) : x = y := by
  obtain ⟨⟨l⟩⟩ := x
  obtain ⟨⟨m⟩⟩ := y
  have h : l = m := h
  rw [h]
theorem len_cs (x : Str) : x.length = (cs x).length := by
  obtain ⟨⟨l⟩⟩ := x
  rfl
theorem cs_mk (l : List Nat) : cs (mk l) = l := rfl
def letters : List Nat := cs "abcdefghijklmnopqrstuvwxyz"
def digits : List Nat := cs "0123456789"
def kept : List Str := ["fact", "known", "due", "or", "plus", "minus", "times", "least", "most", "percent", "if", "below", "same", "not", "both", "either"]
def nameOk (w : Str) : Bool := (cs w).length ≤ 12 && !kept.contains w && (match cs w with
  | [] => false
  | c :: _ => decide (c ∈ letters)) && (cs w).all fun c => decide (c ∈ letters) || decide (c ∈ digits)
theorem small {n : Nat} (h : n ≤ 1000000) : n ≤ sizeLine := by
  have := sizeLine_eq
  omega
theorem in_txts (neg : Bool) (w : Str) (l : List Str) : inF neg (.str w) (l.map D.str) = some (.bl (if neg then !l.contains w else l.contains w)) := by
  have h1 : (l.map D.str).all flatD = true := by
    rw [List.all_map]
    exact List.all_eq_true.mpr fun _ _ => rfl
  have h2 : (l.map D.str).any (fun y => eqF y (.str w)) = l.contains w := by
    rw [List.any_map]
    clear h1
    induction l with
    | nil => rfl
    | cons y r ih =>
      rw [List.any_cons, List.contains_cons, ih]
      congr 1
      show (y == w) = (w == y)
      rw [Bool.eq_iff_iff, beq_iff_eq, beq_iff_eq]
      exact ⟨Eq.symm, Eq.symm⟩
  unfold inF
  rw [if_pos ⟨rfl, h1⟩, h2]
theorem idx0 {w : Str} {c : Nat} {r : List Nat} (h : cs w = c :: r) (hw : w.length ≤ sizeLine) : idxD (.str w) (.int 0) = some (.str (mk [c])) := by
  have e : idxD (.str w) (.int 0) = if w.length ≤ sizeLine then (atI (cs w) 0).map fun c => .str ⟨#[c]⟩ else none := rfl
  rw [e, if_pos hw, h]
  simp [atI, ixN]
theorem in_sign (neg : Bool) (c : Nat) (z : Str) : inD neg (.str (mk [c])) (.str z) = some (.bl (if neg then !decide (c ∈ cs z) else decide (c ∈ cs z))) := by
  rfl
theorem bools_map (f : Nat → Bool) (l : List Nat) : bools (l.map fun c => D.bl (f c)) = some (l.map f) := by
  induction l with
  | nil => rfl
  | cons c r ih => simp [bools, ih]
theorem signs_of (w : Str) (c0 : Str) : (cs w).map (fun c => D.str ⟨#[c]⟩) = (cs w).map fun c => D.str (mk [c]) := rfl
theorem eqs_f {a b : Str} (h : decide (a = b) = false) : eqD' (.str a) (.str b) = some (.bl false) := by
  show some (D.bl (decide (a = b))) = _
  rw [h]
theorem eqs_t (a : Str) : eqD' (.str a) (.str a) = some (.bl true) := by
  show some (D.bl (decide (a = a))) = _
  rw [decide_eq_true rfl]
theorem nes_f {a b : Str} (h : decide (a = b) = false) : neD' (.str a) (.str b) = some (.bl true) := by
  show some (D.bl (!decide (a = b))) = _
  rw [h]
  rfl
theorem nes_t (a : Str) : neD' (.str a) (.str a) = some (.bl false) := by
  show some (D.bl (!decide (a = a))) = _
  rw [decide_eq_true rfl]
  rfl
theorem r1_nat {S : Store} {n : Nat} (h : n ≤ 1000000) : itR1 (.d (.int (n : Int))) S = .ok (rng 0 n) S := by
  rw [itR1_int, if_pos ⟨by omega, by omega⟩, Int.toNat_natCast]
theorem r2_small {S : Store} {i j : Int} {n : Nat} (h1 : -1000000 ≤ i) (h2 : j ≤ 1000000) (h3 : j = i + n) : itR2 (.d (.int i)) (.d (.int j)) S = .ok (rng i n) S := by
  rw [itR2_int, if_pos ⟨⟨by omega, by omega⟩, by omega, by omega⟩]
  congr 2
  omega
theorem iR1_nat {L : Ev.Loc} {S S1 : Store} {e : SE} {n : Nat} (h : e L S = .ok (.d (.int (n : Int))) S1) (hn : n ≤ 1000000) : iR1 e L S = .ok (rng 0 n) S1 := by
  rw [iR1_eq, h, bind_ok]
  exact r1_nat hn
theorem iR2_small {L : Ev.Loc} {S S1 S2 : Store} {e e' : SE} {i j : Int} {n : Nat} (h : e L S = .ok (.d (.int i)) S1) (h' : e' L S1 = .ok (.d (.int j)) S2) (h1 : -1000000 ≤ i) (h2 : j ≤ 1000000) (h3 : j = i + n) : iR2 e e' L S = .ok (rng i n) S2 := by
  rw [iR2_eq, h, bind_ok, h', bind_ok]
  exact r2_small h1 h2 h3
/-! ### numbers as words -/
theorem cs_of (s : String) : cs (Str.ofString s) = s.toList.map Char.toNat := by
  rw [PySem.Str.ofString_eq_toList]
def numT (i : Int) : Str := Str.ofString (toString i)
theorem numT_pos (n : Nat) : cs (numT (n : Int)) = numL n := tl_num n
theorem numT_neg (n : Nat) : cs (numT (-((n + 1 : Nat) : Int))) = 45 :: numL (n + 1) := by
  have e : toString (-((n + 1 : Nat) : Int)) = "-" ++ toString ((n + 1 : Nat) : Int) := rfl
  unfold numT
  rw [e, cs_of, String.toList_append, List.map_append, ← cs_of, ← cs_of, show cs (Str.ofString (toString ((n + 1 : Nat) : Int))) = _ from tl_num (n + 1)]
  rfl
theorem numT_cases (i : Int) : (0 ≤ i ∧ cs (numT i) = numL i.toNat) ∨ (i < 0 ∧ cs (numT i) = 45 :: numL i.natAbs) := by
  cases i with
  | ofNat n => exact .inl ⟨Int.natCast_nonneg n, numT_pos n⟩
  | negSucc n => exact .inr ⟨by omega, numT_neg n⟩
def numOk (w : Str) : Bool :=
  let d := match cs w with
    | 45 :: r => r
    | l => l
  !d.isEmpty && decide (d.length ≤ 9) && d.all (fun c => decide (c ∈ digits)) && (decide (w = "0") || !(match d with
    | 48 :: _ => true
    | _ => false))
def unminus (w : Str) : List Nat := match cs w with
  | 45 :: r => r
  | l => l
theorem extract_cs (w : Str) (i j : Nat) : cs (Builtin.Str.strSub w i j) = ((cs w).take j).drop i := by
  unfold Builtin.Str.strSub
  show (w.cps.extract i j).toList = _
  rw [Array.toList_extract, List.extract_eq_take_drop, List.drop_take]
theorem rp_cs (w : Str) : cs (Txt.removeprefix w "-") = unminus w := by
  unfold Txt.removeprefix Txt.affix unminus
  rw [PySem.StrLaws.subAt_eq]
  have hm : (Str.ofString "-").cps.toList = [45] := by decide +kernel
  have hm1 : (Str.ofString "-").length = 1 := by decide +kernel
  rw [hm, hm1, List.drop_zero]
  cases ec : cs w with
  | nil =>
    have ec' : w.cps.toList = [] := ec
    rw [ec']
    have : (([] : List Nat).take 1 == [45]) = false := rfl
    rw [this]
    simp only [Bool.false_eq_true, if_false]
    rw [ec]
  | cons c r =>
    have ec' : w.cps.toList = c :: r := ec
    have hl : w.length = r.length + 1 := by rw [len_cs, ec]; rfl
    rw [ec']
    by_cases h : c = 45
    · subst h
      simp only [List.take_succ_cons, List.take_zero, beq_self_eq_true, if_true]
      rw [if_neg (by rw [beq_iff_eq]; omega), extract_cs, ec, hl]
      simp
    · have h' : (([c] : List Nat) == [45]) = false := by simpa using h
      simp only [List.take_succ_cons, List.take_zero, h', Bool.false_eq_true, if_false]
      rw [ec]
      split
      · rename_i e; injection e with e1 e2; exact (h e1).elim
      · rfl
theorem sw_cs (w : Str) : Txt.startswith w "0" = (match cs w with
    | 48 :: _ => true
    | _ => false) := by
  unfold Txt.startswith
  rw [PySem.StrLaws.subAt_eq]
  have hm : (Str.ofString "0").cps.toList = [48] := by decide +kernel
  have hm1 : (Str.ofString "0").length = 1 := by decide +kernel
  rw [hm, hm1, List.drop_zero]
  cases ec : cs w with
  | nil =>
    have ec' : w.cps.toList = [] := ec
    rw [ec']
    simp
  | cons c r =>
    have ec' : w.cps.toList = c :: r := ec
    have hl : w.length = r.length + 1 := by rw [len_cs, ec]; rfl
    rw [ec', hl]
    by_cases h : c = 48
    · subst h
      simp
    · have h' : (([c] : List Nat) == [48]) = false := by simpa using h
      simp only [List.take_succ_cons, List.take_zero, h', Bool.and_false]
      split
      · rename_i e; injection e with e1 e2; exact (h e1).elim
      · rfl
theorem digit_mem (c : Nat) : c ∈ digits ↔ 48 ≤ c ∧ c ≤ 57 := by
  have e : digits = [48, 49, 50, 51, 52, 53, 54, 55, 56, 57] := by decide +kernel
  rw [e]
  simp only [List.mem_cons, List.not_mem_nil, or_false]
  omega
theorem numL_len9 {n : Nat} (h : n ≤ 999999999) : (numL n).length ≤ 9 := numL_len (by decide) (by omega)
/-- no zero ahead -/
theorem numL_head : ∀ n : Nat, n ≠ 0 → ∃ c r, numL n = c :: r ∧ c ≠ 48 := fun n => by
  induction n using Nat.strongRecOn with
  | _ n ih =>
    intro h
    by_cases h10 : n < 10
    · exact ⟨48 + n, [], numL_lt h10, by omega⟩
    · obtain ⟨c, r, e, q⟩ := ih (n / 10) (by omega) (by omega)
      exact ⟨c, r ++ [48 + n % 10], by rw [numL_step (by omega), e]; rfl, q⟩
theorem numL_all (n : Nat) : (numL n).all (fun c => decide (c ∈ digits)) = true := by
  rw [List.all_eq_true]
  intro c hc
  rw [decide_eq_true_eq, digit_mem]
  exact numL_digits n c hc
theorem num_codes (i : Int) (h1 : -999999999 ≤ i) (h2 : i ≤ 999999999) : numOk (numT i) = true := by
  have fin : ∀ k : Nat, k ≤ 999999999 → unminus (numT i) = numL k → (k = 0 → i = 0) → numOk (numT i) = true := fun k hk e hz => by
    have e1 : numOk (numT i) = (!(unminus (numT i)).isEmpty && decide ((unminus (numT i)).length ≤ 9) && (unminus (numT i)).all (fun c => decide (c ∈ digits)) && (decide (numT i = "0") || !(match unminus (numT i) with
      | 48 :: _ => true
      | _ => false))) := rfl
    rw [e1, e, numL_all, decide_eq_true (numL_len9 hk)]
    have ne := numL_ne k
    by_cases h0 : k = 0
    · have : numT i = "0" := by rw [hz h0]; rfl
      rw [decide_eq_true this]
      subst h0
      rfl
    · obtain ⟨c, r, e2, q⟩ := numL_head k h0
      rw [e2]
      have : (match (c :: r : List Nat) with
        | 48 :: _ => true
        | _ => false) = false := by
        split
        · rename_i e3; injection e3 with e3 _; exact (q e3).elim
        · rfl
      rw [this]
      simp
  rcases numT_cases i with ⟨h, e⟩ | ⟨h, e⟩
  · refine fin i.toNat (by omega) ?_ (by omega)
    unfold unminus
    rw [e]
    split
    · rename_i r e2
      exact (numL_free (n := i.toNat) (s := 45) (by omega) (by rw [e2]; exact List.mem_cons_self)).elim
    · rfl
  · refine fin i.natAbs (by omega) ?_ (by omega)
    unfold unminus
    rw [e]
    rfl
theorem num_len (i : Int) (h1 : -999999999 ≤ i) (h2 : i ≤ 999999999) : (numT i).length ≤ 10 := by
  rw [len_cs]
  rcases numT_cases i with ⟨h, e⟩ | ⟨h, e⟩
  · rw [e]
    have := numL_len9 (n := i.toNat) (by omega)
    omega
  · rw [e]
    have := numL_len9 (n := i.natAbs) (by omega)
    rw [List.length_cons]
    omega
theorem num_read (i : Int) (h1 : -999999999 ≤ i) (h2 : i ≤ 999999999) : intD (.str (numT i)) = some (.int i) := by
  have hl := num_len i h1 h2
  have e : intD (.str (numT i)) = if (numT i).length ≤ 640 then (PySem.intText? (numT i)).map .int else none := rfl
  rw [e, if_pos (by omega)]
  rcases numT_cases i with ⟨h, e⟩ | ⟨h, e⟩
  · rw [PySem.intText_digits (by rw [show (numT i).cps.toList = _ from e]; exact numL_digits _) (by rw [show (numT i).cps.toList = _ from e]; exact numL_ne _) (by omega), show (numT i).cps.toList = _ from e, numL_val]
    simp only [Option.map_some]
    congr 2
    omega
  · rw [PySem.intText_neg (show (numT i).cps.toList = _ from e) (numL_digits _) (numL_ne _) (by omega), numL_val]
    simp only [Option.map_some]
    congr 2
    omega
/-! ### expressions and conditions, with their words -/
abbrev wl (ws : List Str) : D := .lst (ws.map .str)
def binO : List Str := ["plus", "minus", "times", "least", "most"]
def twoC : List Str := ["both", "either"]
def cmpC : List Str := ["below", "same"]
mutual
inductive Amt : Nat → D → List Str → Prop where
  | num {k : Nat} {i : Int} : -999999999 ≤ i → i ≤ 999999999 → Amt k (.tup [.str "number", .int i]) [numT i]
  | fact {k : Nat} {w : Str} : nameOk w = true → Amt k (.tup [.str "fact", .str w, .non]) ["fact", w]
  | factOr {k : Nat} {w : Str} {t : D} {ws : List Str} : nameOk w = true → Amt k t ws → Amt (k + 1) (.tup [.str "fact", .str w, t]) ("fact" :: w :: "or" :: ws)
  | due {k : Nat} {w : Str} : nameOk w = true → Amt k (.tup [.str "due", .str w]) ["due", w]
  | bin {k : Nat} {o : Str} {a b : D} {wa wb : List Str} : o ∈ binO → Amt k a wa → Amt k b wb → Amt (k + 1) (.tup [.str o, a, b]) (o :: (wa ++ wb))
  | pct {k : Nat} {p : Int} {a : D} {wa : List Str} : 0 ≤ p → p ≤ 1000 → Amt k a wa → Amt (k + 1) (.tup [.str "percent", .int p, a]) ("percent" :: numT p :: wa)
  | ite {k : Nat} {c a b : D} {wc wa wb : List Str} : Cnd k c wc → Amt k a wa → Amt k b wb → Amt (k + 1) (.tup [.str "if", c, a, b]) ("if" :: (wc ++ (wa ++ wb)))
inductive Cnd : Nat → D → List Str → Prop where
  | known {k : Nat} {w : Str} : nameOk w = true → Cnd k (.tup [.str "known", .str w]) ["known", w]
  | not {k : Nat} {c : D} {wc : List Str} : Cnd k c wc → Cnd (k + 1) (.tup [.str "not", c]) ("not" :: wc)
  | two {k : Nat} {o : Str} {c d : D} {wc wd : List Str} : o ∈ twoC → Cnd k c wc → Cnd k d wd → Cnd (k + 1) (.tup [.str o, c, d]) (o :: (wc ++ wd))
  | cmp {k : Nat} {o : Str} {a b : D} {wa wb : List Str} : o ∈ cmpC → Amt k a wa → Amt k b wb → Cnd (k + 1) (.tup [.str o, a, b]) (o :: (wa ++ wb))
end
theorem name_len {w : Str} (h : nameOk w = true) : w.length ≤ 12 ∧ 1 ≤ w.length := by
  unfold nameOk at h
  simp only [Bool.and_eq_true, decide_eq_true_eq] at h
  obtain ⟨⟨⟨h1, _⟩, h3⟩, _⟩ := h
  rw [len_cs]
  refine ⟨h1, ?_⟩
  cases e : cs w with
  | nil => rw [e] at h3; cases h3
  | cons c r => simp
theorem name_kept {w : Str} (h : nameOk w = true) : w ∉ kept := by
  unfold nameOk at h
  simp only [Bool.and_eq_true, Bool.not_eq_true'] at h
  obtain ⟨⟨⟨_, h2⟩, _⟩, _⟩ := h
  intro m
  rw [List.contains_iff_mem.mpr m] at h2
  cases h2
theorem atI_nat' {α : Type} {xs : List α} {i : Nat} {x : α} (h : xs[i]? = some x) : atI xs (i : Int) = some x := by
  have hi := (List.getElem?_eq_some_iff.mp h).1
  unfold atI ixN
  rw [if_pos (by omega), if_pos (by omega)]
  simpa using h
theorem idx_lst {ds : List D} {i : Nat} {d : D} (h : ds[i]? = some d) : idxD (.lst ds) (.int (i : Int)) = some d := atI_nat' h
theorem wl_get {ws : List Str} {i : Nat} {w : Str} (h : ws[i]? = some w) : (ws.map D.str)[i]? = some (.str w) := by
  rw [List.getElem?_map, h]; rfl
theorem mid_get {pre rest : List Str} {w : Str} : (pre ++ w :: rest)[pre.length]? = some w := by simp
/-! ### the law's comparison: equal data are the same -/
mutual
/-- data of texts, ints, nothing, tuples and lists, at most k deep -/
inductive Pl : Nat → D → Prop where
  | non {k : Nat} : Pl k .non
  | int {k : Nat} {i : Int} : Pl k (.int i)
  | str {k : Nat} {x : Str} : Pl k (.str x)
  | bl {k : Nat} {b : Bool} : Pl k (.bl b)
  | tup {k : Nat} {ds : List D} : ds.length ≤ 1000000 → Pls k ds → Pl (k + 1) (.tup ds)
  | lst {k : Nat} {ds : List D} : ds.length ≤ 1000000 → Pls k ds → Pl (k + 1) (.lst ds)
inductive Pls : Nat → List D → Prop where
  | nil {k : Nat} : Pls k []
  | cons {k : Nat} {d : D} {ds : List D} : Pl k d → Pls k ds → Pls k (d :: ds)
end
theorem Pls.mem {k : Nat} {ds : List D} (h : Pls k ds) : ∀ d ∈ ds, Pl k d := by
  induction ds with
  | nil => intro d hd; cases hd
  | cons e r ih =>
    cases h with
    | cons h1 h2 =>
      intro d hd
      rcases List.mem_cons.mp hd with rfl | hd
      · exact h1
      · exact ih h2 d hd
theorem amt_pl : ∀ k : Nat, (∀ (t : D) (ws : List Str), Amt k t ws → Pl (k + 1) t) ∧ (∀ (t : D) (ws : List Str), Cnd k t ws → Pl (k + 1) t) := by
  intro k
  induction k with
  | zero =>
    refine ⟨fun t ws h => ?_, fun t ws h => ?_⟩
    · cases h with
      | num => exact .tup (by simp) (.cons .str (.cons .int .nil))
      | fact => exact .tup (by simp) (.cons .str (.cons .str (.cons .non .nil)))
      | due => exact .tup (by simp) (.cons .str (.cons .str .nil))
    · cases h with
      | known => exact .tup (by simp) (.cons .str (.cons .str .nil))
  | succ k ih =>
    obtain ⟨ihA, ihC⟩ := ih
    refine ⟨fun t ws h => ?_, fun t ws h => ?_⟩
    · cases h with
      | num => exact .tup (by simp) (.cons .str (.cons .int .nil))
      | fact => exact .tup (by simp) (.cons .str (.cons .str (.cons .non .nil)))
      | due => exact .tup (by simp) (.cons .str (.cons .str .nil))
      | factOr _ h1 => exact .tup (by simp) (.cons .str (.cons .str (.cons (ihA _ _ h1) .nil)))
      | bin _ h1 h2 => exact .tup (by simp) (.cons .str (.cons (ihA _ _ h1) (.cons (ihA _ _ h2) .nil)))
      | pct _ _ h1 => exact .tup (by simp) (.cons .str (.cons .int (.cons (ihA _ _ h1) .nil)))
      | ite h1 h2 h3 => exact .tup (by simp) (.cons .str (.cons (ihC _ _ h1) (.cons (ihA _ _ h2) (.cons (ihA _ _ h3) .nil))))
    · cases h with
      | known => exact .tup (by simp) (.cons .str (.cons .str .nil))
      | not h1 => exact .tup (by simp) (.cons .str (.cons (ihC _ _ h1) .nil))
      | two _ h1 h2 => exact .tup (by simp) (.cons .str (.cons (ihC _ _ h1) (.cons (ihC _ _ h2) .nil)))
      | cmp _ h1 h2 => exact .tup (by simp) (.cons .str (.cons (ihA _ _ h1) (.cons (ihA _ _ h2) .nil)))
theorem rng_get {lo : Int} {n i : Nat} (h : i < n) : (rng lo n)[i]? = some (.int (lo + (i : Nat))) := by
  unfold rng
  rw [List.getElem?_map, List.getElem?_range h]
  rfl
theorem rng_cons (lo : Int) (n : Nat) : rng lo (n + 1) = .int lo :: rng (lo + 1) n := by
  unfold rng
  rw [List.range_succ_eq_map, List.map_cons, List.map_map]
  congr 1
  · simp
  · refine List.map_congr_left fun i _ => ?_
    simp only [Function.comp]
    congr 1
    omega
theorem rng_zero (lo : Int) : rng lo 0 = [] := rfl
theorem eq_ii (i : Int) : eqD' (.int i) (.int i) = some (.bl true) := by
  show some (D.bl (decide (i = i))) = _
  rw [decide_eq_true rfl]
theorem ne_ii (i : Int) : neD' (.int i) (.int i) = some (.bl false) := by
  show some (D.bl (!decide (i = i))) = _
  rw [decide_eq_true rfl]
  rfl
theorem ne_bb (b : Bool) : neD' (.bl b) (.bl b) = some (.bl false) := by
  show some (D.bl (!decide (b = b))) = _
  rw [decide_eq_true rfl]
  rfl
theorem eq_bb (b : Bool) : eqD' (.bl b) (.bl b) = some (.bl true) := by
  show some (D.bl (decide (b = b))) = _
  rw [decide_eq_true rfl]
theorem atI_get {α : Type} (xs : List α) (i : Nat) : atI xs (i : Int) = xs[i]? := by
  unfold atI ixN
  rw [if_pos (by omega)]
  by_cases h : i < xs.length
  · rw [if_pos (by omega)]
    simp
  · rw [if_neg (by omega)]
    rw [List.getElem?_eq_none (by omega)]
    rfl
/-! ### the law's draws: rows of ints from 0 to 999 -/
theorem mul_r {i j : Int} (h1 : -18446744073709551616 < j) (h2 : j < 18446744073709551616) : mulD (.int i) (.int j) = some (.int (i * j)) := if_pos (.inr ⟨by omega, by omega⟩)
theorem mul_l {i j : Int} (h1 : -18446744073709551616 < i) (h2 : i < 18446744073709551616) : mulD (.int i) (.int j) = some (.int (i * j)) := if_pos (.inl ⟨by omega, by omega⟩)
theorem fdiv_ok {i j : Int} (h1 : 0 < j) (h2 : j < 1073741824) : fdivD (.int i) (.int j) = some (.int (i / j)) := if_pos ⟨h1, h2⟩
theorem mod_ok {i j : Int} (h1 : 0 < j) : modD (.int i) (.int j) = some (.int (i % j)) := if_pos h1
theorem add_i {i j : Int} : addD (.int i) (.int j) = some (.int (i + j)) := rfl
theorem sub_i {i j : Int} : subD (.int i) (.int j) = some (.int (i - j)) := rfl
theorem int_i {i : Int} : intD (.int i) = some (.int i) := rfl
theorem gt_t {i j : Int} (h : j < i) : gtD (.int i) (.int j) = some (.bl true) := by
  show some (D.bl (decide _)) = _
  rw [decide_eq_true h]
theorem gt_f {i j : Int} (h : ¬ j < i) : gtD (.int i) (.int j) = some (.bl false) := by
  show some (D.bl (decide _)) = _
  rw [decide_eq_false h]
theorem lt_t {i j : Int} (h : i < j) : ltD (.int i) (.int j) = some (.bl true) := by
  show some (D.bl (decide _)) = _
  rw [decide_eq_true h]
theorem lt_f {i j : Int} (h : ¬ i < j) : ltD (.int i) (.int j) = some (.bl false) := by
  show some (D.bl (decide _)) = _
  rw [decide_eq_false h]
theorem le_t {i j : Int} (h : i ≤ j) : leD (.int i) (.int j) = some (.bl true) := by
  show some (D.bl (decide _)) = _
  rw [decide_eq_true h]
theorem le_f {i j : Int} (h : ¬ i ≤ j) : leD (.int i) (.int j) = some (.bl false) := by
  show some (D.bl (decide _)) = _
  rw [decide_eq_false h]
theorem eqi_t {i j : Int} (h : i = j) : eqD' (.int i) (.int j) = some (.bl true) := by
  show some (D.bl (decide _)) = _
  rw [decide_eq_true h]
theorem eqi_f {i j : Int} (h : i ≠ j) : eqD' (.int i) (.int j) = some (.bl false) := by
  show some (D.bl (decide _)) = _
  rw [decide_eq_false h]
abbrev il (xs : List Int) : D := .lst (xs.map .int)
def inRow (xs : List Int) : Prop := ∀ x ∈ xs, 0 ≤ x ∧ x < 1000
theorem row_loop {s0 p0 m0 : Val} {c : Int} : ∀ (j lo : Nat) (r : Int) (xs : List Int) (kx mx : Option Val), lo + j ≤ 1000 → xs.length = lo → inRow xs →
    ∃ r' xs' kx' mx', xs'.length = lo + j ∧ inRow xs' ∧
    forL (gN 6) (sIf (bE (eOp2 gtD (eV 4) (eC (.int 0)))) (sSeq (sEx (eAppend (eV 5) (eOp2 modD (eOp1 intD (eV 4)) (eC (.int 1000)))))
    (sAsg (eOp2 fdivD (eV 4) (eC (.int 1000))) (gN 4))) (sSeq (sAsg (eOp2 modD (eOp1 intD (eOp2 addD (eOp2 addD (eOp2 mulD (eV 3) (eC (.int 48271))) (eOp2 mulD (eV 6) (eC (.int 69621)))) (eC (.int 12345)))) (eC (.int 2147483647))) (gN 7))
    (sSeq (sAsg (eOp2 modD (eOp1 intD (eOp2 addD (eOp2 addD (eOp2 mulD (eV 7) (eV 7)) (eOp2 mulD (eV 7) (eC (.int 16807)))) (eOp2 mulD (eV 6) (eC (.int 40692))))) (eC (.int 2147483399))) (gN 7))
    (sEx (eAppend (eV 5) (eOp2 modD (eOp2 fdivD (eV 7) (eC (.int 64))) (eC (.int 1000))))))))
      (rng (lo : Int) j) [some s0, some p0, some m0, some (.d (.int c)), some (.d (.int r)), some (.ref 0), kx, mx] [.lst (xs.map .int)] =
    .nx [some s0, some p0, some m0, some (.d (.int c)), some (.d (.int r')), some (.ref 0), kx', mx'] [.lst (xs'.map .int)] := by
  intro j
  induction j with
  | zero => intro lo r xs kx mx _ hl hr; exact ⟨r, xs, kx, mx, hl, hr, by rw [rng_zero, forL_nil]⟩
  | succ j ih =>
    intro lo r xs kx mx hz hl hr
    have hz1 : (xs.map D.int).length < sizeLine := by
      rw [List.length_map]
      exact Nat.lt_of_lt_of_le (by omega) (small (Nat.le_refl 1000000))
    have app : ∀ x : Int, (xs.map D.int) ++ [D.int x] = (xs ++ [x]).map .int := fun x => by simp
    have step : ∀ x : Int, 0 ≤ x ∧ x < 1000 → inRow (xs ++ [x]) := fun x hx y hy => by
      rcases List.mem_append.mp hy with h | h
      · exact hr y h
      · rw [List.mem_singleton.mp h]; exact hx
    have hc : ((lo : Int) + 1) = ((lo + 1 : Nat) : Int) := rfl
    rw [rng_cons, forL_cons]
    by_cases h : 0 < r
    · have e1 := gt_t h
      have e2 := mod_ok (i := r) (j := 1000) (by decide)
      have e3 := fdiv_ok (i := r) (j := 1000) (by decide) (by decide)
      obtain ⟨r', xs', kx', mx', g1, g2, g3⟩ := ih (lo + 1) (r / 1000) (xs ++ [r % 1000]) (some (.d (.int lo))) mx (by omega) (by rw [List.length_append, hl]; rfl) (step _ (by omega))
      refine ⟨r', xs', kx', mx', by omega, g2, ?_⟩
      rw [hc]
      repeat (first | walk_at "ev" | simp only [e1, e2, e3, int_i, hz1, app, g3])
    · have e1 := gt_f h
      generalize hm : (c * 48271 + (lo : Int) * 69621 + 12345) % 2147483647 = m
      have hm0 : 0 ≤ m ∧ m < 2147483647 := by omega
      generalize hm2 : (m * m + m * 16807 + (lo : Int) * 40692) % 2147483399 = m2
      have e2 := mul_r (i := c) (j := 48271) (by decide) (by decide)
      have e3 := mul_r (i := (lo : Int)) (j := 69621) (by decide) (by decide)
      have e4 := mod_ok (i := c * 48271 + (lo : Int) * 69621 + 12345) (j := 2147483647) (by decide)
      rw [hm] at e4
      have e5 := mul_r (i := m) (j := m) (by omega) (by omega)
      have e6 := mul_r (i := m) (j := 16807) (by decide) (by decide)
      have e7 := mul_r (i := (lo : Int)) (j := 40692) (by decide) (by decide)
      have e8 := mod_ok (i := m * m + m * 16807 + (lo : Int) * 40692) (j := 2147483399) (by decide)
      rw [hm2] at e8
      have e9 := fdiv_ok (i := m2) (j := 64) (by decide) (by decide)
      have e10 := mod_ok (i := m2 / 64) (j := 1000) (by decide)
      obtain ⟨r', xs', kx', mx', g1, g2, g3⟩ := ih (lo + 1) r (xs ++ [m2 / 64 % 1000]) (some (.d (.int lo))) (some (.d (.int m2))) (by omega) (by rw [List.length_append, hl]; rfl) (step _ (by omega))
      refine ⟨r', xs', kx', mx', by omega, g2, ?_⟩
      rw [hc]
      repeat (first | walk_at "ev" | simp only [e1, e2, e3, e4, e5, e6, e7, e8, e9, e10, int_i, add_i, hz1, app, g3])
theorem x_law_row (n : Nat) (ns : List Int) (p : Int) (m : Nat) (hp : 0 ≤ p) (hp2 : p ≤ 1000000) (hm : m ≤ 1000) : ∃ xs : List Int, xs.length = m ∧ inRow xs ∧
    run (n + 1) 5 [.d (.scr ns), .d (.int p), .d (.int (m : Int))] [] = .ok (.ref 0) [.lst (xs.map .int)] := by
  have e1 := mul_l (i := 7919) (j := p) (by decide) (by decide)
  have e2 : lenD (.scr ns) = some (.int (ns.length : Int)) := rfl
  have e3 : powD (.int 10) (.int 18) = some (.int (10 ^ 18)) := by
    show (if CPow 10 18 then some (D.int (10 ^ (18 : Int).toNat)) else none) = _
    rw [if_pos (show CPow 10 18 from ⟨by decide, by decide, by decide⟩)]
    rfl
  have q : ∀ c : Int, ∃ xs : List Int, xs.length = m ∧ inRow xs ∧ ∃ r' kx' mx', _ := fun c => by
    obtain ⟨r', xs', kx', mx', g1, g2, g3⟩ := row_loop (s0 := .d (.scr ns)) (p0 := .d (.int p)) (m0 := .d (.int (m : Int))) (c := c) m 0 (c - 10 ^ 18) [] none none (by omega) rfl (fun _ h => nomatch h)
    rw [show (((0 : Nat)) : Int) = 0 from rfl] at g3
    exact ⟨xs', by omega, g2, r', kx', mx', g3⟩
  have e6 : ∀ c r : Int, iR1 (eV 2) [some (.d (.scr ns)), some (.d (.int p)), some (.d (.int (m : Int))), some (.d (.int c)), some (.d (.int r)), some (.ref 0), none, none] [.lst []] = .ok (rng 0 m) [.lst []] := fun c r => iR1_nat (by repeat (first | walk_at "ev" | simp only [])) (by omega)
  by_cases h : p < (ns.length : Int)
  · have e4 := lt_t h
    have hk : p.toNat < ns.length := by omega
    have e5 : idxD (.scr ns) (.int p) = some (.int ns[p.toNat]) := by
      show (atI ns p).map D.int = _
      have hp3 : atI ns p = atI ns ((p.toNat : Nat) : Int) := congrArg _ (by omega)
      rw [hp3, atI_get, List.getElem?_eq_getElem hk]
      rfl
    obtain ⟨xs, g1, g2, r', kx', mx', g3⟩ := q ns[p.toNat]
    simp only [List.map_nil] at g3
    refine ⟨xs, g1, g2, ?_⟩
    rw [run5]
    unfold b5
    repeat (first | walk_at "ev" | simp only [e1, e2, e3, e4, e5, e6, add_i, sub_i, g3])
  · have e4 := lt_f h
    obtain ⟨xs, g1, g2, r', kx', mx', g3⟩ := q (7919 * p + 5)
    simp only [List.map_nil] at g3
    refine ⟨xs, g1, g2, ?_⟩
    rw [run5]
    unfold b5
    repeat (first | walk_at "ev" | simp only [e1, e2, e3, e4, e6, add_i, sub_i, g3])
/-! ### lists of words, compared -/
theorem pys_strs : ∀ xs : List Str, D.pys (xs.map .str) = xs.map PyData.str
  | [] => by rw [List.map_nil, D.pys]; rfl
  | x :: r => by rw [List.map_cons, D.pys, D.py, pys_strs r]; rfl
def codesOk (x : Str) : Prop := ∀ c ∈ cs x, c < 1114112
theorem lay_strs : ∀ xs : List Str, (∀ x ∈ xs, codesOk x) → PyData.canLayAll0 (xs.map PyData.str) = true
  | [], _ => by simp [PyData.canLayAll0]
  | x :: r, h => by
    have ih := lay_strs r fun y hy => h y (List.mem_cons_of_mem _ hy)
    have hx := h x List.mem_cons_self
    rw [List.map_cons, PyData.canLayAll0, ih, Bool.and_true, PyData.canLay0]
    rw [PyData.strOk, ← Array.all_toList, List.all_eq_true]
    exact fun c hc => decide_eq_true (hx c hc)
theorem depth_strs : ∀ xs : List Str, PyData.depthAll (xs.map PyData.str) = 0
  | [] => by simp [PyData.depthAll]
  | x :: r => by simp [PyData.depthAll, PyData.depth, depth_strs r]
theorem name_codes {w : Str} (h : nameOk w = true) : codesOk w := by
  intro c hc
  unfold nameOk at h
  rw [Bool.and_eq_true] at h
  have h2 := h.2
  cases e : cs w with
  | nil => rw [e] at hc; cases hc
  | cons c0 r =>
    rw [e] at h2
    simp only [Bool.and_eq_true, List.all_eq_true] at h2
    rw [e] at hc
    have := h2 c hc
    have k : c ∈ letters ∨ c ∈ digits := by simpa using this
    have a1 : ∀ c ∈ letters, c < 1114112 := by decide +kernel
    have a2 : ∀ c ∈ digits, c < 1114112 := by decide +kernel
    exact k.elim (a1 c) (a2 c)
theorem eqv_strs : ∀ xs ys : List Str, PyData.eqvAll (xs.map PyData.str) (ys.map PyData.str) = decide (xs = ys)
  | [], [] => by simp [PyData.eqvAll]
  | [], y :: ys => by simp [PyData.eqvAll]
  | x :: xs, [] => by simp [PyData.eqvAll]
  | x :: xs, y :: ys => by
    have := eqv_strs xs ys
    simp [PyData.eqvAll, PyData.eqv, this]
    by_cases h : x = y <;> by_cases h2 : xs = ys <;> simp [h, h2]
theorem eqW (xs ys : List Str) (hx : ∀ x ∈ xs, codesOk x) (hy : ∀ x ∈ ys, codesOk x) : eqD' (wl xs) (wl ys) = some (.bl (decide (xs = ys))) := by
  have e : eqD' (wl xs) (wl ys) = (if SeqAt.shaped (D.py (wl xs)) = true ∧ SeqAt.shaped (D.py (wl ys)) = true then some (PyData.eqv (D.py (wl xs)) (D.py (wl ys))) else none).map .bl := rfl
  have p : ∀ zs : List Str, D.py (wl zs) = .list (zs.map PyData.str) := fun zs => by rw [D.py, pys_strs]
  have q : ∀ zs : List Str, (∀ x ∈ zs, codesOk x) → SeqAt.shaped (.list (zs.map PyData.str)) = true := fun zs h => by simp [SeqAt.shaped, PyData.canLay0, PyData.depth, lay_strs zs h, depth_strs]
  rw [e, p, p, if_pos ⟨q _ hx, q _ hy⟩]
  simp [PyData.eqv, eqv_strs]
/-! ### data compared: equal exactly if the same -/
mutual
inductive Gd : Nat → D → Prop where
  | non {k : Nat} : Gd k .non
  | int {k : Nat} {i : Int} : Gd k (.int i)
  | str {k : Nat} {x : Str} : codesOk x → Gd k (.str x)
  | tup {k : Nat} {ds : List D} : Gds k ds → Gd (k + 1) (.tup ds)
  | lst {k : Nat} {ds : List D} : Gds k ds → Gd (k + 1) (.lst ds)
inductive Gds : Nat → List D → Prop where
  | nil {k : Nat} : Gds k []
  | cons {k : Nat} {d : D} {ds : List D} : Gd k d → Gds k ds → Gds k (d :: ds)
end
theorem gd_lay : ∀ k : Nat, (∀ d : D, Gd k d → PyData.canLay0 d.py = true ∧ PyData.depth d.py ≤ k) ∧ (∀ ds : List D, Gds k ds → PyData.canLayAll0 (D.pys ds) = true ∧ PyData.depthAll (D.pys ds) ≤ k) := by
  intro k
  induction k with
  | zero =>
    have one : ∀ d : D, Gd 0 d → PyData.canLay0 d.py = true ∧ PyData.depth d.py ≤ 0 := fun d h => by
      cases h with
      | non => rw [D.py]; exact ⟨rfl, by simp [PyData.depth]⟩
      | int => rw [D.py]; exact ⟨rfl, by simp [PyData.depth]⟩
      | str hx =>
        rw [D.py]
        refine ⟨?_, by simp [PyData.depth]⟩
        rw [PyData.canLay0, PyData.strOk, ← Array.all_toList, List.all_eq_true]
        exact fun c hc => decide_eq_true (hx c hc)
    refine ⟨one, fun ds => ?_⟩
    induction ds with
    | nil => intro _; rw [D.pys]; exact ⟨by simp [PyData.canLayAll0], by simp [PyData.depthAll]⟩
    | cons d ds ih =>
      intro h
      cases h with
      | cons a b =>
        obtain ⟨a1, a2⟩ := one d a
        obtain ⟨b1, b2⟩ := ih b
        rw [D.pys]
        exact ⟨by rw [PyData.canLayAll0, a1, b1]; rfl, by rw [PyData.depthAll]; omega⟩
  | succ k ih =>
    have one : ∀ d : D, Gd (k + 1) d → PyData.canLay0 d.py = true ∧ PyData.depth d.py ≤ k + 1 := fun d h => by
      cases h with
      | non => rw [D.py]; exact ⟨rfl, by simp [PyData.depth]⟩
      | int => rw [D.py]; exact ⟨rfl, by simp [PyData.depth]⟩
      | str hx =>
        rw [D.py]
        refine ⟨?_, by simp [PyData.depth]⟩
        rw [PyData.canLay0, PyData.strOk, ← Array.all_toList, List.all_eq_true]
        exact fun c hc => decide_eq_true (hx c hc)
      | tup a =>
        obtain ⟨b1, b2⟩ := ih.2 _ a
        rw [D.py]
        exact ⟨by rw [PyData.canLay0]; exact b1, by rw [PyData.depth]; omega⟩
      | lst a =>
        obtain ⟨b1, b2⟩ := ih.2 _ a
        rw [D.py]
        exact ⟨by rw [PyData.canLay0]; exact b1, by rw [PyData.depth]; omega⟩
    refine ⟨one, fun ds => ?_⟩
    induction ds with
    | nil => intro _; rw [D.pys]; exact ⟨by simp [PyData.canLayAll0], by simp [PyData.depthAll]⟩
    | cons d ds ih2 =>
      intro h
      cases h with
      | cons a b =>
        obtain ⟨a1, a2⟩ := one d a
        obtain ⟨b1, b2⟩ := ih2 b
        rw [D.pys]
        exact ⟨by rw [PyData.canLayAll0, a1, b1]; rfl, by rw [PyData.depthAll]; omega⟩
theorem gd_eqv : ∀ k : Nat, (∀ x y : D, Gd k x → Gd k y → (PyData.eqv x.py y.py = true ↔ x = y)) ∧ (∀ xs ys : List D, Gds k xs → Gds k ys → (PyData.eqvAll (D.pys xs) (D.pys ys) = true ↔ xs = ys)) := by
  have lst : ∀ k : Nat, (∀ x y : D, Gd k x → Gd k y → (PyData.eqv x.py y.py = true ↔ x = y)) → ∀ xs ys : List D, Gds k xs → Gds k ys → (PyData.eqvAll (D.pys xs) (D.pys ys) = true ↔ xs = ys) := fun k one xs => by
    induction xs with
    | nil =>
      intro ys _ h
      cases ys with
      | nil => simp [D.pys, PyData.eqvAll]
      | cons y ys => simp [D.pys, PyData.eqvAll]
    | cons x xs ih =>
      intro ys g h
      cases ys with
      | nil => simp [D.pys, PyData.eqvAll]
      | cons y ys =>
        cases g with
        | cons g1 g2 =>
          cases h with
          | cons h1 h2 =>
            rw [D.pys, D.pys, PyData.eqvAll, Bool.and_eq_true, one x y g1 h1, ih ys g2 h2]
            simp
  intro k
  induction k with
  | zero =>
    have one : ∀ x y : D, Gd 0 x → Gd 0 y → (PyData.eqv x.py y.py = true ↔ x = y) := fun x y g h => by
      cases g <;> cases h <;> simp [D.py, PyData.eqv]
    exact ⟨one, lst 0 one⟩
  | succ k ih =>
    have one : ∀ x y : D, Gd (k + 1) x → Gd (k + 1) y → (PyData.eqv x.py y.py = true ↔ x = y) := fun x y g h => by
      cases g with
      | tup a => cases h with
        | tup b => simp [D.py, PyData.eqv, ih.2 _ _ a b]
        | _ => simp [D.py, PyData.eqv]
      | lst a => cases h with
        | lst b => simp [D.py, PyData.eqv, ih.2 _ _ a b]
        | _ => simp [D.py, PyData.eqv]
      | non => cases h <;> simp [D.py, PyData.eqv]
      | int => cases h <;> simp [D.py, PyData.eqv]
      | str => cases h <;> simp [D.py, PyData.eqv]
    exact ⟨one, lst (k + 1) one⟩
open Classical in
theorem eqG {k : Nat} {x y : D} (hk : k ≤ 60) (g : Gd k x) (h : Gd k y) : eqD x y = some (decide (x = y)) := by
  obtain ⟨l1, d1⟩ := (gd_lay k).1 x g
  obtain ⟨l2, d2⟩ := (gd_lay k).1 y h
  have s1 : SeqAt.shaped x.py = true := by unfold SeqAt.shaped; rw [l1, decide_eq_true (by omega)]; rfl
  have s2 : SeqAt.shaped y.py = true := by unfold SeqAt.shaped; rw [l2, decide_eq_true (by omega)]; rfl
  have e := (gd_eqv k).1 x y g h
  have fin : (if SeqAt.shaped x.py = true ∧ SeqAt.shaped y.py = true then some (PyData.eqv x.py y.py) else none) = some (decide (x = y)) := by
    rw [if_pos ⟨s1, s2⟩]
    congr 1
    by_cases c : x = y
    · rw [decide_eq_true c, e.mpr c]
    · rw [decide_eq_false c]
      cases q : PyData.eqv x.py y.py with
      | false => rfl
      | true => exact absurd (e.mp q) c
  cases g <;> cases h <;> first | exact fin | (simp [eqD])
theorem eqG_t {k : Nat} {x : D} (hk : k ≤ 60) (g : Gd k x) : eqD' x x = some (.bl true) := by
  unfold eqD'
  rw [eqG hk g g]
  simp
theorem neG_t {k : Nat} {x : D} (hk : k ≤ 60) (g : Gd k x) : neD' x x = some (.bl false) := by
  unfold neD'
  rw [eqG hk g g]
  simp
theorem eqG_f {k : Nat} {x y : D} (hk : k ≤ 60) (g : Gd k x) (h : Gd k y) (ne : x ≠ y) : eqD' x y = some (.bl false) := by
  unfold eqD'
  rw [eqG hk g h]
  simp [ne]
theorem neG_f {k : Nat} {x y : D} (hk : k ≤ 60) (g : Gd k x) (h : Gd k y) (ne : x ≠ y) : neD' x y = some (.bl true) := by
  unfold neD'
  rw [eqG hk g h]
  simp [ne]
theorem Gd.up : ∀ {k : Nat}, (∀ {d : D}, Gd k d → Gd (k + 1) d) ∧ (∀ {ds : List D}, Gds k ds → Gds (k + 1) ds) := fun {k} => by
  have lst : ∀ k : Nat, (∀ {d : D}, Gd k d → Gd (k + 1) d) → ∀ {ds : List D}, Gds k ds → Gds (k + 1) ds := fun k one ds h => by
    induction ds with
    | nil => exact .nil
    | cons d ds ih => cases h with
      | cons a b => exact .cons (one a) (ih b)
  induction k with
  | zero =>
    have one : ∀ {d : D}, Gd 0 d → Gd 1 d := fun h => by
      cases h with
      | non => exact .non
      | int => exact .int
      | str a => exact .str a
    exact ⟨one, lst 0 one⟩
  | succ k ih =>
    have one : ∀ {d : D}, Gd (k + 1) d → Gd (k + 2) d := fun h => by
      cases h with
      | non => exact .non
      | int => exact .int
      | str a => exact .str a
      | tup a => exact .tup (ih.2 a)
      | lst a => exact .lst (ih.2 a)
    exact ⟨one, lst (k + 1) one⟩
theorem cOk {x : Str} (h : (cs x).all (fun c => decide (c < 1114112)) = true) : codesOk x := fun c hc => of_decide_eq_true (List.all_eq_true.mp h c hc)
/-! ### shares: by the greatest remainders -/
/-- (-remainder, place) of each -/
def rkL (a W : Int) : Nat → List Int → List (Int × Int)
  | _, [] => []
  | k, w :: ws => (-(a * w % W), (k : Int)) :: rkL a W (k + 1) ws
theorem rkL_len (a W : Int) : ∀ (k : Nat) (ws : List Int), (rkL a W k ws).length = ws.length
  | _, [] => rfl
  | k, w :: ws => by rw [rkL, List.length_cons, rkL_len a W (k + 1) ws, List.length_cons]
theorem rkL_mem {a W : Int} {p : Int × Int} : ∀ {k : Nat} {ws : List Int}, p ∈ rkL a W k ws ↔ ∃ (i : Nat) (w : Int), ws[i]? = some w ∧ p = (-(a * w % W), ((k + i : Nat) : Int))
  | k, [] => by simp [rkL]
  | k, w :: ws => by
    rw [rkL, List.mem_cons, rkL_mem (k := k + 1) (ws := ws)]
    constructor
    · rintro (rfl | ⟨i, v, h, rfl⟩)
      · exact ⟨0, w, rfl, rfl⟩
      · exact ⟨i + 1, v, h, by rw [show k + 1 + i = k + (i + 1) by omega]⟩
    · rintro ⟨i, v, h, rfl⟩
      cases i with
      | zero => cases h; exact .inl rfl
      | succ i => exact .inr ⟨i, v, h, by rw [show k + 1 + i = k + (i + 1) by omega]⟩
theorem rkL_nodup (a W : Int) : ∀ (k : Nat) (ws : List Int), ((rkL a W k ws).map (·.2)).Nodup
  | _, [] => .nil
  | k, w :: ws => by
    rw [rkL, List.map_cons]
    refine List.nodup_cons.mpr ⟨fun h => ?_, rkL_nodup a W (k + 1) ws⟩
    obtain ⟨p, hp, e⟩ := List.mem_map.mp h
    obtain ⟨i, v, _, rfl⟩ := rkL_mem.mp hp
    simp only at e
    omega
theorem rkL_sum (a W : Int) : ∀ (k : Nat) (ws : List Int), ((rkL a W k ws).map (·.1)).sum = -(ws.map fun w => a * w % W).sum
  | _, [] => rfl
  | k, w :: ws => by
    rw [rkL, List.map_cons, List.sum_cons, rkL_sum a W (k + 1) ws, List.map_cons, List.sum_cons]
    omega
theorem sum_perm {l m : List Int} (h : l.Perm m) : l.sum = m.sum := by
  induction h with
  | nil => rfl
  | cons x _ ih => rw [List.sum_cons, List.sum_cons, ih]
  | swap x y l => simp only [List.sum_cons]; omega
  | trans _ _ i1 i2 => rw [i1, i2]
/-- the order in which the ones go -/
abbrev srP (a W : Int) (ws : List Int) : List (Int × Int) := sortP (rkL a W 0 ws)
def ordN (a W : Int) (ws : List Int) : List Nat := (srP a W ws).map fun p => p.2.toNat
theorem srP_len (a W : Int) (ws : List Int) : (srP a W ws).length = ws.length := by
  rw [(sortP_perm _).length_eq, rkL_len]
theorem ord_len (a W : Int) (ws : List Int) : (ordN a W ws).length = ws.length := by
  unfold ordN
  rw [List.length_map, srP_len]
theorem srP_at {a W : Int} {ws : List Int} {p : Int × Int} (h : p ∈ srP a W ws) : ∃ (i : Nat) (w : Int), ws[i]? = some w ∧ p = (-(a * w % W), (i : Int)) := by
  obtain ⟨i, w, h1, h2⟩ := rkL_mem.mp ((sortP_perm _).mem_iff.mp h)
  exact ⟨i, w, h1, by rw [h2, Nat.zero_add]⟩
theorem ord_nodup (a W : Int) (ws : List Int) : (ordN a W ws).Nodup := by
  have h : ((srP a W ws).map (·.2)).Nodup := ((sortP_perm _).map (·.2)).nodup_iff.mpr (rkL_nodup a W 0 ws)
  unfold ordN
  have e : (srP a W ws).map (fun p => p.2.toNat) = ((srP a W ws).map (·.2)).map Int.toNat := by rw [List.map_map]; rfl
  rw [e]
  unfold List.Nodup at h ⊢
  rw [List.pairwise_map]
  refine h.imp_of_mem fun {x y} hx hy ne z => ne ?_
  obtain ⟨p, hp, rfl⟩ := List.mem_map.mp hx
  obtain ⟨q, hq, rfl⟩ := List.mem_map.mp hy
  obtain ⟨i, w, _, rfl⟩ := srP_at hp
  obtain ⟨j, v, _, rfl⟩ := srP_at hq
  simp only at z ⊢
  omega
theorem ord_lt {a W : Int} {ws : List Int} {k : Nat} (h : k ∈ ordN a W ws) : k < ws.length := by
  obtain ⟨p, hp, rfl⟩ := List.mem_map.mp h
  obtain ⟨i, w, h1, rfl⟩ := srP_at hp
  exact (List.getElem?_eq_some_iff.mp h1).1
theorem ord_all {a W : Int} {ws : List Int} {k : Nat} (h : k < ws.length) : k ∈ ordN a W ws := by
  refine List.mem_map.mpr ⟨(-(a * ws[k] % W), (k : Int)), (sortP_perm _).mem_iff.mpr (rkL_mem.mpr ⟨k, ws[k], List.getElem?_eq_getElem h, by rw [Nat.zero_add]⟩), rfl⟩
/-- one more at each of these places -/
def bump (ps : List Int) : List Nat → List Int
  | [] => ps
  | k :: l => bump (ps.set k (ps.getD k 0 + 1)) l
theorem bump_len : ∀ (l : List Nat) (ps : List Int), (bump ps l).length = ps.length
  | [], _ => rfl
  | k :: l, ps => by rw [bump, bump_len l, List.length_set]
theorem bump_app : ∀ (l m : List Nat) (ps : List Int), bump ps (l ++ m) = bump (bump ps l) m
  | [], _, _ => rfl
  | k :: l, m, ps => by rw [List.cons_append, bump, bump_app l m, bump]
theorem bump_at : ∀ (l : List Nat) (ps : List Int) (i : Nat) (x : Int), l.Nodup → ps[i]? = some x → (bump ps l)[i]? = some (x + if i ∈ l then 1 else 0)
  | [], ps, i, x, _, h => by rw [bump, h]; simp
  | k :: l, ps, i, x, hn, h => by
    obtain ⟨n1, n2⟩ := List.nodup_cons.mp hn
    rw [bump]
    by_cases e : k = i
    · subst e
      have hl := (List.getElem?_eq_some_iff.mp h).1
      rw [bump_at l _ k (x + 1) n2 (by rw [List.getElem?_set_self hl, List.getD_eq_getElem?_getD, h]; rfl), if_neg n1, if_pos List.mem_cons_self]
      simp
    · rw [bump_at l _ i x n2 (by rw [List.getElem?_set_ne e]; exact h)]
      congr 2
      by_cases m : i ∈ l
      · rw [if_pos m, if_pos (List.mem_cons_of_mem _ m)]
      · rw [if_neg m, if_neg fun z => by rcases List.mem_cons.mp z with z | z; exact e z.symm; exact m z]
theorem set_sum : ∀ (l : List Int) (j : Nat) (x y : Int), l[j]? = some x → (l.set j y).sum = l.sum - x + y
  | [], j, x, y, h => by simp at h
  | a :: r, 0, x, y, h => by cases h; rw [List.set_cons_zero, List.sum_cons, List.sum_cons]; omega
  | a :: r, j + 1, x, y, h => by
    have := set_sum r j x y h
    rw [List.set_cons_succ, List.sum_cons, List.sum_cons, this]
    omega
theorem bump_sum : ∀ (l : List Nat) (ps : List Int), (∀ k ∈ l, k < ps.length) → (bump ps l).sum = ps.sum + l.length
  | [], ps, _ => by rw [bump]; simp
  | k :: l, ps, h => by
    have hk := List.getElem?_eq_getElem (h k List.mem_cons_self)
    rw [bump, bump_sum l _ fun j hj => by rw [List.length_set]; exact h j (List.mem_cons_of_mem _ hj), set_sum ps k _ _ hk, List.getD_eq_getElem?_getD, hk, List.length_cons]
    simp only [Option.getD_some]
    omega
/-- -1 at each of these places -/
def gone (rs : List Int) : List Nat → List Int
  | [] => rs
  | k :: l => gone (rs.set k (-1)) l
theorem gone_len : ∀ (l : List Nat) (rs : List Int), (gone rs l).length = rs.length
  | [], _ => rfl
  | k :: l, rs => by rw [gone, gone_len l, List.length_set]
theorem gone_app : ∀ (l m : List Nat) (rs : List Int), gone rs (l ++ m) = gone (gone rs l) m
  | [], _, _ => rfl
  | k :: l, m, rs => by rw [List.cons_append, gone, gone_app l m, gone]
theorem gone_at : ∀ (l : List Nat) (rs : List Int) (i : Nat) (x : Int), rs[i]? = some x → (gone rs l)[i]? = some (if i ∈ l then -1 else x)
  | [], rs, i, x, h => by rw [gone, h]; simp
  | k :: l, rs, i, x, h => by
    rw [gone]
    have hl := (List.getElem?_eq_some_iff.mp h).1
    by_cases e : k = i
    · subst e
      rw [gone_at l _ k (-1) (List.getElem?_set_self hl), if_pos List.mem_cons_self]
      split <;> rfl
    · rw [gone_at l _ i x (by rw [List.getElem?_set_ne e]; exact h)]
      congr 1
      by_cases m : i ∈ l
      · rw [if_pos m, if_pos (List.mem_cons_of_mem _ m)]
      · rw [if_neg m, if_neg fun z => by rcases List.mem_cons.mp z with z | z; exact e z.symm; exact m z]
section
variable {a W : Int} {ws : List Int}
abbrev qs0 (a W : Int) (ws : List Int) : List Int := ws.map fun w => a * w / W
abbrev rs0 (a W : Int) (ws : List Int) : List Int := ws.map fun w => a * w % W
/-- what is over -/
def over (a W : Int) (ws : List Int) : Int := a - (qs0 a W ws).sum
theorem qr_sum : ∀ ws : List Int, a * ws.sum = W * (qs0 a W ws).sum + (rs0 a W ws).sum
  | [] => by simp
  | w :: ws => by
    have ih := qr_sum ws
    have h := Int.mul_ediv_add_emod (a * w) W
    rw [List.sum_cons, Int.mul_add, ih]
    unfold qs0 rs0
    rw [List.map_cons, List.map_cons, List.sum_cons, List.sum_cons, Int.mul_add]
    omega
theorem rs_over (hW : ws.sum = W) : (rs0 a W ws).sum = W * over a W ws := by
  have := qr_sum (a := a) (W := W) ws
  rw [hW, Int.mul_comm a W] at this
  unfold over
  rw [Int.mul_sub]
  omega
theorem rs_pos (h : 0 < W) : ∀ ws : List Int, 0 ≤ (rs0 a W ws).sum ∧ (rs0 a W ws).sum ≤ (ws.length : Int) * (W - 1)
  | [] => by simp
  | w :: ws => by
    have ih := rs_pos h ws
    have h1 := Int.emod_nonneg (a * w) (show W ≠ 0 by omega)
    have h2 := Int.emod_lt_of_pos (a * w) h
    unfold rs0 at ih ⊢
    rw [List.map_cons, List.sum_cons, List.length_cons]
    have e : ((ws.length + 1 : Nat) : Int) * (W - 1) = (ws.length : Int) * (W - 1) + (W - 1) := by
      rw [Int.natCast_add, Int.add_mul]
      simp
    rw [e]
    omega
theorem over_lt (h : 0 < W) (hW : ws.sum = W) (hn : 0 < ws.length) : 0 ≤ over a W ws ∧ over a W ws < ws.length := by
  obtain ⟨h1, h2⟩ := rs_pos (a := a) h ws
  rw [rs_over hW] at h1 h2
  refine ⟨?_, ?_⟩
  · rcases Int.lt_or_le (over a W ws) 0 with c | c
    · have := Int.mul_neg_of_pos_of_neg h c
      omega
    · exact c
  · rcases Int.lt_or_le (over a W ws) ws.length with c | c
    · exact c
    · have c2 : W * (ws.length : Int) ≤ W * over a W ws := Int.mul_le_mul_of_nonneg_left c (by omega)
      rw [Int.mul_sub, Int.mul_comm _ W] at h2
      omega
/-- the t-th of the order, and what is left behind it -/
theorem ord_step (h : 0 < W) {t : Nat} (ht : t < ws.length) : ∃ (k : Nat) (w : Int), (ordN a W ws)[t]? = some k ∧ ws[k]? = some w ∧ k ∉ (ordN a W ws).take t ∧
    (∀ i v, ws[i]? = some v → i ∉ (ordN a W ws).take t → a * v % W ≤ a * w % W ∧ (a * v % W = a * w % W → k ≤ i)) := by
  have hl : t < (srP a W ws).length := by rw [srP_len]; exact ht
  have hp := List.getElem?_eq_getElem hl
  obtain ⟨k, w, hk, e⟩ := srP_at (List.getElem_mem hl)
  have eo : (ordN a W ws)[t]? = some k := by
    unfold ordN
    rw [List.getElem?_map, hp, e]
    rfl
  have nd := ord_nodup a W ws
  have nk : k ∉ (ordN a W ws).take t := fun z => by
    obtain ⟨j, hj, ej⟩ := List.getElem_of_mem z
    rw [List.length_take] at hj
    have e1 : (ordN a W ws)[j]? = some k := by
      rw [List.getElem_take] at ej
      rw [List.getElem?_eq_getElem (by omega), ej]
    have := (List.getElem?_inj (i := j) (j := t) (by omega) nd).mp (e1.trans eo.symm)
    omega
  refine ⟨k, w, eo, hk, nk, fun i v hi ni => ?_⟩
  have hm : (-(a * v % W), (i : Int)) ∈ srP a W ws := (sortP_perm _).mem_iff.mpr (rkL_mem.mpr ⟨i, v, hi, by rw [Nat.zero_add]⟩)
  obtain ⟨j, hj, ej⟩ := List.getElem_of_mem hm
  have oj : (ordN a W ws)[j]? = some i := by
    unfold ordN
    rw [List.getElem?_map, List.getElem?_eq_getElem hj, ej]
    rfl
  have tj : t ≤ j := by
    rcases Nat.lt_or_ge j t with c | c
    · exact (ni (List.mem_iff_getElem?.mpr ⟨j, by rw [List.getElem?_take_of_lt c]; exact oj⟩)).elim
    · exact c
  have srt := sortP_sorted (rkL a W 0 ws)
  rcases Nat.lt_or_ge t j with c | c
  · have q := List.pairwise_iff_getElem.mp srt t j hl hj c
    rw [ej, e] at q
    have q := SrtO.lexB_no.mp q
    simp only at q
    refine ⟨by omega, fun z => by omega⟩
  · have : t = j := by omega
    subst this
    rw [ej] at e
    injection e with e1 e2
    refine ⟨by omega, fun _ => by omega⟩
/-- those that get one more have a remainder -/
theorem sum_le_neg : ∀ (l : List (Int × Int)) (B : Int), (∀ p ∈ l, -B ≤ p.1) → -((l.length : Int) * B) ≤ (l.map (·.1)).sum
  | [], B, _ => by simp
  | p :: l, B, h => by
    have ih := sum_le_neg l B fun q hq => h q (List.mem_cons_of_mem _ hq)
    have h0 := h p List.mem_cons_self
    rw [List.map_cons, List.sum_cons, List.length_cons]
    have e : ((l.length + 1 : Nat) : Int) * B = (l.length : Int) * B + B := by
      rw [Int.natCast_add, Int.add_mul]
      simp
    rw [e]
    omega
theorem sum_zero : ∀ (l : List (Int × Int)), (∀ p ∈ l, p.1 = 0) → (l.map (·.1)).sum = 0
  | [], _ => rfl
  | p :: l, h => by
    rw [List.map_cons, List.sum_cons, h p List.mem_cons_self, sum_zero l fun q hq => h q (List.mem_cons_of_mem _ hq)]
    rfl
theorem over_rest (h : 0 < W) (hW : ws.sum = W) (hn : 0 < ws.length) {t k : Nat} {w : Int} (ht : (t : Int) < over a W ws) (ho : (ordN a W ws)[t]? = some k) (hk : ws[k]? = some w) : 0 < a * w % W := by
  rcases Int.lt_or_le 0 (a * w % W) with c | c
  · exact c
  · exfalso
    have h0 := Int.emod_nonneg (a * w) (show W ≠ 0 by omega)
    have hlt := over_lt (a := a) h hW hn
    have htl : t < ws.length := by omega
    obtain ⟨k2, w2, o2, hk2, _, hm⟩ := ord_step (a := a) h htl
    rw [ho] at o2
    cases o2
    rw [hk] at hk2
    cases hk2
    have sp := sum_perm ((sortP_perm (rkL a W 0 ws)).map (·.1))
    rw [rkL_sum] at sp
    have rv := rs_over (a := a) hW
    unfold rs0 at rv
    rw [rv] at sp
    rw [← List.take_append_drop t (sortP (rkL a W 0 ws)), List.map_append, List.sum_append] at sp
    have z1 : (((sortP (rkL a W 0 ws)).drop t).map (·.1)).sum = 0 := sum_zero _ fun p hp => by
      obtain ⟨j, hj, ej⟩ := List.getElem_of_mem hp
      rw [List.getElem_drop] at ej
      rw [List.length_drop] at hj
      have hj2 : t + j < (sortP (rkL a W 0 ws)).length := by omega
      have mp : p ∈ srP a W ws := by rw [← ej]; exact List.getElem_mem _
      obtain ⟨i, v, hi, e⟩ := srP_at mp
      have oi : (ordN a W ws)[t + j]? = some i := by
        unfold ordN
        rw [List.getElem?_map, List.getElem?_eq_getElem hj2, ej, e]
        rfl
      have ni : i ∉ (ordN a W ws).take t := fun z => by
        obtain ⟨u, hu, eu⟩ := List.getElem_of_mem z
        rw [List.length_take] at hu
        rw [List.getElem_take] at eu
        have e1 : (ordN a W ws)[u]? = some i := by rw [List.getElem?_eq_getElem (by omega), eu]
        have := (List.getElem?_inj (i := u) (j := t + j) (by omega) (ord_nodup a W ws)).mp (e1.trans oi.symm)
        omega
      have q := (hm i v hi ni).1
      have q0 := Int.emod_nonneg (a * v) (show W ≠ 0 by omega)
      rw [e]
      show -(a * v % W) = 0
      omega
    have z2 := sum_le_neg ((sortP (rkL a W 0 ws)).take t) (W - 1) fun p hp => by
      obtain ⟨i, v, _, e⟩ := srP_at (List.mem_of_mem_take hp)
      have := Int.emod_lt_of_pos (a * v) h
      rw [e]
      show -(W - 1) ≤ -(a * v % W)
      omega
    have hl : ((sortP (rkL a W 0 ws)).take t).length ≤ t := by rw [List.length_take]; omega
    rw [z1] at sp
    have m1 : (((sortP (rkL a W 0 ws)).take t).length : Int) * (W - 1) ≤ (t : Int) * (W - 1) := Int.mul_le_mul_of_nonneg_right (by omega) (by omega)
    have m2 : W * ((t : Int) + 1) ≤ W * over a W ws := Int.mul_le_mul_of_nonneg_left (by omega) (by omega)
    have e3 : (t : Int) * (W - 1) = W * t - t := by rw [Int.mul_sub, Int.mul_comm _ W, Int.mul_one]
    have e4 : W * ((t : Int) + 1) = W * t + W := by rw [Int.mul_add, Int.mul_one]
    rw [e4] at m2
    rw [e3] at m1
    generalize (((sortP (rkL a W 0 ws)).take t).length : Int) * (W - 1) = u1 at *
    generalize (((sortP (rkL a W 0 ws)).take t).map (·.1)).sum = u2 at *
    generalize W * over a W ws = u3 at *
    generalize W * (t : Int) = u4 at *
    omega
/-- what each gets -/
def shareL (a W : Int) (ws : List Int) : List Int := bump (qs0 a W ws) ((ordN a W ws).take (over a W ws).toNat)
theorem share_len : (shareL a W ws).length = ws.length := by
  unfold shareL
  rw [bump_len, List.length_map]
theorem share_sum (h : 0 < W) (hW : ws.sum = W) (hn : 0 < ws.length) : (shareL a W ws).sum = a := by
  have hl := over_lt (a := a) h hW hn
  unfold shareL
  rw [bump_sum _ _ fun k hk => by rw [List.length_map]; exact ord_lt (List.mem_of_mem_take hk), List.length_take, ord_len]
  have e : a = (qs0 a W ws).sum + over a W ws := by unfold over; omega
  omega
theorem share_at (h : 0 < W) (hW : ws.sum = W) {k : Nat} {w : Int} (hk : ws[k]? = some w) : ∃ x, (shareL a W ws)[k]? = some x ∧ (-W < x * W - a * w ∧ x * W - a * w < W) ∧ (w = 0 → x = 0) := by
  have hkl := (List.getElem?_eq_some_iff.mp hk).1
  have hn : 0 < ws.length := by omega
  have nd : ((ordN a W ws).take (over a W ws).toNat).Nodup := (ord_nodup a W ws).sublist (List.take_sublist _ _)
  have e := bump_at ((ordN a W ws).take (over a W ws).toNat) (qs0 a W ws) k (a * w / W) nd (by rw [List.getElem?_map, hk]; rfl)
  have d := Int.mul_ediv_add_emod (a * w) W
  have h0 := Int.emod_nonneg (a * w) (show W ≠ 0 by omega)
  have h1 := Int.emod_lt_of_pos (a * w) h
  refine ⟨_, e, ?_⟩
  by_cases m : k ∈ (ordN a W ws).take (over a W ws).toNat
  · rw [if_pos m]
    obtain ⟨t, ht, et⟩ := List.getElem_of_mem m
    rw [List.length_take] at ht
    rw [List.getElem_take] at et
    have ot : (ordN a W ws)[t]? = some k := by rw [List.getElem?_eq_getElem (by omega), et]
    have pos := over_rest (a := a) h hW hn (t := t) (by omega) ot hk
    refine ⟨?_, fun z => ?_⟩
    · rw [Int.add_mul, Int.one_mul, Int.mul_comm _ W]
      omega
    · rw [z, Int.mul_zero, Int.zero_emod] at pos
      omega
  · rw [if_neg m]
    refine ⟨?_, fun z => ?_⟩
    · rw [Int.add_zero, Int.mul_comm _ W]
      omega
    · rw [z, Int.mul_zero, Int.zero_ediv]
      rfl
end
/-! ### the program's shares -/
theorem il_gd (xs : List Int) : Gd 1 (il xs) := by
  refine .lst ?_
  induction xs with
  | nil => exact .nil
  | cons x xs ih => exact .cons .int ih
theorem minD_il {ws : List Int} (h : ws ≠ []) : ∃ m, minD (il ws) = some (.int m) ∧ m ∈ ws ∧ ∀ y ∈ ws, m ≤ y := by
  cases ws with
  | nil => exact (h rfl).elim
  | cons n ns =>
    refine ⟨minI n ns, ?_, minI_spec ns n⟩
    show (intsD ((n :: ns).map D.int)).bind minO = _
    rw [intsD_map]
    rfl
theorem maxD_il {ws : List Int} (h : ws ≠ []) : ∃ m, maxD (il ws) = some (.int m) ∧ m ∈ ws ∧ ∀ y ∈ ws, y ≤ m := by
  cases ws with
  | nil => exact (h rfl).elim
  | cons n ns =>
    refine ⟨maxI n ns, ?_, maxI_spec ns n⟩
    show (intsD ((n :: ns).map D.int)).bind maxO = _
    rw [intsD_map]
    rfl
theorem sumD_il (ws : List Int) : sumD (il ws) = some (.int ws.sum) := by
  show (intsD (ws.map D.int)).map (fun ns => D.int ns.sum) = _
  rw [intsD_map]
  rfl
theorem tru_il (ws : List Int) : truD (il ws) = some (!ws.isEmpty) := by
  cases ws <;> rfl
theorem x_check_ok (n : Nat) {ws : List Int} (h0 : ∀ w ∈ ws, 0 ≤ w) (h1 : ∃ w ∈ ws, 0 < w) : run (n + 1) 2 [.d (il ws)] [] = .ok (.d .non) [] := by
  obtain ⟨w, hw, hp⟩ := h1
  have ne : ws ≠ [] := fun z => by rw [z] at hw; cases hw
  obtain ⟨m, e1, m1, _⟩ := minD_il ne
  obtain ⟨M, e2, _, m2⟩ := maxD_il ne
  have t1 := tru_il ws
  have em : ws.isEmpty = false := by cases ws with
    | nil => exact (ne rfl).elim
    | cons _ _ => rfl
  rw [em] at t1
  have f1 : ltD (.int m) (.int 0) = some (.bl false) := lt_f (by have := h0 m m1; omega)
  have f2 : eqD' (.int M) (.int 0) = some (.bl false) := eqi_f (by have := m2 w hw; omega)
  rw [run2]
  unfold b2
  generalize il ws = W at *
  repeat (first | walk_at "ev" | simp only [t1, e1, f1, e2, f2])
def BadW (ws : List Int) : Prop := ws = [] ∨ (∃ w ∈ ws, w < 0) ∨ ∀ w ∈ ws, w = 0
theorem x_check_bad (n : Nat) {ws : List Int} (h : BadW ws) : run (n + 1) 2 [.d (il ws)] [] = .ex ⟨2, []⟩ [] := by
  rw [run2]
  unfold b2
  by_cases ne : ws = []
  · have t1 := tru_il ws
    have em : ws.isEmpty = true := by rw [ne]; rfl
    rw [em] at t1
    generalize il ws = W at *
    repeat (first | walk_at "ev" | simp only [t1])
  · obtain ⟨m, e1, m0, m1⟩ := minD_il ne
    obtain ⟨M, e2, m2, _⟩ := maxD_il ne
    have t1 := tru_il ws
    have em : ws.isEmpty = false := by cases ws with
      | nil => exact (ne rfl).elim
      | cons _ _ => rfl
    rw [em] at t1
    rcases h with h | ⟨w, hw, hn⟩ | h
    · exact (ne h).elim
    · have f1 : ltD (.int m) (.int 0) = some (.bl true) := lt_t (by have := m1 w hw; omega)
      generalize il ws = W at *
      repeat (first | walk_at "ev" | simp only [t1, e1, f1])
    · have f1 : ltD (.int m) (.int 0) = some (.bl false) := lt_f (by have := h m m0; omega)
      have f2 : eqD' (.int M) (.int 0) = some (.bl true) := eqi_t (h M m2)
      generalize il ws = W at *
      repeat (first | walk_at "ev" | simp only [t1, e1, f1, e2, f2])
def rkD (a W : Int) : D → D
  | .tup [.int k, .int w] => .tup [.int (-(a * w % W)), .int k]
  | d => d
theorem rk_map (a W : Int) : ∀ (k : Nat) (ws : List Int), ((enumFrom k (ws.map D.int)).map D.tup).map (rkD a W) = (rkL a W k ws).map pairD
  | _, [] => rfl
  | k, w :: ws => by
    have := rk_map a W (k + 1) ws
    rw [List.map_cons, enumFrom, List.map_cons, List.map_cons, this, rkL, List.map_cons]
    rfl
theorem enum_mem {d : D} : ∀ {k : Nat} {ws : List Int}, d ∈ (enumFrom k (ws.map D.int)).map D.tup → ∃ (i : Int) (w : Int), w ∈ ws ∧ d = .tup [.int i, .int w]
  | k, [], h => by cases h
  | k, w :: ws, h => by
    rw [List.map_cons, enumFrom, List.map_cons] at h
    rcases List.mem_cons.mp h with rfl | h
    · exact ⟨(k : Int), w, List.mem_cons_self, rfl⟩
    · obtain ⟨i, v, hv, e⟩ := enum_mem h
      exact ⟨i, v, List.mem_cons_of_mem _ hv, e⟩
def sndD : D → D
  | .tup [_, x] => x
  | d => d
abbrev nl (l : List Nat) : List D := l.map fun k : Nat => D.int (k : Int)
theorem ord_snd (a W : Int) (ws : List Int) : ((srP a W ws).map pairD).map sndD = nl (ordN a W ws) := by
  unfold ordN nl
  rw [List.map_map, List.map_map]
  refine List.map_congr_left fun p hp => ?_
  obtain ⟨i, w, _, rfl⟩ := srP_at hp
  rfl
structure Wk (ws : List Int) : Prop where
  n1 : 1 ≤ ws.length
  n8 : ws.length ≤ 8
  bd : ∀ w ∈ ws, 0 ≤ w ∧ w < 1000000000
  ps : ∃ w ∈ ws, 0 < w
theorem sum_bd : ∀ {ws : List Int}, (∀ w ∈ ws, 0 ≤ w ∧ w < 1000000000) → 0 ≤ ws.sum ∧ ws.sum ≤ (ws.length : Int) * 1000000000 ∧ ∀ w ∈ ws, w ≤ ws.sum
  | [], _ => ⟨Int.le_refl _, Int.le_refl _, fun _ h => (List.not_mem_nil h).elim⟩
  | w :: ws, h => by
    obtain ⟨h1, h2, h3⟩ := sum_bd fun v hv => h v (List.mem_cons_of_mem _ hv)
    have h0 := h w List.mem_cons_self
    rw [List.sum_cons, List.length_cons]
    refine ⟨by omega, by omega, fun v hv => ?_⟩
    rcases List.mem_cons.mp hv with rfl | hv
    · omega
    · have := h3 v hv; omega
theorem Wk.sum {ws : List Int} (h : Wk ws) : 0 < ws.sum ∧ ws.sum ≤ 8000000000 := by
  obtain ⟨h1, h2, h3⟩ := sum_bd h.bd
  obtain ⟨w, hw, hp⟩ := h.ps
  have := h3 w hw
  have := h.n8
  omega
theorem fdivw_ok {i j : Int} (h1 : 0 < j) (h2 : j ≤ 8000000000) : fdivW (.int i) (.int j) = some (.int (i / j)) := by
  refine if_pos ⟨h1, ?_⟩
  have : j.natAbs.log2 < 64 := (Nat.log2_lt (by omega)).mpr (by omega)
  omega
theorem x_by_remainder (n : Nat) (a : Int) {ws : List Int} (h : Wk ws) : run (n + 1) 3 [.d (.int a), .d (il ws)] [] = .ok (.d (.lst (nl (ordN a ws.sum ws)))) [] := by
  obtain ⟨hW, hW2⟩ := h.sum
  have s1 := sumD_il ws
  have zz : (enumD (ws.map D.int)).length ≤ sizeLine := by
    unfold enumD
    rw [List.length_map, enumFrom_len, List.length_map]
    exact small (by have := h.n8; omega)
  have c1 : compL (gT 2 (gsC (gN 4) (gsC (gN 5) gsN))) bYes (eTup (aC (eOp1 negD (eOp2 modD (eOp2 mulD (eV 0) (eV 5)) (eV 2))) (aC (eV 4) aN))) (wipeL [some (.d (.int a)), some (.d (il ws)), some (.d (.int ws.sum)), none, none, none, none] [4, 5]) (enumD (ws.map D.int)) [] [] = .ok ((rkL a ws.sum 0 ws).map pairD) [] := by
    rw [← rk_map]
    refine compL_all (rkD a ws.sum) [] _ fun d hd => ?_
    obtain ⟨i, w, hw, rfl⟩ := enum_mem hd
    have hb := h.bd w hw
    have e1 : mulD (.int a) (.int w) = some (.int (a * w)) := mul_r (by omega) (by omega)
    have e2 : modD (.int (a * w)) (.int ws.sum) = some (.int (a * w % ws.sum)) := mod_ok hW
    have e3 : negD (.int (a * w % ws.sum)) = some (.int (-(a * w % ws.sum))) := rfl
    refine ⟨[some (.d (.int a)), some (.d (il ws)), some (.d (.int ws.sum)), none, some (.d (.int i)), some (.d (.int w)), none], rfl, ?_⟩
    show _ = R.ok (Val.d (.tup [.int (-(a * w % ws.sum)), .int i])) []
    repeat (first | walk_at "ev" | simp only [e1, e2, e3])
  have s2 : sortedD (.lst ((rkL a ws.sum 0 ws).map pairD)) = some (.lst ((srP a ws.sum ws).map pairD)) := by
    show (pairsD ((rkL a ws.sum 0 ws).map pairD)).map (fun ps => D.lst ((sortP ps).map pairD)) = _
    rw [pairsD_map]
    rfl
  have z2 : ((srP a ws.sum ws).map pairD).length ≤ sizeLine := by rw [List.length_map, srP_len]; exact small (by have := h.n8; omega)
  have c2 : compL (gT 2 (gsC (gN 6) (gsC (gN 4) gsN))) bYes (eV 4) (wipeL [some (.d (.int a)), some (.d (il ws)), some (.d (.int ws.sum)), some (.d (.lst ((rkL a ws.sum 0 ws).map pairD))), none, none, none] [6, 4]) ((srP a ws.sum ws).map pairD) [] [] = .ok (nl (ordN a ws.sum ws)) [] := by
    rw [← ord_snd]
    refine compL_all sndD [] _ fun d hd => ?_
    obtain ⟨p, hp, rfl⟩ := List.mem_map.mp hd
    refine ⟨[some (.d (.int a)), some (.d (il ws)), some (.d (.int ws.sum)), some (.d (.lst ((rkL a ws.sum 0 ws).map pairD))), some (.d (.int p.2)), none, some (.d (.int p.1))], rfl, ?_⟩
    show _ = R.ok (Val.d (.int p.2)) []
    repeat (first | walk_at "ev" | simp only [])
  rw [run3]
  unfold b3
  generalize (srP a ws.sum ws).map pairD = SD at *
  generalize (rkL a ws.sum 0 ws).map pairD = RD at *
  generalize nl (ordN a ws.sum ws) = OD at *
  repeat (first | walk_at "ev" | simp only [s1, zz, c1, s2, z2, c2])
theorem aug_set {ps : List Int} {k : Nat} (h : k < ps.length) : augLC (k : Int) 1 (some (.lst (ps.map D.int))) = some (.lst ((ps.set k (ps.getD k 0 + 1)).map D.int)) := by
  have e : (ps.map D.int)[k]? = some (.int (ps.getD k 0)) := by
    rw [List.getElem?_map, List.getD_eq_getElem?_getD, List.getElem?_eq_getElem h]
    rfl
  rw [augLC_nat e, List.map_set]
theorem aug_loop {a0 a1 a2 a4 a5 : Option Val} : ∀ (l : List Nat) (ps : List Int) (x6 : Option Val), (∀ k ∈ l, k < ps.length) → ∃ y6,
    forL (gN 6) (sAugL (eV 3) (eV 6) 1) (nl l) [a0, a1, a2, some (.ref 0), a4, a5, x6] [.lst (ps.map D.int)] = .nx [a0, a1, a2, some (.ref 0), a4, a5, y6] [.lst ((bump ps l).map D.int)]
  | [], ps, x6, _ => ⟨x6, forL_nil⟩
  | k :: l, ps, x6, h => by
    have e := aug_set (h k List.mem_cons_self)
    obtain ⟨y6, ih⟩ := aug_loop (a0 := a0) (a1 := a1) (a2 := a2) (a4 := a4) (a5 := a5) l (ps.set k (ps.getD k 0 + 1)) (some (.d (.int (k : Int)))) fun j hj => by rw [List.length_set]; exact h j (List.mem_cons_of_mem _ hj)
    refine ⟨y6, ?_⟩
    rw [show nl (k :: l) = .int (k : Int) :: nl l from rfl, forL_cons, bump]
    generalize nl l = L1 at *
    repeat (first | walk_at "ev" | simp only [sAugL_eq, augLst_eq, e, ih])
theorem cut_tk {α : Type} (xs : List α) (m : Nat) : cutD xs none (some (m : Int)) = xs.take m := by
  unfold cutD
  rw [HT.sIx_nat, HT.sIx_none, List.drop_zero, Nat.sub_zero]
  rcases Nat.le_total m xs.length with c | c
  · rw [Nat.min_eq_left c]
  · rw [Nat.min_eq_right c, List.take_length, List.take_of_length_le c]
theorem x_share (n : Nat) (a : Int) {ws : List Int} (h : Wk ws) : run (n + 2) 1 [.d (.int a), .d (il ws)] [] = .ok (.ref 0) [.lst ((shareL a ws.sum ws).map D.int)] := by
  obtain ⟨hW, hW2⟩ := h.sum
  have s1 := sumD_il ws
  have e1 := x_check_ok n (fun w hw => (h.bd w hw).1) h.ps
  have e2 := x_by_remainder n a h
  have zz : (ws.map D.int).length ≤ sizeLine := by rw [List.length_map]; exact small (by have := h.n8; omega)
  have c1 : compL (gN 4) bYes (eOp2 fdivW (eOp2 mulD (eV 0) (eV 4)) (eV 2)) (wipeL [some (.d (.int a)), some (.d (il ws)), some (.d (.int ws.sum)), none, none, none, none] [4]) (ws.map D.int) [] [] = .ok ((qs0 a ws.sum ws).map D.int) [] := by
    have := compL_all (g := gN 4) (e := eOp2 fdivW (eOp2 mulD (eV 0) (eV 4)) (eV 2)) (Lw := wipeL [some (.d (.int a)), some (.d (il ws)), some (.d (.int ws.sum)), none, none, none, none] [4]) (fun d => match d with
      | .int w => .int (a * w / ws.sum)
      | d => d) [] (ws.map D.int) fun d hd => by
        obtain ⟨w, hw, rfl⟩ := List.mem_map.mp hd
        have hb := h.bd w hw
        have e1 : mulD (.int a) (.int w) = some (.int (a * w)) := mul_r (by omega) (by omega)
        have e2 : fdivW (.int (a * w)) (.int ws.sum) = some (.int (a * w / ws.sum)) := fdivw_ok hW hW2
        refine ⟨[some (.d (.int a)), some (.d (il ws)), some (.d (.int ws.sum)), none, some (.d (.int w)), none, none], rfl, ?_⟩
        repeat (first | walk_at "ev" | simp only [e1, e2])
    rw [this]
    unfold qs0
    rw [List.map_map, List.map_map]
    rfl
  have s2 := sumD_il (qs0 a ws.sum ws)
  have f1 : subD (.int a) (.int (qs0 a ws.sum ws).sum) = some (.int (over a ws.sum ws)) := rfl
  have hl := over_lt (a := a) hW rfl (show 0 < ws.length from h.n1)
  have s3 : slD (.lst (nl (ordN a ws.sum ws))) none (some (over a ws.sum ws)) = some (.lst (nl ((ordN a ws.sum ws).take (over a ws.sum ws).toNat))) := by
    show some (D.lst (cutD (nl (ordN a ws.sum ws)) none (some (over a ws.sum ws)))) = _
    rw [show over a ws.sum ws = (((over a ws.sum ws).toNat : Nat) : Int) by omega, cut_tk]
    unfold nl
    rw [List.map_take, Int.toNat_natCast]
  obtain ⟨y6, g⟩ := aug_loop (a0 := some (.d (.int a))) (a1 := some (.d (il ws))) (a2 := some (.d (.int ws.sum))) (a4 := none) (a5 := some (.d (.int (over a ws.sum ws)))) ((ordN a ws.sum ws).take (over a ws.sum ws).toNat) (qs0 a ws.sum ws) none fun k hk => by rw [List.length_map]; exact ord_lt (List.mem_of_mem_take hk)
  have z3 : (nl ((ordN a ws.sum ws).take (over a ws.sum ws).toNat)).length ≤ sizeLine := by
    rw [List.length_map, List.length_take, ord_len]
    exact small (by have := h.n8; omega)
  rw [run1]
  unfold b1 shareL
  generalize nl ((ordN a ws.sum ws).take (over a ws.sum ws).toNat) = L9 at *
  generalize nl (ordN a ws.sum ws) = L8 at *
  generalize over a ws.sum ws = ov at *
  repeat (first | walk_at "ev" | simp only [e1, s1, zz, c1, s2, f1, e2, s3, z3, g])
theorem x_share_bad (n : Nat) (a : Int) {ws : List Int} (h : BadW ws) : run (n + 2) 1 [.d (.int a), .d (il ws)] [] = .ex ⟨2, []⟩ [] := by
  have e1 := x_check_bad n h
  rw [run1]
  unfold b1
  generalize il ws = W at *
  repeat (first | walk_at "ev" | simp only [e1])
/-! ### the law -/
theorem x_law_refused (n : Nat) (a : Int) {ws : List Int} (h : BadW ws) : run (n + 3) 6 [.d (.int a), .d (il ws)] [] = .ok (.d (.bl true)) [] := by
  have e1 := x_share_bad n a h
  have w1 : tx_WritError 2 = some true := rfl
  have t1 : tx_NotAllowed 2 = some true := rfl
  have t2 : tx_UnknownName 2 = some false := rfl
  have t3 : tx_BadText 2 = some false := rfl
  rw [run6]
  unfold b6
  generalize il ws = W at *
  repeat (first | walk_at "ev" | simp only [e1, w1, t1, t2, t3])
theorem idx_rw {xs : List Int} {i : Nat} (hr : inRow xs) (h : i < xs.length) : ∃ x, (0 ≤ x ∧ x < 1000) ∧ xs[i]? = some x ∧ idxD (il xs) (.int (i : Int)) = some (.int x) := by
  refine ⟨xs[i], hr _ (List.getElem_mem _), List.getElem?_eq_getElem h, ?_⟩
  exact idx_lst (by rw [List.getElem?_map, List.getElem?_eq_getElem h]; rfl)
theorem idx_last (acc : List D) (x : D) : idxD (.lst (acc ++ [x])) (.int (-1)) = some x := by
  show atI (acc ++ [x]) (-1) = some x
  unfold atI ixN
  rw [if_neg (by decide), if_pos (by rw [List.length_append, List.length_singleton]; omega), Option.bind_some, List.length_append, List.length_singleton]
  rw [show ((-1 : Int) + ((acc.length + 1 : Nat) : Int)).toNat = acc.length by omega, List.getElem?_append_right (Nat.le_refl _), Nat.sub_self]
  rfl
theorem two_loop {a W : Int} (hW : 0 < W) (hW2 : W ≤ 8000000000) {a1 a6 a7 : Option Val} : ∀ (ws ps rs : List Int) (x5 : Option Val), (∀ w ∈ ws, 0 ≤ w ∧ w < 1000000000) → ps.length + ws.length ≤ 1000 → rs.length = ps.length → ∃ y5,
    forL (gN 5) (sSeq (sEx (eAppend (eV 3) (eOp2 fdivW (eOp1 intD (eOp2 mulD (eV 0) (eV 5))) (eV 2))))
    (sEx (eAppend (eV 4) (eOp2 subD (eOp2 mulD (eV 0) (eV 5)) (eOp2 mulD (eIdx (eV 3) (eOp1 negD (eC (.int 1)))) (eV 2)))))) (ws.map D.int) [some (.d (.int a)), a1, some (.d (.int W)), some (.ref 0), some (.ref 1), x5, a6, a7] [.lst (ps.map D.int), .lst (rs.map D.int)] =
    .nx [some (.d (.int a)), a1, some (.d (.int W)), some (.ref 0), some (.ref 1), y5, a6, a7] [.lst ((ps ++ qs0 a W ws).map D.int), .lst ((rs ++ rs0 a W ws).map D.int)]
  | [], ps, rs, x5, _, _, _ => ⟨x5, by rw [List.map_nil, forL_nil]; simp⟩
  | w :: ws, ps, rs, x5, h, hz, hl => by
    have hb := h w List.mem_cons_self
    rw [List.length_cons] at hz
    obtain ⟨y5, ih⟩ := two_loop hW hW2 (a := a) (a1 := a1) (a6 := a6) (a7 := a7) ws (ps ++ [a * w / W]) (rs ++ [a * w % W]) (some (.d (.int w))) (fun v hv => h v (List.mem_cons_of_mem _ hv)) (by rw [List.length_append, List.length_singleton]; omega) (by rw [List.length_append, List.length_append, hl]; rfl)
    refine ⟨y5, ?_⟩
    have e1 : mulD (.int a) (.int w) = some (.int (a * w)) := mul_r (by omega) (by omega)
    have e2 : fdivW (.int (a * w)) (.int W) = some (.int (a * w / W)) := fdivw_ok hW hW2
    have e3 : idxD (.lst (ps.map D.int ++ [.int (a * w / W)])) (.int (-1)) = some (.int (a * w / W)) := idx_last _ _
    have e4 : mulD (.int (a * w / W)) (.int W) = some (.int (a * w / W * W)) := mul_r (by omega) (by omega)
    have e5 : subD (.int (a * w)) (.int (a * w / W * W)) = some (.int (a * w % W)) := by
      show some (D.int (a * w - a * w / W * W)) = _
      rw [Int.emod_def, Int.mul_comm W]
    have e6 : negD (.int 1) = some (.int (-1)) := rfl
    have z1 : (ps.map D.int).length < sizeLine := by rw [List.length_map]; exact Nat.lt_of_lt_of_le (m := 1000000) (by omega) (small (Nat.le_refl _))
    have z2 : (rs.map D.int).length < sizeLine := by rw [List.length_map, hl]; exact Nat.lt_of_lt_of_le (m := 1000000) (by omega) (small (Nat.le_refl _))
    have m1 : (ps ++ [a * w / W]).map D.int = ps.map D.int ++ [.int (a * w / W)] := by rw [List.map_append]; rfl
    have m2 : (rs ++ [a * w % W]).map D.int = rs.map D.int ++ [.int (a * w % W)] := by rw [List.map_append]; rfl
    rw [m1, m2] at ih
    have m3 : ps ++ [a * w / W] ++ qs0 a W ws = ps ++ qs0 a W (w :: ws) := by rw [List.append_assoc]; rfl
    have m4 : rs ++ [a * w % W] ++ rs0 a W ws = rs ++ rs0 a W (w :: ws) := by rw [List.append_assoc]; rfl
    rw [m3, m4] at ih
    rw [List.map_cons, forL_cons]
    generalize (ps ++ qs0 a W (w :: ws)).map D.int = U1 at *
    generalize (rs ++ rs0 a W (w :: ws)).map D.int = U2 at *
    generalize ps.map D.int = P1 at *
    generalize rs.map D.int = R1 at *
    generalize ws.map D.int = W1 at *
    repeat (first | walk_at "ev" | simp only [e1, int_i, e2, z1, e6, e3, e4, e5, z2, ih])
theorem ixI_of {y : Int} : ∀ {xs : List Int} {k n : Nat}, xs[k]? = some y → (∀ m, m < k → xs[m]? ≠ some y) → ixI y xs n = some (n + k)
  | [], k, n, h, _ => by simp at h
  | x :: xs, 0, n, h, _ => by
    cases h
    exact if_pos rfl
  | x :: xs, k + 1, n, h, h2 => by
    have e : x ≠ y := fun z => h2 0 (by omega) (by rw [z]; rfl)
    unfold ixI
    rw [if_neg e, ixI_of (k := k) (n := n + 1) h fun m hm => h2 (m + 1) (by omega)]
    congr 1
    omega
theorem turn_loop {a W : Int} {ws : List Int} (hW : 0 < W) (hS : ws.sum = W) (hn : 0 < ws.length) {a0 a1 a2 a5 : Option Val} : ∀ (j t : Nat) (x6 x7 : Option Val), t + j ≤ (over a W ws).toNat → ∃ y6 y7,
    forL (gN 6) (sSeq (sAsg (eIndex (eV 4) (eOp1 maxD (eV 4))) (gN 7))
    (sSeq (sPutL (eV 3) (eV 7) (eOp2 addD (eIdx (eV 3) (eV 7)) (eC (.int 1))))
    (sPutL (eV 4) (eV 7) (eOp1 negD (eC (.int 1)))))) (rng (t : Int) j) [a0, a1, a2, some (.ref 0), some (.ref 1), a5, x6, x7] [.lst ((bump (qs0 a W ws) ((ordN a W ws).take t)).map D.int), .lst ((gone (rs0 a W ws) ((ordN a W ws).take t)).map D.int)] =
    .nx [a0, a1, a2, some (.ref 0), some (.ref 1), a5, y6, y7] [.lst ((bump (qs0 a W ws) ((ordN a W ws).take (t + j))).map D.int), .lst ((gone (rs0 a W ws) ((ordN a W ws).take (t + j))).map D.int)] := by
  intro j
  induction j with
  | zero => intro t x6 x7 _; exact ⟨x6, x7, by rw [rng_zero, forL_nil]; rfl⟩
  | succ j ih =>
    intro t x6 x7 ht
    have hl := over_lt (a := a) hW hS hn
    obtain ⟨k, w, o1, hk, nk, hm⟩ := ord_step (a := a) hW (ws := ws) (t := t) (by omega)
    obtain ⟨y6, y7, ih⟩ := ih (t + 1) (some (.d (.int (t : Int)))) (some (.d (.int (k : Int)))) (by omega)
    refine ⟨y6, y7, ?_⟩
    have tk : (ordN a W ws).take (t + 1) = (ordN a W ws).take t ++ [k] := by rw [List.take_add_one, o1]; rfl
    rw [tk, bump_app, gone_app, show t + 1 + j = t + (j + 1) by omega] at ih
    have hkl := (List.getElem?_eq_some_iff.mp hk).1
    have hx : (bump (qs0 a W ws) ((ordN a W ws).take t)).length = ws.length := by rw [bump_len, List.length_map]
    have hy : (gone (rs0 a W ws) ((ordN a W ws).take t)).length = ws.length := by rw [gone_len, List.length_map]
    have hP := List.getElem?_eq_getElem (show k < (bump (qs0 a W ws) ((ordN a W ws).take t)).length by omega)
    have hR : (gone (rs0 a W ws) ((ordN a W ws).take t))[k]? = some (a * w % W) := by
      rw [gone_at _ _ k (a * w % W) (by rw [List.getElem?_map, hk]; rfl), if_neg nk]
    have gt : ∀ (i : Nat) (x : Int), (gone (rs0 a W ws) ((ordN a W ws).take t))[i]? = some x → (x = -1 ∨ ∃ v, ws[i]? = some v ∧ i ∉ (ordN a W ws).take t ∧ x = a * v % W) := fun i x hi => by
      have il := (List.getElem?_eq_some_iff.mp hi).1
      have hv := List.getElem?_eq_getElem (show i < ws.length by omega)
      rw [gone_at _ _ i (a * ws[i] % W) (by rw [List.getElem?_map, hv]; rfl)] at hi
      by_cases m : i ∈ (ordN a W ws).take t
      · rw [if_pos m] at hi; cases hi; exact .inl rfl
      · rw [if_neg m] at hi; cases hi; exact .inr ⟨_, hv, m, rfl⟩
    have r0 := Int.emod_nonneg (a * w) (show W ≠ 0 by omega)
    have neR : gone (rs0 a W ws) ((ordN a W ws).take t) ≠ [] := fun z => by rw [z] at hy; simp at hy; omega
    obtain ⟨M, e1, m1, m2⟩ := maxD_il neR
    have eM : M = a * w % W := by
      refine Int.le_antisymm ?_ (m2 _ (List.mem_of_getElem? hR))
      obtain ⟨i, hi⟩ := List.mem_iff_getElem?.mp m1
      rcases gt i M hi with z | ⟨v, hv, ni, z⟩
      · omega
      · rw [z]; exact (hm i v hv ni).1
    subst eM
    have e2 : ixOfV (some (il (gone (rs0 a W ws) ((ordN a W ws).take t)))) (.d (.int (a * w % W))) = some (.int (k : Int)) := by
      show (intsD ((gone (rs0 a W ws) ((ordN a W ws).take t)).map D.int)).bind (fun ns => (ixI (a * w % W) ns 0).map fun j => D.int (j : Nat)) = _
      rw [intsD_map, Option.bind_some, ixI_of hR fun m hmk hz => by
        rcases gt m _ hz with z | ⟨v, hv, ni, z⟩
        · omega
        · have := (hm m v hv ni).2 z.symm
          omega, Nat.zero_add]
      rfl
    have e3 : idxD (.lst ((bump (qs0 a W ws) ((ordN a W ws).take t)).map D.int)) (.int (k : Int)) = some (.int (bump (qs0 a W ws) ((ordN a W ws).take t))[k]) := idx_lst (by rw [List.getElem?_map, hP]; rfl)
    have e4 : addD (.int (bump (qs0 a W ws) ((ordN a W ws).take t))[k]) (.int 1) = some (.int ((bump (qs0 a W ws) ((ordN a W ws).take t))[k] + 1)) := rfl
    have e5 := putLC_nat (ds := (bump (qs0 a W ws) ((ordN a W ws).take t)).map D.int) (i := k) (x := .int ((bump (qs0 a W ws) ((ordN a W ws).take t))[k] + 1)) (by rw [List.length_map]; omega)
    have e6 : negD (.int 1) = some (.int (-1)) := rfl
    have e7 := putLC_nat (ds := (gone (rs0 a W ws) ((ordN a W ws).take t)).map D.int) (i := k) (x := .int (-1)) (by rw [List.length_map]; omega)
    have b1 : (bump (bump (qs0 a W ws) ((ordN a W ws).take t)) [k]).map D.int = ((bump (qs0 a W ws) ((ordN a W ws).take t)).map D.int).set k (.int ((bump (qs0 a W ws) ((ordN a W ws).take t))[k] + 1)) := by
      rw [bump, bump, List.map_set, List.getD_eq_getElem?_getD, hP]
      rfl
    have b2 : (gone (gone (rs0 a W ws) ((ordN a W ws).take t)) [k]).map D.int = ((gone (rs0 a W ws) ((ordN a W ws).take t)).map D.int).set k (.int (-1)) := by
      rw [gone, gone, List.map_set]
    have hcst : ((t : Int) + 1) = ((t + 1 : Nat) : Int) := rfl
    have e1 : maxD (.lst ((gone (rs0 a W ws) ((ordN a W ws).take t)).map D.int)) = some (.int (a * w % W)) := e1
    have e2 : ixOfV (some (.lst ((gone (rs0 a W ws) ((ordN a W ws).take t)).map D.int))) (.d (.int (a * w % W))) = some (.int (k : Int)) := e2
    rw [b1, b2] at ih
    rw [rng_cons, forL_cons, hcst]
    generalize (bump (qs0 a W ws) ((ordN a W ws).take t))[k] = vx at *
    generalize (bump (qs0 a W ws) ((ordN a W ws).take (t + (j + 1)))).map D.int = U1 at *
    generalize (gone (rs0 a W ws) ((ordN a W ws).take (t + (j + 1)))).map D.int = U2 at *
    generalize (bump (qs0 a W ws) ((ordN a W ws).take t)).map D.int = P1 at *
    generalize hR1 : (gone (rs0 a W ws) ((ordN a W ws).take t)).map D.int = R1 at *
    repeat (first | walk_at "ev" | simp only [eIndex_eq, e1, e2, e3, e4, e5, e6, e7, ih])
theorem x_law_parts (n : Nat) (a : Int) {ws : List Int} (h : Wk ws) : run (n + 1) 8 [.d (.int a), .d (il ws)] [] = .ok (.ref 0) [.lst ((shareL a ws.sum ws).map D.int), .lst ((gone (rs0 a ws.sum ws) ((ordN a ws.sum ws).take (over a ws.sum ws).toNat)).map D.int)] := by
  obtain ⟨hW, hW2⟩ := h.sum
  have s1 := sumD_il ws
  have s2 := sumD_il (qs0 a ws.sum ws)
  have zz : (ws.map D.int).length ≤ sizeLine := by rw [List.length_map]; exact small (by have := h.n8; omega)
  obtain ⟨y5, g1⟩ := two_loop hW hW2 (a := a) (a1 := some (.d (il ws))) (a6 := none) (a7 := none) ws [] [] none h.bd (by have := h.n8; simp; omega) rfl
  rw [List.nil_append, List.nil_append] at g1
  have g1 : forL _ _ _ _ [.lst [], .lst []] = _ := g1
  have hl := over_lt (a := a) hW rfl (show 0 < ws.length from h.n1)
  obtain ⟨y6, y7, g2⟩ := turn_loop hW rfl (show 0 < ws.length from h.n1) (a := a) (a0 := some (.d (.int a))) (a1 := some (.d (il ws))) (a2 := some (.d (.int ws.sum))) (a5 := y5) (over a ws.sum ws).toNat 0 none none (by omega)
  rw [Nat.zero_add, show (((0 : Nat)) : Int) = 0 from rfl] at g2
  have g2 : forL (gN 6) _ (rng 0 (over a ws.sum ws).toNat) _ [.lst ((qs0 a ws.sum ws).map D.int), .lst ((rs0 a ws.sum ws).map D.int)] = _ := g2
  have f1 : subD (.int a) (.int (qs0 a ws.sum ws).sum) = some (.int (((over a ws.sum ws).toNat : Nat) : Int)) := by
    rw [show (((over a ws.sum ws).toNat : Nat) : Int) = over a ws.sum ws by omega]
    rfl
  have ir : iR1 (eOp2 subD (eV 0) (eOp1 sumD (eV 3))) [some (.d (.int a)), some (.d (il ws)), some (.d (.int ws.sum)), some (.ref 0), some (.ref 1), y5, none, none] [.lst ((qs0 a ws.sum ws).map D.int), .lst ((rs0 a ws.sum ws).map D.int)] = .ok (rng 0 (over a ws.sum ws).toNat) [.lst ((qs0 a ws.sum ws).map D.int), .lst ((rs0 a ws.sum ws).map D.int)] := iR1_nat (by repeat (first | walk_at "ev" | simp only [s2, f1])) (by have := h.n8; omega)
  have z0 : ([] : List Val).length ≤ 1000 := by decide
  rw [run8]
  unfold b8 shareL
  generalize iR1 (eOp2 subD (eV 0) (eOp1 sumD (eV 3))) = IR at *
  generalize (bump (qs0 a ws.sum ws) ((ordN a ws.sum ws).take (over a ws.sum ws).toNat)).map D.int = U1 at *
  generalize (gone (rs0 a ws.sum ws) ((ordN a ws.sum ws).take (over a ws.sum ws).toNat)).map D.int = U2 at *
  repeat (first | walk_at "ev" | simp only [s1, z0, zz, g1, ir, g2])
theorem wt_loop {xs : List Int} (hr : inRow xs) (hxl : 30 ≤ xs.length) : ∀ (j lo : Nat) (acc : List Int) (x2 x3 : Option Val), lo + j ≤ 8 → acc.length = lo → (∀ w ∈ acc, 0 ≤ w ∧ w < 1000000000) → ∃ (acc' : List Int) (y2 y3 : Option Val), acc'.length = lo + j ∧ (∀ w ∈ acc', 0 ≤ w ∧ w < 1000000000) ∧
    forL (gN 2) (sSeq (sAsg (eOp2 modD (eOp1 intD (eIdx (eV 0) (eOp2 addD (eC (.int 2)) (eV 2)))) (eC (.int 13))) (gN 3))
    (sSeq (sIf (bE (eOp2 eqD' (eOp2 modD (eOp1 intD (eIdx (eV 0) (eC (.int 1)))) (eC (.int 3))) (eC (.int 0)))) (sAsg (eOp2 addD (eOp2 mulD (eIdx (eV 0) (eOp2 addD (eC (.int 2)) (eV 2))) (eC (.int 1000000))) (eIdx (eV 0) (eOp2 addD (eC (.int 10)) (eV 2)))) (gN 3)) sNx)
    (sSeq (sIf (bE (eOp2 eqD' (eOp2 modD (eOp1 intD (eIdx (eV 0) (eOp2 addD (eC (.int 18)) (eV 2)))) (eC (.int 5))) (eC (.int 0)))) (sAsg (eC (.int 0)) (gN 3)) sNx)
    (sEx (eAppend (eV 1) (eV 3)))))) (rng (lo : Int) j) [some (.d (il xs)), some (.ref 0), x2, x3] [.lst (acc.map D.int)] = .nx [some (.d (il xs)), some (.ref 0), y2, y3] [.lst (acc'.map D.int)] := by
  intro j
  induction j with
  | zero => intro lo acc x2 x3 _ h1 h2; exact ⟨acc, x2, x3, h1, h2, by rw [rng_zero, forL_nil]⟩
  | succ j ih =>
    intro lo acc x2 x3 hl h1 h2
    obtain ⟨v2, b2', _, g2⟩ := idx_rw (i := 2 + lo) hr (by omega)
    obtain ⟨v10, b10, _, g10⟩ := idx_rw (i := 10 + lo) hr (by omega)
    obtain ⟨v18, b18, _, g18⟩ := idx_rw (i := 18 + lo) hr (by omega)
    obtain ⟨v1, b1', _, g1⟩ := idx_rw (i := 1) hr (by omega)
    have g1 : idxD (il xs) (.int 1) = some (.int v1) := g1
    have a2 : addD (.int 2) (.int (lo : Int)) = some (.int ((2 + lo : Nat) : Int)) := by
      show some (D.int (2 + (lo : Int))) = _
      congr 2
    have a10 : addD (.int 10) (.int (lo : Int)) = some (.int ((10 + lo : Nat) : Int)) := by
      show some (D.int (10 + (lo : Int))) = _
      congr 2
    have a18 : addD (.int 18) (.int (lo : Int)) = some (.int ((18 + lo : Nat) : Int)) := by
      show some (D.int (18 + (lo : Int))) = _
      congr 2
    have m1 := mod_ok (i := v2) (j := 13) (by decide)
    have m2 := mod_ok (i := v1) (j := 3) (by decide)
    have m3 := mod_ok (i := v18) (j := 5) (by decide)
    have e1 : mulD (.int v2) (.int 1000000) = some (.int (v2 * 1000000)) := mul_r (by decide) (by decide)
    have e2 : addD (.int (v2 * 1000000)) (.int v10) = some (.int (v2 * 1000000 + v10)) := rfl
    have zz : (acc.map D.int).length < sizeLine := by rw [List.length_map]; exact Nat.lt_of_lt_of_le (m := 1000000) (by omega) (small (Nat.le_refl _))
    have hcst : ((lo : Int) + 1) = ((lo + 1 : Nat) : Int) := rfl
    obtain ⟨w, hw, hb⟩ : ∃ w : Int, w = (if v18 % 5 = 0 then 0 else if v1 % 3 = 0 then v2 * 1000000 + v10 else v2 % 13) ∧ 0 ≤ w ∧ w < 1000000000 := by
      refine ⟨_, rfl, ?_⟩
      split
      · omega
      · split <;> omega
    obtain ⟨acc', y2, y3, k1, k2, ih⟩ := ih (lo + 1) (acc ++ [w]) (some (.d (.int (lo : Int)))) (some (.d (.int w))) (by omega) (by rw [List.length_append, h1]; rfl) (fun u hu => by
      rcases List.mem_append.mp hu with hu | hu
      · exact h2 u hu
      · rw [List.mem_singleton.mp hu]; exact hb)
    refine ⟨acc', y2, y3, by omega, k2, ?_⟩
    rw [show (acc ++ [w]).map D.int = acc.map D.int ++ [.int w] by rw [List.map_append]; rfl] at ih
    rw [rng_cons, forL_cons, hcst]
    generalize acc'.map D.int = A2 at *
    generalize acc.map D.int = A1 at *
    generalize il xs = X at *
    by_cases c1 : v18 % 5 = 0
    · rw [if_pos c1] at hw
      have q1 := eqi_t c1
      by_cases c2 : v1 % 3 = 0
      · have q2 := eqi_t c2
        rw [hw] at ih
        repeat (first | walk_at "ev" | simp only [a2, g2, int_i, m1, g1, m2, q2, e1, a10, g10, e2, a18, g18, m3, q1, zz, ih])
      · have q2 := eqi_f c2
        rw [hw] at ih
        repeat (first | walk_at "ev" | simp only [a2, g2, int_i, m1, g1, m2, q2, e1, a10, g10, e2, a18, g18, m3, q1, zz, ih])
    · rw [if_neg c1] at hw
      have q1 := eqi_f c1
      by_cases c2 : v1 % 3 = 0
      · have q2 := eqi_t c2
        rw [if_pos c2] at hw
        rw [hw] at ih
        repeat (first | walk_at "ev" | simp only [a2, g2, int_i, m1, g1, m2, q2, e1, a10, g10, e2, a18, g18, m3, q1, zz, ih])
      · have q2 := eqi_f c2
        rw [if_neg c2] at hw
        rw [hw] at ih
        repeat (first | walk_at "ev" | simp only [a2, g2, int_i, m1, g1, m2, q2, e1, a10, g10, e2, a18, g18, m3, q1, zz, ih])
theorem x_law_weights (n : Nat) {xs : List Int} (hr : inRow xs) (hxl : 30 ≤ xs.length) : ∃ ws : List Int, Wk ws ∧ run (n + 1) 7 [.d (il xs)] [] = .ok (.ref 0) [.lst (ws.map D.int)] := by
  obtain ⟨v0, b0', _, g0⟩ := idx_rw (i := 0) hr (by omega)
  obtain ⟨v1, b1', _, g1⟩ := idx_rw (i := 1) hr (by omega)
  obtain ⟨v2, b2', _, g2⟩ := idx_rw (i := 2) hr (by omega)
  have g0 : idxD (il xs) (.int 0) = some (.int v0) := g0
  have g1 : idxD (il xs) (.int 1) = some (.int v1) := g1
  have g2 : idxD (il xs) (.int 2) = some (.int v2) := g2
  have m0 := mod_ok (i := v0) (j := 8) (by decide)
  obtain ⟨j, hj, hj1, hj8⟩ : ∃ j : Nat, 1 + v0 % 8 = (j : Int) ∧ 1 ≤ j ∧ j ≤ 8 := ⟨(1 + v0 % 8).toNat, by omega, by omega, by omega⟩
  have a0 : addD (.int 1) (.int (v0 % 8)) = some (.int (j : Int)) := by rw [← hj]; rfl
  have ir : iR1 (eOp2 addD (eC (.int 1)) (eOp2 modD (eOp1 intD (eIdx (eV 0) (eC (.int 0)))) (eC (.int 8)))) [some (.d (il xs)), some (.ref 0), none, none] [.lst []] = .ok (rng 0 j) [.lst []] := iR1_nat (by repeat (first | walk_at "ev" | simp only [g0, int_i, m0, a0])) (by omega)
  obtain ⟨acc, y2, y3, k1, k2, g⟩ := wt_loop hr hxl j 0 [] none none (by omega) rfl (fun _ h => (List.not_mem_nil h).elim)
  rw [Nat.zero_add] at k1
  rw [show (((0 : Nat)) : Int) = 0 from rfl] at g
  have g : forL _ _ _ _ [.lst []] = _ := g
  have ne : acc ≠ [] := fun z => by rw [z] at k1; simp at k1; omega
  obtain ⟨M, e1, m1, m2⟩ := maxD_il ne
  have z0 : ([] : List Val).length ≤ 1000 := by decide
  have hM := k2 M m1
  rw [run7]
  unfold b7
  by_cases hc : M = 0
  · have q1 := eqi_t hc
    have l1 : lenD (.lst (acc.map D.int)) = some (.int (acc.length : Int)) := by
      show some (D.int ((acc.map D.int).length : Int)) = _
      rw [List.length_map]
    have md := mod_ok (i := v1) (j := (acc.length : Int)) (by omega)
    obtain ⟨m, hm, hml⟩ : ∃ m : Nat, v1 % (acc.length : Int) = (m : Int) ∧ m < acc.length := by
      have h1 := Int.emod_nonneg v1 (show (acc.length : Int) ≠ 0 by omega)
      have h2 := Int.emod_lt_of_pos v1 (show (0 : Int) < acc.length by omega)
      exact ⟨(v1 % (acc.length : Int)).toNat, by omega, by omega⟩
    rw [hm] at md
    have a1 : addD (.int 1) (.int v2) = some (.int (1 + v2)) := rfl
    have p1 := putLC_nat (ds := acc.map D.int) (i := m) (x := .int (1 + v2)) (by rw [List.length_map]; exact hml)
    have e1 : maxD (.lst (acc.map D.int)) = some (.int M) := e1
    refine ⟨acc.set m (1 + v2), ⟨by rw [List.length_set]; omega, by rw [List.length_set]; omega, fun w hw => ?_, 1 + v2, ?_, by omega⟩, ?_⟩
    · rcases List.mem_or_eq_of_mem_set hw with h | h
      · exact k2 w h
      · rw [h]; omega
    · exact List.mem_of_getElem? (List.getElem?_set_self hml)
    · rw [List.map_set]
      generalize iR1 (eOp2 addD (eC (.int 1)) (eOp2 modD (eOp1 intD (eIdx (eV 0) (eC (.int 0)))) (eC (.int 8)))) = IR at *
      generalize acc.map D.int = A1 at *
      generalize il xs = X at *
      repeat (first | walk_at "ev" | simp only [z0, ir, g, e1, q1, g1, int_i, l1, md, g2, a1, p1])
  · have q1 := eqi_f hc
    have e1 : maxD (.lst (acc.map D.int)) = some (.int M) := e1
    refine ⟨acc, ⟨by omega, by omega, k2, M, m1, by omega⟩, ?_⟩
    generalize iR1 (eOp2 addD (eC (.int 1)) (eOp2 modD (eOp1 intD (eIdx (eV 0) (eC (.int 0)))) (eC (.int 8)))) = IR at *
    generalize acc.map D.int = A1 at *
    generalize il xs = X at *
    repeat (first | walk_at "ev" | simp only [z0, ir, g, e1, q1])
theorem x_law_is_integer (n : Nat) (i : Int) : run (n + 1) 4 [.d (.int i)] [] = .ok (.d (.bl true)) [] := by
  have h1 : isTy .int (.int i) = true := rfl
  have h2 : isTy .bool (.int i) = false := rfl
  rw [run4]
  unfold b4
  repeat (first | walk_at "ev" | simp only [h1, h2])
def chkB (isi : Fn) : SS := (sSeq (sIf (bOr (bNot (bE (eCallI isi 1 (aC (eIdx (eV 5) (eV 7)) aN)))) (bE (eOp2 geD (eOp1 absD (eOp2 subD (eOp2 mulD (eIdx (eV 5) (eV 7)) (eV 6)) (eOp2 mulD (eV 3) (eIdx (eV 2) (eV 7))))) (eV 6)))) (sRt (eC (.bl false))) sNx)
    (sIf (bAnd (bE (eOp2 eqD' (eIdx (eV 2) (eV 7)) (eC (.int 0)))) (bE (eOp2 neD' (eIdx (eV 5) (eV 7)) (eC (.int 0))))) (sRt (eC (.bl false))) sNx))
theorem ge_f {i j : Int} (h : ¬ j ≤ i) : geD (.int i) (.int j) = some (.bl false) := by
  show some (D.bl (decide _)) = _
  rw [decide_eq_false h]
theorem nei_f {i j : Int} (h : i = j) : neD' (.int i) (.int j) = some (.bl false) := by
  show some (D.bl (!decide _)) = _
  rw [decide_eq_true h]
  rfl
theorem chk_loop (n : Nat) {a : Int} {ws : List Int} (h : Wk ws) {a0 a1 a4 a8 a9 a10 : Option Val} : ∀ (j lo : Nat) (x7 : Option Val), lo + j = ws.length → ∃ y7,
    forL (gN 7) (chkB (run (n + 1) 4)) (rng (lo : Int) j) [a0, a1, some (.d (il ws)), some (.d (.int a)), a4, some (.d (il (shareL a ws.sum ws))), some (.d (.int ws.sum)), x7, a8, a9, a10] [] = .nx [a0, a1, some (.d (il ws)), some (.d (.int a)), a4, some (.d (il (shareL a ws.sum ws))), some (.d (.int ws.sum)), y7, a8, a9, a10] [] := by
  intro j
  obtain ⟨hW, hW2⟩ := h.sum
  induction j with
  | zero => intro lo x7 _; exact ⟨x7, by rw [rng_zero, forL_nil]⟩
  | succ j ih =>
    intro lo x7 hl
    have hk := List.getElem?_eq_getElem (show lo < ws.length by omega)
    have hb := h.bd _ (List.getElem_mem (show lo < ws.length by omega))
    generalize ws[lo] = w at hk hb
    obtain ⟨x, hx, ⟨h1, h2⟩, h3⟩ := share_at (a := a) hW rfl hk
    obtain ⟨y7, ih⟩ := ih (lo + 1) (some (.d (.int (lo : Int)))) (by omega)
    refine ⟨y7, ?_⟩
    have i1 : idxD (il ws) (.int (lo : Int)) = some (.int w) := idx_lst (by rw [List.getElem?_map, hk]; rfl)
    have i2 : idxD (il (shareL a ws.sum ws)) (.int (lo : Int)) = some (.int x) := idx_lst (by rw [List.getElem?_map, hx]; rfl)
    have e1 := x_law_is_integer n x
    have e2 : mulD (.int x) (.int ws.sum) = some (.int (x * ws.sum)) := mul_r (by omega) (by omega)
    have e3 : mulD (.int a) (.int w) = some (.int (a * w)) := mul_r (by omega) (by omega)
    have e4 : subD (.int (x * ws.sum)) (.int (a * w)) = some (.int (x * ws.sum - a * w)) := rfl
    have e5 : absD (.int (x * ws.sum - a * w)) = some (.int (if x * ws.sum - a * w < 0 then -(x * ws.sum - a * w) else x * ws.sum - a * w)) := rfl
    have e6 : geD (.int (if x * ws.sum - a * w < 0 then -(x * ws.sum - a * w) else x * ws.sum - a * w)) (.int ws.sum) = some (.bl false) := ge_f (by split <;> omega)
    have hcst : ((lo : Int) + 1) = ((lo + 1 : Nat) : Int) := rfl
    rw [rng_cons, forL_cons, hcst]
    generalize (if x * ws.sum - a * w < 0 then -(x * ws.sum - a * w) else x * ws.sum - a * w) = ab at *
    generalize il (shareL a ws.sum ws) = Y at *
    generalize il ws = X at *
    unfold chkB at ih ⊢
    by_cases hw0 : w = 0
    · have q1 := eqi_t hw0
      have q2 := nei_f (h3 hw0)
      repeat (first | walk_at "ev" | simp only [i2, e1, e2, i1, e3, e4, e5, e6, q1, q2, ih])
    · have q1 := eqi_f hw0
      repeat (first | walk_at "ev" | simp only [i2, e1, e2, i1, e3, e4, e5, e6, q1, ih])
theorem wr_loop (n : Nat) {a : Int} {a0 a1 a2 a4 a5 a6 a7 a8 a9 : Option Val} : ∀ (wl : List (List Int)) (x10 : Option Val), (∀ ws ∈ wl, BadW ws) → ∃ y10,
    forL (gN 10) (sIf (bNot (bE (eCallI (run (n + 3) 6) 2 (aC (eV 3) (aC (eV 10) aN))))) (sRt (eC (.bl false))) sNx) (wl.map il) [a0, a1, a2, some (.d (.int a)), a4, a5, a6, a7, a8, a9, x10] [] = .nx [a0, a1, a2, some (.d (.int a)), a4, a5, a6, a7, a8, a9, y10] []
  | [], x10, _ => ⟨x10, forL_nil⟩
  | ws :: wl, x10, h => by
    have e1 := x_law_refused n a (h ws List.mem_cons_self)
    obtain ⟨y10, ih⟩ := wr_loop n (a := a) (a0 := a0) (a1 := a1) (a2 := a2) (a4 := a4) (a5 := a5) (a6 := a6) (a7 := a7) (a8 := a8) (a9 := a9) wl (some (.d (il ws))) fun u hu => h u (List.mem_cons_of_mem _ hu)
    refine ⟨y10, ?_⟩
    rw [List.map_cons, forL_cons]
    generalize wl.map il = W1 at *
    generalize il ws = W2 at *
    repeat (first | walk_at "ev" | simp only [e1, ih])
theorem cut_dr {α : Type} (xs : List α) (m : Nat) : cutD xs (some (m : Int)) none = xs.drop m := by
  unfold cutD
  rw [HT.sIx_nat, HT.sIx_none]
  rcases Nat.le_total m xs.length with c | c
  · rw [Nat.min_eq_left c, ← List.length_drop, List.take_length]
  · rw [Nat.min_eq_right c, List.drop_eq_nil_of_le c, List.drop_eq_nil_of_le (Nat.le_refl _), List.take_nil]
theorem add_lst {xs ys : List D} (h : xs.length + ys.length ≤ 1000000) : addD (.lst xs) (.lst ys) = some (.lst (xs ++ ys)) := if_pos (small h)
def wrE : SE := (eLst (aC (eLst aN) (aC (eLst (aC (eC (.int 0)) (aC (eC (.int 0)) aN))) (aC (eLst (aC (eC (.int 2)) (aC (eOp1 negD (eC (.int 1))) aN))) (aC (eLst (aC (eOp1 negD (eC (.int 2))) (aC (eC (.int 2)) aN))) (aC (eLst (aC (eOp1 negD (eC (.int 1))) (aC (eC (.int 2)) aN))) (aC (eLst (aC (eC (.int 0)) aN)) (aC (eV 9) (aC (eOp2 addD (eV 9) (eLst (aC (eC (.int 5)) aN))) aN)))))))))
theorem wr_eval {lw : List Int} (hz : lw.length ≤ 100) {a0 a1 a2 a3 a4 a5 a6 a7 a8 a10 : Option Val} : wrE [a0, a1, a2, a3, a4, a5, a6, a7, a8, some (.d (il lw)), a10] [] = .ok (.d (.lst ([[], [0, 0], [2, -1], [-2, 2], [-1, 2], [0], lw, lw ++ [5]].map il))) [] := by
  have n1 : negD (.int 1) = some (.int (-1)) := rfl
  have n2 : negD (.int 2) = some (.int (-2)) := rfl
  have ad : addD (il lw) (.lst [.int 5]) = some (il (lw ++ [5])) := by
    show addD (.lst (lw.map D.int)) (.lst [.int 5]) = some (.lst ((lw ++ [5]).map D.int))
    rw [add_lst (by rw [List.length_map]; simp; omega), List.map_append]
    rfl
  have fin : ([[], [0, 0], [2, -1], [-2, 2], [-1, 2], [0], lw, lw ++ [5]].map il : List D) = [.lst [], .lst [.int 0, .int 0], .lst [.int 2, .int (-1)], .lst [.int (-2), .int 2], .lst [.int (-1), .int 2], .lst [.int 0], il lw, il (lw ++ [5])] := rfl
  rw [fin]
  unfold wrE
  generalize il (lw ++ [5]) = Y at *
  generalize il lw = X at *
  repeat (first | walk_at "ev" | simp only [n1, n2, ad])
def amtE : SE := (eOp2 mulD (eOp2 addD (eOp2 addD (eOp2 mulD (eIdx (eV 1) (eC (.int 26))) (eC (.int 1000000))) (eOp2 mulD (eIdx (eV 1) (eC (.int 27))) (eC (.int 1000)))) (eIdx (eV 1) (eC (.int 28)))) (eOp2 subD (eC (.int 1)) (eOp2 mulD (eC (.int 2)) (eOp2 modD (eOp1 intD (eIdx (eV 1) (eC (.int 29)))) (eC (.int 2))))))
def amt2 : SS := (sIf (bE (eOp2 eqD' (eOp2 modD (eOp1 intD (eIdx (eV 1) (eC (.int 28)))) (eC (.int 3))) (eC (.int 0)))) (sAsg (eOp2 subD (eOp2 modD (eOp1 intD (eIdx (eV 1) (eC (.int 27)))) (eC (.int 60))) (eC (.int 20))) (gN 3)) sNx)
def lowE : SE := (eOp2 addD (eOp2 addD (eSl (eV 2) oN (oE (eV 8))) (eLst (aC (eOp2 subD (eOp1 negD (eC (.int 1))) (eOp2 modD (eOp1 intD (eIdx (eV 1) (eC (.int 24)))) (eC (.int 9)))) aN))) (eSl (eV 2) (oE (eOp2 addD (eV 8) (eC (.int 1)))) oN))
theorem b_law (c : Nat → Fn) (w : Nat → Nat → Nat → SA → SE) (z : Nat → SE → SS) (x : Cau → Nat → Fn) : b9 c w z x = (sSeq (sAsg (eCallI (c 5) 3 (aC (eV 0) (aC (eC (.int 0)) (aC (eC (.int 30)) aN)))) (gN 1))
    (sSeq (sAsg (eCallI (c 7) 1 (aC (eV 1) aN)) (gN 2))
    (sSeq (sAsg amtE (gN 3))
    (sSeq amt2
    (sSeq (sAsg (eOp1 listD (eV 2)) (gN 4))
    (sSeq (sAsg (eCallI (c 1) 2 (aC (eV 3) (aC (eV 4) aN))) (gN 5))
    (sSeq (sIf (bOr (bNot (bE (eIs .list (eV 5)))) (bOr (bE (eOp2 neD' (eOp1 lenD (eV 5)) (eOp1 lenD (eV 2)))) (bE (eOp2 neD' (eV 4) (eV 2))))) (sRt (eC (.bl false))) sNx)
    (sSeq (sAsg (eOp1 sumD (eV 2)) (gN 6))
    (sSeq (sFor (iR1 (eOp1 lenD (eV 2))) (gN 7) (chkB (c 4)))
    (sSeq (sIf (bOr (bE (eOp2 neD' (eOp1 sumD (eV 5)) (eV 3))) (bE (eOp2 neD' (eV 5) (eCallI (c 8) 2 (aC (eV 3) (aC (eV 2) aN)))))) (sRt (eC (.bl false))) sNx)
    (sSeq (sAsg (eOp2 modD (eOp1 intD (eIdx (eV 1) (eC (.int 25)))) (eOp1 lenD (eV 2))) (gN 8))
    (sSeq (sAsg lowE (gN 9))
    (sSeq (sFor (iL wrE) (gN 10) (sIf (bNot (bE (eCallI (c 6) 2 (aC (eV 3) (aC (eV 10) aN))))) (sRt (eC (.bl false))) sNx))
    (sRt (eC (.bl true)))))))))))))))) := by
  unfold b9 chkB amtE amt2 lowE wrE
  rfl
theorem law_true (ns : List Int) (n : Nat) : ∃ S', run (n + 10) 9 [.d (.scr ns)] [] = .ok (.d (.bl true)) S' := by
  obtain ⟨xs, hxl, hr, e1⟩ := x_law_row (n + 8) ns 0 30 (by decide) (by decide) (by decide)
  have e1 : run (n + 9) 5 [.d (.scr ns), .d (.int 0), .d (.int 30)] [] = .ok (.ref 0) [.lst (xs.map .int)] := e1
  obtain ⟨ws, wk, e2⟩ := x_law_weights (n + 8) hr (by omega)
  have e2 : run (n + 9) 7 [.d (.lst (xs.map .int))] [] = .ok (.ref 0) [.lst (ws.map .int)] := e2
  obtain ⟨hW, hW2⟩ := wk.sum
  obtain ⟨v24, b24, _, g24⟩ := idx_rw (i := 24) hr (by omega)
  obtain ⟨v25, b25, _, g25⟩ := idx_rw (i := 25) hr (by omega)
  obtain ⟨v26, b26, _, g26⟩ := idx_rw (i := 26) hr (by omega)
  obtain ⟨v27, b27, _, g27⟩ := idx_rw (i := 27) hr (by omega)
  obtain ⟨v28, b28, _, g28⟩ := idx_rw (i := 28) hr (by omega)
  obtain ⟨v29, b29, _, g29⟩ := idx_rw (i := 29) hr (by omega)
  have g24 : idxD (.lst (xs.map .int)) (.int 24) = some (.int v24) := g24
  have g25 : idxD (.lst (xs.map .int)) (.int 25) = some (.int v25) := g25
  have g26 : idxD (.lst (xs.map .int)) (.int 26) = some (.int v26) := g26
  have g27 : idxD (.lst (xs.map .int)) (.int 27) = some (.int v27) := g27
  have g28 : idxD (.lst (xs.map .int)) (.int 28) = some (.int v28) := g28
  have g29 : idxD (.lst (xs.map .int)) (.int 29) = some (.int v29) := g29
  -- the amount
  obtain ⟨am, hA⟩ : ∃ am : Int, amtE [some (.d (.scr ns)), some (.d (.lst (xs.map .int))), some (.d (.lst (ws.map .int))), none, none, none, none, none, none, none, none] [] = .ok (.d (.int am)) [] := by
    have m1 : mulD (.int v26) (.int 1000000) = some (.int (v26 * 1000000)) := mul_r (by decide) (by decide)
    have m2 : mulD (.int v27) (.int 1000) = some (.int (v27 * 1000)) := mul_r (by decide) (by decide)
    have m3 := mod_ok (i := v29) (j := 2) (by decide)
    have m4 : mulD (.int 2) (.int (v29 % 2)) = some (.int (2 * (v29 % 2))) := mul_l (by decide) (by decide)
    have m5 : mulD (.int (v26 * 1000000 + v27 * 1000 + v28)) (.int (1 - 2 * (v29 % 2))) = some (.int ((v26 * 1000000 + v27 * 1000 + v28) * (1 - 2 * (v29 % 2)))) := mul_r (by omega) (by omega)
    refine ⟨(v26 * 1000000 + v27 * 1000 + v28) * (1 - 2 * (v29 % 2)), ?_⟩
    unfold amtE
    generalize xs.map D.int = X at *
    repeat (first | walk_at "ev" | simp only [g26, m1, g27, m2, add_i, g28, g29, int_i, m3, m4, sub_i, m5])
  obtain ⟨a, hB⟩ : ∃ a : Int, amt2 [some (.d (.scr ns)), some (.d (.lst (xs.map .int))), some (.d (.lst (ws.map .int))), some (.d (.int am)), none, none, none, none, none, none, none] [] = .nx [some (.d (.scr ns)), some (.d (.lst (xs.map .int))), some (.d (.lst (ws.map .int))), some (.d (.int a)), none, none, none, none, none, none, none] [] := by
    have m1 := mod_ok (i := v28) (j := 3) (by decide)
    have m2 := mod_ok (i := v27) (j := 60) (by decide)
    unfold amt2
    by_cases c : v28 % 3 = 0
    · have q := eqi_t c
      refine ⟨v27 % 60 - 20, ?_⟩
      generalize xs.map D.int = X at *
      repeat (first | walk_at "ev" | simp only [g28, int_i, m1, q, g27, m2, sub_i])
    · have q := eqi_f c
      refine ⟨am, ?_⟩
      generalize xs.map D.int = X at *
      repeat (first | walk_at "ev" | simp only [g28, int_i, m1, q, g27, m2, sub_i])
  have e3 : listD (.lst (ws.map D.int)) = some (.lst (ws.map D.int)) := rfl
  have e4 := x_share (n + 7) a wk
  have e4 : run (n + 9) 1 [.d (.int a), .d (.lst (ws.map D.int))] [] = .ok (.ref 0) [.lst ((shareL a ws.sum ws).map D.int)] := e4
  have t1 : isTy .list (.lst ((shareL a ws.sum ws).map D.int)) = true := rfl
  have l1 : lenD (.lst ((shareL a ws.sum ws).map D.int)) = some (.int (ws.length : Int)) := by
    show some (D.int (((shareL a ws.sum ws).map D.int).length : Int)) = _
    rw [List.length_map, share_len]
  have l2 : lenD (.lst (ws.map D.int)) = some (.int (ws.length : Int)) := by
    show some (D.int ((ws.map D.int).length : Int)) = _
    rw [List.length_map]
  have nn := nei_f (i := (ws.length : Int)) rfl
  have ng1 : neD' (.lst (ws.map D.int)) (.lst (ws.map D.int)) = some (.bl false) := neG_t (k := 1) (by decide) (il_gd ws)
  have s1 : sumD (.lst (ws.map D.int)) = some (.int ws.sum) := sumD_il ws
  obtain ⟨y7, g1⟩ := chk_loop (n + 8) (a := a) wk (a0 := some (.d (.scr ns))) (a1 := some (.d (.lst (xs.map .int)))) (a4 := some (.d (.lst (ws.map D.int)))) (a8 := none) (a9 := none) (a10 := none) ws.length 0 none (by omega)
  rw [show (((0 : Nat)) : Int) = 0 from rfl] at g1
  have ir : iR1 (eOp1 lenD (eV 2)) [some (.d (.scr ns)), some (.d (.lst (xs.map .int))), some (.d (.lst (ws.map .int))), some (.d (.int a)), some (.d (.lst (ws.map D.int))), some (.d (.lst ((shareL a ws.sum ws).map D.int))), some (.d (.int ws.sum)), none, none, none, none] [] = .ok (rng 0 ws.length) [] := iR1_nat (by repeat (first | walk_at "ev" | simp only [l2])) (by have := wk.n8; omega)
  have s2 : sumD (.lst ((shareL a ws.sum ws).map D.int)) = some (.int a) := by
    have := sumD_il (shareL a ws.sum ws)
    rw [share_sum hW rfl (show 0 < ws.length from wk.n1)] at this
    exact this
  have nn2 := nei_f (i := a) rfl
  have e5 := x_law_parts (n + 8) a wk
  have e5 : run (n + 9) 8 [.d (.int a), .d (.lst (ws.map D.int))] [] = .ok (.ref 0) [.lst ((shareL a ws.sum ws).map D.int), .lst ((gone (rs0 a ws.sum ws) ((ordN a ws.sum ws).take (over a ws.sum ws).toNat)).map D.int)] := e5
  have ng2 : neD' (.lst ((shareL a ws.sum ws).map D.int)) (.lst ((shareL a ws.sum ws).map D.int)) = some (.bl false) := neG_t (k := 1) (by decide) (il_gd _)
  obtain ⟨m, hm, hml⟩ : ∃ m : Nat, v25 % (ws.length : Int) = (m : Int) ∧ m < ws.length := by
    have h0 := wk.n1
    have h1 := Int.emod_nonneg v25 (show (ws.length : Int) ≠ 0 by omega)
    have h2 := Int.emod_lt_of_pos v25 (show (0 : Int) < ws.length by omega)
    exact ⟨(v25 % (ws.length : Int)).toNat, by omega, by omega⟩
  have md := mod_ok (i := v25) (j := (ws.length : Int)) (by have := wk.n1; omega)
  rw [hm] at md
  have n8 := wk.n8
  have lo : lowE [some (.d (.scr ns)), some (.d (.lst (xs.map .int))), some (.d (.lst (ws.map .int))), some (.d (.int a)), some (.d (.lst (ws.map D.int))), some (.d (.lst ((shareL a ws.sum ws).map D.int))), some (.d (.int ws.sum)), y7, some (.d (.int (m : Int))), none, none] [] = .ok (.d (il (ws.take m ++ [-1 - v24 % 9] ++ ws.drop (m + 1)))) [] := by
    have c1 : slD (.lst (ws.map D.int)) none (some (m : Int)) = some (.lst ((ws.take m).map D.int)) := by
      show some (D.lst (cutD (ws.map D.int) none (some (m : Int)))) = _
      rw [cut_tk, List.map_take]
    have c2 : slD (.lst (ws.map D.int)) (some ((m : Int) + 1)) none = some (.lst ((ws.drop (m + 1)).map D.int)) := by
      have := cut_dr (ws.map D.int) (m + 1)
      rw [← List.map_drop] at this
      exact congrArg (fun l => some (D.lst l)) this
    have d1 : negD (.int 1) = some (.int (-1)) := rfl
    have d2 := mod_ok (i := v24) (j := 9) (by decide)
    have d3 : addD (.lst ((ws.take m).map D.int)) (.lst [.int (-1 - v24 % 9)]) = some (.lst ((ws.take m).map D.int ++ [.int (-1 - v24 % 9)])) := add_lst (by rw [List.length_map, List.length_take]; simp; omega)
    have d4 : addD (.lst ((ws.take m).map D.int ++ [.int (-1 - v24 % 9)])) (.lst ((ws.drop (m + 1)).map D.int)) = some (il (ws.take m ++ [-1 - v24 % 9] ++ ws.drop (m + 1))) := by
      rw [add_lst (by rw [List.length_append, List.length_map, List.length_map, List.length_take, List.length_drop]; simp; omega)]
      show _ = some (D.lst ((ws.take m ++ [-1 - v24 % 9] ++ ws.drop (m + 1)).map D.int))
      rw [List.map_append, List.map_append]
      rfl
    unfold lowE
    generalize il (ws.take m ++ [-1 - v24 % 9] ++ ws.drop (m + 1)) = LW at *
    generalize (ws.take m).map D.int = W1 at *
    generalize (ws.drop (m + 1)).map D.int = W2 at *
    generalize xs.map D.int = X at *
    generalize ws.map D.int = W0 at *
    repeat (first | walk_at "ev" | simp only [c1, g24, int_i, d1, d2, sub_i, d3, add_i, c2, d4])
  have ll : (ws.take m ++ [-1 - v24 % 9] ++ ws.drop (m + 1)).length ≤ 100 := by
    rw [List.length_append, List.length_append, List.length_take, List.length_drop]
    simp
    omega
  have wr := wr_eval ll (a0 := some (.d (.scr ns))) (a1 := some (.d (.lst (xs.map .int)))) (a2 := some (.d (.lst (ws.map .int)))) (a3 := some (.d (.int a))) (a4 := some (.d (.lst (ws.map D.int)))) (a5 := some (.d (.lst ((shareL a ws.sum ws).map D.int)))) (a6 := some (.d (.int ws.sum))) (a7 := y7) (a8 := some (.d (.int (m : Int)))) (a10 := none)
  have bad : ∀ u ∈ [[], [0, 0], [2, -1], [-2, 2], [-1, 2], [0], ws.take m ++ [-1 - v24 % 9] ++ ws.drop (m + 1), ws.take m ++ [-1 - v24 % 9] ++ ws.drop (m + 1) ++ [5]], BadW u := fun u hu => by
    simp only [List.mem_cons, List.not_mem_nil, or_false] at hu
    rcases hu with rfl | rfl | rfl | rfl | rfl | rfl | rfl | rfl
    · exact .inl rfl
    · exact .inr (.inr (by simp))
    · exact .inr (.inl ⟨-1, by simp, by decide⟩)
    · exact .inr (.inl ⟨-2, by simp, by decide⟩)
    · exact .inr (.inl ⟨-1, by simp, by decide⟩)
    · exact .inr (.inr (by simp))
    · exact .inr (.inl ⟨-1 - v24 % 9, by simp, by omega⟩)
    · exact .inr (.inl ⟨-1 - v24 % 9, by simp, by omega⟩)
  obtain ⟨y10, g2⟩ := wr_loop (n + 6) (a := a) (a0 := some (.d (.scr ns))) (a1 := some (.d (.lst (xs.map .int)))) (a2 := some (.d (.lst (ws.map .int)))) (a4 := some (.d (.lst (ws.map D.int)))) (a5 := some (.d (.lst ((shareL a ws.sum ws).map D.int)))) (a6 := some (.d (.int ws.sum))) (a7 := y7) (a8 := some (.d (.int (m : Int)))) (a9 := some (.d (il (ws.take m ++ [-1 - v24 % 9] ++ ws.drop (m + 1))))) _ none bad
  have g2 : forL (gN 10) (sIf (bNot (bE (eCallI (run (n + 9) 6) 2 (aC (eV 3) (aC (eV 10) aN))))) (sRt (eC (.bl false))) sNx) _ _ _ = _ := g2
  have zz : (([[], [0, 0], [2, -1], [-2, 2], [-1, 2], [0], ws.take m ++ [-1 - v24 % 9] ++ ws.drop (m + 1), ws.take m ++ [-1 - v24 % 9] ++ ws.drop (m + 1) ++ [5]].map il : List D)).length ≤ sizeLine := by
    rw [List.length_map]
    exact small (by simp)
  refine ⟨[], ?_⟩
  rw [run9]
  rw [b_law]
  have g1 : forL (gN 7) (chkB (run (n + 9) 4)) (rng 0 ws.length) [some (.d (.scr ns)), some (.d (.lst (xs.map .int))), some (.d (.lst (ws.map .int))), some (.d (.int a)), some (.d (.lst (ws.map D.int))), some (.d (.lst ((shareL a ws.sum ws).map D.int))), some (.d (.int ws.sum)), none, none, none, none] [] = .nx [some (.d (.scr ns)), some (.d (.lst (xs.map .int))), some (.d (.lst (ws.map .int))), some (.d (.int a)), some (.d (.lst (ws.map D.int))), some (.d (.lst ((shareL a ws.sum ws).map D.int))), some (.d (.int ws.sum)), y7, none, none, none] [] := g1
  generalize amtE = AM at *
  generalize amt2 = AM2 at *
  generalize lowE = LO at *
  generalize wrE = WR at *
  generalize chkB (run (n + 9) 4) = CB at *
  generalize iR1 (eOp1 lenD (eV 2)) = IR at *
  generalize [[], [0, 0], [2, -1], [-2, 2], [-1, 2], [0], ws.take m ++ [-1 - v24 % 9] ++ ws.drop (m + 1), ws.take m ++ [-1 - v24 % 9] ++ ws.drop (m + 1) ++ [5]].map il = WL at *
  generalize il (ws.take m ++ [-1 - v24 % 9] ++ ws.drop (m + 1)) = LW at *
  generalize (shareL a ws.sum ws).map D.int = SH at *
  generalize (gone (rs0 a ws.sum ws) ((ordN a ws.sum ws).take (over a ws.sum ws).toNat)).map D.int = GN at *
  generalize xs.map D.int = X at *
  generalize ws.map D.int = W0 at *
  repeat (first | walk_at "ev" | simp only [e1, e2, hA, hB, e3, e4, t1, l1, l2, nn, ng1, s1, ir, g1, s2, nn2, e5, ng2, g25, int_i, md, lo, wr, zz, g2])
theorem law_end (ns : List Int) (_ : ns.length ≤ 63) : ∃ S', run 200 9 [.d (.scr ns)] [] = .ok (.d (.bl true)) S' := law_true ns 190
end K20
set_option linter.all false
set_option Elab.async false
set_option maxRecDepth 100000
set_option maxHeartbeats 4000000
/-! ### the end -/
namespace K20
open PySem L2 PySem.Spec Ev
theorem all_mk {l : PySem.W.OpenLaw} {w : World} {K : PySem.W.Frag} {h : Heap} {mg : Str → Option Value} {fa : Addr} (X : K.In h) (G : h.Ns mainGlobals mg) (hfa : mg "law" = some (.ref fa))
    {X0 : Addr} {X1 : Addr} {X2 : Addr} {X3 : Addr} {xnm1 xq1 : Str} {xN1 : Addr} {xbs1 xbm1 xsu1 : List Value} {xsn1 : List Str} {xab1 : Bool} {xco1 : Option Bool} {xdd1 : Option Addr} {xk01 xk11 xk21 xk31 xk51 : Option Value} {f0 : Addr} {od0 an0 : Option Addr} {sl0 : Array (Option Value)} {oc0 kV0 dc0 pm0 cd0 ct0 : Value} {f1 : Addr} {od1 an1 : Option Addr} {sl1 : Array (Option Value)} {oc1 kV1 dc1 pm1 cd1 ct1 : Value} {f2 : Addr} {od2 an2 : Option Addr} {sl2 : Array (Option Value)} {oc2 kV2 dc2 pm2 cd2 ct2 : Value} {f3 : Addr} {od3 an3 : Option Addr} {sl3 : Array (Option Value)} {oc3 kV3 dc3 pm3 cd3 ct3 : Value} {f4 : Addr} {od4 an4 : Option Addr} {sl4 : Array (Option Value)} {oc4 kV4 dc4 pm4 cd4 ct4 : Value} {f5 : Addr} {od5 an5 : Option Addr} {sl5 : Array (Option Value)} {oc5 kV5 dc5 pm5 cd5 ct5 : Value} {f6 : Addr} {od6 an6 : Option Addr} {sl6 : Array (Option Value)} {oc6 kV6 dc6 pm6 cd6 ct6 : Value} {f7 : Addr} {od7 an7 : Option Addr} {sl7 : Array (Option Value)} {oc7 kV7 dc7 pm7 cd7 ct7 : Value} {f8 : Addr} {od8 an8 : Option Addr} {sl8 : Array (Option Value)} {oc8 kV8 dc8 pm8 cd8 ct8 : Value} {f9 : Addr} {od9 an9 : Option Addr} {sl9 : Array (Option Value)} {oc9 kV9 dc9 pm9 cd9 ct9 : Value}
    (z_abs : PySem.W.nsIn K mainGlobals "abs" = some none)
    (z_bool : PySem.W.nsIn K mainGlobals "bool" = some none)
    (z_enumerate : PySem.W.nsIn K mainGlobals "enumerate" = some none)
    (z_int : PySem.W.nsIn K mainGlobals "int" = some none)
    (z_isinstance : PySem.W.nsIn K mainGlobals "isinstance" = some none)
    (z_len : PySem.W.nsIn K mainGlobals "len" = some none)
    (z_list : PySem.W.nsIn K mainGlobals "list" = some none)
    (z_max : PySem.W.nsIn K mainGlobals "max" = some none)
    (z_min : PySem.W.nsIn K mainGlobals "min" = some none)
    (z_range : PySem.W.nsIn K mainGlobals "range" = some none)
    (z_sorted : PySem.W.nsIn K mainGlobals "sorted" = some none)
    (z_sum : PySem.W.nsIn K mainGlobals "sum" = some none)
    (xhn : PySem.W.specialIn K (.builtin "object.__class__") "__get__" = some (some (.builtin "getset_descriptor.__get__")))
    (xht : PySem.W.takesIn K (.builtin "object.__class__") = some true)
    (gx0 : PySem.W.nsIn K mainGlobals "WritError" = some (some (.ref X0)))
    (xga0 : PySem.W.findIn K (.ref X0) "__getattribute__" = some (some (.builtin "BaseException.__getattribute__")))
    (xgt0 : PySem.W.findIn K (.ref X0) "__getattr__" = some none)
    (xsb0 : PySem.W.subIn K (.ref X0) (.type "BaseException") = some true)
    (xhd0 : PySem.W.hasDictIn K X0 = true)
    (xca0 : PySem.W.findIn K (.ref X0) "__class__" = some (some (.builtin "object.__class__")))
    (xmr0 : PySem.W.mroIn K X0 (.type "object") = some true)
    (xty0 : PySem.W.typeIn K (.ref X0) = some (.type "type"))
    (xkp0 : PySem.W.keepIn K (.ref X0) = true)
    (gx1 : PySem.W.nsIn K mainGlobals "BadText" = some (some (.ref X1)))
    (xga1 : PySem.W.findIn K (.ref X1) "__getattribute__" = some (some (.builtin "BaseException.__getattribute__")))
    (xgt1 : PySem.W.findIn K (.ref X1) "__getattr__" = some none)
    (xsb1 : PySem.W.subIn K (.ref X1) (.type "BaseException") = some true)
    (xhd1 : PySem.W.hasDictIn K X1 = true)
    (xca1 : PySem.W.findIn K (.ref X1) "__class__" = some (some (.builtin "object.__class__")))
    (xmr1 : PySem.W.mroIn K X1 (.type "object") = some true)
    (xty1 : PySem.W.typeIn K (.ref X1) = some (.type "type"))
    (xkp1 : PySem.W.keepIn K (.ref X1) = true)
    (gx2 : PySem.W.nsIn K mainGlobals "NotAllowed" = some (some (.ref X2)))
    (xga2 : PySem.W.findIn K (.ref X2) "__getattribute__" = some (some (.builtin "BaseException.__getattribute__")))
    (xgt2 : PySem.W.findIn K (.ref X2) "__getattr__" = some none)
    (xsb2 : PySem.W.subIn K (.ref X2) (.type "BaseException") = some true)
    (xhd2 : PySem.W.hasDictIn K X2 = true)
    (xca2 : PySem.W.findIn K (.ref X2) "__class__" = some (some (.builtin "object.__class__")))
    (xmr2 : PySem.W.mroIn K X2 (.type "object") = some true)
    (xty2 : PySem.W.typeIn K (.ref X2) = some (.type "type"))
    (xkp2 : PySem.W.keepIn K (.ref X2) = true)
    (xxc2 : PySem.W.excIn K X2 [.type "ValueError", .type "Exception", .type "BaseException", .type "object"] "ValueError.__new__" = true)
    (gx3 : PySem.W.nsIn K mainGlobals "UnknownName" = some (some (.ref X3)))
    (xga3 : PySem.W.findIn K (.ref X3) "__getattribute__" = some (some (.builtin "BaseException.__getattribute__")))
    (xgt3 : PySem.W.findIn K (.ref X3) "__getattr__" = some none)
    (xsb3 : PySem.W.subIn K (.ref X3) (.type "BaseException") = some true)
    (xhd3 : PySem.W.hasDictIn K X3 = true)
    (xca3 : PySem.W.findIn K (.ref X3) "__class__" = some (some (.builtin "object.__class__")))
    (xmr3 : PySem.W.mroIn K X3 (.type "object") = some true)
    (xty3 : PySem.W.typeIn K (.ref X3) = some (.type "type"))
    (xkp3 : PySem.W.keepIn K (.ref X3) = true)
    (xlk1 : K.lookup X1 = some (excClassObj xnm1 xq1 X1 xN1 xbs1 xbm1 true xsn1 xsu1 xab1 xco1 xdd1 xk01 xk11 xk21 xk31 xk51 "ValueError.__new__"))
    (xrf1 : PySem.HandSPX.refsVE xbm1 = true)
    (xsa1 : PySem.W.findIn K (.ref X1) "__setattr__" = some (some (.builtin "object.__setattr__")))
    (xbg0 : PySem.W.specialIn K (.ref X0) "__getattribute__" = some (some (.builtin "type.__getattribute__")))
    (xbr0 : PySem.W.readsIn K X0 (.type "type") = true)
    (xbf0 : PySem.W.findCls K (.ref X0) (.type "type") "__init__" = some (.val (.builtin "ValueError.__init__")))
    (xs0_BadText : PySem.W.subIn K (.ref X0) (.ref X1) = some false)
    (xn0_BadText : (Value.ref X0 == Value.ref X1) = false)
    (xs1_BadText : PySem.W.subIn K (.ref X1) (.ref X1) = some true)
    (xs2_BadText : PySem.W.subIn K (.ref X2) (.ref X1) = some false)
    (xn2_BadText : (Value.ref X2 == Value.ref X1) = false)
    (xs3_BadText : PySem.W.subIn K (.ref X3) (.ref X1) = some false)
    (xn3_BadText : (Value.ref X3 == Value.ref X1) = false)
    (xs0_NotAllowed : PySem.W.subIn K (.ref X0) (.ref X2) = some false)
    (xn0_NotAllowed : (Value.ref X0 == Value.ref X2) = false)
    (xs1_NotAllowed : PySem.W.subIn K (.ref X1) (.ref X2) = some false)
    (xn1_NotAllowed : (Value.ref X1 == Value.ref X2) = false)
    (xs2_NotAllowed : PySem.W.subIn K (.ref X2) (.ref X2) = some true)
    (xs3_NotAllowed : PySem.W.subIn K (.ref X3) (.ref X2) = some false)
    (xn3_NotAllowed : (Value.ref X3 == Value.ref X2) = false)
    (xs0_UnknownName : PySem.W.subIn K (.ref X0) (.ref X3) = some false)
    (xn0_UnknownName : (Value.ref X0 == Value.ref X3) = false)
    (xs1_UnknownName : PySem.W.subIn K (.ref X1) (.ref X3) = some false)
    (xn1_UnknownName : (Value.ref X1 == Value.ref X3) = false)
    (xs2_UnknownName : PySem.W.subIn K (.ref X2) (.ref X3) = some false)
    (xn2_UnknownName : (Value.ref X2 == Value.ref X3) = false)
    (xs3_UnknownName : PySem.W.subIn K (.ref X3) (.ref X3) = some true)
    (xs0_WritError : PySem.W.subIn K (.ref X0) (.ref X0) = some true)
    (xs1_WritError : PySem.W.subIn K (.ref X1) (.ref X0) = some true)
    (xs2_WritError : PySem.W.subIn K (.ref X2) (.ref X0) = some true)
    (xs3_WritError : PySem.W.subIn K (.ref X3) (.ref X0) = some true)
    (xii1 : PySem.W.findIn K (.ref X1) "__init__" = some (some (.ref f0)))
    (xti1 : PySem.W.typeIn K (.ref f0) = some (.type "function"))
    (l0 : K.lookup f0 = some ⟨oc0, od0, .func (PySem.W.fnOf "__init__" "BadText.__init__" (defArgs s0) (defBody s0) (defScope s0) .none kV0 dc0 pm0 an0 cd0 ct0), sl0⟩)
    (c0 : PySem.W.codeIn K cd0 "BadText.__init__" = true)
    (k0 : PySem.W.keepIn K (.ref f0) = true)
    (a1 : PySem.W.nsIn K mainGlobals "share" = some (some (.ref f1)))
    (l1 : K.lookup f1 = some ⟨oc1, od1, .func (PySem.W.fnOf "share" "share" (defArgs s1) (defBody s1) (defScope s1) .none kV1 dc1 pm1 an1 cd1 ct1), sl1⟩)
    (c1 : PySem.W.codeIn K cd1 "share" = true)
    (k1 : PySem.W.keepIn K (.ref f1) = true)
    (a2 : PySem.W.nsIn K mainGlobals "check_weights" = some (some (.ref f2)))
    (l2 : K.lookup f2 = some ⟨oc2, od2, .func (PySem.W.fnOf "check_weights" "check_weights" (defArgs s2) (defBody s2) (defScope s2) .none kV2 dc2 pm2 an2 cd2 ct2), sl2⟩)
    (c2 : PySem.W.codeIn K cd2 "check_weights" = true)
    (k2 : PySem.W.keepIn K (.ref f2) = true)
    (a3 : PySem.W.nsIn K mainGlobals "by_remainder" = some (some (.ref f3)))
    (l3 : K.lookup f3 = some ⟨oc3, od3, .func (PySem.W.fnOf "by_remainder" "by_remainder" (defArgs s3) (defBody s3) (defScope s3) .none kV3 dc3 pm3 an3 cd3 ct3), sl3⟩)
    (c3 : PySem.W.codeIn K cd3 "by_remainder" = true)
    (k3 : PySem.W.keepIn K (.ref f3) = true)
    (a4 : PySem.W.nsIn K mainGlobals "_law_is_integer" = some (some (.ref f4)))
    (l4 : K.lookup f4 = some ⟨oc4, od4, .func (PySem.W.fnOf "_law_is_integer" "_law_is_integer" (defArgs s4) (defBody s4) (defScope s4) .none kV4 dc4 pm4 an4 cd4 ct4), sl4⟩)
    (c4 : PySem.W.codeIn K cd4 "_law_is_integer" = true)
    (k4 : PySem.W.keepIn K (.ref f4) = true)
    (a5 : PySem.W.nsIn K mainGlobals "_law_row" = some (some (.ref f5)))
    (l5 : K.lookup f5 = some ⟨oc5, od5, .func (PySem.W.fnOf "_law_row" "_law_row" (defArgs s5) (defBody s5) (defScope s5) .none kV5 dc5 pm5 an5 cd5 ct5), sl5⟩)
    (c5 : PySem.W.codeIn K cd5 "_law_row" = true)
    (k5 : PySem.W.keepIn K (.ref f5) = true)
    (a6 : PySem.W.nsIn K mainGlobals "_law_refused" = some (some (.ref f6)))
    (l6 : K.lookup f6 = some ⟨oc6, od6, .func (PySem.W.fnOf "_law_refused" "_law_refused" (defArgs s6) (defBody s6) (defScope s6) .none kV6 dc6 pm6 an6 cd6 ct6), sl6⟩)
    (c6 : PySem.W.codeIn K cd6 "_law_refused" = true)
    (k6 : PySem.W.keepIn K (.ref f6) = true)
    (a7 : PySem.W.nsIn K mainGlobals "_law_weights" = some (some (.ref f7)))
    (l7 : K.lookup f7 = some ⟨oc7, od7, .func (PySem.W.fnOf "_law_weights" "_law_weights" (defArgs s7) (defBody s7) (defScope s7) .none kV7 dc7 pm7 an7 cd7 ct7), sl7⟩)
    (c7 : PySem.W.codeIn K cd7 "_law_weights" = true)
    (k7 : PySem.W.keepIn K (.ref f7) = true)
    (a8 : PySem.W.nsIn K mainGlobals "_law_parts" = some (some (.ref f8)))
    (l8 : K.lookup f8 = some ⟨oc8, od8, .func (PySem.W.fnOf "_law_parts" "_law_parts" (defArgs s8) (defBody s8) (defScope s8) .none kV8 dc8 pm8 an8 cd8 ct8), sl8⟩)
    (c8 : PySem.W.codeIn K cd8 "_law_parts" = true)
    (k8 : PySem.W.keepIn K (.ref f8) = true)
    (a9 : PySem.W.nsIn K mainGlobals "law" = some (some (.ref f9)))
    (l9 : K.lookup f9 = some ⟨oc9, od9, .func (PySem.W.fnOf "law" "law" (defArgs s9) (defBody s9) (defScope s9) .none kV9 dc9 pm9 an9 cd9 ct9), sl9⟩)
    (c9 : PySem.W.codeIn K cd9 "law" = true)
    (k9 : PySem.W.keepIn K (.ref f9) = true)
    : ∃ fd : FuncData, (∀ (s : Shared) (v : Value), BindsTo s fd ⟨[v], []⟩ [("script", v)]) ∧ ∀ base : Heap, K.In base → base.Ns mainGlobals mg → FnOk l.prog w K mg base (L2N.CX l.prog w) 200 fa fd ["script"] (spL K) := by
  have e := hfa.symm.trans (PySem.W.mg_of X G a9)
  cases e
  have T : Txt ⟨K, fun c => ([] : List Addr).getD c 0, fun c => ([] : List (List Str)).getD c [], fun k => ([X0, X1, X2, X3] : List Addr).getD k X0, xf⟩ w mg (fun k => ([f0, f1, f2, f3, f4, f5, f6, f7, f8, fa] : List Addr).getD k 0) (fun k => ([PySem.W.fnOf "__init__" "BadText.__init__" (defArgs s0) (defBody s0) (defScope s0) .none kV0 dc0 pm0 an0 cd0 ct0, PySem.W.fnOf "share" "share" (defArgs s1) (defBody s1) (defScope s1) .none kV1 dc1 pm1 an1 cd1 ct1, PySem.W.fnOf "check_weights" "check_weights" (defArgs s2) (defBody s2) (defScope s2) .none kV2 dc2 pm2 an2 cd2 ct2, PySem.W.fnOf "by_remainder" "by_remainder" (defArgs s3) (defBody s3) (defScope s3) .none kV3 dc3 pm3 an3 cd3 ct3, PySem.W.fnOf "_law_is_integer" "_law_is_integer" (defArgs s4) (defBody s4) (defScope s4) .none kV4 dc4 pm4 an4 cd4 ct4, PySem.W.fnOf "_law_row" "_law_row" (defArgs s5) (defBody s5) (defScope s5) .none kV5 dc5 pm5 an5 cd5 ct5, PySem.W.fnOf "_law_refused" "_law_refused" (defArgs s6) (defBody s6) (defScope s6) .none kV6 dc6 pm6 an6 cd6 ct6, PySem.W.fnOf "_law_weights" "_law_weights" (defArgs s7) (defBody s7) (defScope s7) .none kV7 dc7 pm7 an7 cd7 ct7, PySem.W.fnOf "_law_parts" "_law_parts" (defArgs s8) (defBody s8) (defScope s8) .none kV8 dc8 pm8 an8 cd8 ct8, PySem.W.fnOf "law" "law" (defArgs s9) (defBody s9) (defScope s9) .none kV9 dc9 pm9 an9 cd9 ct9] : List FuncData).getD k (PySem.W.fnOf "law" "law" (defArgs s9) (defBody s9) (defScope s9) .none kV9 dc9 pm9 an9 cd9 ct9)) := {
    n_abs := PySem.W.mg_none_of X G z_abs
    n_bool := PySem.W.mg_none_of X G z_bool
    n_enumerate := PySem.W.mg_none_of X G z_enumerate
    n_int := PySem.W.mg_none_of X G z_int
    n_isinstance := PySem.W.mg_none_of X G z_isinstance
    n_len := PySem.W.mg_none_of X G z_len
    n_list := PySem.W.mg_none_of X G z_list
    n_max := PySem.W.mg_none_of X G z_max
    n_min := PySem.W.mg_none_of X G z_min
    n_range := PySem.W.mg_none_of X G z_range
    n_sorted := PySem.W.mg_none_of X G z_sorted
    n_sum := PySem.W.mg_none_of X G z_sum
    xfl := fun _ => rfl
    gx_WritError := PySem.W.mg_of X G gx0
    gx_BadText := PySem.W.mg_of X G gx1
    gx_NotAllowed := PySem.W.mg_of X G gx2
    X2 := ⟨xxc2, xkp2, xsb2, xty2⟩
    gx_UnknownName := PySem.W.mg_of X G gx3
    XI1 := ⟨oex_mk xlk1 xrf1 xsa1 xsb1 xty1 xkp1, xii1, xti1⟩
    BI_WritError := ⟨xbg0, xty0, xbr0, xbf0⟩
    EX := fun | 0 => ⟨xga0, xgt0, xsb0, xhd0, xca0, xhn, xht, xmr0⟩ | 1 => ⟨xga1, xgt1, xsb1, xhd1, xca1, xhn, xht, xmr1⟩ | 2 => ⟨xga2, xgt2, xsb2, xhd2, xca2, xhn, xht, xmr2⟩ | 3 => ⟨xga3, xgt3, xsb3, xhd3, xca3, xhn, xht, xmr3⟩ | _ + 4 => ⟨xga0, xgt0, xsb0, xhd0, xca0, xhn, xht, xmr0⟩
    XF := fun | 0 => ⟨xga0, xgt0, xsb0, xhd0⟩ | 1 => ⟨xga1, xgt1, xsb1, xhd1⟩ | 2 => ⟨xga2, xgt2, xsb2, xhd2⟩ | 3 => ⟨xga3, xgt3, xsb3, xhd3⟩ | _ + 4 => ⟨xga0, xgt0, xsb0, xhd0⟩
    ki_BadText := fun | 0, b, h => (by have h : some false = some b := h; cases h; exact kit_f xhd1 xty1 xs0_BadText xn0_BadText) | 1, b, h => (by have h : some true = some b := h; cases h; exact kit_t xhd1 xty1 xs1_BadText) | 2, b, h => (by have h : some false = some b := h; cases h; exact kit_f xhd1 xty1 xs2_BadText xn2_BadText) | 3, b, h => (by have h : some false = some b := h; cases h; exact kit_f xhd1 xty1 xs3_BadText xn3_BadText) | _ + 4, b, h => (by have h : none = some b := h; cases h)
    ki_NotAllowed := fun | 0, b, h => (by have h : some false = some b := h; cases h; exact kit_f xhd2 xty2 xs0_NotAllowed xn0_NotAllowed) | 1, b, h => (by have h : some false = some b := h; cases h; exact kit_f xhd2 xty2 xs1_NotAllowed xn1_NotAllowed) | 2, b, h => (by have h : some true = some b := h; cases h; exact kit_t xhd2 xty2 xs2_NotAllowed) | 3, b, h => (by have h : some false = some b := h; cases h; exact kit_f xhd2 xty2 xs3_NotAllowed xn3_NotAllowed) | _ + 4, b, h => (by have h : none = some b := h; cases h)
    ki_UnknownName := fun | 0, b, h => (by have h : some false = some b := h; cases h; exact kit_f xhd3 xty3 xs0_UnknownName xn0_UnknownName) | 1, b, h => (by have h : some false = some b := h; cases h; exact kit_f xhd3 xty3 xs1_UnknownName xn1_UnknownName) | 2, b, h => (by have h : some false = some b := h; cases h; exact kit_f xhd3 xty3 xs2_UnknownName xn2_UnknownName) | 3, b, h => (by have h : some true = some b := h; cases h; exact kit_t xhd3 xty3 xs3_UnknownName) | _ + 4, b, h => (by have h : none = some b := h; cases h)
    em_WritError := fun | 0, b, h => (by have h : some true = some b := h; cases h; exact PySem.W.exm_ref xsb0 xhd0 xty0 xs0_WritError) | 1, b, h => (by have h : some true = some b := h; cases h; exact PySem.W.exm_ref xsb0 xhd0 xty0 xs1_WritError) | 2, b, h => (by have h : some true = some b := h; cases h; exact PySem.W.exm_ref xsb0 xhd0 xty0 xs2_WritError) | 3, b, h => (by have h : some true = some b := h; cases h; exact PySem.W.exm_ref xsb0 xhd0 xty0 xs3_WritError) | _ + 4, b, h => (by have h : none = some b := h; cases h)
    f0 := xm_mk (C := X1) l0 c0 k0 fun _ _ _ _ _ _ us hl => match us, hl with | [_, _], _ => rfl
    f1 := fnAt_mk X G a1 l1 c1 k1 fun _ _ _ _ _ _ us hl => match us, hl with | [_, _], _ => rfl
    f2 := fnAt_mk X G a2 l2 c2 k2 fun _ _ _ _ _ _ us hl => match us, hl with | [_], _ => rfl
    f3 := fnAt_mk X G a3 l3 c3 k3 fun _ _ _ _ _ _ us hl => match us, hl with | [_, _], _ => rfl
    f4 := fnAt_mk X G a4 l4 c4 k4 fun _ _ _ _ _ _ us hl => match us, hl with | [_], _ => rfl
    f5 := fnAt_mk X G a5 l5 c5 k5 fun _ _ _ _ _ _ us hl => match us, hl with | [_, _, _], _ => rfl
    f6 := fnAt_mk X G a6 l6 c6 k6 fun _ _ _ _ _ _ us hl => match us, hl with | [_, _], _ => rfl
    f7 := fnAt_mk X G a7 l7 c7 k7 fun _ _ _ _ _ _ us hl => match us, hl with | [_], _ => rfl
    f8 := fnAt_mk X G a8 l8 c8 k8 fun _ _ _ _ _ _ us hl => match us, hl with | [_, _], _ => rfl
    f9 := fnAt_mk X G a9 l9 c9 k9 fun _ _ _ _ _ _ us hl => match us, hl with | [_], _ => rfl }
  exact ⟨_, fun s v => .of_eq rfl, fun base _ _ => fn_weak (good (P := l.prog) (base := base) T 200 9 (by decide)) (spL_spF (G := ⟨K, fun c => ([] : List Addr).getD c 0, fun c => ([] : List (List Str)).getD c [], fun k => ([X0, X1, X2, X3] : List Addr).getD k X0, xf⟩) law_end)⟩
theorem walk {l : PySem.W.OpenLaw} {q : Program} {loose : List Str} {XP : (Str → Option Value) → Heap → Prop} {YP : World → Heap → Prop} {d : DefRec} {K : Params → PySem.W.Frag} (hn : l.most = some 63) (hdf : d.params.defaults = [])
    (hY : ∀ (w : World) (h : Heap), YP w h → (K w.params).In h)
    (F : ∀ (w : World) (mg : Str → Option Value) (fa : Addr) (h : Heap), (K w.params).In h → h.Ns mainGlobals mg → mg d.name = some (.ref fa) →
      ∃ fd : FuncData, (∀ (s : Shared) (u : Value), BindsTo s fd ⟨[u], []⟩ [("script", u)]) ∧ ∀ base : Heap, (K w.params).In base → base.Ns mainGlobals mg → FnOk l.prog w (K w.params) mg base (L2N.CX l.prog w) 200 fa fd ["script"] (spL (K w.params))) :
    PySem.W.WalkO q loose XP YP l.row.toRowW d [] (fun f vs => PySem.call f vs) :=
  L2.walk_of (n := 63) (k := 200) (x := "script") (CX := fun w => L2N.CX l.prog w) (sp := fun w => spL (K w.params)) hn (by decide) hdf ⟨rfl, by decide, by decide⟩ hY F
    (fun _ _ a ns hl _ hS => ⟨a, ns, rfl, hl, hS, fun _ => rfl⟩) fun _ _ _ _ _ z => cx_none z
end K20
set_option linter.all false
set_option Elab.async false
set_option maxRecDepth 100000
set_option maxHeartbeats 4000000
open PySem PySem.W PyProof.Rows
set_option maxRecDepth 100000 in
set_option maxHeartbeats 0 in
theorem PySem.Challenge.cw_duewrits_k20_whole_shares_holds : PySem.Challenge.rw_duewrits_k20_whole_shares.Holds := by
  w_on; o_law; k_head; (case hw => w_witness2)
  k_fill
  refine K20.walk (l := PySem.Challenge.rw_duewrits_k20_whole_shares) rfl rfl (fun w h Y => PySem.W.kIn_of Y) ?F
  case F =>
    intro w mg fa h KX G hmg
    refine' K20.all_mk KX G hmg ?z_abs ?z_bool ?z_enumerate ?z_int ?z_isinstance ?z_len ?z_list ?z_max ?z_min ?z_range ?z_sorted ?z_sum ?xhn ?xht ?gx0 ?xga0 ?xgt0 ?xsb0 ?xhd0 ?xca0 ?xmr0 ?xty0 ?xkp0 ?gx1 ?xga1 ?xgt1 ?xsb1 ?xhd1 ?xca1 ?xmr1 ?xty1 ?xkp1 ?gx2 ?xga2 ?xgt2 ?xsb2 ?xhd2 ?xca2 ?xmr2 ?xty2 ?xkp2 ?xxc2 ?gx3 ?xga3 ?xgt3 ?xsb3 ?xhd3 ?xca3 ?xmr3 ?xty3 ?xkp3 ?xlk1 ?xrf1 ?xsa1 ?xbg0 ?xbr0 ?xbf0 ?xs0_BadText ?xn0_BadText ?xs1_BadText ?xs2_BadText ?xn2_BadText ?xs3_BadText ?xn3_BadText ?xs0_NotAllowed ?xn0_NotAllowed ?xs1_NotAllowed ?xn1_NotAllowed ?xs2_NotAllowed ?xs3_NotAllowed ?xn3_NotAllowed ?xs0_UnknownName ?xn0_UnknownName ?xs1_UnknownName ?xn1_UnknownName ?xs2_UnknownName ?xn2_UnknownName ?xs3_UnknownName ?xs0_WritError ?xs1_WritError ?xs2_WritError ?xs3_WritError ?xii1 ?xti1 ?l0 ?c0 ?k0 ?a1 ?l1 ?c1 ?k1 ?a2 ?l2 ?c2 ?k2 ?a3 ?l3 ?c3 ?k3 ?a4 ?l4 ?c4 ?k4 ?a5 ?l5 ?c5 ?k5 ?a6 ?l6 ?c6 ?k6 ?a7 ?l7 ?c7 ?k7 ?a8 ?l8 ?c8 ?k8 ?a9 ?l9 ?c9 ?k9
    (case z_abs => k_is)
    (case z_bool => k_is)
    (case z_enumerate => k_is)
    (case z_int => k_is)
    (case z_isinstance => k_is)
    (case z_len => k_is)
    (case z_list => k_is)
    (case z_max => k_is)
    (case z_min => k_is)
    (case z_range => k_is)
    (case z_sorted => k_is)
    (case z_sum => k_is)
    (case xhn => k_is)
    (case xht => k_is)
    (case gx0 => k_is)
    (case xga0 => k_is)
    (case xgt0 => k_is)
    (case xsb0 => k_is)
    (case xhd0 => k_is)
    (case xca0 => k_is)
    (case xmr0 => k_is)
    (case xty0 => k_is)
    (case xkp0 => k_is)
    (case gx1 => k_is)
    (case xga1 => k_is)
    (case xgt1 => k_is)
    (case xsb1 => k_is)
    (case xhd1 => k_is)
    (case xca1 => k_is)
    (case xmr1 => k_is)
    (case xty1 => k_is)
    (case xkp1 => k_is)
    (case gx2 => k_is)
    (case xga2 => k_is)
    (case xgt2 => k_is)
    (case xsb2 => k_is)
    (case xhd2 => k_is)
    (case xca2 => k_is)
    (case xmr2 => k_is)
    (case xty2 => k_is)
    (case xkp2 => k_is)
    (case xxc2 => k_exc)
    (case gx3 => k_is)
    (case xga3 => k_is)
    (case xgt3 => k_is)
    (case xsb3 => k_is)
    (case xhd3 => k_is)
    (case xca3 => k_is)
    (case xmr3 => k_is)
    (case xty3 => k_is)
    (case xkp3 => k_is)
    (case xlk1 => k_is)
    (case xrf1 => first | rfl | k_is)
    (case xsa1 => k_is)
    (case xbg0 => k_is)
    (case xbr0 => k_is)
    (case xbf0 => k_is)
    (case xs0_BadText => k_is)
    (case xn0_BadText => first | rfl | decide)
    (case xs1_BadText => k_is)
    (case xs2_BadText => k_is)
    (case xn2_BadText => first | rfl | decide)
    (case xs3_BadText => k_is)
    (case xn3_BadText => first | rfl | decide)
    (case xs0_NotAllowed => k_is)
    (case xn0_NotAllowed => first | rfl | decide)
    (case xs1_NotAllowed => k_is)
    (case xn1_NotAllowed => first | rfl | decide)
    (case xs2_NotAllowed => k_is)
    (case xs3_NotAllowed => k_is)
    (case xn3_NotAllowed => first | rfl | decide)
    (case xs0_UnknownName => k_is)
    (case xn0_UnknownName => first | rfl | decide)
    (case xs1_UnknownName => k_is)
    (case xn1_UnknownName => first | rfl | decide)
    (case xs2_UnknownName => k_is)
    (case xn2_UnknownName => first | rfl | decide)
    (case xs3_UnknownName => k_is)
    (case xs0_WritError => k_is)
    (case xs1_WritError => k_is)
    (case xs2_WritError => k_is)
    (case xs3_WritError => k_is)
    (case xii1 => k_is)
    (case xti1 => k_is)
    (case l0 => k_is)
    (case c0 => k_is)
    (case k0 => k_is)
    (case a1 => k_is)
    (case l1 => k_is)
    (case c1 => k_is)
    (case k1 => k_is)
    (case a2 => k_is)
    (case l2 => k_is)
    (case c2 => k_is)
    (case k2 => k_is)
    (case a3 => k_is)
    (case l3 => k_is)
    (case c3 => k_is)
    (case k3 => k_is)
    (case a4 => k_is)
    (case l4 => k_is)
    (case c4 => k_is)
    (case k4 => k_is)
    (case a5 => k_is)
    (case l5 => k_is)
    (case c5 => k_is)
    (case k5 => k_is)
    (case a6 => k_is)
    (case l6 => k_is)
    (case c6 => k_is)
    (case k6 => k_is)
    (case a7 => k_is)
    (case l7 => k_is)
    (case c7 => k_is)
    (case k7 => k_is)
    (case a8 => k_is)
    (case l8 => k_is)
    (case c8 => k_is)
    (case k8 => k_is)
    (case a9 => k_is)
    (case l9 => k_is)
    (case c9 => k_is)
    (case k9 => k_is)
