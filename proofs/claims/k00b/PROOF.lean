import PyProof.Rows.All
import Wide.All
import OpenK.AllK
import Wide.FinOn
import HandS.Words
import HandS.Comp
import HandS.Iter
import HandS.Text
import HandS.More
import HandS.IsInst
import HandS.StrMore
import HandS.Exc
import HandS.ExcOwn
import HandS.TryOnly
import HandS.ExcValue
import HandS.ExcInit
import HandS.Flow
import HandS.Walk
import HandS.Ends
import HandS.Dict
import HandS.List
import HandS.Conv
import HandS.TupAny
import HandS.Zip
import HandS.Star
import HandS.FStr
import PyProof.P3In
import PyProof.ReprRoads
import HandS.Codes
import HandS.RaiseMore
import KE.KExcInit
import PyProof.InstStoreFacts
import PyProof.RulesRaise
import PyProof.FactsTree
import KE.KExcIs
import HandS.ExcIs
import PyProof.ReprReads
import PySem.Challenge.RW_deepenough_k00_errors_and_what_they_keep
set_option Elab.async false
set_option linter.all false
set_option maxRecDepth 100000
/-! Data in place of addresses: an expression of the program is a plain function of the frame's data and of a store of the things that change. -/
namespace DL
open PySem L2

/-- data: what never changes stands as a tree, what may change by the number of its cell -/
inductive D where
  | non | bl (b : Bool) | int (i : Int) | str (s : Str) | ty (n : String) | h (k : Nat)
  | lst (xs : List D) | rl (xs : List D) | tup (xs : List D) | dct (kvs : List (Key × D))
  /-- an exception of the program's class of this name, with or without a field -/
  | exc (n : Str) | exf (n f : Str) (x : D)

/-- what may change -/
inductive Cell where
  | lst (xs : List D)

/-- the frame's names and the cells -/
structure Sg where
  ρ : List (Option D)
  μ : List Cell

/-- the cells' addresses; what no data may lie at -/
structure Ar where
  c : List Addr
  b : List Addr
def Ar.Out (as : Ar) (a : Addr) : Prop := a ∉ as.c ∧ a ∉ as.b

section
variable (K : PySem.W.Frag)
/-- a list of the written part, or one that is tracked: the last never at an address of a cell -/
def TrL (as : Ar) (H : Hp) (a : Addr) (vs : List V) : Prop := (Rd H a (.lst vs) ∧ as.Out a) ∨ ∀ H' : Hp, SqL K H' a vs
def TrT (as : Ar) (H : Hp) (a : Addr) (vs : List V) : Prop := (Rd H a (.tup vs) ∧ as.Out a) ∨ ∀ H' : Hp, SqT K H' a vs
theorem TrL.sq {K : PySem.W.Frag} {as : Ar} {H : Hp} {a : Addr} {vs : List V} (h : TrL K as H a vs) : SqL K H a vs := h.elim (fun z => .inl z.1) fun z => z H
theorem TrT.sq {K : PySem.W.Frag} {as : Ar} {H : Hp} {a : Addr} {vs : List V} (h : TrT K as H a vs) : SqT K H a vs := h.elim (fun z => .inl z.1) fun z => z H

mutual
inductive Rep (as : Ar) (H : Hp) : V → D → Prop
  | non : Rep as H .non .non
  | bl (b : Bool) : Rep as H (.bl b) (.bl b)
  | int (i : Int) : Rep as H (.int i) (.int i)
  | str (s : Str) : Rep as H (.str s) (.str s)
  | ty (n : String) : Rep as H (.ty n) (.ty n)
  | h {k : Nat} {a : Addr} : as.c[k]? = some a → Rep as H (.ref a) (.h k)
  | lst {a : Addr} {vs : List V} {ds : List D} : H a = some (.lst vs) → as.Out a → Reps as H vs ds → Rep as H (.ref a) (.lst ds)
  | rl {a : Addr} {vs : List V} {ds : List D} : TrL K as H a vs → Reps as H vs ds → Rep as H (.ref a) (.rl ds)
  | tup {a : Addr} {vs : List V} {ds : List D} : TrT K as H a vs → Reps as H vs ds → Rep as H (.ref a) (.tup ds)
  | dct {a : Addr} {kvs : List (Key × V)} {ds : List (Key × D)} : H a = some (.dK kvs) → as.Out a → kvs.map (·.1) = ds.map (·.1) → Reps as H (kvs.map (·.2)) (ds.map (·.2)) → Rep as H (.ref a) (.dct ds)
  | exc {a C : Addr} {n : Str} : PySem.W.nsIn K mainGlobals n = some (some (.ref C)) → H a = some (ExO (.ref C) a) → as.Out a → Rep as H (.ref a) (.exc n)
  | exf {a C dx : Addr} {n f : Str} {v : V} {x : D} : PySem.W.nsIn K mainGlobals n = some (some (.ref C)) → H a = some (exo a C (some dx)) → as.Out a → H dx = some (exd dx [(f, v)]) → as.Out dx → Rep as H v x → Rep as H (.ref a) (.exf n f x)
inductive Reps (as : Ar) (H : Hp) : List V → List D → Prop
  | nil : Reps as H [] []
  | cons {v : V} {vs : List V} {d : D} {ds : List D} : Rep as H v d → Reps as H vs ds → Reps as H (v :: vs) (d :: ds)
end

/-- from one time to a later one: cells may be more, what is no cell stands -/
structure Ext (as : Ar) (H : Hp) (as' : Ar) (H' : Hp) : Prop where
  pre : ∃ more, as'.c = as.c ++ more ∧ ∀ a ∈ more, H a = none
  blk : ∃ nb, as'.b = nb ++ as.b ∧ ∀ a ∈ nb, H a = none
  old : ∀ a o, a ∉ as.c → H a = some o → H' a = some o
  cel : ∀ a ∈ as.c, H a ≠ none → H' a ≠ none

def CellR (as : Ar) (H : Hp) (a : Addr) : Cell → Prop
  | .lst ds => ∃ vs, H a = some (.lst vs) ∧ Reps K as H vs ds

structure StoR (as : Ar) (H : Hp) (μ : List Cell) : Prop where
  len : as.c.length = μ.length
  at_ : ∀ (k : Nat) (a : Addr) (c : Cell), as.c[k]? = some a → μ[k]? = some c → CellR K as H a c
  nd : as.c.Nodup
  bl : ∀ a ∈ as.b, H a ≠ none

def EnvR (as : Ar) (H : Hp) (σ : St) (ρ : List (Option D)) : Prop :=
  σ.length = ρ.length ∧ ∀ (i : Nat) (d : D), ρ[i]? = some (some d) → ∃ v, σ[i]? = some (some v) ∧ Rep K as H v d

structure ER (as : Ar) (σ : St) (H : Hp) (S : Sg) : Prop where
  env : EnvR K as H σ S.ρ
  sto : StoR K as H S.μ
end

section
variable {K : PySem.W.Frag} {as as' as'' : Ar} {H H' H'' : Hp} {σ : St} {S : Sg} {v : V} {d : D} {vs : List V} {ds : List D} {μ μ' : List Cell} {ρ : List (Option D)}

theorem Rd.mv {a : Addr} {u : HO} (h : Rd H a u) (n : as.Out a) (E : Ext as H as' H') : Rd H' a u ∧ as'.Out a := by
  have ne : H a ≠ none := by rcases h with h | ⟨o, h⟩ <;> rw [h] <;> simp
  refine ⟨?_, ?_⟩
  · rcases h with h | ⟨o, h⟩
    · exact .inl (E.old a _ n.1 h)
    · exact .inr ⟨o, E.old a _ n.1 h⟩
  · obtain ⟨more, e, f⟩ := E.pre
    obtain ⟨nb, e', f'⟩ := E.blk
    refine ⟨?_, ?_⟩
    · rw [e, List.mem_append]
      rintro (z | z)
      · exact n.1 z
      · exact ne (f a z)
    · rw [e', List.mem_append]
      rintro (z | z)
      · exact ne (f' a z)
      · exact n.2 z
theorem at_mv {a : Addr} {u : HO} (h : H a = some u) (n : as.Out a) (E : Ext as H as' H') : H' a = some u ∧ as'.Out a :=
  ⟨E.old a u n.1 h, (Rd.mv (.inl h) n E).2⟩
theorem TrL.mv {a : Addr} (h : TrL K as H a vs) (E : Ext as H as' H') : TrL K as' H' a vs := h.elim (fun z => .inl (Rd.mv z.1 z.2 E)) .inr
theorem TrT.mv {a : Addr} (h : TrT K as H a vs) (E : Ext as H as' H') : TrT K as' H' a vs := h.elim (fun z => .inl (Rd.mv z.1 z.2 E)) .inr
mutual
theorem Rep.mv (E : Ext as H as' H') : ∀ {v : V} {d : D}, Rep K as H v d → Rep K as' H' v d
  | _, _, .non => .non
  | _, _, .bl b => .bl b
  | _, _, .int i => .int i
  | _, _, .str s => .str s
  | _, _, .ty n => .ty n
  | _, _, .h e => by
    obtain ⟨more, q, _⟩ := E.pre
    refine .h ?_
    rw [q, List.getElem?_append_left (List.getElem?_eq_some_iff.mp e).1]
    exact e
  | _, _, .lst t n r => let q := at_mv t n E; .lst q.1 q.2 (Reps.mv E r)
  | _, _, .rl t r => .rl (t.mv E) (Reps.mv E r)
  | _, _, .tup t r => .tup (t.mv E) (Reps.mv E r)
  | _, _, .dct t n e r => let q := at_mv t n E; .dct q.1 q.2 e (Reps.mv E r)
  | _, _, .exc e t n => let q := at_mv t n E; .exc e q.1 q.2
  | _, _, .exf e t n t2 n2 r => let q := at_mv t n E; let q2 := at_mv t2 n2 E; .exf e q.1 q.2 q2.1 q2.2 (Rep.mv E r)
theorem Reps.mv (E : Ext as H as' H') : ∀ {vs : List V} {ds : List D}, Reps K as H vs ds → Reps K as' H' vs ds
  | _, _, .nil => .nil
  | _, _, .cons h t => .cons (Rep.mv E h) (Reps.mv E t)
end
theorem Ext.refl : Ext as H as H := ⟨⟨[], by simp, by simp⟩, ⟨[], by simp, by simp⟩, fun _ _ _ h => h, fun _ _ h => h⟩
theorem Ext.trans (E : Ext as H as' H') (E' : Ext as' H' as'' H'') (tr : ∀ a, a ∈ as.c → H a ≠ none) : Ext as H as'' H'' := by
  obtain ⟨m1, e1, f1⟩ := E.pre
  obtain ⟨m2, e2, f2⟩ := E'.pre
  obtain ⟨n1, b1, g1⟩ := E.blk
  obtain ⟨n2, b2, g2⟩ := E'.blk
  have back : ∀ a, H' a = none → H a = none := fun a q => by
    by_cases hn : H a = none
    · exact hn
    · exfalso
      by_cases ha : a ∈ as.c
      · exact E.cel a ha hn q
      · cases e : H a with
        | none => exact hn e
        | some o => rw [E.old a o ha e] at q; cases q
  refine ⟨⟨m1 ++ m2, by rw [e2, e1, List.append_assoc], fun a ha => ?_⟩, ⟨n2 ++ n1, by rw [b2, b1, List.append_assoc], fun a ha => (List.mem_append.mp ha).elim (fun z => back a (g2 a z)) (g1 a)⟩, fun a o n h => ?_, fun a ha h => ?_⟩
  · rcases List.mem_append.mp ha with z | z
    · exact f1 a z
    · exact back a (f2 a z)
  · have q := E.old a o n h
    refine E'.old a o ?_ q
    rw [e1, List.mem_append]
    rintro (z | z)
    · exact n z
    · rw [f1 a z] at h; cases h
  · exact E'.cel a (by rw [e1]; exact List.mem_append_left _ ha) (E.cel a ha h)
theorem StoR.trk (h : StoR K as H μ) : ∀ a ∈ as.c, H a ≠ none := by
  intro a ha
  obtain ⟨k, e⟩ := List.mem_iff_getElem?.mp ha
  have hk : k < μ.length := by rw [← h.len]; exact (List.getElem?_eq_some_iff.mp e).1
  have q := h.at_ k a _ e (List.getElem?_eq_getElem hk)
  cases c : μ[k] with
  | lst ds =>
    rw [c] at q
    obtain ⟨vs, z, _⟩ := q
    rw [z]; simp
theorem StoR.out {p : Addr} (h : StoR K as H μ) (hp : H p = none) : as.Out p := ⟨fun z => h.trk p z hp, fun z => h.bl p z hp⟩
theorem EnvR.mv (h : EnvR K as H σ ρ) (E : Ext as H as' H') : EnvR K as' H' σ ρ := ⟨h.1, fun i d e => let ⟨v, a, b⟩ := h.2 i d e; ⟨v, a, b.mv E⟩⟩
/-- a new thing that is no cell -/
theorem Ext.new {p : Addr} {o : HO} (hp : H p = none) (n : as.Out p) : Ext as H as (upd H p o) :=
  ⟨⟨[], by simp, by simp⟩, ⟨[], by simp, by simp⟩, fun a u _ h => by rw [upd_ne (ne_of_none h hp)]; exact h, fun a ha _ => by
    by_cases e : a = p
    · exact absurd (e ▸ ha) n.1
    · rw [upd_ne e]; assumption⟩
theorem CellR.mv {a : Addr} {c : Cell} (h : CellR K as H a c) (E : Ext as H as' H') (e : H' a = H a) : CellR K as' H' a c := by
  cases c with
  | lst ds => obtain ⟨vs, q, r⟩ := h; exact ⟨vs, e.trans q, r.mv E⟩
/-- the cells stand where nothing was stored into them -/
theorem StoR.keep (h : StoR K as H μ) (E : Ext as H as H') (e : ∀ a ∈ as.c, H' a = H a) : StoR K as H' μ :=
  ⟨h.len, fun k a c q r => (h.at_ k a c q r).mv E (e a (List.mem_of_getElem? q)), h.nd, fun a ha => by
    by_cases hc : a ∈ as.c
    · exact E.cel a hc (h.bl a ha)
    · have q := h.bl a ha
      cases z : H a with
      | none => exact absurd z q
      | some o => rw [E.old a o hc z]; simp⟩
theorem StoR.new {p : Addr} {o : HO} (h : StoR K as H μ) (hp : H p = none) : StoR K as (upd H p o) μ :=
  h.keep (Ext.new hp (h.out hp)) fun a ha => upd_ne fun e => (h.out hp).1 (e ▸ ha)
theorem ER.mvE (h : ER K as σ H S) (E : Ext as H as' H') {μ' : List Cell} (s : StoR K as' H' μ') : ER K as' σ H' { S with μ := μ' } := ⟨h.env.mv E, s⟩
theorem Reps.length : ∀ {vs : List V} {ds : List D}, Reps K as H vs ds → vs.length = ds.length
  | _, _, .nil => rfl
  | _, _, .cons _ t => by rw [List.length_cons, List.length_cons, Reps.length t]
theorem Reps.get : ∀ {vs : List V} {ds : List D} {i : Nat} {d : D}, Reps K as H vs ds → ds[i]? = some d → ∃ v, vs[i]? = some v ∧ Rep K as H v d
  | _, _, _, _, .nil, e => by simp at e
  | _, _, 0, _, .cons h _, e => by simp at e; subst e; exact ⟨_, rfl, h⟩
  | _, _, i + 1, d, .cons _ t, e => by
    obtain ⟨v, a, b⟩ := Reps.get (i := i) t (by simpa using e)
    exact ⟨v, by simpa using a, b⟩
theorem Reps.getV : ∀ {vs : List V} {ds : List D} {i : Nat} {v : V}, Reps K as H vs ds → vs[i]? = some v → ∃ d, ds[i]? = some d ∧ Rep K as H v d
  | _, _, _, _, .nil, e => by simp at e
  | _, _, 0, _, .cons h _, e => by simp at e; subst e; exact ⟨_, rfl, h⟩
  | _, _, i + 1, d, .cons _ t, e => by
    obtain ⟨v, a, b⟩ := Reps.getV (i := i) t (by simpa using e)
    exact ⟨v, by simpa using a, b⟩
theorem Reps.append : ∀ {vs ws : List V} {ds es : List D}, Reps K as H vs ds → Reps K as H ws es → Reps K as H (vs ++ ws) (ds ++ es)
  | _, _, _, _, .nil, s => s
  | _, _, _, _, .cons h t, s => .cons h (Reps.append t s)
theorem Reps.snoc (h : Reps K as H vs ds) (r : Rep K as H v d) : Reps K as H (vs ++ [v]) (ds ++ [d]) := h.append (.cons r .nil)
theorem Reps.set : ∀ {vs : List V} {ds : List D} {v : V} {d : D} (i : Nat), Reps K as H vs ds → Rep K as H v d → Reps K as H (vs.set i v) (ds.set i d)
  | _, _, _, _, _, .nil, _ => .nil
  | _, _, _, _, 0, .cons _ t, r => .cons r t
  | _, _, _, _, i + 1, .cons h t, r => .cons h (Reps.set i t r)
theorem Reps.take : ∀ {vs : List V} {ds : List D} (n : Nat), Reps K as H vs ds → Reps K as H (vs.take n) (ds.take n)
  | _, _, 0, _ => .nil
  | _, _, n + 1, .nil => .nil
  | _, _, n + 1, .cons h t => .cons h (Reps.take n t)
theorem Reps.drop : ∀ {vs : List V} {ds : List D} (n : Nat), Reps K as H vs ds → Reps K as H (vs.drop n) (ds.drop n)
  | _, _, 0, r => r
  | _, _, n + 1, .nil => .nil
  | _, _, n + 1, .cons _ t => Reps.drop n t
theorem Reps.ints : ∀ {ns : List Int}, Reps K as H (ns.map V.int) (ns.map D.int)
  | [] => .nil
  | _ :: _ => .cons (.int _) Reps.ints

/-! ### the judgements -/
abbrev EvE := Sg → Option (D × List Cell)
abbrev EvT := Sg → Option (Bool × List Cell)
abbrev EvA := Sg → Option (List D × List Cell)
/-- how a statement ends; what an expression gives: data, or an exception of the class of this name, with what it keeps -/
inductive Fl where
  | nx | rt (d : D) | bk | ct | ex (n : Str) (x : Option D)
inductive Ov where
  | v (d : D) | x (n : Str) (p : Option D)
abbrev EvX := Sg → Option (Ov × List Cell)
abbrev EvS := Sg → Option (Fl × Sg)

variable (K) in
def tF (f : EvE) : TE := fun σ H Q => ∃ as S d μ', ER K as σ H S ∧ f S = some (d, μ') ∧ ∀ v as' H', Ext as H as' H' → Rep K as' H' v d → StoR K as' H' μ' → Q v H'
variable (K) in
def tFT (f : EvT) : TT := fun σ H Q => ∃ as S b μ', ER K as σ H S ∧ f S = some (b, μ') ∧ ∀ as' H', Ext as H as' H' → StoR K as' H' μ' → Q b H'
variable (K) in
def tFA (f : EvA) : TA := fun σ H Q => ∃ as S ds μ', ER K as σ H S ∧ f S = some (ds, μ') ∧ ∀ vs as' H', Ext as H as' H' → Reps K as' H' vs ds → StoR K as' H' μ' → Q vs H'
/-- what an exception keeps -/
def XR (d : Option Addr) : Option D → Prop
  | none => d = none
  | some _ => False
variable (K) in
/-- .. where an exception may come out -/
def tFX (mg : Str → Option Value) (W : WX) (f : EvX) : TE := fun σ H Q => ∃ as S o μ', ER K as σ H S ∧ f S = some (o, μ') ∧ (match o with
  | .v d => ∀ v as' H', Ext as H as' H' → Rep K as' H' v d → StoR K as' H' μ' → Q v H'
  | .x n p => ∀ as' H' C dx, Ext as H as' H' → StoR K as' H' μ' → mg n = some C → XR dx p → W C dx σ H')
variable (K) in
def endS (mg : Str → Option Value) (W : WX) (as : Ar) (H : Hp) (E : Ends) : Fl → Sg → Prop
  | .nx, S' => ∀ as' σ' H', Ext as H as' H' → ER K as' σ' H' S' → E.nx σ' H'
  | .bk, S' => ∀ as' σ' H', Ext as H as' H' → ER K as' σ' H' S' → E.bk σ' H'
  | .ct, S' => ∀ as' σ' H', Ext as H as' H' → ER K as' σ' H' S' → E.ct σ' H'
  | .rt d, S' => ∀ as' v H', Ext as H as' H' → Rep K as' H' v d → StoR K as' H' S'.μ → E.rt v H'
  | .ex n p, S' => ∀ as' σ' H' C dx, Ext as H as' H' → ER K as' σ' H' S' → mg n = some C → XR dx p → W C dx σ' H'
variable (K) in
def tFS (mg : Str → Option Value) (W : WX) (g : EvS) : TS := fun E σ H => ∃ as S fl S', ER K as σ H S ∧ g S = some (fl, S') ∧ endS K mg W as H E fl S'

end
theorem _root_.L2.PE.imp {X : Cx} {e : Expr} {t t' : TE} (h : PE X e t) (q : ∀ σ H Q, t' σ H Q → t σ H Q) : PE X e t' := ⟨fun pins s σ H Q I z => h.run pins s σ H Q I (q σ H Q z)⟩
theorem _root_.L2.PT.imp {X : Cx} {e : Expr} {t t' : TT} (h : PT X e t) (q : ∀ σ H Q, t' σ H Q → t σ H Q) : PT X e t' := ⟨fun pins s σ H Q I z => h.run pins s σ H Q I (q σ H Q z)⟩
theorem _root_.L2.PA.imp {X : Cx} {e : List Expr} {t t' : TA} (h : PA X e t) (q : ∀ σ H Q, t' σ H Q → t σ H Q) : PA X e t' := ⟨fun pos pins s σ H Q I z => h.run pos pins s σ H Q I (q σ H Q z)⟩
theorem _root_.L2.PS.imp {X : Cx} {e : Stmt} {t t' : TS} (h : PS X e t) (q : ∀ D σ H, t' D σ H → t D σ H) : PS X e t' := ⟨fun pins s σ H D I z => h.run pins s σ H D I (q D σ H z)⟩
theorem _root_.L2.PSs.imp {X : Cx} {e : List Stmt} {t t' : TS} (h : PSs X e t) (q : ∀ D σ H, t' D σ H → t D σ H) : PSs X e t' := ⟨fun pins s σ H D I z => h.run pins s σ H D I (q D σ H z)⟩
end DL
namespace DL
open PySem L2
/-! ### names, constants -/
def fV (i : Nat) : EvE := fun S => match S.ρ[i]? with
  | some (some d) => some (d, S.μ)
  | _ => none
def fC (d : D) : EvE := fun S => some (d, S.μ)
/-- two in a row -/
def fB (g : D → D → List Cell → Option D) (fa fb : EvE) : EvE := fun S => match fa S with
  | some (x, μ1) => match fb { S with μ := μ1 } with
    | some (y, μ2) => match g x y μ2 with
      | some z => some (z, μ2)
      | none => none
    | none => none
  | none => none
def fU (g : D → List Cell → Option D) (fa : EvE) : EvE := fun S => match fa S with
  | some (x, μ1) => match g x μ1 with
    | some z => some (z, μ1)
    | none => none
  | none => none
section
variable {X : Cx} {σ : St} {H : Hp} {Q : VK} {as : Ar}
theorem tF_c {K : PySem.W.Frag} {v : V} {d : D} (r : ∀ as H, Rep K as H v d) : ∀ σ H Q, tF K (fC d) σ H Q → tC v σ H Q := fun σ H Q ⟨as, S, d', μ', E, e, q⟩ => by
  have e' : (d, S.μ) = (d', μ') := Option.some.inj e
  injection e' with e1 e2
  subst e1 e2
  exact q v as H .refl (r _ _) E.sto
theorem de_int {i j pos} : PE X (.Constant (.int i) j pos) (tF X.K (fC (.int i))) := pe_int.imp (tF_c fun _ _ => .int i)
theorem de_bl {b j pos} : PE X (.Constant (.bool b) j pos) (tF X.K (fC (.bl b))) := pe_bl.imp (tF_c fun _ _ => .bl b)
theorem de_non {j pos} : PE X (.Constant .none j pos) (tF X.K (fC .non)) := pe_non.imp (tF_c fun _ _ => .non)
theorem de_str {x j pos} : PE X (.Constant (.str x) j pos) (tF X.K (fC (.str x))) := pe_str.imp (tF_c fun _ _ => .str x)
theorem de_var (i : Nat) {x : Str} {pos : Pos} (hN : X.N[i]? = some x := by rfl) (hv : Vis X.env.scope x := by first | exact Or.inl rfl | exact Or.inr (Or.inl rfl) | exact Or.inr (Or.inr rfl))
    (hd : (x == ("__debug__" : Str)) = false := by decide) (hcd : (x == ("__classdict__" : Str)) = false := by decide) : PE X (.Name x pos) (tF X.K (fV i)) := by
  refine (pe_var hN hv hd hcd).imp fun σ H Q ⟨as, S, d, μ', E, e, q⟩ => ?_
  unfold fV at e
  split at e
  · rename_i d' he
    injection e with e
    injection e with e1 e2
    subst e1 e2
    obtain ⟨v, a, r⟩ := E.env.2 i _ he
    exact ⟨v, a, q v as H .refl r E.sto⟩
  · cases e
/-- a name of the module that holds a constant -/
theorem de_gint {i : Int} {x : Str} {pos : Pos} (hg : Gl X x) (hm : ∃ t, X.mg x = some (.int i t)) (hdb : (x == ("__debug__" : Str)) = false := by decide) : PE X (.Name x pos) (tF X.K (fC (.int i))) := by
  obtain ⟨t, hm⟩ := hm
  exact (pe_glob (v := .int i) hg hm ⟨t, rfl⟩ (hd := hdb)).imp (tF_c fun _ _ => .int i)
theorem de_gty {T : String} {x : Str} {pos : Pos} (hg : Gl X x) (hm : X.mg x = none) (hv : bootBuiltins x = some (.type T)) (hn : x ≠ "__name__" := by decide) (hdb : (x == ("__debug__" : Str)) = false := by decide) : PE X (.Name x pos) (tF X.K (fC (.ty T))) :=
  (pe_bltn (v := .ty T) hg hm hv rfl (hn := hn) (hd := hdb)).imp (tF_c fun _ _ => .ty T)

/-! ### operators -/
def rD (K : PySem.W.Frag) (g : D → D → List Cell → Option D) : R2 := fun x y H Q => ∃ as d e μ z, Rep K as H x d ∧ Rep K as H y e ∧ StoR K as H μ ∧ g d e μ = some z ∧
  ∀ v H', Ext as H as H' → Rep K as H' v z → StoR K as H' μ → Q v H'
def rU1 (K : PySem.W.Frag) (g : D → List Cell → Option D) : V → Hp → VK → Prop := fun x H Q => ∃ as d μ z, Rep K as H x d ∧ StoR K as H μ ∧ g d μ = some z ∧
  ∀ v H', Ext as H as H' → Rep K as H' v z → StoR K as H' μ → Q v H'
theorem tF_b {K : PySem.W.Frag} {g : D → D → List Cell → Option D} {fa fb : EvE} : ∀ σ H Q, tF K (fB g fa fb) σ H Q → tOp (rD K g) (tF K fa) (tF K fb) σ H Q := fun σ H Q ⟨as, S, d', μ', E, e, q⟩ => by
  unfold fB at e
  split at e
  · rename_i x μ1 ea
    split at e
    · rename_i y μ2 eb
      split at e
      · rename_i z ez
        injection e with e
        injection e with e1 e2
        subst e1 e2
        refine ⟨as, S, x, μ1, E, ea, fun v as1 H1 X1 r1 s1 => ⟨as1, _, y, μ2, E.mvE X1 s1, eb, fun u as2 H2 X2 r2 s2 => ⟨as2, x, y, μ2, z, r1.mv X2, r2, s2, ez, fun w H3 X3 r3 s3 => ?_⟩⟩⟩
        exact q w as2 H3 ((X1.trans X2 E.sto.trk).trans X3 E.sto.trk) r3 s3
      · cases e
    · cases e
  · cases e
theorem tF_u {K : PySem.W.Frag} {g : D → List Cell → Option D} {fa : EvE} : ∀ σ H Q, tF K (fU g fa) σ H Q → tUn (rU1 K g) (tF K fa) σ H Q := fun σ H Q ⟨as, S, d', μ', E, e, q⟩ => by
  unfold fU at e
  split at e
  · rename_i x μ1 ea
    split at e
    · rename_i z ez
      injection e with e
      injection e with e1 e2
      subst e1 e2
      exact ⟨as, S, x, μ1, E, ea, fun v as1 H1 X1 r1 s1 => ⟨as1, x, μ1, z, r1, s1, ez, fun w H3 X3 r3 s3 => q w as1 H3 (X1.trans X3 E.sto.trk) r3 s3⟩⟩
    · cases e
  · cases e
variable {a b c : Expr} {fa fb fc : EvE} {pos : Pos}
theorem de_bin {op : Operator} {g : D → D → List Cell → Option D} (ho : OpR X (binaryOp op) (rD X.K g)) (ha : PE X a (tF X.K fa)) (hb : PE X b (tF X.K fb)) : PE X (.BinOp a op b pos) (tF X.K (fB g fa fb)) :=
  (pe_op ho ha hb).imp tF_b
theorem de_cmp {op : CmpOp} {g : D → D → List Cell → Option D} (ho : OpR X (compareOp op) (rD X.K g)) (ha : PE X a (tF X.K fa)) (hb : PE X b (tF X.K fb)) (hm : behindInMarks op b = false) : PE X (.Compare a [op] [b] pos) (tF X.K (fB g fa fb)) :=
  (pe_cmpR ho ha hb hm).imp tF_b
theorem de_un {op : UnaryOp} {g : D → List Cell → Option D} (ho : UnR X (unaryOp op) (rU1 X.K g)) (ha : PE X a (tF X.K fa)) : PE X (.UnaryOp op a pos) (tF X.K (fU g fa)) :=
  (pe_un ho ha).imp tF_u
theorem de_ix {g : D → D → List Cell → Option D} (ho : IxR X (rD X.K g)) (ha : PE X a (tF X.K fa)) (hb : PE X b (tF X.K fb)) (hs : PlainIx b := by exact fun _ _ => rfl) : PE X (.Subscript a b pos) (tF X.K (fB g fa fb)) :=
  (pe_ix ho ha hb hs).imp tF_b
/-- a < b < c: the third only where the first comparison holds -/
def fCh (g g' : D → D → List Cell → Option D) (fa fb fc : EvE) : EvE := fun S => match fa S with
  | some (x, μ1) => match fb { S with μ := μ1 } with
    | some (y, μ2) => match g x y μ2 with
      | some (.bl true) => match fc { S with μ := μ2 } with
        | some (w, μ3) => match g' y w μ3 with
          | some z => some (z, μ3)
          | none => none
        | none => none
      | some (.bl false) => some (.bl false, μ2)
      | _ => none
    | none => none
  | none => none
theorem tF_ch {K : PySem.W.Frag} {g g' : D → D → List Cell → Option D} : ∀ σ H Q, tF K (fCh g g' fa fb fc) σ H Q → tChain (rD K g) (rD K g') (tF K fa) (tF K fb) (tF K fc) σ H Q := fun σ H Q ⟨as, S, d', μ', E, e, q⟩ => by
  unfold fCh at e
  split at e
  · rename_i x μ1 ea
    split at e
    · rename_i y μ2 eb
      split at e
      · rename_i ez
        split at e
        · rename_i w μ3 ec
          split at e
          · rename_i z ew
            injection e with e
            injection e with e1 e2
            subst e1 e2
            refine ⟨as, S, x, μ1, E, ea, fun v as1 H1 X1 r1 s1 => ⟨as1, _, y, μ2, E.mvE X1 s1, eb, fun u as2 H2 X2 r2 s2 => ⟨as2, x, y, μ2, .bl true, r1.mv X2, r2, s2, ez, fun k H3 X3 r3 s3 => ?_⟩⟩⟩
            have X13 := X1.trans (X2.trans X3 s1.trk) E.sto.trk
            cases r3
            refine ⟨true, rfl, ?_⟩
            rw [if_pos rfl]
            refine ⟨as2, _, w, μ3, E.mvE X13 s3, ec, fun t as4 H4 X4 r4 s4 => ⟨as4, y, w, μ3, z, (r2.mv X3).mv X4, r4, s4, ew, fun k5 H5 X5 r5 s5 => ?_⟩⟩
            exact q k5 as4 H5 ((X13.trans X4 E.sto.trk).trans X5 E.sto.trk) r5 s5
          · cases e
        · cases e
      · rename_i ez
        injection e with e
        injection e with e1 e2
        subst e1 e2
        refine ⟨as, S, x, μ1, E, ea, fun v as1 H1 X1 r1 s1 => ⟨as1, _, y, μ2, E.mvE X1 s1, eb, fun u as2 H2 X2 r2 s2 => ⟨as2, x, y, μ2, .bl false, r1.mv X2, r2, s2, ez, fun k H3 X3 r3 s3 => ?_⟩⟩⟩
        have X13 := X1.trans (X2.trans X3 s1.trk) E.sto.trk
        cases r3
        refine ⟨false, rfl, ?_⟩
        rw [if_neg Bool.false_ne_true]
        exact q _ as2 H3 X13 (.bl false) s3
      · cases e
    · cases e
  · cases e
theorem de_chain {op op' : CmpOp} {g g' : D → D → List Cell → Option D} (ho : OpR X (compareOp op) (rD X.K g)) (ho' : OpR X (compareOp op') (rD X.K g')) (ha : PE X a (tF X.K fa)) (hb : PE X b (tF X.K fb)) (hc : PE X c (tF X.K fc)) (hm : lastMarks [op, op'] [b, c] = false := by rfl) :
    PE X (.Compare a [op, op'] [b, c] pos) (tF X.K (fCh g g' fa fb fc)) := (pe_chain ho ho' ha hb hc (hm := hm)).imp tF_ch

/-! ### truth -/
def dTru : D → List Cell → Option Bool
  | .non, _ => some false
  | .bl b, _ => some b
  | .int i, _ => some (i != 0)
  | .str y, _ => if y.length ≤ sizeLine then some ((y.length : Int) != 0) else none
  | .lst xs, _ | .rl xs, _ | .tup xs, _ => some (!xs.isEmpty)
  | .dct kvs, _ => some (!kvs.isEmpty)
  | .h k, μ => match μ[k]? with
    | some (.lst xs) => some (!xs.isEmpty)
    | none => none
  | .ty _, _ | .exc _, _ | .exf _ _ _, _ => none
theorem Reps.isEmpty {K : PySem.W.Frag} {vs : List V} {ds : List D} (h : Reps K as H vs ds) : vs.isEmpty = ds.isEmpty := by cases h <;> rfl
theorem dTru_ok {K : PySem.W.Frag} {v : V} {d : D} {μ : List Cell} {k : Bool} (r : Rep K as H v d) (s : StoR K as H μ) (e : dTru d μ = some k) : TruV K v H k := by
  cases r with
  | non => exact (Option.some.inj e).symm
  | bl b => exact (Option.some.inj e).symm
  | int i => exact (Option.some.inj e).symm
  | str y =>
    simp only [dTru] at e
    split at e
    · rename_i hl
      exact ⟨hl, (Option.some.inj e).symm⟩
    · cases e
  | ty n => cases e
  | exc _ _ _ => cases e
  | exf _ _ _ _ _ _ => cases e
  | @lst a vs ds t n rs => exact .inl ⟨vs, SqL.of t, by rw [rs.isEmpty]; exact (Option.some.inj e).symm⟩
  | @rl a vs ds t rs => exact .inl ⟨vs, t.sq, by rw [rs.isEmpty]; exact (Option.some.inj e).symm⟩
  | @tup a vs ds t rs => exact .inr (.inl ⟨vs, t.sq, by rw [rs.isEmpty]; exact (Option.some.inj e).symm⟩)
  | @dct a kvs ds t n ek rs =>
    refine .inr (.inr ⟨kvs, t, ?_⟩)
    have e' : (!ds.isEmpty) = k := Option.some.inj e
    rw [← e']
    have l : kvs.length = ds.length := by simpa using congrArg List.length ek
    cases kvs <;> cases ds <;> simp_all
  | @h k' a ea =>
    simp only [dTru] at e
    split at e
    · rename_i xs em
      obtain ⟨vs, hv, rs⟩ := s.at_ k' a _ ea em
      exact .inl ⟨vs, SqL.of hv, by rw [rs.isEmpty]; exact (Option.some.inj e).symm⟩
    · cases e
def fTru (fa : EvE) : EvT := fun S => match fa S with
  | some (x, μ1) => match dTru x μ1 with
    | some k => some (k, μ1)
    | none => none
  | none => none
theorem dt_truth (ha : PE X a (tF X.K fa)) (he : ∀ whole, isTrue a X.env whole = (do let v ← whole; standAt a.pos; holding [v] (truthy v)) := by intro _; rfl) : PT X a (tFT X.K (fTru fa)) := by
  refine (pt_truth ha he).imp fun σ H Q ⟨as, S, k, μ', E, e, q⟩ => ?_
  unfold fTru at e
  split at e
  · rename_i x μ1 ea
    split at e
    · rename_i k' ek
      injection e with e
      injection e with e1 e2
      subst e1 e2
      exact ⟨as, S, x, μ1, E, ea, fun v as1 H1 X1 r1 s1 => ⟨k', dTru_ok r1 s1 ek, q as1 H1 X1 s1⟩⟩
    · cases e
  · cases e
/-- a comparison as a test -/
theorem dt_cmp {op : CmpOp} {g : D → D → List Cell → Option D} (ho : OpR X (compareOp op) (rD X.K g)) (ha : PE X a (tF X.K fa)) (hb : PE X b (tF X.K fb)) (hm : behindInMarks op b = false) (hbl : ∀ x y μ z, g x y μ = some z → ∃ k, z = .bl k) :
    PT X (.Compare a [op] [b] pos) (tFT X.K (fTru (fB g fa fb))) := by
  refine (pt_cmpR ho ha hb hm).imp fun σ H Q ⟨as, S, k, μ', E, e, q⟩ => ?_
  unfold fTru at e
  split at e
  · rename_i x μ1 ea
    split at e
    · rename_i k' ek
      injection e with e
      injection e with e1 e2
      subst e1 e2
      obtain ⟨kb, rfl⟩ : ∃ k, x = .bl k := by
        have ea' := ea
        unfold fB at ea'
        split at ea'
        · split at ea'
          · split at ea'
            · rename_i ez
              injection ea' with ea'
              injection ea' with e1 _
              obtain ⟨k, hk⟩ := hbl _ _ _ _ ez
              exact ⟨k, e1 ▸ hk⟩
            · cases ea'
          · cases ea'
        · cases ea'
      have ek' : kb = k' := Option.some.inj ek
      subst ek'
      refine tF_b (K := X.K) σ H _ ⟨as, S, .bl kb, μ1, E, ea, fun v as1 H1 X1 r1 s1 => ?_⟩
      cases r1
      exact ⟨kb, rfl, q as1 H1 X1 s1⟩
    · cases e
  · cases e
theorem dt_chain {op op' : CmpOp} {g g' : D → D → List Cell → Option D} (ho : OpR X (compareOp op) (rD X.K g)) (ho' : OpR X (compareOp op') (rD X.K g')) (ha : PE X a (tF X.K fa)) (hb : PE X b (tF X.K fb)) (hc : PE X c (tF X.K fc))
    (hbl : ∀ x y μ z, g' x y μ = some z → ∃ k, z = .bl k) (hm : lastMarks [op, op'] [b, c] = false := by rfl) : PT X (.Compare a [op, op'] [b, c] pos) (tFT X.K (fTru (fCh g g' fa fb fc))) := by
  refine (pt_chain ho ho' ha hb hc (hm := hm)).imp fun σ H Q ⟨as, S, k, μ', E, e, q⟩ => ?_
  unfold fTru at e
  split at e
  · rename_i x μ1 ea
    split at e
    · rename_i k' ek
      injection e with e
      injection e with e1 e2
      subst e1 e2
      obtain ⟨kb, rfl⟩ : ∃ k, x = .bl k := by
        have ea' := ea
        unfold fCh at ea'
        split at ea'
        · split at ea'
          · split at ea'
            · split at ea'
              · split at ea'
                · rename_i ez
                  injection ea' with ea'
                  injection ea' with e1 _
                  obtain ⟨k, hk⟩ := hbl _ _ _ _ ez
                  exact ⟨k, e1 ▸ hk⟩
                · cases ea'
              · cases ea'
            · injection ea' with ea'
              injection ea' with e1 _
              exact ⟨false, e1.symm⟩
            · cases ea'
          · cases ea'
        · cases ea'
      have ek' : kb = k' := Option.some.inj ek
      subst ek'
      have z := tF_ch (K := X.K) σ H (fun x H' => ∃ k, x = .bl k ∧ Q k H') ⟨as, S, .bl kb, μ1, E, ea, fun v as1 H1 X1 r1 s1 => by cases r1; exact ⟨kb, rfl, q as1 H1 X1 s1⟩⟩
      exact z
    · cases e
  · cases e
def fNot (t : EvT) : EvT := fun S => match t S with
  | some (k, μ1) => some (!k, μ1)
  | none => none
def fAnd (t u : EvT) : EvT := fun S => match t S with
  | some (true, μ1) => u { S with μ := μ1 }
  | some (false, μ1) => some (false, μ1)
  | none => none
def fOr (t u : EvT) : EvT := fun S => match t S with
  | some (true, μ1) => some (true, μ1)
  | some (false, μ1) => u { S with μ := μ1 }
  | none => none
variable {t u : EvT} {rest : List Expr}
theorem dt_not (ha : PT X a (tFT X.K t)) : PT X (.UnaryOp .Not a pos) (tFT X.K (fNot t)) := by
  refine (pt_not ha).imp fun σ H Q ⟨as, S, k, μ', E, e, q⟩ => ?_
  unfold fNot at e
  split at e
  · rename_i k1 μ1 ea
    injection e with e
    injection e with e1 e2
    subst e1 e2
    exact ⟨as, S, k1, μ1, E, ea, fun as1 H1 X1 s1 => q as1 H1 X1 s1⟩
  · cases e
theorem PW.imp {X : Cx} {e : Expr} {t t' : TT} (h : PW X e t) (q : ∀ σ H Q, t' σ H Q → t σ H Q) : PW X e t' := ⟨fun whole pins s σ H Q I z => h.run whole pins s σ H Q I (q σ H Q z)⟩
theorem dw_and1 (ha : PT X a (tFT X.K t)) : PW X (.BoolOp .And [a] pos) (tFT X.K t) := pw_and1 ha
theorem dw_or1 (ha : PT X a (tFT X.K t)) : PW X (.BoolOp .Or [a] pos) (tFT X.K t) := pw_or1 ha
theorem dw_and (ha : PT X a (tFT X.K t)) (hb : PW X (.BoolOp .And (b :: rest) pos) (tFT X.K u)) : PW X (.BoolOp .And (a :: b :: rest) pos) (tFT X.K (fAnd t u)) := by
  refine PW.imp (pw_and ha hb) fun σ H Q ⟨as, S, k, μ', E, e, q⟩ => ?_
  unfold fAnd at e
  split at e
  · rename_i μ1 ea
    exact ⟨as, S, true, μ1, E, ea, fun as1 H1 X1 s1 => iteT ⟨as1, _, k, μ', E.mvE X1 s1, e, fun as2 H2 X2 s2 => q as2 H2 (X1.trans X2 E.sto.trk) s2⟩⟩
  · rename_i μ1 ea
    injection e with e
    injection e with e1 e2
    subst e1 e2
    exact ⟨as, S, false, μ1, E, ea, fun as1 H1 X1 s1 => iteF (q as1 H1 X1 s1)⟩
  · cases e
theorem dw_or (ha : PT X a (tFT X.K t)) (hb : PW X (.BoolOp .Or (b :: rest) pos) (tFT X.K u)) : PW X (.BoolOp .Or (a :: b :: rest) pos) (tFT X.K (fOr t u)) := by
  refine PW.imp (pw_or ha hb) fun σ H Q ⟨as, S, k, μ', E, e, q⟩ => ?_
  unfold fOr at e
  split at e
  · rename_i μ1 ea
    injection e with e
    injection e with e1 e2
    subst e1 e2
    exact ⟨as, S, true, μ1, E, ea, fun as1 H1 X1 s1 => iteT (q as1 H1 X1 s1)⟩
  · rename_i μ1 ea
    exact ⟨as, S, false, μ1, E, ea, fun as1 H1 X1 s1 => iteF ⟨as1, _, k, μ', E.mvE X1 s1, e, fun as2 H2 X2 s2 => q as2 H2 (X1.trans X2 E.sto.trk) s2⟩⟩
  · cases e

/-! ### and, or, not, if as values -/
def fAndV (fa fb : EvE) : EvE := fun S => match fa S with
  | some (x, μ1) => match dTru x μ1 with
    | some true => fb { S with μ := μ1 }
    | some false => some (x, μ1)
    | none => none
  | none => none
def fOrV (fa fb : EvE) : EvE := fun S => match fa S with
  | some (x, μ1) => match dTru x μ1 with
    | some true => some (x, μ1)
    | some false => fb { S with μ := μ1 }
    | none => none
  | none => none
def dNot : D → List Cell → Option D := fun d μ => (dTru d μ).map fun k => .bl (!k)
def fIfE (t : EvT) (fa fb : EvE) : EvE := fun S => match t S with
  | some (true, μ1) => fa { S with μ := μ1 }
  | some (false, μ1) => fb { S with μ := μ1 }
  | none => none
theorem de_one {op} (ha : PE X a (tF X.K fa)) : PE X (.BoolOp op [a] pos) (tF X.K fa) := pe_one ha
theorem de_and (ha : PE X a (tF X.K fa)) (hb : PE X (.BoolOp .And (b :: rest) pos) (tF X.K fb)) : PE X (.BoolOp .And (a :: b :: rest) pos) (tF X.K (fAndV fa fb)) := by
  refine (pe_andT ha hb).imp fun σ H Q ⟨as, S, d, μ', E, e, q⟩ => ?_
  unfold fAndV at e
  split at e
  · rename_i x μ1 ea
    split at e
    · rename_i ek
      exact ⟨as, S, x, μ1, E, ea, fun v as1 H1 X1 r1 s1 => ⟨true, dTru_ok r1 s1 ek, iteT ⟨as1, _, d, μ', E.mvE X1 s1, e, fun w as2 H2 X2 r2 s2 => q w as2 H2 (X1.trans X2 E.sto.trk) r2 s2⟩⟩⟩
    · rename_i ek
      injection e with e
      injection e with e1 e2
      subst e1 e2
      exact ⟨as, S, x, μ1, E, ea, fun v as1 H1 X1 r1 s1 => ⟨false, dTru_ok r1 s1 ek, iteF (q v as1 H1 X1 r1 s1)⟩⟩
    · cases e
  · cases e
theorem de_or (ha : PE X a (tF X.K fa)) (hb : PE X (.BoolOp .Or (b :: rest) pos) (tF X.K fb)) : PE X (.BoolOp .Or (a :: b :: rest) pos) (tF X.K (fOrV fa fb)) := by
  refine (pe_orT ha hb).imp fun σ H Q ⟨as, S, d, μ', E, e, q⟩ => ?_
  unfold fOrV at e
  split at e
  · rename_i x μ1 ea
    split at e
    · rename_i ek
      injection e with e
      injection e with e1 e2
      subst e1 e2
      exact ⟨as, S, x, μ1, E, ea, fun v as1 H1 X1 r1 s1 => ⟨true, dTru_ok r1 s1 ek, iteT (q v as1 H1 X1 r1 s1)⟩⟩
    · rename_i ek
      exact ⟨as, S, x, μ1, E, ea, fun v as1 H1 X1 r1 s1 => ⟨false, dTru_ok r1 s1 ek, iteF ⟨as1, _, d, μ', E.mvE X1 s1, e, fun w as2 H2 X2 r2 s2 => q w as2 H2 (X1.trans X2 E.sto.trk) r2 s2⟩⟩⟩
    · cases e
  · cases e
theorem de_not (ha : PE X a (tF X.K fa)) : PE X (.UnaryOp .Not a pos) (tF X.K (fU dNot fa)) := by
  refine (pe_notT ha).imp fun σ H Q ⟨as, S, d, μ', E, e, q⟩ => ?_
  unfold fU at e
  split at e
  · rename_i x μ1 ea
    split at e
    · rename_i z ez
      injection e with e
      injection e with e1 e2
      subst e1 e2
      obtain ⟨k, ek, rfl⟩ := Option.map_eq_some_iff.mp ez
      exact ⟨as, S, x, μ1, E, ea, fun v as1 H1 X1 r1 s1 => ⟨k, dTru_ok r1 s1 ek, q _ as1 H1 X1 (.bl _) s1⟩⟩
    · cases e
  · cases e
theorem de_ifE (hc : PT X c (tFT X.K t)) (ha : PE X a (tF X.K fa)) (hb : PE X b (tF X.K fb)) : PE X (.IfExp c a b pos) (tF X.K (fIfE t fa fb)) := by
  refine (pe_ifExp hc ha hb).imp fun σ H Q ⟨as, S, d, μ', E, e, q⟩ => ?_
  unfold fIfE at e
  split at e
  · rename_i μ1 ea
    exact ⟨as, S, true, μ1, E, ea, fun as1 H1 X1 s1 => iteT ⟨as1, _, d, μ', E.mvE X1 s1, e, fun w as2 H2 X2 r2 s2 => q w as2 H2 (X1.trans X2 E.sto.trk) r2 s2⟩⟩
  · rename_i μ1 ea
    exact ⟨as, S, false, μ1, E, ea, fun as1 H1 X1 s1 => iteF ⟨as1, _, d, μ', E.mvE X1 s1, e, fun w as2 H2 X2 r2 s2 => q w as2 H2 (X1.trans X2 E.sto.trk) r2 s2⟩⟩
  · cases e

/-! ### lists of expressions, displays, calls of what is built in -/
def fNil : EvA := fun S => some ([], S.μ)
def fCons (fa : EvE) (fr : EvA) : EvA := fun S => match fa S with
  | some (x, μ1) => match fr { S with μ := μ1 } with
    | some (xs, μ2) => some (x :: xs, μ2)
    | none => none
  | none => none
def fApp (g : List D → List Cell → Option D) (fs : EvA) : EvE := fun S => match fs S with
  | some (xs, μ1) => match g xs μ1 with
    | some z => some (z, μ1)
    | none => none
  | none => none
variable {es : List Expr} {fs : EvA}
theorem da_nil : PA X [] (tFA X.K fNil) := pa_nil.imp fun σ H Q ⟨as, S, d, μ', E, e, q⟩ => by
  injection e with e
  injection e with e1 e2
  subst e1 e2
  exact q [] as H .refl .nil E.sto
theorem da_cons (ha : PE X a (tF X.K fa)) (hr : PA X es (tFA X.K fs)) (hs : starEach (a :: es) X.env = (false, eval a X.env) :: starEach es X.env := by rfl) : PA X (a :: es) (tFA X.K (fCons fa fs)) := by
  refine (pa_cons ha hr hs).imp fun σ H Q ⟨as, S, d, μ', E, e, q⟩ => ?_
  unfold fCons at e
  split at e
  · rename_i x μ1 ea
    split at e
    · rename_i xs μ2 eb
      injection e with e
      injection e with e1 e2
      subst e1 e2
      exact ⟨as, S, x, μ1, E, ea, fun v as1 H1 X1 r1 s1 => ⟨as1, _, xs, μ2, E.mvE X1 s1, eb, fun vs as2 H2 X2 r2 s2 => q _ as2 H2 (X1.trans X2 E.sto.trk) (.cons (r1.mv X2) r2) s2⟩⟩
    · cases e
  · cases e
def gLst : List D → List Cell → Option D := fun xs _ => if xs.length ≤ sizeLine then some (.lst xs) else none
def gTup : List D → List Cell → Option D := fun xs _ => if xs.length ≤ sizeLine then some (.tup xs) else none
theorem fApp_out {g : List D → List Cell → Option D} {S : Sg} {d : D} {μ' : List Cell} (e : fApp g fs S = some (d, μ')) : ∃ xs, fs S = some (xs, μ') ∧ g xs μ' = some d := by
  unfold fApp at e
  split at e
  · rename_i xs μ1 ea
    split at e
    · rename_i z ez
      injection e with e
      injection e with e1 e2
      subst e1 e2
      exact ⟨xs, ea, ez⟩
    · cases e
  · cases e
theorem Rep.newL {K : PySem.W.Frag} {p : Addr} {vs : List V} {ds : List D} {μ : List Cell} (s : StoR K as H μ) (hp : H p = none) (r : Reps K as H vs ds) : Rep K as (upd H p (.lst vs)) (.ref p) (.lst ds) :=
  .lst upd_same (s.out hp) (r.mv (Ext.new hp (s.out hp)))
theorem Rep.newT {K : PySem.W.Frag} {p : Addr} {vs : List V} {ds : List D} {μ : List Cell} (s : StoR K as H μ) (hp : H p = none) (r : Reps K as H vs ds) : Rep K as (upd H p (.tup vs)) (.ref p) (.tup ds) :=
  .tup (.inl ⟨.inl upd_same, s.out hp⟩) (r.mv (Ext.new hp (s.out hp)))
theorem de_lst (ha : PA X es (tFA X.K fs)) : PE X (.List es pos) (tF X.K (fApp gLst fs)) := by
  refine (pe_lst ha).imp fun σ H Q ⟨as, S, d, μ', E, e, q⟩ => ?_
  obtain ⟨xs, ea, ez⟩ := fApp_out e
  unfold gLst at ez
  split at ez
  · rename_i hl
    injection ez with ez
    subst ez
    refine ⟨as, S, xs, μ', E, ea, fun vs as1 H1 X1 r1 s1 => ⟨by rw [r1.length]; exact hl, fun p hp => ?_⟩⟩
    exact q _ as1 _ (X1.trans (Ext.new hp (s1.out hp)) E.sto.trk) (.newL s1 hp r1) (s1.new hp)
  · cases ez
theorem de_tup {x1} (ha : PA X es (tFA X.K fs)) : PE X (.Tuple es x1 pos) (tF X.K (fApp gTup fs)) := by
  refine (pe_tup ha).imp fun σ H Q ⟨as, S, d, μ', E, e, q⟩ => ?_
  obtain ⟨xs, ea, ez⟩ := fApp_out e
  unfold gTup at ez
  split at ez
  · rename_i hl
    injection ez with ez
    subst ez
    refine ⟨as, S, xs, μ', E, ea, fun vs as1 H1 X1 r1 s1 => ⟨by rw [r1.length]; exact hl, fun p hp => ?_⟩⟩
    exact q _ as1 _ (X1.trans (Ext.new hp (s1.out hp)) E.sto.trk) (.newT s1 hp r1) (s1.new hp)
  · cases ez
def rCD (K : PySem.W.Frag) (g : List D → List Cell → Option D) : List V → Hp → VK → Prop := fun xs H Q => ∃ as ds μ z, Reps K as H xs ds ∧ StoR K as H μ ∧ g ds μ = some z ∧
  ∀ v H', Ext as H as H' → Rep K as H' v z → StoR K as H' μ → Q v H'
theorem tF_app {K : PySem.W.Frag} {g : List D → List Cell → Option D} : ∀ σ H Q, tF K (fApp g fs) σ H Q → tCB (rCD K g) (tFA K fs) σ H Q := fun σ H Q ⟨as, S, d, μ', E, e, q⟩ => by
  obtain ⟨xs, ea, ez⟩ := fApp_out e
  exact ⟨as, S, xs, μ', E, ea, fun vs as1 H1 X1 r1 s1 => ⟨as1, xs, μ', d, r1, s1, ez, fun w H3 X3 r3 s3 => q w as1 H3 (X1.trans X3 E.sto.trk) r3 s3⟩⟩
theorem de_callB {x : Str} {p : Pos} {id : String} {g : List D → List Cell → Option D} (hc : CallR X (.builtin id) (rCD X.K g)) (hg : Gl X x) (hm : X.mg x = none) (hv : bootBuiltins x = some (.builtin id)) (ha : PA X (a :: es) (tFA X.K fs)) (hn : x ≠ "__name__" := by decide)
    (hdb : (x == ("__debug__" : Str)) = false := by decide) (he : starEach (a :: es) X.env = (false, eval a X.env) :: starEach es X.env := by rfl) (hpl : (backTo pos (starEach es X.env)).any (·.1) = false := by rfl) :
    PE X (.Call (.Name x p) (a :: es) [] pos) (tF X.K (fApp g fs)) := (pe_callB hc hg hm hv ha hn hdb he hpl).imp tF_app
theorem de_callTy {x : Str} {p : Pos} {T : String} {g : List D → List Cell → Option D} (hc : CallR X (.type T) (rCD X.K g)) (hg : Gl X x) (hm : X.mg x = none) (hv : bootBuiltins x = some (.type T)) (ha : PA X (a :: es) (tFA X.K fs)) (hn : x ≠ "__name__" := by decide)
    (hdb : (x == ("__debug__" : Str)) = false := by decide) (he : starEach (a :: es) X.env = (false, eval a X.env) :: starEach es X.env := by rfl) (hpl : (backTo pos (starEach es X.env)).any (·.1) = false := by rfl) :
    PE X (.Call (.Name x p) (a :: es) [] pos) (tF X.K (fApp g fs)) := (pe_callTy hc hg hm hv ha hn hdb he hpl).imp tF_app
end
end DL
namespace DL
open PySem L2
section
variable {X : Cx}
/-! ### what operators do to data -/
/-- the items of a list that may be joined, changed: a tree's or a cell's -/
def asL : D → List Cell → Option (List D)
  | .lst xs, _ => some xs
  | .h k, μ => match μ[k]? with
    | some (.lst xs) => some xs
    | none => none
  | _, _ => none
theorem asL_ok {K : PySem.W.Frag} {as : Ar} {H : Hp} {v : V} {d : D} {μ : List Cell} {xs : List D} (r : Rep K as H v d) (s : StoR K as H μ) (e : asL d μ = some xs) : ∃ a vs, v = .ref a ∧ H a = some (.lst vs) ∧ Reps K as H vs xs := by
  cases r with
  | @lst a vs ds t n rs =>
    have e' : ds = xs := Option.some.inj e
    subst e'
    exact ⟨a, vs, rfl, t, rs⟩
  | @h k a ea =>
    simp only [asL] at e
    split at e
    · rename_i ys em
      have e' : ys = xs := Option.some.inj e
      subst e'
      obtain ⟨vs, hv, rs⟩ := s.at_ k a _ ea em
      exact ⟨a, vs, rfl, hv, rs⟩
    · cases e
  | _ => exact nomatch (show none = some xs from e)
/-- the items of anything like a list -/
def asSL : D → List Cell → Option (List D)
  | .rl xs, _ => some xs
  | d, μ => asL d μ
theorem asSL_ok {K : PySem.W.Frag} {as : Ar} {H : Hp} {v : V} {d : D} {μ : List Cell} {xs : List D} (r : Rep K as H v d) (s : StoR K as H μ) (e : asSL d μ = some xs) : ∃ a vs, v = .ref a ∧ SqL K H a vs ∧ Reps K as H vs xs := by
  cases r with
  | @rl a vs ds t rs =>
    have e' : ds = xs := Option.some.inj e
    subst e'
    exact ⟨a, vs, rfl, t.sq, rs⟩
  | @lst a vs ds t n rs =>
    obtain ⟨b, ws, q1, q2, q3⟩ := asL_ok (Rep.lst t n rs) s e
    exact ⟨b, ws, q1, SqL.of q2, q3⟩
  | @h k a ea =>
    obtain ⟨b, ws, q1, q2, q3⟩ := asL_ok (Rep.h (H := H) (K := K) ea) s e
    exact ⟨b, ws, q1, SqL.of q2, q3⟩
  | _ => exact nomatch (show none = some xs from e)

def dAdd : D → D → List Cell → Option D
  | .int i, .int j, _ => some (.int (i + j))
  | .str x, .str y, _ => if x.length + y.length ≤ sizeLine then some (.str (x ++ y)) else none
  | .tup xs, .tup ys, _ => if xs ≠ [] ∧ xs.length + ys.length ≤ sizeLine then some (.tup (xs ++ ys)) else none
  | x, y, μ => match asL x μ, asL y μ with
    | some xs, some ys => if xs.length + ys.length ≤ sizeLine then some (.lst (xs ++ ys)) else none
    | _, _ => none
theorem Reps.nil_iff {K : PySem.W.Frag} {as : Ar} {H : Hp} {vs : List V} {ds : List D} (r : Reps K as H vs ds) : vs = [] ↔ ds = [] := by
  cases r with
  | nil => simp
  | cons _ _ => simp
theorem add_lists {pins : List (Addr × Obj)} {s : Shared} {σ : St} {H : Hp} {x y : V} {v u : Value} {Q : VK} {as : Ar} {d e : D} {μ : List Cell} {z : D} (I : Inv X pins σ H s) (rx : RelV x v) (ry : RelV y u)
    (rd : Rep X.K as H x d) (re : Rep X.K as H y e) (sto : StoR X.K as H μ) (ez : (match asL d μ, asL e μ with
      | some xs, some ys => if xs.length + ys.length ≤ sizeLine then some (D.lst (xs ++ ys)) else none
      | _, _ => none) = some z) (q : ∀ v H', Ext as H as H' → Rep X.K as H' v z → StoR X.K as H' μ → Q v H') : wpAny (model X.prog X.w) X.A (binaryOp .Add v u) (EP X pins σ Q) X.xe s := by
  split at ez
  · rename_i xs ys e1 e2
    split at ez
    · rename_i hz
      have ez' : D.lst (xs ++ ys) = z := Option.some.inj ez
      subst ez'
      obtain ⟨a, vs, rfl, ha, r1⟩ := asL_ok rd sto e1
      obtain ⟨b, ws, rfl, hb, r2⟩ := asL_ok re sto e2
      exact op_cat pins s σ H _ _ v u Q I rx ry ⟨a, b, vs, ws, rfl, rfl, ha, hb, by rw [r1.length, r2.length]; exact hz, fun p hp => q _ _ (Ext.new hp (sto.out hp)) (.newL sto hp (r1.append r2)) (sto.new hp)⟩
    · cases ez
  · cases ez
theorem op_addD : OpR X (binaryOp .Add) (rD X.K dAdd) := by
  intro pins s σ H x y v u Q I rx ry h
  obtain ⟨as, d, e, μ, z, rd, re, sto, ez, q⟩ := h
  unfold dAdd at ez
  split at ez
  · cases rd; cases re
    have ez' := Option.some.inj ez
    subst ez'
    exact op_add pins s σ H _ _ v u Q I rx ry ⟨_, _, rfl, rfl, q _ H .refl (.int _) sto⟩
  · cases rd; cases re
    split at ez
    · rename_i hz
      have ez' := Option.some.inj ez
      subst ez'
      exact op_add_str pins s σ H _ _ v u Q I rx ry ⟨_, _, rfl, rfl, hz, q _ H .refl (.str _) sto⟩
    · cases ez
  · cases rd with
    | @tup a vs ds t1 r1 =>
    cases re with
    | @tup b ws es t2 r2 =>
    split at ez
    · rename_i hz
      have ez' := Option.some.inj ez
      subst ez'
      refine op_catT pins s σ H _ _ v u Q I rx ry ⟨a, b, vs, ws, rfl, rfl, t1.sq, t2.sq, fun c => hz.1 (r1.nil_iff.mp c), by rw [r1.length, r2.length]; exact hz.2, fun c => ?_, fun c p hp => ?_⟩
      · have c' := r2.nil_iff.mp c
        subst c'
        rw [List.append_nil] at q
        exact q _ H .refl (.tup t1 r1) sto
      · exact q _ _ (Ext.new hp (sto.out hp)) (.newT sto hp (r1.append r2)) (sto.new hp)
    · cases ez
  · exact add_lists I rx ry rd re sto ez q

/-- operators of ints alone -/
def dII (g : Int → Int → Option D) : D → D → List Cell → Option D
  | .int i, .int j, _ => g i j
  | _, _, _ => none
theorem opD_ii {f : Value → Value → Sem Value} {g : Int → Int → Option D} (h : ∀ (pins : List (Addr × Obj)) (s : Shared) (σ : St) (H : Hp) (i j : Int) (v u : Value) (Q : VK) (z : D), Inv X pins σ H s → RelV (.int i) v → RelV (.int j) u → g i j = some z →
    (∀ w, (∀ as, Rep X.K as H w z) → Q w H) → wpAny (model X.prog X.w) X.A (f v u) (EP X pins σ Q) X.xe s) : OpR X f (rD X.K (dII g)) := by
  intro pins s σ H x y v u Q I rx ry ⟨as, d, e, μ, z, rd, re, sto, ez, q⟩
  unfold dII at ez
  split at ez
  · cases rd; cases re
    exact h pins s σ H _ _ v u Q z I rx ry ez fun w r => q w H .refl (r as) sto
  · cases ez
def gSub (i j : Int) : Option D := some (.int (i - j))
def gMod (i j : Int) : Option D := if j ≠ 0 then some (.int (i.fmod j)) else none
def gFdiv (i j : Int) : Option D := if j ≠ 0 ∧ j.natAbs < 1073741824 then some (.int (i.fdiv j)) else none
def gPow (i j : Int) : Option D := if 0 ≤ j ∧ (Builtin.Int.intBits i : Int) * j ≤ 2 ^ 27 then some (.int (i ^ j.toNat)) else none
theorem op_subD : OpR X (binaryOp .Sub) (rD X.K (dII gSub)) := opD_ii fun pins s σ H i j v u Q z I rx ry e q =>
  op_sub pins s σ H _ _ v u Q I rx ry ⟨i, j, rfl, rfl, q _ fun _ => by cases Option.some.inj e; exact .int _⟩
theorem op_modD : OpR X (binaryOp .Mod) (rD X.K (dII gMod)) := opD_ii fun pins s σ H i j v u Q z I rx ry e q => by
  unfold gMod at e
  split at e
  · rename_i hj
    exact op_modN pins s σ H _ _ v u Q I rx ry ⟨i, j, rfl, rfl, hj, q _ fun _ => by cases Option.some.inj e; exact .int _⟩
  · cases e
theorem op_fdivD : OpR X (binaryOp .FloorDiv) (rD X.K (dII gFdiv)) := opD_ii fun pins s σ H i j v u Q z I rx ry e q => by
  unfold gFdiv at e
  split at e
  · rename_i hj
    exact op_fdivN pins s σ H _ _ v u Q I rx ry ⟨i, j, rfl, rfl, hj, q _ fun _ => by cases Option.some.inj e; exact .int _⟩
  · cases e
theorem op_powD : OpR X (binaryOp .Pow) (rD X.K (dII gPow)) := opD_ii fun pins s σ H i j v u Q z I rx ry e q => by
  unfold gPow at e
  split at e
  · rename_i hj
    obtain ⟨t, ev⟩ := (show ∃ t, v = Value.int i t from rx)
    obtain ⟨t', eu⟩ := (show ∃ t, u = Value.int j t from ry)
    subst ev eu
    exact PyProof.Rows.pow_int hj.1 hj.2 ⟨.int _, H, I.tok _, ⟨_, rfl⟩, q _ fun _ => by cases Option.some.inj e; exact .int _⟩
  · cases e
/-- a product of ints, a list so many times -/
def dMul : D → D → List Cell → Option D
  | .int i, .int j, _ => if (-(2 ^ 64) < i ∧ i < 2 ^ 64) ∨ (-(2 ^ 64) < j ∧ j < 2 ^ 64) then some (.int (i * j)) else none
  | x, .int k, μ => match asL x μ with
    | some xs => if -(2 ^ 63) ≤ k ∧ k < 2 ^ 63 ∧ xs.length * k.toNat ≤ sizeLine then some (.lst (List.replicate k.toNat xs).flatten) else none
    | none => none
  | _, _, _ => none
theorem Reps.reps {K : PySem.W.Frag} {as : Ar} {H : Hp} {vs : List V} {ds : List D} (r : Reps K as H vs ds) : ∀ n : Nat, Reps K as H (List.replicate n vs).flatten (List.replicate n ds).flatten
  | 0 => .nil
  | n + 1 => by
    rw [List.replicate_succ, List.replicate_succ, List.flatten_cons, List.flatten_cons]
    exact r.append (r.reps n)
theorem op_mulD : OpR X (binaryOp .Mult) (rD X.K dMul) := by
  intro pins s σ H x y v u Q I rx ry ⟨as, d, e, μ, z, rd, re, sto, ez, q⟩
  unfold dMul at ez
  split at ez
  · cases rd; cases re
    split at ez
    · rename_i hz
      have ez' := Option.some.inj ez
      subst ez'
      exact op_mul pins s σ H _ _ v u Q I rx ry ⟨_, _, rfl, rfl, hz, q _ H .refl (.int _) sto⟩
    · cases ez
  · cases re
    split at ez
    · rename_i xs ex
      split at ez
      · rename_i hz
        have ez' := Option.some.inj ez
        subst ez'
        obtain ⟨a, vs, rfl, ha, r1⟩ := asL_ok rd sto ex
        exact op_rep pins s σ H _ _ v u Q I rx ry ⟨a, _, vs, rfl, rfl, ha, hz.1, hz.2.1, by rw [r1.length]; exact hz.2.2, fun p hp => q _ _ (Ext.new hp (sto.out hp)) (.newL sto hp (r1.reps _)) (sto.new hp)⟩
      · cases ez
    · cases ez
  · cases ez
def dNeg : D → List Cell → Option D
  | .int i, _ => some (.int (-i))
  | _, _ => none
theorem un_negD : UnR X (unaryOp .USub) (rU1 X.K dNeg) := by
  intro pins s σ H x v Q I rx ⟨as, d, μ, z, rd, sto, ez, q⟩
  unfold dNeg at ez
  split at ez
  · cases rd
    have ez' := Option.some.inj ez
    subst ez'
    exact un_neg pins s σ H _ v Q I rx ⟨_, rfl, q _ H .refl (.int _) sto⟩
  · cases ez

/-! ### comparisons -/
/-- of ints, of texts -/
def dOrd (gi : Int → Int → Bool) (gs : Str → Str → Bool) : D → D → List Cell → Option D
  | .int i, .int j, _ => some (.bl (gi i j))
  | .str x, .str y, _ => some (.bl (gs x y))
  | _, _, _ => none
theorem dOrd_bl {gi : Int → Int → Bool} {gs : Str → Str → Bool} : ∀ x y μ z, dOrd gi gs x y μ = some z → ∃ k, z = .bl k := fun x y μ z e => by
  unfold dOrd at e
  split at e
  · exact ⟨_, (Option.some.inj e).symm⟩
  · exact ⟨_, (Option.some.inj e).symm⟩
  · cases e
theorem op_ordD {op : CmpOp} {gi : Int → Int → Bool} {gs : Str → Str → Bool} (h1 : OpR X (compareOp op) (rI0 fun i j => .bl (gi i j))) (h2 : OpR X (compareOp op) (fun x y H Q => ∃ i j, x = .str i ∧ y = .str j ∧ Q (.bl (gs i j)) H)) :
    OpR X (compareOp op) (rD X.K (dOrd gi gs)) := by
  intro pins s σ H x y v u Q I rx ry ⟨as, d, e, μ, z, rd, re, sto, ez, q⟩
  unfold dOrd at ez
  split at ez
  · cases rd; cases re
    have ez' := Option.some.inj ez
    subst ez'
    exact h1 pins s σ H _ _ v u Q I rx ry ⟨_, _, rfl, rfl, q _ H .refl (.bl _) sto⟩
  · cases rd; cases re
    have ez' := Option.some.inj ez
    subst ez'
    exact h2 pins s σ H _ _ v u Q I rx ry ⟨_, _, rfl, rfl, q _ H .refl (.bl _) sto⟩
  · cases ez
def sLt (x y : Str) : Bool := decide (x.cps.toList < y.cps.toList)
abbrev dLt := dOrd (fun i j => decide (i < j)) sLt
abbrev dLe := dOrd (fun i j => decide (i ≤ j)) fun x y => !sLt y x
abbrev dGt := dOrd (fun i j => decide (j < i)) fun x y => sLt y x
abbrev dGe := dOrd (fun i j => decide (j ≤ i)) fun x y => !sLt x y
theorem op_ltD : OpR X (compareOp .Lt) (rD X.K dLt) := op_ordD op_lt op_lt_str
theorem op_leD : OpR X (compareOp .LtE) (rD X.K dLe) := op_ordD op_le op_le_str
theorem op_gtD : OpR X (compareOp .Gt) (rD X.K dGt) := op_ordD op_gt op_gt_str
theorem op_geD : OpR X (compareOp .GtE) (rD X.K dGe) := op_ordD op_ge op_ge_str
/-- is: None, types -/
def isB : D → D → List Cell → Option Bool
  | .non, .non, _ => some true
  | .h _, .non, _ => some false
  | _, .non, _ => some false
  | .ty a, .ty b, _ => some (decide (a = b))
  | _, _, _ => none
def dIs : D → D → List Cell → Option D := fun x y μ => (isB x y μ).map .bl
def dIsNot : D → D → List Cell → Option D := fun x y μ => (isB x y μ).map fun k => .bl (!k)
theorem map_bl {o : Option Bool} {f : Bool → Bool} {z : D} (e : o.map (fun k => D.bl (f k)) = some z) : ∃ k, z = .bl k := by
  obtain ⟨k, _, rfl⟩ := Option.map_eq_some_iff.mp e
  exact ⟨_, rfl⟩
theorem dIs_bl : ∀ x y μ z, dIs x y μ = some z → ∃ k, z = .bl k := fun _ _ _ _ e => map_bl (f := fun k => k) e
theorem dIsNot_bl : ∀ x y μ z, dIsNot x y μ = some z → ∃ k, z = .bl k := fun _ _ _ _ e => map_bl e
theorem isB_ok {K : PySem.W.Frag} {as : Ar} {H : Hp} {x y : V} {d e : D} {μ : List Cell} {k : Bool} (rd : Rep K as H x d) (re : Rep K as H y e) (ez : isB d e μ = some k) :
    (y = .non ∧ k = decide (x = .non)) ∨ ∃ a b, x = .ty a ∧ y = .ty b ∧ k = decide (a = b) := by
  cases re with
  | non =>
    refine .inl ⟨rfl, ?_⟩
    cases rd <;> first | (simp [isB] at ez; simp [← ez]; done) | (unfold isB at ez; simp at ez; simp [ez])
  | ty n =>
    cases rd with
    | ty m => exact .inr ⟨m, n, rfl, rfl, (Option.some.inj ez).symm⟩
    | _ => exact nomatch (show none = some k from ez)
  | _ =>
    cases rd <;> exact nomatch (show none = some k from ez)
theorem op_isD : OpR X (compareOp .Is) (rD X.K dIs) := by
  intro pins s σ H x y v u Q I rx ry ⟨as, d, e, μ, z, rd, re, sto, ez, q⟩
  obtain ⟨k, ek, rfl⟩ := Option.map_eq_some_iff.mp ez
  rcases isB_ok rd re ek with ⟨rfl, rfl⟩ | ⟨a, b, rfl, rfl, rfl⟩
  · exact op_isN pins s σ H _ _ v u Q I rx ry ⟨rfl, q _ H .refl (.bl _) sto⟩
  · exact op_isTyB pins s σ H _ _ v u Q I rx ry ⟨a, b, rfl, rfl, q _ H .refl (.bl _) sto⟩
theorem op_isNotD : OpR X (compareOp .IsNot) (rD X.K dIsNot) := by
  intro pins s σ H x y v u Q I rx ry ⟨as, d, e, μ, z, rd, re, sto, ez, q⟩
  obtain ⟨k, ek, rfl⟩ := Option.map_eq_some_iff.mp ez
  rcases isB_ok rd re ek with ⟨rfl, rfl⟩ | ⟨a, b, rfl, rfl, rfl⟩
  · exact op_notN pins s σ H _ _ v u Q I rx ry ⟨rfl, q _ H .refl (.bl _) sto⟩
  · exact op_notTyB pins s σ H _ _ v u Q I rx ry (show ∃ m n, V.ty a = .ty m ∧ V.ty b = .ty n ∧ Q (.bl (!decide (m = n))) H from ⟨a, b, rfl, rfl, q _ H .refl (.bl _) sto⟩)

/-! ### == of data without dicts -/
mutual
def toP : D → List Cell → Option PyData
  | .non, _ => some .none
  | .bl b, _ => some (.bool b)
  | .int i, _ => some (.int i)
  | .str s, _ => some (.str s)
  | .lst xs, μ | .rl xs, μ => (toPs xs μ).map .list
  | .tup xs, μ => (toPs xs μ).map .tuple
  | .h _, _ | .ty _, _ | .dct _, _ | .exc _, _ | .exf _ _ _, _ => none
def toPs : List D → List Cell → Option (List PyData)
  | [], _ => some []
  | d :: ds, μ => match toP d μ, toPs ds μ with
    | some p, some ps => some (p :: ps)
    | _, _ => none
end
mutual
theorem toP_ok {K : PySem.W.Frag} {as : Ar} {H : Hp} {μ : List Cell} : ∀ {v : V} {d : D} {p : PyData}, Rep K as H v d → toP d μ = some p → Dp K H v p
  | _, _, _, .non, e => by simp only [toP] at e; cases e; exact .non
  | _, _, _, .bl b, e => by simp only [toP] at e; cases e; exact .bl b
  | _, _, _, .int i, e => by simp only [toP] at e; cases e; exact .int i
  | _, _, _, .str s, e => by simp only [toP] at e; cases e; exact .str s
  | _, _, _, .ty n, e => by simp only [toP] at e; cases e
  | _, _, _, .h _, e => by simp only [toP] at e; cases e
  | _, _, _, .dct _ _ _ _, e => by simp only [toP] at e; cases e
  | _, _, _, .exc _ _ _, e => by simp only [toP] at e; cases e
  | _, _, _, .exf _ _ _ _ _ _, e => by simp only [toP] at e; cases e
  | _, _, _, .lst t n r, e => by
    simp only [toP] at e
    obtain ⟨ps, e1, rfl⟩ := Option.map_eq_some_iff.mp e
    exact .lst (SqL.of t) (toPs_ok r e1)
  | _, _, _, .rl t r, e => by
    simp only [toP] at e
    obtain ⟨ps, e1, rfl⟩ := Option.map_eq_some_iff.mp e
    exact .lst t.sq (toPs_ok r e1)
  | _, _, _, .tup t r, e => by
    simp only [toP] at e
    obtain ⟨ps, e1, rfl⟩ := Option.map_eq_some_iff.mp e
    exact .tup t.sq (toPs_ok r e1)
theorem toPs_ok {K : PySem.W.Frag} {as : Ar} {H : Hp} {μ : List Cell} : ∀ {vs : List V} {ds : List D} {ps : List PyData}, Reps K as H vs ds → toPs ds μ = some ps → DpAll K H vs ps
  | _, _, _, .nil, e => by simp only [toPs] at e; cases e; exact .nil
  | _, _, _, .cons h t, e => by
    simp only [toPs] at e
    split at e
    · rename_i p ps e1 e2
      cases e
      exact .cons (toP_ok h e1) (toPs_ok t e2)
    · cases e
end
/-- .. a cell's list, too -/
def toQ : D → List Cell → Option PyData
  | .h k, μ => match μ[k]? with
    | some (.lst xs) => (toPs xs μ).map .list
    | none => none
  | x, μ => toP x μ
theorem toQ_ok {K : PySem.W.Frag} {as : Ar} {H : Hp} {μ : List Cell} {v : V} {d : D} {p : PyData} (r : Rep K as H v d) (s : StoR K as H μ) (e : toQ d μ = some p) : Dp K H v p := by
  unfold toQ at e
  split at e
  · split at e
    · rename_i xs ex
      obtain ⟨ps, e1, rfl⟩ := Option.map_eq_some_iff.mp e
      cases r with
      | @h _ a ea =>
        obtain ⟨vs, hv, rs⟩ := s.at_ _ a _ ea ex
        exact .lst (SqL.of hv) (toPs_ok rs e1)
    · cases e
  · exact toP_ok r e
def eqP (x y : D) (μ : List Cell) : Option Bool := match toQ x μ, toQ y μ with
  | some p, some q => if SeqAt.shaped p = true ∧ SeqAt.shaped q = true then some (PyData.eqv p q) else none
  | _, _ => none
def eqB (x y : D) (μ : List Cell) : Option Bool := match x, y with
  | .str a, .str b => some (decide (a = b))
  | x, y => eqP x y μ
def dEq : D → D → List Cell → Option D := fun x y μ => (eqB x y μ).map .bl
def dNe : D → D → List Cell → Option D := fun x y μ => (eqB x y μ).map fun k => .bl (!k)
theorem dEq_bl : ∀ x y μ z, dEq x y μ = some z → ∃ k, z = .bl k := fun _ _ _ _ e => map_bl (f := fun k => k) e
theorem dNe_bl : ∀ x y μ z, dNe x y μ = some z → ∃ k, z = .bl k := fun _ _ _ _ e => map_bl e
theorem op_eqDD (hu : X.A.units + 64 < cLine) : OpR X (compareOp .Eq) (rD X.K dEq) := by
  intro pins s σ H x y v u Q I rx ry ⟨as, d, e, μ, z, rd, re, sto, ez, q⟩
  obtain ⟨k, ek, rfl⟩ := Option.map_eq_some_iff.mp ez
  unfold eqB at ek
  split at ek
  · cases Option.some.inj ek
    cases rd; cases re
    refine op_eq pins s σ H _ _ v u Q I rx ry ⟨rfl, ?_⟩
    have z := q (.bl _) H .refl (.bl _) sto
    simpa only [V.str.injEq] using z
  unfold eqP at ek
  split at ek
  · rename_i p r e1 e2
    split at ek
    · rename_i hs
      have ek' := Option.some.inj ek
      subst ek'
      exact op_eqD hu pins s σ H _ _ v u Q I rx ry ⟨p, r, toQ_ok rd sto e1, toQ_ok re sto e2, hs.1, hs.2, q _ H .refl (.bl _) sto⟩
    · cases ek
  · cases ek
theorem op_neDD (hu : X.A.units + 64 < cLine) : OpR X (compareOp .NotEq) (rD X.K dNe) := by
  intro pins s σ H x y v u Q I rx ry ⟨as, d, e, μ, z, rd, re, sto, ez, q⟩
  obtain ⟨k, ek, rfl⟩ := Option.map_eq_some_iff.mp ez
  unfold eqB at ek
  split at ek
  · cases Option.some.inj ek
    cases rd; cases re
    refine op_ne pins s σ H _ _ v u Q I rx ry ⟨rfl, ?_⟩
    have z := q (.bl _) H .refl (.bl _) sto
    simpa only [V.str.injEq] using z
  unfold eqP at ek
  split at ek
  · rename_i p r e1 e2
    split at ek
    · rename_i hs
      have ek' := Option.some.inj ek
      subst ek'
      exact op_neD hu pins s σ H _ _ v u Q I rx ry ⟨p, r, toQ_ok rd sto e1, toQ_ok re sto e2, hs.1, hs.2, q _ H .refl (.bl _) sto⟩
    · cases ek
  · cases ek

/-! ### xs[i] -/
def dIx : D → D → List Cell → Option D
  | .str z, .int i, _ => if z.length ≤ sizeLine then (atI z.cps.toList i).map fun c => .str ⟨#[c]⟩ else none
  | .tup xs, .int i, _ => atI xs i
  | x, .int i, μ => match asSL x μ with
    | some xs => atI xs i
    | none => none
  | _, _, _ => none
theorem Reps.atI {K : PySem.W.Frag} {as : Ar} {H : Hp} {vs : List V} {ds : List D} {i : Int} {d : D} (r : Reps K as H vs ds) (e : atI ds i = some d) : ∃ v, L2.atI vs i = some v ∧ Rep K as H v d := by
  unfold L2.atI at e ⊢
  rw [r.length]
  obtain ⟨j, e1, e2⟩ := Option.bind_eq_some_iff.mp e
  obtain ⟨v, q1, q2⟩ := r.get e2
  exact ⟨v, by rw [e1]; exact q1, q2⟩
theorem ix_D : IxR X (rD X.K dIx) := by
  intro value slice pins s σ H x y v u Q I rx ry ⟨as, d, e, μ, z, rd, re, sto, ez, q⟩ hs
  unfold dIx at ez
  split at ez
  · cases rd; cases re
    split at ez
    · rename_i hz
      obtain ⟨c, ec, rfl⟩ := Option.map_eq_some_iff.mp ez
      exact ix_str value slice pins s σ H _ _ v u Q I rx ry ⟨_, _, c, rfl, rfl, hz, ec, q _ H .refl (.str _) sto⟩ hs
    · cases ez
  · cases re
    cases rd with
    | @tup a vs ds t r =>
      obtain ⟨w, e1, r1⟩ := r.atI ez
      exact ix_tup value slice pins s σ H _ _ v u Q I rx ry ⟨a, vs, _, w, rfl, rfl, t.sq, e1, q _ H .refl r1 sto⟩ hs
  · cases re
    split at ez
    · rename_i xs ex
      obtain ⟨a, vs, rfl, hq, r⟩ := asSL_ok rd sto ex
      obtain ⟨w, e1, r1⟩ := r.atI ez
      exact ix_list value slice pins s σ H _ _ v u Q I rx ry ⟨a, vs, _, w, rfl, rfl, hq, e1, q _ H .refl r1 sto⟩ hs
    · cases ez
  · cases ez

/-! ### built-in functions -/
def g1 (g : D → List Cell → Option D) : List D → List Cell → Option D
  | [x], μ => g x μ
  | _, _ => none
def g2 (g : D → D → List Cell → Option D) : List D → List Cell → Option D
  | [x, y], μ => g x y μ
  | _, _ => none
theorem call1 {f : Value} {g : D → List Cell → Option D} (h : ∀ (pins : List (Addr × Obj)) (s : Shared) (σ : St) (H : Hp) (x : V) (us : List Value) (Q : VK) (as : Ar) (d : D) (μ : List Cell) (z : D), Inv X pins σ H s → Vals [x] us → Rep X.K as H x d → StoR X.K as H μ → g d μ = some z →
    (∀ v H', Ext as H as H' → Rep X.K as H' v z → StoR X.K as H' μ → Q v H') → wpAny (model X.prog X.w) X.A (call f us) (EP X pins σ Q) X.xe s) : CallR X f (rCD X.K (g1 g)) := by
  intro pins s σ H xs us Q I r ⟨as, ds, μ, z, rd, sto, ez, q⟩
  unfold g1 at ez
  split at ez
  · cases rd with
    | cons r1 rt =>
    cases rt
    exact h pins s σ H _ us Q as _ μ z I r r1 sto ez q
  · cases ez
theorem call2 {f : Value} {g : D → D → List Cell → Option D} (h : ∀ (pins : List (Addr × Obj)) (s : Shared) (σ : St) (H : Hp) (x y : V) (us : List Value) (Q : VK) (as : Ar) (d e : D) (μ : List Cell) (z : D), Inv X pins σ H s → Vals [x, y] us → Rep X.K as H x d → Rep X.K as H y e → StoR X.K as H μ → g d e μ = some z →
    (∀ v H', Ext as H as H' → Rep X.K as H' v z → StoR X.K as H' μ → Q v H') → wpAny (model X.prog X.w) X.A (call f us) (EP X pins σ Q) X.xe s) : CallR X f (rCD X.K (g2 g)) := by
  intro pins s σ H xs us Q I r ⟨as, ds, μ, z, rd, sto, ez, q⟩
  unfold g2 at ez
  split at ez
  · cases rd with
    | cons r1 rt =>
    cases rt with
    | cons r2 rt =>
    cases rt
    exact h pins s σ H _ _ us Q as _ _ μ z I r r1 r2 sto ez q
  · cases ez
def dAbs : D → List Cell → Option D
  | .int i, _ => some (.int (if i < 0 then -i else i))
  | _, _ => none
theorem call_absD : CallR X (.builtin "abs") (rCD X.K (g1 dAbs)) := call1 fun pins s σ H x us Q as d μ z I r rd sto ez q => by
  unfold dAbs at ez
  split at ez
  · cases rd
    cases Option.some.inj ez
    exact call_abs pins s σ H _ us Q I r ⟨_, rfl, q _ H .refl (.int _) sto⟩
  · cases ez
def dInt1 : D → List Cell → Option D
  | .int i, _ => some (.int i)
  | .bl k, _ => some (.int (if k then 1 else 0))
  | _, _ => none
theorem call_intD : CallR X (.type "int") (rCD X.K (g1 dInt1)) := call1 fun pins s σ H x us Q as d μ z I r rd sto ez q => by
  unfold dInt1 at ez
  split at ez
  · cases rd
    cases Option.some.inj ez
    exact call_int1 pins s σ H _ us Q I r (.inl ⟨_, rfl, q _ H .refl (.int _) sto⟩)
  · cases rd
    cases Option.some.inj ez
    exact call_int1 pins s σ H _ us Q I r (.inr ⟨_, rfl, q _ H .refl (.int _) sto⟩)
  · cases ez
def dMax2 : D → D → List Cell → Option D := dII fun i j => some (.int (if j > i then j else i))
def dMin2 : D → D → List Cell → Option D := dII fun i j => some (.int (if j < i then j else i))
theorem call_max2D (hc : X.calm = true) : CallR X (.builtin "max") (rCD X.K (g2 dMax2)) := call2 fun pins s σ H x y us Q as d e μ z I r rd re sto ez q => by
  unfold dMax2 dII at ez
  split at ez
  · cases rd; cases re
    cases Option.some.inj ez
    exact call_max2 hc pins s σ H _ us Q I r ⟨_, _, rfl, q _ H .refl (.int _) sto⟩
  · cases ez
theorem call_min2D (hc : X.calm = true) : CallR X (.builtin "min") (rCD X.K (g2 dMin2)) := call2 fun pins s σ H x y us Q as d e μ z I r rd re sto ez q => by
  unfold dMin2 dII at ez
  split at ez
  · cases rd; cases re
    cases Option.some.inj ez
    exact call_min2 hc pins s σ H _ us Q I r ⟨_, _, rfl, q _ H .refl (.int _) sto⟩
  · cases ez
def dStr1 : D → List Cell → Option D
  | .int i, _ => if i.natAbs.log2 < 1920 then some (.str (toString i)) else none
  | _, _ => none
theorem call_strD : CallR X (.type "str") (rCD X.K (g1 dStr1)) := call1 fun pins s σ H x us Q as d μ z I r rd sto ez q => by
  unfold dStr1 at ez
  split at ez
  · cases rd
    split at ez
    · rename_i hz
      cases Option.some.inj ez
      exact call_str_int pins s σ H _ us Q I r ⟨_, rfl, hz, q _ H .refl (.str _) sto⟩
    · cases ez
  · cases ez
def dLen : D → List Cell → Option D
  | .str z, _ => if z.length ≤ sizeLine then some (.int z.length) else none
  | .tup xs, _ => some (.int xs.length)
  | x, μ => (asSL x μ).map fun xs => .int xs.length
theorem call_lenD : CallR X (.builtin "len") (rCD X.K (g1 dLen)) := call1 fun pins s σ H x us Q as d μ z I r rd sto ez q => by
  unfold dLen at ez
  split at ez
  · cases rd
    split at ez
    · rename_i hz
      cases Option.some.inj ez
      exact call_len_str pins s σ H _ us Q I r ⟨_, rfl, hz, q _ H .refl (.int _) sto⟩
    · cases ez
  · cases rd with
    | @tup a vs ds t rs =>
      cases Option.some.inj ez
      refine call_len_seq pins s σ H _ us Q I r ⟨a, vs, rfl, .inr t.sq, ?_⟩
      rw [rs.length]
      exact q _ H .refl (.int _) sto
  · obtain ⟨xs, ex, rfl⟩ := Option.map_eq_some_iff.mp ez
    obtain ⟨a, vs, rfl, hq, rs⟩ := asSL_ok rd sto ex
    refine call_len_seq pins s σ H _ us Q I r ⟨a, vs, rfl, .inl hq, ?_⟩
    rw [rs.length]
    exact q _ H .refl (.int _) sto
/-- the built-in class of data -/
def tyOf : D → List Cell → Option String
  | .non, _ => some "NoneType" | .bl _, _ => some "bool" | .int _, _ => some "int" | .str _, _ => some "str"
  | .lst _, _ | .rl _, _ => some "list" | .tup _, _ => some "tuple" | .dct _, _ => some "dict"
  | .h k, μ => match μ[k]? with
    | some (.lst _) => some "list"
    | none => none
  | .ty _, _ | .exc _, _ | .exf _ _ _, _ => none
theorem tyOf_ok {K : PySem.W.Frag} {as : Ar} {H : Hp} {v : V} {d : D} {μ : List Cell} {T : String} (r : Rep K as H v d) (s : StoR K as H μ) (e : tyOf d μ = some T) : TyB K H v T ∧ TyX K H v (.type T) := by
  cases r with
  | non => cases Option.some.inj e; exact ⟨.non, .base .non⟩
  | bl b => cases Option.some.inj e; exact ⟨.bl b, .base (.bl b)⟩
  | int i => cases Option.some.inj e; exact ⟨.int i, .base (.int i)⟩
  | str y => cases Option.some.inj e; exact ⟨.str y, .base (.str y)⟩
  | ty n => cases e
  | exc _ _ _ => cases e
  | exf _ _ _ _ _ _ => cases e
  | @lst a vs ds t n rs => cases Option.some.inj e; exact ⟨.lst (SqL.of t), .base (.lst t)⟩
  | @rl a vs ds t rs =>
    cases Option.some.inj e
    refine ⟨.lst t.sq, ?_⟩
    rcases t with ⟨t, n⟩ | t
    · rcases t with t | ⟨o, t⟩
      · exact .base (.lst t)
      · exact .base (.frz t)
    · rcases t (fun _ => none) with t | ⟨o, its, n, hk, hc, _⟩
      · rcases t with t | ⟨o, t⟩ <;> cases t
      · exact .kList hk hc
  | @tup a vs ds t rs =>
    cases Option.some.inj e
    refine ⟨.tup t.sq, ?_⟩
    rcases t with ⟨t, n⟩ | t
    · rcases t with t | ⟨o, t⟩
      · exact .base (.tup t)
      · exact .fTuple t
    · rcases t (fun _ => none) with t | ⟨o, its, n, hk, hc, _⟩
      · rcases t with t | ⟨o, t⟩ <;> cases t
      · exact .kTuple hk hc
  | @dct a kvs ds t n ek rs => cases Option.some.inj e; exact ⟨.dK t, .base (.dK t)⟩
  | @h k a ea =>
    simp only [tyOf] at e
    split at e
    · rename_i ys em
      cases Option.some.inj e
      obtain ⟨vs, hv, rs⟩ := s.at_ k a _ ea em
      exact ⟨.lst (SqL.of hv), .base (.lst hv)⟩
    · cases e
def dType : D → List Cell → Option D := fun d μ => (tyOf d μ).map .ty
theorem call_typeD : CallR X (.type "type") (rCD X.K (g1 dType)) := call1 fun pins s σ H x us Q as d μ z I r rd sto ez q => by
  obtain ⟨T, e, rfl⟩ := Option.map_eq_some_iff.mp ez
  exact call_type1 pins s σ H _ us Q I r ⟨x, T, rfl, (tyOf_ok rd sto e).1, q _ H .refl (.ty T) sto⟩
def dIsi : D → D → List Cell → Option D
  | d, .ty T, μ => match tyOf d μ with
    | some U => (kitB U T).map .bl
    | none => none
  | _, _, _ => none
theorem call_isiD : CallR X (.builtin "isinstance") (rCD X.K (g2 dIsi)) := call2 fun pins s σ H x y us Q as d e μ z I r rd re sto ez q => by
  unfold dIsi at ez
  split at ez
  · cases re
    split at ez
    · rename_i U eU
      obtain ⟨b, eb, rfl⟩ := Option.map_eq_some_iff.mp ez
      exact call_isi pins s σ H _ us Q I r ⟨x, _, _, _, b, rfl, .ty _, (tyOf_ok rd sto eU).2, kit_ty eb, q _ H .refl (.bl b) sto⟩
    · cases ez
  · cases ez
def reprB (b : Bool) : Str := if b then "True" else "False"
def dRepr0 : D → List Cell → Option D
  | .bl b, _ => some (.str (reprB b))
  | _, _ => none
theorem call_reprD0 : CallR X (.builtin "repr") (rCD X.K (g1 dRepr0)) := call1 fun pins s σ H x us Q as d μ z I r rd sto ez q => by
  unfold dRepr0 at ez
  split at ez
  · cases rd
    cases Option.some.inj ez
    obtain ⟨u, rfl, ru⟩ := Vals.one r
    cases ru
    exact PySem.P.repr_of_bool ⟨.str _, H, I.tok _, ⟨_, rfl⟩, q _ H .refl (.str _) sto⟩
  · cases ez

/-! ### methods of texts -/
variable {o a : Expr} {es : List Expr} {fa : EvE} {fs : EvA} {name : Str} {apos cpos : Pos}
/-- s.m() of a text -/
def dS0 (P : Str → Bool) (g : Str → D) : D → List Cell → Option D
  | .str z, _ => if P z then some (g z) else none
  | _, _ => none
theorem dS0_out {P : Str → Bool} {g : Str → D} {x z : D} {μ : List Cell} (e : dS0 P g x μ = some z) : ∃ y, x = .str y ∧ P y = true ∧ z = g y := by
  unfold dS0 at e
  split at e
  · split at e
    · rename_i hp
      exact ⟨_, rfl, hp, (Option.some.inj e).symm⟩
    · cases e
  · cases e
theorem fU_out {g : D → List Cell → Option D} {f : EvE} {S : Sg} {d : D} {μ' : List Cell} (e : fU g f S = some (d, μ')) : ∃ x, f S = some (x, μ') ∧ g x μ' = some d := by
  unfold fU at e
  split at e
  · rename_i x μ1 ea
    split at e
    · rename_i z ez
      have e' := Option.some.inj e
      injection e' with e1 e2
      subst e1 e2
      exact ⟨x, ea, ez⟩
    · cases e
  · cases e
theorem de_sm0 {id : String} {P : Str → Bool} {g : Str → D} (slot : Slot "str" name id) (ty : typeOf (.builtin id) = pure (.type "method_descriptor"))
    (rule : MtR X id (fun x xs H Q => ∃ z, x = .str z ∧ xs = [] ∧ P z = true ∧ ∀ v, (∀ as, Rep X.K as H v (g z)) → Q v H))
    (ho : PE X o (tF X.K fa)) (hbase : attributeBase o name X.env (eval o X.env) = eval o X.env := by rfl) (hline : (apos.endLine == cpos.line) = true := by rfl) :
    PE X (.Call (.Attribute o name apos) [] [] cpos) (tF X.K (fU (dS0 P g) fa)) := by
  refine (pe_m0 slot ty rule ho hbase hline).imp fun σ H Q ⟨as, S, d, μ', E, e, q⟩ => ?_
  obtain ⟨x, ea, ez⟩ := fU_out e
  obtain ⟨zz, rfl, hp, rfl⟩ := dS0_out ez
  exact ⟨as, S, _, μ', E, ea, fun v as1 H1 X1 r1 s1 => by
    cases r1
    exact ⟨⟨_, rfl⟩, zz, rfl, rfl, hp, fun w rw => q w as1 H1 X1 (rw as1) s1⟩⟩
end
end DL
namespace DL
open PySem L2
theorem pr_inj {α β : Type} {a c : α} {b d : β} (e : some (a, b) = some (c, d)) : a = c ∧ b = d := by
  injection e with e
  exact Prod.mk.inj e
section
variable {K : PySem.W.Frag} {as as' : Ar} {H H' : Hp} {σ : St} {S : Sg} {v : V} {d : D} {vs : List V} {ds : List D} {μ μ' : List Cell} {ρ : List (Option D)}
theorem EnvR.set {i : Nat} (h : EnvR K as H σ ρ) (r : Rep K as H v d) (hi : i < ρ.length) : EnvR K as H (σ.set i (some v)) (ρ.set i (some d)) := by
  refine ⟨by rw [List.length_set, List.length_set]; exact h.1, fun j e he => ?_⟩
  by_cases hj : i = j
  · subst hj
    rw [List.getElem?_set_self hi] at he
    cases he
    exact ⟨v, by rw [List.getElem?_set_self (by rw [h.1]; exact hi)], r⟩
  · rw [List.getElem?_set_ne hj] at he ⊢
    exact h.2 j e he
def wipeR (ρ : List (Option D)) : List Nat → List (Option D)
  | [] => ρ
  | v :: vs => (wipeR ρ vs).set v none
theorem wipeR_length : ∀ ws : List Nat, (wipeR ρ ws).length = ρ.length
  | [] => rfl
  | w :: ws => by unfold wipeR; rw [List.length_set, wipeR_length ws]
theorem EnvR.wipe (h : EnvR K as H σ ρ) : ∀ ws : List Nat, EnvR K as H (L2.wipe σ ws) (wipeR ρ ws)
  | [] => h
  | w :: ws => by
    have q := h.wipe ws
    unfold L2.wipe wipeR
    refine ⟨by rw [List.length_set, List.length_set]; exact q.1, fun j e he => ?_⟩
    by_cases hj : w = j
    · subst hj
      by_cases hw : w < (wipeR ρ ws).length
      · rw [List.getElem?_set_self hw] at he; cases he
      · rw [List.getElem?_eq_none (by rw [List.length_set]; omega)] at he; cases he
    · rw [List.getElem?_set_ne hj] at he ⊢
      exact q.2 j e he
theorem wipe_agree : ∀ {ws : List Nat} {σ τ : St}, σ.length = τ.length → (∀ j, j ∉ ws → σ[j]? = τ[j]?) → L2.wipe σ ws = L2.wipe τ ws := fun {ws σ τ} hl h => by
  refine List.ext_getElem? fun j => ?_
  have key : ∀ (ws : List Nat) (σ : St) (j : Nat), (L2.wipe σ ws)[j]? = if j ∈ ws ∧ j < σ.length then some none else σ[j]? := by
    intro ws
    induction ws with
    | nil => intro σ j; simp [L2.wipe]
    | cons w ws ih =>
      intro σ j
      unfold L2.wipe
      by_cases hj : w = j
      · subst hj
        by_cases hw : w < σ.length
        · rw [List.getElem?_set_self (by rw [wipe_length]; exact hw)]; simp [hw]
        · rw [List.getElem?_eq_none (by rw [List.length_set, wipe_length]; omega), if_neg (by omega), List.getElem?_eq_none (by omega)]
      · rw [List.getElem?_set_ne hj, ih]
        have e : (j ∈ w :: ws) ↔ j ∈ ws := by simp [Ne.symm hj]
        simp only [e]
  rw [key, key]
  by_cases hj : j ∈ ws
  · simp only [hj, true_and, hl]
    split
    · rfl
    · rw [List.getElem?_eq_none (by omega), List.getElem?_eq_none (by omega)]
  · simp only [hj, false_and, if_false]
    exact h j hj

/-! ### targets -/
abbrev Bd := D → Sg → Option Sg
abbrev Bds := List D → Sg → Option Sg
variable (K) in
def tG (b : Bd) (ix : List Nat) : TG := fun v σ H Q => ∃ as S d S', ER K as σ H S ∧ Rep K as H v d ∧ b d S = some S' ∧
  ∀ as' σ' H', Ext as H as' H' → ER K as' σ' H' S' → σ'.length = σ.length → (∀ j, j ∉ ix → σ'[j]? = σ[j]?) → Q σ' H'
variable (K) in
def tGs (b : Bds) (ix : List Nat) : TGs := fun vs σ H Q => ∃ as S ds S', ER K as σ H S ∧ Reps K as H vs ds ∧ b ds S = some S' ∧
  ∀ as' σ' H', Ext as H as' H' → ER K as' σ' H' S' → σ'.length = σ.length → (∀ j, j ∉ ix → σ'[j]? = σ[j]?) → Q σ' H'
end
theorem PG.imp {X : Cx} {e : Expr} {t t' : TG} (h : PG X e t) (q : ∀ v σ H Q, t' v σ H Q → t v σ H Q) : PG X e t' := ⟨fun pins s σ H v u Q I r z => h.run pins s σ H v u Q I r (q v σ H Q z)⟩
theorem PGs.imp {X : Cx} {e : List Expr} {t t' : TGs} (h : PGs X e t) (q : ∀ v σ H Q, t' v σ H Q → t v σ H Q) : PGs X e t' := ⟨fun pins s σ H v u Q I r z => h.run pins s σ H v u Q I r (q v σ H Q z)⟩
theorem PI.imp {X : Cx} {tg e : Expr} {t t' : TI} (h : PI X tg e t) (q : ∀ σ H R, t' σ H R → t σ H R) : PI X tg e t' := ⟨fun pins s σ H R I z => h.run pins s σ H R I (q σ H R z)⟩
theorem PI.or {X : Cx} {tg e : Expr} {t u : TI} (h1 : PI X tg e t) (h2 : PI X tg e u) : PI X tg e (fun σ H R => t σ H R ∨ u σ H R) := ⟨fun pins s σ H R I z => z.elim (h1.run pins s σ H R I) (h2.run pins s σ H R I)⟩
section
variable {X : Cx} {a e : Expr} {es : List Expr} {pos : Pos} {W : WX}
def bName (i : Nat) : Bd := fun d S => if i < S.ρ.length then some { S with ρ := S.ρ.set i (some d) } else none
theorem bName_out {i : Nat} {d : D} {S S' : Sg} (e : bName i d S = some S') : i < S.ρ.length ∧ S' = { S with ρ := S.ρ.set i (some d) } := by
  unfold bName at e
  split at e
  · rename_i h
    exact ⟨h, (Option.some.inj e).symm⟩
  · cases e
theorem gName_of {K : PySem.W.Frag} {i : Nat} : ∀ v σ H Q, tG K (bName i) [i] v σ H Q → gName i v σ H Q := fun v σ H Q ⟨as, S, d, S', E, r, e, q⟩ => by
  obtain ⟨hi, rfl⟩ := bName_out e
  refine q as _ H .refl ⟨E.env.set r hi, E.sto⟩ (List.length_set ..) fun j hj => ?_
  rw [List.getElem?_set_ne (by simpa using Ne.symm (by simpa using hj))]
theorem dg_name {i : Nat} {x : Str} (hN : X.N.Nodup) (hi : X.N[i]? = some x) (hx : Loc X.env.scope x) (hf : X.fn x = true ∨ X.env.scope.names.lookup x = some .local := by first | exact .inl rfl | exact .inr rfl | assumption) : PG X (.Name x pos) (tG X.K (bName i) [i]) :=
  PG.imp (pg_name hN hi hx hf) gName_of
def bsNil : Bds := fun ds S => match ds with
  | [] => some S
  | _ :: _ => none
def bsCons (b : Bd) (bs : Bds) : Bds := fun ds S => match ds with
  | [] => none
  | d :: r => match b d S with
    | some S1 => bs r S1
    | none => none
theorem dgs_nil : PGs X [] (tGs X.K bsNil []) := PGs.imp pgs_nil fun vs σ H Q ⟨as, S, ds, S', E, r, e, q⟩ => by
  cases r with
  | nil =>
    cases Option.some.inj e
    exact ⟨rfl, q as σ H .refl E rfl fun _ _ => rfl⟩
  | cons _ _ => cases e
theorem dgs_cons {b : Bd} {bs : Bds} {ix jx : List Nat} (h1 : PG X a (tG X.K b ix)) (h2 : PGs X es (tGs X.K bs jx)) (hs : (assignEach (a :: es) X.env).map (·.2) = assign a X.env :: (assignEach es X.env).map (·.2) := by rfl) :
    PGs X (a :: es) (tGs X.K (bsCons b bs) (ix ++ jx)) := PGs.imp (pgs_cons h1 h2 hs) fun vs σ H Q ⟨as, S, ds, S', E, r, e, q⟩ => by
  cases r with
  | nil => cases e
  | @cons v vs d ds r1 r2 =>
    unfold bsCons at e
    simp only at e
    split at e
    · rename_i S1 e1
      refine ⟨v, vs, rfl, as, S, d, S1, E, r1, e1, fun as1 σ1 H1 X1 E1 l1 g1 => ⟨as1, S1, ds, S', E1, r2.mv X1, e, fun as2 σ2 H2 X2 E2 l2 g2 => ?_⟩⟩
      exact q as2 σ2 H2 (X1.trans X2 E.sto.trk) E2 (l2.trans l1) fun j hj => (g2 j fun z => hj (List.mem_append_right _ z)).trans (g1 j fun z => hj (List.mem_append_left _ z))
    · cases e
def bTup (n : Nat) (bs : Bds) : Bd := fun d S => match d with
  | .tup xs => if xs.length = n then bs xs S else none
  | _ => none
theorem dg_tup {k : Nat} {bs : Bds} {ix : List Nat} {n : Nat} (hc : X.calm = true) (h : PGs X es (tGs X.K bs ix)) (hn : (assignEach es X.env).length = n := by rfl) (hst : (assignEach es X.env).findIdx? (·.1) = none := by rfl) :
    PG X (.Tuple es k pos) (tG X.K (bTup n bs) ix) := PG.imp (pg_tup hc h hn hst) fun v σ H Q ⟨as, S, d, S', E, r, e, q⟩ => by
  unfold bTup at e
  split at e
  · split at e
    · rename_i hl
      cases r with
      | tup t rs => exact ⟨_, _, rfl, t.sq, rs.length.trans hl, as, S, _, S', E, rs, e, q⟩
    · cases e
  · cases e
/-- a store into a cell's list -/
def cSet (o i d : D) (μ : List Cell) : Option (List Cell) := match o, i with
  | .h k, .int j => match μ[k]? with
    | some (.lst xs) => match ixN xs.length j with
      | some n => some (μ.set k (.lst (xs.set n d)))
      | none => none
    | none => none
  | _, _ => none
theorem nodup_ix {l : List Addr} {i j : Nat} {a : Addr} (h : l.Nodup) (e1 : l[i]? = some a) (e2 : l[j]? = some a) : i = j := by
  exact (List.getElem?_inj (List.getElem?_eq_some_iff.mp e1).1 h).mp (e1.trans e2.symm)
theorem StoR.upd {K : PySem.W.Frag} {as : Ar} {H : Hp} {μ : List Cell} {k : Nat} {a : Addr} {vs : List V} {ds : List D} (s : StoR K as H μ) (ea : as.c[k]? = some a) (r : Reps K as H vs ds) :
    Ext as H as (L2.upd H a (.lst vs)) ∧ StoR K as (L2.upd H a (.lst vs)) (μ.set k (.lst ds)) := by
  have ha : a ∈ as.c := List.mem_of_getElem? ea
  have X1 : Ext as H as (L2.upd H a (.lst vs)) := ⟨⟨[], by simp, by simp⟩, ⟨[], by simp, by simp⟩, fun b o hb e => by rw [upd_ne fun (z : b = a) => hb (by rw [z]; exact ha)]; exact e, fun b hb e => by
    by_cases z : b = a
    · subst z; rw [upd_same]; simp
    · rw [upd_ne z]; exact e⟩
  refine ⟨X1, ?_, fun j b c ej ec => ?_, s.nd, fun b hb => ?_⟩
  · rw [List.length_set]; exact s.len
  · by_cases hj : k = j
    · subst hj
      have hk : k < μ.length := by
        rw [← s.len]; exact (List.getElem?_eq_some_iff.mp ea).1
      rw [List.getElem?_set_self hk] at ec
      cases ec
      rw [ea] at ej
      cases ej
      exact ⟨vs, upd_same, r.mv X1⟩
    · rw [List.getElem?_set_ne hj] at ec
      refine (s.at_ j b c ej ec).mv X1 (upd_ne fun z => hj ?_)
      subst z
      exact nodup_ix s.nd ea ej
  · by_cases z : b = a
    · subst z; rw [upd_same]; simp
    · rw [upd_ne z]; exact s.bl b hb
def bSub (fo fi : EvE) : Bd := fun d S => match fo S with
  | some (o, μ1) => match fi { S with μ := μ1 } with
    | some (i, μ2) => match cSet o i d μ2 with
      | some μ3 => some { S with μ := μ3 }
      | none => none
    | none => none
  | none => none
theorem cSet_out {o i d : D} {μ μ' : List Cell} (e : cSet o i d μ = some μ') : ∃ k j xs n, o = .h k ∧ i = .int j ∧ μ[k]? = some (.lst xs) ∧ ixN xs.length j = some n ∧ μ' = μ.set k (.lst (xs.set n d)) := by
  unfold cSet at e
  split at e
  · split at e
    · rename_i xs ex
      split at e
      · rename_i n en
        exact ⟨_, _, xs, n, rfl, rfl, ex, en, (Option.some.inj e).symm⟩
      · cases e
    · cases e
  · cases e
theorem dg_sub {o i : Expr} {fo fi : EvE} (ho : PE X o (tF X.K fo)) (hi : PE X i (tF X.K fi)) (ha : ∀ v, assign (.Subscript o i pos) X.env v = (do
      let ov ← holding [v] (eval o X.env)
      let iv ← holding [v, ov] (eval i X.env)
      standAt pos
      holding [v, ov, iv] (setItem ov iv v)
      release [v, ov, iv] []) := by intro _; rfl) : PG X (.Subscript o i pos) (tG X.K (bSub fo fi) []) := PG.imp (pg_sub ho hi set_list ha) fun v σ H Q ⟨as, S, d, S', E, r, e, q⟩ => by
  unfold bSub at e
  split at e
  · rename_i x μ1 ea
    split at e
    · rename_i y μ2 eb
      split at e
      · rename_i μ3 ec
        cases Option.some.inj e
        obtain ⟨k, j, xs, n, rfl, rfl, ex, en, rfl⟩ := cSet_out ec
        refine ⟨as, S, _, μ1, E, ea, fun u as1 H1 X1 r1 s1 => ⟨as1, _, _, μ2, E.mvE X1 s1, eb, fun w as2 H2 X2 r2 s2 => ?_⟩⟩
        have r1' := r1.mv X2
        cases r2
        cases r1' with
        | @h _ p ep =>
          obtain ⟨vs, hv, rs⟩ := s2.at_ k p _ ep ex
          have X12 := X1.trans X2 E.sto.trk
          obtain ⟨X3, s3⟩ := s2.upd ep (rs.set n (r.mv X12))
          refine ⟨p, vs, j, n, rfl, rfl, hv, by rw [rs.length]; exact en, ?_⟩
          exact q as2 σ _ (X12.trans X3 E.sto.trk) (E.mvE (X12.trans X3 E.sto.trk) s3) rfl fun _ _ => rfl
      · cases e
    · cases e
  · cases e

/-! ### statements -/
def bThen (b : Bd) (f : EvE) : EvS := fun S => match f S with
  | some (d, μ1) => match b d { S with μ := μ1 } with
    | some S' => some (.nx, S')
    | none => none
  | none => none
theorem endS_mv {K : PySem.W.Frag} {mg : Str → Option Value} {as as1 : Ar} {H H1 : Hp} {E : Ends} {fl : Fl} {S' : Sg} (h : endS K mg W as H E fl S') (X1 : Ext as H as1 H1) (tr : ∀ a, a ∈ as.c → H a ≠ none) : endS K mg W as1 H1 E fl S' := by
  cases fl with
  | nx => exact fun as2 σ2 H2 X2 E2 => h as2 σ2 H2 (X1.trans X2 tr) E2
  | bk => exact fun as2 σ2 H2 X2 E2 => h as2 σ2 H2 (X1.trans X2 tr) E2
  | ct => exact fun as2 σ2 H2 X2 E2 => h as2 σ2 H2 (X1.trans X2 tr) E2
  | rt d => exact fun as2 v H2 X2 r s => h as2 v H2 (X1.trans X2 tr) r s
  | ex n p => exact fun as2 σ2 H2 C dx X2 E2 e x => h as2 σ2 H2 C dx (X1.trans X2 tr) E2 e x
variable {f : EvE} {b : Bd} {ix : List Nat}
theorem bThen_of {K : PySem.W.Frag} {mg : Str → Option Value} {g : TG} (hg : ∀ v σ H Q, tG K b ix v σ H Q → g v σ H Q) : ∀ D σ H, tFS K mg W (bThen b f) D σ H → tAsg (tF K f) g D σ H := fun D σ H ⟨as, S, fl, S', E, e, q⟩ => by
  unfold bThen at e
  split at e
  · rename_i d μ1 ef
    split at e
    · rename_i S1 eb
      obtain ⟨rfl, rfl⟩ := pr_inj e
      exact ⟨as, S, d, μ1, E, ef, fun v as1 H1 X1 r1 s1 => hg _ _ _ _ ⟨as1, _, d, S1, E.mvE X1 s1, r1, eb, fun as2 σ2 H2 X2 E2 _ _ => q as2 σ2 H2 (X1.trans X2 E.sto.trk) E2⟩⟩
    · cases e
  · cases e
theorem ds_asg {tg : Expr} (he : PE X e (tF X.K f)) (hg : PG X tg (tG X.K b ix)) (hs : swapsWithSole [tg] e pos.line X.env = pure false := by rfl) (hw : swappedStores [tg] e X.env = pure none := by rfl)
    (h1 : (assignEach [tg] X.env).map (·.2) = [assign tg X.env] := by rfl) : PS X (.Assign [tg] e pos) (tFS X.K X.mg W (bThen b f)) := (ps_asg he hg hs hw h1).imp (bThen_of fun _ _ _ _ z => z)
theorem ds_set {i : Nat} {x : Str} {pos' : Pos} (hN : X.N.Nodup) (hi : X.N[i]? = some x) (hx : Loc X.env.scope x) (he : PE X e (tF X.K f)) (hs : swapsWith e (some (.Name x pos')) pos.line X.env = pure false := by rfl)
    (hf : X.fn x = true ∨ X.env.scope.names.lookup x = some .local := by first | exact .inl rfl | exact .inr rfl | assumption) : PS X (.Assign [.Name x pos'] e pos) (tFS X.K X.mg W (bThen (bName i) f)) := (ps_set hN hi hx he hs hf).imp (bThen_of gName_of)
def sDrop (f : EvE) : EvS := fun S => match f S with
  | some (_, μ1) => some (.nx, { S with μ := μ1 })
  | none => none
theorem ds_expr (he : PE X e (tF X.K f)) (hs : swapsWith e none pos.line X.env = pure false := by rfl) : PS X (.Expr e pos) (tFS X.K X.mg W (sDrop f)) := (ps_expr he hs).imp fun D σ H ⟨as, S, fl, S', E, e, q⟩ => by
  unfold sDrop at e
  split at e
  · rename_i d μ1 ef
    obtain ⟨rfl, rfl⟩ := pr_inj e
    exact ⟨as, S, d, μ1, E, ef, fun v as1 H1 X1 r1 s1 => q as1 σ H1 X1 (E.mvE X1 s1)⟩
  · cases e
/-! .. of what may raise -/
def bThenX (b : Bd) (f : EvX) : EvS := fun S => match f S with
  | some (.v d, μ1) => match b d { S with μ := μ1 } with
    | some S' => some (.nx, S')
    | none => none
  | some (.x n p, μ1) => some (.ex n p, { S with μ := μ1 })
  | none => none
theorem bThenX_of {K : PySem.W.Frag} {mg : Str → Option Value} {fx : EvX} {g : TG} (hg : ∀ v σ H Q, tG K b ix v σ H Q → g v σ H Q) : ∀ D σ H, tFS K mg W (bThenX b fx) D σ H → tAsg (tFX K mg W fx) g D σ H := fun D σ H ⟨as, S, fl, S', E, e, q⟩ => by
  unfold bThenX at e
  split at e
  · rename_i d μ1 ef
    split at e
    · rename_i S1 eb
      obtain ⟨rfl, rfl⟩ := pr_inj e
      exact ⟨as, S, .v d, μ1, E, ef, fun v as1 H1 X1 r1 s1 => hg _ _ _ _ ⟨as1, _, d, S1, E.mvE X1 s1, r1, eb, fun as2 σ2 H2 X2 E2 _ _ => q as2 σ2 H2 (X1.trans X2 E.sto.trk) E2⟩⟩
    · cases e
  · rename_i n p μ1 ef
    obtain ⟨rfl, rfl⟩ := pr_inj e
    exact ⟨as, S, .x n p, μ1, E, ef, fun as1 H1 C dx X1 s1 ec xr => q as1 σ H1 C dx X1 (E.mvE X1 s1) ec xr⟩
  · cases e
variable {fx : EvX}
theorem ds_asgX {tg : Expr} (he : PE X e (tFX X.K X.mg W fx)) (hg : PG X tg (tG X.K b ix)) (hs : swapsWithSole [tg] e pos.line X.env = pure false := by rfl) (hw : swappedStores [tg] e X.env = pure none := by rfl)
    (h1 : (assignEach [tg] X.env).map (·.2) = [assign tg X.env] := by rfl) : PS X (.Assign [tg] e pos) (tFS X.K X.mg W (bThenX b fx)) := (ps_asg he hg hs hw h1).imp (bThenX_of fun _ _ _ _ z => z)
theorem ds_setX {i : Nat} {x : Str} {pos' : Pos} (hN : X.N.Nodup) (hi : X.N[i]? = some x) (hx : Loc X.env.scope x) (he : PE X e (tFX X.K X.mg W fx)) (hs : swapsWith e (some (.Name x pos')) pos.line X.env = pure false := by rfl)
    (hf : X.fn x = true ∨ X.env.scope.names.lookup x = some .local := by first | exact .inl rfl | exact .inr rfl | assumption) : PS X (.Assign [.Name x pos'] e pos) (tFS X.K X.mg W (bThenX (bName i) fx)) := (ps_set hN hi hx he hs hf).imp (bThenX_of gName_of)
def sDropX (f : EvX) : EvS := fun S => match f S with
  | some (.v _, μ1) => some (.nx, { S with μ := μ1 })
  | some (.x n p, μ1) => some (.ex n p, { S with μ := μ1 })
  | none => none
theorem ds_exprX (he : PE X e (tFX X.K X.mg W fx)) (hs : swapsWith e none pos.line X.env = pure false := by rfl) : PS X (.Expr e pos) (tFS X.K X.mg W (sDropX fx)) := (ps_expr he hs).imp fun D σ H ⟨as, S, fl, S', E, e, q⟩ => by
  unfold sDropX at e
  split at e
  · rename_i d μ1 ef
    obtain ⟨rfl, rfl⟩ := pr_inj e
    exact ⟨as, S, .v d, μ1, E, ef, fun v as1 H1 X1 r1 s1 => q as1 σ H1 X1 (E.mvE X1 s1)⟩
  · rename_i n p μ1 ef
    obtain ⟨rfl, rfl⟩ := pr_inj e
    exact ⟨as, S, .x n p, μ1, E, ef, fun as1 H1 C dx X1 s1 ec xr => q as1 σ H1 C dx X1 (E.mvE X1 s1) ec xr⟩
  · cases e
def sRetX (f : EvX) : EvS := fun S => match f S with
  | some (.v d, μ1) => some (.rt d, { S with μ := μ1 })
  | some (.x n p, μ1) => some (.ex n p, { S with μ := μ1 })
  | none => none
theorem ds_retX (he : PE X e (tFX X.K X.mg W fx)) : PS X (.Return (some e) pos) (tFS X.K X.mg W (sRetX fx)) := (ps_ret he).imp fun D σ H ⟨as, S, fl, S', E, e, q⟩ => by
  unfold sRetX at e
  split at e
  · rename_i d μ1 ef
    obtain ⟨rfl, rfl⟩ := pr_inj e
    exact ⟨as, S, .v d, μ1, E, ef, fun v as1 H1 X1 r1 s1 => q as1 v H1 X1 r1 s1⟩
  · rename_i n p μ1 ef
    obtain ⟨rfl, rfl⟩ := pr_inj e
    exact ⟨as, S, .x n p, μ1, E, ef, fun as1 H1 C dx X1 s1 ec xr => q as1 σ H1 C dx X1 (E.mvE X1 s1) ec xr⟩
  · cases e
/-- what raises nothing here -/
def fNox (f : EvX) : EvE := fun S => match f S with
  | some (.v d, μ1) => some (d, μ1)
  | _ => none
theorem fNox_out {f : EvX} {S : Sg} {d : D} {μ' : List Cell} (e : fNox f S = some (d, μ')) : f S = some (.v d, μ') := by
  unfold fNox at e
  split at e
  · rename_i d1 μ1 ef
    obtain ⟨rfl, rfl⟩ := pr_inj e
    exact ef
  · cases e
/-- raise C('m') -/
def sRaise (n : Str) : EvS := fun S => some (.ex n none, S)
theorem ds_raise {C : Addr} {bmB : List Value} {B newId initId : String} {x m : Str} {j : Nat} {p p2 pos1 pos2 : Pos} (hc : X.calm = true) (tk : Takes X W) (F : PySem.ExcBaseFacts B newId initId bmB) (q : PySem.W.excIn X.K C bmB newId = true) (gC : X.mg x = some (.ref C)) (kC : PySem.W.keepIn X.K (.ref C) = true) (r : Raises X (.ref C)) (hg : Gl X x)
    (hdb : (x == ("__debug__" : Str)) = false := by decide) : PS X (.Raise (some (.Call (.Name x p) [.Constant (.str m) j p2] [] pos1)) none pos2) (tFS X.K X.mg W (sRaise x)) :=
  (ps_raise hc tk (pmk_own F q gC kC r hg hdb)).imp fun D σ H ⟨as, S, fl, S', E, e, q⟩ => by
    obtain ⟨rfl, rfl⟩ := pr_inj e
    exact q as σ H (.ref C) none .refl E gC rfl
/-- try: .. except x: .., where h tells which names the clause takes -/
def sTry (h : Str → Option Bool) (g gs : EvS) : EvS := fun S => match g S with
  | some (.ex n p, S1) => match h n with
    | some true => match gs S1 with
      | some (.ex _ _, _) => none
      | r => r
    | some false => some (.ex n p, S1)
    | none => none
  | r => r
theorem ds_try {x : Str} {c : Value} {h : Str → Option Bool} {g gs : EvS} {body suite : List Stmt} {b₀ : Stmt} {np pos pos' : Pos} (hs : X.stack = X.env :: X.outer) (hf : X.env.frame = some X.env.locals) (hc : Names X x c) (tk : Takes X W)
    (hh : ∀ n b C, h n = some b → X.mg n = some C → PySem.W.exmOne X.K C c = some b)
    (hb : ∀ (W' : WX) (pn : List (Addr × Obj)) (xe : Value → Shared → Prop), Takes (X.tr pn xe) W' → PassesOwn (model X.prog X.w) X.A X.env xe → PSs (X.tr pn xe) body (tFS X.K X.mg W' g))
    (hsu : ∀ (a : Addr) (pn : List (Addr × Obj)), PSs (X.suite a pn) (b₀ :: suite) (tFS X.K X.mg (fun _ _ _ _ => False) gs)) :
    PS X (.Try body [.ExceptHandler (some (.Name x np)) none (b₀ :: suite) pos'] [] [] pos) (tFS X.K X.mg W (sTry h g gs)) :=
  (ps_try_only (tb := fun W' => tFS X.K X.mg W' g) (ts := fun _ _ _ => tFS X.K X.mg (fun _ _ _ _ => False) gs) hs hf hc tk hb (fun a oe cls d pn _ _ => hsu a ((a, oe) :: pn))).imp fun D σ H ⟨as, S, fl, S', E, e, q⟩ => by
    unfold sTry at e
    split at e
    · rename_i n p S1 eg
      split at e
      · rename_i eh
        refine ⟨as, S, .ex n p, S1, E, eg, fun as1 σ1 H1 C dx X1 E1 ec xr => ⟨true, hh n true C eh ec, fun _ a na => ?_, fun z => nomatch z⟩⟩
        split at e
        · cases e
        · rename_i hn
          have q1 := endS_mv q X1 E.sto.trk
          refine ⟨as1, S1, fl, S', E1, e, ?_⟩
          cases fl with
          | ex n' p' => exact (hn n' p' S' e).elim
          | nx => exact q1
          | bk => exact q1
          | ct => exact q1
          | rt d => exact q1
      · rename_i eh
        obtain ⟨rfl, rfl⟩ := pr_inj e
        exact ⟨as, S, .ex n p, S1, E, eg, fun as1 σ1 H1 C dx X1 E1 ec xr => ⟨false, hh n false C eh ec, fun z => (nomatch z), fun _ => q as1 σ1 H1 C dx X1 E1 ec xr⟩⟩
      · cases e
    · rename_i hn
      refine ⟨as, S, fl, S', E, e, ?_⟩
      cases fl with
      | ex n' p' => exact (hn n' p' S' e).elim
      | nx => exact q
      | bk => exact q
      | ct => exact q
      | rt d => exact q
def sNx : EvS := fun S => some (.nx, S)
theorem ds_doc {x j pos'} : PS X (.Expr (.Constant (.str x) j pos) pos') (tFS X.K X.mg W sNx) := ps_doc.imp fun D σ H ⟨as, S, fl, S', E, e, q⟩ => by
  cases Option.some.inj e
  exact q as σ H .refl E
theorem ds_pass : PS X (.Pass pos) (tFS X.K X.mg W sNx) := ps_pass.imp fun D σ H ⟨as, S, fl, S', E, e, q⟩ => by
  cases Option.some.inj e
  exact q as σ H .refl E
def sBk : EvS := fun S => some (.bk, S)
def sCt : EvS := fun S => some (.ct, S)
theorem ds_break : PS X (.Break pos) (tFS X.K X.mg W sBk) := ps_break.imp fun D σ H ⟨as, S, fl, S', E, e, q⟩ => by
  cases Option.some.inj e
  exact q as σ H .refl E
theorem ds_continue : PS X (.Continue pos) (tFS X.K X.mg W sCt) := ps_continue.imp fun D σ H ⟨as, S, fl, S', E, e, q⟩ => by
  cases Option.some.inj e
  exact q as σ H .refl E
def sRet (f : EvE) : EvS := fun S => match f S with
  | some (d, μ1) => some (.rt d, { S with μ := μ1 })
  | none => none
theorem ds_ret (he : PE X e (tF X.K f)) : PS X (.Return (some e) pos) (tFS X.K X.mg W (sRet f)) := (ps_ret he).imp fun D σ H ⟨as, S, fl, S', E, e, q⟩ => by
  unfold sRet at e
  split at e
  · rename_i d μ1 ef
    obtain ⟨rfl, rfl⟩ := pr_inj e
    exact ⟨as, S, d, μ1, E, ef, fun v as1 H1 X1 r1 s1 => q as1 v H1 X1 r1 s1⟩
  · cases e
theorem ds_retN : PS X (.Return none pos) (tFS X.K X.mg W (sRet (fC .non))) := ps_retN.imp fun D σ H ⟨as, S, fl, S', E, e, q⟩ => by
  cases Option.some.inj e
  exact q as .non H .refl .non E.sto
variable {t : EvT} {g g' : EvS} {ss ss' : List Stmt}
def sIf (t : EvT) (g g' : EvS) : EvS := fun S => match t S with
  | some (true, μ1) => g { S with μ := μ1 }
  | some (false, μ1) => g' { S with μ := μ1 }
  | none => none
theorem ds_if {c : Expr} (hc : PT X c (tFT X.K t)) (ha : PSs X ss (tFS X.K X.mg W g)) (hb : PSs X ss' (tFS X.K X.mg W g')) : PS X (.If c ss ss' pos) (tFS X.K X.mg W (sIf t g g')) := (ps_if hc ha hb).imp fun D σ H ⟨as, S, fl, S', E, e, q⟩ => by
  unfold sIf at e
  split at e
  · rename_i μ1 et
    exact ⟨as, S, true, μ1, E, et, fun as1 H1 X1 s1 => iteT ⟨as1, _, fl, S', E.mvE X1 s1, e, endS_mv q X1 E.sto.trk⟩⟩
  · rename_i μ1 et
    exact ⟨as, S, false, μ1, E, et, fun as1 H1 X1 s1 => iteF ⟨as1, _, fl, S', E.mvE X1 s1, e, endS_mv q X1 E.sto.trk⟩⟩
  · cases e
def sSeq (g g' : EvS) : EvS := fun S => match g S with
  | some (.nx, S1) => g' S1
  | r => r
theorem dss_nil : PSs X [] (tFS X.K X.mg W sNx) := pss_nil.imp fun D σ H ⟨as, S, fl, S', E, e, q⟩ => by
  cases Option.some.inj e
  exact q as σ H .refl E
theorem dss_one {st : Stmt} (h : PS X st (tFS X.K X.mg W g)) : PSs X [st] (tFS X.K X.mg W g) := pss_one h
theorem dss_cons {st : Stmt} (h1 : PS X st (tFS X.K X.mg W g)) (h2 : PSs X ss (tFS X.K X.mg W g')) : PSs X (st :: ss) (tFS X.K X.mg W (sSeq g g')) := (pss_cons h1 h2).imp fun D σ H ⟨as, S, fl, S', E, e, q⟩ => by
  unfold sSeq at e
  split at e
  · rename_i S1 e1
    exact ⟨as, S, .nx, S1, E, e1, fun as1 σ1 H1 X1 E1 => ⟨as1, S1, fl, S', E1, e, endS_mv q X1 E.sto.trk⟩⟩
  · rename_i hn
    refine ⟨as, S, fl, S', E, e, ?_⟩
    cases fl with
    | nx => exact (hn S' e).elim
    | bk => exact q
    | ct => exact q
    | rt d => exact q
    | ex n p => exact q

/-! ### what is walked -/
abbrev EvI := Sg → Option (List D × List Cell)
structure ItD (K : PySem.W.Frag) (as : Ar) (H : Hp) (J : It) (ds : List D) : Prop where
  go : ∀ i as' H', Ext as H as' H' → i < ds.length → J.go i H'
  stop : ∀ as' H', Ext as H as' H' → J.stop ds.length H'
  yld : ∀ i as' H' μ x H'', Ext as H as' H' → StoR K as' H' μ → i < ds.length → J.yld i H' x H'' → ∃ d, ds[i]? = some d ∧ Ext as' H' as' H'' ∧ Rep K as' H'' x d ∧ StoR K as' H'' μ
/-- the heap behind later turns of a comprehension: what is blocked in it stands apart -/
def tI (K : PySem.W.Frag) (f : EvI) : TI := fun σ H R => ∃ as S ds μ', ER K as σ H S ∧ f S = some (ds, μ') ∧ ∀ J as' H', Ext as H as' H' → StoR K as' H' μ' → ItD K as' H' J ds → R J H'
def itOf (g : D → Option (List D)) (f : EvE) : EvI := fun S => match f S with
  | some (d, μ1) => match g d with
    | some ds => some (ds, μ1)
    | none => none
  | none => none
theorem itOf_out {g : D → Option (List D)} {f : EvE} {S : Sg} {ds : List D} {μ' : List Cell} (e : itOf g f S = some (ds, μ')) : ∃ d, f S = some (d, μ') ∧ g d = some ds := by
  unfold itOf at e
  split at e
  · rename_i d μ1 ef
    split at e
    · rename_i ds' ed
      have e' := Option.some.inj e
      injection e' with e1 e2
      subst e1 e2
      exact ⟨d, ef, ed⟩
    · cases e
  · cases e
/-- lists, tuples, texts -/
def gSeq : D → Option (List D)
  | .lst xs | .rl xs | .tup xs => some xs
  | .str z => some (z.cps.toList.map fun c => .str ⟨#[c]⟩)
  | _ => none
theorem di_seq {tg : Expr} (he : PE X e (tF X.K f)) : PI X tg e (tI X.K (itOf gSeq f)) := by
  refine PI.imp (PI.or (pi_list he) (PI.or (pi_tup he) (pi_str he))) fun σ H R ⟨as, S, ds, μ', E, e, q⟩ => ?_
  obtain ⟨d, ef, ed⟩ := itOf_out e
  have list : ∀ {a : Addr} {vs : List V} {as1 : Ar} {H1 : Hp}, (∀ as' H', Ext as1 H1 as' H' → SqL X.K H' a vs) → Reps X.K as1 H1 vs ds → ItD X.K as1 H1 (Itl X.K a) ds := fun {a vs as1 H1} hq rs =>
    ⟨fun i as' H' X' hi => walk_list.goes i H' (by rw [rs.length]; exact hi) (hq as' H' X'), fun as' H' X' => by rw [← rs.length]; exact walk_list.stops H' (hq as' H' X'), fun i as' H' μ x H'' X' s' hi y => by
      obtain ⟨e1, e2⟩ := walk_list.yields i H' x H'' (by rw [rs.length]; exact hi) (hq as' H' X') y
      subst e1
      obtain ⟨d, e3, r⟩ := (rs.mv X').getV e2
      exact ⟨d, e3, .refl, r, s'⟩⟩
  unfold gSeq at ed
  split at ed
  · cases Option.some.inj ed
    refine .inl ⟨as, S, _, μ', E, ef, fun v as1 H1 X1 r1 s1 => ?_⟩
    cases r1 with
    | @lst a vs _ t n rs => exact ⟨a, rfl, ⟨vs, SqL.of t⟩, q _ as1 H1 X1 s1 (list (fun as' H' X' => SqL.of (at_mv t n X').1) rs)⟩
  · cases Option.some.inj ed
    refine .inl ⟨as, S, _, μ', E, ef, fun v as1 H1 X1 r1 s1 => ?_⟩
    cases r1 with
    | @rl a vs _ t rs => exact ⟨a, rfl, ⟨vs, t.sq⟩, q _ as1 H1 X1 s1 (list (fun as' H' X' => (t.mv X').sq) rs)⟩
  · cases Option.some.inj ed
    refine .inr (.inl ⟨as, S, _, μ', E, ef, fun v as1 H1 X1 r1 s1 => ?_⟩)
    cases r1 with
    | @tup a vs _ t rs =>
      refine ⟨a, rfl, ⟨vs, t.sq⟩, q _ as1 H1 X1 s1 ?_⟩
      have hq : ∀ as' H', Ext as1 H1 as' H' → SqT X.K H' a vs := fun as' H' X' => (t.mv X').sq
      exact ⟨fun i as' H' X' hi => walk_tup.goes i H' (by rw [rs.length]; exact hi) (hq as' H' X'), fun as' H' X' => by rw [← rs.length]; exact walk_tup.stops H' (hq as' H' X'), fun i as' H' μ x H'' X' s' hi y => by
        obtain ⟨e1, e2⟩ := walk_tup.yields i H' x H'' (by rw [rs.length]; exact hi) (hq as' H' X') y
        subst e1
        obtain ⟨d, e3, r⟩ := (rs.mv X').getV e2
        exact ⟨d, e3, .refl, r, s'⟩⟩
  · rename_i z
    cases Option.some.inj ed
    refine .inr (.inr ⟨as, S, _, μ', E, ef, fun v as1 H1 X1 r1 s1 => ?_⟩)
    cases r1
    have hl : (z.cps.toList.map fun c => D.str ⟨#[c]⟩).length = z.cps.size := by simp
    refine ⟨z, rfl, q _ as1 H1 X1 s1 ⟨fun i as' H' X' hi => walk_str.goes i H' (by rw [← hl]; exact hi) trivial, fun as' H' X' => by rw [hl]; exact walk_str.stops H' trivial, fun i as' H' μ x H'' X' s' hi y => ?_⟩⟩
    obtain ⟨e1, c, e2, e3⟩ := walk_str.yields i H' x H'' (by rw [← hl]; exact hi) trivial y
    subst e1 e3
    refine ⟨.str ⟨#[c]⟩, ?_, .refl, .str _, s'⟩
    rw [List.getElem?_map, Array.getElem?_toList, e2]
    rfl
  · cases ed
/-- range(n), range(a, b) -/
def rngD (lo : Int) (n : Nat) : List D := (List.range n).map fun (i : Nat) => .int (lo + (i : Int))
def gRng1 (fs : EvA) : EvI := fun S => match fs S with
  | some ([.int j], μ1) => if -(2 ^ 62) ≤ j ∧ j < 2 ^ 62 then some (rngD 0 j.toNat, μ1) else none
  | _ => none
theorem rng_it {K : PySem.W.Frag} {as : Ar} {H : Hp} {lo : Int} {n : Nat} : ItD K as H (Itr lo n) (rngD lo n) := by
  have hl : (rngD lo n).length = n := by simp [rngD]
  refine ⟨fun i as' H' X' hi => walk_range.goes i H' (by rw [← hl]; exact hi) trivial, fun as' H' X' => by rw [hl]; exact walk_range.stops H' trivial, fun i as' H' μ x H'' X' s' hi y => ?_⟩
  obtain ⟨e1, e2⟩ := walk_range.yields i H' x H'' (by rw [← hl]; exact hi) trivial y
  subst e1 e2
  refine ⟨.int (lo + (i : Int)), ?_, .refl, .int _, s'⟩
  rw [hl] at hi
  simp [rngD, hi]
theorem di_range1 {tg : Expr} {p : Pos} {fs : EvA} (hg : Gl X "range") (hm : X.mg "range" = none) (ha : PA X [a] (tFA X.K fs)) (hs : starEach [a] X.env = [(false, eval a X.env)] := by rfl) : PI X tg (.Call (.Name "range" p) [a] [] pos) (tI X.K (gRng1 fs)) :=
  PI.imp (pi_range1 hg hm ha hs) fun σ H R ⟨as, S, ds, μ', E, e, q⟩ => by
    unfold gRng1 at e
    split at e
    · rename_i j μ1 ef
      split at e
      · rename_i hj
        obtain ⟨rfl, rfl⟩ := pr_inj e
        refine ⟨as, S, _, μ1, E, ef, fun vs as1 H1 X1 r1 s1 => ?_⟩
        cases r1 with
        | cons r1 rt =>
        cases rt
        cases r1
        exact ⟨j, rfl, hj.1, hj.2, q _ as1 H1 X1 s1 rng_it⟩
      · cases e
    · cases e
def gRng2 (fs : EvA) : EvI := fun S => match fs S with
  | some ([.int i, .int j], μ1) => if -(2 ^ 62) ≤ i ∧ i < 2 ^ 62 ∧ -(2 ^ 62) ≤ j ∧ j < 2 ^ 62 then some (rngD i (j - i).toNat, μ1) else none
  | _ => none
theorem di_range2 {tg a2 : Expr} {p : Pos} {fs : EvA} (hg : Gl X "range") (hm : X.mg "range" = none) (ha : PA X [a, a2] (tFA X.K fs)) (hs : starEach [a, a2] X.env = [(false, eval a X.env), (false, eval a2 X.env)] := by rfl) (hs2 : starEach [a2] X.env = [(false, eval a2 X.env)] := by rfl) :
    PI X tg (.Call (.Name "range" p) [a, a2] [] pos) (tI X.K (gRng2 fs)) := PI.imp (pi_range2 hg hm ha hs hs2) fun σ H R ⟨as, S, ds, μ', E, e, q⟩ => by
    unfold gRng2 at e
    split at e
    · rename_i i j μ1 ef
      split at e
      · rename_i hj
        obtain ⟨rfl, rfl⟩ := pr_inj e
        refine ⟨as, S, _, μ1, E, ef, fun vs as1 H1 X1 r1 s1 => ?_⟩
        cases r1 with
        | cons r1 rt =>
        cases rt with
        | cons r2 rt =>
        cases rt
        cases r1
        cases r2
        exact ⟨i, j, rfl, hj, q _ as1 H1 X1 s1 rng_it⟩
      · cases e
    · cases e

/-! ### for -/
def forL (b : Bd) (body : EvS) : List D → Sg → Option (Fl × Sg)
  | [], S => some (.nx, S)
  | d :: ds, S => match b d S with
    | some S1 => match body S1 with
      | some (.nx, S2) => forL b body ds S2
      | some (.ct, S2) => forL b body ds S2
      | some (.bk, S2) => some (.nx, S2)
      | some (.rt x, S2) => some (.rt x, S2)
      | some (.ex n p, S2) => some (.ex n p, S2)
      | none => none
    | none => none
def sFor (it : EvI) (b : Bd) (body : EvS) : EvS := fun S => match it S with
  | some (ds, μ1) => forL b body ds { S with μ := μ1 }
  | none => none
theorem ds_for {tg iter : Expr} {it : EvI} (hp : PassesOwn (model X.prog X.w) X.A X.env X.xe) (hc : X.calm = true) (hi : PI X tg iter (tI X.K it)) (hg : PG X tg (tG X.K b ix)) (hb : PSs X ss (tFS X.K X.mg W g)) (hs : ∀ x, foldedSetIterable iter X.env x = pure x := by intro _; rfl) :
    PS X (.For tg iter ss [] pos) (tFS X.K X.mg W (sFor it b g)) := by
  refine (ps_for hp hc hi hg hb hs).imp fun D σ H ⟨as, S, fl, S', E, e, q⟩ => ?_
  unfold sFor at e
  split at e
  · rename_i ds μ1 ei
    refine ⟨as, S, ds, μ1, E, ei, fun J as1 H1 X1 s1 it1 => ?_⟩
    have q1 := endS_mv q X1 E.sto.trk
    have E1 := E.mvE X1 s1
    refine ⟨fun i m σ2 H2 => m = ds.length - i ∧ i ≤ ds.length ∧ ∃ as2 S2, Ext as1 H1 as2 H2 ∧ ER X.K as2 σ2 H2 S2 ∧ forL b g (ds.drop i) S2 = some (fl, S'), ⟨_, rfl, Nat.zero_le _, as1, _, .refl, E1, e⟩, ?_⟩
    rintro i m σ2 H2 ⟨rfl, hi, as2, S2, X2, E2, e2⟩
    by_cases hlt : i < ds.length
    · refine .inr ⟨it1.go i as2 H2 X2 hlt, fun σ3 H3 => ∃ as3 S3, Ext as1 H1 as3 H3 ∧ ER X.K as3 σ3 H3 S3 ∧ forL b g (ds.drop (i + 1)) S3 = some (fl, S'), fun σ3 H3 ⟨as3, S3, X3, E3, e3⟩ => ⟨_, by omega, rfl, hlt, as3, S3, X3, E3, e3⟩, fun x H3 y => ?_⟩
      obtain ⟨d, ed, X3, r3, s3⟩ := it1.yld i as2 H2 S2.μ x H3 X2 E2.sto hlt y
      have hd : ds.drop i = d :: ds.drop (i + 1) := by
        rw [List.drop_eq_getElem_cons hlt]
        rw [List.getElem?_eq_getElem hlt] at ed
        cases ed
        rfl
      rw [hd] at e2
      unfold forL at e2
      split at e2
      · rename_i S3 eb
        have E3 := E2.mvE X3 s3
        refine ⟨as2, S2, d, S3, E3, r3, eb, fun as4 σ4 H4 X4 E4 _ _ => ?_⟩
        have X14 := X2.trans (X3.trans X4 E2.sto.trk) s1.trk
        split at e2
        · rename_i S5 eg
          exact ⟨as4, S3, .nx, S5, E4, eg, fun as5 σ5 H5 X5 E5 => ⟨as5, S5, X14.trans X5 s1.trk, E5, e2⟩⟩
        · rename_i S5 eg
          exact ⟨as4, S3, .ct, S5, E4, eg, fun as5 σ5 H5 X5 E5 => ⟨as5, S5, X14.trans X5 s1.trk, E5, e2⟩⟩
        · rename_i S5 eg
          obtain ⟨rfl, rfl⟩ := pr_inj e2
          exact ⟨as4, S3, .bk, S5, E4, eg, fun as5 σ5 H5 X5 E5 => q1 as5 σ5 H5 (X14.trans X5 s1.trk) E5⟩
        · rename_i x5 S5 eg
          obtain ⟨rfl, rfl⟩ := pr_inj e2
          exact ⟨as4, S3, .rt x5, S5, E4, eg, fun as5 v5 H5 X5 r5 s5 => q1 as5 v5 H5 (X14.trans X5 s1.trk) r5 s5⟩
        · rename_i n5 p5 S5 eg
          obtain ⟨rfl, rfl⟩ := pr_inj e2
          exact ⟨as4, S3, .ex n5 p5, S5, E4, eg, fun as5 σ5 H5 C dx X5 E5 ec xr => q1 as5 σ5 H5 C dx (X14.trans X5 s1.trk) E5 ec xr⟩
        · cases e2
      · cases e2
    · have hn : i = ds.length := by omega
      subst hn
      rw [List.drop_length] at e2
      cases Option.some.inj e2
      exact .inl ⟨it1.stop as2 H2 X2, q1 as2 σ2 H2 X2 E2⟩
  · cases e
end
end DL
namespace DL
open PySem L2
/-! ### comprehensions -/
section
variable {K : PySem.W.Frag} {as as' : Ar} {H H' : Hp}
def Ar.blk (as : Ar) (p : Addr) : Ar := ⟨as.c, p :: as.b⟩
mutual
theorem Rep.unblk {b : List Addr} (hb : ∀ a ∈ b, a ∈ as.b) : ∀ {v : V} {d : D}, Rep K as H v d → Rep K ⟨as.c, b⟩ H v d
  | _, _, .non => .non
  | _, _, .bl b => .bl b
  | _, _, .int i => .int i
  | _, _, .str s => .str s
  | _, _, .ty n => .ty n
  | _, _, .h e => .h e
  | _, _, .lst t n r => .lst t ⟨n.1, fun z => n.2 (hb _ z)⟩ (Reps.unblk hb r)
  | _, _, .rl t r => .rl (t.elim (fun z => .inl ⟨z.1, z.2.1, fun w => z.2.2 (hb _ w)⟩) .inr) (Reps.unblk hb r)
  | _, _, .tup t r => .tup (t.elim (fun z => .inl ⟨z.1, z.2.1, fun w => z.2.2 (hb _ w)⟩) .inr) (Reps.unblk hb r)
  | _, _, .dct t n e r => .dct t ⟨n.1, fun z => n.2 (hb _ z)⟩ e (Reps.unblk hb r)
  | _, _, .exc e t n => .exc e t ⟨n.1, fun z => n.2 (hb _ z)⟩
  | _, _, .exf e t n t2 n2 r => .exf e t ⟨n.1, fun z => n.2 (hb _ z)⟩ t2 ⟨n2.1, fun z => n2.2 (hb _ z)⟩ (Rep.unblk hb r)
theorem Reps.unblk {b : List Addr} (hb : ∀ a ∈ b, a ∈ as.b) : ∀ {vs : List V} {ds : List D}, Reps K as H vs ds → Reps K ⟨as.c, b⟩ H vs ds
  | _, _, .nil => .nil
  | _, _, .cons h t => .cons (Rep.unblk hb h) (Reps.unblk hb t)
end
mutual
/-- what stands at a blocked place does not matter to data -/
theorem Rep.reblk {p : Addr} {o : HO} (hp : p ∈ as.b) : ∀ {v : V} {d : D}, Rep K as H v d → Rep K as (upd H p o) v d
  | _, _, .non => .non
  | _, _, .bl b => .bl b
  | _, _, .int i => .int i
  | _, _, .str s => .str s
  | _, _, .ty n => .ty n
  | _, _, .h e => .h e
  | _, _, .lst t n r => .lst (by rw [upd_ne fun e => n.2 (by rw [e]; exact hp)]; exact t) n (Reps.reblk hp r)
  | _, _, .rl t r => .rl (t.elim (fun z => .inl ⟨by unfold Rd; rw [upd_ne fun e => z.2.2 (by rw [e]; exact hp)]; exact z.1, z.2⟩) .inr) (Reps.reblk hp r)
  | _, _, .tup t r => .tup (t.elim (fun z => .inl ⟨by unfold Rd; rw [upd_ne fun e => z.2.2 (by rw [e]; exact hp)]; exact z.1, z.2⟩) .inr) (Reps.reblk hp r)
  | _, _, .dct t n e r => .dct (by rw [upd_ne fun e => n.2 (by rw [e]; exact hp)]; exact t) n e (Reps.reblk hp r)
  | _, _, .exc e t n => .exc e (by rw [upd_ne fun e => n.2 (by rw [e]; exact hp)]; exact t) n
  | _, _, .exf e t n t2 n2 r => .exf e (by rw [upd_ne fun e => n.2 (by rw [e]; exact hp)]; exact t) n (by rw [upd_ne fun e => n2.2 (by rw [e]; exact hp)]; exact t2) n2 (Rep.reblk hp r)
theorem Reps.reblk {p : Addr} {o : HO} (hp : p ∈ as.b) : ∀ {vs : List V} {ds : List D}, Reps K as H vs ds → Reps K as (upd H p o) vs ds
  | _, _, .nil => .nil
  | _, _, .cons h t => .cons (Rep.reblk hp h) (Reps.reblk hp t)
end
theorem CellR.map {as as' : Ar} {H H' : Hp} {a : Addr} {c : Cell} (h : CellR K as H a c) (e : H' a = H a) (f : ∀ {vs : List V} {ds : List D}, Reps K as H vs ds → Reps K as' H' vs ds) : CellR K as' H' a c := by
  cases c with
  | lst ds => obtain ⟨vs, q, r⟩ := h; exact ⟨vs, e.trans q, f r⟩
end
section
variable {X : Cx} {elt tg iter : Expr} {ifs : List Expr} {pos : Pos}
theorem dts_nil : PTs X [] (tFT X.K fun S => some (true, S.μ)) := ⟨fun pins s σ H Q I ⟨as, S, k, μ', E, e, q⟩ => by
  obtain ⟨rfl, rfl⟩ := pr_inj e
  exact pts_nil.run pins s σ H Q I (q as H .refl E.sto)⟩
theorem dts_one {c : Expr} {t : EvT} (h : PT X c (tFT X.K t)) : PTs X [c] (tFT X.K t) := pts_one h
def lcL (b : Bd) (t : EvT) (f : EvE) (ρ : List (Option D)) : List D → List Cell → Option (List D × List Cell)
  | [], μ => some ([], μ)
  | d :: ds, μ => match b d ⟨ρ, μ⟩ with
    | some S1 => match t S1 with
      | some (true, μ1) => match f { S1 with μ := μ1 } with
        | some (x, μ2) => match lcL b t f ρ ds μ2 with
          | some (xs, μ3) => some (x :: xs, μ3)
          | none => none
        | none => none
      | some (false, μ1) => lcL b t f ρ ds μ1
      | none => none
    | none => none
def fLc (it : EvI) (b : Bd) (t : EvT) (f : EvE) (ws : List Nat) : EvE := fun S => match it S with
  | some (ds, μ1) => match lcL b t f (wipeR S.ρ ws) ds μ1 with
    | some (xs, μ2) => if xs.length ≤ sizeLine then some (.lst xs, μ2) else none
    | none => none
  | none => none
variable {it : EvI} {b : Bd} {ix : List Nat} {t : EvT} {f : EvE} {ws : List Nat} {W : WX}
theorem tF_lc {K : PySem.W.Frag} (hix : ∀ j ∈ ix, j ∈ ws) : ∀ σ H Q, tF K (fLc it b t f ws) σ H Q → tLc (tI K it) (tG K b ix) (tFT K t) (tF K f) ws σ H Q := fun σ H Q ⟨as, S, d, μ', E, e, q⟩ => by
  unfold fLc at e
  split at e
  · rename_i ds μ1 ei
    split at e
    · rename_i xs μ2 el
      split at e
      · rename_i hz
        obtain ⟨rfl, rfl⟩ := pr_inj e
        refine ⟨as, S, ds, μ1, E, ei, fun J as1 H1 X1 s1 it1 p hp => ?_⟩
        have hpo := s1.out hp
        -- from a turn to a later time
        have carry : ∀ {as2 as6 : Ar} {H2 H6 : Hp}, Ext as2 H2 as6 H6 → H2 p ≠ none → (p ∈ as2.b ∧ p ∉ as2.c) → (∀ a ∈ as1.b, a ∈ as2.b) → (p ∈ as6.b ∧ p ∉ as6.c) ∧ ∀ a ∈ as1.b, a ∈ as6.b := fun {as2 as6 H2 H6} Z hn hb hs => by
          obtain ⟨nb, e, _⟩ := Z.blk
          obtain ⟨more, e', f'⟩ := Z.pre
          refine ⟨⟨by rw [e]; exact List.mem_append_right _ hb.1, ?_⟩, fun a ha => by rw [e]; exact List.mem_append_right _ (hs a ha)⟩
          rw [e', List.mem_append]
          rintro (z | z)
          · exact hb.2 z
          · exact hn (f' p z)
        have X0 : Ext as1 H1 (as1.blk p) (upd H1 p (.lst [])) := ⟨⟨[], (List.append_nil _).symm, by simp⟩, ⟨[p], rfl, by simpa using hp⟩, (Ext.new hp hpo).old, (Ext.new hp hpo).cel⟩
        have s0 : StoR K (as1.blk p) (upd H1 p (.lst [])) μ1 := by
          refine ⟨s1.len, fun k a c ea ec => ?_, s1.nd, fun a ha => ?_⟩
          · exact (s1.at_ k a c ea ec).map (upd_ne fun z => hpo.1 (z ▸ List.mem_of_getElem? ea)) fun r => r.mv X0
          · rcases List.mem_cons.mp ha with z | z
            · subst z; rw [upd_same]; simp
            · by_cases w : a = p
              · subst w; rw [upd_same]; simp
              · rw [upd_ne w]; exact s1.bl a z
        have tr0 := s1.trk
        -- what holds ahead of turn i
        let Pv : Nat → Hp → Prop := fun i H2 => ∃ as2 μ2' vs acc rest, (p ∈ as2.b ∧ p ∉ as2.c) ∧ Ext as1 H1 as2 H2 ∧ EnvR K as2 H2 (L2.wipe σ ws) (wipeR S.ρ ws) ∧ StoR K as2 H2 μ2' ∧ H2 p = some (.lst vs) ∧ Reps K as2 H2 vs acc ∧
          lcL b t f (wipeR S.ρ ws) (ds.drop i) μ2' = some (rest, μ2) ∧ acc ++ rest = xs ∧ (∀ a ∈ as1.b, a ∈ as2.b)
        refine ⟨fun i m H2 => m = ds.length - i ∧ i ≤ ds.length ∧ Pv i H2, ⟨_, rfl, Nat.zero_le _, as1.blk p, μ1, [], [], xs, ⟨List.mem_cons_self, hpo.1⟩, X0, (E.env.mv X1).mv X0 |>.wipe ws, s0, upd_same, .nil, el, rfl, fun a ha => List.mem_cons_of_mem _ ha⟩, ?_⟩
        rintro i m H2 ⟨rfl, hi, as2, μ3, vs, acc, rest, ⟨hb2, hc2⟩, X2, E2, s2, hp2, ra, el2, ex, hsub⟩
        by_cases hlt : i < ds.length
        · refine .inr ⟨it1.go i as2 H2 X2 hlt, Pv (i + 1), fun H3 z => ⟨_, by omega, rfl, hlt, z⟩, fun x H3 y => ?_⟩
          obtain ⟨d0, ed, X3, r3, s3⟩ := it1.yld i as2 H2 μ3 x H3 X2 s2 hlt y
          have hd : ds.drop i = d0 :: ds.drop (i + 1) := by
            rw [List.drop_eq_getElem_cons hlt]
            rw [List.getElem?_eq_getElem hlt] at ed
            cases ed
            rfl
          rw [hd] at el2
          unfold lcL at el2
          split at el2
          · rename_i S3 eb
            have E3 : ER K as2 (L2.wipe σ ws) H3 ⟨wipeR S.ρ ws, μ3⟩ := ⟨E2.mv X3, s3⟩
            refine ⟨as2, _, d0, S3, E3, r3, eb, fun as4 σ4 H4 X4 E4 l4 g4 => ⟨?_, ?_⟩⟩
            · refine (wipe_agree (l4.trans rfl) fun j hj => g4 j fun z => hj (hix j z)).trans ?_
              refine wipe_agree (wipe_length σ ws) fun j hj => ?_
              exact wipe_out hj
            have X24 := X3.trans X4 s2.trk
            split at el2
            · rename_i μ4 et
              refine ⟨as4, S3, true, μ4, E4, et, fun as5 H5 X5 s5 => iteT ?_⟩
              split at el2
              · rename_i x5 μ5 ef
                split at el2
                · rename_i ys μ6 er
                  obtain ⟨rfl, rfl⟩ := pr_inj el2
                  refine ⟨as5, _, x5, μ5, E4.mvE X5 s5, ef, fun y6 as6 H6 X6 r6 s6 => ?_⟩
                  have X26 := X24.trans (X5.trans X6 E4.sto.trk) s2.trk
                  obtain ⟨⟨hp6, hc6⟩, hs6⟩ := carry X26 (by rw [hp2]; simp) ⟨hb2, hc2⟩ hsub
                  have hv6 : H6 p = some (.lst vs) := X26.old p _ hc2 hp2
                  have hl : acc.length < sizeLine := by
                    rw [← ex, List.length_append, List.length_cons] at hz
                    omega
                  have ra6 := ra.mv X26
                  have X16 := X2.trans X26 tr0
                  have E6 := E2.mv X26
                  refine ⟨vs, hv6, by rw [ra.length]; exact hl, as6, μ5, vs ++ [y6], acc ++ [x5], ys, ⟨hp6, hc6⟩, ⟨X16.pre, X16.blk, fun a o ha e => ?_, fun a ha e => ?_⟩, ⟨E6.1, fun j e he => ?_⟩, ⟨s6.len, fun k a c ea ec => ?_, s6.nd, fun a ha => ?_⟩, upd_same, (ra6.snoc r6).reblk hp6, er, by rw [← ex, List.append_assoc]; rfl, hs6⟩
                  · rw [upd_ne (ne_of_none e hp)]; exact X16.old a o ha e
                  · by_cases w : a = p
                    · subst w; rw [upd_same]; simp
                    · rw [upd_ne w]; exact X16.cel a ha e
                  · obtain ⟨v, hv, r⟩ := E6.2 j e he
                    exact ⟨v, hv, r.reblk hp6⟩
                  · exact (s6.at_ k a c ea ec).map (upd_ne fun z => hc6 (z ▸ List.mem_of_getElem? ea)) fun r => r.reblk hp6
                  · by_cases w : a = p
                    · subst w; rw [upd_same]; simp
                    · rw [upd_ne w]; exact s6.bl a ha
                · cases el2
              · cases el2
            · rename_i μ4 et
              refine ⟨as4, S3, false, μ4, E4, et, fun as5 H5 X5 s5 => iteF ?_⟩
              have X25 := X24.trans X5 s2.trk
              obtain ⟨h5, hs5⟩ := carry X25 (by rw [hp2]; simp) ⟨hb2, hc2⟩ hsub
              exact ⟨as5, μ4, vs, acc, rest, h5, X2.trans X25 tr0, E2.mv X25, s5, X25.old p _ hc2 hp2, ra.mv X25, el2, ex, hs5⟩
            · cases el2
          · cases el2
        · have hn : i = ds.length := by omega
          subst hn
          rw [List.drop_length] at el2
          obtain ⟨rfl, rfl⟩ := pr_inj el2
          rw [List.append_nil] at ex
          subst ex
          refine .inl ⟨it1.stop as2 H2 X2, q (.ref p) ⟨as2.c, as1.b⟩ H2 (X1.trans ⟨X2.pre, ⟨[], rfl, by simp⟩, X2.old, X2.cel⟩ E.sto.trk) (.lst hp2 ⟨hc2, hpo.2⟩ (ra.unblk hsub)) ⟨s2.len, fun k a c ea ec => (s2.at_ k a c ea ec).map rfl fun r => r.unblk hsub, s2.nd, fun a ha => s2.bl a (hsub a ha)⟩⟩
      · cases e
    · cases e
  · cases e

theorem de_lc {scope : Scope} {own : List (Str × Nat)} (hc : X.calm = true) (hN : X.N.Nodup) (hi : PI X tg iter (tI X.K it)) (ok : BlkOk X.N X.env.scope scope own)
    (hg : ∀ (s : Shared) (H : Hp) (C : Addr) (cl : List (Str × Addr)) (fp : List Addr), PG (X.blk s H scope (compEnvC scope cl C X.env) fp) tg (tG X.K b ix))
    (ht : ∀ (s : Shared) (H : Hp) (C : Addr) (cl : List (Str × Addr)) (fp : List Addr), PTs (X.blk s H scope (compEnvC scope cl C X.env) fp) ifs (tFT X.K t))
    (he : ∀ (s : Shared) (H : Hp) (C : Addr) (cl : List (Str × Addr)) (fp : List Addr), PE (X.blk s H scope (compEnvC scope cl C X.env) fp) elt (tF X.K f))
    (hix : ∀ j ∈ ix, j ∈ own.map (·.2) := by decide) (hs : ∀ x, foldedSetIterable iter X.env x = pure x := by intro _; rfl) :
    PE X (.ListComp elt [⟨tg, iter, ifs, 0⟩] scope pos) (tF X.K (fLc it b t f (own.map (·.2)))) := (pe_lc hc hN hi ok hg ht he hs).imp (tF_lc hix)
theorem ds_setLc {i : Nat} {y : Str} {py spos : Pos} {scope : Scope} {own : List (Str × Nat)} (hc : X.calm = true) (hN : X.N.Nodup) (hy : X.N[i]? = some y) (hyl : X.env.scope.names.lookup y = some .local)
    (hsw : swapsWith (.ListComp elt [⟨tg, iter, ifs, 0⟩] scope pos) (some (.Name y py)) spos.line X.env = pure true) (hi : PI X tg iter (tI X.K it)) (ok : BlkOk X.N X.env.scope scope own)
    (hg : ∀ (s : Shared) (H : Hp) (C : Addr) (cl : List (Str × Addr)) (fp : List Addr), PG (X.blk s H scope (compEnvC scope cl C X.env) fp) tg (tG X.K b ix))
    (ht : ∀ (s : Shared) (H : Hp) (C : Addr) (cl : List (Str × Addr)) (fp : List Addr), PTs (X.blk s H scope (compEnvC scope cl C X.env) fp) ifs (tFT X.K t))
    (he : ∀ (s : Shared) (H : Hp) (C : Addr) (cl : List (Str × Addr)) (fp : List Addr), PE (X.blk s H scope (compEnvC scope cl C X.env) fp) elt (tF X.K f))
    (hix : ∀ j ∈ ix, j ∈ own.map (·.2) := by decide) (hs : ∀ x, foldedSetIterable iter X.env x = pure x := by intro _; rfl) :
    PS X (.Assign [.Name y py] (.ListComp elt [⟨tg, iter, ifs, 0⟩] scope pos) spos) (tFS X.K X.mg W (bThen (bName i) (fLc it b t f (own.map (·.2))))) :=
  (ps_setLc hc hN hy hyl hsw hi ok hg ht he hs).imp fun D σ H z => tF_lc hix σ H _ (bThen_of (g := gName i) gName_of D σ H z)
end

/-! ### defs -/
abbrev FnF := List D → List Cell → Option (Ov × List Cell)
/-- what is wished of an exception, by its name -/
def outD (K : PySem.W.Frag) (mg : Str → Option Value) (as : Ar) (H : Hp) (Q : VK) (E : XK) : Ov → List Cell → Prop
  | .v d, μ' => ∀ v as' H', Ext as H as' H' → Rep K as' H' v d → StoR K as' H' μ' → Q v H'
  | .x n p, μ' => ∀ as' H' C dx, Ext as H as' H' → StoR K as' H' μ' → mg n = some C → XR dx p → E C dx H'
def spD (K : PySem.W.Frag) (mg : Str → Option Value) (n : Nat) (F : FnF) : Sp := fun vs H Q E => ∃ as μ ds o μ', vs.length = n ∧ Reps K as H vs ds ∧ StoR K as H μ ∧ F ds μ = some (o, μ') ∧ outD K mg as H Q E o μ'
def fnF (n N : Nat) (body : EvS) : FnF := fun ds μ => match body ⟨ds.map some ++ List.replicate (N - n) none, μ⟩ with
  | some (.rt d, S') => some (.v d, S'.μ)
  | some (.nx, S') => some (.v .non, S'.μ)
  | some (.ex n p, S') => some (.x n p, S'.μ)
  | _ => none
/-- a def keeps its promise wherever nothing that guards runs around it -/
structure FG (P : Program) (w : World) (K : PySem.W.Frag) (mg : Str → Option Value) (base : Heap) (k : Nat) (f : Addr) (fd : FuncData) (n : Nat) (F : FnF) : Prop where
  ps : ∃ ps : List Str, ps.length = n ∧ Binds K fd ps [] ∧ PySem.W.keepIn K (.ref f) = true ∧
    ∀ (A : Around) (stk : List Env) (st : Shared) (H : Hp) (ar : Args) (us : List Value) (vs : List V) (Q : VK) (E : XK), Room k A → A.guards = some [] → Env0 P w K mg base A stk st H → BindsTo st fd ar (ps.zip us) → Vals vs us → spD K mg n F vs H Q E →
      codeAny (model P w) A (.call (.ref f) ar) (CR (CX P w) stk P w H st Q E) st
theorem FG.mono {P : Program} {w : World} {K : PySem.W.Frag} {mg : Str → Option Value} {base : Heap} {j k : Nat} {f : Addr} {fd : FuncData} {n : Nat} {F : FnF} (h : FG P w K mg base j f fd n F) (hk : j ≤ k) : FG P w K mg base k f fd n F := by
  obtain ⟨ps, a, b, c, q⟩ := h.ps
  exact ⟨ps, a, b, c, fun A stk st H ar us vs Q E hr => q A stk st H ar us vs Q E (hr.mono hk)⟩
section
variable {P : Program} {w : World} {K : PySem.W.Frag} {mg : Str → Option Value} {base : Heap}
theorem guards_deeper {A : Around} {env : Env} (h : A.guards = some []) : (A.deeper env).guards = some [] := h
abbrev cxB (P : Program) (w : World) (K : PySem.W.Frag) (mg : Str → Option Value) (base : Heap) (N : List Str) (qual : Str) (st : Stmt) (f : Addr) (cdv : Value) (A : Around) (stk : List Env) (s : Shared) (H : Hp) (E : XK) : Cx :=
  cxOf (CX P w) P w K mg base N qual (defScope st) f cdv A stk s H E
/-- a def's own wish -/
abbrev WfD (E : XK) : WX := fun cls d _ H => E cls d H
theorem takesB {N : List Str} {qual : Str} {st : Stmt} {f : Addr} {cdv : Value} {A : Around} {stk : List Env} {s : Shared} {H : Hp} {E : XK} : Takes (cxB P w K mg base N qual st f cdv A stk s H E) (WfD E) :=
  takes_of (X := cxB P w K mg base N qual st f cdv A stk s H E) rfl rfl rfl rfl
theorem passB {N : List Str} {qual : Str} {st : Stmt} {f : Addr} {cdv : Value} {A : Around} {stk : List Env} {s : Shared} {H : Hp} {E : XK} : PassesOwn (model P w) (cxB P w K mg base N qual st f cdv A stk s H E).A (cxB P w K mg base N qual st f cdv A stk s H E).env (cxB P w K mg base N qual st f cdv A stk s H E).xe :=
  passes_of (X := cxB P w K mg base N qual st f cdv A stk s H E) rfl
theorem fg_def {x qual : Str} {st : Stmt} {f : Addr} {fd : FuncData} {N ps : List Str} {k : Nat} {g : EvS} (Fu : Fun K x qual st f fd) (S : FnScope N ps (defScope st))
    (hB : ∀ (kV doc pm : Value) (an : Option Addr) (cdv ct : Value) (us : List Value), us.length = ps.length → bindArgs (PySem.W.fnOf x qual (defArgs st) (defBody st) (defScope st) .none kV doc pm an cdv ct) ⟨us, []⟩ = pure (ps.zip us))
    (hbody : ∀ (cdv : Value) (A : Around) (stk : List Env) (s : Shared) (H : Hp) (E : XK), Room k (cxB P w K mg base N qual st f cdv A stk s H E).A → (cxB P w K mg base N qual st f cdv A stk s H E).A.guards = some [] → PSs (cxB P w K mg base N qual st f cdv A stk s H E) (defBody st) (tFS K mg (WfD E) g)) :
    FG P w K mg base (k + 1) f fd ps.length (fnF ps.length N.length g) := by
  refine ⟨⟨ps, rfl, Fu.binds hB, Fu.kp, fun A stk st' H ar us vs Q E hr hgd e0 hbind r hsp => ?_⟩⟩
  obtain ⟨oc, od, kV, doc, pm, an, cdv, ct, osl, rfl, lk, hcd⟩ := Fu.ex
  obtain ⟨as, μ, ds, o, μ', hl, rs, sto, ef, q⟩ := hsp
  have KX : K.In st'.heap := e0.mod.kin.keeps fun b o e => (e0.bs b o e).1
  have nolim : st'.heap.NoLimit := e0.mod.nolimit.keeps fun b o e => (e0.bs b o e).1
  have seen : ∀ y ∈ ps.zip us, (defScope st).names.lookup y.1 = some .local ∨ ((defScope st).names.lookup y.1 = some .cell ∧ ((cellsFrom (st'.heap.objs.size + 1) (defScope st).names []).lookup y.1).isSome = true) := fun ⟨n, v⟩ hy =>
    (S.par n (List.of_mem_zip hy).1).elim .inl fun c => .inr ⟨c, PySem.W.cellsFrom_some _ _ _ (.inl c)⟩
  refine codeAny_call_function hr.depth (KX _ _ lk) rfl S.co S.gen rfl (PySem.W.codeRec_of KX hcd) (hbind _ _ _ _ ?_)
  refine wpAny_newFunctionEnv_cells S.kind seen fun env he s1 ic => ?_
  subst he
  refine ⟨nolim.keeps ic.toInCall.keep, codeAny_func ?_⟩
  have I0 : Inv (cxB P w K mg base N qual st f cdv A stk st' H E) [] (L2.start N vs) H s1 := inv_start S hr.hd e0 hl r ic
  have hps : ps.length ≤ N.length := by
    have c := congrArg List.length S.pre
    rw [List.length_take] at c
    omega
  have hb := hbody cdv A stk st' H E (hr.deeper _) (guards_deeper hgd)
  -- the entry: the parameters' data
  have en : EnvR K as H (L2.start N vs) (ds.map some ++ List.replicate (N.length - ps.length) none) := by
    refine ⟨?_, fun i d' e => ?_⟩
    · unfold L2.start
      rw [List.length_append, List.length_append, List.length_map, List.length_map, List.length_replicate, List.length_replicate, rs.length, ← hl, rs.length]
    · unfold L2.start
      by_cases hi : i < ds.length
      · rw [List.getElem?_append_left (by simpa using hi), List.getElem?_map] at e
        obtain ⟨d2, e2, e3⟩ := Option.map_eq_some_iff.mp e
        cases e3
        obtain ⟨v, hv, rv⟩ := rs.get e2
        refine ⟨v, ?_, rv⟩
        rw [List.getElem?_append_left (by rw [List.length_map, rs.length]; exact hi), List.getElem?_map, hv]
        rfl
      · rw [List.getElem?_append_right (by simpa using hi), List.getElem?_replicate] at e
        split at e <;> cases e
  obtain ⟨fl, S', eg, hq⟩ : ∃ fl S', g ⟨ds.map some ++ List.replicate (N.length - ps.length) none, μ⟩ = some (fl, S') ∧ endS K mg (WfD E) as H { nx := fun _ H' => Q .non H', rt := Q } fl S' := by
    unfold fnF at ef
    split at ef
    · rename_i d2 S2 e2
      obtain ⟨rfl, rfl⟩ := pr_inj ef
      exact ⟨.rt d2, S2, e2, fun as' v H' X' rv s' => q v as' H' X' rv s'⟩
    · rename_i S2 e2
      obtain ⟨rfl, rfl⟩ := pr_inj ef
      exact ⟨.nx, S2, e2, fun as' σ' H' X' E' => q .non as' H' X' .non E'.sto⟩
    · rename_i n2 p2 S2 e2
      obtain ⟨rfl, rfl⟩ := pr_inj ef
      exact ⟨.ex n2 p2, S2, e2, fun as' σ' H' C dx X' E' ec xr => q as' H' C dx X' E'.sto ec xr⟩
    · cases ef
  refine wpAny_mono (hb.run [] s1 (L2.start N vs) H { nx := fun _ H' => Q .non H', rt := Q } I0 ⟨as, ⟨_, μ⟩, fl, S', ⟨en, sto⟩, eg, hq⟩) (fun fl' s' z => ?_) fun e s' z => z
  cases fl' with
  | ret u =>
    obtain ⟨v, σ', H', J, rv, y⟩ := z
    exact ⟨v, H', J.os, J.bare, J.base, J.hok, rv, y⟩
  | next =>
    obtain ⟨σ', H', J, y⟩ := z
    exact ⟨.non, H', J.os, J.bare, J.base, J.hok, rfl, y⟩
  | brk =>
    obtain ⟨_, _, _, y⟩ := z
    exact y.elim
  | cont =>
    obtain ⟨_, _, _, y⟩ := z
    exact y.elim
end
/-! ### calls -/
section
variable {X : Cx} {k n : Nat} {f : Addr} {fd : FuncData} {F : FnF} {x : Str} {p pos : Pos} {e : Expr} {es : List Expr} {fs : EvA} {W : WX}
theorem run_fg {pins : List (Addr × Obj)} {σ : St} {H : Hp} {s : Shared} {Q : VK} {E : XK} {us : List Value} {vs : List V} (G : FG X.prog X.w X.K X.mg X.base k f fd n F) (hr : Room k X.A) (hgd : X.A.guards = some [])
    (I : Inv X pins σ H s) (r : Vals vs us) (hx : PassesAt (L2.CX X.prog X.w) X σ E) (h : spD X.K X.mg n F vs H Q E) : PySem.W.keepIn X.K (.ref f) = true ∧ wpAny (model X.prog X.w) X.A (call (.ref f) us) (EP X pins σ Q) X.xe s := by
  obtain ⟨ps, hn, hb, hk, run⟩ := G.ps
  refine ⟨hk, ?_⟩
  have hl : (us ++ []).length = ps.length := by
    obtain ⟨as, μ, ds, d, μ', hl, _⟩ := h
    rw [List.append_nil, ← r.length, hl, hn]
  have q := run X.A X.stack s H ⟨us, []⟩ (us ++ []) vs Q E hr hgd I.env0 (hb s us I.kIn hl) (by rw [List.append_nil]; exact r) h
  refine wpAny_call (codeAny_mono q fun res s' hq => ?_)
  cases res with
  | error e => exact hx pins H s e s' I hq
  | ok fl => cases fl with
    | ret u => exact I.after hq
    | _ => exact False.elim hq
theorem passF {σ : St} : PassesAt (L2.CX X.prog X.w) X σ (fun _ _ _ => False) := fun _ _ _ _ _ _ ⟨_, _, _, _, _, _, _, _, _, _, _, _, z⟩ => z.elim
def fCallX (F : FnF) (fs : EvA) : EvX := fun S => match fs S with
  | some (ds, μ1) => F ds μ1
  | none => none
def fCall (F : FnF) (fs : EvA) : EvE := fNox (fCallX F fs)
def fLen (n : Nat) (fs : EvA) : EvA := fun S => match fs S with
  | some (ds, μ1) => if ds.length = n then some (ds, μ1) else none
  | none => none
theorem fCallX_out {S : Sg} {o : Ov} {μ' : List Cell} (e : fCallX F (fLen n fs) S = some (o, μ')) : ∃ ds μ1, fs S = some (ds, μ1) ∧ ds.length = n ∧ F ds μ1 = some (o, μ') := by
  unfold fCallX fLen at e
  split at e
  · rename_i ds μ1 e1
    split at e1
    · rename_i ds' μ1' es
      split at e1
      · rename_i hn
        obtain ⟨rfl, rfl⟩ := pr_inj e1
        exact ⟨_, _, es, hn, e⟩
      · cases e1
    · cases e1
  · cases e
/-- a call whose arguments are read, of any end -/
theorem call_any {pins : List (Addr × Obj)} {s : Shared} {σ : St} {H : Hp} {Q : VK} {E : XK} {as : Ar} {S : Sg} {o : Ov} {μ' : List Cell} (G : FG X.prog X.w X.K X.mg X.base k f fd n F) (hr : Room k X.A) (hgd : X.A.guards = some []) (hg : Gl X x) (hm : X.mg x = some (.ref f)) (ha : PA X (e :: es) (tFA X.K fs)) (hdb : (x == ("__debug__" : Str)) = false)
    (he : starEach (e :: es) X.env = (false, eval e X.env) :: starEach es X.env) (hpl : (backTo pos (starEach es X.env)).any (·.1) = false) (I : Inv X pins σ H s) (ee : ER X.K as σ H S) (ed : fCallX F (fLen n fs) S = some (o, μ')) (hx : PassesAt (L2.CX X.prog X.w) X σ E) (q : outD X.K X.mg as H Q E o μ') :
    wpAny (model X.prog X.w) X.A (eval (.Call (.Name x p) (e :: es) [] pos) X.env) (EP X pins σ Q) X.xe s := by
  obtain ⟨ps, _, _, hk, _⟩ := G.ps
  obtain ⟨ds, μ1, ea, hn, ef⟩ := fCallX_out ed
  refine wpAny_Call_Name_kw (ld_glob I hg hm ?_ hdb)
  refine PySem.W.callWith_K (h₀ := X.base) I.ok.mod.kin hk (thn (ha.run pos pins s σ H (fun vs H1 => spD X.K X.mg n F vs H1 Q E) I ⟨as, S, _, _, ee, ea, fun vs as1 H1 X1 r1 s1 => ?_⟩) fun us s1 ⟨vs, H1, I1, r1, q1⟩ => ⟨I1.kIn, (run_fg G hr hgd I1 r1 hx q1).2⟩) he hpl
  refine ⟨as1, _, _, o, μ', r1.length.trans hn, r1, s1, ef, ?_⟩
  cases o with
  | v d => exact fun v as2 H2 X2 r2 s2 => q v as2 H2 (X1.trans X2 ee.sto.trk) r2 s2
  | x m pp => exact fun as2 H2 C dx X2 s2 ec xr => q as2 H2 C dx (X1.trans X2 ee.sto.trk) s2 ec xr
theorem de_call (G : FG X.prog X.w X.K X.mg X.base k f fd n F) (hr : Room k X.A) (hgd : X.A.guards = some []) (hg : Gl X x) (hm : X.mg x = some (.ref f)) (ha : PA X (e :: es) (tFA X.K fs)) (hdb : (x == ("__debug__" : Str)) = false := by decide)
    (he : starEach (e :: es) X.env = (false, eval e X.env) :: starEach es X.env := by rfl) (hpl : (backTo pos (starEach es X.env)).any (·.1) = false := by rfl) :
    PE X (.Call (.Name x p) (e :: es) [] pos) (tF X.K (fCall F (fLen n fs))) :=
  ⟨fun pins s σ H Q I ⟨as, S, d, μ', E, ed, q⟩ => call_any G hr hgd hg hm ha hdb he hpl I E (fNox_out ed) passF q⟩
theorem de_callX (tk : Takes X W) (G : FG X.prog X.w X.K X.mg X.base k f fd n F) (hr : Room k X.A) (hgd : X.A.guards = some []) (hg : Gl X x) (hm : X.mg x = some (.ref f)) (ha : PA X (e :: es) (tFA X.K fs)) (hdb : (x == ("__debug__" : Str)) = false := by decide)
    (he : starEach (e :: es) X.env = (false, eval e X.env) :: starEach es X.env := by rfl) (hpl : (backTo pos (starEach es X.env)).any (·.1) = false := by rfl) :
    PE X (.Call (.Name x p) (e :: es) [] pos) (tFX X.K X.mg W (fCallX F (fLen n fs))) :=
  ⟨fun pins s σ H Q I ⟨as, S, o, μ', E, ed, q⟩ => call_any (E := L2.WE W σ) G hr hgd hg hm ha hdb he hpl I E ed (passAt tk σ) (by
    cases o with
    | v d => exact q
    | x m pp => exact q)⟩
theorem call_any0 {pins : List (Addr × Obj)} {s : Shared} {σ : St} {H : Hp} {Q : VK} {E : XK} {as : Ar} {S : Sg} {o : Ov} {μ' : List Cell} (G : FG X.prog X.w X.K X.mg X.base k f fd 0 F) (hr : Room k X.A) (hgd : X.A.guards = some []) (hg : Gl X x) (hm : X.mg x = some (.ref f)) (hdb : (x == ("__debug__" : Str)) = false)
    (I : Inv X pins σ H s) (ee : ER X.K as σ H S) (ed : fCallX F fNil S = some (o, μ')) (hx : PassesAt (L2.CX X.prog X.w) X σ E) (q : outD X.K X.mg as H Q E o μ') :
    wpAny (model X.prog X.w) X.A (eval (.Call (.Name x p) [] [] pos) X.env) (EP X pins σ Q) X.xe s := by
  obtain ⟨ps, _, _, hk, _⟩ := G.ps
  refine wpAny_Call_Name_kw (ld_glob I hg hm ?_ hdb)
  exact PySem.W.callWith_K0 I.kIn hk (run_fg (us := []) (vs := []) G hr hgd I .nil hx ⟨as, S.μ, [], o, μ', rfl, .nil, ee.sto, ed, q⟩).2
theorem de_call0 (G : FG X.prog X.w X.K X.mg X.base k f fd 0 F) (hr : Room k X.A) (hgd : X.A.guards = some []) (hg : Gl X x) (hm : X.mg x = some (.ref f)) (hdb : (x == ("__debug__" : Str)) = false := by decide) :
    PE X (.Call (.Name x p) [] [] pos) (tF X.K (fCall F fNil)) :=
  ⟨fun pins s σ H Q I ⟨as, S, d, μ', E, ed, q⟩ => call_any0 G hr hgd hg hm hdb I E (fNox_out ed) passF q⟩
theorem de_callX0 (tk : Takes X W) (G : FG X.prog X.w X.K X.mg X.base k f fd 0 F) (hr : Room k X.A) (hgd : X.A.guards = some []) (hg : Gl X x) (hm : X.mg x = some (.ref f)) (hdb : (x == ("__debug__" : Str)) = false := by decide) :
    PE X (.Call (.Name x p) [] [] pos) (tFX X.K X.mg W (fCallX F fNil)) :=
  ⟨fun pins s σ H Q I ⟨as, S, o, μ', E, ed, q⟩ => call_any0 (E := L2.WE W σ) G hr hgd hg hm hdb I E ed (passAt tk σ) (by
    cases o with
    | v d => exact q
    | x m pp => exact q)⟩
end
end DL
namespace DL
open PySem PySem.Spec PyProof.Rows L2
/-! ### the law's own call -/
theorem room_caller : callerA.guards = some [] := rfl
theorem law_data {P : Program} {w : World} {K : PySem.W.Frag} {mg mb : Str → Option Value} {k : Nat} {fa a : Addr} {fd : FuncData} {F : FnF} {s : Shared} {us : List Value} {ns : List Int}
    (kin : K.In s.heap) (gl : s.heap.Ns mainGlobals mg) (bl : s.heap.Ns builtinsNs mb) (bb : ∀ x : Str, x ≠ "__name__" → mb x = bootBuiltins x) (nl : s.heap.NoLimit) (gens : s.gens = #[])
    (hobj : s.heap.get? a = some { cls := .type "list", data := .seq us.toArray }) (hints : IntsAre us ns) (few : ns.length ≤ sizeLine) (hr : Room k callerA)
    (G : ∀ base : Heap, K.In base → base.Ns mainGlobals mg → FG P w K mg base k fa fd 1 F)
    (val : ∃ μ', F [.rl (ns.map D.int)] [] = some (.v (.bl true), μ')) :
    codeAny (model P w) callerA (.call (.ref fa) ⟨[.ref a], []⟩) (fun r s' => r = .ok (.ret (.bool true)) ∧ OldK s.heap s'.heap ∧ s'.os = s.os ∧ AllBare s'.gens) s := by
  have rv := vals_ints hints
  obtain ⟨μ', val⟩ := val
  -- an abstract heap that tracks the script alone, or nothing
  have core : ∀ H : Hp, (∀ b u, H b = some u → b = a ∧ ∃ o vs, u = .frz o (.lst vs)) → TrL K ⟨[], []⟩ H a (ns.map V.int) → HOk P w H s.heap → (H a ≠ none → K.lookup a = none) →
      codeAny (model P w) callerA (.call (.ref fa) ⟨[.ref a], []⟩) (fun r s' => r = .ok (.ret (.bool true)) ∧ OldK s.heap s'.heap ∧ s'.os = s.os ∧ AllBare s'.gens) s := by
    intro H only tr hok hK
    have hid : ∀ {b : Addr} {o : Obj}, s.heap.get? b = some o → H b = none → (hidT s.heap H).get? b = some o := fun e n => hidT_get e n
    have free : ∀ {b : Addr} {o : Obj} {es : Array DictEntry} {ep : Nat}, s.heap.get? b = some o → o.data = .dict es ep → H b = none := fun {b o es ep} e d => by
      cases q : H b with
      | none => rfl
      | some u =>
        obtain ⟨rfl, _⟩ := only b u q
        rw [hobj] at e
        cases e
        cases d
    have ns1 : ∀ {b : Addr} {m : Str → Option Value}, s.heap.Ns b m → (hidT s.heap H).Ns b m := fun {b m} ⟨o, es, ep, e, d, r⟩ => ⟨o, es, ep, hid e (free e d), d, r⟩
    have kin1 : K.In (hidT s.heap H) := fun b o e => hid (kin b o e) (by
      cases q : H b with
      | none => rfl
      | some u =>
        obtain ⟨rfl, _⟩ := only b u q
        have z := hK (by rw [q]; simp)
        rw [z] at e
        cases e)
    have md : Mod K mg (hidT s.heap H) := ⟨kin1, ns1 gl, ⟨mb, ns1 bl, bb⟩, nl.elim fun mc z => ⟨mc, ns1 z.1, z.2⟩⟩
    have en : Env0 P w K mg (hidT s.heap H) callerA [] s H := ⟨rfl, md, fun b o e => of_hidT e, by rw [hidT_size]; exact Nat.le_refl _, trivial, fun b hb => (List.not_mem_nil hb).elim, hok, .of_eq gens⟩
    obtain ⟨ps, hn, hb, hk, run⟩ := (G _ kin1 (ns1 gl)).ps
    have hbd : BindsTo s fd ⟨[.ref a], []⟩ (ps.zip [.ref a]) := by
      have z := hb s [.ref a] kin (by simp [hn])
      simpa using z
    refine codeAny_mono (run callerA [] s H ⟨[.ref a], []⟩ [.ref a] [.ref a] (fun v _ => v = .bl true) (fun _ _ _ => False) hr room_caller en hbd (.cons rfl .nil)
      ⟨⟨[], []⟩, [], [.rl (ns.map D.int)], .v (.bl true), μ', rfl, .cons (.rl tr Reps.ints) .nil, ⟨rfl, fun k b c e => by simp at e, List.nodup_nil, fun b hb => (List.not_mem_nil hb).elim⟩, val, fun v as' H' X' r s' => by cases r; rfl⟩) fun r s' h => ?_
    cases r with
    | error e =>
      obtain ⟨_, _, _, _, _, _, _, _, _, _, _, _, z⟩ := h
      exact z.elim
    | ok fl => cases fl with
      | ret u =>
        obtain ⟨v, H', eos, bare, un, hok', ru, q⟩ := h
        subst q
        cases ru
        refine ⟨rfl, OldK.of_keep fun b o e => ?_, eos, bare⟩
        cases z : H b with
        | none => exact un.keep b o e z (fun y => (List.not_mem_nil y).elim) (by simp)
        | some u =>
          obtain ⟨rfl, ob, vs, rfl⟩ := only b u z
          obtain ⟨e1, _⟩ := hok b _ z
          obtain ⟨e2, _⟩ := hok' b _ (un.frzs b ob _ z)
          rw [e] at e1
          cases e1
          exact e2
      | _ => exact False.elim h
  have lenV : ns.length = us.length := by
    have z := rv.length
    rw [List.length_map] at z
    exact z
  cases hk : K.lookup a with
  | some o =>
    have e := kin a o hk
    rw [hobj] at e
    cases e
    refine core (fun _ => none) (fun b u z => nomatch (show none = some u from z)) (.inr fun H' => .inr ⟨_, us.toArray, _, hk, rfl, rfl, rfl, by rw [List.size_toArray, ← lenV]; exact few, by simpa using rv⟩) (fun b u z => nomatch (show none = some u from z)) fun z => absurd rfl z
  | none =>
    have at1 : ∀ b u, (fun b : Addr => if b = a then some (HO.frz { cls := .type "list", data := .seq us.toArray } (.lst (ns.map V.int))) else none) b = some u → b = a ∧ u = HO.frz { cls := .type "list", data := .seq us.toArray } (.lst (ns.map V.int)) := fun b u z => by
      by_cases hb : b = a
      · exact ⟨hb, (Option.some.inj ((if_pos hb).symm.trans z)).symm⟩
      · exact nomatch ((if_neg hb).symm.trans z)
    refine core (fun b => if b = a then some (.frz { cls := .type "list", data := .seq us.toArray } (.lst (ns.map V.int))) else none) (fun b u z => ⟨(at1 b u z).1, _, _, (at1 b u z).2⟩) (.inl ⟨.inr ⟨_, if_pos rfl⟩, List.not_mem_nil, List.not_mem_nil⟩) (fun b u z => ?_) fun _ => hk
    obtain ⟨rfl, rfl⟩ := at1 b u z
    exact ⟨hobj, by rw [List.length_map]; exact few, us, _, rv, hobj⟩
theorem walkD {l : PySem.W.OpenLaw} {n k : Nat} {q : Program} {loose : List Str} {XP : (Str → Option Value) → Heap → Prop} {YP : World → Heap → Prop} {d : DefRec} {K : Params → PySem.W.Frag} {F : FnF}
    (hn : l.most = some n) (hn2 : n ≤ sizeLine) (hdf : d.params.defaults = []) (hr : Room k callerA) (hY : ∀ (w : World) (h : Heap), YP w h → (K w.params).In h)
    (G : ∀ (w : World) (mg : Str → Option Value) (fa : Addr) (h : Heap), (K w.params).In h → h.Ns mainGlobals mg → mg d.name = some (.ref fa) →
      ∃ fd : FuncData, ∀ base : Heap, (K w.params).In base → base.Ns mainGlobals mg → FG l.prog w (K w.params) mg base k fa fd 1 F)
    (val : ∀ ns : List Int, ns.length ≤ n → ∃ μ', F [.rl (ns.map D.int)] [] = some (.v (.bl true), μ')) :
    PySem.W.WalkO q loose XP YP l.row.toRowW d [] (fun f vs => PySem.call f vs) :=
  Att.attach_call hn hdf fun w s₀ s₁ mg mb fa o pm cd doc a vs ns T Y ho hd hcd hmg hobj hints hlen gens => by
    have kin := hY w _ Y
    obtain ⟨fd, hF⟩ := G w mg fa _ kin T.T.g hmg
    exact law_data kin T.T.g T.T.b T.T.builtins T.T.nolimit gens hobj hints (Nat.le_trans hlen hn2) hr hF (val ns hlen)
end DL
namespace DL
open PySem L2
section
variable {X : Cx} {o a : Expr} {es : List Expr} {fa fb : EvE} {fs : EvA} {name : Str} {apos cpos pos : Pos}
theorem sm_rule {id : String} {C : Str → Prop} {P : Str → Bool} {g : Str → V} {gd : Str → D} (h : MtR X id (fun x xs H Q => ∃ z, x = .str z ∧ xs = [] ∧ C z ∧ Q (g z) H)) (hC : ∀ z, P z = true → C z) (hg : ∀ z as H, Rep X.K as H (g z) (gd z)) :
    MtR X id (fun x xs H Q => ∃ z, x = .str z ∧ xs = [] ∧ P z = true ∧ ∀ v, (∀ as, Rep X.K as H v (gd z)) → Q v H) := fun pins s σ H x xs v us Q I rx rs ⟨z, e1, e2, e3, q⟩ =>
  h pins s σ H x xs v us Q I rx rs ⟨z, e1, e2, hC z e3, q _ fun as => hg z as H⟩
def dUpper : D → List Cell → Option D := dS0 (fun z => decide (z.length ≤ 5592405)) fun z => .str (Txt.upper z)
def dIsascii : D → List Cell → Option D := dS0 (fun _ => true) fun z => .bl (Txt.isascii z)
def dIsalpha : D → List Cell → Option D := dS0 (fun _ => true) fun z => .bl (Txt.isalpha z)
def dIslower : D → List Cell → Option D := dS0 (fun _ => true) fun z => .bl (Txt.islower z)
theorem de_upper (ho : PE X o (tF X.K fa)) (hbase : attributeBase o "upper" X.env (eval o X.env) = eval o X.env := by rfl) (hline : (apos.endLine == cpos.line) = true := by rfl) :
    PE X (.Call (.Attribute o "upper" apos) [] [] cpos) (tF X.K (fU dUpper fa)) :=
  de_sm0 PySem.F.slot_str_upper PySem.F.type_str_upper (sm_rule (mt_upper (X := X)) (fun z h => of_decide_eq_true h) fun z as H => .str _) ho hbase hline
theorem de_isascii (ho : PE X o (tF X.K fa)) (hbase : attributeBase o "isascii" X.env (eval o X.env) = eval o X.env := by rfl) (hline : (apos.endLine == cpos.line) = true := by rfl) :
    PE X (.Call (.Attribute o "isascii" apos) [] [] cpos) (tF X.K (fU dIsascii fa)) :=
  de_sm0 PySem.F.slot_str_isascii PySem.F.type_str_isascii (sm_rule (mt_isascii (X := X)) (fun _ _ => trivial) fun z as H => .bl _) ho hbase hline
theorem de_isalpha (ho : PE X o (tF X.K fa)) (hbase : attributeBase o "isalpha" X.env (eval o X.env) = eval o X.env := by rfl) (hline : (apos.endLine == cpos.line) = true := by rfl) :
    PE X (.Call (.Attribute o "isalpha" apos) [] [] cpos) (tF X.K (fU dIsalpha fa)) :=
  de_sm0 PySem.F.slot_str_isalpha PySem.F.type_str_isalpha (sm_rule (mt_isalpha (X := X)) (fun _ _ => trivial) fun z as H => .bl _) ho hbase hline
theorem de_islower (ho : PE X o (tF X.K fa)) (hbase : attributeBase o "islower" X.env (eval o X.env) = eval o X.env := by rfl) (hline : (apos.endLine == cpos.line) = true := by rfl) :
    PE X (.Call (.Attribute o "islower" apos) [] [] cpos) (tF X.K (fU dIslower fa)) :=
  de_sm0 PySem.F.slot_str_islower PySem.F.type_str_islower (sm_rule (mt_islower (X := X)) (fun _ _ => trivial) fun z as H => .bl _) ho hbase hline
/-- all of them texts -/
def strsOf : List D → Option (List Str)
  | [] => some []
  | .str z :: r => (strsOf r).map (z :: ·)
  | _ :: _ => none
theorem strs_ok {K : PySem.W.Frag} {as : Ar} {H : Hp} : ∀ {vs : List V} {ds : List D} {zs : List Str}, Reps K as H vs ds → strsOf ds = some zs → vs = zs.map V.str
  | _, _, _, .nil, e => by cases e; rfl
  | _, d :: ds, _, .cons h t, e => by
    cases d with
    | str z =>
      simp only [strsOf] at e
      obtain ⟨r, er, rfl⟩ := Option.map_eq_some_iff.mp e
      cases h
      rw [List.map_cons, strs_ok t er]
    | _ => cases e
/-- the items of a list or a tuple -/
def asSq : D → List Cell → Option (List D)
  | .tup xs, _ => some xs
  | d, μ => asSL d μ
theorem asSq_ok {K : PySem.W.Frag} {as : Ar} {H : Hp} {v : V} {d : D} {μ : List Cell} {xs : List D} (r : Rep K as H v d) (s : StoR K as H μ) (e : asSq d μ = some xs) : ∃ a vs, v = .ref a ∧ (SqL K H a vs ∨ SqT K H a vs) ∧ Reps K as H vs xs := by
  unfold asSq at e
  split at e
  · cases r with
    | tup t rs => cases Option.some.inj e; exact ⟨_, _, rfl, .inr t.sq, rs⟩
  · obtain ⟨a, vs, h1, h2, h3⟩ := asSL_ok r s e
    exact ⟨a, vs, h1, .inl h2, h3⟩
def dJoin : D → D → List Cell → Option D
  | .str z, d, μ => match asSq d μ with
    | some xs => match strsOf xs with
      | some zs => if (zs.map (·.length)).sum + zs.length * z.length ≤ 16777216 then some (.str (Txt.join z zs)) else none
      | none => none
    | none => none
  | _, _, _ => none
theorem dJoin_out {x y z : D} {μ : List Cell} (e : dJoin x y μ = some z) : ∃ t xs zs, x = .str t ∧ asSq y μ = some xs ∧ strsOf xs = some zs ∧ (zs.map (·.length)).sum + zs.length * t.length ≤ 16777216 ∧ z = .str (Txt.join t zs) := by
  unfold dJoin at e
  split at e
  · split at e
    · rename_i h1
      split at e
      · rename_i h2
        split at e
        · rename_i h3
          exact ⟨_, _, _, rfl, h1, h2, h3, (Option.some.inj e).symm⟩
        · cases e
      · cases e
    · cases e
  · cases e
theorem fB_out {g : D → D → List Cell → Option D} {S : Sg} {d : D} {μ' : List Cell} (e : fB g fa fb S = some (d, μ')) : ∃ x μ1 y, fa S = some (x, μ1) ∧ fb { S with μ := μ1 } = some (y, μ') ∧ g x y μ' = some d := by
  unfold fB at e
  split at e
  · rename_i x μ1 ea
    split at e
    · rename_i y μ2 eb
      split at e
      · rename_i z ez
        obtain ⟨rfl, rfl⟩ := pr_inj e
        exact ⟨x, μ1, y, ea, eb, ez⟩
      · cases e
    · cases e
  · cases e
theorem de_join (ho : PE X o (tF X.K fa)) (he : PE X a (tF X.K fb)) (hs : starEach [a] X.env = [(false, eval a X.env)] := by rfl) (hbase : attributeBase o "join" X.env (eval o X.env) = eval o X.env := by rfl) (hline : (apos.endLine == cpos.line) = true := by rfl) :
    PE X (.Call (.Attribute o "join" apos) [a] [] cpos) (tF X.K (fB dJoin fa fb)) := (pe_join ho he hs hbase hline).imp fun σ H Q ⟨as, S, d, μ', E, e, q⟩ => by
  obtain ⟨x, μ1, y, ea, eb, ez⟩ := fB_out e
  obtain ⟨t, xs, zs, rfl, h1, h2, h3, rfl⟩ := dJoin_out ez
  refine ⟨as, S, _, μ1, E, ea, fun v as1 H1 X1 r1 s1 => ?_⟩
  cases r1
  refine ⟨⟨t, rfl⟩, as1, _, y, μ', E.mvE X1 s1, eb, fun w as2 H2 X2 r2 s2 => ?_⟩
  obtain ⟨p, vs, rfl, hq, rs⟩ := asSq_ok r2 s2 h1
  have ev := strs_ok rs h2
  subst ev
  exact ⟨t, p, zs, rfl, rfl, hq, h3, q _ as2 H2 (X1.trans X2 E.sto.trk) (.str _) s2⟩
theorem de_dct0 : PE X (.Dict [] [] pos) (tF X.K (fC (.dct []))) := pe_dnewK.imp fun σ H Q ⟨as, S, d, μ', E, e, q⟩ p hp => by
  obtain ⟨rfl, rfl⟩ := pr_inj e
  exact q _ as _ (Ext.new hp (E.sto.out hp)) (.dct (kvs := []) (ds := []) upd_same (E.sto.out hp) rfl .nil) (E.sto.new hp)
end
/-! ### a new list that will change: a new cell -/
section
variable {X : Cx} {es : List Expr} {fs : EvA} {pos : Pos}
theorem StoR.grow {K : PySem.W.Frag} {as : Ar} {H : Hp} {μ : List Cell} {p : Addr} {vs : List V} {ds : List D} (s : StoR K as H μ) (hp : H p = none) (r : Reps K as H vs ds) :
    Ext as H ⟨as.c ++ [p], as.b⟩ (L2.upd H p (.lst vs)) ∧ StoR K ⟨as.c ++ [p], as.b⟩ (L2.upd H p (.lst vs)) (μ ++ [.lst ds]) := by
  have n := s.out hp
  have X1 : Ext as H ⟨as.c ++ [p], as.b⟩ (L2.upd H p (.lst vs)) := ⟨⟨[p], rfl, by simpa using hp⟩, ⟨[], rfl, by simp⟩, (Ext.new hp n).old, (Ext.new hp n).cel⟩
  refine ⟨X1, by simp [s.len], fun k a c ea ec => ?_, ?_, fun a ha => ?_⟩
  · by_cases hk : k < μ.length
    · have hk' : k < as.c.length := by rw [s.len]; exact hk
      rw [List.getElem?_append_left hk'] at ea
      rw [List.getElem?_append_left hk] at ec
      exact (s.at_ k a c ea ec).mv X1 (upd_ne fun z => n.1 (z ▸ List.mem_of_getElem? ea))
    · have hk' : ¬ k < as.c.length := by rw [s.len]; exact hk
      rw [List.getElem?_append_right (by omega)] at ea
      rw [List.getElem?_append_right (by omega)] at ec
      have h0 : k - μ.length = 0 := by
        have := (List.getElem?_eq_some_iff.mp ec).1
        simpa using this
      rw [h0] at ec
      rw [s.len, h0] at ea
      cases ec
      cases ea
      exact ⟨vs, upd_same, r.mv X1⟩
  · rw [List.nodup_append]
    exact ⟨s.nd, by simp, fun a ha b hb e => n.1 (by simp at hb; rw [← hb, ← e]; exact ha)⟩
  · by_cases z : a = p
    · subst z; rw [upd_same]; simp
    · rw [upd_ne z]; exact s.bl a ha
def fNewC (fs : EvA) : EvE := fun S => match fs S with
  | some (xs, μ1) => if xs.length ≤ sizeLine then some (.h μ1.length, μ1 ++ [.lst xs]) else none
  | none => none
theorem de_lstC (ha : PA X es (tFA X.K fs)) : PE X (.List es pos) (tF X.K (fNewC fs)) := by
  refine (pe_lst ha).imp fun σ H Q ⟨as, S, d, μ', E, e, q⟩ => ?_
  unfold fNewC at e
  split at e
  · rename_i xs μ1 ea
    split at e
    · rename_i hl
      obtain ⟨rfl, rfl⟩ := pr_inj e
      refine ⟨as, S, xs, μ1, E, ea, fun vs as1 H1 X1 r1 s1 => ⟨by rw [r1.length]; exact hl, fun p hp => ?_⟩⟩
      obtain ⟨X2, s2⟩ := s1.grow hp r1
      refine q _ _ _ (X1.trans X2 E.sto.trk) (.h ?_) s2
      rw [List.getElem?_append_right (by rw [s1.len]; exact Nat.le_refl _), s1.len]
      simp
    · cases e
  · cases e
end
/-! ### a def by its name -/
structure Has (P : Program) (w : World) (K : PySem.W.Frag) (mg : Str → Option Value) (base : Heap) (x : Str) (k n : Nat) (F : FnF) : Prop where
  ex : ∃ f fd, mg x = some (.ref f) ∧ FG P w K mg base k f fd n F
section
variable {X : Cx} {k j n : Nat} {F : FnF} {x : Str} {p pos : Pos} {e : Expr} {es : List Expr} {fs : EvA} {W : WX}
theorem de_callH (h : Has X.prog X.w X.K X.mg X.base x j n F) (hr : Room k X.A) (hgd : X.A.guards = some []) (hk : j ≤ k) (hg : Gl X x) (ha : PA X (e :: es) (tFA X.K fs)) (hdb : (x == ("__debug__" : Str)) = false := by decide)
    (he : starEach (e :: es) X.env = (false, eval e X.env) :: starEach es X.env := by rfl) (hpl : (backTo pos (starEach es X.env)).any (·.1) = false := by rfl) :
    PE X (.Call (.Name x p) (e :: es) [] pos) (tF X.K (fCall F (fLen n fs))) := by
  obtain ⟨f, fd, hm, G⟩ := h
  exact de_call (G.mono hk) hr hgd hg hm ha hdb he hpl
theorem de_callH0 (h : Has X.prog X.w X.K X.mg X.base x j 0 F) (hr : Room k X.A) (hgd : X.A.guards = some []) (hk : j ≤ k) (hg : Gl X x) (hdb : (x == ("__debug__" : Str)) = false := by decide) :
    PE X (.Call (.Name x p) [] [] pos) (tF X.K (fCall F fNil)) := by
  obtain ⟨f, fd, hm, G⟩ := h
  exact de_call0 (G.mono hk) hr hgd hg hm hdb
theorem de_callHX (tk : Takes X W) (h : Has X.prog X.w X.K X.mg X.base x j n F) (hr : Room k X.A) (hgd : X.A.guards = some []) (hk : j ≤ k) (hg : Gl X x) (ha : PA X (e :: es) (tFA X.K fs)) (hdb : (x == ("__debug__" : Str)) = false := by decide)
    (he : starEach (e :: es) X.env = (false, eval e X.env) :: starEach es X.env := by rfl) (hpl : (backTo pos (starEach es X.env)).any (·.1) = false := by rfl) :
    PE X (.Call (.Name x p) (e :: es) [] pos) (tFX X.K X.mg W (fCallX F (fLen n fs))) := by
  obtain ⟨f, fd, hm, G⟩ := h
  exact de_callX tk (G.mono hk) hr hgd hg hm ha hdb he hpl
theorem de_callHX0 (tk : Takes X W) (h : Has X.prog X.w X.K X.mg X.base x j 0 F) (hr : Room k X.A) (hgd : X.A.guards = some []) (hk : j ≤ k) (hg : Gl X x) (hdb : (x == ("__debug__" : Str)) = false := by decide) :
    PE X (.Call (.Name x p) [] [] pos) (tFX X.K X.mg W (fCallX F fNil)) := by
  obtain ⟨f, fd, hm, G⟩ := h
  exact de_callX0 tk (G.mono hk) hr hgd hg hm hdb
end
end DL
namespace DL
open PySem L2
/-! ### what is wanted of data functions, from the left -/
def WE (f : EvE) (S : Sg) (P : D → List Cell → Prop) : Prop := ∃ d μ', f S = some (d, μ') ∧ P d μ'
def WT (f : EvT) (S : Sg) (P : Bool → List Cell → Prop) : Prop := ∃ b μ', f S = some (b, μ') ∧ P b μ'
def WA (f : EvA) (S : Sg) (P : List D → List Cell → Prop) : Prop := ∃ ds μ', f S = some (ds, μ') ∧ P ds μ'
def WS (g : EvS) (S : Sg) (P : Fl → Sg → Prop) : Prop := ∃ fl S', g S = some (fl, S') ∧ P fl S'
def WB (b : Bd) (d : D) (S : Sg) (P : Sg → Prop) : Prop := ∃ S', b d S = some S' ∧ P S'
def WBs (b : Bds) (d : List D) (S : Sg) (P : Sg → Prop) : Prop := ∃ S', b d S = some S' ∧ P S'
def W2 (g : D → D → List Cell → Option D) (x y : D) (μ : List Cell) (P : D → Prop) : Prop := ∃ z, g x y μ = some z ∧ P z
def W1 (g : D → List Cell → Option D) (x : D) (μ : List Cell) (P : D → Prop) : Prop := ∃ z, g x μ = some z ∧ P z
def WL (g : List D → List Cell → Option D) (x : List D) (μ : List Cell) (P : D → Prop) : Prop := ∃ z, g x μ = some z ∧ P z
def WF (F : FnF) (ds : List D) (μ : List Cell) (P : D → List Cell → Prop) : Prop := ∃ d μ', F ds μ = some (.v d, μ') ∧ P d μ'
/-- .. of any end -/
def WFX (F : FnF) (ds : List D) (μ : List Cell) (P : Ov → List Cell → Prop) : Prop := ∃ o μ', F ds μ = some (o, μ') ∧ P o μ'
def WEX (f : EvX) (S : Sg) (P : Ov → List Cell → Prop) : Prop := ∃ o μ', f S = some (o, μ') ∧ P o μ'
def WI (f : EvI) (S : Sg) (P : List D → List Cell → Prop) : Prop := ∃ ds μ', f S = some (ds, μ') ∧ P ds μ'
def WTr (d : D) (μ : List Cell) (P : Bool → Prop) : Prop := ∃ b, dTru d μ = some b ∧ P b
section
variable {S : Sg} {P : D → List Cell → Prop} {Q : Bool → List Cell → Prop} {R : List D → List Cell → Prop} {U : Fl → Sg → Prop} {V : D → Prop} {B : Sg → Prop} {fa fb fc : EvE} {fs : EvA} {t u : EvT} {g g' : EvS} {b : Bd} {bs : Bds} {μ : List Cell} {ρ : List (Option D)} {d x y : D} {ds : List D} {i j k : Nat}
theorem W1.of {f : D → List Cell → Option D} {z : D} (e : f x μ = some z) (p : V z) : W1 f x μ V := ⟨z, e, p⟩
theorem WF.mono {F : FnF} {P' : D → List Cell → Prop} (h : WF F ds μ P) (q : ∀ d μ', P d μ' → P' d μ') : WF F ds μ P' := let ⟨d, μ', e, p⟩ := h; ⟨d, μ', e, q d μ' p⟩
theorem WS.mono {U' : Fl → Sg → Prop} (h : WS g S U) (q : ∀ d μ', U d μ' → U' d μ') : WS g S U' := let ⟨d, μ', e, p⟩ := h; ⟨d, μ', e, q d μ' p⟩
theorem we_V : WE (fV i) ⟨ρ, μ⟩ P ↔ ∃ d, ρ[i]? = some (some d) ∧ P d μ := by
  constructor
  · rintro ⟨d, μ', e, p⟩
    unfold fV at e
    split at e
    · rename_i d' he
      obtain ⟨rfl, rfl⟩ := pr_inj e
      exact ⟨d', he, p⟩
    · cases e
  · rintro ⟨d, e, p⟩
    have e' : (⟨ρ, μ⟩ : Sg).ρ[i]? = some (some d) := e
    exact ⟨d, μ, by unfold fV; rw [e'], p⟩
theorem we_C : WE (fC d) ⟨ρ, μ⟩ P ↔ P d μ := ⟨fun ⟨d', μ', e, p⟩ => by obtain ⟨rfl, rfl⟩ := pr_inj e; exact p, fun p => ⟨d, μ, rfl, p⟩⟩
theorem we_B {f : D → D → List Cell → Option D} : WE (fB f fa fb) ⟨ρ, μ⟩ P ↔ WE fa ⟨ρ, μ⟩ fun x μ1 => WE fb ⟨ρ, μ1⟩ fun y μ2 => W2 f x y μ2 fun z => P z μ2 := by
  constructor
  · rintro ⟨d, μ', e, p⟩
    obtain ⟨x, μ1, y, ea, eb, ez⟩ := fB_out e
    exact ⟨x, μ1, ea, y, μ', eb, d, ez, p⟩
  · rintro ⟨x, μ1, ea, y, μ2, eb, z, ez, p⟩
    exact ⟨z, μ2, by unfold fB; rw [ea]; simp only; rw [eb]; simp only; rw [ez], p⟩
theorem we_U {f : D → List Cell → Option D} : WE (fU f fa) ⟨ρ, μ⟩ P ↔ WE fa ⟨ρ, μ⟩ fun x μ1 => W1 f x μ1 fun z => P z μ1 := by
  constructor
  · rintro ⟨d, μ', e, p⟩
    obtain ⟨x, ea, ez⟩ := fU_out e
    exact ⟨x, μ', ea, d, ez, p⟩
  · rintro ⟨x, μ1, ea, z, ez, p⟩
    exact ⟨z, μ1, by unfold fU; rw [ea]; simp only; rw [ez], p⟩
theorem we_App {f : List D → List Cell → Option D} : WE (fApp f fs) ⟨ρ, μ⟩ P ↔ WA fs ⟨ρ, μ⟩ fun xs μ1 => WL f xs μ1 fun z => P z μ1 := by
  constructor
  · rintro ⟨d, μ', e, p⟩
    obtain ⟨x, ea, ez⟩ := fApp_out e
    exact ⟨x, μ', ea, d, ez, p⟩
  · rintro ⟨x, μ1, ea, z, ez, p⟩
    exact ⟨z, μ1, by unfold fApp; rw [ea]; simp only; rw [ez], p⟩
theorem wa_nil : WA fNil ⟨ρ, μ⟩ R ↔ R [] μ := ⟨fun ⟨d', μ', e, p⟩ => by obtain ⟨rfl, rfl⟩ := pr_inj e; exact p, fun p => ⟨[], μ, rfl, p⟩⟩
theorem wa_cons : WA (fCons fa fs) ⟨ρ, μ⟩ R ↔ WE fa ⟨ρ, μ⟩ fun x μ1 => WA fs ⟨ρ, μ1⟩ fun xs μ2 => R (x :: xs) μ2 := by
  constructor
  · rintro ⟨d, μ', e, p⟩
    unfold fCons at e
    split at e
    · rename_i x μ1 ea
      split at e
      · rename_i xs μ2 eb
        obtain ⟨rfl, rfl⟩ := pr_inj e
        exact ⟨x, μ1, ea, xs, μ2, eb, p⟩
      · cases e
    · cases e
  · rintro ⟨x, μ1, ea, xs, μ2, eb, p⟩
    exact ⟨x :: xs, μ2, by unfold fCons; rw [ea]; simp only; rw [eb], p⟩
theorem wl_1 {f : D → List Cell → Option D} : WL (g1 f) [x] μ V ↔ W1 f x μ V := Iff.rfl
theorem wl_2 {f : D → D → List Cell → Option D} : WL (g2 f) [x, y] μ V ↔ W2 f x y μ V := Iff.rfl
theorem wl_lst : WL gLst ds μ V ↔ ds.length ≤ sizeLine ∧ V (.lst ds) := by
  constructor
  · rintro ⟨z, e, p⟩
    unfold gLst at e
    split at e
    · rename_i h; cases e; exact ⟨h, p⟩
    · cases e
  · rintro ⟨h, p⟩
    exact ⟨_, by unfold gLst; rw [if_pos h], p⟩
theorem wl_tup : WL gTup ds μ V ↔ ds.length ≤ sizeLine ∧ V (.tup ds) := by
  constructor
  · rintro ⟨z, e, p⟩
    unfold gTup at e
    split at e
    · rename_i h; cases e; exact ⟨h, p⟩
    · cases e
  · rintro ⟨h, p⟩
    exact ⟨_, by unfold gTup; rw [if_pos h], p⟩
theorem we_newC : WE (fNewC fs) ⟨ρ, μ⟩ P ↔ WA fs ⟨ρ, μ⟩ fun xs μ1 => xs.length ≤ sizeLine ∧ P (.h μ1.length) (μ1 ++ [.lst xs]) := by
  constructor
  · rintro ⟨d, μ', e, p⟩
    unfold fNewC at e
    split at e
    · rename_i xs μ1 ea
      split at e
      · rename_i h
        obtain ⟨rfl, rfl⟩ := pr_inj e
        exact ⟨xs, μ1, ea, h, p⟩
      · cases e
    · cases e
  · rintro ⟨xs, μ1, ea, h, p⟩
    exact ⟨_, _, by unfold fNewC; rw [ea]; simp only; rw [if_pos h], p⟩
theorem we_call {F : FnF} : WE (fCall F fs) ⟨ρ, μ⟩ P ↔ WA fs ⟨ρ, μ⟩ fun ds μ1 => WF F ds μ1 P := by
  constructor
  · rintro ⟨d, μ', e, p⟩
    have e := fNox_out e
    unfold fCallX at e
    split at e
    · rename_i ds μ1 ea
      exact ⟨ds, μ1, ea, d, μ', e, p⟩
    · cases e
  · rintro ⟨ds, μ1, ea, d, μ', e, p⟩
    exact ⟨d, μ', by unfold fCall fNox fCallX; rw [ea]; simp only; rw [e], p⟩
theorem wx_call {F : FnF} {Y : Ov → List Cell → Prop} : WEX (fCallX F fs) ⟨ρ, μ⟩ Y ↔ WA fs ⟨ρ, μ⟩ fun ds μ1 => WFX F ds μ1 Y := by
  constructor
  · rintro ⟨d, μ', e, p⟩
    unfold fCallX at e
    split at e
    · rename_i ds μ1 ea
      exact ⟨ds, μ1, ea, d, μ', e, p⟩
    · cases e
  · rintro ⟨ds, μ1, ea, d, μ', e, p⟩
    exact ⟨d, μ', by unfold fCallX; rw [ea]; exact e, p⟩
theorem wf_x {F : FnF} : WF F ds μ P ↔ WFX F ds μ fun o μ' => match o with
    | .v d => P d μ'
    | .x _ _ => False := by
  constructor
  · rintro ⟨d, μ', e, p⟩
    exact ⟨.v d, μ', e, p⟩
  · rintro ⟨o, μ', e, p⟩
    cases o with
    | v d => exact ⟨d, μ', e, p⟩
    | x n q => exact p.elim
theorem we_nox {fx : EvX} : WE (fNox fx) S P ↔ WEX fx S fun o μ' => match o with
    | .v d => P d μ'
    | .x _ _ => False := by
  constructor
  · rintro ⟨d, μ', e, p⟩
    exact ⟨.v d, μ', fNox_out e, p⟩
  · rintro ⟨o, μ', e, p⟩
    cases o with
    | v d => exact ⟨d, μ', by unfold fNox; rw [e], p⟩
    | x n q => exact p.elim
theorem wa_len {n : Nat} : WA (fLen n fs) ⟨ρ, μ⟩ R ↔ WA fs ⟨ρ, μ⟩ fun ds μ1 => ds.length = n ∧ R ds μ1 := by
  constructor
  · rintro ⟨d, μ', e, p⟩
    unfold fLen at e
    split at e
    · rename_i ds μ1 ea
      split at e
      · rename_i h
        obtain ⟨rfl, rfl⟩ := pr_inj e
        exact ⟨ds, μ1, ea, h, p⟩
      · cases e
    · cases e
  · rintro ⟨ds, μ1, ea, h, p⟩
    exact ⟨_, _, by unfold fLen; rw [ea]; simp only; rw [if_pos h], p⟩
/-! tests -/
theorem wt_Tru : WT (fTru fa) ⟨ρ, μ⟩ Q ↔ WE fa ⟨ρ, μ⟩ fun x μ1 => WTr x μ1 fun k => Q k μ1 := by
  constructor
  · rintro ⟨d, μ', e, p⟩
    unfold fTru at e
    split at e
    · rename_i x μ1 ea
      split at e
      · rename_i k ek
        obtain ⟨rfl, rfl⟩ := pr_inj e
        exact ⟨x, μ1, ea, k, ek, p⟩
      · cases e
    · cases e
  · rintro ⟨x, μ1, ea, k, ek, p⟩
    exact ⟨k, μ1, by unfold fTru; rw [ea]; simp only; rw [ek], p⟩
theorem wt_Not : WT (fNot t) ⟨ρ, μ⟩ Q ↔ WT t ⟨ρ, μ⟩ fun k μ1 => Q (!k) μ1 := by
  constructor
  · rintro ⟨d, μ', e, p⟩
    unfold fNot at e
    split at e
    · rename_i k μ1 ea
      obtain ⟨rfl, rfl⟩ := pr_inj e
      exact ⟨k, μ1, ea, p⟩
    · cases e
  · rintro ⟨k, μ1, ea, p⟩
    exact ⟨!k, μ1, by unfold fNot; rw [ea], p⟩
theorem wt_And : WT (fAnd t u) ⟨ρ, μ⟩ Q ↔ WT t ⟨ρ, μ⟩ fun k μ1 => if k = true then WT u ⟨ρ, μ1⟩ Q else Q false μ1 := by
  constructor
  · rintro ⟨d, μ', e, p⟩
    unfold fAnd at e
    split at e
    · rename_i μ1 ea; exact ⟨true, μ1, ea, iteT ⟨d, μ', e, p⟩⟩
    · rename_i μ1 ea
      obtain ⟨rfl, rfl⟩ := pr_inj e
      exact ⟨false, μ1, ea, iteF p⟩
    · cases e
  · rintro ⟨k, μ1, ea, p⟩
    cases k with
    | true =>
      obtain ⟨d, μ', e, p⟩ := (if_pos rfl : (if true = true then WT u ⟨ρ, μ1⟩ Q else Q false μ1) = _) ▸ p
      exact ⟨d, μ', by unfold fAnd; rw [ea]; exact e, p⟩
    | false => exact ⟨false, μ1, by unfold fAnd; rw [ea], by simpa using p⟩
theorem wt_Or : WT (fOr t u) ⟨ρ, μ⟩ Q ↔ WT t ⟨ρ, μ⟩ fun k μ1 => if k = true then Q true μ1 else WT u ⟨ρ, μ1⟩ Q := by
  constructor
  · rintro ⟨d, μ', e, p⟩
    unfold fOr at e
    split at e
    · rename_i μ1 ea
      obtain ⟨rfl, rfl⟩ := pr_inj e
      exact ⟨true, μ1, ea, iteT p⟩
    · rename_i μ1 ea; exact ⟨false, μ1, ea, iteF ⟨d, μ', e, p⟩⟩
    · cases e
  · rintro ⟨k, μ1, ea, p⟩
    cases k with
    | true => exact ⟨true, μ1, by unfold fOr; rw [ea], by simpa using p⟩
    | false =>
      obtain ⟨d, μ', e, p⟩ := (if_neg Bool.false_ne_true : (if false = true then Q true μ1 else WT u ⟨ρ, μ1⟩ Q) = _) ▸ p
      exact ⟨d, μ', by unfold fOr; rw [ea]; exact e, p⟩
theorem wt_true : WT (fun S => some (true, S.μ)) ⟨ρ, μ⟩ Q ↔ Q true μ := ⟨fun ⟨d', μ', e, p⟩ => by obtain ⟨rfl, rfl⟩ := pr_inj e; exact p, fun p => ⟨true, μ, rfl, p⟩⟩
theorem we_AndV : WE (fAndV fa fb) ⟨ρ, μ⟩ P ↔ WE fa ⟨ρ, μ⟩ fun x μ1 => WTr x μ1 fun k => if k = true then WE fb ⟨ρ, μ1⟩ P else P x μ1 := by
  constructor
  · rintro ⟨d, μ', e, p⟩
    unfold fAndV at e
    split at e
    · rename_i x μ1 ea
      split at e
      · rename_i ek; exact ⟨x, μ1, ea, true, ek, iteT ⟨d, μ', e, p⟩⟩
      · rename_i ek
        obtain ⟨rfl, rfl⟩ := pr_inj e
        exact ⟨x, μ1, ea, false, ek, iteF p⟩
      · cases e
    · cases e
  · rintro ⟨x, μ1, ea, k, ek, p⟩
    cases k with
    | true =>
      obtain ⟨d, μ', e, p⟩ := (if_pos rfl : (if true = true then WE fb ⟨ρ, μ1⟩ P else P x μ1) = _) ▸ p
      exact ⟨d, μ', by unfold fAndV; rw [ea]; simp only; rw [ek]; exact e, p⟩
    | false => exact ⟨x, μ1, by unfold fAndV; rw [ea]; simp only; rw [ek], by simpa using p⟩
theorem we_OrV : WE (fOrV fa fb) ⟨ρ, μ⟩ P ↔ WE fa ⟨ρ, μ⟩ fun x μ1 => WTr x μ1 fun k => if k = true then P x μ1 else WE fb ⟨ρ, μ1⟩ P := by
  constructor
  · rintro ⟨d, μ', e, p⟩
    unfold fOrV at e
    split at e
    · rename_i x μ1 ea
      split at e
      · rename_i ek
        obtain ⟨rfl, rfl⟩ := pr_inj e
        exact ⟨x, μ1, ea, true, ek, iteT p⟩
      · rename_i ek; exact ⟨x, μ1, ea, false, ek, iteF ⟨d, μ', e, p⟩⟩
      · cases e
    · cases e
  · rintro ⟨x, μ1, ea, k, ek, p⟩
    cases k with
    | true => exact ⟨x, μ1, by unfold fOrV; rw [ea]; simp only; rw [ek], by simpa using p⟩
    | false =>
      obtain ⟨d, μ', e, p⟩ := (if_neg Bool.false_ne_true : (if false = true then P x μ1 else WE fb ⟨ρ, μ1⟩ P) = _) ▸ p
      exact ⟨d, μ', by unfold fOrV; rw [ea]; simp only; rw [ek]; exact e, p⟩
theorem we_IfE : WE (fIfE t fa fb) ⟨ρ, μ⟩ P ↔ WT t ⟨ρ, μ⟩ fun k μ1 => if k = true then WE fa ⟨ρ, μ1⟩ P else WE fb ⟨ρ, μ1⟩ P := by
  constructor
  · rintro ⟨d, μ', e, p⟩
    unfold fIfE at e
    split at e
    · rename_i μ1 ea; exact ⟨true, μ1, ea, iteT ⟨d, μ', e, p⟩⟩
    · rename_i μ1 ea; exact ⟨false, μ1, ea, iteF ⟨d, μ', e, p⟩⟩
    · cases e
  · rintro ⟨k, μ1, ea, p⟩
    cases k with
    | true =>
      obtain ⟨d, μ', e, p⟩ := (if_pos rfl : (if true = true then WE fa ⟨ρ, μ1⟩ P else WE fb ⟨ρ, μ1⟩ P) = _) ▸ p
      exact ⟨d, μ', by unfold fIfE; rw [ea]; exact e, p⟩
    | false =>
      obtain ⟨d, μ', e, p⟩ := (if_neg Bool.false_ne_true : (if false = true then WE fa ⟨ρ, μ1⟩ P else WE fb ⟨ρ, μ1⟩ P) = _) ▸ p
      exact ⟨d, μ', by unfold fIfE; rw [ea]; exact e, p⟩
theorem we_Ch {f f' : D → D → List Cell → Option D} : WE (fCh f f' fa fb fc) ⟨ρ, μ⟩ P ↔ WE fa ⟨ρ, μ⟩ fun x μ1 => WE fb ⟨ρ, μ1⟩ fun y μ2 => W2 f x y μ2 fun z => (z = .bl true ∧ WE fc ⟨ρ, μ2⟩ fun w μ3 => W2 f' y w μ3 fun z => P z μ3) ∨ (z = .bl false ∧ P (.bl false) μ2) := by
  constructor
  · rintro ⟨d, μ', e, p⟩
    unfold fCh at e
    split at e
    · rename_i x μ1 ea
      split at e
      · rename_i y μ2 eb
        split at e
        · rename_i ez
          split at e
          · rename_i w μ3 ec
            split at e
            · rename_i z ew
              obtain ⟨rfl, rfl⟩ := pr_inj e
              exact ⟨x, μ1, ea, y, μ2, eb, _, ez, .inl ⟨rfl, w, μ3, ec, z, ew, p⟩⟩
            · cases e
          · cases e
        · rename_i ez
          obtain ⟨rfl, rfl⟩ := pr_inj e
          exact ⟨x, μ1, ea, y, μ2, eb, _, ez, .inr ⟨rfl, p⟩⟩
        · cases e
      · cases e
    · cases e
  · rintro ⟨x, μ1, ea, y, μ2, eb, z, ez, h⟩
    rcases h with ⟨rfl, w, μ3, ec, z, ew, p⟩ | ⟨rfl, p⟩
    · exact ⟨z, μ3, by unfold fCh; rw [ea]; simp only; rw [eb]; simp only; rw [ez]; simp only; rw [ec]; simp only; rw [ew], p⟩
    · exact ⟨_, μ2, by unfold fCh; rw [ea]; simp only; rw [eb]; simp only; rw [ez], p⟩
/-! statements -/
theorem ws_then : WS (bThen b fa) ⟨ρ, μ⟩ U ↔ WE fa ⟨ρ, μ⟩ fun d μ1 => WB b d ⟨ρ, μ1⟩ fun S' => U .nx S' := by
  constructor
  · rintro ⟨fl, S', e, p⟩
    unfold bThen at e
    split at e
    · rename_i d μ1 ea
      split at e
      · rename_i S1 eb
        obtain ⟨rfl, rfl⟩ := pr_inj e
        exact ⟨d, μ1, ea, S1, eb, p⟩
      · cases e
    · cases e
  · rintro ⟨d, μ1, ea, S1, eb, p⟩
    exact ⟨.nx, S1, by unfold bThen; rw [ea]; simp only; rw [eb], p⟩
theorem wb_name : WB (bName i) d ⟨ρ, μ⟩ B ↔ i < ρ.length ∧ B ⟨ρ.set i (some d), μ⟩ := by
  constructor
  · rintro ⟨S', e, p⟩
    obtain ⟨h, rfl⟩ := bName_out e
    exact ⟨h, p⟩
  · rintro ⟨h, p⟩
    exact ⟨_, by unfold bName; rw [if_pos h], p⟩
theorem wb_sub : WB (bSub fa fb) d ⟨ρ, μ⟩ B ↔ WE fa ⟨ρ, μ⟩ fun o μ1 => WE fb ⟨ρ, μ1⟩ fun i μ2 => ∃ μ3, cSet o i d μ2 = some μ3 ∧ B ⟨ρ, μ3⟩ := by
  constructor
  · rintro ⟨S', e, p⟩
    unfold bSub at e
    split at e
    · rename_i o μ1 ea
      split at e
      · rename_i i μ2 eb
        split at e
        · rename_i μ3 ec
          cases Option.some.inj e
          exact ⟨o, μ1, ea, i, μ2, eb, μ3, ec, p⟩
        · cases e
      · cases e
    · cases e
  · rintro ⟨o, μ1, ea, i, μ2, eb, μ3, ec, p⟩
    exact ⟨_, by unfold bSub; rw [ea]; simp only; rw [eb]; simp only; rw [ec], p⟩
theorem cSet_iff {z : Int} {C : List Cell → Prop} : (∃ μ3, cSet (.h k) (.int z) d μ = some μ3 ∧ C μ3) ↔ ∃ xs n, μ[k]? = some (.lst xs) ∧ ixN xs.length z = some n ∧ C (μ.set k (.lst (xs.set n d))) := by
  constructor
  · rintro ⟨μ3, e, p⟩
    obtain ⟨k', j, xs, n, e1, e2, ex, en, rfl⟩ := cSet_out e
    cases e1
    cases e2
    exact ⟨xs, n, ex, en, p⟩
  · rintro ⟨xs, n, ex, en, p⟩
    exact ⟨_, by unfold cSet; simp only; rw [ex]; simp only; rw [en], p⟩
theorem wb_tup {n : Nat} : WB (bTup n bs) (.tup ds) ⟨ρ, μ⟩ B ↔ ds.length = n ∧ WBs bs ds ⟨ρ, μ⟩ B := by
  constructor
  · rintro ⟨S', e, p⟩
    unfold bTup at e
    simp only at e
    split at e
    · rename_i h; exact ⟨h, S', e, p⟩
    · cases e
  · rintro ⟨h, S', e, p⟩
    exact ⟨S', by unfold bTup; simp only; rw [if_pos h]; exact e, p⟩
theorem wbs_nil : WBs bsNil [] ⟨ρ, μ⟩ B ↔ B ⟨ρ, μ⟩ := ⟨fun ⟨S', e, p⟩ => by cases Option.some.inj e; exact p, fun p => ⟨_, rfl, p⟩⟩
theorem wbs_cons : WBs (bsCons b bs) (d :: ds) S B ↔ WB b d S fun S1 => WBs bs ds S1 B := by
  constructor
  · rintro ⟨S', e, p⟩
    unfold bsCons at e
    simp only at e
    split at e
    · rename_i S1 e1; exact ⟨S1, e1, S', e, p⟩
    · cases e
  · rintro ⟨S1, e1, S', e, p⟩
    exact ⟨S', by unfold bsCons; simp only; rw [e1]; exact e, p⟩
theorem ws_drop : WS (sDrop fa) ⟨ρ, μ⟩ U ↔ WE fa ⟨ρ, μ⟩ fun _ μ1 => U .nx ⟨ρ, μ1⟩ := by
  constructor
  · rintro ⟨fl, S', e, p⟩
    unfold sDrop at e
    split at e
    · rename_i d μ1 ea
      obtain ⟨rfl, rfl⟩ := pr_inj e
      exact ⟨d, μ1, ea, p⟩
    · cases e
  · rintro ⟨d, μ1, ea, p⟩
    exact ⟨_, _, by unfold sDrop; rw [ea], p⟩
theorem ws_nx : WS sNx S U ↔ U .nx S := ⟨fun ⟨fl, S', e, p⟩ => by obtain ⟨rfl, rfl⟩ := pr_inj e; exact p, fun p => ⟨_, _, rfl, p⟩⟩
theorem ws_bk : WS sBk S U ↔ U .bk S := ⟨fun ⟨fl, S', e, p⟩ => by obtain ⟨rfl, rfl⟩ := pr_inj e; exact p, fun p => ⟨_, _, rfl, p⟩⟩
theorem ws_ct : WS sCt S U ↔ U .ct S := ⟨fun ⟨fl, S', e, p⟩ => by obtain ⟨rfl, rfl⟩ := pr_inj e; exact p, fun p => ⟨_, _, rfl, p⟩⟩
theorem ws_ret : WS (sRet fa) ⟨ρ, μ⟩ U ↔ WE fa ⟨ρ, μ⟩ fun d μ1 => U (.rt d) ⟨ρ, μ1⟩ := by
  constructor
  · rintro ⟨fl, S', e, p⟩
    unfold sRet at e
    split at e
    · rename_i d μ1 ea
      obtain ⟨rfl, rfl⟩ := pr_inj e
      exact ⟨d, μ1, ea, p⟩
    · cases e
  · rintro ⟨d, μ1, ea, p⟩
    exact ⟨_, _, by unfold sRet; rw [ea], p⟩
def Ox (U : Fl → Sg → Prop) (k : D → List Cell → Prop) (ρ : List (Option D)) (o : Ov) (μ' : List Cell) : Prop := match o with
  | .v d => k d μ'
  | .x n p => U (.ex n p) ⟨ρ, μ'⟩
theorem Ox_v {k : D → List Cell → Prop} : Ox U k ρ (.v d) μ ↔ k d μ := Iff.rfl
theorem Ox_x {k : D → List Cell → Prop} {n : Str} {p : Option D} : Ox U k ρ (.x n p) μ ↔ U (.ex n p) ⟨ρ, μ⟩ := Iff.rfl
theorem ws_retX {fx : EvX} : WS (sRetX fx) ⟨ρ, μ⟩ U ↔ WEX fx ⟨ρ, μ⟩ (Ox U (fun d μ1 => U (.rt d) ⟨ρ, μ1⟩) ρ) := by
  constructor
  · rintro ⟨fl, S', e, p⟩
    unfold sRetX at e
    split at e
    · rename_i d μ1 ea
      obtain ⟨rfl, rfl⟩ := pr_inj e
      exact ⟨_, _, ea, p⟩
    · rename_i n q μ1 ea
      obtain ⟨rfl, rfl⟩ := pr_inj e
      exact ⟨_, _, ea, p⟩
    · cases e
  · rintro ⟨o, μ1, ea, p⟩
    cases o with
    | v d => exact ⟨_, _, by unfold sRetX; rw [ea], p⟩
    | x n q => exact ⟨_, _, by unfold sRetX; rw [ea], p⟩
theorem ws_dropX {fx : EvX} : WS (sDropX fx) ⟨ρ, μ⟩ U ↔ WEX fx ⟨ρ, μ⟩ (Ox U (fun _ μ1 => U .nx ⟨ρ, μ1⟩) ρ) := by
  constructor
  · rintro ⟨fl, S', e, p⟩
    unfold sDropX at e
    split at e
    · rename_i d μ1 ea
      obtain ⟨rfl, rfl⟩ := pr_inj e
      exact ⟨_, _, ea, p⟩
    · rename_i n q μ1 ea
      obtain ⟨rfl, rfl⟩ := pr_inj e
      exact ⟨_, _, ea, p⟩
    · cases e
  · rintro ⟨o, μ1, ea, p⟩
    cases o with
    | v d => exact ⟨_, _, by unfold sDropX; rw [ea], p⟩
    | x n q => exact ⟨_, _, by unfold sDropX; rw [ea], p⟩
theorem ws_thenX {fx : EvX} : WS (bThenX b fx) ⟨ρ, μ⟩ U ↔ WEX fx ⟨ρ, μ⟩ (Ox U (fun d μ1 => WB b d ⟨ρ, μ1⟩ fun S' => U .nx S') ρ) := by
  constructor
  · rintro ⟨fl, S', e, p⟩
    unfold bThenX at e
    split at e
    · rename_i d μ1 ea
      split at e
      · rename_i S1 eb
        obtain ⟨rfl, rfl⟩ := pr_inj e
        exact ⟨_, _, ea, _, eb, p⟩
      · cases e
    · rename_i n q μ1 ea
      obtain ⟨rfl, rfl⟩ := pr_inj e
      exact ⟨_, _, ea, p⟩
    · cases e
  · rintro ⟨o, μ1, ea, p⟩
    cases o with
    | v d =>
      obtain ⟨S1, eb, p⟩ := p
      exact ⟨_, _, by unfold bThenX; rw [ea]; simp only; rw [eb], p⟩
    | x n q => exact ⟨_, _, by unfold bThenX; rw [ea], p⟩
theorem ws_raise {n : Str} : WS (sRaise n) S U ↔ U (.ex n none) S := ⟨fun ⟨fl, S', e, p⟩ => by obtain ⟨rfl, rfl⟩ := pr_inj e; exact p, fun p => ⟨_, _, rfl, p⟩⟩
theorem ws_try {h : Str → Option Bool} {gs : EvS} (p : WS g S fun fl S1 => match fl with
    | .ex n x => (h n = some true ∧ WS gs S1 fun fl' S' => (∀ n p, fl' ≠ .ex n p) ∧ U fl' S') ∨ (h n = some false ∧ U (.ex n x) S1)
    | fl => U fl S1) : WS (sTry h g gs) S U := by
  obtain ⟨fl, S1, e, q⟩ := p
  cases fl with
  | ex n x =>
    rcases q with ⟨eh, fl', S', e', hn, u⟩ | ⟨eh, u⟩
    · refine ⟨fl', S', ?_, u⟩
      unfold sTry
      rw [e]
      simp only
      rw [eh]
      simp only
      rw [e']
      cases fl' with
      | ex n p => exact (hn n p rfl).elim
      | _ => rfl
    · refine ⟨_, _, ?_, u⟩
      unfold sTry
      rw [e]
      simp only
      rw [eh]
  | _ => exact ⟨_, _, by unfold sTry; rw [e], q⟩
theorem ws_if : WS (sIf t g g') ⟨ρ, μ⟩ U ↔ WT t ⟨ρ, μ⟩ fun k μ1 => if k = true then WS g ⟨ρ, μ1⟩ U else WS g' ⟨ρ, μ1⟩ U := by
  constructor
  · rintro ⟨fl, S', e, p⟩
    unfold sIf at e
    split at e
    · rename_i μ1 ea; exact ⟨true, μ1, ea, iteT ⟨fl, S', e, p⟩⟩
    · rename_i μ1 ea; exact ⟨false, μ1, ea, iteF ⟨fl, S', e, p⟩⟩
    · cases e
  · rintro ⟨k, μ1, ea, p⟩
    cases k with
    | true =>
      obtain ⟨d, μ', e, p⟩ := (if_pos rfl : (if true = true then WS g ⟨ρ, μ1⟩ U else WS g' ⟨ρ, μ1⟩ U) = _) ▸ p
      exact ⟨d, μ', by unfold sIf; rw [ea]; exact e, p⟩
    | false =>
      obtain ⟨d, μ', e, p⟩ := (if_neg Bool.false_ne_true : (if false = true then WS g ⟨ρ, μ1⟩ U else WS g' ⟨ρ, μ1⟩ U) = _) ▸ p
      exact ⟨d, μ', by unfold sIf; rw [ea]; exact e, p⟩
/-- what is wanted behind the first of two -/
def Nx (U : Fl → Sg → Prop) (g' : EvS) (fl : Fl) (S1 : Sg) : Prop := match fl with
  | .nx => WS g' S1 U
  | fl => U fl S1
theorem ws_seq : WS (sSeq g g') S U ↔ WS g S (Nx U g') := by
  constructor
  · rintro ⟨fl, S', e, p⟩
    unfold sSeq at e
    split at e
    · rename_i S1 e1
      exact ⟨.nx, S1, e1, fl, S', e, p⟩
    · rename_i hn
      refine ⟨fl, S', e, ?_⟩
      cases fl with
      | nx => exact (hn S' e).elim
      | _ => exact p
  · rintro ⟨fl, S1, e1, h⟩
    cases fl with
    | nx =>
      obtain ⟨fl', S', e, p⟩ := h
      exact ⟨fl', S', by unfold sSeq; rw [e1]; exact e, p⟩
    | _ => exact ⟨_, S1, by unfold sSeq; rw [e1], h⟩
theorem Nx_nx : Nx U g' .nx S ↔ WS g' S U := Iff.rfl
theorem Nx_rt : Nx U g' (.rt d) S ↔ U (.rt d) S := Iff.rfl
theorem Nx_bk : Nx U g' .bk S ↔ U .bk S := Iff.rfl
theorem Nx_ct : Nx U g' .ct S ↔ U .ct S := Iff.rfl
theorem Nx_ex {n : Str} {p : Option D} : Nx U g' (.ex n p) S ↔ U (.ex n p) S := Iff.rfl
/-- a def's end -/
def Fe (P : D → List Cell → Prop) (fl : Fl) (S' : Sg) : Prop := match fl with
  | .rt d => P d S'.μ
  | .nx => P .non S'.μ
  | _ => False
theorem wf_fn {n N : Nat} : WF (fnF n N g) ds μ P ↔ WS g ⟨ds.map some ++ List.replicate (N - n) none, μ⟩ (Fe P) := by
  constructor
  · rintro ⟨d, μ', e, p⟩
    unfold fnF at e
    split at e
    · rename_i d S' e1
      obtain ⟨e0, rfl⟩ := pr_inj e
      cases e0
      exact ⟨_, S', e1, p⟩
    · rename_i S' e1
      obtain ⟨e0, rfl⟩ := pr_inj e
      cases e0
      exact ⟨_, S', e1, p⟩
    · cases (pr_inj e).1
    · cases e
  · rintro ⟨fl, S', e1, h⟩
    cases fl with
    | rt d => exact ⟨d, S'.μ, by unfold fnF; rw [e1], h⟩
    | nx => exact ⟨.non, S'.μ, by unfold fnF; rw [e1], h⟩
    | _ => exact h.elim
/-- .. of any end -/
def FeX (Y : Ov → List Cell → Prop) (fl : Fl) (S' : Sg) : Prop := match fl with
  | .rt d => Y (.v d) S'.μ
  | .nx => Y (.v .non) S'.μ
  | .ex n p => Y (.x n p) S'.μ
  | _ => False
theorem wfx_fn {n N : Nat} {Y : Ov → List Cell → Prop} : WFX (fnF n N g) ds μ Y ↔ WS g ⟨ds.map some ++ List.replicate (N - n) none, μ⟩ (FeX Y) := by
  constructor
  · rintro ⟨d, μ', e, p⟩
    unfold fnF at e
    split at e
    · rename_i d S' e1
      obtain ⟨rfl, rfl⟩ := pr_inj e
      exact ⟨_, S', e1, p⟩
    · rename_i S' e1
      obtain ⟨rfl, rfl⟩ := pr_inj e
      exact ⟨_, S', e1, p⟩
    · rename_i n2 p2 S' e1
      obtain ⟨rfl, rfl⟩ := pr_inj e
      exact ⟨_, S', e1, p⟩
    · cases e
  · rintro ⟨fl, S', e1, h⟩
    cases fl with
    | rt d => exact ⟨.v d, S'.μ, by unfold fnF; rw [e1], h⟩
    | nx => exact ⟨.v .non, S'.μ, by unfold fnF; rw [e1], h⟩
    | ex n p => exact ⟨.x n p, S'.μ, by unfold fnF; rw [e1], h⟩
    | _ => exact h.elim
theorem FeX_rt {Y : Ov → List Cell → Prop} : FeX Y (.rt d) ⟨ρ, μ⟩ ↔ Y (.v d) μ := Iff.rfl
theorem FeX_nx {Y : Ov → List Cell → Prop} : FeX Y .nx ⟨ρ, μ⟩ ↔ Y (.v .non) μ := Iff.rfl
theorem FeX_ex {Y : Ov → List Cell → Prop} {n : Str} {p : Option D} : FeX Y (.ex n p) ⟨ρ, μ⟩ ↔ Y (.x n p) μ := Iff.rfl
theorem Fe_rt : Fe P (.rt d) ⟨ρ, μ⟩ ↔ P d μ := Iff.rfl
theorem Fe_nx : Fe P .nx ⟨ρ, μ⟩ ↔ P .non μ := Iff.rfl
/-! loops -/
theorem wi_seq {gs : D → Option (List D)} : WI (itOf gs fa) ⟨ρ, μ⟩ R ↔ WE fa ⟨ρ, μ⟩ fun d μ1 => ∃ ds, gs d = some ds ∧ R ds μ1 := by
  constructor
  · rintro ⟨ds, μ', e, p⟩
    obtain ⟨d, ef, ed⟩ := itOf_out e
    exact ⟨d, μ', ef, ds, ed, p⟩
  · rintro ⟨d, μ', ef, ds, ed, p⟩
    exact ⟨ds, μ', by unfold itOf; rw [ef]; simp only; rw [ed], p⟩
theorem wi_rng1 : WI (gRng1 fs) ⟨ρ, μ⟩ R ↔ WA fs ⟨ρ, μ⟩ fun ds μ1 => ∃ j, ds = [.int j] ∧ -(2 ^ 62) ≤ j ∧ j < 2 ^ 62 ∧ R (rngD 0 j.toNat) μ1 := by
  constructor
  · rintro ⟨ds, μ', e, p⟩
    unfold gRng1 at e
    split at e
    · rename_i j μ1 ef
      split at e
      · rename_i hj
        obtain ⟨rfl, rfl⟩ := pr_inj e
        exact ⟨_, _, ef, j, rfl, hj.1, hj.2, p⟩
      · cases e
    · cases e
  · rintro ⟨ds, μ1, ef, j, rfl, h1, h2, p⟩
    exact ⟨_, _, by unfold gRng1; rw [ef]; simp only; rw [if_pos ⟨h1, h2⟩], p⟩
theorem ws_for {it : EvI} : WS (sFor it b g) ⟨ρ, μ⟩ U ↔ WI it ⟨ρ, μ⟩ fun ds μ1 => WS (forL b g ds) ⟨ρ, μ1⟩ U := by
  constructor
  · rintro ⟨fl, S', e, p⟩
    unfold sFor at e
    split at e
    · rename_i ds μ1 ei; exact ⟨ds, μ1, ei, fl, S', e, p⟩
    · cases e
  · rintro ⟨ds, μ1, ei, fl, S', e, p⟩
    exact ⟨fl, S', by unfold sFor; rw [ei]; exact e, p⟩
/-- what is wanted behind a turn -/
def Tn (U : Fl → Sg → Prop) (again : Sg → Prop) (fl : Fl) (S' : Sg) : Prop := match fl with
  | .nx => again S'
  | .ct => again S'
  | .bk => U .nx S'
  | .rt d => U (.rt d) S'
  | .ex n p => U (.ex n p) S'
theorem ws_forNil : WS (forL b g []) S U ↔ U .nx S := ws_nx
theorem ws_forCons : WS (forL b g (d :: ds)) S U ↔ WB b d S fun S1 => WS g S1 (Tn U fun S2 => WS (forL b g ds) S2 U) := by
  constructor
  · rintro ⟨fl, S', e, p⟩
    unfold forL at e
    split at e
    · rename_i S1 eb
      split at e
      · rename_i S2 eg; exact ⟨S1, eb, .nx, S2, eg, fl, S', e, p⟩
      · rename_i S2 eg; exact ⟨S1, eb, .ct, S2, eg, fl, S', e, p⟩
      · rename_i S2 eg
        obtain ⟨rfl, rfl⟩ := pr_inj e
        exact ⟨S1, eb, .bk, S2, eg, p⟩
      · rename_i x S2 eg
        obtain ⟨rfl, rfl⟩ := pr_inj e
        exact ⟨S1, eb, .rt x, S2, eg, p⟩
      · rename_i n x S2 eg
        obtain ⟨rfl, rfl⟩ := pr_inj e
        exact ⟨S1, eb, .ex n x, S2, eg, p⟩
      · cases e
    · cases e
  · rintro ⟨S1, eb, fl, S2, eg, h⟩
    cases fl with
    | nx => obtain ⟨fl, S', e, p⟩ := h; exact ⟨fl, S', by unfold forL; rw [eb]; simp only; rw [eg]; exact e, p⟩
    | ct => obtain ⟨fl, S', e, p⟩ := h; exact ⟨fl, S', by unfold forL; rw [eb]; simp only; rw [eg]; exact e, p⟩
    | bk => exact ⟨.nx, S2, by unfold forL; rw [eb]; simp only; rw [eg], h⟩
    | rt x => exact ⟨.rt x, S2, by unfold forL; rw [eb]; simp only; rw [eg], h⟩
    | ex n x => exact ⟨.ex n x, S2, by unfold forL; rw [eb]; simp only; rw [eg], h⟩
/-- a loop by its invariant, over the items that are left -/
theorem ws_forInv (I : List D → Sg → Prop) (h : ∀ d r S, I (d :: r) S → WB b d S fun S1 => WS g S1 (Tn U (I r))) (h0 : ∀ S, I [] S → U .nx S) : ∀ (ds : List D) (S : Sg), I ds S → WS (forL b g ds) S U
  | [], S, p => ws_forNil.mpr (h0 S p)
  | d :: ds, S, p => by
    refine ws_forCons.mpr ?_
    obtain ⟨S1, e1, fl, S2, e2, q⟩ := h d ds S p
    refine ⟨S1, e1, fl, S2, e2, ?_⟩
    cases fl with
    | nx => exact ws_forInv I h h0 ds S2 q
    | ct => exact ws_forInv I h h0 ds S2 q
    | bk => exact q
    | rt d => exact q
    | ex n p => exact q
theorem Tn_nx {A : Sg → Prop} : Tn U A .nx S ↔ A S := Iff.rfl
theorem Tn_ct {A : Sg → Prop} : Tn U A .ct S ↔ A S := Iff.rfl
theorem Tn_bk {A : Sg → Prop} : Tn U A .bk S ↔ U .nx S := Iff.rfl
theorem Tn_rt {A : Sg → Prop} : Tn U A (.rt d) S ↔ U (.rt d) S := Iff.rfl
/-! comprehensions -/
def WLc (b : Bd) (t : EvT) (f : EvE) (ρ : List (Option D)) (ds : List D) (μ : List Cell) (R : List D → List Cell → Prop) : Prop := ∃ xs μ', lcL b t f ρ ds μ = some (xs, μ') ∧ R xs μ'
theorem we_Lc {it : EvI} {ws : List Nat} : WE (fLc it b t fa ws) ⟨ρ, μ⟩ P ↔ WI it ⟨ρ, μ⟩ fun ds μ1 => WLc b t fa (wipeR ρ ws) ds μ1 fun xs μ2 => xs.length ≤ sizeLine ∧ P (.lst xs) μ2 := by
  constructor
  · rintro ⟨d, μ', e, p⟩
    unfold fLc at e
    split at e
    · rename_i ds μ1 ei
      split at e
      · rename_i xs μ2 el
        split at e
        · rename_i h
          obtain ⟨rfl, rfl⟩ := pr_inj e
          exact ⟨ds, μ1, ei, xs, μ2, el, h, p⟩
        · cases e
      · cases e
    · cases e
  · rintro ⟨ds, μ1, ei, xs, μ2, el, h, p⟩
    exact ⟨_, _, by unfold fLc; rw [ei]; simp only; rw [el]; simp only; rw [if_pos h], p⟩
theorem wlc_nil : WLc b t fa ρ [] μ R ↔ R [] μ := ⟨fun ⟨d', μ', e, p⟩ => by obtain ⟨rfl, rfl⟩ := pr_inj e; exact p, fun p => ⟨[], μ, rfl, p⟩⟩
theorem wlc_cons : WLc b t fa ρ (d :: ds) μ R ↔ WB b d ⟨ρ, μ⟩ fun S1 => WT t S1 fun k μ1 => if k = true then WE fa ⟨S1.ρ, μ1⟩ fun x μ2 => WLc b t fa ρ ds μ2 fun xs μ3 => R (x :: xs) μ3 else WLc b t fa ρ ds μ1 R := by
  constructor
  · rintro ⟨xs, μ', e, p⟩
    unfold lcL at e
    split at e
    · rename_i S1 eb
      split at e
      · rename_i μ1 et
        split at e
        · rename_i x μ2 ef
          split at e
          · rename_i ys μ3 er
            obtain ⟨rfl, rfl⟩ := pr_inj e
            exact ⟨S1, eb, true, μ1, et, iteT ⟨x, μ2, ef, ys, μ3, er, p⟩⟩
          · cases e
        · cases e
      · rename_i μ1 et
        exact ⟨S1, eb, false, μ1, et, iteF ⟨xs, μ', e, p⟩⟩
      · cases e
    · cases e
  · rintro ⟨S1, eb, k, μ1, et, h⟩
    cases k with
    | true =>
      obtain ⟨x, μ2, ef, ys, μ3, er, p⟩ : WE fa ⟨S1.ρ, μ1⟩ fun x μ2 => WLc b t fa ρ ds μ2 fun xs μ3 => R (x :: xs) μ3 := by simpa using h
      exact ⟨x :: ys, μ3, by unfold lcL; rw [eb]; simp only; rw [et]; simp only; rw [ef]; simp only; rw [er], p⟩
    | false =>
      obtain ⟨xs, μ', e, p⟩ : WLc b t fa ρ ds μ1 R := by simpa using h
      exact ⟨xs, μ', by unfold lcL; rw [eb]; simp only; rw [et]; exact e, p⟩
/-- a comprehension by its invariant: the items left, those made -/
theorem wlc_inv (I : List D → List D → List Cell → Prop) (h : ∀ d r xs μ, I (d :: r) xs μ → WB b d ⟨ρ, μ⟩ fun S1 => WT t S1 fun k μ1 => if k = true then WE fa ⟨S1.ρ, μ1⟩ fun x μ2 => I r (xs ++ [x]) μ2 else I r xs μ1) :
    ∀ (ds xs : List D) (μ : List Cell), I ds xs μ → WLc b t fa ρ ds μ fun ys μ' => I [] (xs ++ ys) μ'
  | [], xs, μ, p => wlc_nil.mpr (by rw [List.append_nil]; exact p)
  | d :: ds, xs, μ, p => by
    refine wlc_cons.mpr ?_
    obtain ⟨S1, e1, k, μ1, e2, q⟩ := h d ds xs μ p
    refine ⟨S1, e1, k, μ1, e2, ?_⟩
    cases k with
    | true =>
      obtain ⟨x, μ2, e3, q⟩ : WE fa ⟨S1.ρ, μ1⟩ fun x μ2 => I ds (xs ++ [x]) μ2 := by simpa using q
      obtain ⟨ys, μ3, e4, q⟩ := wlc_inv I h ds (xs ++ [x]) μ2 q
      exact iteT ⟨x, μ2, e3, ys, μ3, e4, by rw [List.append_assoc] at q; exact q⟩
    | false =>
      have q : I ds xs μ1 := by simpa using q
      exact iteF (wlc_inv I h ds xs μ1 q)
end
/-! ### operations on plain values -/
section
variable {V : D → Prop} {μ : List Cell} {i j : Int} {s z : Str} {x y : D} {xs ys : List D} {k : Nat} {p q : Bool} {T : String}
theorem w2_addI : W2 dAdd (.int i) (.int j) μ V ↔ V (.int (i + j)) := ⟨fun ⟨z, e, p⟩ => by cases e; exact p, fun p => ⟨_, rfl, p⟩⟩
theorem w2_addS : W2 dAdd (.str s) (.str z) μ V ↔ s.length + z.length ≤ sizeLine ∧ V (.str (s ++ z)) := by
  constructor
  · rintro ⟨w, e, p⟩
    unfold dAdd at e
    simp only at e
    split at e
    · rename_i h; cases e; exact ⟨h, p⟩
    · cases e
  · rintro ⟨h, p⟩
    exact ⟨_, by unfold dAdd; simp only; rw [if_pos h], p⟩
theorem w2_addL : W2 dAdd (.lst xs) (.lst ys) μ V ↔ xs.length + ys.length ≤ sizeLine ∧ V (.lst (xs ++ ys)) := by
  constructor
  · rintro ⟨w, e, p⟩
    unfold dAdd asL at e
    simp only at e
    split at e
    · rename_i h; cases e; exact ⟨h, p⟩
    · cases e
  · rintro ⟨h, p⟩
    exact ⟨_, by unfold dAdd asL; simp only; rw [if_pos h], p⟩
theorem w2_II {g : Int → Int → Option D} : W2 (dII g) (.int i) (.int j) μ V ↔ ∃ z, g i j = some z ∧ V z := Iff.rfl
theorem gSub_iff : (∃ z, gSub i j = some z ∧ V z) ↔ V (.int (i - j)) := ⟨fun ⟨z, e, p⟩ => by cases e; exact p, fun p => ⟨_, rfl, p⟩⟩
theorem gMod_iff : (∃ z, gMod i j = some z ∧ V z) ↔ j ≠ 0 ∧ V (.int (i.fmod j)) := by
  constructor
  · rintro ⟨z, e, p⟩
    unfold gMod at e
    split at e
    · rename_i h; cases e; exact ⟨h, p⟩
    · cases e
  · rintro ⟨h, p⟩
    exact ⟨_, by unfold gMod; rw [if_pos h], p⟩
theorem gFdiv_iff : (∃ z, gFdiv i j = some z ∧ V z) ↔ (j ≠ 0 ∧ j.natAbs < 1073741824) ∧ V (.int (i.fdiv j)) := by
  constructor
  · rintro ⟨z, e, p⟩
    unfold gFdiv at e
    split at e
    · rename_i h; cases e; exact ⟨h, p⟩
    · cases e
  · rintro ⟨h, p⟩
    exact ⟨_, by unfold gFdiv; rw [if_pos h], p⟩
theorem gPow_iff : (∃ z, gPow i j = some z ∧ V z) ↔ (0 ≤ j ∧ (Builtin.Int.intBits i : Int) * j ≤ 2 ^ 27) ∧ V (.int (i ^ j.toNat)) := by
  constructor
  · rintro ⟨z, e, p⟩
    unfold gPow at e
    split at e
    · rename_i h; cases e; exact ⟨h, p⟩
    · cases e
  · rintro ⟨h, p⟩
    exact ⟨_, by unfold gPow; rw [if_pos h], p⟩
theorem w2_mulI : W2 dMul (.int i) (.int j) μ V ↔ ((-(2 ^ 64) < i ∧ i < 2 ^ 64) ∨ (-(2 ^ 64) < j ∧ j < 2 ^ 64)) ∧ V (.int (i * j)) := by
  constructor
  · rintro ⟨z, e, p⟩
    unfold dMul at e
    simp only at e
    split at e
    · rename_i h; cases e; exact ⟨h, p⟩
    · cases e
  · rintro ⟨h, p⟩
    exact ⟨_, by unfold dMul; simp only; rw [if_pos h], p⟩
theorem w1_neg : W1 dNeg (.int i) μ V ↔ V (.int (-i)) := ⟨fun ⟨z, e, p⟩ => by cases e; exact p, fun p => ⟨_, rfl, p⟩⟩
theorem w2_ordI {gi : Int → Int → Bool} {gs : Str → Str → Bool} : W2 (dOrd gi gs) (.int i) (.int j) μ V ↔ V (.bl (gi i j)) := ⟨fun ⟨z, e, p⟩ => by cases e; exact p, fun p => ⟨_, rfl, p⟩⟩
theorem w2_ordS {gi : Int → Int → Bool} {gs : Str → Str → Bool} : W2 (dOrd gi gs) (.str s) (.str z) μ V ↔ V (.bl (gs s z)) := ⟨fun ⟨z, e, p⟩ => by cases e; exact p, fun p => ⟨_, rfl, p⟩⟩
theorem w2_is : W2 dIs x y μ V ↔ ∃ k, isB x y μ = some k ∧ V (.bl k) := by
  constructor
  · rintro ⟨z, e, p⟩
    obtain ⟨k, ek, rfl⟩ := Option.map_eq_some_iff.mp e
    exact ⟨k, ek, p⟩
  · rintro ⟨k, ek, p⟩
    exact ⟨_, by unfold dIs; rw [ek]; rfl, p⟩
theorem w2_isNot : W2 dIsNot x y μ V ↔ ∃ k, isB x y μ = some k ∧ V (.bl !k) := by
  constructor
  · rintro ⟨z, e, p⟩
    obtain ⟨k, ek, rfl⟩ := Option.map_eq_some_iff.mp e
    exact ⟨k, ek, p⟩
  · rintro ⟨k, ek, p⟩
    exact ⟨_, by unfold dIsNot; rw [ek]; rfl, p⟩
theorem w2_eq : W2 dEq x y μ V ↔ ∃ k, eqB x y μ = some k ∧ V (.bl k) := by
  constructor
  · rintro ⟨z, e, p⟩
    obtain ⟨k, ek, rfl⟩ := Option.map_eq_some_iff.mp e
    exact ⟨k, ek, p⟩
  · rintro ⟨k, ek, p⟩
    exact ⟨_, by unfold dEq; rw [ek]; rfl, p⟩
theorem w2_ne : W2 dNe x y μ V ↔ ∃ k, eqB x y μ = some k ∧ V (.bl !k) := by
  constructor
  · rintro ⟨z, e, p⟩
    obtain ⟨k, ek, rfl⟩ := Option.map_eq_some_iff.mp e
    exact ⟨k, ek, p⟩
  · rintro ⟨k, ek, p⟩
    exact ⟨_, by unfold dNe; rw [ek]; rfl, p⟩
theorem w2_ixL : W2 dIx (.lst xs) (.int i) μ V ↔ ∃ d, atI xs i = some d ∧ V d := Iff.rfl
theorem w2_ixR : W2 dIx (.rl xs) (.int i) μ V ↔ ∃ d, atI xs i = some d ∧ V d := Iff.rfl
theorem w2_ixT : W2 dIx (.tup xs) (.int i) μ V ↔ ∃ d, atI xs i = some d ∧ V d := Iff.rfl
theorem w2_ixS : W2 dIx (.str s) (.int i) μ V ↔ s.length ≤ sizeLine ∧ ∃ c, atI s.cps.toList i = some c ∧ V (.str ⟨#[c]⟩) := by
  constructor
  · rintro ⟨z, e, p⟩
    unfold dIx at e
    simp only at e
    split at e
    · rename_i h
      obtain ⟨c, ec, rfl⟩ := Option.map_eq_some_iff.mp e
      exact ⟨h, c, ec, p⟩
    · cases e
  · rintro ⟨h, c, ec, p⟩
    exact ⟨_, by unfold dIx; simp only; rw [if_pos h, ec]; rfl, p⟩
theorem w2_ixH : W2 dIx (.h k) (.int i) μ V ↔ ∃ xs, μ[k]? = some (.lst xs) ∧ ∃ d, atI xs i = some d ∧ V d := by
  constructor
  · rintro ⟨z, e, p⟩
    unfold dIx asSL asL at e
    simp only at e
    split at e
    · rename_i xs ex
      split at ex
      · rename_i ys ey
        cases ex
        exact ⟨_, ey, z, e, p⟩
      · cases ex
    · cases e
  · rintro ⟨xs, ex, d, ed, p⟩
    exact ⟨d, by unfold dIx asSL asL; simp only; rw [ex]; exact ed, p⟩
theorem w1_abs : W1 dAbs (.int i) μ V ↔ V (.int (if i < 0 then -i else i)) := ⟨fun ⟨z, e, p⟩ => by cases e; exact p, fun p => ⟨_, rfl, p⟩⟩
theorem w1_intI : W1 dInt1 (.int i) μ V ↔ V (.int i) := ⟨fun ⟨z, e, p⟩ => by cases e; exact p, fun p => ⟨_, rfl, p⟩⟩
theorem w1_intB : W1 dInt1 (.bl p) μ V ↔ V (.int (if p then 1 else 0)) := ⟨fun ⟨z, e, p⟩ => by cases e; exact p, fun p => ⟨_, rfl, p⟩⟩
theorem w2_max : W2 dMax2 (.int i) (.int j) μ V ↔ V (.int (if j > i then j else i)) := ⟨fun ⟨z, e, p⟩ => by cases e; exact p, fun p => ⟨_, rfl, p⟩⟩
theorem w2_min : W2 dMin2 (.int i) (.int j) μ V ↔ V (.int (if j < i then j else i)) := ⟨fun ⟨z, e, p⟩ => by cases e; exact p, fun p => ⟨_, rfl, p⟩⟩
theorem w1_str : W1 dStr1 (.int i) μ V ↔ i.natAbs.log2 < 1920 ∧ V (.str (toString i)) := by
  constructor
  · rintro ⟨z, e, p⟩
    unfold dStr1 at e
    simp only at e
    split at e
    · rename_i h; cases e; exact ⟨h, p⟩
    · cases e
  · rintro ⟨h, p⟩
    exact ⟨_, by unfold dStr1; simp only; rw [if_pos h], p⟩
theorem w1_lenS : W1 dLen (.str s) μ V ↔ s.length ≤ sizeLine ∧ V (.int s.length) := by
  constructor
  · rintro ⟨z, e, p⟩
    unfold dLen at e
    simp only at e
    split at e
    · rename_i h; cases e; exact ⟨h, p⟩
    · cases e
  · rintro ⟨h, p⟩
    exact ⟨_, by unfold dLen; simp only; rw [if_pos h], p⟩
theorem w1_lenL : W1 dLen (.lst xs) μ V ↔ V (.int xs.length) := ⟨fun ⟨z, e, p⟩ => by cases e; exact p, fun p => ⟨_, rfl, p⟩⟩
theorem w1_lenR : W1 dLen (.rl xs) μ V ↔ V (.int xs.length) := ⟨fun ⟨z, e, p⟩ => by cases e; exact p, fun p => ⟨_, rfl, p⟩⟩
theorem w1_lenT : W1 dLen (.tup xs) μ V ↔ V (.int xs.length) := ⟨fun ⟨z, e, p⟩ => by cases e; exact p, fun p => ⟨_, rfl, p⟩⟩
theorem w1_type : W1 dType x μ V ↔ ∃ T, tyOf x μ = some T ∧ V (.ty T) := by
  constructor
  · rintro ⟨z, e, p⟩
    obtain ⟨k, ek, rfl⟩ := Option.map_eq_some_iff.mp e
    exact ⟨k, ek, p⟩
  · rintro ⟨k, ek, p⟩
    exact ⟨_, by unfold dType; rw [ek]; rfl, p⟩
theorem w2_isi : W2 dIsi x (.ty T) μ V ↔ ∃ U, tyOf x μ = some U ∧ ∃ b, kitB U T = some b ∧ V (.bl b) := by
  constructor
  · rintro ⟨z, e, p⟩
    unfold dIsi at e
    simp only at e
    split at e
    · rename_i U eU
      obtain ⟨b, eb, rfl⟩ := Option.map_eq_some_iff.mp e
      exact ⟨U, eU, b, eb, p⟩
    · cases e
  · rintro ⟨U, eU, b, eb, p⟩
    exact ⟨_, by unfold dIsi; simp only; rw [eU]; simp only; rw [eb]; rfl, p⟩
theorem w1_repr0 : W1 dRepr0 (.bl p) μ V ↔ V (.str (reprB p)) := ⟨fun ⟨z, e, p⟩ => by cases e; exact p, fun p => ⟨_, rfl, p⟩⟩
theorem w1_not : W1 dNot x μ V ↔ WTr x μ fun k => V (.bl !k) := by
  constructor
  · rintro ⟨z, e, p⟩
    obtain ⟨k, ek, rfl⟩ := Option.map_eq_some_iff.mp e
    exact ⟨k, ek, p⟩
  · rintro ⟨k, ek, p⟩
    exact ⟨_, by unfold dNot; rw [ek]; rfl, p⟩
theorem w1_S0 {Pz : Str → Bool} {g : Str → D} : W1 (dS0 Pz g) (.str s) μ V ↔ Pz s = true ∧ V (g s) := by
  constructor
  · rintro ⟨z, e, p⟩
    obtain ⟨y, e1, e2, rfl⟩ := dS0_out e
    cases e1
    exact ⟨e2, p⟩
  · rintro ⟨h, p⟩
    exact ⟨_, by unfold dS0; simp only; rw [if_pos h], p⟩
theorem w2_join : W2 dJoin (.str s) (.lst xs) μ V ↔ ∃ zs, strsOf xs = some zs ∧ (zs.map (·.length)).sum + zs.length * s.length ≤ 16777216 ∧ V (.str (Txt.join s zs)) := by
  constructor
  · rintro ⟨z, e, p⟩
    obtain ⟨t, ys, zs, e1, h1, h2, h3, rfl⟩ := dJoin_out e
    cases e1
    cases h1
    exact ⟨zs, h2, h3, p⟩
  · rintro ⟨zs, h2, h3, p⟩
    exact ⟨_, by unfold dJoin asSq asSL asL; simp only; rw [h2]; simp only; rw [if_pos h3], p⟩
variable {Q : Bool → Prop}
theorem wtr_bl : WTr (.bl p) μ Q ↔ Q p := ⟨fun ⟨z, e, p⟩ => by cases e; exact p, fun p => ⟨_, rfl, p⟩⟩
end
end DL
namespace DL
open PySem L2
section
variable {X : Cx}
/-! ### all, any, sum, max, min of a list -/
def blsOf : List D → Option (List Bool)
  | [] => some []
  | .bl b :: ds => (blsOf ds).map (b :: ·)
  | _ :: _ => none
theorem blsOf_ok {K : PySem.W.Frag} {as : Ar} {H : Hp} : ∀ {vs : List V} {ds : List D} {bs : List Bool}, Reps K as H vs ds → blsOf ds = some bs → vs = bs.map V.bl
  | _, _, _, .nil, e => by cases e; rfl
  | v :: vs, d :: ds, bs, .cons h t, e => by
    unfold blsOf at e
    split at e
    · rename_i e0; cases e0
    · rename_i b ds' e0
      cases e0
      obtain ⟨cs, ec, rfl⟩ := Option.map_eq_some_iff.mp e
      cases h
      rw [blsOf_ok t ec]
      rfl
    · cases e
def intsOf : List D → Option (List Int)
  | [] => some []
  | .int b :: ds => (intsOf ds).map (b :: ·)
  | _ :: _ => none
theorem intsOf_ok {K : PySem.W.Frag} {as : Ar} {H : Hp} : ∀ {vs : List V} {ds : List D} {bs : List Int}, Reps K as H vs ds → intsOf ds = some bs → vs = bs.map V.int
  | _, _, _, .nil, e => by cases e; rfl
  | v :: vs, d :: ds, bs, .cons h t, e => by
    unfold intsOf at e
    split at e
    · rename_i e0; cases e0
    · rename_i b ds' e0
      cases e0
      obtain ⟨cs, ec, rfl⟩ := Option.map_eq_some_iff.mp e
      cases h
      rw [intsOf_ok t ec]
      rfl
    · cases e
def dAll : D → List Cell → Option D := fun x μ => match asSL x μ with
  | some xs => (blsOf xs).map fun bs => .bl (bs.all id)
  | none => none
def dAny : D → List Cell → Option D := fun x μ => match asSL x μ with
  | some xs => (blsOf xs).map fun bs => .bl (bs.any id)
  | none => none
def dSum : D → List Cell → Option D := fun x μ => match asSL x μ with
  | some xs => (intsOf xs).map fun ns => .int ns.sum
  | none => none
theorem call_allD (hc : X.calm = true) : CallR X (.builtin "all") (rCD X.K (g1 dAll)) := call1 fun pins s σ H x us Q as d μ z I r rd sto ez q => by
  unfold dAll at ez
  split at ez
  · rename_i xs ex
    obtain ⟨bs, eb, rfl⟩ := Option.map_eq_some_iff.mp ez
    obtain ⟨a, vs, rfl, hq, rs⟩ := asSL_ok rd sto ex
    rw [blsOf_ok rs eb] at hq
    exact cr_all hc pins s σ H _ us Q I r ⟨a, bs, rfl, hq, q _ H .refl (.bl _) sto⟩
  · cases ez
theorem call_anyD (hc : X.calm = true) : CallR X (.builtin "any") (rCD X.K (g1 dAny)) := call1 fun pins s σ H x us Q as d μ z I r rd sto ez q => by
  unfold dAny at ez
  split at ez
  · rename_i xs ex
    obtain ⟨bs, eb, rfl⟩ := Option.map_eq_some_iff.mp ez
    obtain ⟨a, vs, rfl, hq, rs⟩ := asSL_ok rd sto ex
    rw [blsOf_ok rs eb] at hq
    exact cr_any hc pins s σ H _ us Q I r ⟨a, bs, rfl, hq, q _ H .refl (.bl _) sto⟩
  · cases ez
theorem call_sumD (hc : X.calm = true) : CallR X (.builtin "sum") (rCD X.K (g1 dSum)) := call1 fun pins s σ H x us Q as d μ z I r rd sto ez q => by
  unfold dSum at ez
  split at ez
  · rename_i xs ex
    obtain ⟨bs, eb, rfl⟩ := Option.map_eq_some_iff.mp ez
    obtain ⟨a, vs, rfl, hq, rs⟩ := asSL_ok rd sto ex
    rw [intsOf_ok rs eb] at hq
    exact cr_sum hc pins s σ H _ us Q I r ⟨a, bs, rfl, hq, q _ H .refl (.int _) sto⟩
  · cases ez
/-- the greatest, the least of some ints -/
def maxI : List Int → Int
  | [] => 0
  | [a] => a
  | a :: r => if maxI r > a then maxI r else a
def minI : List Int → Int
  | [] => 0
  | [a] => a
  | a :: r => if minI r < a then minI r else a
theorem maxI_is : ∀ {ns : List Int} {m : Int}, m ∈ ns → (∀ y, y ∈ ns → y ≤ m) → m = maxI ns := by
  have ub : ∀ (ns : List Int), ∀ y ∈ ns, y ≤ maxI ns := by
    intro ns
    induction ns with
    | nil => intro y hy; cases hy
    | cons a r ih =>
      intro y hy
      cases r with
      | nil => simp only [List.mem_cons, List.not_mem_nil, or_false] at hy; subst hy; exact Int.le_refl _
      | cons b r =>
        unfold maxI
        rcases List.mem_cons.mp hy with rfl | h
        · split <;> omega
        · have := ih y h
          split <;> omega
  have mem : ∀ (ns : List Int), ns ≠ [] → maxI ns ∈ ns := by
    intro ns
    induction ns with
    | nil => intro h; exact absurd rfl h
    | cons a r ih =>
      intro _
      cases r with
      | nil => exact List.mem_cons_self
      | cons b r =>
        unfold maxI
        split
        · exact List.mem_cons_of_mem _ (ih (by simp))
        · exact List.mem_cons_self
  intro ns m hm h
  have h1 := ub ns m hm
  have h2 := h _ (mem ns (by intro e; subst e; cases hm))
  omega
def dMaxL : D → List Cell → Option D := fun x μ => match asSL x μ with
  | some xs => match intsOf xs with
    | some (n :: ns) => some (.int (maxI (n :: ns)))
    | _ => none
  | none => none
theorem call_maxLD (hc : X.calm = true) : CallR X (.builtin "max") (rCD X.K (g1 dMaxL)) := call1 fun pins s σ H x us Q as d μ z I r rd sto ez q => by
  unfold dMaxL at ez
  split at ez
  · rename_i xs ex
    split at ez
    · rename_i n ns eb
      cases Option.some.inj ez
      obtain ⟨a, vs, rfl, hq, rs⟩ := asSL_ok rd sto ex
      rw [intsOf_ok rs eb] at hq
      exact cr_max hc pins s σ H _ us Q I r ⟨a, _, rfl, hq, by simp, fun m hm h => by rw [maxI_is hm h]; exact q _ H .refl (.int _) sto⟩
    · cases ez
  · cases ez
/-- a name of the module that holds a text -/
theorem de_gstr {i x : Str} {pos : Pos} (hg : Gl X x) (hm : ∃ t, X.mg x = some (.str i t)) (hdb : (x == ("__debug__" : Str)) = false := by decide) : PE X (.Name x pos) (tF X.K (fC (.str i))) :=
  let ⟨t, hm⟩ := hm
  (pe_glob (v := .str i) hg hm ⟨t, rfl⟩ (hd := hdb)).imp (tF_c fun _ _ => .str i)
/-! ### list(..), tuple(..) -/
/-- the items of a list or tuple -/
def asQ : D → List Cell → Option (List D)
  | .tup xs, _ => some xs
  | x, μ => asSL x μ
theorem asQ_ok {K : PySem.W.Frag} {as : Ar} {H : Hp} {v : V} {d : D} {μ : List Cell} {xs : List D} (r : Rep K as H v d) (s : StoR K as H μ) (e : asQ d μ = some xs) : ∃ a vs, v = .ref a ∧ (SqL K H a vs ∨ SqT K H a vs) ∧ Reps K as H vs xs := by
  unfold asQ at e
  split at e
  · cases r with
    | @tup a vs ds t rs =>
      cases Option.some.inj e
      exact ⟨a, vs, rfl, .inr t.sq, rs⟩
  · obtain ⟨a, vs, h1, h2, h3⟩ := asSL_ok r s e
    exact ⟨a, vs, h1, .inl h2, h3⟩
def dList : D → List Cell → Option D := fun x μ => (asQ x μ).map .lst
theorem call_listD : CallR X (.type "list") (rCD X.K (g1 dList)) := call1 fun pins s σ H x us Q as d μ z I r rd sto ez q => by
  obtain ⟨xs, ex, rfl⟩ := Option.map_eq_some_iff.mp ez
  obtain ⟨a, vs, rfl, hq, rs⟩ := asQ_ok rd sto ex
  exact call_list_of pins s σ H _ us Q I r ⟨a, vs, rfl, hq, fun p hp => q _ _ (Ext.new hp (sto.out hp)) (.newL sto hp rs) (sto.new hp)⟩
def dTuple : D → List Cell → Option D
  | .tup xs, _ => some (.tup xs)
  | x, μ => (asSL x μ).map .tup
theorem de_tuple {a : Expr} {fa : EvE} {p pos : Pos} (hg : Gl X "tuple") (hm : X.mg "tuple" = none) (ha : PE X a (tF X.K fa)) (na : starEach [a] X.env = (false, eval a X.env) :: starEach [] X.env := by rfl) :
    PE X (.Call (.Name "tuple" p) [a] [] pos) (tF X.K (fU dTuple fa)) := (pe_tupleOf hg hm ha na).imp fun σ H Q ⟨as, S, d, μ', E, e, q⟩ => by
  obtain ⟨x, ex, ez⟩ := fU_out e
  refine ⟨as, S, x, μ', E, ex, fun v as1 H1 X1 r1 s1 => ?_⟩
  unfold dTuple at ez
  split at ez
  · cases Option.some.inj ez
    cases r1 with
    | @tup b vs ds t rs => exact .inr ⟨b, vs, rfl, t.sq, q _ as1 H1 X1 (.tup t rs) s1⟩
  · obtain ⟨xs, ex', rfl⟩ := Option.map_eq_some_iff.mp ez
    obtain ⟨b, vs, rfl, hq, rs⟩ := asSL_ok r1 s1 ex'
    exact .inl ⟨b, vs, rfl, hq, fun p hp => q _ as1 _ (X1.trans (Ext.new hp (s1.out hp)) E.sto.trk) (.newT s1 hp rs) (s1.new hp)⟩
/-- .. as a list that changes -/
def fListC (fa : EvE) : EvE := fun S => match fa S with
  | some (x, μ1) => match asQ x μ1 with
    | some xs => some (.h μ1.length, μ1 ++ [.lst xs])
    | none => none
  | none => none
def rListC (K : PySem.W.Frag) : List V → Hp → VK → Prop := fun vs H Q => ∃ as x xs μ, Reps K as H vs [x] ∧ StoR K as H μ ∧ asQ x μ = some xs ∧ ∀ v as' H', Ext as H as' H' → Rep K as' H' v (.h μ.length) → StoR K as' H' (μ ++ [.lst xs]) → Q v H'
theorem call_listC : CallR X (.type "list") (rListC X.K) := by
  intro pins s σ H vs us Q I r ⟨as, x, xs, μ, rs, sto, ex, q⟩
  cases rs with
  | cons r1 rt =>
  cases rt
  obtain ⟨a, ws, rfl, hq, rs⟩ := asQ_ok r1 sto ex
  refine call_list_of pins s σ H _ us Q I r ⟨a, ws, rfl, hq, fun p hp => ?_⟩
  obtain ⟨X2, s2⟩ := sto.grow hp rs
  refine q _ _ _ X2 (.h ?_) s2
  rw [List.getElem?_append_right (by rw [sto.len]; exact Nat.le_refl _), sto.len]
  simp
theorem de_listC {a : Expr} {fa : EvE} {p pos : Pos} (hg : Gl X "list") (hm : X.mg "list" = none) (ha : PE X a (tF X.K fa)) (he : starEach [a] X.env = (false, eval a X.env) :: starEach [] X.env := by rfl) (hpl : (backTo pos (starEach [] X.env)).any (·.1) = false := by rfl) :
    PE X (.Call (.Name "list" p) [a] [] pos) (tF X.K (fListC fa)) := (pe_callTy call_listC hg hm (by decide +kernel) (da_cons ha da_nil he) (by decide) (by decide) he hpl).imp fun σ H Q ⟨as, S, d, μ', E, e, q⟩ => by
  unfold fListC at e
  split at e
  · rename_i x μ1 ea
    split at e
    · rename_i xs ex
      obtain ⟨rfl, rfl⟩ := pr_inj e
      exact ⟨as, S, [x], μ1, E, by unfold fCons fNil; rw [ea], fun vs as1 H1 X1 r1 s1 => ⟨as1, x, xs, μ1, r1, s1, ex, fun v as2 H2 X2 r2 s2 => q v as2 H2 (X1.trans X2 E.sto.trk) r2 s2⟩⟩
    · cases e
  · cases e
end
end DL
namespace DL
open PySem L2
section
variable {X : Cx} {a b c o e : Expr} {es : List Expr} {pos p : Pos} {fa fb : EvE} {fs : EvA}
/-! ### slices -/
abbrev EvO := Sg → Option (Option Int × List Cell)
def tFO (K : PySem.W.Frag) (f : EvO) : TO := fun σ H Q => ∃ as S d μ', ER K as σ H S ∧ f S = some (d, μ') ∧ ∀ as' H', Ext as H as' H' → StoR K as' H' μ' → Q d H'
theorem _root_.L2.PO.imp {e : Option Expr} {t t' : TO} (h : PO X e t) (q : ∀ σ H Q, t' σ H Q → t σ H Q) : PO X e t' := ⟨fun pins s σ H Q I z => h.run pins s σ H Q I (q σ H Q z)⟩
def fNo : EvO := fun S => some (none, S.μ)
def fPart (f : EvE) : EvO := fun S => match f S with
  | some (.int i, μ') => some (some i, μ')
  | _ => none
theorem do_none : PO X none (tFO X.K fNo) := po_none.imp fun σ H Q ⟨as, S, d, μ', E, ed, q⟩ => by
  obtain ⟨rfl, rfl⟩ := pr_inj ed
  exact q as H .refl E.sto
theorem do_some (h : PE X a (tF X.K fa)) : PO X (some a) (tFO X.K (fPart fa)) := (po_some h).imp fun σ H Q ⟨as, S, d, μ', E, ed, q⟩ => by
  unfold fPart at ed
  split at ed
  · rename_i i μ1 ea
    obtain ⟨rfl, rfl⟩ := pr_inj ed
    exact ⟨as, S, _, μ1, E, ea, fun v as1 H1 X1 r1 s1 => by cases r1; exact ⟨i, rfl, q as1 H1 X1 s1⟩⟩
  · cases ed
def cutD {α : Type} (xs : List α) (lo hi : Option Int) : List α := (xs.drop (HT.sIx xs.length 0 lo)).take (HT.sIx xs.length xs.length hi - HT.sIx xs.length 0 lo)
theorem Reps.cut {K : PySem.W.Frag} {as : Ar} {H : Hp} {vs : List V} {ds : List D} (r : Reps K as H vs ds) (lo hi : Option Int) : Reps K as H (cutV vs lo hi) (cutD ds lo hi) := by
  unfold cutV cutD
  rw [r.length]
  exact (r.drop _).take _
theorem cut_whole {α : Type} {xs : List α} {lo hi : Option Int} (h : HT.sIx xs.length 0 lo = 0 ∧ HT.sIx xs.length xs.length hi = xs.length) : cutD xs lo hi = xs := by
  unfold cutD
  rw [h.1, h.2, List.drop_zero, Nat.sub_zero, List.take_length]
def dSl (x : D) (lo hi : Option Int) (μ : List Cell) : Option D := match x with
  | .tup xs => some (.tup (cutD xs lo hi))
  | .str z => if z.length ≤ sizeLine then some (.str (Txt.slice z lo hi)) else none
  | x => (asSL x μ).map fun xs => .lst (cutD xs lo hi)
def fSl (fa : EvE) (fl fh : EvO) : EvE := fun S => match fa S with
  | some (x, μ1) => match fl { S with μ := μ1 } with
    | some (lo, μ2) => match fh { S with μ := μ2 } with
      | some (hi, μ3) => (dSl x lo hi μ3).map fun z => (z, μ3)
      | none => none
    | none => none
  | none => none
def rSlD (K : PySem.W.Frag) : V → Option Int → Option Int → Hp → VK → Prop := fun x lo hi H Q => ∃ as d μ z, Rep K as H x d ∧ StoR K as H μ ∧ dSl d lo hi μ = some z ∧ ∀ v H', Ext as H as H' → Rep K as H' v z → StoR K as H' μ → Q v H'
theorem sl_D : SlR X (rSlD X.K) := by
  intro pins s σ H x v vl vu lo hi sl Q I rx hs pl pu ⟨as, d, μ, z, rd, sto, ez, q⟩
  unfold dSl at ez
  split at ez
  · cases Option.some.inj ez
    cases rd with
    | @tup a vs ds t rs =>
      refine sl_tupA pins s σ H _ v vl vu lo hi sl Q I rx hs pl pu ⟨a, vs, rfl, t.sq, fun w => ?_, fun _ p hp => q _ _ (Ext.new hp (sto.out hp)) (.newT sto hp (rs.cut lo hi)) (sto.new hp)⟩
      rw [rs.length] at w
      rw [cut_whole w] at q
      exact q _ H .refl (.tup t rs) sto
  · split at ez
    · rename_i hz
      cases Option.some.inj ez
      cases rd
      exact C8.sl_txt pins s σ H _ v vl vu lo hi sl Q I rx hs pl pu ⟨_, rfl, hz, q _ H .refl (.str _) sto⟩
    · cases ez
  · obtain ⟨xs, ex, rfl⟩ := Option.map_eq_some_iff.mp ez
    obtain ⟨a, vs, rfl, hq, rs⟩ := asSL_ok rd sto ex
    exact sl_list pins s σ H _ v vl vu lo hi sl Q I rx hs pl pu ⟨a, vs, rfl, hq, fun p hp => q _ _ (Ext.new hp (sto.out hp)) (.newL sto hp (rs.cut lo hi)) (sto.new hp)⟩
theorem de_slice {lo hi : Option Expr} {fl fh : EvO} {p2 : Pos} (he : PE X a (tF X.K fa)) (hl : PO X lo (tFO X.K fl)) (hu : PO X hi (tFO X.K fh)) : PE X (.Subscript a (.Slice lo hi none p2) pos) (tF X.K (fSl fa fl fh)) :=
  (pe_slice sl_D he hl hu).imp fun σ H Q ⟨as, S, d, μ', E, ed, q⟩ => by
    unfold fSl at ed
    split at ed
    · rename_i x μ1 ea
      split at ed
      · rename_i l μ2 el
        split at ed
        · rename_i h μ3 eh
          obtain ⟨z, ez, eq⟩ := Option.map_eq_some_iff.mp ed
          obtain ⟨rfl, rfl⟩ := Prod.mk.inj eq
          refine ⟨as, S, x, μ1, E, ea, fun v as1 H1 X1 r1 s1 => ⟨as1, _, l, μ2, E.mvE X1 s1, el, fun as2 H2 X2 s2 => ⟨as2, _, h, μ3, (E.mvE X1 s1).mvE X2 s2, eh, fun as3 H3 X3 s3 => ?_⟩⟩⟩
          have X23 := X2.trans X3 s1.trk
          exact ⟨as3, x, μ3, _, r1.mv X23, s3, ez, fun w H4 X4 r4 s4 => q w as3 H4 (X1.trans (X23.trans X4 s1.trk) E.sto.trk) r4 s4⟩
        · cases ed
      · cases ed
    · cases ed
/-! ### methods of cells -/
def cApp (o d : D) (μ : List Cell) : Option (List Cell) := match o with
  | .h k => match μ[k]? with
    | some (.lst xs) => if xs.length < sizeLine then some (μ.set k (.lst (xs ++ [d]))) else none
    | none => none
  | _ => none
def fApn (fo fd : EvE) : EvE := fun S => match fo S with
  | some (o, μ1) => match fd { S with μ := μ1 } with
    | some (d, μ2) => (cApp o d μ2).map fun μ3 => (.non, μ3)
    | none => none
  | none => none
theorem cApp_out {o d : D} {μ μ' : List Cell} (e : cApp o d μ = some μ') : ∃ k xs, o = .h k ∧ μ[k]? = some (.lst xs) ∧ xs.length < sizeLine ∧ μ' = μ.set k (.lst (xs ++ [d])) := by
  unfold cApp at e
  split at e
  · split at e
    · rename_i xs ex
      split at e
      · rename_i h
        exact ⟨_, xs, rfl, ex, h, (Option.some.inj e).symm⟩
      · cases e
    · cases e
  · cases e
theorem h_list {K : PySem.W.Frag} {as : Ar} {H : Hp} {μ : List Cell} {k : Nat} {v : V} {xs : List D} (r : Rep K as H v (.h k)) (s : StoR K as H μ) (e : μ[k]? = some (.lst xs)) : ∃ p vs, v = .ref p ∧ as.c[k]? = some p ∧ H p = some (.lst vs) ∧ Reps K as H vs xs := by
  cases r with
  | @h _ p ep =>
    obtain ⟨vs, hv, rs⟩ := s.at_ k p _ ep e
    exact ⟨p, vs, rfl, ep, hv, rs⟩
theorem cell_ty {K : PySem.W.Frag} {as : Ar} {H : Hp} {μ : List Cell} {k : Nat} {v : V} (r : Rep K as H v (.h k)) (s : StoR K as H μ) : tyV K "list" v H := by
  cases r with
  | @h _ p ep =>
    have hk : k < μ.length := by rw [← s.len]; exact (List.getElem?_eq_some_iff.mp ep).1
    have q := s.at_ k p _ ep (List.getElem?_eq_getElem hk)
    cases c : μ[k] with
    | lst ds =>
      rw [c] at q
      obtain ⟨vs, z, _⟩ := q
      exact .inl ⟨rfl, vs, SqL.of z⟩
theorem de_append {apos cpos : Pos} (ho : PE X o (tF X.K fa)) (he : PE X e (tF X.K fb)) (hbase : attributeBase o "append" X.env (eval o X.env) = eval o X.env := by rfl)
    (hfew : ((backTo cpos (starEach [e] X.env)).all (fun x => !x.1) && (backToKw cpos (keywordEach [] X.env)).all (fun x => x.1.isSome)
      && decide ([e].length + ([] : List Keyword).length + (if ([] : List Keyword).isEmpty then 0 else 1) < 30)) = true := by rfl)
    (hline : (apos.endLine == cpos.line) = true := by rfl) (hs : starEach [e] X.env = (false, eval e X.env) :: starEach [] X.env := by rfl) (hplain : (backTo cpos (starEach [] X.env)).any (·.1) = false := by rfl)
    (hs1 : starEach [e] X.env = [(false, eval e X.env)] := by rfl) :
    PE X (.Call (.Attribute o "append" apos) [e] [] cpos) (tF X.K (fApn fa fb)) :=
  (pe_bm PySem.F.plainAttrs_list PySem.F.slot_list_append PySem.F.type_list_append mt_append ho (da_cons he da_nil hs) hbase hfew hline hs hplain).imp fun σ H Q ⟨as, S, d, μ', E, ed, q⟩ => by
    unfold fApn at ed
    split at ed
    · rename_i x μ1 ea
      split at ed
      · rename_i y μ2 eb
        obtain ⟨μ3, ec, eq⟩ := Option.map_eq_some_iff.mp ed
        obtain ⟨rfl, rfl⟩ := Prod.mk.inj eq
        obtain ⟨k, xs, rfl, ex, hz, rfl⟩ := cApp_out ec
        refine ⟨as, S, _, μ1, E, ea, fun v as1 H1 X1 r1 s1 => ⟨?_, as1, _, [y], μ2, E.mvE X1 s1, ?_, fun vs as2 H2 X2 r2 s2 => ?_⟩⟩
        · exact cell_ty r1 s1
        · unfold fCons fNil; rw [eb]
        · cases r2 with
          | cons r2 rt =>
          cases rt
          obtain ⟨p, ws, rfl, ep, hv, rs⟩ := h_list (r1.mv X2) s2 ex
          have X12 := X1.trans X2 E.sto.trk
          obtain ⟨X3, s3⟩ := s2.upd ep (rs.snoc r2)
          exact ⟨p, ws, _, rfl, rfl, hv, by rw [rs.length]; exact hz, q .non as2 _ (X12.trans X3 E.sto.trk) .non s3⟩
      · cases ed
    · cases ed
end
end DL
namespace DL
open PySem L2
section
variable {X : Cx} {a b c o e : Expr} {es : List Expr} {pos p : Pos} {fa fb : EvE} {fs : EvA}
/-! ### pop -/
theorem type_pop : typeOf (.builtin "list.pop") = pure (.type "method_descriptor") := by show builtinType _ = _; rw [builtinType_eq_fast]; kernel_rfl
def cPop (o i : D) (μ : List Cell) : Option (D × List Cell) := match o, i with
  | .h k, .int j => match μ[k]? with
    | some (.lst xs) => if -(2 ^ 63) ≤ j ∧ j < 2 ^ 63 then match seqIndex? j xs.length with
      | some n => match xs[n]? with
        | some d => some (d, μ.set k (.lst (xs.eraseIdx n)))
        | none => none
      | none => none
      else none
    | none => none
  | _, _ => none
theorem cPop_out {o i d : D} {μ μ' : List Cell} (e : cPop o i μ = some (d, μ')) : ∃ k j xs n, o = .h k ∧ i = .int j ∧ μ[k]? = some (.lst xs) ∧ -(2 ^ 63) ≤ j ∧ j < 2 ^ 63 ∧ seqIndex? j xs.length = some n ∧ xs[n]? = some d ∧ μ' = μ.set k (.lst (xs.eraseIdx n)) := by
  unfold cPop at e
  split at e
  · split at e
    · rename_i xs ex
      split at e
      · rename_i hj
        split at e
        · rename_i n en
          split at e
          · rename_i d1 ed
            obtain ⟨rfl, rfl⟩ := pr_inj e
            exact ⟨_, _, xs, n, rfl, rfl, ex, hj.1, hj.2, en, ed, rfl⟩
          · cases e
        · cases e
      · cases e
    · cases e
  · cases e
theorem Reps.erase {K : PySem.W.Frag} {as : Ar} {H : Hp} : ∀ {vs : List V} {ds : List D} (n : Nat), Reps K as H vs ds → Reps K as H (vs.eraseIdx n) (ds.eraseIdx n)
  | _, _, _, .nil => .nil
  | _, _, 0, .cons _ t => t
  | _, _, n + 1, .cons h t => .cons h (Reps.erase n t)
def fPop (fo fi : EvE) : EvE := fun S => match fo S with
  | some (o, μ1) => match fi { S with μ := μ1 } with
    | some (i, μ2) => cPop o i μ2
    | none => none
  | none => none
theorem de_pop {apos cpos : Pos} (ho : PE X o (tF X.K fa)) (he : PE X e (tF X.K fb)) (hbase : attributeBase o "pop" X.env (eval o X.env) = eval o X.env := by rfl)
    (hfew : ((backTo cpos (starEach [e] X.env)).all (fun x => !x.1) && (backToKw cpos (keywordEach [] X.env)).all (fun x => x.1.isSome)
      && decide ([e].length + ([] : List Keyword).length + (if ([] : List Keyword).isEmpty then 0 else 1) < 30)) = true := by rfl)
    (hline : (apos.endLine == cpos.line) = true := by rfl) (hs : starEach [e] X.env = (false, eval e X.env) :: starEach [] X.env := by rfl) (hplain : (backTo cpos (starEach [] X.env)).any (·.1) = false := by rfl) :
    PE X (.Call (.Attribute o "pop" apos) [e] [] cpos) (tF X.K (fPop fa fb)) :=
  (pe_bm PySem.F.plainAttrs_list PySem.F.slot_list_pop type_pop mt_popAt ho (da_cons he da_nil hs) hbase hfew hline hs hplain).imp fun σ H Q ⟨as, S, d, μ', E, ed, q⟩ => by
    unfold fPop at ed
    split at ed
    · rename_i x μ1 ea
      split at ed
      · rename_i y μ2 eb
        obtain ⟨k, j, xs, n, rfl, rfl, ex, h1, h2, hn, hd, rfl⟩ := cPop_out ed
        refine ⟨as, S, _, μ1, E, ea, fun v as1 H1 X1 r1 s1 => ⟨cell_ty r1 s1, as1, _, [.int j], μ2, E.mvE X1 s1, ?_, fun vs as2 H2 X2 r2 s2 => ?_⟩⟩
        · unfold fCons fNil; rw [eb]
        · cases r2 with
          | cons r2 rt =>
          cases rt
          cases r2
          obtain ⟨p, ws, rfl, ep, hv, rs⟩ := h_list (r1.mv X2) s2 ex
          have X12 := X1.trans X2 E.sto.trk
          obtain ⟨w, hw, rw'⟩ := rs.get hd
          obtain ⟨X3, s3⟩ := s2.upd ep (rs.erase n)
          exact ⟨p, ws, j, n, w, rfl, rfl, hv, h1, h2, by rw [rs.length]; exact hn, hw, q w as2 _ (X12.trans X3 E.sto.trk) (rw'.mv X3) s3⟩
      · cases ed
    · cases ed
/-! ### starred arguments, displays -/
def fStar (fa : EvE) (fs : EvA) : EvA := fun S => match fa S with
  | some (x, μ1) => match asQ x μ1 with
    | some xs => match fs { S with μ := μ1 } with
      | some (ys, μ2) => some (xs ++ ys, μ2)
      | none => none
    | none => none
  | none => none
theorem da_star (ha : PE X a (tF X.K fa)) (hr : PA X es (tFA X.K fs)) (hs : starEach (.Starred a p :: es) X.env = (true, eval a X.env) :: starEach es X.env := by rfl) : PA X (.Starred a p :: es) (tFA X.K (fStar fa fs)) :=
  (StX.pa_star ha hr hs).imp fun σ H Q ⟨as, S, d, μ', E, ed, q⟩ => by
    unfold fStar at ed
    split at ed
    · rename_i x μ1 ea
      split at ed
      · rename_i xs ex
        split at ed
        · rename_i ys μ2 es'
          obtain ⟨rfl, rfl⟩ := pr_inj ed
          refine ⟨as, S, x, μ1, E, ea, fun v as1 H1 X1 r1 s1 => ?_⟩
          obtain ⟨b, vs, rfl, hq, rs⟩ := asQ_ok r1 s1 ex
          exact ⟨b, vs, rfl, hq.symm, as1, _, ys, μ2, E.mvE X1 s1, es', fun ws as2 H2 X2 r2 s2 => q _ as2 H2 (X1.trans X2 E.sto.trk) ((rs.mv X2).append r2) s2⟩
        · cases ed
      · cases ed
    · cases ed
/-! ### zip, enumerate -/
def zipD (xs ys : List D) : List D := List.zipWith (fun x y => D.tup [x, y]) xs ys
def gZip (fs : EvA) : EvI := fun S => match fs S with
  | some ([.tup xs, .tup ys], μ1) => some (zipD xs ys, μ1)
  | some ([.lst xs, .lst ys], μ1) => some (zipD xs ys, μ1)
  | _ => none
theorem zipD_get {xs ys : List D} {i : Nat} {x y : D} (hx : xs[i]? = some x) (hy : ys[i]? = some y) : (zipD xs ys)[i]? = some (.tup [x, y]) := by
  unfold zipD
  rw [List.getElem?_zipWith, hx, hy]
theorem zipD_len {xs ys : List D} : (zipD xs ys).length = min xs.length ys.length := by simp [zipD]
theorem di_zip {e2 : Expr} {tpos : Pos} {elts : List Expr} {kk : Nat} (hg : Gl X "zip") (hm : X.mg "zip" = none) (ha : PA X [e, e2] (tFA X.K fs))
    (hs : starEach [e, e2] X.env = (false, eval e X.env) :: starEach [e2] X.env := by rfl) (hpl : (backTo pos (starEach [e2] X.env)).any (·.1) = false := by rfl) :
    PI X (.Tuple elts kk tpos) (.Call (.Name "zip" p) [e, e2] [] pos) (tI X.K (gZip fs)) := PI.imp (RZ.pi_zipA hg hm ha hs hpl) fun σ H R ⟨as, S, ds, μ', E, ed, q⟩ => by
  have newT : ∀ {as' : Ar} {H' H'' : Hp} {μ : List Cell} {T : Addr} {x y : V} {dx dy : D}, StoR X.K as' H' μ → H' T = none → H'' = upd H' T (.tup [x, y]) → Rep X.K as' H' x dx → Rep X.K as' H' y dy → Ext as' H' as' H'' ∧ Rep X.K as' H'' (.ref T) (.tup [dx, dy]) ∧ StoR X.K as' H'' μ := fun {as' H' H'' μ T x y dx dy} s' hT e' rx ry => by
    subst e'
    exact ⟨Ext.new hT (s'.out hT), .newT s' hT (.cons rx (.cons ry .nil)), s'.new hT⟩
  unfold gZip at ed
  split at ed
  · rename_i xs ys μ1 ef
    obtain ⟨rfl, rfl⟩ := pr_inj ed
    refine ⟨as, S, _, μ1, E, ef, fun vs as1 H1 X1 r1 s1 => ?_⟩
    cases r1 with
    | cons ra rt =>
    cases rt with
    | cons rb rt =>
    cases rt
    cases ra with
    | @tup u us _ t1 q1 =>
    cases rb with
    | @tup v ws _ t2 q2 =>
    refine ⟨u, v, us, ws, rfl, .inr ⟨t1.sq, t2.sq, q _ as1 H1 X1 s1 ⟨fun i as' H' X' hi => ?_, fun as' H' X' => ⟨us, ws, (t1.mv X').sq, (t2.mv X').sq, ?_⟩, fun i as' H' μ x H'' X' s' hi y => ?_⟩⟩⟩
    · rw [zipD_len] at hi
      have h1 : i < us.length := by rw [q1.length]; omega
      have h2 : i < ws.length := by rw [q2.length]; omega
      exact ⟨us, ws, us[i], ws[i], (t1.mv X').sq, (t2.mv X').sq, List.getElem?_eq_getElem h1, List.getElem?_eq_getElem h2⟩
    · rw [zipD_len, q1.length, q2.length]; omega
    · obtain ⟨T, x', y', rfl, hT, hH, hx, hy⟩ := y
      obtain ⟨dx, ex, rx⟩ := (q1.mv X').getV (hx us (t1.mv X').sq)
      obtain ⟨dy, ey, ry⟩ := (q2.mv X').getV (hy ws (t2.mv X').sq)
      obtain ⟨z1, z2, z3⟩ := newT s' hT hH rx ry
      exact ⟨_, zipD_get ex ey, z1, z2, z3⟩
  · rename_i xs ys μ1 ef
    obtain ⟨rfl, rfl⟩ := pr_inj ed
    refine ⟨as, S, _, μ1, E, ef, fun vs as1 H1 X1 r1 s1 => ?_⟩
    cases r1 with
    | cons ra rt =>
    cases rt with
    | cons rb rt =>
    cases rt
    cases ra with
    | @lst u us _ t1 n1 q1 =>
    cases rb with
    | @lst v ws _ t2 n2 q2 =>
    have S1 : ∀ {as' : Ar} {H' : Hp}, Ext as1 H1 as' H' → SqL X.K H' u us := fun X' => SqL.of (at_mv t1 n1 X').1
    have S2 : ∀ {as' : Ar} {H' : Hp}, Ext as1 H1 as' H' → SqL X.K H' v ws := fun X' => SqL.of (at_mv t2 n2 X').1
    refine ⟨u, v, us, ws, rfl, .inl ⟨S1 .refl, S2 .refl, q _ as1 H1 X1 s1 ⟨fun i as' H' X' hi => ?_, fun as' H' X' => ⟨us, ws, S1 X', S2 X', ?_⟩, fun i as' H' μ x H'' X' s' hi y => ?_⟩⟩⟩
    · rw [zipD_len] at hi
      have h1 : i < us.length := by rw [q1.length]; omega
      have h2 : i < ws.length := by rw [q2.length]; omega
      exact ⟨us, ws, us[i], ws[i], S1 X', S2 X', List.getElem?_eq_getElem h1, List.getElem?_eq_getElem h2⟩
    · rw [zipD_len, q1.length, q2.length]; omega
    · obtain ⟨T, x', y', rfl, hT, hH, hx, hy⟩ := y
      obtain ⟨dx, ex, rx⟩ := (q1.mv X').getV (hx us (S1 X'))
      obtain ⟨dy, ey, ry⟩ := (q2.mv X').getV (hy ws (S2 X'))
      obtain ⟨z1, z2, z3⟩ := newT s' hT hH rx ry
      exact ⟨_, zipD_get ex ey, z1, z2, z3⟩
  · cases ed
/-! ### texts with parts -/
def dFmt : D → List Cell → Option D
  | .str y, _ => if y.length ≤ sizeLine then some (.str y) else none
  | .int i, _ => if i.natAbs.log2 < 1920 then some (.str (toString i)) else none
  | _, _ => none
theorem de_fmt (he : PE X a (tF X.K fa)) : PE X (.FormattedValue a (-1) none pos) (tF X.K (fU dFmt fa)) := (pe_fmt he).imp fun σ H Q ⟨as, S, d, μ', E, ed, q⟩ => by
  obtain ⟨x, ex, ez⟩ := fU_out ed
  refine ⟨as, S, x, μ', E, ex, fun v as1 H1 X1 r1 s1 => ?_⟩
  unfold dFmt at ez
  split at ez
  · split at ez
    · rename_i hz
      cases Option.some.inj ez
      cases r1
      exact .inl ⟨_, rfl, hz, q _ as1 H1 X1 (.str _) s1⟩
    · cases ez
  · split at ez
    · rename_i hz
      cases Option.some.inj ez
      cases r1
      exact .inr ⟨_, rfl, hz, q _ as1 H1 X1 (.str _) s1⟩
    · cases ez
  · cases ez
inductive DJs (X : Cx) : List Expr → List EvE → Prop where
  | nil : DJs X [] []
  | cons {e : Expr} {f : EvE} {es : List Expr} {fs : List EvE} (h : PE X e (tF X.K f)) (r : DJs X es fs) : DJs X (e :: es) (f :: fs)
theorem DJs.pj : ∀ {es : List Expr} {fs : List EvE}, DJs X es fs → PJ X es (fs.map (tF X.K))
  | _, _, .nil => .nil
  | _, _, .cons h r => .cons h r.pj
def joinL : List EvE → Str → Sg → Option (Str × List Cell)
  | [], acc, S => some (acc, S.μ)
  | f :: fs, acc, S => match f S with
    | some (.str y, μ1) => if (acc ++ y).length ≤ sizeLine then joinL fs (acc ++ y) { S with μ := μ1 } else none
    | _ => none
def fJs (fs : List EvE) : EvE := fun S => match joinL fs Str.empty S with
  | some (z, μ') => some (.str z, μ')
  | none => none
theorem joinL_ok {K : PySem.W.Frag} {σ : St} {Q : Str → Hp → Prop} {z : Str} {μ' : List Cell} : ∀ {fs : List EvE} {acc : Str} {as : Ar} {H : Hp} {S : Sg}, ER K as σ H S → joinL fs acc S = some (z, μ') → (∀ as' H', Ext as H as' H' → StoR K as' H' μ' → Q z H') → tJs (fs.map (tF K)) acc σ H Q
  | [], acc, as, H, S, E, e, q => by
    obtain ⟨rfl, rfl⟩ := pr_inj e
    exact q as H .refl E.sto
  | f :: fs, acc, as, H, S, E, e, q => by
    unfold joinL at e
    split at e
    · rename_i y μ1 ef
      split at e
      · rename_i hz
        refine ⟨as, S, _, μ1, E, ef, fun v as1 H1 X1 r1 s1 => ?_⟩
        cases r1
        exact ⟨y, rfl, hz, joinL_ok (E.mvE X1 s1) e fun as2 H2 X2 s2 => q as2 H2 (X1.trans X2 E.sto.trk) s2⟩
      · cases e
    · cases e
theorem de_joined {v1 v2 : Expr} {rest : List Expr} {fs : List EvE} (h : DJs X (v1 :: v2 :: rest) fs) : PE X (.JoinedStr (v1 :: v2 :: rest) pos) (tF X.K (fJs fs)) := (pe_joined h.pj).imp fun σ H Q ⟨as, S, d, μ', E, ed, q⟩ => by
  unfold fJs at ed
  split at ed
  · rename_i z μ1 ej
    obtain ⟨rfl, rfl⟩ := pr_inj ed
    exact joinL_ok E ej fun as' H' X' s' => q _ as' H' X' (.str _) s'
  · cases ed
theorem de_joined1 (h : PE X a (tF X.K fa)) : PE X (.JoinedStr [a] pos) (tF X.K fa) := pe_joined1 h
/-! ### in, not in -/
def inB (x y : D) (μ : List Cell) : Option Bool := match x, y with
  | .str w, .str z => match w.cps.toList with
    | [c] => some (decide (c ∈ z.cps.toList))
    | _ => none
  | _, _ => match toP x μ, toP y μ with
    | some p, some (.list ps) => if p.canLay0 = true ∧ PyData.canLayAll0 ps = true ∧ p.depth ≤ 63 then some (ps.any fun q => PyData.eqv q p) else none
    | some p, some (.tuple ps) => if p.canLay0 = true ∧ PyData.canLayAll0 ps = true ∧ p.depth ≤ 63 then some (ps.any fun q => PyData.eqv q p) else none
    | _, _ => none
def dIn : D → D → List Cell → Option D := fun x y μ => (inB x y μ).map .bl
def dNotIn : D → D → List Cell → Option D := fun x y μ => (inB x y μ).map fun k => .bl (!k)
theorem dIn_bl : ∀ x y μ z, dIn x y μ = some z → ∃ k, z = .bl k := fun _ _ _ _ e => map_bl (f := fun k => k) e
theorem dNotIn_bl : ∀ x y μ z, dNotIn x y μ = some z → ∃ k, z = .bl k := fun _ _ _ _ e => map_bl e
theorem one_sign {w : Str} {c : Nat} (e : w.cps.toList = [c]) : w = ⟨#[c]⟩ := by
  cases w with
  | mk l =>
    congr 1
    apply Array.ext'
    simpa using e
theorem op_inD (hu : X.A.units + 64 < cLine) : OpR X (compareOp .In) (rD X.K dIn) := by
  intro pins s σ H x y v u Q I rx ry ⟨as, d, e, μ, z, rd, re, sto, ez, q⟩
  obtain ⟨k, ek, rfl⟩ := Option.map_eq_some_iff.mp ez
  unfold inB at ek
  split at ek
  · split at ek
    · rename_i c hc
      cases Option.some.inj ek
      cases rd; cases re
      exact op_in_sign pins s σ H _ _ v u Q I rx ry ⟨c, _, by rw [one_sign hc], rfl, q _ H .refl (.bl _) sto⟩
    · cases ek
  · split at ek
    · rename_i p ps e1 e2
      split at ek
      · rename_i hs
        cases Option.some.inj ek
        obtain ⟨bs, r1⟩ := Dp.reads I p x v (toP_ok rd e1) rx
        obtain ⟨cs, r2⟩ := Dp.reads I _ y u (toP_ok re e2) ry
        exact SeqAt.in_list_reads r2 r1 hs.2.1 hs.1 (by omega) ⟨.bl _, H, I, rfl, q _ H .refl (.bl _) sto⟩
      · cases ek
    · rename_i p ps e1 e2
      split at ek
      · rename_i hs
        cases Option.some.inj ek
        obtain ⟨bs, r1⟩ := Dp.reads I p x v (toP_ok rd e1) rx
        obtain ⟨cs, r2⟩ := Dp.reads I _ y u (toP_ok re e2) ry
        exact SeqAt.in_tuple_reads r2 r1 hs.2.1 hs.1 (by omega) ⟨.bl _, H, I, rfl, q _ H .refl (.bl _) sto⟩
      · cases ek
    · cases ek
theorem op_notInD (hu : X.A.units + 64 < cLine) : OpR X (compareOp .NotIn) (rD X.K dNotIn) := by
  intro pins s σ H x y v u Q I rx ry ⟨as, d, e, μ, z, rd, re, sto, ez, q⟩
  obtain ⟨k, ek, rfl⟩ := Option.map_eq_some_iff.mp ez
  unfold inB at ek
  split at ek
  · split at ek
    · rename_i c hc
      cases Option.some.inj ek
      cases rd; cases re
      exact op_notIn_sign pins s σ H _ _ v u Q I rx ry ⟨c, _, by rw [one_sign hc], rfl, q _ H .refl (.bl _) sto⟩
    · cases ek
  · split at ek
    · rename_i p ps e1 e2
      split at ek
      · rename_i hs
        cases Option.some.inj ek
        obtain ⟨bs, r1⟩ := Dp.reads I p x v (toP_ok rd e1) rx
        obtain ⟨cs, r2⟩ := Dp.reads I _ y u (toP_ok re e2) ry
        exact SeqAt.notIn_list_reads r2 r1 hs.2.1 hs.1 (by omega) ⟨.bl _, H, I, rfl, q _ H .refl (.bl _) sto⟩
      · cases ek
    · rename_i p ps e1 e2
      split at ek
      · rename_i hs
        cases Option.some.inj ek
        obtain ⟨bs, r1⟩ := Dp.reads I p x v (toP_ok rd e1) rx
        obtain ⟨cs, r2⟩ := Dp.reads I _ y u (toP_ok re e2) ry
        exact SeqAt.notIn_tuple_reads r2 r1 hs.2.1 hs.1 (by omega) ⟨.bl _, H, I, rfl, q _ H .refl (.bl _) sto⟩
      · cases ek
    · cases ek
/-! ### repr of lists, tuples -/
def isQ : D → Bool
  | .lst _ | .rl _ | .tup _ | .h _ => true
  | _ => false
def dRepr : D → List Cell → Option D
  | .bl b, _ => some (.str (reprB b))
  | x, μ => if isQ x = true then match toQ x μ with
    | some p => if p.showable = true ∧ p.hasDict = false ∧ p.depth ≤ 62 ∧ p.shown.length ≤ sizeLine then some (.str p.shown) else none
    | none => none
    else none
theorem call_reprD (hgd : X.A.guards = some []) (hu : X.A.units + 64 < cLine) : CallR X (.builtin "repr") (rCD X.K (g1 dRepr)) := call1 fun pins s σ H x us Q as d μ z I r rd sto ez q => by
  unfold dRepr at ez
  split at ez
  · cases Option.some.inj ez
    cases rd
    obtain ⟨u, rfl, ru⟩ := Vals.one r
    cases ru
    exact PySem.P.repr_of_bool ⟨.str _, H, I.tok _, ⟨_, rfl⟩, q _ H .refl (.str _) sto⟩
  · split at ez
    · rename_i hq
      split at ez
      · rename_i p e1
        split at ez
        · rename_i hs
          cases Option.some.inj ez
          obtain ⟨u, rfl, ru⟩ := Vals.one r
          have isr : ∃ a, x = .ref a := by
            cases rd with
            | lst _ _ _ => exact ⟨_, rfl⟩
            | rl _ _ => exact ⟨_, rfl⟩
            | tup _ _ => exact ⟨_, rfl⟩
            | h _ => exact ⟨_, rfl⟩
            | _ => simp [isQ] at hq
          obtain ⟨a, rfl⟩ := isr
          obtain ⟨bs, r1⟩ := Dp.reads I p (.ref a) u (toQ_ok rd sto e1) ru
          cases ru
          exact repr_of_reads' r1 hs.1 (by rw [hs.2.1]; intro h; cases h) hgd (by omega) (fun _ _ h => h) (fun h' u' tk hk => ⟨.str _, H, I.kept hk, ⟨_, rfl⟩, q _ H .refl (.str _) sto⟩) hs.2.2.2
        · cases ez
      · cases ez
    · cases ez
end
end DL
set_option maxHeartbeats 2000000
/-! A class of the program over any built-in exception, called: B gives it its __new__. -/
namespace DL
open PySem PySem.Spec PyProof.Rows L2 Builtin Builtin.ObjectAttr
abbrev keMro : List Value := [.type "KeyError", .type "LookupError", .type "Exception", .type "BaseException", .type "object"]
theorem keStore : StoreFacts "KeyError" keMro "object.__setattr__" "object" :=
  { mro := by kernel_rfl, slot := .of (owner := "object") (n := "__setattr__") (by rw [typeLookup_type, builtinLookup_eq_fast]; kernel_rfl) (by decide +kernel) (by decide +kernel) (by decide +kernel) (by first | exact .inl (by decide +kernel) | exact .inr (by decide +kernel)) (by rw [isSubtype_type]; kernel_rfl),
    entry := PySem.F.entry_object_sa, kind := by decide +kernel, split := by decide +kernel, hasOwner := by decide +kernel, args := fun a b c => by (unfold argsOk; kernel_rfl), passes := fun _ => by kernel_rfl }
end DL
namespace PySem
namespace DLX
open Builtin Builtin.ObjectAttr
/-- the mro of the class behind itself, so far as it matters -/
structure Bm (B : String) (bm : List Value) : Prop where
  b : bm.contains (.type B) = true
  a : bm.contains (.type "AttributeError") = false
  n : bm.contains (.type "NameError") = false
section
variable {prog : Program} {w : World} {A : Around} {E : Value → Shared → Prop} {R : Result → Shared → Prop} {h0 : Heap} {gs : Array GenState} {dr : Drawn} {tk : Nat} {os : OsState}
variable {nm qn : Str} {C N : Addr} {bs bm bmB : List Value} {hdct : Bool} {sn : List Str} {sub : List Value} {ab : Bool} {col : Option Bool} {dd : Option Addr} {k0 k1 k2 k3 k5 : Option Value} {B newId initId : String} {args : List Value} {fI : Addr}
theorem cons_has (T : Bm B bm) : (Value.ref C :: bm).contains (.type B) = true ∧ (Value.ref C :: bm).contains (.type "AttributeError") = false ∧ (Value.ref C :: bm).contains (.type "NameError") = false ∧ (Value.ref C :: bm).contains (.ref C) = true :=
  ⟨by rw [List.contains_cons, T.b, Bool.or_true], by rw [List.contains_cons, T.a]; rfl, by rw [List.contains_cons, T.n]; rfl, by simp⟩
theorem own_check {M : Model} {Q : Unit → Shared → Prop} (F : ExcBaseFacts B newId initId bmB) (T : Bm B bm) (cl : h0.get? C = some (excClassObj nm qn C N bs bm hdct sn sub ab col dd k0 k1 k2 k3 k5 newId)) (fin : Q () ⟨h0, gs, dr, tk, os⟩) :
    wpAny M A (checkBuiltinCall newId ⟨.ref C :: args, []⟩) Q E ⟨h0, gs, dr, tk, os⟩ := by
  have y1 := (cons_has (C := C) T).1
  have y2 := F.noStar
  simp only [checkBuiltinCall, F.newSplit, F.newRow, F.newKind]
  repeat (first
    | refine wpAny_loadPart_at cl ?_ | refine wpAny_staticBase_exc cl ?_ | refine wpAny_madeBy_exc cl ?_
    | (refine wpAny_isSubtype_exc cl ?_; rw [y1]) | simp only [bne_self_eq_false, Bool.false_eq_true, if_false]
    | wp_step)
  exact fin
theorem own_new (F : ExcBaseFacts B newId initId bmB) (T : Bm B bm) (cl : h0.get? C = some (excClassObj nm qn C N bs bm hdct sn sub ab col dd k0 k1 k2 k3 k5 newId)) (few : args.length ≤ sizeLine)
    (fin : R (.ok (.ret (.ref (h0.objs.size + 1)))) ⟨(h0.push (PySem.W.kdv_tup args)).push (PySem.HandSPX.excO C h0.objs.size), gs, dr, tk, os⟩) :
    codeAny (model prog w) A (.builtin newId ⟨.ref C :: args, []⟩) R ⟨h0, gs, dr, tk, os⟩ := by
  have y0 := F.ends
  obtain ⟨y1, y2, y3, _⟩ := cons_has (C := C) T
  refine codeAny_builtinAt F.entry ?_
  unfold Builtin.«BaseException.__new__»
  refine wpAt_bind (show wpAt _ _ _ (stack >>= _) _ _ _ from wpAt_bind (wpAt_stack fun p below => wpAt_of_wpAny ?_))
  wp_walk
  refine wpAt_of_wpAny ?_
  rw [F.owner]
  repeat (first
    | with_reducible refine wpAny_madeHere_exc F.canon cl ?_ | with_reducible refine wpAny_loadPart_at cl ?_
    | (with_reducible refine wpAny_isSubtype_exc cl ?_; first | rw [y1] | rw [y2] | rw [y3])
    | wp_step)
  show R _ _
  rw [Heap.size_push]
  exact fin
theorem own_typeCall {Q : Fin → Shared → Prop} (F : ExcBaseFacts B newId initId bmB) (T : Bm B bm) (cl : h0.get? C = some (excClassObj nm qn C N bs bm hdct sn sub ab col dd k0 k1 k2 k3 k5 newId)) (few : args.length ≤ sizeLine)
    (li : PySem.W.Looks (model prog w) h0 (typeLookup (.ref C) "__init__") (some (.ref fI))) (lb : ∀ self, PySem.W.Looks (model prog w) h0 (bindSpecial (.ref fI) self) (.ref fI, [self]))
    (fin : codeAny (model prog w) A (.call (.ref fI) ⟨.ref (h0.objs.size + 1) :: args, []⟩) (fun r s' => match r with
      | .ok (.ret v) => v = .none ∧ Q (.done (.ret (.ref (h0.objs.size + 1)))) s'
      | .ok _ => False
      | .error e => E e s') ⟨(h0.push (PySem.W.kdv_tup args)).push (PySem.HandSPX.excO C h0.objs.size), gs, dr, tk, os⟩) :
    wpAny (model prog w) A (Builtin.«type.__call__» ⟨.ref C :: args, []⟩) Q E ⟨h0, gs, dr, tk, os⟩ := by
  repeat (first
    | with_reducible refine wpAny_loadPart_at cl ?_ | with_reducible refine wpAny_madeBy_exc cl ?_
    | wp_step)
  refine codeAny_call_builtin_code (Code.quiet_builtin _ F.quiet) (own_check F T cl (own_new F T cl few ?_))
  show wpAny _ _ _ _ _ _
  have more : ∀ b o, h0.get? b = some o → ((h0.push (PySem.W.kdv_tup args)).push (PySem.HandSPX.excO C h0.objs.size)).get? b = some o := fun b o e => Heap.get?_push_of_some _ (Heap.get?_push_of_some _ e)
  have cl2 := more _ _ cl
  have at2 : ((h0.push (PySem.W.kdv_tup args)).push (PySem.HandSPX.excO C h0.objs.size)).get? (h0.objs.size + 1) = some (PySem.HandSPX.excO C h0.objs.size) := by heap_get
  have y4 := (cons_has (C := C) T).2.2.2
  have li2 := li.keeps more
  have lb2 := (lb (.ref (h0.objs.size + 1))).keeps more
  unfold isInstance
  repeat (first
    | with_reducible refine wpAny_loadPart_at at2 ?_
    | (with_reducible refine wpAny_isSubtype_exc cl2 ?_; rw [y4])
    | wp_step)
  refine (show wpAny _ _ (typeLookup (.ref C) _) _ _ _ from li2.at (wpAny_holding (wpAny_bind (lb2.at (wpAny_bind (wpAny_call (codeAny_mono fin fun r s' zz => ?_)))))))
  rcases r with er | (vv | _ | _ | _) <;> first
    | exact zz | exact zz.elim
    | skip
  obtain ⟨rfl, zz⟩ := zz
  first
    | exact wpAny_pure (wpAny_pure zz) | (wp_walk
                                          exact zz)
    | (wp_walk
       done)
theorem own_call (F : ExcBaseFacts B newId initId bmB) (T : Bm B bm) (cl : h0.get? C = some (excClassObj nm qn C N bs bm hdct sn sub ab col dd k0 k1 k2 k3 k5 newId)) (few : args.length ≤ sizeLine)
    (li : PySem.W.Looks (model prog w) h0 (typeLookup (.ref C) "__init__") (some (.ref fI))) (lb : ∀ self, PySem.W.Looks (model prog w) h0 (bindSpecial (.ref fI) self) (.ref fI, [self]))
    (fin : codeAny (model prog w) (A.under (.builtin "type.__call__" ⟨.ref C :: args, []⟩)) (.call (.ref fI) ⟨.ref (h0.objs.size + 1) :: args, []⟩) (PySem.W.InitBack (h0.objs.size + 1) R) ⟨(h0.push (PySem.W.kdv_tup args)).push (PySem.HandSPX.excO C h0.objs.size), gs, dr, tk, os⟩) :
    codeAny (model prog w) A (.call (.ref C) ⟨args, []⟩) R ⟨h0, gs, dr, tk, os⟩ := by
  have z1 := tc_lookup
  have z2 := tc_bind (.ref C)
  have z3 : (⟨h0, gs, dr, tk, os⟩ : Shared).TypeIs (.ref C) "type" := ⟨_, cl, rfl⟩
  refine codeAny_of_tree (show wpAny _ _ (callAny (.ref C) _) _ _ _ from ?_)
  repeat (any_goals (first
    | assumption | with_reducible refine wpAny_loadPart_at cl ?_
    | wp_step))
  refine ⟨rfl, codeAny_call_builtin_at (Code.quiet_builtin _ (by decide +kernel)) entry_typeCall (wpAny_check_type_call_sub cl (own_typeCall F T cl few li lb (codeAny_mono fin fun r s' z => ?_)))⟩
  rcases r with e | (v | _ | _ | _)
  all_goals exact z
end
end DLX
end PySem
set_option maxHeartbeats 2000000
/-! Exceptions of any base, held as values. -/
namespace DL
open PySem PySem.Spec PyProof.Rows L2 Builtin Builtin.ObjectAttr
section
variable {prog : Program} {w : World} {A : Around} {E : Value → Shared → Prop} {R : Result → Shared → Prop} {hp : Heap} {g : Array GenState} {d : Drawn} {t : Nat} {os : OsState} {K : PySem.W.Frag} {x C : Addr} {fv : Array Value} {name : Str} {tk : Tok} {v : Value} {cd : ClassData} {B newId : String} {bmB : List Value}
/-- the first field of an exception without a dict -/
theorem osa_first (SF : StoreFacts B bmB "object.__setattr__" "object") (X : K.In hp) (hx : hp.get? x = some { cls := .ref C, data := .fields fv }) (hcd : PySem.W.clsIn K C = some cd) (ov : PySem.W.excOver K C bmB = true) (hh : cd.hasDict = true) (ht : PySem.W.takerIn K C name = some none)
    (hq : ∀ (h' : Heap) (tk' : Nat) (dx : Addr), (∀ b o, b ≠ x → hp.get? b = some o → h'.get? b = some o) → hp.objs.size ≤ dx → dx ≠ x → h'.get? x = some { cls := .ref C, dict := some dx, data := .fields fv } → h'.Ns1 dx (fun y => if y = name then some v else none) → R (.ok (.ret .none)) ⟨h', g, d, tk', os⟩) :
    codeAny (model prog w) A (.call (.builtin "object.__setattr__") ⟨[.ref x, .str name tk, v], []⟩) R ⟨hp, g, d, t, os⟩ := by
  have ne : x ≠ hp.objs.size := Nat.ne_of_lt (Heap.lt_size hx)
  have cl : PySem.W.Looks (model prog w) hp (classData C) cd := PySem.W.looks_clsIn X hcd
  refine PySem.W.osa_openX (s := ⟨hp, g, d, t, os⟩) SF X (ox := { cls := .ref C, data := .fields fv }) (od := none) ⟨hx, rfl, rfl, trivial⟩ ov ht fun b => ?_
  dsimp only
  obtain ⟨a1, a2, a3, a4, a5, hd, a7, a8, a9, a10, a11⟩ := cd
  dsimp only at hh; subst hh
  unfold storeInOwnDict ownDictForStores
  cases b <;> (repeat (first | with_reducible refine PySem.HandSPX.store_in_new ?_ ?_ | with_reducible refine wpAny_loadPart_at hx ?_ | with_reducible refine cl.at ?_ | wp_step)) <;> first
    | (exact ⟨_, #[], _, (Heap.get?_update_ne _ _ _ _ ne.symm).trans (Heap.get?_push_at rfl rfl), rfl, fun e he => absurd he (by simp), fun _ => rfl⟩)
    | (intro h' tk' hn' hs
       refine hq h' tk' hp.objs.size (fun b o hb ho => (hs.2 b (Nat.ne_of_lt (Heap.lt_size ho))).trans ((Heap.get?_update_ne _ _ _ _ hb).trans (Heap.get?_push_of_some _ ho))) (Nat.le_refl _) ne.symm ((hs.2 x ne).trans (Heap.get?_update_self _ (Heap.get?_push_of_some _ hx) rfl)) hn')
end

/-- what is asked of a class whose __init__ stores one field -/
structure XCls (K : PySem.W.Frag) (C : Addr) (bmB : List Value) (newId : String) : Prop where
  ini : PySem.W.excInitIn K C bmB newId = true
  over : PySem.W.excOver K C bmB = true
  dct : PySem.W.hasDictIn K C = true
  sa : PySem.W.findIn K (.ref C) "__setattr__" = some (some (.builtin "object.__setattr__"))
  kp : PySem.W.keepIn K (.ref C) = true
section
variable {X : Cx} {pins : List (Addr × Obj)} {σ : L2.St} {H : Hp} {s : Shared} {a C dx : Addr} {f : Str} {y : V} {u : Value} {Q : Unit → Shared → Prop} {E : Value → Shared → Prop} {A : Around} {B newId initId : String} {bmB : List Value}
theorem ost_first (SF : StoreFacts B bmB "object.__setattr__" "object") (T : XCls X.K C bmB newId) (I : Inv X pins σ H s) (e : H a = some (exo a C none)) (hno : PySem.W.takerIn X.K C f = some none) (ry : RelV y u)
    (h : ∀ dx s', H dx = none → dx ≠ a → Inv X pins σ (upd (upd H dx (exd dx [(f, y)])) a (exo a C (some dx))) s' → Q () s') : wpAny (model X.prog X.w) A (setAttr (.ref a) f u) Q E s := by
  obtain ⟨cd, hc, hd⟩ := PySem.W.any_some T.dct
  obtain ⟨t1, ho⟩ := exo_at I.hok e
  obtain ⟨hp, g, dr, t, os⟩ := s
  refine PySem.W.set_plain I.kIn (ox := { cls := .ref C, dict := none, data := .fields #[.ref t1, .none, .none, .none, .bool false, .none] }) (od := none) ⟨ho, rfl, rfl, trivial⟩ T.sa (osa_first SF I.kIn ho hc T.over hd hno fun h' tk' dx k dn dne hx hn => ?_)
  have fr : H dx = none := I.hok.fresh dn
  have ndx : ∀ {b : Addr} {o : Obj}, hp.get? b = some o → b ≠ dx := fun q z => absurd (Heap.lt_size q) (by rw [z]; exact Nat.not_lt.mpr dn)
  have nax : ∀ {b : Addr}, H b = none → b ≠ a := fun n z => by rw [z, e] at n; cases n
  refine h dx _ fr dne (I.un (t' := tk') ⟨fun b o q n _ _ => k b o (nax n) q, fun b o q n _ _ => ⟨o.slots, k b o (nax n) q⟩, fun b o q n _ => ?_, fun b o q _ => ?_, fun b xs q => ?_, fun b o v q => ?_, fun b ps q => ⟨#[], ?_⟩⟩ fun b o q => ?_)
  · rw [upd_ne (nax n), upd_ne (ndx q), n]
  · by_cases hb : b = a
    · subst hb; exact ⟨_, hx⟩
    · exact ⟨o, k b o hb q⟩
  · rw [upd_ne (at_ne e q exo_tup), upd_ne (ne_of_none q fr), q]
  · rw [upd_ne (at_ne e q exo_frz), upd_ne (ne_of_none q fr), q]
  · rw [upd_ne (at_ne e q exo_tbl), upd_ne (ne_of_none q fr), q]; simp
  · by_cases hb : b = a
    · subst hb
      rw [upd_same] at q
      cases q
      exact exo_ok hx
    · rw [upd_ne hb] at q
      by_cases hd : b = dx
      · subst hd
        rw [upd_same] at q
        cases q
        exact exd_ok hn (relO_put (fs := []) ry fun _ => trivial)
      · rw [upd_ne hd] at q
        refine (I.hok b o q).stay (fun c v hc z => k c v ?_ z) (fun c hc => ?_) fun c xs hc => ?_
        · rcases hc with hc | hc
          · rw [hc]; exact hb
          · exact at_ne e hc exo_own
        · rw [upd_ne (at_ne e hc exo_own), upd_ne (ne_of_none hc fr), hc]
        · rw [upd_ne (at_ne e hc exo_tup), upd_ne (ne_of_none hc fr), hc]
/-- the def __init__(self, x): self.f = x -/
def spF (K : PySem.W.Frag) (C : Addr) (f : Str) : Sp := fun vs H Q _ => ∃ (self : Addr) (y : V), vs = [.ref self, y] ∧ H self = some (exo self C none) ∧ ∀ dx, H dx = none → dx ≠ self → Q .non (upd (upd H dx (exd dx [(f, y)])) self (exo self C (some dx)))
def tF1 (K : PySem.W.Frag) (C : Addr) (f : Str) : TS := fun D σ H => ∃ (self : Addr) (y : V), σ[0]? = some (some (.ref self)) ∧ σ[1]? = some (some y) ∧ H self = some (exo self C none) ∧ ∀ dx, H dx = none → dx ≠ self → D.nx σ (upd (upd H dx (exd dx [(f, y)])) self (exo self C (some dx)))
theorem ps_first {p1 p2 p3 pos : Pos} {ns nx : Str} (SF : StoreFacts B bmB "object.__setattr__" "object") (T : XCls X.K C bmB newId) (hno : PySem.W.takerIn X.K C f = some none) (p0 : PE X (.Name ns p2) (tVar 0)) (pn1 : PE X (.Name nx p1) (tVar 1))
    (hs : swapsWith (.Name nx p1) (some (.Attribute (.Name ns p2) f p3)) pos.line X.env = pure false := by rfl) : PS X (.Assign [.Attribute (.Name ns p2) f p3] (.Name nx p1) pos) (tF1 X.K C f) := by
  refine ⟨fun pins s σ H D I ⟨self, y, e0, e1, hH, q⟩ => ?_⟩
  refine plainObj_wpAny_Assign_Attribute (thn (pn1.run pins s σ H (fun v H1 => v = y ∧ H = H1) I ⟨y, e1, rfl, rfl⟩) fun v s1 ⟨x, H1, I1, r1, ex, eH⟩ => ?_) hs
  subst ex eH
  refine thn (p0.run pins s1 σ H (fun v H1 => v = .ref self ∧ H = H1) I1 ⟨.ref self, e0, rfl, rfl⟩) fun u s2 ⟨x, H1, I2, r2, ex, eH⟩ => ?_
  subst ex eH
  obtain rfl : u = Value.ref self := r2
  exact ost_first SF T I2 hH hno r1 fun dx s' n ne J => ⟨σ, _, J, q dx n ne⟩
end

section
variable {P : Program} {w : World} {K : PySem.W.Frag} {mg : Str → Option Value} {base : Heap} {CX : CXT} {k : Nat} {B newId initId : String} {bmB : List Value}
/-- __init__(self, x): self.f = x keeps spF -/
theorem fn_first {qual nx fl : Str} {st : Stmt} {f C : Addr} {fd : FuncData} {p1 p2 p3 pos : Pos} (SF : StoreFacts B bmB "object.__setattr__" "object") (T : XCls K C bmB newId) (hno : PySem.W.takerIn K C fl = some none) (Fu : Fun K "__init__" qual st f fd) (S : FnScope ["self", nx] ["self", nx] (defScope st))
    (hb : defBody st = [.Assign [.Attribute (.Name "self" p2) fl p3] (.Name nx p1) pos])
    (h0 : ∀ (cdv : Value) (A : Around) (stk : List Env) (s : Shared) (H : Hp) (E : XK), PE (cxOf CX P w K mg base ["self", nx] qual (defScope st) f cdv A stk s H E) (.Name "self" p2) (tVar 0))
    (h1 : ∀ (cdv : Value) (A : Around) (stk : List Env) (s : Shared) (H : Hp) (E : XK), PE (cxOf CX P w K mg base ["self", nx] qual (defScope st) f cdv A stk s H E) (.Name nx p1) (tVar 1))
    (hs : ∀ env : Env, swapsWith (.Name nx p1) (some (.Attribute (.Name "self" p2) fl p3)) pos.line env = pure false) :
    FnOk P w K mg base CX (k + 1) f fd ["self", nx] (spF K C fl) := by
  obtain ⟨oc, od, kV, doc, pm, an, cdv, ct, osl, rfl, lk, hcd⟩ := Fu.ex
  refine fn_of lk hcd S (fun vs H Q E ⟨self, y, ev, _⟩ => by subst ev; rfl) fun A outer s H vs Q E hr ⟨self, y, ev, hH, q⟩ => ?_
  subst ev
  rw [hb]
  exact ⟨_, pss_one (ps_first SF T hno (h0 cdv A outer s H E) (h1 cdv A outer s H E) (hs _)), self, y, rfl, rfl, hH, fun dx n ne => q dx n ne⟩
end
section
variable {X : Cx} {CX : CXT} {k : Nat} {B newId initId : String} {bmB : List Value} {C fI : Addr} {fd : FuncData} {ps : List Str} {x fl : Str} {e : Expr} {te : TE} {p pos : Pos}
/-- C(e): a new exception with its field, as a value -/
theorem pe_mkF {bmN : List Value} (FB : ExcBaseFacts B newId initId bmN) (hB : PySem.DLX.Bm B bmB) (T : XCls X.K C bmB newId) (iC : PySem.W.findIn X.K (.ref C) "__init__" = some (some (.ref fI))) (tI : PySem.W.typeIn X.K (.ref fI) = some (.type "function"))
    (F1 : FnOk X.prog X.w X.K X.mg X.base CX k fI fd ps (spF X.K C fl)) (hr : Room (k + 1) X.A) (hb : Binds X.K fd ps []) (hx : Passes CX X (fun _ _ _ => False)) (hg : Gl X x) (hm : X.mg x = some (.ref C)) (he : PE X e te)
    (hdb : (x == ("__debug__" : Str)) = false := by decide) (hs : starEach [e] X.env = (false, eval e X.env) :: starEach [] X.env := by rfl) (hpl : (backTo pos (starEach [] X.env)).any (·.1) = false := by rfl) :
    PE X (.Call (.Name x p) [e] [] pos) (fun σ H Q => te σ H fun y H1 => ∀ a dx, H1 a = none → H1 dx = none → dx ≠ a → Q (.ref a) (upd (upd (upd H1 a (exo a C none)) dx (exd dx [(fl, y)])) a (exo a C (some dx)))) := by
  refine ⟨fun pins s σ H Q I h => ?_⟩
  refine wpAny_Call_Name_kw (ld_glob I hg hm ?_ hdb)
  refine PySem.W.callWith_K (h₀ := X.base) I.ok.mod.kin T.kp (thn ((pa_cons he pa_nil hs).run pos pins s σ H (fun vs H1 => match vs with
    | [y] => ∀ a dx, H1 a = none → H1 dx = none → dx ≠ a → Q (.ref a) (upd (upd (upd H1 a (exo a C none)) dx (exd dx [(fl, y)])) a (exo a C (some dx)))
    | _ => False) I h) fun us s1 ⟨vs, H1, I1, r1, q1⟩ => ⟨I1.kIn, ?_⟩) hs hpl
  · obtain ⟨y, ev⟩ : ∃ y, vs = [y] := by
      match vs, q1 with
      | [y], _ => exact ⟨y, rfl⟩
    show wpAny _ _ (call (.ref C) us) _ _ _
    subst ev
    have hl1 : us.length = 1 := (Paired.length r1).symm
    obtain ⟨nm, N, qn, bs, bm, hdct, sn, sub, ab, col, dd, k0, k1, k2, k3, k5, hC, hT⟩ := PySem.W.excInit_of I1.kIn T.ini
    obtain ⟨hp, g, dr, tk, os⟩ := s1
    have hsz : hp.objs.size ≤ hp.objs.size + 1 := Nat.le_succ _
    have hn : H1 (hp.objs.size + 1) = none := I1.hok.fresh hsz
    have I2 : Inv X pins σ (upd H1 (hp.objs.size + 1) (exo (hp.objs.size + 1) C none)) ⟨(hp.push (PySem.W.kdv_tup us)).push (PySem.HandSPX.excO C hp.objs.size), g, dr, tk, os⟩ :=
      I1.laid (t' := tk) (fun b o z => Heap.get?_push_of_some _ (Heap.get?_push_of_some _ z)) hsz (exo_ok (by heap_get))
    have r2 : Vals [V.ref (hp.objs.size + 1), y] (Value.ref (hp.objs.size + 1) :: us) := .cons rfl r1
    have hl : (Value.ref (hp.objs.size + 1) :: us ++ []).length = ps.length := by
      have z := F1.len [V.ref (hp.objs.size + 1), y] (upd H1 (hp.objs.size + 1) (exo (hp.objs.size + 1) C none)) (fun _ _ => True) (fun _ _ _ => False) ⟨_, y, rfl, upd_same, fun _ _ _ => trivial⟩
      rw [← z, List.append_nil, List.length_cons, hl1]; rfl
    refine wpAny_call (PySem.DLX.own_call FB ⟨by rw [hT]; exact hB.b, by rw [hT]; exact hB.a, by rw [hT]; exact hB.n⟩ hC (by rw [hl1, sizeLine_eq]; omega) (PySem.W.looks_findIn I1.kIn iC) (fun self => PySem.W.bind_fn I1.kIn self tI)
      (codeAny_mono (F1.run _ X.stack _ _ ⟨Value.ref (hp.objs.size + 1) :: us, []⟩ (Value.ref (hp.objs.size + 1) :: us ++ []) _ (fun v H2 => v = .non ∧ Q (.ref (hp.objs.size + 1)) H2) (fun _ _ _ => False) (hr.make C us []) (I2.env0.make C us []) (hb _ (Value.ref (hp.objs.size + 1) :: us) I2.kIn hl) (by rw [List.append_nil]; exact r2)
        ⟨_, y, rfl, upd_same, fun dx n ne => ⟨rfl, q1 _ dx hn (by rw [upd_ne ne] at n; exact n) ne⟩⟩) fun r s' hq' => ?_))
    cases r with
    | error er => exact hx pins σ _ _ er s' I2 hq'
    | ok fl =>
      cases fl with
      | ret u =>
        obtain ⟨v, H2, J, rv, ev, q2⟩ := I2.after hq'
        subst ev
        exact ⟨rv, .ref (hp.objs.size + 1), H2, J, rfl, q2⟩
      | next => exact False.elim hq'
      | brk => exact False.elim hq'
      | cont => exact False.elim hq'
end

/-! ### isinstance, fields of such values -/
structure XQ (K : PySem.W.Frag) (C : Addr) : Prop extends ExcC K C where
  cl : (PySem.W.clsIn K C).isSome = true
def xqB (K : PySem.W.Frag) (C : Addr) : Bool := decide (PySem.W.findIn K (.ref C) "__getattribute__" = some (some (.builtin "BaseException.__getattribute__"))) && (decide (PySem.W.findIn K (.ref C) "__getattr__" = some none) && (decide (PySem.W.subIn K (.ref C) (.type "BaseException") = some true) &&
  (PySem.W.hasDictIn K C && (decide (PySem.W.findIn K (.ref C) "__class__" = some (some (.builtin "object.__class__"))) && (decide (PySem.W.specialIn K (.builtin "object.__class__") "__get__" = some (some (.builtin "getset_descriptor.__get__"))) && (decide (PySem.W.takesIn K (.builtin "object.__class__") = some true) && (decide (PySem.W.mroIn K C (.type "object") = some true) && (PySem.W.clsIn K C).isSome)))))))
theorem xqB_ok {K : PySem.W.Frag} {C : Addr} (h : xqB K C = true) : XQ K C := by
  unfold xqB at h
  simp only [Bool.and_eq_true, decide_eq_true_eq] at h
  obtain ⟨h1, h2, h3, h4, h5, h6, h7, h8, h9⟩ := h
  exact ⟨⟨h1, h2, h3, h4, h5, h6, h7, h8⟩, h9⟩
/-- an exception of the class at C lies at a -/
def AtX (H : Hp) (a C : Addr) : Prop := H a = some (ExO (.ref C) a) ∨ ∃ dx fs, H a = some (exo a C (some dx)) ∧ H dx = some (exd dx fs)
section
variable {X : Cx} {pins : List (Addr × Obj)} {σ : L2.St} {H : Hp} {s : Shared} {a C : Addr}
theorem atx_inst (I : Inv X pins σ H s) (h : AtX H a C) : ∃ oe od, PySem.W.InstAt s.heap a oe C od := by
  rcases h with h | ⟨dx, fs, h, hd⟩
  · obtain ⟨⟨oe, vs, ho, ⟨hz1, hz2⟩, hdt, _⟩, _⟩ := I.hok a _ h
    obtain ⟨oc, od, oda, osl⟩ := oe
    dsimp only at hz1 hz2 hdt
    subst hz1 hz2 hdt
    exact ⟨_, none, ho, rfl, rfl, trivial⟩
  · obtain ⟨t1, ho⟩ := exo_at I.hok h
    obtain ⟨mA, hns, _⟩ := exd_at I.hok hd
    obtain ⟨od, hod, _⟩ := lookIn_ns hns
    exact ⟨_, some od, ho, rfl, rfl, hod⟩
def rIsX (K : PySem.W.Frag) : List V → Hp → VK → Prop := fun xs H Q => ∃ (a C : Addr) (c : V) (cv : Value) (b : Bool), xs = [.ref a, c] ∧ AtX H a C ∧ XQ K C ∧ (∀ u, RelV c u → u = cv) ∧ PySem.W.kitOne K (.ref C) cv = some b ∧ Q (.bl b) H
theorem call_isX : CallR X (.builtin "isinstance") (rIsX X.K) := by
  intro pins s σ H xs us Q I r ⟨a, C, c, cv, b, ev, hat, xq, hcv, e, q⟩
  subst ev
  cases r with
  | cons rx rr =>
  cases rr with
  | cons rt rr =>
  cases rr
  cases rx
  have ec := hcv _ rt
  subst ec
  obtain ⟨oe, od, J⟩ := atx_inst I hat
  exact PySem.W.kia_one (PySem.W.kitx_exc xq.cl xq.hg xq.hk xq.hs xq.ha xq.hn xq.ht xq.hm) I.kIn J e (fun z => nomatch z) fun tk => ⟨.bl b, H, I.kept (t' := tk) fun _ _ z => z, rfl, q⟩
/-- e.f -/
def tGetF (K : PySem.W.Frag) (fl : Str) (te : TE) : TE := fun σ H Q => te σ H fun x H1 => ∃ (a C dx : Addr) (v : V), x = .ref a ∧ H1 a = some (exo a C (some dx)) ∧ H1 dx = some (exd dx [(fl, v)]) ∧ XQ K C ∧ PySem.W.findIn K (.ref C) fl = some none ∧ Q v H1
theorem pe_getF {e : Expr} {te : TE} {fl : Str} {pos : Pos} (he : PE X e te) (hb : attributeBase e fl X.env (eval e X.env) = eval e X.env := by rfl) : PE X (.Attribute e fl pos) (tGetF X.K fl te) := by
  refine ⟨fun pins s σ H Q I h => attr_of hb (thn (he.run pins s σ H _ I h) fun u s1 ⟨x, H1, I1, rx, a, C, dx, v, ex, ea, ed, xq, hno, q⟩ => ?_)⟩
  subst ex
  obtain rfl : u = Value.ref a := rx
  obtain ⟨t1, ho⟩ := exo_at I1.hok ea
  obtain ⟨mA, hns, hr⟩ := exd_at I1.hok ed
  obtain ⟨od, hod, hl⟩ := lookIn_ns hns
  obtain ⟨u, hu, ru⟩ := RelO.some_of (v := v) (o := mA fl) (by have z := hr fl; rw [lookup_put, if_pos rfl] at z; exact z)
  exact HandSPX.exc_get I1.kIn (⟨ho, rfl, rfl, hod⟩ : PySem.W.InstAt s1.heap a _ C (some od)) xq.hg xq.hk xq.hs (PySem.W.findObj_own xq.hd hno rfl (by rw [hl, hu])) (handed_of ru) ⟨v, H1, I1.tok _, ru, q⟩
end
/-! ### on data -/
section
variable {X : Cx} {e : Expr} {fa : EvE} {p p1 p2 pos : Pos} {x fl : Str}
theorem Rep.atx {K : PySem.W.Frag} {as : Ar} {H : Hp} {v : V} {d : D} {n : Str} (r : Rep K as H v d) (h : d = .exc n ∨ ∃ f x, d = .exf n f x) : ∃ a C, v = .ref a ∧ PySem.W.nsIn K mainGlobals n = some (some (.ref C)) ∧ AtX H a C := by
  rcases h with rfl | ⟨f, x, rfl⟩
  · cases r with
    | exc e t n => exact ⟨_, _, rfl, e, .inl t⟩
  · cases r with
    | exf e t n t2 n2 r => exact ⟨_, _, rfl, e, .inr ⟨_, _, t, t2⟩⟩
/-- C(e) without an own __init__ -/
def dExc (x : Str) : D → List Cell → Option D := fun _ _ => some (.exc x)
theorem de_exc {C : Addr} {bmB : List Value} {B newId initId : String} (F : ExcBaseFacts B newId initId bmB) (q : PySem.W.excIn X.K C bmB newId = true) (gC : X.mg x = some (.ref C)) (hn : PySem.W.nsIn X.K mainGlobals x = some (some (.ref C))) (kC : PySem.W.keepIn X.K (.ref C) = true) (hg : Gl X x)
    (he : PE X e (tF X.K fa)) (hs : starEach [e] X.env = (false, eval e X.env) :: starEach [] X.env := by rfl) (hdb : (x == ("__debug__" : Str)) = false := by decide) : PE X (.Call (.Name x p) [e] [] pos) (tF X.K (fU (dExc x) fa)) :=
  (pe_exc1 F q gC kC hg he hs hdb).imp fun σ H Q ⟨as, S, d, μ', E, ed, k⟩ => by
    obtain ⟨y, ey, ez⟩ := fU_out ed
    cases Option.some.inj ez
    exact ⟨as, S, y, μ', E, ey, fun v as1 H1 X1 r1 s1 a ha => k _ as1 _ (X1.trans (Ext.new ha (s1.out ha)) E.sto.trk) (.exc hn upd_same (s1.out ha)) (s1.new ha)⟩
/-- .. with one that stores its argument -/
def dExf (x fl : Str) : D → List Cell → Option D := fun d _ => some (.exf x fl d)
theorem de_exf {CX : CXT} {k : Nat} {fI C : Addr} {fd : FuncData} {ps : List Str} {bmB bmN : List Value} {B newId initId : String} (FB : ExcBaseFacts B newId initId bmN) (hB : PySem.DLX.Bm B bmB) (T : XCls X.K C bmB newId) (iC : PySem.W.findIn X.K (.ref C) "__init__" = some (some (.ref fI))) (tI : PySem.W.typeIn X.K (.ref fI) = some (.type "function"))
    (F1 : FnOk X.prog X.w X.K X.mg X.base CX k fI fd ps (spF X.K C fl)) (hr : Room (k + 1) X.A) (hb : Binds X.K fd ps []) (hx : Passes CX X (fun _ _ _ => False)) (hg : Gl X x) (hm : X.mg x = some (.ref C)) (hn : PySem.W.nsIn X.K mainGlobals x = some (some (.ref C)))
    (he : PE X e (tF X.K fa)) (hdb : (x == ("__debug__" : Str)) = false := by decide) (hs : starEach [e] X.env = (false, eval e X.env) :: starEach [] X.env := by rfl) (hpl : (backTo pos (starEach [] X.env)).any (·.1) = false := by rfl) : PE X (.Call (.Name x p) [e] [] pos) (tF X.K (fU (dExf x fl) fa)) :=
  (pe_mkF FB hB T iC tI F1 hr hb hx hg hm he hdb hs hpl).imp fun σ H Q ⟨as, S, d, μ', E, ed, kq⟩ => by
    obtain ⟨y, ey, ez⟩ := fU_out ed
    cases Option.some.inj ez
    refine ⟨as, S, y, μ', E, ey, fun v as1 H1 X1 r1 s1 a dx ha hd hne => ?_⟩
    have X2 := Ext.new (o := exo a C none) ha (s1.out ha)
    have s2 := s1.new (o := exo a C none) ha
    have hd2 : upd H1 a (exo a C none) dx = none := by rw [upd_ne hne]; exact hd
    have X3 := Ext.new (o := exd dx [(fl, v)]) hd2 (s2.out hd2)
    have s3 := s2.new (o := exd dx [(fl, v)]) hd2
    -- the object's second look
    have eq : upd (upd (upd H1 a (exo a C none)) dx (exd dx [(fl, v)])) a (exo a C (some dx)) = upd (upd H1 a (exo a C (some dx))) dx (exd dx [(fl, v)]) := by
      funext b
      by_cases h1 : b = a
      · subst h1; rw [upd_same, upd_ne (Ne.symm hne), upd_same]
      · rw [upd_ne h1]
        by_cases h2 : b = dx
        · subst h2; rw [upd_same, upd_same]
        · rw [upd_ne h2, upd_ne h2, upd_ne h1, upd_ne h1]
    rw [eq]
    have Y2 := Ext.new (o := exo a C (some dx)) ha (s1.out ha)
    have t2 := s1.new (o := exo a C (some dx)) ha
    have hd3 : upd H1 a (exo a C (some dx)) dx = none := by rw [upd_ne hne]; exact hd
    have Y3 := Ext.new (o := exd dx [(fl, v)]) hd3 (t2.out hd3)
    have t3 := t2.new (o := exd dx [(fl, v)]) hd3
    have Y := Y2.trans Y3 s1.trk
    exact kq _ as1 _ (X1.trans Y E.sto.trk) (.exf hn (by rw [upd_ne (Ne.symm hne), upd_same]) (s1.out ha) upd_same (t2.out hd3) (r1.mv Y)) t3
/-- isinstance(e, c) of such a value -/
def dIsx (tab : Str → Option Bool) : D → List Cell → Option D
  | .exc n, _ => (tab n).map .bl
  | .exf n _ _, _ => (tab n).map .bl
  | _, _ => none
theorem de_isx {c : V} {cv : Value} {x2 : Expr} {tab : Str → Option Bool} (hg : Gl X "isinstance") (hm : X.mg "isinstance" = none) (he : PE X e (tF X.K fa)) (hc : PE X x2 (tC c)) (hcv : ∀ u, RelV c u → u = cv)
    (hk : ∀ n C b, tab n = some b → PySem.W.nsIn X.K mainGlobals n = some (some (.ref C)) → XQ X.K C ∧ PySem.W.kitOne X.K (.ref C) cv = some b)
    (hs : starEach [e, x2] X.env = (false, eval e X.env) :: starEach [x2] X.env := by rfl) (hs2 : starEach [x2] X.env = (false, eval x2 X.env) :: starEach [] X.env := by rfl) (hpl : (backTo pos (starEach [x2] X.env)).any (·.1) = false := by rfl) :
    PE X (.Call (.Name "isinstance" p) [e, x2] [] pos) (tF X.K (fU (dIsx tab) fa)) :=
  (pe_callB call_isX hg hm (by decide +kernel) (pa_cons he (pa_cons hc pa_nil hs2) hs) (by decide) (by decide) hs hpl).imp fun σ H Q ⟨as, S, d, μ', E, ed, q⟩ => by
    obtain ⟨y, ey, ez⟩ := fU_out ed
    have ⟨n, b, hy, ht, eb⟩ : ∃ n b, (y = .exc n ∨ ∃ f z, y = .exf n f z) ∧ tab n = some b ∧ d = .bl b := by
      unfold dIsx at ez
      split at ez
      · obtain ⟨b, hb, rfl⟩ := Option.map_eq_some_iff.mp ez
        exact ⟨_, b, .inl rfl, hb, rfl⟩
      · obtain ⟨b, hb, rfl⟩ := Option.map_eq_some_iff.mp ez
        exact ⟨_, b, .inr ⟨_, _, rfl⟩, hb, rfl⟩
      · cases ez
    subst eb
    refine ⟨as, S, y, μ', E, ey, fun v as1 H1 X1 r1 s1 => ?_⟩
    obtain ⟨a, C, rfl, hn, hat⟩ := r1.atx hy
    obtain ⟨xq, hkk⟩ := hk n C b ht hn
    exact ⟨a, C, c, cv, b, rfl, hat, xq, hcv, hkk, q _ as1 H1 X1 (.bl b) s1⟩
/-- e.f of such a value -/
def dGetF (ns : List Str) (fl : Str) : D → List Cell → Option D
  | .exf n f x, _ => if n ∈ ns ∧ f = fl then some x else none
  | _, _ => none
theorem de_getF (he : PE X e (tF X.K fa)) {ns : List Str} (hk : ∀ n C, n ∈ ns → PySem.W.nsIn X.K mainGlobals n = some (some (.ref C)) → XQ X.K C ∧ PySem.W.findIn X.K (.ref C) fl = some none) (hb : attributeBase e fl X.env (eval e X.env) = eval e X.env := by rfl) :
    PE X (.Attribute e fl pos) (tF X.K (fU (dGetF ns fl) fa)) := (pe_getF he hb).imp fun σ H Q ⟨as, S, d, μ', E, ed, q⟩ => by
  obtain ⟨y, ey, ez⟩ := fU_out ed
  unfold dGetF at ez
  split at ez
  · split at ez
    · rename_i hf
      obtain ⟨hf1, hf⟩ := hf
      subst hf
      cases Option.some.inj ez
      refine ⟨as, S, _, μ', E, ey, fun v as1 H1 X1 r1 s1 => ?_⟩
      cases r1 with
      | exf e t n1 t2 n2 r =>
        obtain ⟨xq, hno⟩ := hk _ _ hf1 e
        exact ⟨_, _, _, _, rfl, t, t2, xq, hno, q _ as1 H1 X1 r s1⟩
    · cases ez
  · cases ez
end
end DL
set_option maxHeartbeats 2000000
/-! repr of data in which empty dicts may stand. -/
namespace DL
open PySem L2
section
variable {P : Program} {w : World} {h : Heap} {a : Addr} {o : Obj} {vs : Array Value} {n : Nat} {ps : List PyData}
/-- read, and shown -/
def Shd (P : Program) (w : World) (h : Heap) (u : Value) (p : PyData) : Prop := (∃ as, Reads h u p as) ∧ ∃ bs, ReadAtMost h p.depth bs ∧ ReprK P w bs h p.depth u p.shown
def ShdAll (P : Program) (w : World) (h : Heap) (us : List Value) (ps : List PyData) : Prop := (∃ as, ReadsAll h us ps as) ∧ ∃ bs, ReadAtMost h (PyData.depthAll ps) bs ∧ ReprAllK P w bs h (PyData.depthAll ps) us (PyData.shownAll ps)
theorem shd_list (h1 : h.get? a = some o) (h2 : o.cls = .type "list") (h3 : o.data = .seq vs n) (k : ShdAll P w h vs.toList ps) : Shd P w h (.ref a) (.list ps) := by
  obtain ⟨⟨as, r⟩, bs, hb, hk⟩ := k
  have rr : Reads h (.ref a) (.list ps) _ := .list h1 h2 h3 r
  have out := not_mem_of_deeper rr (by simp only [PyData.depth]; omega) hb
  refine ⟨⟨_, rr⟩, a :: bs, ReadAtMost.cons rr (by simp only [PyData.depth]; omega) hb, ?_⟩
  simp only [PyData.depth, PyData.shown]
  obtain ⟨l⟩ := vs
  cases l with
  | nil =>
    have r' : ReadsAll h [] ps as := r
    cases r'
    simp only [PyData.shownAll, listText_nil]
    exact ReprK.listEmpty h1 h2 h3
  | cons x l => exact ReprK.list h1 h2 h3 out (by simpa using hk.length_eq) fun i y e => hk.item i y (by simpa using e)
theorem shd_tuple (h1 : h.get? a = some o) (h2 : o.cls = .type "tuple") (h3 : o.data = .seq vs n) (k : ShdAll P w h vs.toList ps) : Shd P w h (.ref a) (.tuple ps) := by
  obtain ⟨⟨as, r⟩, bs, hb, hk⟩ := k
  have rr : Reads h (.ref a) (.tuple ps) _ := .tuple h1 h2 h3 r
  have out := not_mem_of_deeper rr (by simp only [PyData.depth]; omega) hb
  refine ⟨⟨_, rr⟩, a :: bs, ReadAtMost.cons rr (by simp only [PyData.depth]; omega) hb, ?_⟩
  simp only [PyData.depth, PyData.shown]
  exact ReprK.tuple h1 h2 h3 out hk
theorem shd_cons {u : Value} {us : List Value} {p : PyData} (x : Shd P w h u p) (y : ShdAll P w h us ps) : ShdAll P w h (u :: us) (p :: ps) := by
  obtain ⟨⟨as, r⟩, b1, hb1, k1⟩ := x
  obtain ⟨⟨bs, rs⟩, b2, hb2, k2⟩ := y
  refine ⟨⟨_, .cons r rs⟩, b1 ++ b2, ?_, ?_⟩
  · simp only [PyData.depthAll]
    exact (hb1.mono (Nat.le_max_left _ _)).append (hb2.mono (Nat.le_max_right _ _))
  · simp only [PyData.depthAll, PyData.shownAll]
    exact .cons ((k1.more fun b hb => List.mem_append_left _ hb).level_le (Nat.le_max_left _ _)) (k2.more_le (fun b hb => List.mem_append_right _ hb) (Nat.le_max_right _ _))
theorem shd_nil : ShdAll P w h [] [] := ⟨⟨_, .nil⟩, [], fun _ z => (nomatch z), .nil⟩
theorem shd_dict0 {ep : Nat} {es : Array DictEntry} (h1 : h.get? a = some o) (h2 : o.cls = .type "dict") (h3 : o.data = .dict es ep) (he : es.toList = []) (hs : (a == sysModules) = false) : Shd P w h (.ref a) (.dict []) := by
  have rr : Reads h (.ref a) (.dict []) _ := .dict (kvs := []) h1 h2 h3 (by rw [he]; exact .nil) (by rw [he]; exact .nil)
  refine ⟨⟨_, rr⟩, [a], ReadAtMost.cons (n := 0) rr (Nat.zero_le _) (fun _ z => nomatch z), ?_⟩
  simp only [PyData.depth, PyData.depthKv, PyData.shown, PyData.shownKv]
  exact ReprK.dict h1 h2 h3 hs (fun z => nomatch z) (by rw [he]; exact .nil)
theorem shd_of_is {u : Value} {p : PyData} {as : List Addr} (r : Reads h u p as) (k : ReprIs P w u p.shown) : Shd P w h u p := ⟨⟨_, r⟩, [], fun _ z => (nomatch z), .of_is k _ _ _⟩
end
mutual
def toR : D → Option PyData
  | .non => some .none
  | .bl b => some (.bool b)
  | .int i => some (.int i)
  | .str s => some (.str s)
  | .lst xs | .rl xs => (toRs xs).map .list
  | .tup xs => (toRs xs).map .tuple
  | .dct [] => some (.dict [])
  | _ => none
def toRs : List D → Option (List PyData)
  | [] => some []
  | d :: ds => match toR d, toRs ds with
    | some p, some ps => some (p :: ps)
    | _, _ => none
end
section
variable {X : Cx} {pins : List (Addr × Obj)} {σ : L2.St} {H : Hp} {s : Shared} {as : Ar}
mutual
theorem Rep.shd (I : Inv X pins σ H s) : ∀ {v : V} {d : D} {p : PyData} {u : Value}, Rep X.K as H v d → toR d = some p → RelV v u → p.showable = true → p.shown.length ≤ sizeLine → Shd X.prog X.w s.heap u p
  | _, _, _, u, .non, e, r, hs, hz => by simp only [toR] at e; cases e; cases r; exact shd_of_is .none (by simp only [PyData.shown]; exact ReprIs.none)
  | _, _, _, u, .bl b, e, r, hs, hz => by simp only [toR] at e; cases e; cases r; exact shd_of_is (.bool b) (by simp only [PyData.shown]; exact ReprIs.bool b)
  | _, _, _, u, .int i, e, r, hs, hz => by
    simp only [toR] at e; cases e
    obtain ⟨t, rfl⟩ := r
    exact shd_of_is (.int i t) (by simp only [PyData.shown]; exact ReprIs.int t (by simpa [PyData.showable] using hs))
  | _, _, _, u, .str x, e, r, hs, hz => by
    simp only [toR] at e; cases e
    obtain ⟨t, rfl⟩ := r
    exact shd_of_is (.str x t) (by simp only [PyData.shown]; exact ReprIs.str x t (by simpa only [PyData.shown] using hz))
  | _, _, _, u, .ty n, e, _, _, _ => by simp only [toR] at e; cases e
  | _, _, _, u, .h _, e, _, _, _ => by simp only [toR] at e; cases e
  | _, _, _, u, .exc _ _ _, e, _, _, _ => by simp only [toR] at e; cases e
  | _, _, _, u, .exf _ _ _ _ _ _, e, _, _, _ => by simp only [toR] at e; cases e
  | _, _, _, u, .lst t n rs, e, r, hs, hz => by
    simp only [toR] at e
    obtain ⟨ps, e1, rfl⟩ := Option.map_eq_some_iff.mp e
    cases r
    obtain ⟨its, rv, ⟨o, n, ho, hc, _, hd⟩, _⟩ := I.list (SqL.of t)
    exact shd_list ho hc hd (Reps.shd I rs e1 rv (by simpa [PyData.showable] using hs) fun t ht => Nat.le_trans (listText_mem_le ht) (by simpa only [PyData.shown] using hz))
  | _, _, _, u, .rl t rs, e, r, hs, hz => by
    simp only [toR] at e
    obtain ⟨ps, e1, rfl⟩ := Option.map_eq_some_iff.mp e
    cases r
    obtain ⟨its, rv, ⟨o, n, ho, hc, _, hd⟩, _⟩ := I.list t.sq
    exact shd_list ho hc hd (Reps.shd I rs e1 rv (by simpa [PyData.showable] using hs) fun t ht => Nat.le_trans (listText_mem_le ht) (by simpa only [PyData.shown] using hz))
  | _, _, _, u, .tup t rs, e, r, hs, hz => by
    simp only [toR] at e
    obtain ⟨ps, e1, rfl⟩ := Option.map_eq_some_iff.mp e
    cases r
    obtain ⟨its, rv, ⟨o, ho, hc, n, hd⟩, _⟩ := I.tuple t.sq
    exact shd_tuple ho hc hd (Reps.shd I rs e1 rv (by simpa [PyData.showable] using hs) fun t ht => Nat.le_trans (tupleText_mem_le ht) (by simpa only [PyData.shown] using hz))
  | _, .dct ds, _, u, .dct (kvs := kvs) t n ek rs, e, r, hs, hz => by
    cases ds with
    | cons _ _ => simp only [toR] at e; cases e
    | nil =>
      simp only [toR] at e
      cases e
      cases r
      have ek' : kvs = [] := by simpa using ek
      subst ek'
      obtain ⟨_, hsys, vs, rel, o, es, ep, h1, hx, h3, _, pr, _⟩ := dk_of I.hok t
      cases rel
      have he : es.toList = [] := by
        generalize es.toList = l at pr
        cases pr
        rfl
      exact shd_dict0 h1 hx.1 h3 he hsys
theorem Reps.shd (I : Inv X pins σ H s) : ∀ {vs : List V} {ds : List D} {ps : List PyData} {us : List Value}, Reps X.K as H vs ds → toRs ds = some ps → Vals vs us → PyData.showableAll ps = true → (∀ t ∈ PyData.shownAll ps, t.length ≤ sizeLine) → ShdAll X.prog X.w s.heap us ps
  | _, _, _, _, .nil, e, r, _, _ => by simp only [toRs] at e; cases e; cases r; exact shd_nil
  | _, _, _, _, .cons h t, e, r, hs, hz => by
    simp only [toRs] at e
    split at e
    · rename_i p ps e1 e2
      cases e
      cases r with
      | cons r1 r2 =>
        have hs' : p.showable = true ∧ PyData.showableAll ps = true := by simpa [PyData.showableAll] using hs
        exact shd_cons (Rep.shd I h e1 r1 hs'.1 (hz _ (by simp only [PyData.shownAll]; exact List.mem_cons_self))) (Reps.shd I t e2 r2 hs'.2 fun z hm => hz z (by simp only [PyData.shownAll]; exact List.mem_cons_of_mem _ hm))
    · cases e
end
end

section
variable {P : Program} {w : World} {h : Heap} {a : Addr} {o : Obj} {vs : Array Value} {n : Nat} {ps : List PyData}
theorem shows_list (h1 : h.get? a = some o) (h2 : o.cls = .type "list") (h3 : o.data = .seq vs n) (k : ShdAll P w h vs.toList ps) (hz : (PyData.list ps).shown.length ≤ sizeLine) : ShowsBy P w h a (.list ps) "list" "list.__repr__" := by
  obtain ⟨⟨as, r⟩, bs, hb, hk⟩ := k
  have rr : Reads h (.ref a) (.list ps) _ := .list h1 h2 h3 r
  have out := not_mem_of_deeper rr (by simp only [PyData.depth]; omega) hb
  refine ⟨F.slot_list_repr.toG, F.slot_list_str, F.slot_list_format, fun s hk0 => ⟨o, hk0 _ _ h1, h2⟩, fun A E s Q hg hu hk0 hQ => ?_⟩
  simp only [PyData.depth] at hu
  simp only [PyData.shown] at hQ hz
  obtain ⟨l⟩ := vs
  cases l with
  | nil =>
    have r' : ReadsAll h [] ps as := r
    cases r'
    simp only [PyData.shownAll, listText_nil] at hQ
    exact call_list_repr_empty ⟨o, hk0 _ _ h1, h2⟩ (hk0 _ _ h1) h3 (hQ s.heap _ _ fun _ _ e => e)
  | cons x l => exact call_list_reprK h1 h2 h3 out (by simpa using hk.length_eq) (fun i y e => hk.item i y (by simpa using e)) hg (fun b _ => Clear.nil b) hu hk0 hQ hz
theorem shows_tuple (h1 : h.get? a = some o) (h2 : o.cls = .type "tuple") (h3 : o.data = .seq vs n) (k : ShdAll P w h vs.toList ps) (hz : (PyData.tuple ps).shown.length ≤ sizeLine) : ShowsBy P w h a (.tuple ps) "tuple" "tuple.__repr__" := by
  obtain ⟨⟨as, r⟩, bs, hb, hk⟩ := k
  have rr : Reads h (.ref a) (.tuple ps) _ := .tuple h1 h2 h3 r
  have out := not_mem_of_deeper rr (by simp only [PyData.depth]; omega) hb
  refine ⟨F.slot_tuple_repr, F.slot_tuple_str, F.slot_tuple_format, fun s hk0 => ⟨o, hk0 _ _ h1, h2⟩, fun A E s Q hg hu hk0 hQ => ?_⟩
  simp only [PyData.depth] at hu
  simp only [PyData.shown] at hQ hz
  exact call_tuple_reprK h1 h2 h3 out hk hg (fun b _ => Clear.nil b) hu hk0 hQ hz
end
section
variable {X : Cx}
def dReprR : D → List Cell → Option D
  | .bl b, _ => some (.str (reprB b))
  | .lst xs, _ => match toRs xs with
    | some ps => if PyData.showableAll ps = true ∧ (PyData.list ps).depth ≤ 62 ∧ (PyData.list ps).shown.length ≤ sizeLine then some (.str (PyData.list ps).shown) else none
    | none => none
  | .tup xs, _ => match toRs xs with
    | some ps => if PyData.showableAll ps = true ∧ (PyData.tuple ps).depth ≤ 62 ∧ (PyData.tuple ps).shown.length ≤ sizeLine then some (.str (PyData.tuple ps).shown) else none
    | none => none
  | _, _ => none
theorem call_reprRD (hgd : X.A.guards = some []) (hu : X.A.units + 64 < cLine) : CallR X (.builtin "repr") (rCD X.K (g1 dReprR)) := call1 fun pins s σ H x us Q as d μ z I r rd sto ez q => by
  unfold dReprR at ez
  obtain ⟨u, rfl, ru⟩ := Vals.one r
  split at ez
  · cases Option.some.inj ez
    cases rd
    cases ru
    exact PySem.P.repr_of_bool ⟨.str _, H, I.tok _, ⟨_, rfl⟩, q _ H .refl (.str _) sto⟩
  · split at ez
    · rename_i ps e1
      split at ez
      · rename_i hs
        cases Option.some.inj ez
        cases rd with
        | @lst a vs ds t n rs =>
          cases ru
          obtain ⟨its, rv, ⟨o, m, ho, hc, _, hd⟩, _⟩ := I.list (SqL.of t)
          have S := shows_list (P := X.prog) (w := X.w) ho hc hd (Reps.shd I rs e1 rv hs.1 fun t ht => Nat.le_trans (listText_mem_le ht) (by simpa only [PyData.shown] using hs.2.2)) hs.2.2
          exact call_repr_slot (by omega) (S.typeIs s fun _ _ e => e) S.slotRepr (S.call X.A.in1 _ s _ hgd (by show X.A.units + 1 + (PyData.list ps).depth < cLine; omega) (fun _ _ e => e) fun h' u' tk hk => ⟨_, _, rfl, .str _, H, I.kept hk, ⟨_, rfl⟩, q _ H .refl (.str _) sto⟩)
      · cases ez
    · cases ez
  · split at ez
    · rename_i ps e1
      split at ez
      · rename_i hs
        cases Option.some.inj ez
        cases rd with
        | @tup a vs ds t rs =>
          cases ru
          obtain ⟨its, rv, ⟨o, ho, hc, m, hd⟩, _⟩ := I.tuple t.sq
          have S := shows_tuple (P := X.prog) (w := X.w) ho hc hd (Reps.shd I rs e1 rv hs.1 fun t ht => Nat.le_trans (tupleText_mem_le ht) (by simpa only [PyData.shown] using hs.2.2)) hs.2.2
          exact call_repr_slot (by omega) (S.typeIs s fun _ _ e => e) S.slotRepr (S.call X.A.in1 _ s _ hgd (by show X.A.units + 1 + (PyData.tuple ps).depth < cLine; omega) (fun _ _ e => e) fun h' u' tk hk => ⟨_, _, rfl, .str _, H, I.kept hk, ⟨_, rfl⟩, q _ H .refl (.str _) sto⟩)
      · cases ez
    · cases ez
  · cases ez
end

section
variable {X : Cx} {W : WX} {fs : EvA}
/-- a, b = x, y -/
def sPar (i j : Nat) (fs : EvA) : EvS := fun S => match fs S with
  | some ([d, e], μ1) => if i < S.ρ.length ∧ j < S.ρ.length then some (.nx, ⟨(S.ρ.set i (some d)).set j (some e), μ1⟩) else none
  | _ => none
theorem ds_par {i j : Nat} {x y : Str} {a b : Expr} {px py pt pos : Pos} {kt k2 pt2} (hc : X.calm = true) (hN : X.N.Nodup) (hi : X.N[i]? = some x) (hj : X.N[j]? = some y) (hij : i ≠ j) (hx : X.env.scope.names.lookup x = some .local) (hy : X.env.scope.names.lookup y = some .local) (ha : PA X [a, b] (tFA X.K fs))
    (hw : swappedStores [.Tuple [.Name x px, .Name y py] kt pt] (.Tuple [a, b] k2 pt2) X.env = pure (some [x, y])) (hs : swapsWithSole [.Tuple [.Name x px, .Name y py] kt pt] (.Tuple [a, b] k2 pt2) pos.line X.env = pure false := by rfl) :
    PS X (.Assign [.Tuple [.Name x px, .Name y py] kt pt] (.Tuple [a, b] k2 pt2) pos) (tFS X.K X.mg W (sPar i j fs)) := (ps_par hc hN hi hj hij hx hy ha hw hs).imp fun D σ H ⟨as, S, fl, S', E, e, q⟩ => by
  unfold sPar at e
  split at e
  · rename_i d1 d2 μ1 ef
    split at e
    · rename_i hl
      obtain ⟨rfl, rfl⟩ := pr_inj e
      refine ⟨as, S, _, μ1, E, ef, fun vs as1 H1 X1 r1 s1 => ?_⟩
      cases r1 with
      | cons r1 rt =>
      cases rt with
      | cons r2 rt =>
      cases rt
      exact ⟨_, _, rfl, q as1 _ H1 X1 ⟨((E.env.mv X1).set r1 hl.1).set r2 (by rw [List.length_set]; exact hl.2), s1⟩⟩
    · cases e
  · cases e
theorem ws_par {i j : Nat} {ρ : List (Option D)} {μ : List Cell} {U : Fl → Sg → Prop} : WS (sPar i j fs) ⟨ρ, μ⟩ U ↔ WA fs ⟨ρ, μ⟩ fun ds μ1 => ∃ d e, ds = [d, e] ∧ (i < ρ.length ∧ j < ρ.length) ∧ U .nx ⟨(ρ.set i (some d)).set j (some e), μ1⟩ := by
  constructor
  · rintro ⟨fl, S', e, p⟩
    unfold sPar at e
    split at e
    · rename_i d1 d2 μ1 ef
      split at e
      · rename_i hl
        obtain ⟨rfl, rfl⟩ := pr_inj e
        exact ⟨_, μ1, ef, d1, d2, rfl, hl, p⟩
      · cases e
    · cases e
  · rintro ⟨ds, μ1, ef, d1, d2, rfl, hl, p⟩
    exact ⟨_, _, by unfold sPar; rw [ef]; simp only; rw [if_pos hl], p⟩
end
end DL
namespace DL
open PySem L2
theorem tab_ok {K : PySem.W.Frag} {cv : Value} : ∀ {names : List Str} {cs : List Addr} {bs : List Bool}, (names.map fun n => PySem.W.nsIn K mainGlobals n) = (cs.map fun C => some (some (Value.ref C))) → cs.all (xqB K) = true → (cs.map fun C => PySem.W.kitOne K (.ref C) cv) = bs.map some →
    ∀ n C b, List.lookup n (names.zip bs) = some b → PySem.W.nsIn K mainGlobals n = some (some (.ref C)) → XQ K C ∧ PySem.W.kitOne K (.ref C) cv = some b
  | [], cs, bs, _, _, _, n, C, b, e, _ => by simp at e
  | m :: names, [], bs, h1, _, _, n, C, b, e, _ => by simp at h1
  | m :: names, c :: cs, [], _, _, h3, n, C, b, e, _ => by simp at h3
  | m :: names, c :: cs, q :: bs, h1, h2, h3, n, C, b, e, hn => by
    simp only [List.map_cons, List.cons.injEq] at h1 h3
    rw [List.all_cons, Bool.and_eq_true] at h2
    rw [List.zip_cons_cons, List.lookup_cons] at e
    split at e
    · rename_i hm
      have hm' : n = m := by simpa using hm
      subst hm'
      have hb : q = b := Option.some.inj e
      subst hb
      have z := h1.1.symm.trans hn
      injection z with z
      injection z with z
      injection z with z
      subst z
      exact ⟨xqB_ok h2.1, h3.1⟩
    · exact tab_ok h1.2 h2.2 h3.2 n C b e hn
/-- what is asked of a class with a field at once -/
def clB (K : PySem.W.Frag) (C : Addr) (bm : List Value) (newId : String) (fl : Str) : Bool := PySem.W.excInitIn K C bm newId && (PySem.W.excOver K C bm && (PySem.W.hasDictIn K C && (decide (PySem.W.findIn K (.ref C) "__setattr__" = some (some (.builtin "object.__setattr__"))) && (PySem.W.keepIn K (.ref C) && (decide (PySem.W.takerIn K C fl = some none) && (decide (PySem.W.findIn K (.ref C) fl = some none) && xqB K C))))))
theorem clB_ok {K : PySem.W.Frag} {C : Addr} {bm : List Value} {newId : String} {fl : Str} (h : clB K C bm newId fl = true) : XCls K C bm newId ∧ PySem.W.takerIn K C fl = some none ∧ PySem.W.findIn K (.ref C) fl = some none ∧ XQ K C := by
  unfold clB at h
  simp only [Bool.and_eq_true, decide_eq_true_eq] at h
  obtain ⟨h1, h2, h3, h4, h5, h6, h7, h8⟩ := h
  exact ⟨⟨h1, h2, h3, h4, h5⟩, h6, h7, xqB_ok h8⟩
theorem gf_ok {K : PySem.W.Frag} {c : Addr} {bm : List Value} {newId : String} {fl m : Str} (a : PySem.W.nsIn K mainGlobals m = some (some (.ref c))) (h : clB K c bm newId fl = true) : ∀ n C, n ∈ [m] → PySem.W.nsIn K mainGlobals n = some (some (.ref C)) → XQ K C ∧ PySem.W.findIn K (.ref C) fl = some none := by
  intro n C hn hns
  have hn' : n = m := by simpa using hn
  subst hn'
  have z := a.symm.trans hns
  injection z with z
  injection z with z
  injection z with z
  subst z
  exact ⟨(clB_ok h).2.2.2, (clB_ok h).2.2.1⟩
end DL
namespace G
open PySem L2 DL PySem.F
def topS (i : Nat) : Stmt := PySem.Challenge.pw_deepenough_k00_errors_and_what_they_keep.main.body.getD i (.Pass ⟨0, 0, 0, 0⟩)
def clsS (s : Stmt) : Stmt := match s with
  | .ClassDef (body := b) .. => b.getD 0 (.Pass ⟨0, 0, 0, 0⟩)
  | _ => .Pass ⟨0, 0, 0, 0⟩
structure Txt (mg : Str → Option Value) : Prop where
  n_ArithmeticError : mg "ArithmeticError" = none
  n_IndexError : mg "IndexError" = none
  n_KeyError : mg "KeyError" = none
  n_LookupError : mg "LookupError" = none
  n_OverflowError : mg "OverflowError" = none
  n_ValueError : mg "ValueError" = none
  n_abs : mg "abs" = none
  n_int : mg "int" = none
  n_isinstance : mg "isinstance" = none
  n_len : mg "len" = none
  n_max : mg "max" = none
  n_min : mg "min" = none
  n_range : mg "range" = none
  n_repr : mg "repr" = none
abbrev si_ParseError : Stmt := clsS (topS 11)
abbrev si_UnknownName : Stmt := clsS (topS 12)
abbrev si_UnknownSite : Stmt := clsS (topS 13)
abbrev si_InvalidNumber : Stmt := clsS (topS 14)
abbrev si_NothingToUndo : Stmt := clsS (topS 15)
abbrev si_Refused : Stmt := clsS (topS 16)
abbrev si_TooMany : Stmt := clsS (topS 17)
def tab_ArithmeticError : Str → Option Bool := fun n => List.lookup n [("DepthError", false), ("InvalidProgram", false), ("InvalidRun", false), ("InvalidLimit", false), ("InvalidLimits", false), ("InvalidModes", false), ("InvalidRow", false), ("InvalidSign", false), ("InvalidOperation", false), ("InvalidCommand", false), ("ParseError", false), ("UnknownName", false), ("UnknownSite", false), ("InvalidNumber", false), ("NothingToUndo", false), ("Refused", true), ("TooMany", true)]
def tab_DepthError : Str → Option Bool := fun n => List.lookup n [("DepthError", true), ("InvalidProgram", true), ("InvalidRun", true), ("InvalidLimit", true), ("InvalidLimits", true), ("InvalidModes", true), ("InvalidRow", true), ("InvalidSign", true), ("InvalidOperation", true), ("InvalidCommand", true), ("ParseError", true), ("UnknownName", false), ("UnknownSite", false), ("InvalidNumber", false), ("NothingToUndo", false), ("Refused", false), ("TooMany", false)]
def tab_IndexError : Str → Option Bool := fun n => List.lookup n [("DepthError", false), ("InvalidProgram", false), ("InvalidRun", false), ("InvalidLimit", false), ("InvalidLimits", false), ("InvalidModes", false), ("InvalidRow", false), ("InvalidSign", false), ("InvalidOperation", false), ("InvalidCommand", false), ("ParseError", false), ("UnknownName", false), ("UnknownSite", false), ("InvalidNumber", true), ("NothingToUndo", false), ("Refused", false), ("TooMany", false)]
def tab_InvalidCommand : Str → Option Bool := fun n => List.lookup n [("DepthError", false), ("InvalidProgram", false), ("InvalidRun", false), ("InvalidLimit", false), ("InvalidLimits", false), ("InvalidModes", false), ("InvalidRow", false), ("InvalidSign", false), ("InvalidOperation", false), ("InvalidCommand", true), ("ParseError", false), ("UnknownName", false), ("UnknownSite", false), ("InvalidNumber", false), ("NothingToUndo", false), ("Refused", false), ("TooMany", false)]
def tab_InvalidLimit : Str → Option Bool := fun n => List.lookup n [("DepthError", false), ("InvalidProgram", false), ("InvalidRun", false), ("InvalidLimit", true), ("InvalidLimits", false), ("InvalidModes", false), ("InvalidRow", false), ("InvalidSign", false), ("InvalidOperation", false), ("InvalidCommand", false), ("ParseError", false), ("UnknownName", false), ("UnknownSite", false), ("InvalidNumber", false), ("NothingToUndo", false), ("Refused", false), ("TooMany", false)]
def tab_InvalidLimits : Str → Option Bool := fun n => List.lookup n [("DepthError", false), ("InvalidProgram", false), ("InvalidRun", false), ("InvalidLimit", false), ("InvalidLimits", true), ("InvalidModes", false), ("InvalidRow", false), ("InvalidSign", false), ("InvalidOperation", false), ("InvalidCommand", false), ("ParseError", false), ("UnknownName", false), ("UnknownSite", false), ("InvalidNumber", false), ("NothingToUndo", false), ("Refused", false), ("TooMany", false)]
def tab_InvalidModes : Str → Option Bool := fun n => List.lookup n [("DepthError", false), ("InvalidProgram", false), ("InvalidRun", false), ("InvalidLimit", false), ("InvalidLimits", false), ("InvalidModes", true), ("InvalidRow", false), ("InvalidSign", false), ("InvalidOperation", false), ("InvalidCommand", false), ("ParseError", false), ("UnknownName", false), ("UnknownSite", false), ("InvalidNumber", false), ("NothingToUndo", false), ("Refused", false), ("TooMany", false)]
def tab_InvalidNumber : Str → Option Bool := fun n => List.lookup n [("DepthError", false), ("InvalidProgram", false), ("InvalidRun", false), ("InvalidLimit", false), ("InvalidLimits", false), ("InvalidModes", false), ("InvalidRow", false), ("InvalidSign", false), ("InvalidOperation", false), ("InvalidCommand", false), ("ParseError", false), ("UnknownName", false), ("UnknownSite", false), ("InvalidNumber", true), ("NothingToUndo", false), ("Refused", false), ("TooMany", false)]
def tab_InvalidOperation : Str → Option Bool := fun n => List.lookup n [("DepthError", false), ("InvalidProgram", false), ("InvalidRun", false), ("InvalidLimit", false), ("InvalidLimits", false), ("InvalidModes", false), ("InvalidRow", false), ("InvalidSign", false), ("InvalidOperation", true), ("InvalidCommand", false), ("ParseError", false), ("UnknownName", false), ("UnknownSite", false), ("InvalidNumber", false), ("NothingToUndo", false), ("Refused", false), ("TooMany", false)]
def tab_InvalidProgram : Str → Option Bool := fun n => List.lookup n [("DepthError", false), ("InvalidProgram", true), ("InvalidRun", false), ("InvalidLimit", false), ("InvalidLimits", false), ("InvalidModes", false), ("InvalidRow", false), ("InvalidSign", false), ("InvalidOperation", false), ("InvalidCommand", false), ("ParseError", false), ("UnknownName", false), ("UnknownSite", false), ("InvalidNumber", false), ("NothingToUndo", false), ("Refused", false), ("TooMany", false)]
def tab_InvalidRow : Str → Option Bool := fun n => List.lookup n [("DepthError", false), ("InvalidProgram", false), ("InvalidRun", false), ("InvalidLimit", false), ("InvalidLimits", false), ("InvalidModes", false), ("InvalidRow", true), ("InvalidSign", false), ("InvalidOperation", false), ("InvalidCommand", false), ("ParseError", false), ("UnknownName", false), ("UnknownSite", false), ("InvalidNumber", false), ("NothingToUndo", false), ("Refused", false), ("TooMany", false)]
def tab_InvalidRun : Str → Option Bool := fun n => List.lookup n [("DepthError", false), ("InvalidProgram", false), ("InvalidRun", true), ("InvalidLimit", false), ("InvalidLimits", false), ("InvalidModes", false), ("InvalidRow", false), ("InvalidSign", false), ("InvalidOperation", false), ("InvalidCommand", false), ("ParseError", false), ("UnknownName", false), ("UnknownSite", false), ("InvalidNumber", false), ("NothingToUndo", false), ("Refused", false), ("TooMany", false)]
def tab_InvalidSign : Str → Option Bool := fun n => List.lookup n [("DepthError", false), ("InvalidProgram", false), ("InvalidRun", false), ("InvalidLimit", false), ("InvalidLimits", false), ("InvalidModes", false), ("InvalidRow", false), ("InvalidSign", true), ("InvalidOperation", false), ("InvalidCommand", false), ("ParseError", false), ("UnknownName", false), ("UnknownSite", false), ("InvalidNumber", false), ("NothingToUndo", false), ("Refused", false), ("TooMany", false)]
def tab_KeyError : Str → Option Bool := fun n => List.lookup n [("DepthError", false), ("InvalidProgram", false), ("InvalidRun", false), ("InvalidLimit", false), ("InvalidLimits", false), ("InvalidModes", false), ("InvalidRow", false), ("InvalidSign", false), ("InvalidOperation", false), ("InvalidCommand", false), ("ParseError", false), ("UnknownName", true), ("UnknownSite", true), ("InvalidNumber", false), ("NothingToUndo", false), ("Refused", false), ("TooMany", false)]
def tab_LookupError : Str → Option Bool := fun n => List.lookup n [("DepthError", false), ("InvalidProgram", false), ("InvalidRun", false), ("InvalidLimit", false), ("InvalidLimits", false), ("InvalidModes", false), ("InvalidRow", false), ("InvalidSign", false), ("InvalidOperation", false), ("InvalidCommand", false), ("ParseError", false), ("UnknownName", true), ("UnknownSite", true), ("InvalidNumber", true), ("NothingToUndo", true), ("Refused", false), ("TooMany", false)]
def tab_NothingToUndo : Str → Option Bool := fun n => List.lookup n [("DepthError", false), ("InvalidProgram", false), ("InvalidRun", false), ("InvalidLimit", false), ("InvalidLimits", false), ("InvalidModes", false), ("InvalidRow", false), ("InvalidSign", false), ("InvalidOperation", false), ("InvalidCommand", false), ("ParseError", false), ("UnknownName", false), ("UnknownSite", false), ("InvalidNumber", false), ("NothingToUndo", true), ("Refused", false), ("TooMany", false)]
def tab_OverflowError : Str → Option Bool := fun n => List.lookup n [("DepthError", false), ("InvalidProgram", false), ("InvalidRun", false), ("InvalidLimit", false), ("InvalidLimits", false), ("InvalidModes", false), ("InvalidRow", false), ("InvalidSign", false), ("InvalidOperation", false), ("InvalidCommand", false), ("ParseError", false), ("UnknownName", false), ("UnknownSite", false), ("InvalidNumber", false), ("NothingToUndo", false), ("Refused", false), ("TooMany", true)]
def tab_ParseError : Str → Option Bool := fun n => List.lookup n [("DepthError", false), ("InvalidProgram", false), ("InvalidRun", false), ("InvalidLimit", false), ("InvalidLimits", false), ("InvalidModes", false), ("InvalidRow", false), ("InvalidSign", false), ("InvalidOperation", false), ("InvalidCommand", false), ("ParseError", true), ("UnknownName", false), ("UnknownSite", false), ("InvalidNumber", false), ("NothingToUndo", false), ("Refused", false), ("TooMany", false)]
def tab_Refused : Str → Option Bool := fun n => List.lookup n [("DepthError", false), ("InvalidProgram", false), ("InvalidRun", false), ("InvalidLimit", false), ("InvalidLimits", false), ("InvalidModes", false), ("InvalidRow", false), ("InvalidSign", false), ("InvalidOperation", false), ("InvalidCommand", false), ("ParseError", false), ("UnknownName", false), ("UnknownSite", false), ("InvalidNumber", false), ("NothingToUndo", false), ("Refused", true), ("TooMany", false)]
def tab_TooMany : Str → Option Bool := fun n => List.lookup n [("DepthError", false), ("InvalidProgram", false), ("InvalidRun", false), ("InvalidLimit", false), ("InvalidLimits", false), ("InvalidModes", false), ("InvalidRow", false), ("InvalidSign", false), ("InvalidOperation", false), ("InvalidCommand", false), ("ParseError", false), ("UnknownName", false), ("UnknownSite", false), ("InvalidNumber", false), ("NothingToUndo", false), ("Refused", false), ("TooMany", true)]
def tab_UnknownName : Str → Option Bool := fun n => List.lookup n [("DepthError", false), ("InvalidProgram", false), ("InvalidRun", false), ("InvalidLimit", false), ("InvalidLimits", false), ("InvalidModes", false), ("InvalidRow", false), ("InvalidSign", false), ("InvalidOperation", false), ("InvalidCommand", false), ("ParseError", false), ("UnknownName", true), ("UnknownSite", false), ("InvalidNumber", false), ("NothingToUndo", false), ("Refused", false), ("TooMany", false)]
def tab_UnknownSite : Str → Option Bool := fun n => List.lookup n [("DepthError", false), ("InvalidProgram", false), ("InvalidRun", false), ("InvalidLimit", false), ("InvalidLimits", false), ("InvalidModes", false), ("InvalidRow", false), ("InvalidSign", false), ("InvalidOperation", false), ("InvalidCommand", false), ("ParseError", false), ("UnknownName", false), ("UnknownSite", true), ("InvalidNumber", false), ("NothingToUndo", false), ("Refused", false), ("TooMany", false)]
def tab_ValueError : Str → Option Bool := fun n => List.lookup n [("DepthError", true), ("InvalidProgram", true), ("InvalidRun", true), ("InvalidLimit", true), ("InvalidLimits", true), ("InvalidModes", true), ("InvalidRow", true), ("InvalidSign", true), ("InvalidOperation", true), ("InvalidCommand", true), ("ParseError", true), ("UnknownName", false), ("UnknownSite", false), ("InvalidNumber", false), ("NothingToUndo", false), ("Refused", false), ("TooMany", false)]
structure TC (P : Program) (w : World) (K : PySem.W.Frag) (mg : Str → Option Value) (base : Heap) (c_DepthError c_InvalidProgram c_InvalidRun c_InvalidLimit c_InvalidLimits c_InvalidModes c_InvalidRow c_InvalidSign c_InvalidOperation c_InvalidCommand c_ParseError c_UnknownName c_UnknownSite c_InvalidNumber c_NothingToUndo c_Refused c_TooMany i_ParseError i_UnknownName i_UnknownSite i_InvalidNumber i_NothingToUndo i_Refused i_TooMany : Addr) (d_ParseError d_UnknownName d_UnknownSite d_InvalidNumber d_NothingToUndo d_Refused d_TooMany : FuncData) : Prop where
  ns_DepthError : PySem.W.nsIn K mainGlobals "DepthError" = some (some (.ref c_DepthError))
  m_DepthError : mg "DepthError" = some (.ref c_DepthError)
  k_DepthError : PySem.W.keepIn K (.ref c_DepthError) = true
  q_DepthError : PySem.W.excIn K c_DepthError [.type "ValueError", .type "Exception", .type "BaseException", .type "object"] "ValueError.__new__" = true
  ns_InvalidProgram : PySem.W.nsIn K mainGlobals "InvalidProgram" = some (some (.ref c_InvalidProgram))
  m_InvalidProgram : mg "InvalidProgram" = some (.ref c_InvalidProgram)
  k_InvalidProgram : PySem.W.keepIn K (.ref c_InvalidProgram) = true
  q_InvalidProgram : PySem.W.excIn K c_InvalidProgram [.type "ValueError", .type "Exception", .type "BaseException", .type "object"] "ValueError.__new__" = true
  ns_InvalidRun : PySem.W.nsIn K mainGlobals "InvalidRun" = some (some (.ref c_InvalidRun))
  m_InvalidRun : mg "InvalidRun" = some (.ref c_InvalidRun)
  k_InvalidRun : PySem.W.keepIn K (.ref c_InvalidRun) = true
  q_InvalidRun : PySem.W.excIn K c_InvalidRun [.type "ValueError", .type "Exception", .type "BaseException", .type "object"] "ValueError.__new__" = true
  ns_InvalidLimit : PySem.W.nsIn K mainGlobals "InvalidLimit" = some (some (.ref c_InvalidLimit))
  m_InvalidLimit : mg "InvalidLimit" = some (.ref c_InvalidLimit)
  k_InvalidLimit : PySem.W.keepIn K (.ref c_InvalidLimit) = true
  q_InvalidLimit : PySem.W.excIn K c_InvalidLimit [.type "ValueError", .type "Exception", .type "BaseException", .type "object"] "ValueError.__new__" = true
  ns_InvalidLimits : PySem.W.nsIn K mainGlobals "InvalidLimits" = some (some (.ref c_InvalidLimits))
  m_InvalidLimits : mg "InvalidLimits" = some (.ref c_InvalidLimits)
  k_InvalidLimits : PySem.W.keepIn K (.ref c_InvalidLimits) = true
  q_InvalidLimits : PySem.W.excIn K c_InvalidLimits [.type "ValueError", .type "Exception", .type "BaseException", .type "object"] "ValueError.__new__" = true
  ns_InvalidModes : PySem.W.nsIn K mainGlobals "InvalidModes" = some (some (.ref c_InvalidModes))
  m_InvalidModes : mg "InvalidModes" = some (.ref c_InvalidModes)
  k_InvalidModes : PySem.W.keepIn K (.ref c_InvalidModes) = true
  q_InvalidModes : PySem.W.excIn K c_InvalidModes [.type "ValueError", .type "Exception", .type "BaseException", .type "object"] "ValueError.__new__" = true
  ns_InvalidRow : PySem.W.nsIn K mainGlobals "InvalidRow" = some (some (.ref c_InvalidRow))
  m_InvalidRow : mg "InvalidRow" = some (.ref c_InvalidRow)
  k_InvalidRow : PySem.W.keepIn K (.ref c_InvalidRow) = true
  q_InvalidRow : PySem.W.excIn K c_InvalidRow [.type "ValueError", .type "Exception", .type "BaseException", .type "object"] "ValueError.__new__" = true
  ns_InvalidSign : PySem.W.nsIn K mainGlobals "InvalidSign" = some (some (.ref c_InvalidSign))
  m_InvalidSign : mg "InvalidSign" = some (.ref c_InvalidSign)
  k_InvalidSign : PySem.W.keepIn K (.ref c_InvalidSign) = true
  q_InvalidSign : PySem.W.excIn K c_InvalidSign [.type "ValueError", .type "Exception", .type "BaseException", .type "object"] "ValueError.__new__" = true
  ns_InvalidOperation : PySem.W.nsIn K mainGlobals "InvalidOperation" = some (some (.ref c_InvalidOperation))
  m_InvalidOperation : mg "InvalidOperation" = some (.ref c_InvalidOperation)
  k_InvalidOperation : PySem.W.keepIn K (.ref c_InvalidOperation) = true
  q_InvalidOperation : PySem.W.excIn K c_InvalidOperation [.type "ValueError", .type "Exception", .type "BaseException", .type "object"] "ValueError.__new__" = true
  ns_InvalidCommand : PySem.W.nsIn K mainGlobals "InvalidCommand" = some (some (.ref c_InvalidCommand))
  m_InvalidCommand : mg "InvalidCommand" = some (.ref c_InvalidCommand)
  k_InvalidCommand : PySem.W.keepIn K (.ref c_InvalidCommand) = true
  q_InvalidCommand : PySem.W.excIn K c_InvalidCommand [.type "ValueError", .type "Exception", .type "BaseException", .type "object"] "ValueError.__new__" = true
  ns_ParseError : PySem.W.nsIn K mainGlobals "ParseError" = some (some (.ref c_ParseError))
  m_ParseError : mg "ParseError" = some (.ref c_ParseError)
  x_ParseError : XCls K c_ParseError [.type "ValueError", .type "Exception", .type "BaseException", .type "object"] "ValueError.__new__"
  j_ParseError : PySem.W.findIn K (.ref c_ParseError) "__init__" = some (some (.ref i_ParseError))
  t_ParseError : PySem.W.typeIn K (.ref i_ParseError) = some (.type "function")
  f_ParseError : FnOk P w K mg base CX0 1 i_ParseError d_ParseError ["self", "line"] (spF K c_ParseError "line")
  b_ParseError : Binds K d_ParseError ["self", "line"] []
  gf_ParseError : ∀ n C, n ∈ (["ParseError"] : List Str) → PySem.W.nsIn K mainGlobals n = some (some (.ref C)) → XQ K C ∧ PySem.W.findIn K (.ref C) "line" = some none
  ns_UnknownName : PySem.W.nsIn K mainGlobals "UnknownName" = some (some (.ref c_UnknownName))
  m_UnknownName : mg "UnknownName" = some (.ref c_UnknownName)
  x_UnknownName : XCls K c_UnknownName [.type "KeyError", .type "LookupError", .type "Exception", .type "BaseException", .type "object"] "LookupError.__new__"
  j_UnknownName : PySem.W.findIn K (.ref c_UnknownName) "__init__" = some (some (.ref i_UnknownName))
  t_UnknownName : PySem.W.typeIn K (.ref i_UnknownName) = some (.type "function")
  f_UnknownName : FnOk P w K mg base CX0 1 i_UnknownName d_UnknownName ["self", "name"] (spF K c_UnknownName "name")
  b_UnknownName : Binds K d_UnknownName ["self", "name"] []
  gf_UnknownName : ∀ n C, n ∈ (["UnknownName"] : List Str) → PySem.W.nsIn K mainGlobals n = some (some (.ref C)) → XQ K C ∧ PySem.W.findIn K (.ref C) "name" = some none
  ns_UnknownSite : PySem.W.nsIn K mainGlobals "UnknownSite" = some (some (.ref c_UnknownSite))
  m_UnknownSite : mg "UnknownSite" = some (.ref c_UnknownSite)
  x_UnknownSite : XCls K c_UnknownSite [.type "KeyError", .type "LookupError", .type "Exception", .type "BaseException", .type "object"] "LookupError.__new__"
  j_UnknownSite : PySem.W.findIn K (.ref c_UnknownSite) "__init__" = some (some (.ref i_UnknownSite))
  t_UnknownSite : PySem.W.typeIn K (.ref i_UnknownSite) = some (.type "function")
  f_UnknownSite : FnOk P w K mg base CX0 1 i_UnknownSite d_UnknownSite ["self", "site"] (spF K c_UnknownSite "site")
  b_UnknownSite : Binds K d_UnknownSite ["self", "site"] []
  gf_UnknownSite : ∀ n C, n ∈ (["UnknownSite"] : List Str) → PySem.W.nsIn K mainGlobals n = some (some (.ref C)) → XQ K C ∧ PySem.W.findIn K (.ref C) "site" = some none
  ns_InvalidNumber : PySem.W.nsIn K mainGlobals "InvalidNumber" = some (some (.ref c_InvalidNumber))
  m_InvalidNumber : mg "InvalidNumber" = some (.ref c_InvalidNumber)
  x_InvalidNumber : XCls K c_InvalidNumber [.type "IndexError", .type "LookupError", .type "Exception", .type "BaseException", .type "object"] "IndexError.__new__"
  j_InvalidNumber : PySem.W.findIn K (.ref c_InvalidNumber) "__init__" = some (some (.ref i_InvalidNumber))
  t_InvalidNumber : PySem.W.typeIn K (.ref i_InvalidNumber) = some (.type "function")
  f_InvalidNumber : FnOk P w K mg base CX0 1 i_InvalidNumber d_InvalidNumber ["self", "value"] (spF K c_InvalidNumber "value")
  b_InvalidNumber : Binds K d_InvalidNumber ["self", "value"] []
  gf_InvalidNumber : ∀ n C, n ∈ (["InvalidNumber"] : List Str) → PySem.W.nsIn K mainGlobals n = some (some (.ref C)) → XQ K C ∧ PySem.W.findIn K (.ref C) "value" = some none
  ns_NothingToUndo : PySem.W.nsIn K mainGlobals "NothingToUndo" = some (some (.ref c_NothingToUndo))
  m_NothingToUndo : mg "NothingToUndo" = some (.ref c_NothingToUndo)
  x_NothingToUndo : XCls K c_NothingToUndo [.type "LookupError", .type "Exception", .type "BaseException", .type "object"] "LookupError.__new__"
  j_NothingToUndo : PySem.W.findIn K (.ref c_NothingToUndo) "__init__" = some (some (.ref i_NothingToUndo))
  t_NothingToUndo : PySem.W.typeIn K (.ref i_NothingToUndo) = some (.type "function")
  f_NothingToUndo : FnOk P w K mg base CX0 1 i_NothingToUndo d_NothingToUndo ["self", "many"] (spF K c_NothingToUndo "many")
  b_NothingToUndo : Binds K d_NothingToUndo ["self", "many"] []
  gf_NothingToUndo : ∀ n C, n ∈ (["NothingToUndo"] : List Str) → PySem.W.nsIn K mainGlobals n = some (some (.ref C)) → XQ K C ∧ PySem.W.findIn K (.ref C) "many" = some none
  ns_Refused : PySem.W.nsIn K mainGlobals "Refused" = some (some (.ref c_Refused))
  m_Refused : mg "Refused" = some (.ref c_Refused)
  x_Refused : XCls K c_Refused [.type "ArithmeticError", .type "Exception", .type "BaseException", .type "object"] "ArithmeticError.__new__"
  j_Refused : PySem.W.findIn K (.ref c_Refused) "__init__" = some (some (.ref i_Refused))
  t_Refused : PySem.W.typeIn K (.ref i_Refused) = some (.type "function")
  f_Refused : FnOk P w K mg base CX0 1 i_Refused d_Refused ["self", "name"] (spF K c_Refused "name")
  b_Refused : Binds K d_Refused ["self", "name"] []
  gf_Refused : ∀ n C, n ∈ (["Refused"] : List Str) → PySem.W.nsIn K mainGlobals n = some (some (.ref C)) → XQ K C ∧ PySem.W.findIn K (.ref C) "name" = some none
  ns_TooMany : PySem.W.nsIn K mainGlobals "TooMany" = some (some (.ref c_TooMany))
  m_TooMany : mg "TooMany" = some (.ref c_TooMany)
  x_TooMany : XCls K c_TooMany [.type "OverflowError", .type "ArithmeticError", .type "Exception", .type "BaseException", .type "object"] "OverflowError.__new__"
  j_TooMany : PySem.W.findIn K (.ref c_TooMany) "__init__" = some (some (.ref i_TooMany))
  t_TooMany : PySem.W.typeIn K (.ref i_TooMany) = some (.type "function")
  f_TooMany : FnOk P w K mg base CX0 1 i_TooMany d_TooMany ["self", "limit"] (spF K c_TooMany "limit")
  b_TooMany : Binds K d_TooMany ["self", "limit"] []
  gf_TooMany : ∀ n C, n ∈ (["TooMany"] : List Str) → PySem.W.nsIn K mainGlobals n = some (some (.ref C)) → XQ K C ∧ PySem.W.findIn K (.ref C) "limit" = some none
  tb_ArithmeticError : ∀ n C b, tab_ArithmeticError n = some b → PySem.W.nsIn K mainGlobals n = some (some (.ref C)) → XQ K C ∧ PySem.W.kitOne K (.ref C) (.type "ArithmeticError") = some b
  tb_DepthError : ∀ n C b, tab_DepthError n = some b → PySem.W.nsIn K mainGlobals n = some (some (.ref C)) → XQ K C ∧ PySem.W.kitOne K (.ref C) (.ref c_DepthError) = some b
  tb_IndexError : ∀ n C b, tab_IndexError n = some b → PySem.W.nsIn K mainGlobals n = some (some (.ref C)) → XQ K C ∧ PySem.W.kitOne K (.ref C) (.type "IndexError") = some b
  tb_InvalidCommand : ∀ n C b, tab_InvalidCommand n = some b → PySem.W.nsIn K mainGlobals n = some (some (.ref C)) → XQ K C ∧ PySem.W.kitOne K (.ref C) (.ref c_InvalidCommand) = some b
  tb_InvalidLimit : ∀ n C b, tab_InvalidLimit n = some b → PySem.W.nsIn K mainGlobals n = some (some (.ref C)) → XQ K C ∧ PySem.W.kitOne K (.ref C) (.ref c_InvalidLimit) = some b
  tb_InvalidLimits : ∀ n C b, tab_InvalidLimits n = some b → PySem.W.nsIn K mainGlobals n = some (some (.ref C)) → XQ K C ∧ PySem.W.kitOne K (.ref C) (.ref c_InvalidLimits) = some b
  tb_InvalidModes : ∀ n C b, tab_InvalidModes n = some b → PySem.W.nsIn K mainGlobals n = some (some (.ref C)) → XQ K C ∧ PySem.W.kitOne K (.ref C) (.ref c_InvalidModes) = some b
  tb_InvalidNumber : ∀ n C b, tab_InvalidNumber n = some b → PySem.W.nsIn K mainGlobals n = some (some (.ref C)) → XQ K C ∧ PySem.W.kitOne K (.ref C) (.ref c_InvalidNumber) = some b
  tb_InvalidOperation : ∀ n C b, tab_InvalidOperation n = some b → PySem.W.nsIn K mainGlobals n = some (some (.ref C)) → XQ K C ∧ PySem.W.kitOne K (.ref C) (.ref c_InvalidOperation) = some b
  tb_InvalidProgram : ∀ n C b, tab_InvalidProgram n = some b → PySem.W.nsIn K mainGlobals n = some (some (.ref C)) → XQ K C ∧ PySem.W.kitOne K (.ref C) (.ref c_InvalidProgram) = some b
  tb_InvalidRow : ∀ n C b, tab_InvalidRow n = some b → PySem.W.nsIn K mainGlobals n = some (some (.ref C)) → XQ K C ∧ PySem.W.kitOne K (.ref C) (.ref c_InvalidRow) = some b
  tb_InvalidRun : ∀ n C b, tab_InvalidRun n = some b → PySem.W.nsIn K mainGlobals n = some (some (.ref C)) → XQ K C ∧ PySem.W.kitOne K (.ref C) (.ref c_InvalidRun) = some b
  tb_InvalidSign : ∀ n C b, tab_InvalidSign n = some b → PySem.W.nsIn K mainGlobals n = some (some (.ref C)) → XQ K C ∧ PySem.W.kitOne K (.ref C) (.ref c_InvalidSign) = some b
  tb_KeyError : ∀ n C b, tab_KeyError n = some b → PySem.W.nsIn K mainGlobals n = some (some (.ref C)) → XQ K C ∧ PySem.W.kitOne K (.ref C) (.type "KeyError") = some b
  tb_LookupError : ∀ n C b, tab_LookupError n = some b → PySem.W.nsIn K mainGlobals n = some (some (.ref C)) → XQ K C ∧ PySem.W.kitOne K (.ref C) (.type "LookupError") = some b
  tb_NothingToUndo : ∀ n C b, tab_NothingToUndo n = some b → PySem.W.nsIn K mainGlobals n = some (some (.ref C)) → XQ K C ∧ PySem.W.kitOne K (.ref C) (.ref c_NothingToUndo) = some b
  tb_OverflowError : ∀ n C b, tab_OverflowError n = some b → PySem.W.nsIn K mainGlobals n = some (some (.ref C)) → XQ K C ∧ PySem.W.kitOne K (.ref C) (.type "OverflowError") = some b
  tb_ParseError : ∀ n C b, tab_ParseError n = some b → PySem.W.nsIn K mainGlobals n = some (some (.ref C)) → XQ K C ∧ PySem.W.kitOne K (.ref C) (.ref c_ParseError) = some b
  tb_Refused : ∀ n C b, tab_Refused n = some b → PySem.W.nsIn K mainGlobals n = some (some (.ref C)) → XQ K C ∧ PySem.W.kitOne K (.ref C) (.ref c_Refused) = some b
  tb_TooMany : ∀ n C b, tab_TooMany n = some b → PySem.W.nsIn K mainGlobals n = some (some (.ref C)) → XQ K C ∧ PySem.W.kitOne K (.ref C) (.ref c_TooMany) = some b
  tb_UnknownName : ∀ n C b, tab_UnknownName n = some b → PySem.W.nsIn K mainGlobals n = some (some (.ref C)) → XQ K C ∧ PySem.W.kitOne K (.ref C) (.ref c_UnknownName) = some b
  tb_UnknownSite : ∀ n C b, tab_UnknownSite n = some b → PySem.W.nsIn K mainGlobals n = some (some (.ref C)) → XQ K C ∧ PySem.W.kitOne K (.ref C) (.ref c_UnknownSite) = some b
  tb_ValueError : ∀ n C b, tab_ValueError n = some b → PySem.W.nsIn K mainGlobals n = some (some (.ref C)) → XQ K C ∧ PySem.W.kitOne K (.ref C) (.type "ValueError") = some b
section
variable {P : Program} {w : World} {K : PySem.W.Frag} {mg : Str → Option Value} {base : Heap} {c_DepthError c_InvalidProgram c_InvalidRun c_InvalidLimit c_InvalidLimits c_InvalidModes c_InvalidRow c_InvalidSign c_InvalidOperation c_InvalidCommand c_ParseError c_UnknownName c_UnknownSite c_InvalidNumber c_NothingToUndo c_Refused c_TooMany i_ParseError i_UnknownName i_UnknownSite i_InvalidNumber i_NothingToUndo i_Refused i_TooMany : Addr} {d_ParseError d_UnknownName d_UnknownSite d_InvalidNumber d_NothingToUndo d_Refused d_TooMany : FuncData}
/-! _law_plain_ones -/
abbrev s__law_plain_ones : Stmt := topS 24
abbrev N__law_plain_ones : List Str := ["word", "found"]
theorem sc__law_plain_ones : FnScope N__law_plain_ones ["word"] (defScope s__law_plain_ones) := ⟨rfl, rfl, rfl, by decide +kernel, rfl, by decide +kernel, by decide +kernel⟩
def g__law_plain_ones : EvS :=
  (sSeq (bThen (bName 1) (fApp gLst (fCons (fU (dExc "DepthError") (fV 0)) (fCons (fU (dExc "InvalidProgram") (fV 0)) (fCons (fU (dExc "InvalidRun") (fV 0)) (fCons (fU (dExc "InvalidLimit") (fV 0)) (fCons (fU (dExc "InvalidLimits") (fV 0)) fNil)))))))
  (sSeq (bThen (bName 1) (fB dAdd (fV 1) (fApp gLst (fCons (fU (dExc "InvalidModes") (fV 0)) (fCons (fU (dExc "InvalidRow") (fV 0)) (fCons (fU (dExc "InvalidSign") (fV 0)) fNil))))))
  (sRet (fB dAdd (fV 1) (fApp gLst (fCons (fU (dExc "InvalidOperation") (fV 0)) (fCons (fU (dExc "InvalidCommand") (fV 0)) fNil)))))))
def F__law_plain_ones : FnF := fnF 1 2 g__law_plain_ones
theorem ok__law_plain_ones {f : Addr} {fd : FuncData} (Fu : Fun K "_law_plain_ones" "_law_plain_ones" s__law_plain_ones f fd) (T : Txt mg) (CF : TC P w K mg base c_DepthError c_InvalidProgram c_InvalidRun c_InvalidLimit c_InvalidLimits c_InvalidModes c_InvalidRow c_InvalidSign c_InvalidOperation c_InvalidCommand c_ParseError c_UnknownName c_UnknownSite c_InvalidNumber c_NothingToUndo c_Refused c_TooMany i_ParseError i_UnknownName i_UnknownSite i_InvalidNumber i_NothingToUndo i_Refused i_TooMany d_ParseError d_UnknownName d_UnknownSite d_InvalidNumber d_NothingToUndo d_Refused d_TooMany) : FG P w K mg base 1 f fd 1 F__law_plain_ones :=
  fg_def (k := 0) Fu sc__law_plain_ones (fun _ _ _ _ _ _ us hl => match us, hl with | [_], _ => rfl) fun cdv A stk s H E hr hgd =>
      (dss_cons (ds_set (i := 1) sc__law_plain_ones.nd rfl (by first | exact .inl rfl | exact .inr rfl) (de_lst (da_cons (de_exc F.excBase_ValueError CF.q_DepthError CF.m_DepthError CF.ns_DepthError CF.k_DepthError rfl (de_var 0)) (da_cons (de_exc F.excBase_ValueError CF.q_InvalidProgram CF.m_InvalidProgram CF.ns_InvalidProgram CF.k_InvalidProgram rfl (de_var 0)) (da_cons (de_exc F.excBase_ValueError CF.q_InvalidRun CF.m_InvalidRun CF.ns_InvalidRun CF.k_InvalidRun rfl (de_var 0)) (da_cons (de_exc F.excBase_ValueError CF.q_InvalidLimit CF.m_InvalidLimit CF.ns_InvalidLimit CF.k_InvalidLimit rfl (de_var 0)) (da_cons (de_exc F.excBase_ValueError CF.q_InvalidLimits CF.m_InvalidLimits CF.ns_InvalidLimits CF.k_InvalidLimits rfl (de_var 0)) da_nil)))))))
      (dss_cons (ds_set (i := 1) sc__law_plain_ones.nd rfl (by first | exact .inl rfl | exact .inr rfl) (de_bin op_addD (de_var 1) (de_lst (da_cons (de_exc F.excBase_ValueError CF.q_InvalidModes CF.m_InvalidModes CF.ns_InvalidModes CF.k_InvalidModes rfl (de_var 0)) (da_cons (de_exc F.excBase_ValueError CF.q_InvalidRow CF.m_InvalidRow CF.ns_InvalidRow CF.k_InvalidRow rfl (de_var 0)) (da_cons (de_exc F.excBase_ValueError CF.q_InvalidSign CF.m_InvalidSign CF.ns_InvalidSign CF.k_InvalidSign rfl (de_var 0)) da_nil))))))
      (dss_one (ds_ret (de_bin op_addD (de_var 1) (de_lst (da_cons (de_exc F.excBase_ValueError CF.q_InvalidOperation CF.m_InvalidOperation CF.ns_InvalidOperation CF.k_InvalidOperation rfl (de_var 0)) (da_cons (de_exc F.excBase_ValueError CF.q_InvalidCommand CF.m_InvalidCommand CF.ns_InvalidCommand CF.k_InvalidCommand rfl (de_var 0)) da_nil))))))))
/-! _law_cast -/
abbrev s__law_cast : Stmt := topS 20
abbrev N__law_cast : List Str := ["die", "total", "found", "one", "two"]
theorem sc__law_cast : FnScope N__law_cast ["die", "total"] (defScope s__law_cast) := ⟨rfl, rfl, rfl, by decide +kernel, rfl, by decide +kernel, by decide +kernel⟩
def g__law_cast : EvS :=
  (sSeq (sIf (fTru (fB dGt (fB dIx (fV 0) (fC (.int 0))) (fC (.int 0)))) (sSeq (bThen (bName 2) (fB (dII gMod) (fApp (g1 dInt1) (fCons (fB dIx (fV 0) (fC (.int 0))) fNil)) (fV 1)))
  (sSeq (bThen (bSub (fV 0) (fC (.int 0))) (fB (dII gFdiv) (fB dIx (fV 0) (fC (.int 0))) (fV 1)))
  (sRet (fV 2)))) sNx)
  (sSeq (bThen (bSub (fV 0) (fC (.int 2))) (fB dAdd (fB dIx (fV 0) (fC (.int 2))) (fC (.int 1))))
  (sSeq (bThen (bName 3) (fB (dII gMod) (fApp (g1 dInt1) (fCons (fB dAdd (fB dIx (fV 0) (fC (.int 1))) (fB dMul (fC (.int 776531491)) (fB dIx (fV 0) (fC (.int 2))))) fNil)) (fC (.int 2305843009213693907))))
  (sSeq (bThen (bName 4) (fB dAdd (fB dMul (fB (dII gMod) (fApp (g1 dInt1) (fCons (fB dMul (fV 3) (fV 3)) fNil)) (fC (.int 1152921504606846619))) (fV 3)) (fB dMul (fC (.int 7057)) (fB dIx (fV 0) (fC (.int 2))))))
  (sRet (fB (dII gMod) (fApp (g1 dInt1) (fCons (fB (dII gFdiv) (fB (dII gMod) (fApp (g1 dInt1) (fCons (fB dAdd (fV 4) (fB dIx (fV 0) (fC (.int 1)))) fNil)) (fC (.int 8796093022091))) (fC (.int 32))) fNil)) (fV 1)))))))
def F__law_cast : FnF := fnF 2 5 g__law_cast
theorem ok__law_cast {f : Addr} {fd : FuncData} (Fu : Fun K "_law_cast" "_law_cast" s__law_cast f fd) (T : Txt mg) (CF : TC P w K mg base c_DepthError c_InvalidProgram c_InvalidRun c_InvalidLimit c_InvalidLimits c_InvalidModes c_InvalidRow c_InvalidSign c_InvalidOperation c_InvalidCommand c_ParseError c_UnknownName c_UnknownSite c_InvalidNumber c_NothingToUndo c_Refused c_TooMany i_ParseError i_UnknownName i_UnknownSite i_InvalidNumber i_NothingToUndo i_Refused i_TooMany d_ParseError d_UnknownName d_UnknownSite d_InvalidNumber d_NothingToUndo d_Refused d_TooMany) : FG P w K mg base 1 f fd 2 F__law_cast :=
  fg_def (k := 0) Fu sc__law_cast (fun _ _ _ _ _ _ us hl => match us, hl with | [_, _], _ => rfl) fun cdv A stk s H E hr hgd =>
      (dss_cons (ds_if (dt_cmp op_gtD (de_ix ix_D (de_var 0) de_int) de_int (nomark _) dOrd_bl) (dss_cons (ds_set (i := 2) sc__law_cast.nd rfl (by first | exact .inl rfl | exact .inr rfl) (de_bin op_modD (de_callTy call_intD rfl T.n_int (by decide +kernel) (da_cons (de_ix ix_D (de_var 0) de_int) da_nil)) (de_var 1)))
      (dss_cons (ds_asg (de_bin op_fdivD (de_ix ix_D (de_var 0) de_int) (de_var 1)) (dg_sub (de_var 0) de_int))
      (dss_one (ds_ret (de_var 2))))) dss_nil)
      (dss_cons (ds_asg (de_bin op_addD (de_ix ix_D (de_var 0) de_int) de_int) (dg_sub (de_var 0) de_int))
      (dss_cons (ds_set (i := 3) sc__law_cast.nd rfl (by first | exact .inl rfl | exact .inr rfl) (de_bin op_modD (de_callTy call_intD rfl T.n_int (by decide +kernel) (da_cons (de_bin op_addD (de_ix ix_D (de_var 0) de_int) (de_bin op_mulD de_int (de_ix ix_D (de_var 0) de_int))) da_nil)) de_int))
      (dss_cons (ds_set (i := 4) sc__law_cast.nd rfl (by first | exact .inl rfl | exact .inr rfl) (de_bin op_addD (de_bin op_mulD (de_bin op_modD (de_callTy call_intD rfl T.n_int (by decide +kernel) (da_cons (de_bin op_mulD (de_var 3) (de_var 3)) da_nil)) de_int) (de_var 3)) (de_bin op_mulD de_int (de_ix ix_D (de_var 0) de_int))))
      (dss_one (ds_ret (de_bin op_modD (de_callTy call_intD rfl T.n_int (by decide +kernel) (da_cons (de_bin op_fdivD (de_bin op_modD (de_callTy call_intD rfl T.n_int (by decide +kernel) (da_cons (de_bin op_addD (de_var 4) (de_ix ix_D (de_var 0) de_int)) da_nil)) de_int) de_int) da_nil)) (de_var 1))))))))
/-! _law_pick -/
abbrev s__law_pick : Stmt := topS 21
abbrev N__law_pick : List Str := ["die", "items"]
theorem sc__law_pick : FnScope N__law_pick ["die", "items"] (defScope s__law_pick) := ⟨rfl, rfl, rfl, by decide +kernel, rfl, by decide +kernel, by decide +kernel⟩
def g__law_pick : EvS :=
  (sRet (fB dIx (fV 1) (fCall F__law_cast (fLen 2 (fCons (fV 0) (fCons (fApp (g1 dLen) (fCons (fV 1) fNil)) fNil))))))
def F__law_pick : FnF := fnF 2 2 g__law_pick
theorem ok__law_pick {f : Addr} {fd : FuncData} (Fu : Fun K "_law_pick" "_law_pick" s__law_pick f fd) (T : Txt mg) (CF : TC P w K mg base c_DepthError c_InvalidProgram c_InvalidRun c_InvalidLimit c_InvalidLimits c_InvalidModes c_InvalidRow c_InvalidSign c_InvalidOperation c_InvalidCommand c_ParseError c_UnknownName c_UnknownSite c_InvalidNumber c_NothingToUndo c_Refused c_TooMany i_ParseError i_UnknownName i_UnknownSite i_InvalidNumber i_NothingToUndo i_Refused i_TooMany d_ParseError d_UnknownName d_UnknownSite d_InvalidNumber d_NothingToUndo d_Refused d_TooMany) (h__law_cast : Has P w K mg base "_law_cast" 1 2 F__law_cast) : FG P w K mg base 2 f fd 2 F__law_pick :=
  fg_def (k := 1) Fu sc__law_pick (fun _ _ _ _ _ _ us hl => match us, hl with | [_, _], _ => rfl) fun cdv A stk s H E hr hgd =>
      (dss_one (ds_ret (de_ix ix_D (de_var 1) (de_callH h__law_cast hr hgd (by decide) rfl (da_cons (de_var 0) (da_cons (de_callB call_lenD rfl T.n_len (by decide +kernel) (da_cons (de_var 1) da_nil)) da_nil))))))
/-! _law_of_others -/
abbrev s__law_of_others : Stmt := topS 23
abbrev N__law_of_others : List Str := ["error", "found"]
theorem sc__law_of_others : FnScope N__law_of_others ["error"] (defScope s__law_of_others) := ⟨rfl, rfl, rfl, by decide +kernel, rfl, by decide +kernel, by decide +kernel⟩
def g__law_of_others : EvS :=
  (sSeq (bThen (bName 1) (fB dAdd (fB dMul (fApp gLst (fCons (fC (.str "name")) fNil)) (fApp (g1 dInt1) (fCons (fU (dIsx tab_UnknownName) (fV 0)) fNil))) (fB dMul (fApp gLst (fCons (fC (.str "site")) fNil)) (fApp (g1 dInt1) (fCons (fU (dIsx tab_UnknownSite) (fV 0)) fNil)))))
  (sSeq (bThen (bName 1) (fB dAdd (fV 1) (fB dMul (fApp gLst (fCons (fC (.str "number")) fNil)) (fApp (g1 dInt1) (fCons (fU (dIsx tab_InvalidNumber) (fV 0)) fNil)))))
  (sSeq (bThen (bName 1) (fB dAdd (fV 1) (fB dMul (fApp gLst (fCons (fC (.str "undo")) fNil)) (fApp (g1 dInt1) (fCons (fU (dIsx tab_NothingToUndo) (fV 0)) fNil)))))
  (sSeq (bThen (bName 1) (fB dAdd (fB dAdd (fV 1) (fB dMul (fApp gLst (fCons (fC (.str "refused")) fNil)) (fApp (g1 dInt1) (fCons (fU (dIsx tab_Refused) (fV 0)) fNil)))) (fB dMul (fApp gLst (fCons (fC (.str "over")) fNil)) (fApp (g1 dInt1) (fCons (fU (dIsx tab_TooMany) (fV 0)) fNil)))))
  (sSeq (bThen (bName 1) (fB dAdd (fB dAdd (fV 1) (fB dMul (fApp gLst (fCons (fC (.str "value")) fNil)) (fApp (g1 dInt1) (fCons (fU (dIsx tab_ValueError) (fV 0)) fNil)))) (fB dMul (fApp gLst (fCons (fC (.str "key")) fNil)) (fApp (g1 dInt1) (fCons (fU (dIsx tab_KeyError) (fV 0)) fNil)))))
  (sSeq (bThen (bName 1) (fB dAdd (fV 1) (fB dMul (fApp gLst (fCons (fC (.str "index")) fNil)) (fApp (g1 dInt1) (fCons (fU (dIsx tab_IndexError) (fV 0)) fNil)))))
  (sSeq (bThen (bName 1) (fB dAdd (fV 1) (fB dMul (fApp gLst (fCons (fC (.str "lookup")) fNil)) (fApp (g1 dInt1) (fCons (fU (dIsx tab_LookupError) (fV 0)) fNil)))))
  (sSeq (bThen (bName 1) (fB dAdd (fV 1) (fB dMul (fApp gLst (fCons (fC (.str "arithmetic")) fNil)) (fApp (g1 dInt1) (fCons (fU (dIsx tab_ArithmeticError) (fV 0)) fNil)))))
  (sRet (fB dAdd (fV 1) (fB dMul (fApp gLst (fCons (fC (.str "overflow")) fNil)) (fApp (g1 dInt1) (fCons (fU (dIsx tab_OverflowError) (fV 0)) fNil)))))))))))))
def F__law_of_others : FnF := fnF 1 2 g__law_of_others
theorem ok__law_of_others {f : Addr} {fd : FuncData} (Fu : Fun K "_law_of_others" "_law_of_others" s__law_of_others f fd) (T : Txt mg) (CF : TC P w K mg base c_DepthError c_InvalidProgram c_InvalidRun c_InvalidLimit c_InvalidLimits c_InvalidModes c_InvalidRow c_InvalidSign c_InvalidOperation c_InvalidCommand c_ParseError c_UnknownName c_UnknownSite c_InvalidNumber c_NothingToUndo c_Refused c_TooMany i_ParseError i_UnknownName i_UnknownSite i_InvalidNumber i_NothingToUndo i_Refused i_TooMany d_ParseError d_UnknownName d_UnknownSite d_InvalidNumber d_NothingToUndo d_Refused d_TooMany) : FG P w K mg base 1 f fd 1 F__law_of_others :=
  fg_def (k := 0) Fu sc__law_of_others (fun _ _ _ _ _ _ us hl => match us, hl with | [_], _ => rfl) fun cdv A stk s H E hr hgd =>
      (dss_cons (ds_set (i := 1) sc__law_of_others.nd rfl (by first | exact .inl rfl | exact .inr rfl) (de_bin op_addD (de_bin op_mulD (de_lst (da_cons de_str da_nil)) (de_callTy call_intD rfl T.n_int (by decide +kernel) (da_cons (de_isx rfl T.n_isinstance (de_var 0) (pe_glob (v := .ref c_UnknownName) rfl CF.m_UnknownName rfl) (fun _ h => h) CF.tb_UnknownName) da_nil))) (de_bin op_mulD (de_lst (da_cons de_str da_nil)) (de_callTy call_intD rfl T.n_int (by decide +kernel) (da_cons (de_isx rfl T.n_isinstance (de_var 0) (pe_glob (v := .ref c_UnknownSite) rfl CF.m_UnknownSite rfl) (fun _ h => h) CF.tb_UnknownSite) da_nil)))))
      (dss_cons (ds_set (i := 1) sc__law_of_others.nd rfl (by first | exact .inl rfl | exact .inr rfl) (de_bin op_addD (de_var 1) (de_bin op_mulD (de_lst (da_cons de_str da_nil)) (de_callTy call_intD rfl T.n_int (by decide +kernel) (da_cons (de_isx rfl T.n_isinstance (de_var 0) (pe_glob (v := .ref c_InvalidNumber) rfl CF.m_InvalidNumber rfl) (fun _ h => h) CF.tb_InvalidNumber) da_nil)))))
      (dss_cons (ds_set (i := 1) sc__law_of_others.nd rfl (by first | exact .inl rfl | exact .inr rfl) (de_bin op_addD (de_var 1) (de_bin op_mulD (de_lst (da_cons de_str da_nil)) (de_callTy call_intD rfl T.n_int (by decide +kernel) (da_cons (de_isx rfl T.n_isinstance (de_var 0) (pe_glob (v := .ref c_NothingToUndo) rfl CF.m_NothingToUndo rfl) (fun _ h => h) CF.tb_NothingToUndo) da_nil)))))
      (dss_cons (ds_set (i := 1) sc__law_of_others.nd rfl (by first | exact .inl rfl | exact .inr rfl) (de_bin op_addD (de_bin op_addD (de_var 1) (de_bin op_mulD (de_lst (da_cons de_str da_nil)) (de_callTy call_intD rfl T.n_int (by decide +kernel) (da_cons (de_isx rfl T.n_isinstance (de_var 0) (pe_glob (v := .ref c_Refused) rfl CF.m_Refused rfl) (fun _ h => h) CF.tb_Refused) da_nil)))) (de_bin op_mulD (de_lst (da_cons de_str da_nil)) (de_callTy call_intD rfl T.n_int (by decide +kernel) (da_cons (de_isx rfl T.n_isinstance (de_var 0) (pe_glob (v := .ref c_TooMany) rfl CF.m_TooMany rfl) (fun _ h => h) CF.tb_TooMany) da_nil)))))
      (dss_cons (ds_set (i := 1) sc__law_of_others.nd rfl (by first | exact .inl rfl | exact .inr rfl) (de_bin op_addD (de_bin op_addD (de_var 1) (de_bin op_mulD (de_lst (da_cons de_str da_nil)) (de_callTy call_intD rfl T.n_int (by decide +kernel) (da_cons (de_isx rfl T.n_isinstance (de_var 0) (pe_bltn (v := .ty "ValueError") rfl T.n_ValueError (by decide +kernel) rfl) (fun _ h => h) CF.tb_ValueError) da_nil)))) (de_bin op_mulD (de_lst (da_cons de_str da_nil)) (de_callTy call_intD rfl T.n_int (by decide +kernel) (da_cons (de_isx rfl T.n_isinstance (de_var 0) (pe_bltn (v := .ty "KeyError") rfl T.n_KeyError (by decide +kernel) rfl) (fun _ h => h) CF.tb_KeyError) da_nil)))))
      (dss_cons (ds_set (i := 1) sc__law_of_others.nd rfl (by first | exact .inl rfl | exact .inr rfl) (de_bin op_addD (de_var 1) (de_bin op_mulD (de_lst (da_cons de_str da_nil)) (de_callTy call_intD rfl T.n_int (by decide +kernel) (da_cons (de_isx rfl T.n_isinstance (de_var 0) (pe_bltn (v := .ty "IndexError") rfl T.n_IndexError (by decide +kernel) rfl) (fun _ h => h) CF.tb_IndexError) da_nil)))))
      (dss_cons (ds_set (i := 1) sc__law_of_others.nd rfl (by first | exact .inl rfl | exact .inr rfl) (de_bin op_addD (de_var 1) (de_bin op_mulD (de_lst (da_cons de_str da_nil)) (de_callTy call_intD rfl T.n_int (by decide +kernel) (da_cons (de_isx rfl T.n_isinstance (de_var 0) (pe_bltn (v := .ty "LookupError") rfl T.n_LookupError (by decide +kernel) rfl) (fun _ h => h) CF.tb_LookupError) da_nil)))))
      (dss_cons (ds_set (i := 1) sc__law_of_others.nd rfl (by first | exact .inl rfl | exact .inr rfl) (de_bin op_addD (de_var 1) (de_bin op_mulD (de_lst (da_cons de_str da_nil)) (de_callTy call_intD rfl T.n_int (by decide +kernel) (da_cons (de_isx rfl T.n_isinstance (de_var 0) (pe_bltn (v := .ty "ArithmeticError") rfl T.n_ArithmeticError (by decide +kernel) rfl) (fun _ h => h) CF.tb_ArithmeticError) da_nil)))))
      (dss_one (ds_ret (de_bin op_addD (de_var 1) (de_bin op_mulD (de_lst (da_cons de_str da_nil)) (de_callTy call_intD rfl T.n_int (by decide +kernel) (da_cons (de_isx rfl T.n_isinstance (de_var 0) (pe_bltn (v := .ty "OverflowError") rfl T.n_OverflowError (by decide +kernel) rfl) (fun _ h => h) CF.tb_OverflowError) da_nil))))))))))))))
/-! _law_of_depth -/
abbrev s__law_of_depth : Stmt := topS 22
abbrev N__law_of_depth : List Str := ["error", "told", "at"]
theorem sc__law_of_depth : FnScope N__law_of_depth ["error"] (defScope s__law_of_depth) := ⟨rfl, rfl, rfl, by decide +kernel, rfl, by decide +kernel, by decide +kernel⟩
def g__law_of_depth : EvS :=
  (sSeq (bThen (bName 1) (fApp gLst (fCons (fU (dIsx tab_DepthError) (fV 0)) (fCons (fU (dIsx tab_InvalidProgram) (fV 0)) (fCons (fU (dIsx tab_InvalidRun) (fV 0)) fNil)))))
  (sSeq (bThen (bName 1) (fB dAdd (fV 1) (fApp gLst (fCons (fU (dIsx tab_InvalidLimit) (fV 0)) (fCons (fU (dIsx tab_InvalidLimits) (fV 0)) fNil)))))
  (sSeq (bThen (bName 1) (fB dAdd (fV 1) (fApp gLst (fCons (fU (dIsx tab_InvalidModes) (fV 0)) (fCons (fU (dIsx tab_InvalidRow) (fV 0)) (fCons (fU (dIsx tab_InvalidSign) (fV 0)) fNil))))))
  (sSeq (bThen (bName 1) (fB dAdd (fV 1) (fApp gLst (fCons (fU (dIsx tab_InvalidOperation) (fV 0)) (fCons (fU (dIsx tab_InvalidCommand) (fV 0)) fNil)))))
  (sSeq (bThen (bName 1) (fB dAdd (fV 1) (fApp gLst (fCons (fU (dIsx tab_ParseError) (fV 0)) fNil))))
  (sRet (fLc (gRng1 (fCons (fC (.int 11)) fNil)) (bName 2) (fTru (fB dIx (fV 1) (fV 2))) (fV 2) [2])))))))
def F__law_of_depth : FnF := fnF 1 3 g__law_of_depth
theorem ok__law_of_depth {f : Addr} {fd : FuncData} (Fu : Fun K "_law_of_depth" "_law_of_depth" s__law_of_depth f fd) (T : Txt mg) (CF : TC P w K mg base c_DepthError c_InvalidProgram c_InvalidRun c_InvalidLimit c_InvalidLimits c_InvalidModes c_InvalidRow c_InvalidSign c_InvalidOperation c_InvalidCommand c_ParseError c_UnknownName c_UnknownSite c_InvalidNumber c_NothingToUndo c_Refused c_TooMany i_ParseError i_UnknownName i_UnknownSite i_InvalidNumber i_NothingToUndo i_Refused i_TooMany d_ParseError d_UnknownName d_UnknownSite d_InvalidNumber d_NothingToUndo d_Refused d_TooMany) : FG P w K mg base 1 f fd 1 F__law_of_depth :=
  fg_def (k := 0) Fu sc__law_of_depth (fun _ _ _ _ _ _ us hl => match us, hl with | [_], _ => rfl) fun cdv A stk s H E hr hgd =>
      (dss_cons (ds_set (i := 1) sc__law_of_depth.nd rfl (by first | exact .inl rfl | exact .inr rfl) (de_lst (da_cons (de_isx rfl T.n_isinstance (de_var 0) (pe_glob (v := .ref c_DepthError) rfl CF.m_DepthError rfl) (fun _ h => h) CF.tb_DepthError) (da_cons (de_isx rfl T.n_isinstance (de_var 0) (pe_glob (v := .ref c_InvalidProgram) rfl CF.m_InvalidProgram rfl) (fun _ h => h) CF.tb_InvalidProgram) (da_cons (de_isx rfl T.n_isinstance (de_var 0) (pe_glob (v := .ref c_InvalidRun) rfl CF.m_InvalidRun rfl) (fun _ h => h) CF.tb_InvalidRun) da_nil)))))
      (dss_cons (ds_set (i := 1) sc__law_of_depth.nd rfl (by first | exact .inl rfl | exact .inr rfl) (de_bin op_addD (de_var 1) (de_lst (da_cons (de_isx rfl T.n_isinstance (de_var 0) (pe_glob (v := .ref c_InvalidLimit) rfl CF.m_InvalidLimit rfl) (fun _ h => h) CF.tb_InvalidLimit) (da_cons (de_isx rfl T.n_isinstance (de_var 0) (pe_glob (v := .ref c_InvalidLimits) rfl CF.m_InvalidLimits rfl) (fun _ h => h) CF.tb_InvalidLimits) da_nil)))))
      (dss_cons (ds_set (i := 1) sc__law_of_depth.nd rfl (by first | exact .inl rfl | exact .inr rfl) (de_bin op_addD (de_var 1) (de_lst (da_cons (de_isx rfl T.n_isinstance (de_var 0) (pe_glob (v := .ref c_InvalidModes) rfl CF.m_InvalidModes rfl) (fun _ h => h) CF.tb_InvalidModes) (da_cons (de_isx rfl T.n_isinstance (de_var 0) (pe_glob (v := .ref c_InvalidRow) rfl CF.m_InvalidRow rfl) (fun _ h => h) CF.tb_InvalidRow) (da_cons (de_isx rfl T.n_isinstance (de_var 0) (pe_glob (v := .ref c_InvalidSign) rfl CF.m_InvalidSign rfl) (fun _ h => h) CF.tb_InvalidSign) da_nil))))))
      (dss_cons (ds_set (i := 1) sc__law_of_depth.nd rfl (by first | exact .inl rfl | exact .inr rfl) (de_bin op_addD (de_var 1) (de_lst (da_cons (de_isx rfl T.n_isinstance (de_var 0) (pe_glob (v := .ref c_InvalidOperation) rfl CF.m_InvalidOperation rfl) (fun _ h => h) CF.tb_InvalidOperation) (da_cons (de_isx rfl T.n_isinstance (de_var 0) (pe_glob (v := .ref c_InvalidCommand) rfl CF.m_InvalidCommand rfl) (fun _ h => h) CF.tb_InvalidCommand) da_nil)))))
      (dss_cons (ds_set (i := 1) sc__law_of_depth.nd rfl (by first | exact .inl rfl | exact .inr rfl) (de_bin op_addD (de_var 1) (de_lst (da_cons (de_isx rfl T.n_isinstance (de_var 0) (pe_glob (v := .ref c_ParseError) rfl CF.m_ParseError rfl) (fun _ h => h) CF.tb_ParseError) da_nil))))
      (dss_one (ds_ret (de_lc rfl sc__law_of_depth.nd (own := [("at", 2)]) (di_range1 rfl T.n_range (da_cons de_int da_nil)) (blkOk_by (N := N__law_of_depth) (sc := defScope s__law_of_depth) (by decide +kernel)) (fun _ _ _ _ _ => (dg_name (i := 2) sc__law_of_depth.nd rfl (by first | exact .inl rfl | exact .inr rfl))) (fun _ _ _ _ _ => dts_one (dt_truth (de_ix ix_D (de_var 1) (de_var 2)))) (fun _ _ _ _ _ => (de_var 2))))))))))
/-! _law_right -/
abbrev s__law_right : Stmt := topS 25
abbrev N__law_right : List Str := ["die", "some", "items", "plain", "parse", "unknown", "lost", "wrong", "undo", "refused", "over", "told", "keeping", "due", "turn", "error", "at"]
theorem sc__law_right : FnScope N__law_right ["die"] (defScope s__law_right) := ⟨rfl, rfl, rfl, by decide +kernel, rfl, by decide +kernel, by decide +kernel⟩
def g__law_right : EvS :=
  (sSeq (bThen (bName 1) (fApp gLst (fCons (fC (.int 0)) (fCons (fC (.int 7)) (fCons (fC (.str "p")) (fCons (fC (.str "")) (fCons (fApp gTup (fCons (fC (.str "p")) (fCons (fC (.int 3)) fNil))) (fCons (fC .non) (fCons (fU dNeg (fC (.int 1))) (fCons (fB (dII gPow) (fC (.int 10)) (fC (.int 39))) (fCons (fApp gLst (fCons (fC (.int 1)) fNil)) (fCons (fC (.dct [])) (fCons (fC (.bl true)) (fCons (fApp gTup fNil) (fCons (fC (.str "a b")) fNil)))))))))))))))
  (sSeq (bThen (bName 2) (fLc (gRng1 (fCons (fC (.int 7)) fNil)) (bName 14) (fun S => some (true, S.μ)) (fCall F__law_pick (fLen 2 (fCons (fV 0) (fCons (fV 1) fNil)))) [14]))
  (sSeq (bThen (bName 3) (fCall F__law_plain_ones (fLen 1 (fCons (fCall F__law_pick (fLen 2 (fCons (fV 0) (fCons (fApp gLst (fCons (fC (.str "")) (fCons (fC (.str "x")) (fCons (fC (.str "a name")) fNil)))) fNil)))) fNil))))
  (sSeq (sIf (fTru (fB dNe (fLc (itOf gSeq (fV 3)) (bName 15) (fun S => some (true, S.μ)) (fCall F__law_of_depth (fLen 1 (fCons (fV 15) fNil))) [15]) (fB dAdd (fApp gLst (fCons (fApp gLst (fCons (fC (.int 0)) fNil)) fNil)) (fLc (gRng2 (fCons (fC (.int 1)) (fCons (fC (.int 10)) fNil))) (bName 16) (fun S => some (true, S.μ)) (fApp gLst (fCons (fC (.int 0)) (fCons (fV 16) fNil))) [16])))) (sRet (fC (.bl false))) sNx)
  (sSeq (sIf (fTru (fB dNe (fLc (itOf gSeq (fV 3)) (bName 15) (fun S => some (true, S.μ)) (fCall F__law_of_others (fLen 1 (fCons (fV 15) fNil))) [15]) (fB dMul (fApp gLst (fCons (fApp gLst (fCons (fC (.str "value")) fNil)) fNil)) (fC (.int 10))))) (sRet (fC (.bl false))) sNx)
  (sSeq (sPar 4 5 (fCons (fU (dExf "ParseError" "line") (fB dIx (fV 2) (fC (.int 0)))) (fCons (fU (dExf "UnknownName" "name") (fB dIx (fV 2) (fC (.int 1)))) fNil)))
  (sSeq (bThen (bName 6) (fU (dExf "UnknownSite" "site") (fB dIx (fV 2) (fC (.int 2)))))
  (sSeq (sPar 7 8 (fCons (fU (dExf "InvalidNumber" "value") (fB dIx (fV 2) (fC (.int 3)))) (fCons (fU (dExf "NothingToUndo" "many") (fB dIx (fV 2) (fC (.int 4)))) fNil)))
  (sSeq (sPar 9 10 (fCons (fU (dExf "Refused" "name") (fB dIx (fV 2) (fC (.int 5)))) (fCons (fU (dExf "TooMany" "limit") (fB dIx (fV 2) (fC (.int 6)))) fNil)))
  (sSeq (bThen (bName 11) (fApp gLst (fCons (fU (dGetF ["ParseError"] "line") (fV 4)) (fCons (fU (dGetF ["UnknownName"] "name") (fV 5)) (fCons (fU (dGetF ["UnknownSite"] "site") (fV 6)) (fCons (fU (dGetF ["InvalidNumber"] "value") (fV 7)) (fCons (fU (dGetF ["NothingToUndo"] "many") (fV 8)) (fCons (fU (dGetF ["Refused"] "name") (fV 9)) (fCons (fU (dGetF ["TooMany"] "limit") (fV 10)) fNil)))))))))
  (sSeq (sIf (fOr (fTru (fB dNe (fApp (g1 dReprR) (fCons (fV 11) fNil)) (fApp (g1 dReprR) (fCons (fV 2) fNil)))) (fTru (fB dNe (fCall F__law_of_depth (fLen 1 (fCons (fV 4) fNil))) (fApp gLst (fCons (fC (.int 0)) (fCons (fC (.int 10)) fNil)))))) (sRet (fC (.bl false))) sNx)
  (sSeq (sIf (fTru (fB dNe (fCall F__law_of_others (fLen 1 (fCons (fV 4) fNil))) (fApp gLst (fCons (fC (.str "value")) fNil)))) (sRet (fC (.bl false))) sNx)
  (sSeq (bThen (bName 12) (fApp gLst (fCons (fV 5) (fCons (fV 6) (fCons (fV 7) (fCons (fV 8) (fCons (fV 9) (fCons (fV 10) fNil))))))))
  (sSeq (sIf (fTru (fB dNe (fLc (itOf gSeq (fV 12)) (bName 15) (fun S => some (true, S.μ)) (fCall F__law_of_depth (fLen 1 (fCons (fV 15) fNil))) [15]) (fB dMul (fApp gLst (fCons (fApp gLst fNil) fNil)) (fC (.int 6))))) (sRet (fC (.bl false))) sNx)
  (sSeq (bThen (bName 13) (fApp gLst (fCons (fApp gLst (fCons (fC (.str "name")) (fCons (fC (.str "key")) (fCons (fC (.str "lookup")) fNil)))) (fCons (fApp gLst (fCons (fC (.str "site")) (fCons (fC (.str "key")) (fCons (fC (.str "lookup")) fNil)))) (fCons (fApp gLst (fCons (fC (.str "number")) (fCons (fC (.str "index")) (fCons (fC (.str "lookup")) fNil)))) (fCons (fApp gLst (fCons (fC (.str "undo")) (fCons (fC (.str "lookup")) fNil))) fNil))))))
  (sSeq (bThen (bName 13) (fB dAdd (fV 13) (fApp gLst (fCons (fApp gLst (fCons (fC (.str "refused")) (fCons (fC (.str "arithmetic")) fNil))) (fCons (fApp gLst (fCons (fC (.str "over")) (fCons (fC (.str "arithmetic")) (fCons (fC (.str "overflow")) fNil)))) fNil)))))
  (sRet (fB dEq (fLc (itOf gSeq (fV 12)) (bName 15) (fun S => some (true, S.μ)) (fCall F__law_of_others (fLen 1 (fCons (fV 15) fNil))) [15]) (fV 13)))))))))))))))))))
def F__law_right : FnF := fnF 1 17 g__law_right
theorem ok__law_right {f : Addr} {fd : FuncData} (Fu : Fun K "_law_right" "_law_right" s__law_right f fd) (T : Txt mg) (CF : TC P w K mg base c_DepthError c_InvalidProgram c_InvalidRun c_InvalidLimit c_InvalidLimits c_InvalidModes c_InvalidRow c_InvalidSign c_InvalidOperation c_InvalidCommand c_ParseError c_UnknownName c_UnknownSite c_InvalidNumber c_NothingToUndo c_Refused c_TooMany i_ParseError i_UnknownName i_UnknownSite i_InvalidNumber i_NothingToUndo i_Refused i_TooMany d_ParseError d_UnknownName d_UnknownSite d_InvalidNumber d_NothingToUndo d_Refused d_TooMany) (h__law_of_depth : Has P w K mg base "_law_of_depth" 1 1 F__law_of_depth) (h__law_of_others : Has P w K mg base "_law_of_others" 1 1 F__law_of_others) (h__law_pick : Has P w K mg base "_law_pick" 2 2 F__law_pick) (h__law_plain_ones : Has P w K mg base "_law_plain_ones" 1 1 F__law_plain_ones) : FG P w K mg base 3 f fd 1 F__law_right :=
  fg_def (k := 2) Fu sc__law_right (fun _ _ _ _ _ _ us hl => match us, hl with | [_], _ => rfl) fun cdv A stk s H E hr hgd =>
      (dss_cons (ds_set (i := 1) sc__law_right.nd rfl (by first | exact .inl rfl | exact .inr rfl) (de_lst (da_cons de_int (da_cons de_int (da_cons de_str (da_cons de_str (da_cons (de_tup (da_cons de_str (da_cons de_int da_nil))) (da_cons de_non (da_cons (de_un un_negD de_int) (da_cons (de_bin op_powD de_int de_int) (da_cons (de_lst (da_cons de_int da_nil)) (da_cons de_dct0 (da_cons de_bl (da_cons (de_tup da_nil) (da_cons de_str da_nil)))))))))))))))
      (dss_cons (ds_setLc (i := 2) rfl sc__law_right.nd rfl rfl (sw_true rfl rfl rfl (by decide +kernel)) (own := [("turn", 14)]) (di_range1 rfl T.n_range (da_cons de_int da_nil)) (blkOk_by (N := N__law_right) (sc := defScope s__law_right) (by decide +kernel)) (fun _ _ _ _ _ => (dg_name (i := 14) sc__law_right.nd rfl (by first | exact .inl rfl | exact .inr rfl))) (fun _ _ _ _ _ => dts_nil) (fun _ _ _ _ _ => (de_callH h__law_pick hr hgd (by decide) rfl (da_cons (de_var 0) (da_cons (de_var 1) da_nil)))))
      (dss_cons (ds_set (i := 3) sc__law_right.nd rfl (by first | exact .inl rfl | exact .inr rfl) (de_callH h__law_plain_ones hr hgd (by decide) rfl (da_cons (de_callH h__law_pick hr hgd (by decide) rfl (da_cons (de_var 0) (da_cons (de_lst (da_cons de_str (da_cons de_str (da_cons de_str da_nil)))) da_nil))) da_nil)))
      (dss_cons (ds_if (dt_cmp (op_neDD hr.units) (de_lc rfl sc__law_right.nd (own := [("error", 15)]) (di_seq (de_var 3)) (blkOk_by (N := N__law_right) (sc := defScope s__law_right) (by decide +kernel)) (fun _ _ _ _ _ => (dg_name (i := 15) sc__law_right.nd rfl (by first | exact .inl rfl | exact .inr rfl))) (fun _ _ _ _ _ => dts_nil) (fun _ _ _ _ _ => (de_callH h__law_of_depth hr hgd (by decide) rfl (da_cons (de_var 15) da_nil)))) (de_bin op_addD (de_lst (da_cons (de_lst (da_cons de_int da_nil)) da_nil)) (de_lc rfl sc__law_right.nd (own := [("at", 16)]) (di_range2 rfl T.n_range (da_cons de_int (da_cons de_int da_nil))) (blkOk_by (N := N__law_right) (sc := defScope s__law_right) (by decide +kernel)) (fun _ _ _ _ _ => (dg_name (i := 16) sc__law_right.nd rfl (by first | exact .inl rfl | exact .inr rfl))) (fun _ _ _ _ _ => dts_nil) (fun _ _ _ _ _ => (de_lst (da_cons de_int (da_cons (de_var 16) da_nil)))))) (nomark _) dNe_bl) (dss_one (ds_ret de_bl)) dss_nil)
      (dss_cons (ds_if (dt_cmp (op_neDD hr.units) (de_lc rfl sc__law_right.nd (own := [("error", 15)]) (di_seq (de_var 3)) (blkOk_by (N := N__law_right) (sc := defScope s__law_right) (by decide +kernel)) (fun _ _ _ _ _ => (dg_name (i := 15) sc__law_right.nd rfl (by first | exact .inl rfl | exact .inr rfl))) (fun _ _ _ _ _ => dts_nil) (fun _ _ _ _ _ => (de_callH h__law_of_others hr hgd (by decide) rfl (da_cons (de_var 15) da_nil)))) (de_bin op_mulD (de_lst (da_cons (de_lst (da_cons de_str da_nil)) da_nil)) de_int) (nomark _) dNe_bl) (dss_one (ds_ret de_bl)) dss_nil)
      (dss_cons (ds_par (i := 4) (j := 5) rfl sc__law_right.nd rfl rfl (by decide) rfl rfl (da_cons (de_exf (k := 1) (CX := CX0) F.excBase_ValueError ⟨by decide +kernel, by decide +kernel, by decide +kernel⟩ CF.x_ParseError CF.j_ParseError CF.t_ParseError CF.f_ParseError (hr.mono (by decide)) CF.b_ParseError pass0 rfl CF.m_ParseError CF.ns_ParseError (de_ix ix_D (de_var 2) de_int)) (da_cons (de_exf (k := 1) (CX := CX0) F.excBase_LookupError ⟨by decide +kernel, by decide +kernel, by decide +kernel⟩ CF.x_UnknownName CF.j_UnknownName CF.t_UnknownName CF.f_UnknownName (hr.mono (by decide)) CF.b_UnknownName pass0 rfl CF.m_UnknownName CF.ns_UnknownName (de_ix ix_D (de_var 2) de_int)) da_nil)) rfl)
      (dss_cons (ds_set (i := 6) sc__law_right.nd rfl (by first | exact .inl rfl | exact .inr rfl) (de_exf (k := 1) (CX := CX0) F.excBase_LookupError ⟨by decide +kernel, by decide +kernel, by decide +kernel⟩ CF.x_UnknownSite CF.j_UnknownSite CF.t_UnknownSite CF.f_UnknownSite (hr.mono (by decide)) CF.b_UnknownSite pass0 rfl CF.m_UnknownSite CF.ns_UnknownSite (de_ix ix_D (de_var 2) de_int)))
      (dss_cons (ds_par (i := 7) (j := 8) rfl sc__law_right.nd rfl rfl (by decide) rfl rfl (da_cons (de_exf (k := 1) (CX := CX0) F.excBase_IndexError ⟨by decide +kernel, by decide +kernel, by decide +kernel⟩ CF.x_InvalidNumber CF.j_InvalidNumber CF.t_InvalidNumber CF.f_InvalidNumber (hr.mono (by decide)) CF.b_InvalidNumber pass0 rfl CF.m_InvalidNumber CF.ns_InvalidNumber (de_ix ix_D (de_var 2) de_int)) (da_cons (de_exf (k := 1) (CX := CX0) F.excBase_LookupError ⟨by decide +kernel, by decide +kernel, by decide +kernel⟩ CF.x_NothingToUndo CF.j_NothingToUndo CF.t_NothingToUndo CF.f_NothingToUndo (hr.mono (by decide)) CF.b_NothingToUndo pass0 rfl CF.m_NothingToUndo CF.ns_NothingToUndo (de_ix ix_D (de_var 2) de_int)) da_nil)) rfl)
      (dss_cons (ds_par (i := 9) (j := 10) rfl sc__law_right.nd rfl rfl (by decide) rfl rfl (da_cons (de_exf (k := 1) (CX := CX0) F.excBase_ArithmeticError ⟨by decide +kernel, by decide +kernel, by decide +kernel⟩ CF.x_Refused CF.j_Refused CF.t_Refused CF.f_Refused (hr.mono (by decide)) CF.b_Refused pass0 rfl CF.m_Refused CF.ns_Refused (de_ix ix_D (de_var 2) de_int)) (da_cons (de_exf (k := 1) (CX := CX0) F.excBase_OverflowError ⟨by decide +kernel, by decide +kernel, by decide +kernel⟩ CF.x_TooMany CF.j_TooMany CF.t_TooMany CF.f_TooMany (hr.mono (by decide)) CF.b_TooMany pass0 rfl CF.m_TooMany CF.ns_TooMany (de_ix ix_D (de_var 2) de_int)) da_nil)) rfl)
      (dss_cons (ds_set (i := 11) sc__law_right.nd rfl (by first | exact .inl rfl | exact .inr rfl) (de_lst (da_cons (de_getF (ns := ["ParseError"]) (de_var 4) CF.gf_ParseError) (da_cons (de_getF (ns := ["UnknownName"]) (de_var 5) CF.gf_UnknownName) (da_cons (de_getF (ns := ["UnknownSite"]) (de_var 6) CF.gf_UnknownSite) (da_cons (de_getF (ns := ["InvalidNumber"]) (de_var 7) CF.gf_InvalidNumber) (da_cons (de_getF (ns := ["NothingToUndo"]) (de_var 8) CF.gf_NothingToUndo) (da_cons (de_getF (ns := ["Refused"]) (de_var 9) CF.gf_Refused) (da_cons (de_getF (ns := ["TooMany"]) (de_var 10) CF.gf_TooMany) da_nil)))))))))
      (dss_cons (ds_if (PW.pt (dw_or (dt_cmp (op_neDD hr.units) (de_callB (call_reprRD hgd hr.units) rfl T.n_repr (by decide +kernel) (da_cons (de_var 11) da_nil)) (de_callB (call_reprRD hgd hr.units) rfl T.n_repr (by decide +kernel) (da_cons (de_var 2) da_nil)) (nomark _) dNe_bl) (dw_or1 (dt_cmp (op_neDD hr.units) (de_callH h__law_of_depth hr hgd (by decide) rfl (da_cons (de_var 4) da_nil)) (de_lst (da_cons de_int (da_cons de_int da_nil))) (nomark _) dNe_bl)))) (dss_one (ds_ret de_bl)) dss_nil)
      (dss_cons (ds_if (dt_cmp (op_neDD hr.units) (de_callH h__law_of_others hr hgd (by decide) rfl (da_cons (de_var 4) da_nil)) (de_lst (da_cons de_str da_nil)) (nomark _) dNe_bl) (dss_one (ds_ret de_bl)) dss_nil)
      (dss_cons (ds_set (i := 12) sc__law_right.nd rfl (by first | exact .inl rfl | exact .inr rfl) (de_lst (da_cons (de_var 5) (da_cons (de_var 6) (da_cons (de_var 7) (da_cons (de_var 8) (da_cons (de_var 9) (da_cons (de_var 10) da_nil))))))))
      (dss_cons (ds_if (dt_cmp (op_neDD hr.units) (de_lc rfl sc__law_right.nd (own := [("error", 15)]) (di_seq (de_var 12)) (blkOk_by (N := N__law_right) (sc := defScope s__law_right) (by decide +kernel)) (fun _ _ _ _ _ => (dg_name (i := 15) sc__law_right.nd rfl (by first | exact .inl rfl | exact .inr rfl))) (fun _ _ _ _ _ => dts_nil) (fun _ _ _ _ _ => (de_callH h__law_of_depth hr hgd (by decide) rfl (da_cons (de_var 15) da_nil)))) (de_bin op_mulD (de_lst (da_cons (de_lst da_nil) da_nil)) de_int) (nomark _) dNe_bl) (dss_one (ds_ret de_bl)) dss_nil)
      (dss_cons (ds_set (i := 13) sc__law_right.nd rfl (by first | exact .inl rfl | exact .inr rfl) (de_lst (da_cons (de_lst (da_cons de_str (da_cons de_str (da_cons de_str da_nil)))) (da_cons (de_lst (da_cons de_str (da_cons de_str (da_cons de_str da_nil)))) (da_cons (de_lst (da_cons de_str (da_cons de_str (da_cons de_str da_nil)))) (da_cons (de_lst (da_cons de_str (da_cons de_str da_nil))) da_nil))))))
      (dss_cons (ds_set (i := 13) sc__law_right.nd rfl (by first | exact .inl rfl | exact .inr rfl) (de_bin op_addD (de_var 13) (de_lst (da_cons (de_lst (da_cons de_str (da_cons de_str da_nil))) (da_cons (de_lst (da_cons de_str (da_cons de_str (da_cons de_str da_nil)))) da_nil)))))
      (dss_one (ds_ret (de_cmp (op_eqDD hr.units) (de_lc rfl sc__law_right.nd (own := [("error", 15)]) (di_seq (de_var 12)) (blkOk_by (N := N__law_right) (sc := defScope s__law_right) (by decide +kernel)) (fun _ _ _ _ _ => (dg_name (i := 15) sc__law_right.nd rfl (by first | exact .inl rfl | exact .inr rfl))) (fun _ _ _ _ _ => dts_nil) (fun _ _ _ _ _ => (de_callH h__law_of_others hr hgd (by decide) rfl (da_cons (de_var 15) da_nil)))) (de_var 13) (nomark _))))))))))))))))))))
/-! _law_numbers -/
abbrev s__law_numbers : Stmt := topS 19
abbrev N__law_numbers : List Str := ["script", "at", "cell", "whole", "mixed"]
theorem sc__law_numbers : FnScope N__law_numbers ["script", "at"] (defScope s__law_numbers) := ⟨rfl, rfl, rfl, by decide +kernel, rfl, by decide +kernel, by decide +kernel⟩
def g__law_numbers : EvS :=
  (sSeq (bThen (bName 2) (fIfE (fTru (fB dLt (fV 1) (fApp (g1 dLen) (fCons (fV 0) fNil)))) (fB dIx (fV 0) (fV 1)) (fB dAdd (fB dMul (fC (.int 59)) (fV 1)) (fC (.int 17)))))
  (sSeq (bThen (bName 3) (fB (dII gMod) (fApp (g1 dInt1) (fCons (fApp (g1 dAbs) (fCons (fV 2) fNil)) fNil)) (fB (dII gPow) (fB (dII gPow) (fC (.int 10)) (fC (.int 59))) (fC (.int 11)))))
  (sSeq (bThen (bName 4) (fB dAdd (fB dAdd (fB dAdd (fB dMul (fV 3) (fC (.int 1000121))) (fB dMul (fC (.int 8219)) (fV 1))) (fB dMul (fC (.int 31)) (fApp (g1 dInt1) (fCons (fB dLt (fV 2) (fC (.int 0))) fNil)))) (fC (.int 7))))
  (sRet (fNewC (fCons (fApp (g2 dMax2) (fCons (fC (.int 0)) (fCons (fB (dII gSub) (fV 3) (fB (dII gPow) (fC (.int 10)) (fC (.int 16)))) fNil))) (fCons (fB (dII gMod) (fApp (g1 dInt1) (fCons (fV 4) fNil)) (fC (.int 1152921504606846817))) (fCons (fC (.int 0)) fNil))))))))
def F__law_numbers : FnF := fnF 2 5 g__law_numbers
theorem ok__law_numbers {f : Addr} {fd : FuncData} (Fu : Fun K "_law_numbers" "_law_numbers" s__law_numbers f fd) (T : Txt mg) (CF : TC P w K mg base c_DepthError c_InvalidProgram c_InvalidRun c_InvalidLimit c_InvalidLimits c_InvalidModes c_InvalidRow c_InvalidSign c_InvalidOperation c_InvalidCommand c_ParseError c_UnknownName c_UnknownSite c_InvalidNumber c_NothingToUndo c_Refused c_TooMany i_ParseError i_UnknownName i_UnknownSite i_InvalidNumber i_NothingToUndo i_Refused i_TooMany d_ParseError d_UnknownName d_UnknownSite d_InvalidNumber d_NothingToUndo d_Refused d_TooMany) : FG P w K mg base 1 f fd 2 F__law_numbers :=
  fg_def (k := 0) Fu sc__law_numbers (fun _ _ _ _ _ _ us hl => match us, hl with | [_, _], _ => rfl) fun cdv A stk s H E hr hgd =>
      (dss_cons (ds_set (i := 2) sc__law_numbers.nd rfl (by first | exact .inl rfl | exact .inr rfl) (de_ifE (dt_cmp op_ltD (de_var 1) (de_callB call_lenD rfl T.n_len (by decide +kernel) (da_cons (de_var 0) da_nil)) (nomark _) dOrd_bl) (de_ix ix_D (de_var 0) (de_var 1)) (de_bin op_addD (de_bin op_mulD de_int (de_var 1)) de_int)))
      (dss_cons (ds_set (i := 3) sc__law_numbers.nd rfl (by first | exact .inl rfl | exact .inr rfl) (de_bin op_modD (de_callTy call_intD rfl T.n_int (by decide +kernel) (da_cons (de_callB call_absD rfl T.n_abs (by decide +kernel) (da_cons (de_var 2) da_nil)) da_nil)) (de_bin op_powD (de_bin op_powD de_int de_int) de_int)))
      (dss_cons (ds_set (i := 4) sc__law_numbers.nd rfl (by first | exact .inl rfl | exact .inr rfl) (de_bin op_addD (de_bin op_addD (de_bin op_addD (de_bin op_mulD (de_var 3) de_int) (de_bin op_mulD de_int (de_var 1))) (de_bin op_mulD de_int (de_callTy call_intD rfl T.n_int (by decide +kernel) (da_cons (de_cmp op_ltD (de_var 2) de_int (nomark _)) da_nil)))) de_int))
      (dss_one (ds_ret (de_lstC (da_cons (de_callB (call_max2D rfl) rfl T.n_max (by decide +kernel) (da_cons de_int (da_cons (de_bin op_subD (de_var 3) (de_bin op_powD de_int de_int)) da_nil))) (da_cons (de_bin op_modD (de_callTy call_intD rfl T.n_int (by decide +kernel) (da_cons (de_var 4) da_nil)) de_int) (da_cons de_int da_nil)))))))))
/-! law -/
abbrev s_law : Stmt := topS 26
abbrev N_law : List Str := ["script", "at"]
theorem sc_law : FnScope N_law ["script"] (defScope s_law) := ⟨rfl, rfl, rfl, by decide +kernel, rfl, by decide +kernel, by decide +kernel⟩
def g_law : EvS :=
  (sSeq (sFor (gRng1 (fCons (fApp (g2 dMax2) (fCons (fC (.int 1)) (fCons (fApp (g2 dMin2) (fCons (fC (.int 8)) (fCons (fApp (g1 dLen) (fCons (fV 0) fNil)) fNil))) fNil))) fNil)) (bName 1) (sIf (fNot (fTru (fCall F__law_right (fLen 1 (fCons (fCall F__law_numbers (fLen 2 (fCons (fV 0) (fCons (fV 1) fNil)))) fNil))))) (sRet (fC (.bl false))) sNx))
  (sRet (fC (.bl true))))
def F_law : FnF := fnF 1 2 g_law
theorem ok_law {f : Addr} {fd : FuncData} (Fu : Fun K "law" "law" s_law f fd) (T : Txt mg) (CF : TC P w K mg base c_DepthError c_InvalidProgram c_InvalidRun c_InvalidLimit c_InvalidLimits c_InvalidModes c_InvalidRow c_InvalidSign c_InvalidOperation c_InvalidCommand c_ParseError c_UnknownName c_UnknownSite c_InvalidNumber c_NothingToUndo c_Refused c_TooMany i_ParseError i_UnknownName i_UnknownSite i_InvalidNumber i_NothingToUndo i_Refused i_TooMany d_ParseError d_UnknownName d_UnknownSite d_InvalidNumber d_NothingToUndo d_Refused d_TooMany) (h__law_numbers : Has P w K mg base "_law_numbers" 1 2 F__law_numbers) (h__law_right : Has P w K mg base "_law_right" 3 1 F__law_right) : FG P w K mg base 4 f fd 1 F_law :=
  fg_def (k := 3) Fu sc_law (fun _ _ _ _ _ _ us hl => match us, hl with | [_], _ => rfl) fun cdv A stk s H E hr hgd =>
      (dss_cons (ds_for passB rfl (di_range1 rfl T.n_range (da_cons (de_callB (call_max2D rfl) rfl T.n_max (by decide +kernel) (da_cons de_int (da_cons (de_callB (call_min2D rfl) rfl T.n_min (by decide +kernel) (da_cons de_int (da_cons (de_callB call_lenD rfl T.n_len (by decide +kernel) (da_cons (de_var 0) da_nil)) da_nil))) da_nil))) da_nil)) (dg_name (i := 1) sc_law.nd rfl (by first | exact .inl rfl | exact .inr rfl)) (dss_one (ds_if (dt_not (dt_truth (de_callH h__law_right hr hgd (by decide) rfl (da_cons (de_callH h__law_numbers hr hgd (by decide) rfl (da_cons (de_var 0) (da_cons (de_var 1) da_nil))) da_nil)))) (dss_one (ds_ret de_bl)) dss_nil)))
      (dss_one (ds_ret de_bl)))
end
end G
namespace G
open PySem L2 DL
/-! the letters of the walk over data -/
theorem at0 {α : Type} {a : α} {r : List α} : atI (a :: r) 0 = some a := by simp [atI, ixN]
theorem at1 {α : Type} {a b : α} {r : List α} : atI (a :: b :: r) 1 = some b := by
  have h : ixN (a :: b :: r).length 1 = some 1 := by
    unfold ixN
    rw [if_pos (by decide), if_pos (by simp only [List.length_cons]; omega)]
    rfl
  unfold atI
  rw [h]
  rfl
theorem at2 {α : Type} {a b c : α} {r : List α} : atI (a :: b :: c :: r) 2 = some c := by
  have h : ixN (a :: b :: c :: r).length 2 = some 2 := by
    unfold ixN
    rw [if_pos (by decide), if_pos (by simp only [List.length_cons]; omega)]
    rfl
  unfold atI
  rw [h]
  rfl
theorem ixN_lt {n : Nat} {i : Int} (h : 0 ≤ i) (h2 : i < n) : ixN n i = some i.toNat := by
  unfold ixN
  rw [if_pos h, if_pos h2]
theorem atI_lt {α : Type} {xs : List α} {i : Int} (h : 0 ≤ i) (h2 : i < xs.length) : ∃ x, atI xs i = some x ∧ x ∈ xs ∧ xs[i.toNat]? = some x := by
  have hl : i.toNat < xs.length := by omega
  refine ⟨xs[i.toNat], ?_, List.getElem_mem hl, List.getElem?_eq_getElem hl⟩
  unfold atI
  rw [ixN_lt h h2]
  exact List.getElem?_eq_getElem hl
theorem fmod_pos {a b : Int} (h : 0 < b) : 0 ≤ a.fmod b ∧ a.fmod b < b := ⟨Int.fmod_nonneg_of_pos a h, Int.fmod_lt_of_pos a h⟩
theorem ix3 : ixN 3 0 = some 0 ∧ ixN 3 2 = some 2 ∧ ixN 3 1 = some 1 := by decide
theorem set3a {a b c d : D} : [a, b, c].set 0 d = [d, b, c] := rfl
theorem set3c {a b c d : D} : [a, b, c].set 2 d = [a, b, d] := rfl
theorem cell_set {μ : List Cell} {k : Nat} {c d : Cell} (h : μ[k]? = some c) : (μ.set k d)[k]? = some d := List.getElem?_set_self (List.getElem?_eq_some_iff.mp h).1
theorem set_same {μ : List Cell} {k : Nat} {c : Cell} (h : μ[k]? = some c) : μ.set k c = μ := by
  refine List.ext_getElem? fun j => ?_
  by_cases e : k = j
  · subst e
    rw [cell_set h, h]
  · rw [List.getElem?_set_ne e]
theorem set_set {μ : List Cell} {k : Nat} {c d : Cell} : (μ.set k c).set k d = μ.set k d := List.set_set ..
local macro_rules | `(tactic| walk_at "dl") => `(tactic| simp only [wf_fn, ws_seq, ws_then, ws_drop, ws_nx, ws_bk, ws_ct, ws_ret, ws_if, ws_for, wb_name, wb_sub, wb_tup, wbs_nil, wbs_cons, cSet_iff, we_V, we_C, we_B, we_U, we_App, we_newC, we_call, we_AndV, we_OrV, we_IfE, we_Ch, we_Lc, wa_nil, wa_cons, wa_len,
  wl_1, wl_2, wl_lst, wl_tup, wt_Tru, wt_Not, wt_And, wt_Or, wt_true, wi_seq, wi_rng1, Nx_nx, Nx_rt, Nx_bk, Nx_ct, Fe_rt, Fe_nx, Tn_nx, Tn_ct, Tn_bk, Tn_rt,
  w2_addI, w2_addS, w2_addL, w2_II, gSub_iff, gMod_iff, gFdiv_iff, gPow_iff, w2_mulI, w1_neg, w2_ordI, w2_ordS, w2_is, w2_isNot, w2_eq, w2_ne, w2_ixL, w2_ixR, w2_ixT, w2_ixS, w2_ixH, w1_abs, w1_intI, w1_intB, w2_max, w2_min, w1_str, w1_lenS, w1_lenL, w1_lenR, w1_lenT, w1_type, w2_isi, w1_not, w1_S0, w2_join, wtr_bl,
  List.map_cons, List.map_nil, List.cons_append, List.nil_append, List.replicate_succ, List.replicate_zero, List.getElem?_cons_zero, List.getElem?_cons_succ, List.set_cons_zero, List.set_cons_succ, List.length_cons, List.length_nil, Option.some.injEq, exists_eq_left', exists_eq_left, D.int.injEq, and_true, true_and, Nat.reduceAdd, Nat.reduceSub, Nat.reduceLT, Nat.lt_add_left_iff_pos, Nat.zero_lt_succ, List.length_replicate, List.length_append, List.length_map, List.cons.injEq, List.length_set, gSeq, decide_true, if_true, D.bl.injEq, Bool.not_true, Bool.not_false, Bool.false_eq_true, if_false, reduceCtorEq, false_and, or_false, false_or])
theorem numbers_ok (ns : List Int) (a : Int) (h : 0 ≤ a) (μ : List Cell) : WF F__law_numbers [.rl (ns.map D.int), .int a] μ fun d μ' => ∃ x y : Int, d = .h μ.length ∧ μ' = μ ++ [.lst [.int x, .int y, .int 0]] := by
  unfold F__law_numbers g__law_numbers
  walk_at "dl"
  have big : ((10 : Int) ^ Int.toNat 59) ^ Int.toNat 11 ≠ 0 := by decide
  have b1 : (Builtin.Int.intBits 10 : Int) * 59 ≤ 2 ^ 27 := by decide +kernel
  have b2 : (Builtin.Int.intBits (10 ^ Int.toNat 59) : Int) * 11 ≤ 2 ^ 27 := by decide +kernel
  have b3 : (Builtin.Int.intBits 10 : Int) * 16 ≤ 2 ^ 27 := by decide +kernel
  refine ite2 (fun hlt => ?_) fun _ => ?_
  · obtain ⟨d, e1, hm, _⟩ := atI_lt (xs := ns.map D.int) h (by rw [List.length_map]; exact of_decide_eq_true hlt)
    obtain ⟨c, _, rfl⟩ := List.mem_map.mp hm
    refine ⟨_, e1, ?_⟩
    walk_at "dl"
    exact ⟨⟨by decide, b1⟩, ⟨by decide, b2⟩, big, .inr (by decide), .inl (by decide), .inl (by decide), ⟨by decide, b3⟩, by decide, by decide, _, _, rfl⟩
  · exact ⟨.inl (by decide), ⟨by decide, b1⟩, ⟨by decide, b2⟩, big, .inr (by decide), .inl (by decide), .inl (by decide), ⟨by decide, b3⟩, by decide, by decide, _, _, rfl⟩
/-- the numbers that are drawn from -/
def Die (k : Nat) (μ : List Cell) : Prop := ∃ x y z : Int, μ[k]? = some (.lst [.int x, .int y, .int z])
/-- cells alike but for the numbers that are drawn from -/
def Drawn (k : Nat) (μ μ' : List Cell) : Prop := ∃ x y z : Int, μ' = μ.set k (.lst [.int x, .int y, .int z])
theorem Drawn.die {k : Nat} {μ μ' : List Cell} (h : Die k μ) (d : Drawn k μ μ') : Die k μ' := by
  obtain ⟨x, y, z, rfl⟩ := d
  obtain ⟨_, _, _, e⟩ := h
  exact ⟨x, y, z, cell_set e⟩
theorem Drawn.trans {k : Nat} {μ μ' μ'' : List Cell} (d : Drawn k μ μ') (d' : Drawn k μ' μ'') : Drawn k μ μ'' := by
  obtain ⟨x, y, z, rfl⟩ := d
  obtain ⟨x', y', z', rfl⟩ := d'
  exact ⟨x', y', z', set_set⟩
theorem cast_ok {k : Nat} {t : Int} {μ : List Cell} (hd : Die k μ) (h0 : 0 < t) (h1 : t < 1073741824) : WF F__law_cast [.h k, .int t] μ fun d μ' => ∃ r : Int, d = .int r ∧ 0 ≤ r ∧ r < t ∧ Drawn k μ μ' := by
  obtain ⟨x, y, z, hk⟩ := hd
  have hk2 : ∀ c, (μ.set k c)[k]? = some c := fun c => cell_set hk
  unfold F__law_cast g__law_cast
  walk_at "dl"
  simp only [hk, Option.some.injEq, Cell.lst.injEq, exists_eq_left', at0, at1, at2]
  walk_at "dl"
  simp only [exists_and_left, exists_eq_left', List.length_cons, List.length_nil, Nat.reduceAdd, ix3.1, ix3.2.1, Option.some.injEq, set3a, set3c, hk2, Cell.lst.injEq, at1, at2]
  walk_at "dl"
  refine ite2 (fun _ => ⟨by omega, ⟨by omega, by omega⟩, (fmod_pos h0).1, (fmod_pos h0).2, _, _, _, rfl⟩) fun _ => ?_
  have m1 := fmod_pos (a := y + 776531491 * (z + 1)) (b := 2305843009213693907) (by decide)
  have m2 := fmod_pos (a := (y + 776531491 * (z + 1)).fmod 2305843009213693907 * (y + 776531491 * (z + 1)).fmod 2305843009213693907) (b := 1152921504606846619) (by decide)
  generalize (y + 776531491 * (z + 1)).fmod 2305843009213693907 = one at m1 m2 ⊢
  generalize (one * one).fmod 1152921504606846619 = sq at m2 ⊢
  refine ⟨.inl (by decide), by decide, .inl ⟨by omega, by omega⟩, by decide, .inl ⟨by omega, by omega⟩, .inl (by decide), by decide, ⟨by decide, by decide⟩, by omega, (fmod_pos h0).1, (fmod_pos h0).2, _, _, _, rfl⟩
/-- what is picked is one of the items -/
theorem pick_ok {k : Nat} {μ : List Cell} {xs : List D} (hd : Die k μ) (hx : 0 < xs.length) (hl : xs.length < 1073741824) : WF F__law_pick [.h k, .lst xs] μ fun d μ' => d ∈ xs ∧ Drawn k μ μ' := by
  unfold F__law_pick g__law_pick
  walk_at "dl"
  obtain ⟨d, μ', e, r, rfl, h0, h1, dr⟩ := cast_ok (t := xs.length) hd (by omega) (by omega)
  refine ⟨_, μ', e, ?_⟩
  obtain ⟨c, e1, hm, _⟩ := atI_lt h0 h1
  walk_at "dl"
  exact ⟨c, e1, hm, dr⟩
theorem pick_str {k : Nat} {μ : List Cell} {z : Str} (hd : Die k μ) (hx : 0 < z.length) (hl : z.length ≤ 1000) : WF F__law_pick [.h k, .str z] μ fun d μ' => (∃ c ∈ z.cps.toList, d = .str ⟨#[c]⟩) ∧ Drawn k μ μ' := by
  have hz : z.length ≤ sizeLine := Nat.le_trans hl (by decide)
  unfold F__law_pick g__law_pick
  walk_at "dl"
  refine ⟨hz, ?_⟩
  obtain ⟨d, μ', e, r, rfl, h0, h1, dr⟩ := cast_ok (t := z.length) hd (by omega) (by omega)
  refine ⟨_, μ', e, ?_⟩
  obtain ⟨c, e1, hm, _⟩ := atI_lt (xs := z.cps.toList) h0 (by rw [Array.length_toList]; exact h1)
  walk_at "dl"
  exact ⟨hz, c, e1, ⟨c, hm, rfl⟩, dr⟩


/-! ### the law -/
abbrev someD : List D := [.int 0, .int 7, .str "p", .str "", .tup [.str "p", .int 3], .non, .int (-1), .int (10 ^ 39), .lst [.int 1], .dct [], .bl true, .tup [], .str "a b"]
theorem step {s g' : EvS} {S S' : Sg} {U : Fl → Sg → Prop} (e : s S = some (.nx, S')) (h : WS g' S' U) : WS (sSeq s g') S U := ws_seq.mpr ⟨.nx, S', e, h⟩
theorem skip {t : EvT} {r g' : EvS} {ρ : List (Option D)} {μ : List Cell} {U : Fl → Sg → Prop} (e : t ⟨ρ, μ⟩ = some (false, μ)) (h : WS g' ⟨ρ, μ⟩ U) : WS (sSeq (sIf t r sNx) g') ⟨ρ, μ⟩ U :=
  ws_seq.mpr (ws_if.mpr ⟨false, μ, e, iteF (ws_nx.mpr h)⟩)
theorem items_ok {k : Nat} {ρ : List (Option D)} (h0 : ρ[0]? = some (some (.h k))) (h1 : ρ[1]? = some (some (.lst someD))) (h2 : 14 < ρ.length) : ∀ (ds : List D) (μ : List Cell), Die k μ →
    WLc (bName 14) (fun S => some (true, S.μ)) (fCall F__law_pick (fLen 2 (fCons (fV 0) (fCons (fV 1) fNil)))) ρ ds μ fun xs μ' => (xs.length = ds.length ∧ ∀ x ∈ xs, x ∈ someD) ∧ Drawn k μ μ'
  | [], μ, hd => by
    obtain ⟨x, y, z, e⟩ := hd
    refine wlc_nil.mpr ⟨⟨rfl, fun _ z => (nomatch z)⟩, x, y, z, ?_⟩
    exact (set_same e).symm
  | d :: ds, μ, hd => by
    rw [wlc_cons]
    walk_at "dl"
    refine ⟨h2, ?_⟩
    refine ⟨_, by rw [List.getElem?_set_ne (by decide)]; exact h0, _, by rw [List.getElem?_set_ne (by decide)]; exact h1, ?_⟩
    obtain ⟨x, μ1, e, hc, dr⟩ := pick_ok (xs := someD) hd (by decide) (by decide)
    refine ⟨_, μ1, e, ?_⟩
    obtain ⟨xs, μ2, e2, ⟨hlen, hcs⟩, dr2⟩ := items_ok h0 h1 h2 ds μ1 (dr.die hd)
    refine ⟨_, μ2, e2, ⟨by simp [hlen], fun b hb => ?_⟩, dr.trans dr2⟩
    rcases List.mem_cons.mp hb with rfl | hb
    · exact hc
    · exact hcs b hb
/-! what the drawn ones are shown as -/
def Ok1 (d : D) : Prop := ∃ p, toR d = some p ∧ p.showable = true ∧ p.depth ≤ 1 ∧ p.shown.length ≤ 100
theorem some_ok : ∀ d ∈ someD, Ok1 d := by
  intro d hd
  simp only [someD, List.mem_cons, List.not_mem_nil, or_false] at hd
  rcases hd with rfl | rfl | rfl | rfl | rfl | rfl | rfl | rfl | rfl | rfl | rfl | rfl | rfl <;> exact ⟨_, rfl, by decide +kernel, by decide +kernel, by decide +kernel⟩
theorem text_le : ∀ (ts : List Str) (k : Nat) (acc : Str), (∀ t ∈ ts, t.length ≤ 100) → (textFrom k acc ts).length ≤ acc.length + ts.length * 102
  | [], k, acc, _ => by simp [textFrom]
  | t :: r, k, acc, h => by
    have z := text_le r (k + 1) (acc ++ (if k > 0 then ", " else "" : String) ++ t) fun x hx => h x (List.mem_cons_of_mem _ hx)
    have ht := h t List.mem_cons_self
    have e : (acc ++ (if k > 0 then ", " else "" : String) ++ t).length ≤ acc.length + 2 + t.length := by
      rw [strLen_append, strLen_append]
      split
      · exact Nat.le_refl _
      · exact Nat.add_le_add_right (Nat.le_trans (Nat.le_refl acc.length) (Nat.le_add_right _ _)) _
    show (textFrom (k + 1) _ r).length ≤ _
    rw [List.length_cons]
    omega
theorem all_ok : ∀ (ds : List D), (∀ d ∈ ds, Ok1 d) → ∃ ps, toRs ds = some ps ∧ PyData.showableAll ps = true ∧ PyData.depthAll ps ≤ 1 ∧ (∀ t ∈ PyData.shownAll ps, t.length ≤ 100) ∧ (PyData.shownAll ps).length = ds.length
  | [], _ => ⟨[], rfl, rfl, Nat.zero_le _, fun _ z => (nomatch z), rfl⟩
  | d :: ds, h => by
    obtain ⟨p, e, h1, h2, h3⟩ := h d List.mem_cons_self
    obtain ⟨ps, e', g1, g2, g3, g4⟩ := all_ok ds fun x hx => h x (List.mem_cons_of_mem _ hx)
    refine ⟨p :: ps, by simp only [toRs, e, e'], by simp only [PyData.showableAll, h1, g1, Bool.and_self], by simp only [PyData.depthAll]; omega, fun t ht => ?_, by simp only [PyData.shownAll, List.length_cons, g4]⟩
    simp only [PyData.shownAll] at ht
    rcases List.mem_cons.mp ht with rfl | ht
    · exact h3
    · exact g3 t ht
theorem repr_ok (ds : List D) (μ : List Cell) (h : ∀ d ∈ ds, Ok1 d) (hl : ds.length = 7) : ∃ T, dReprR (.lst ds) μ = some (.str T) := by
  obtain ⟨ps, e, g1, g2, g3, g4⟩ := all_ok ds h
  have hz : (PyData.list ps).shown.length ≤ sizeLine := by
    have z := text_le (PyData.shownAll ps) 0 "[" g3
    rw [g4, hl] at z
    have z' : (textFrom 0 "[" (PyData.shownAll ps)).length ≤ 1 + 7 * 102 := z
    simp only [PyData.shown]
    unfold listText
    rw [strLen_append, sizeLine_eq]
    have e3 : (("]" : Str)).length = 1 := by decide
    have e4 : (textFrom 0 "[" (PyData.shownAll ps)).length + 1 ≤ 16777216 := by omega
    exact e4
  refine ⟨(PyData.list ps).shown, ?_⟩
  unfold dReprR
  simp only [e]
  rw [if_pos ⟨g1, by simp only [PyData.depth]; omega, hz⟩]
theorem rep_at {i : Nat} {ρ : List (Option D)} {μ : List Cell} {L : List D} {T : Str} (h : ρ[i]? = some (some (.lst L))) (e : dReprR (.lst L) μ = some (.str T)) : fApp (g1 dReprR) (fCons (fV i) fNil) ⟨ρ, μ⟩ = some (.str T, μ) := by
  unfold fApp fCons fNil fV g1
  simp only [h, e]
theorem ne_same (T : Str) (μ : List Cell) : dNe (.str T) (.str T) μ = some (.bl false) := by simp [dNe, eqB]
theorem right_ok {k : Nat} {μ : List Cell} (hd : Die k μ) : WF F__law_right [.h k] μ fun d μ' => d = .bl true ∧ Drawn k μ μ' := by
  unfold F__law_right g__law_right
  refine wf_fn.mpr (step (S' := ⟨[some (.h k), some (.lst someD), none, none, none, none, none, none, none, none, none, none, none, none, none, none, none], μ⟩) (by kernel_rfl) ?_)
  refine ws_seq.mpr (ws_then.mpr (we_Lc.mpr (wi_rng1.mpr ⟨[.int 7], μ, by kernel_rfl, 7, rfl, by decide, by decide, ?_⟩)))
  obtain ⟨xs, μ1, e1, ⟨hlen, hin⟩, dr1⟩ := items_ok (k := k) (ρ := wipeR [some (.h k), some (.lst someD), none, none, none, none, none, none, none, none, none, none, none, none, none, none, none] [14]) rfl rfl (show 14 < 17 by decide) (rngD 0 7) μ hd
  have hlen : xs.length = 7 := hlen
  refine ⟨xs, μ1, e1, by rw [hlen]; decide, ?_⟩
  match xs, hlen, hin with
  | [a0, a1, a2, a3, a4, a5, a6], _, hin =>
  refine ⟨⟨[some (.h k), some (.lst someD), some (.lst [a0, a1, a2, a3, a4, a5, a6]), none, none, none, none, none, none, none, none, none, none, none, none, none, none], μ1⟩, by kernel_rfl, ?_⟩
  show WS _ _ _
  have d1 := dr1.die hd
  -- the word
  refine ws_seq.mpr (ws_then.mpr (we_call.mpr (wa_len.mpr (wa_cons.mpr (we_call.mpr (wa_len.mpr ⟨[.h k, .lst [.str "", .str "x", .str "a name"]], μ1, by kernel_rfl, rfl, ?_⟩))))))
  obtain ⟨wd, μ2, e2, hw, dr2⟩ := pick_ok (xs := [.str "", .str "x", .str "a name"]) d1 (by decide) (by decide)
  refine ⟨wd, μ2, e2, ?_⟩
  refine wa_nil.mpr ⟨rfl, ?_⟩
  refine ⟨.lst [.exc "DepthError", .exc "InvalidProgram", .exc "InvalidRun", .exc "InvalidLimit", .exc "InvalidLimits", .exc "InvalidModes", .exc "InvalidRow", .exc "InvalidSign", .exc "InvalidOperation", .exc "InvalidCommand"], μ2, by kernel_rfl, ?_⟩
  refine ⟨⟨[some (.h k), some (.lst someD), some (.lst [a0, a1, a2, a3, a4, a5, a6]), some (.lst [.exc "DepthError", .exc "InvalidProgram", .exc "InvalidRun", .exc "InvalidLimit", .exc "InvalidLimits", .exc "InvalidModes", .exc "InvalidRow", .exc "InvalidSign", .exc "InvalidOperation", .exc "InvalidCommand"]), none, none, none, none, none, none, none, none, none, none, none, none, none], μ2⟩, by kernel_rfl, ?_⟩
  show WS _ _ _
  have dr := dr1.trans dr2
  obtain ⟨T, hT⟩ := repr_ok [a0, a1, a2, a3, a4, a5, a6] μ2 (fun d hd => some_ok d (hin d hd)) rfl
  refine skip (by kernel_rfl) (skip (by kernel_rfl) ?_)
  refine step (S' := ⟨[some (.h k), some (.lst someD), some (.lst [a0, a1, a2, a3, a4, a5, a6]), some (.lst [.exc "DepthError", .exc "InvalidProgram", .exc "InvalidRun", .exc "InvalidLimit", .exc "InvalidLimits", .exc "InvalidModes", .exc "InvalidRow", .exc "InvalidSign", .exc "InvalidOperation", .exc "InvalidCommand"]), some (.exf "ParseError" "line" a0), some (.exf "UnknownName" "name" a1), none, none, none, none, none, none, none, none, none, none, none], μ2⟩) (by kernel_rfl) ?_
  refine step (S' := ⟨[some (.h k), some (.lst someD), some (.lst [a0, a1, a2, a3, a4, a5, a6]), some (.lst [.exc "DepthError", .exc "InvalidProgram", .exc "InvalidRun", .exc "InvalidLimit", .exc "InvalidLimits", .exc "InvalidModes", .exc "InvalidRow", .exc "InvalidSign", .exc "InvalidOperation", .exc "InvalidCommand"]), some (.exf "ParseError" "line" a0), some (.exf "UnknownName" "name" a1), some (.exf "UnknownSite" "site" a2), none, none, none, none, none, none, none, none, none, none], μ2⟩) (by kernel_rfl) ?_
  refine step (S' := ⟨[some (.h k), some (.lst someD), some (.lst [a0, a1, a2, a3, a4, a5, a6]), some (.lst [.exc "DepthError", .exc "InvalidProgram", .exc "InvalidRun", .exc "InvalidLimit", .exc "InvalidLimits", .exc "InvalidModes", .exc "InvalidRow", .exc "InvalidSign", .exc "InvalidOperation", .exc "InvalidCommand"]), some (.exf "ParseError" "line" a0), some (.exf "UnknownName" "name" a1), some (.exf "UnknownSite" "site" a2), some (.exf "InvalidNumber" "value" a3), some (.exf "NothingToUndo" "many" a4), none, none, none, none, none, none, none, none], μ2⟩) (by kernel_rfl) ?_
  refine step (S' := ⟨[some (.h k), some (.lst someD), some (.lst [a0, a1, a2, a3, a4, a5, a6]), some (.lst [.exc "DepthError", .exc "InvalidProgram", .exc "InvalidRun", .exc "InvalidLimit", .exc "InvalidLimits", .exc "InvalidModes", .exc "InvalidRow", .exc "InvalidSign", .exc "InvalidOperation", .exc "InvalidCommand"]), some (.exf "ParseError" "line" a0), some (.exf "UnknownName" "name" a1), some (.exf "UnknownSite" "site" a2), some (.exf "InvalidNumber" "value" a3), some (.exf "NothingToUndo" "many" a4), some (.exf "Refused" "name" a5), some (.exf "TooMany" "limit" a6), none, none, none, none, none, none], μ2⟩) (by kernel_rfl) ?_
  refine step (S' := ⟨[some (.h k), some (.lst someD), some (.lst [a0, a1, a2, a3, a4, a5, a6]), some (.lst [.exc "DepthError", .exc "InvalidProgram", .exc "InvalidRun", .exc "InvalidLimit", .exc "InvalidLimits", .exc "InvalidModes", .exc "InvalidRow", .exc "InvalidSign", .exc "InvalidOperation", .exc "InvalidCommand"]), some (.exf "ParseError" "line" a0), some (.exf "UnknownName" "name" a1), some (.exf "UnknownSite" "site" a2), some (.exf "InvalidNumber" "value" a3), some (.exf "NothingToUndo" "many" a4), some (.exf "Refused" "name" a5), some (.exf "TooMany" "limit" a6), some (.lst [a0, a1, a2, a3, a4, a5, a6]), none, none, none, none, none], μ2⟩) (by kernel_rfl) ?_
  -- the texts
  refine ws_seq.mpr (ws_if.mpr (wt_Or.mpr (wt_Tru.mpr (we_B.mpr ⟨.str T, μ2, rep_at rfl hT, .str T, μ2, rep_at rfl hT, .bl false, ne_same T μ2, false, rfl, ?_⟩))))
  refine iteF ⟨false, μ2, by kernel_rfl, iteF (ws_nx.mpr ?_)⟩
  show WS _ _ _
  refine skip (by kernel_rfl) ?_
  refine step (S' := ⟨[some (.h k), some (.lst someD), some (.lst [a0, a1, a2, a3, a4, a5, a6]), some (.lst [.exc "DepthError", .exc "InvalidProgram", .exc "InvalidRun", .exc "InvalidLimit", .exc "InvalidLimits", .exc "InvalidModes", .exc "InvalidRow", .exc "InvalidSign", .exc "InvalidOperation", .exc "InvalidCommand"]), some (.exf "ParseError" "line" a0), some (.exf "UnknownName" "name" a1), some (.exf "UnknownSite" "site" a2), some (.exf "InvalidNumber" "value" a3), some (.exf "NothingToUndo" "many" a4), some (.exf "Refused" "name" a5), some (.exf "TooMany" "limit" a6), some (.lst [a0, a1, a2, a3, a4, a5, a6]), some (.lst [.exf "UnknownName" "name" a1, .exf "UnknownSite" "site" a2, .exf "InvalidNumber" "value" a3, .exf "NothingToUndo" "many" a4, .exf "Refused" "name" a5, .exf "TooMany" "limit" a6]), none, none, none, none], μ2⟩) (by kernel_rfl) ?_
  refine skip (by kernel_rfl) ?_
  refine step (S' := ⟨[some (.h k), some (.lst someD), some (.lst [a0, a1, a2, a3, a4, a5, a6]), some (.lst [.exc "DepthError", .exc "InvalidProgram", .exc "InvalidRun", .exc "InvalidLimit", .exc "InvalidLimits", .exc "InvalidModes", .exc "InvalidRow", .exc "InvalidSign", .exc "InvalidOperation", .exc "InvalidCommand"]), some (.exf "ParseError" "line" a0), some (.exf "UnknownName" "name" a1), some (.exf "UnknownSite" "site" a2), some (.exf "InvalidNumber" "value" a3), some (.exf "NothingToUndo" "many" a4), some (.exf "Refused" "name" a5), some (.exf "TooMany" "limit" a6), some (.lst [a0, a1, a2, a3, a4, a5, a6]), some (.lst [.exf "UnknownName" "name" a1, .exf "UnknownSite" "site" a2, .exf "InvalidNumber" "value" a3, .exf "NothingToUndo" "many" a4, .exf "Refused" "name" a5, .exf "TooMany" "limit" a6]), some (.lst [.lst [.str "name", .str "key", .str "lookup"], .lst [.str "site", .str "key", .str "lookup"], .lst [.str "number", .str "index", .str "lookup"], .lst [.str "undo", .str "lookup"]]), none, none, none], μ2⟩) (by kernel_rfl) (step (S' := ⟨[some (.h k), some (.lst someD), some (.lst [a0, a1, a2, a3, a4, a5, a6]), some (.lst [.exc "DepthError", .exc "InvalidProgram", .exc "InvalidRun", .exc "InvalidLimit", .exc "InvalidLimits", .exc "InvalidModes", .exc "InvalidRow", .exc "InvalidSign", .exc "InvalidOperation", .exc "InvalidCommand"]), some (.exf "ParseError" "line" a0), some (.exf "UnknownName" "name" a1), some (.exf "UnknownSite" "site" a2), some (.exf "InvalidNumber" "value" a3), some (.exf "NothingToUndo" "many" a4), some (.exf "Refused" "name" a5), some (.exf "TooMany" "limit" a6), some (.lst [a0, a1, a2, a3, a4, a5, a6]), some (.lst [.exf "UnknownName" "name" a1, .exf "UnknownSite" "site" a2, .exf "InvalidNumber" "value" a3, .exf "NothingToUndo" "many" a4, .exf "Refused" "name" a5, .exf "TooMany" "limit" a6]), some (.lst [.lst [.str "name", .str "key", .str "lookup"], .lst [.str "site", .str "key", .str "lookup"], .lst [.str "number", .str "index", .str "lookup"], .lst [.str "undo", .str "lookup"], .lst [.str "refused", .str "arithmetic"], .lst [.str "over", .str "arithmetic", .str "overflow"]]), none, none, none], μ2⟩) (by kernel_rfl) ?_)
  exact ⟨.rt (.bl true), ⟨[some (.h k), some (.lst someD), some (.lst [a0, a1, a2, a3, a4, a5, a6]), some (.lst [.exc "DepthError", .exc "InvalidProgram", .exc "InvalidRun", .exc "InvalidLimit", .exc "InvalidLimits", .exc "InvalidModes", .exc "InvalidRow", .exc "InvalidSign", .exc "InvalidOperation", .exc "InvalidCommand"]), some (.exf "ParseError" "line" a0), some (.exf "UnknownName" "name" a1), some (.exf "UnknownSite" "site" a2), some (.exf "InvalidNumber" "value" a3), some (.exf "NothingToUndo" "many" a4), some (.exf "Refused" "name" a5), some (.exf "TooMany" "limit" a6), some (.lst [a0, a1, a2, a3, a4, a5, a6]), some (.lst [.exf "UnknownName" "name" a1, .exf "UnknownSite" "site" a2, .exf "InvalidNumber" "value" a3, .exf "NothingToUndo" "many" a4, .exf "Refused" "name" a5, .exf "TooMany" "limit" a6]), some (.lst [.lst [.str "name", .str "key", .str "lookup"], .lst [.str "site", .str "key", .str "lookup"], .lst [.str "number", .str "index", .str "lookup"], .lst [.str "undo", .str "lookup"], .lst [.str "refused", .str "arithmetic"], .lst [.str "over", .str "arithmetic", .str "overflow"]]), none, none, none], μ2⟩, by kernel_rfl, rfl, dr⟩
theorem mem_rng {lo : Int} {n : Nat} {d : D} (h : d ∈ rngD lo n) : ∃ i : Nat, i < n ∧ d = .int (lo + i) := by
  obtain ⟨i, hi, rfl⟩ := List.mem_map.mp h
  exact ⟨i, List.mem_range.mp hi, rfl⟩
theorem law_ok (ns : List Int) (h : ns.length ≤ 63) : ∃ μ', F_law [.rl (ns.map D.int)] [] = some (.v (.bl true), μ') := by
  suffices q : WF F_law [.rl (ns.map D.int)] [] fun d _ => d = .bl true by
    obtain ⟨d, μ', e, rfl⟩ := q
    exact ⟨μ', e⟩
  unfold F_law g_law
  walk_at "dl"
  generalize hm : (if (if ((ns.length : Nat) : Int) < 8 then ((ns.length : Nat) : Int) else 8) > 1 then (if ((ns.length : Nat) : Int) < 8 then ((ns.length : Nat) : Int) else 8) else 1) = m
  have m8 : 0 ≤ m ∧ m ≤ 8 := by
    rw [← hm]
    split <;> split <;> omega
  refine ⟨by omega, by omega, ?_⟩
  refine ws_forInv (fun ds S => ∃ μ a, S = ⟨[some (D.rl (ns.map D.int)), a], μ⟩ ∧ ∀ d ∈ ds, ∃ i : Nat, d = .int (0 + i)) ?_ ?_ _ _ ⟨[], none, rfl, fun d hd => let ⟨i, _, e⟩ := mem_rng hd; ⟨i, e⟩⟩
  · rintro d r S ⟨μ, a, rfl, hp⟩
    obtain ⟨i, rfl⟩ := hp d List.mem_cons_self
    walk_at "dl"
    obtain ⟨_, _, e1, x, y, rfl, rfl⟩ := numbers_ok ns (0 + (i : Int)) (by omega) μ
    refine ⟨_, _, e1, ?_⟩
    obtain ⟨_, μ2, e2, rfl, dr⟩ := right_ok (k := μ.length) (μ := μ ++ [.lst [.int x, .int y, .int 0]]) ⟨x, y, 0, by simp⟩
    (try walk_at "dl")
    refine ⟨_, μ2, e2, ?_⟩
    (try walk_at "dl")
    exact ⟨_, _, rfl, fun d hd => hp d (List.mem_cons_of_mem _ hd)⟩
  · rintro S ⟨μ, a, rfl, _⟩
    walk_at "dl"
end G
namespace G
open PySem L2 DL PySem.F
theorem sci_ParseError : FnScope ["self", "line"] ["self", "line"] (defScope si_ParseError) := ⟨rfl, rfl, rfl, by decide +kernel, rfl, by decide +kernel, by decide +kernel⟩
theorem sci_UnknownName : FnScope ["self", "name"] ["self", "name"] (defScope si_UnknownName) := ⟨rfl, rfl, rfl, by decide +kernel, rfl, by decide +kernel, by decide +kernel⟩
theorem sci_UnknownSite : FnScope ["self", "site"] ["self", "site"] (defScope si_UnknownSite) := ⟨rfl, rfl, rfl, by decide +kernel, rfl, by decide +kernel, by decide +kernel⟩
theorem sci_InvalidNumber : FnScope ["self", "value"] ["self", "value"] (defScope si_InvalidNumber) := ⟨rfl, rfl, rfl, by decide +kernel, rfl, by decide +kernel, by decide +kernel⟩
theorem sci_NothingToUndo : FnScope ["self", "many"] ["self", "many"] (defScope si_NothingToUndo) := ⟨rfl, rfl, rfl, by decide +kernel, rfl, by decide +kernel, by decide +kernel⟩
theorem sci_Refused : FnScope ["self", "name"] ["self", "name"] (defScope si_Refused) := ⟨rfl, rfl, rfl, by decide +kernel, rfl, by decide +kernel, by decide +kernel⟩
theorem sci_TooMany : FnScope ["self", "limit"] ["self", "limit"] (defScope si_TooMany) := ⟨rfl, rfl, rfl, by decide +kernel, rfl, by decide +kernel, by decide +kernel⟩
section
theorem all_mk {P : Program} {w : World} {K : PySem.W.Frag} {h : Heap} {mg : Str → Option Value} {fa : Addr} (X : K.In h) (G : h.Ns mainGlobals mg) (hfa : mg "law" = some (.ref fa))
    {od1 an1 : Option Addr} {sl1 : Array (Option Value)} {oc1 kV1 dc1 pm1 cd1 ct1 : Value} {f1 : Addr} {od2 an2 : Option Addr} {sl2 : Array (Option Value)} {oc2 kV2 dc2 pm2 cd2 ct2 : Value} {f2 : Addr} {od3 an3 : Option Addr} {sl3 : Array (Option Value)} {oc3 kV3 dc3 pm3 cd3 ct3 : Value} {f3 : Addr} {od4 an4 : Option Addr} {sl4 : Array (Option Value)} {oc4 kV4 dc4 pm4 cd4 ct4 : Value} {f4 : Addr} {od5 an5 : Option Addr} {sl5 : Array (Option Value)} {oc5 kV5 dc5 pm5 cd5 ct5 : Value} {f5 : Addr} {od6 an6 : Option Addr} {sl6 : Array (Option Value)} {oc6 kV6 dc6 pm6 cd6 ct6 : Value} {f6 : Addr} {od7 an7 : Option Addr} {sl7 : Array (Option Value)} {oc7 kV7 dc7 pm7 cd7 ct7 : Value} {f7 : Addr} {od8 an8 : Option Addr} {sl8 : Array (Option Value)} {oc8 kV8 dc8 pm8 cd8 ct8 : Value} {f8 : Addr} {c_DepthError : Addr} {c_InvalidProgram : Addr} {c_InvalidRun : Addr} {c_InvalidLimit : Addr} {c_InvalidLimits : Addr} {c_InvalidModes : Addr} {c_InvalidRow : Addr} {c_InvalidSign : Addr} {c_InvalidOperation : Addr} {c_InvalidCommand : Addr} {c_ParseError : Addr} {c_UnknownName : Addr} {c_UnknownSite : Addr} {c_InvalidNumber : Addr} {c_NothingToUndo : Addr} {c_Refused : Addr} {c_TooMany : Addr} {odIParseError anIParseError : Option Addr} {slIParseError : Array (Option Value)} {ocIParseError kVIParseError dcIParseError pmIParseError cdIParseError ctIParseError : Value} {i_ParseError : Addr} {odIUnknownName anIUnknownName : Option Addr} {slIUnknownName : Array (Option Value)} {ocIUnknownName kVIUnknownName dcIUnknownName pmIUnknownName cdIUnknownName ctIUnknownName : Value} {i_UnknownName : Addr} {odIUnknownSite anIUnknownSite : Option Addr} {slIUnknownSite : Array (Option Value)} {ocIUnknownSite kVIUnknownSite dcIUnknownSite pmIUnknownSite cdIUnknownSite ctIUnknownSite : Value} {i_UnknownSite : Addr} {odIInvalidNumber anIInvalidNumber : Option Addr} {slIInvalidNumber : Array (Option Value)} {ocIInvalidNumber kVIInvalidNumber dcIInvalidNumber pmIInvalidNumber cdIInvalidNumber ctIInvalidNumber : Value} {i_InvalidNumber : Addr} {odINothingToUndo anINothingToUndo : Option Addr} {slINothingToUndo : Array (Option Value)} {ocINothingToUndo kVINothingToUndo dcINothingToUndo pmINothingToUndo cdINothingToUndo ctINothingToUndo : Value} {i_NothingToUndo : Addr} {odIRefused anIRefused : Option Addr} {slIRefused : Array (Option Value)} {ocIRefused kVIRefused dcIRefused pmIRefused cdIRefused ctIRefused : Value} {i_Refused : Addr} {odITooMany anITooMany : Option Addr} {slITooMany : Array (Option Value)} {ocITooMany kVITooMany dcITooMany pmITooMany cdITooMany ctITooMany : Value} {i_TooMany : Addr}
    (a1 : PySem.W.nsIn K mainGlobals "_law_plain_ones" = some (some (.ref f1)))
    (l1 : K.lookup f1 = some ⟨oc1, od1, .func (PySem.W.fnOf "_law_plain_ones" "_law_plain_ones" (defArgs s__law_plain_ones) (defBody s__law_plain_ones) (defScope s__law_plain_ones) .none kV1 dc1 pm1 an1 cd1 ct1), sl1⟩)
    (c1 : PySem.W.codeIn K cd1 "_law_plain_ones" = true)
    (k1 : PySem.W.keepIn K (.ref f1) = true)
    (a2 : PySem.W.nsIn K mainGlobals "_law_cast" = some (some (.ref f2)))
    (l2 : K.lookup f2 = some ⟨oc2, od2, .func (PySem.W.fnOf "_law_cast" "_law_cast" (defArgs s__law_cast) (defBody s__law_cast) (defScope s__law_cast) .none kV2 dc2 pm2 an2 cd2 ct2), sl2⟩)
    (c2 : PySem.W.codeIn K cd2 "_law_cast" = true)
    (k2 : PySem.W.keepIn K (.ref f2) = true)
    (a3 : PySem.W.nsIn K mainGlobals "_law_pick" = some (some (.ref f3)))
    (l3 : K.lookup f3 = some ⟨oc3, od3, .func (PySem.W.fnOf "_law_pick" "_law_pick" (defArgs s__law_pick) (defBody s__law_pick) (defScope s__law_pick) .none kV3 dc3 pm3 an3 cd3 ct3), sl3⟩)
    (c3 : PySem.W.codeIn K cd3 "_law_pick" = true)
    (k3 : PySem.W.keepIn K (.ref f3) = true)
    (a4 : PySem.W.nsIn K mainGlobals "_law_of_others" = some (some (.ref f4)))
    (l4 : K.lookup f4 = some ⟨oc4, od4, .func (PySem.W.fnOf "_law_of_others" "_law_of_others" (defArgs s__law_of_others) (defBody s__law_of_others) (defScope s__law_of_others) .none kV4 dc4 pm4 an4 cd4 ct4), sl4⟩)
    (c4 : PySem.W.codeIn K cd4 "_law_of_others" = true)
    (k4 : PySem.W.keepIn K (.ref f4) = true)
    (a5 : PySem.W.nsIn K mainGlobals "_law_of_depth" = some (some (.ref f5)))
    (l5 : K.lookup f5 = some ⟨oc5, od5, .func (PySem.W.fnOf "_law_of_depth" "_law_of_depth" (defArgs s__law_of_depth) (defBody s__law_of_depth) (defScope s__law_of_depth) .none kV5 dc5 pm5 an5 cd5 ct5), sl5⟩)
    (c5 : PySem.W.codeIn K cd5 "_law_of_depth" = true)
    (k5 : PySem.W.keepIn K (.ref f5) = true)
    (a6 : PySem.W.nsIn K mainGlobals "_law_right" = some (some (.ref f6)))
    (l6 : K.lookup f6 = some ⟨oc6, od6, .func (PySem.W.fnOf "_law_right" "_law_right" (defArgs s__law_right) (defBody s__law_right) (defScope s__law_right) .none kV6 dc6 pm6 an6 cd6 ct6), sl6⟩)
    (c6 : PySem.W.codeIn K cd6 "_law_right" = true)
    (k6 : PySem.W.keepIn K (.ref f6) = true)
    (a7 : PySem.W.nsIn K mainGlobals "_law_numbers" = some (some (.ref f7)))
    (l7 : K.lookup f7 = some ⟨oc7, od7, .func (PySem.W.fnOf "_law_numbers" "_law_numbers" (defArgs s__law_numbers) (defBody s__law_numbers) (defScope s__law_numbers) .none kV7 dc7 pm7 an7 cd7 ct7), sl7⟩)
    (c7 : PySem.W.codeIn K cd7 "_law_numbers" = true)
    (k7 : PySem.W.keepIn K (.ref f7) = true)
    (a8 : PySem.W.nsIn K mainGlobals "law" = some (some (.ref f8)))
    (l8 : K.lookup f8 = some ⟨oc8, od8, .func (PySem.W.fnOf "law" "law" (defArgs s_law) (defBody s_law) (defScope s_law) .none kV8 dc8 pm8 an8 cd8 ct8), sl8⟩)
    (c8 : PySem.W.codeIn K cd8 "law" = true)
    (k8 : PySem.W.keepIn K (.ref f8) = true)
    (z_ArithmeticError : PySem.W.nsIn K mainGlobals "ArithmeticError" = some none)
    (z_IndexError : PySem.W.nsIn K mainGlobals "IndexError" = some none)
    (z_KeyError : PySem.W.nsIn K mainGlobals "KeyError" = some none)
    (z_LookupError : PySem.W.nsIn K mainGlobals "LookupError" = some none)
    (z_OverflowError : PySem.W.nsIn K mainGlobals "OverflowError" = some none)
    (z_ValueError : PySem.W.nsIn K mainGlobals "ValueError" = some none)
    (z_abs : PySem.W.nsIn K mainGlobals "abs" = some none)
    (z_int : PySem.W.nsIn K mainGlobals "int" = some none)
    (z_isinstance : PySem.W.nsIn K mainGlobals "isinstance" = some none)
    (z_len : PySem.W.nsIn K mainGlobals "len" = some none)
    (z_max : PySem.W.nsIn K mainGlobals "max" = some none)
    (z_min : PySem.W.nsIn K mainGlobals "min" = some none)
    (z_range : PySem.W.nsIn K mainGlobals "range" = some none)
    (z_repr : PySem.W.nsIn K mainGlobals "repr" = some none)
    (ca_DepthError : PySem.W.nsIn K mainGlobals "DepthError" = some (some (.ref c_DepthError)))
    (ca_InvalidProgram : PySem.W.nsIn K mainGlobals "InvalidProgram" = some (some (.ref c_InvalidProgram)))
    (ca_InvalidRun : PySem.W.nsIn K mainGlobals "InvalidRun" = some (some (.ref c_InvalidRun)))
    (ca_InvalidLimit : PySem.W.nsIn K mainGlobals "InvalidLimit" = some (some (.ref c_InvalidLimit)))
    (ca_InvalidLimits : PySem.W.nsIn K mainGlobals "InvalidLimits" = some (some (.ref c_InvalidLimits)))
    (ca_InvalidModes : PySem.W.nsIn K mainGlobals "InvalidModes" = some (some (.ref c_InvalidModes)))
    (ca_InvalidRow : PySem.W.nsIn K mainGlobals "InvalidRow" = some (some (.ref c_InvalidRow)))
    (ca_InvalidSign : PySem.W.nsIn K mainGlobals "InvalidSign" = some (some (.ref c_InvalidSign)))
    (ca_InvalidOperation : PySem.W.nsIn K mainGlobals "InvalidOperation" = some (some (.ref c_InvalidOperation)))
    (ca_InvalidCommand : PySem.W.nsIn K mainGlobals "InvalidCommand" = some (some (.ref c_InvalidCommand)))
    (ca_ParseError : PySem.W.nsIn K mainGlobals "ParseError" = some (some (.ref c_ParseError)))
    (ca_UnknownName : PySem.W.nsIn K mainGlobals "UnknownName" = some (some (.ref c_UnknownName)))
    (ca_UnknownSite : PySem.W.nsIn K mainGlobals "UnknownSite" = some (some (.ref c_UnknownSite)))
    (ca_InvalidNumber : PySem.W.nsIn K mainGlobals "InvalidNumber" = some (some (.ref c_InvalidNumber)))
    (ca_NothingToUndo : PySem.W.nsIn K mainGlobals "NothingToUndo" = some (some (.ref c_NothingToUndo)))
    (ca_Refused : PySem.W.nsIn K mainGlobals "Refused" = some (some (.ref c_Refused)))
    (ca_TooMany : PySem.W.nsIn K mainGlobals "TooMany" = some (some (.ref c_TooMany)))
    (cj_ParseError : PySem.W.findIn K (.ref c_ParseError) "__init__" = some (some (.ref i_ParseError)))
    (ct_ParseError : PySem.W.typeIn K (.ref i_ParseError) = some (.type "function"))
    (cl_ParseError : K.lookup i_ParseError = some ⟨ocIParseError, odIParseError, .func (PySem.W.fnOf "__init__" "ParseError.__init__" (defArgs si_ParseError) (defBody si_ParseError) (defScope si_ParseError) .none kVIParseError dcIParseError pmIParseError anIParseError cdIParseError ctIParseError), slIParseError⟩)
    (cc_ParseError : PySem.W.codeIn K cdIParseError "ParseError.__init__" = true)
    (ck_ParseError : PySem.W.keepIn K (.ref i_ParseError) = true)
    (cb_ParseError : clB K c_ParseError [.type "ValueError", .type "Exception", .type "BaseException", .type "object"] "ValueError.__new__" "line" = true)
    (cj_UnknownName : PySem.W.findIn K (.ref c_UnknownName) "__init__" = some (some (.ref i_UnknownName)))
    (ct_UnknownName : PySem.W.typeIn K (.ref i_UnknownName) = some (.type "function"))
    (cl_UnknownName : K.lookup i_UnknownName = some ⟨ocIUnknownName, odIUnknownName, .func (PySem.W.fnOf "__init__" "UnknownName.__init__" (defArgs si_UnknownName) (defBody si_UnknownName) (defScope si_UnknownName) .none kVIUnknownName dcIUnknownName pmIUnknownName anIUnknownName cdIUnknownName ctIUnknownName), slIUnknownName⟩)
    (cc_UnknownName : PySem.W.codeIn K cdIUnknownName "UnknownName.__init__" = true)
    (ck_UnknownName : PySem.W.keepIn K (.ref i_UnknownName) = true)
    (cb_UnknownName : clB K c_UnknownName [.type "KeyError", .type "LookupError", .type "Exception", .type "BaseException", .type "object"] "LookupError.__new__" "name" = true)
    (cj_UnknownSite : PySem.W.findIn K (.ref c_UnknownSite) "__init__" = some (some (.ref i_UnknownSite)))
    (ct_UnknownSite : PySem.W.typeIn K (.ref i_UnknownSite) = some (.type "function"))
    (cl_UnknownSite : K.lookup i_UnknownSite = some ⟨ocIUnknownSite, odIUnknownSite, .func (PySem.W.fnOf "__init__" "UnknownSite.__init__" (defArgs si_UnknownSite) (defBody si_UnknownSite) (defScope si_UnknownSite) .none kVIUnknownSite dcIUnknownSite pmIUnknownSite anIUnknownSite cdIUnknownSite ctIUnknownSite), slIUnknownSite⟩)
    (cc_UnknownSite : PySem.W.codeIn K cdIUnknownSite "UnknownSite.__init__" = true)
    (ck_UnknownSite : PySem.W.keepIn K (.ref i_UnknownSite) = true)
    (cb_UnknownSite : clB K c_UnknownSite [.type "KeyError", .type "LookupError", .type "Exception", .type "BaseException", .type "object"] "LookupError.__new__" "site" = true)
    (cj_InvalidNumber : PySem.W.findIn K (.ref c_InvalidNumber) "__init__" = some (some (.ref i_InvalidNumber)))
    (ct_InvalidNumber : PySem.W.typeIn K (.ref i_InvalidNumber) = some (.type "function"))
    (cl_InvalidNumber : K.lookup i_InvalidNumber = some ⟨ocIInvalidNumber, odIInvalidNumber, .func (PySem.W.fnOf "__init__" "InvalidNumber.__init__" (defArgs si_InvalidNumber) (defBody si_InvalidNumber) (defScope si_InvalidNumber) .none kVIInvalidNumber dcIInvalidNumber pmIInvalidNumber anIInvalidNumber cdIInvalidNumber ctIInvalidNumber), slIInvalidNumber⟩)
    (cc_InvalidNumber : PySem.W.codeIn K cdIInvalidNumber "InvalidNumber.__init__" = true)
    (ck_InvalidNumber : PySem.W.keepIn K (.ref i_InvalidNumber) = true)
    (cb_InvalidNumber : clB K c_InvalidNumber [.type "IndexError", .type "LookupError", .type "Exception", .type "BaseException", .type "object"] "IndexError.__new__" "value" = true)
    (cj_NothingToUndo : PySem.W.findIn K (.ref c_NothingToUndo) "__init__" = some (some (.ref i_NothingToUndo)))
    (ct_NothingToUndo : PySem.W.typeIn K (.ref i_NothingToUndo) = some (.type "function"))
    (cl_NothingToUndo : K.lookup i_NothingToUndo = some ⟨ocINothingToUndo, odINothingToUndo, .func (PySem.W.fnOf "__init__" "NothingToUndo.__init__" (defArgs si_NothingToUndo) (defBody si_NothingToUndo) (defScope si_NothingToUndo) .none kVINothingToUndo dcINothingToUndo pmINothingToUndo anINothingToUndo cdINothingToUndo ctINothingToUndo), slINothingToUndo⟩)
    (cc_NothingToUndo : PySem.W.codeIn K cdINothingToUndo "NothingToUndo.__init__" = true)
    (ck_NothingToUndo : PySem.W.keepIn K (.ref i_NothingToUndo) = true)
    (cb_NothingToUndo : clB K c_NothingToUndo [.type "LookupError", .type "Exception", .type "BaseException", .type "object"] "LookupError.__new__" "many" = true)
    (cj_Refused : PySem.W.findIn K (.ref c_Refused) "__init__" = some (some (.ref i_Refused)))
    (ct_Refused : PySem.W.typeIn K (.ref i_Refused) = some (.type "function"))
    (cl_Refused : K.lookup i_Refused = some ⟨ocIRefused, odIRefused, .func (PySem.W.fnOf "__init__" "Refused.__init__" (defArgs si_Refused) (defBody si_Refused) (defScope si_Refused) .none kVIRefused dcIRefused pmIRefused anIRefused cdIRefused ctIRefused), slIRefused⟩)
    (cc_Refused : PySem.W.codeIn K cdIRefused "Refused.__init__" = true)
    (ck_Refused : PySem.W.keepIn K (.ref i_Refused) = true)
    (cb_Refused : clB K c_Refused [.type "ArithmeticError", .type "Exception", .type "BaseException", .type "object"] "ArithmeticError.__new__" "name" = true)
    (cj_TooMany : PySem.W.findIn K (.ref c_TooMany) "__init__" = some (some (.ref i_TooMany)))
    (ct_TooMany : PySem.W.typeIn K (.ref i_TooMany) = some (.type "function"))
    (cl_TooMany : K.lookup i_TooMany = some ⟨ocITooMany, odITooMany, .func (PySem.W.fnOf "__init__" "TooMany.__init__" (defArgs si_TooMany) (defBody si_TooMany) (defScope si_TooMany) .none kVITooMany dcITooMany pmITooMany anITooMany cdITooMany ctITooMany), slITooMany⟩)
    (cc_TooMany : PySem.W.codeIn K cdITooMany "TooMany.__init__" = true)
    (ck_TooMany : PySem.W.keepIn K (.ref i_TooMany) = true)
    (cb_TooMany : clB K c_TooMany [.type "OverflowError", .type "ArithmeticError", .type "Exception", .type "BaseException", .type "object"] "OverflowError.__new__" "limit" = true)
    (ck_DepthError : PySem.W.keepIn K (.ref c_DepthError) = true)
    (cq_DepthError : PySem.W.excIn K c_DepthError [.type "ValueError", .type "Exception", .type "BaseException", .type "object"] "ValueError.__new__" = true)
    (ck_InvalidProgram : PySem.W.keepIn K (.ref c_InvalidProgram) = true)
    (cq_InvalidProgram : PySem.W.excIn K c_InvalidProgram [.type "ValueError", .type "Exception", .type "BaseException", .type "object"] "ValueError.__new__" = true)
    (ck_InvalidRun : PySem.W.keepIn K (.ref c_InvalidRun) = true)
    (cq_InvalidRun : PySem.W.excIn K c_InvalidRun [.type "ValueError", .type "Exception", .type "BaseException", .type "object"] "ValueError.__new__" = true)
    (ck_InvalidLimit : PySem.W.keepIn K (.ref c_InvalidLimit) = true)
    (cq_InvalidLimit : PySem.W.excIn K c_InvalidLimit [.type "ValueError", .type "Exception", .type "BaseException", .type "object"] "ValueError.__new__" = true)
    (ck_InvalidLimits : PySem.W.keepIn K (.ref c_InvalidLimits) = true)
    (cq_InvalidLimits : PySem.W.excIn K c_InvalidLimits [.type "ValueError", .type "Exception", .type "BaseException", .type "object"] "ValueError.__new__" = true)
    (ck_InvalidModes : PySem.W.keepIn K (.ref c_InvalidModes) = true)
    (cq_InvalidModes : PySem.W.excIn K c_InvalidModes [.type "ValueError", .type "Exception", .type "BaseException", .type "object"] "ValueError.__new__" = true)
    (ck_InvalidRow : PySem.W.keepIn K (.ref c_InvalidRow) = true)
    (cq_InvalidRow : PySem.W.excIn K c_InvalidRow [.type "ValueError", .type "Exception", .type "BaseException", .type "object"] "ValueError.__new__" = true)
    (ck_InvalidSign : PySem.W.keepIn K (.ref c_InvalidSign) = true)
    (cq_InvalidSign : PySem.W.excIn K c_InvalidSign [.type "ValueError", .type "Exception", .type "BaseException", .type "object"] "ValueError.__new__" = true)
    (ck_InvalidOperation : PySem.W.keepIn K (.ref c_InvalidOperation) = true)
    (cq_InvalidOperation : PySem.W.excIn K c_InvalidOperation [.type "ValueError", .type "Exception", .type "BaseException", .type "object"] "ValueError.__new__" = true)
    (ck_InvalidCommand : PySem.W.keepIn K (.ref c_InvalidCommand) = true)
    (cq_InvalidCommand : PySem.W.excIn K c_InvalidCommand [.type "ValueError", .type "Exception", .type "BaseException", .type "object"] "ValueError.__new__" = true)
    (xq : [c_DepthError, c_InvalidProgram, c_InvalidRun, c_InvalidLimit, c_InvalidLimits, c_InvalidModes, c_InvalidRow, c_InvalidSign, c_InvalidOperation, c_InvalidCommand, c_ParseError, c_UnknownName, c_UnknownSite, c_InvalidNumber, c_NothingToUndo, c_Refused, c_TooMany].all (xqB K) = true)
    (kt_ArithmeticError : ([c_DepthError, c_InvalidProgram, c_InvalidRun, c_InvalidLimit, c_InvalidLimits, c_InvalidModes, c_InvalidRow, c_InvalidSign, c_InvalidOperation, c_InvalidCommand, c_ParseError, c_UnknownName, c_UnknownSite, c_InvalidNumber, c_NothingToUndo, c_Refused, c_TooMany].map fun C => PySem.W.kitOne K (.ref C) (.type "ArithmeticError")) = ([false, false, false, false, false, false, false, false, false, false, false, false, false, false, false, true, true] : List Bool).map some)
    (kt_DepthError : ([c_DepthError, c_InvalidProgram, c_InvalidRun, c_InvalidLimit, c_InvalidLimits, c_InvalidModes, c_InvalidRow, c_InvalidSign, c_InvalidOperation, c_InvalidCommand, c_ParseError, c_UnknownName, c_UnknownSite, c_InvalidNumber, c_NothingToUndo, c_Refused, c_TooMany].map fun C => PySem.W.kitOne K (.ref C) (.ref c_DepthError)) = ([true, true, true, true, true, true, true, true, true, true, true, false, false, false, false, false, false] : List Bool).map some)
    (kt_IndexError : ([c_DepthError, c_InvalidProgram, c_InvalidRun, c_InvalidLimit, c_InvalidLimits, c_InvalidModes, c_InvalidRow, c_InvalidSign, c_InvalidOperation, c_InvalidCommand, c_ParseError, c_UnknownName, c_UnknownSite, c_InvalidNumber, c_NothingToUndo, c_Refused, c_TooMany].map fun C => PySem.W.kitOne K (.ref C) (.type "IndexError")) = ([false, false, false, false, false, false, false, false, false, false, false, false, false, true, false, false, false] : List Bool).map some)
    (kt_InvalidCommand : ([c_DepthError, c_InvalidProgram, c_InvalidRun, c_InvalidLimit, c_InvalidLimits, c_InvalidModes, c_InvalidRow, c_InvalidSign, c_InvalidOperation, c_InvalidCommand, c_ParseError, c_UnknownName, c_UnknownSite, c_InvalidNumber, c_NothingToUndo, c_Refused, c_TooMany].map fun C => PySem.W.kitOne K (.ref C) (.ref c_InvalidCommand)) = ([false, false, false, false, false, false, false, false, false, true, false, false, false, false, false, false, false] : List Bool).map some)
    (kt_InvalidLimit : ([c_DepthError, c_InvalidProgram, c_InvalidRun, c_InvalidLimit, c_InvalidLimits, c_InvalidModes, c_InvalidRow, c_InvalidSign, c_InvalidOperation, c_InvalidCommand, c_ParseError, c_UnknownName, c_UnknownSite, c_InvalidNumber, c_NothingToUndo, c_Refused, c_TooMany].map fun C => PySem.W.kitOne K (.ref C) (.ref c_InvalidLimit)) = ([false, false, false, true, false, false, false, false, false, false, false, false, false, false, false, false, false] : List Bool).map some)
    (kt_InvalidLimits : ([c_DepthError, c_InvalidProgram, c_InvalidRun, c_InvalidLimit, c_InvalidLimits, c_InvalidModes, c_InvalidRow, c_InvalidSign, c_InvalidOperation, c_InvalidCommand, c_ParseError, c_UnknownName, c_UnknownSite, c_InvalidNumber, c_NothingToUndo, c_Refused, c_TooMany].map fun C => PySem.W.kitOne K (.ref C) (.ref c_InvalidLimits)) = ([false, false, false, false, true, false, false, false, false, false, false, false, false, false, false, false, false] : List Bool).map some)
    (kt_InvalidModes : ([c_DepthError, c_InvalidProgram, c_InvalidRun, c_InvalidLimit, c_InvalidLimits, c_InvalidModes, c_InvalidRow, c_InvalidSign, c_InvalidOperation, c_InvalidCommand, c_ParseError, c_UnknownName, c_UnknownSite, c_InvalidNumber, c_NothingToUndo, c_Refused, c_TooMany].map fun C => PySem.W.kitOne K (.ref C) (.ref c_InvalidModes)) = ([false, false, false, false, false, true, false, false, false, false, false, false, false, false, false, false, false] : List Bool).map some)
    (kt_InvalidNumber : ([c_DepthError, c_InvalidProgram, c_InvalidRun, c_InvalidLimit, c_InvalidLimits, c_InvalidModes, c_InvalidRow, c_InvalidSign, c_InvalidOperation, c_InvalidCommand, c_ParseError, c_UnknownName, c_UnknownSite, c_InvalidNumber, c_NothingToUndo, c_Refused, c_TooMany].map fun C => PySem.W.kitOne K (.ref C) (.ref c_InvalidNumber)) = ([false, false, false, false, false, false, false, false, false, false, false, false, false, true, false, false, false] : List Bool).map some)
    (kt_InvalidOperation : ([c_DepthError, c_InvalidProgram, c_InvalidRun, c_InvalidLimit, c_InvalidLimits, c_InvalidModes, c_InvalidRow, c_InvalidSign, c_InvalidOperation, c_InvalidCommand, c_ParseError, c_UnknownName, c_UnknownSite, c_InvalidNumber, c_NothingToUndo, c_Refused, c_TooMany].map fun C => PySem.W.kitOne K (.ref C) (.ref c_InvalidOperation)) = ([false, false, false, false, false, false, false, false, true, false, false, false, false, false, false, false, false] : List Bool).map some)
    (kt_InvalidProgram : ([c_DepthError, c_InvalidProgram, c_InvalidRun, c_InvalidLimit, c_InvalidLimits, c_InvalidModes, c_InvalidRow, c_InvalidSign, c_InvalidOperation, c_InvalidCommand, c_ParseError, c_UnknownName, c_UnknownSite, c_InvalidNumber, c_NothingToUndo, c_Refused, c_TooMany].map fun C => PySem.W.kitOne K (.ref C) (.ref c_InvalidProgram)) = ([false, true, false, false, false, false, false, false, false, false, false, false, false, false, false, false, false] : List Bool).map some)
    (kt_InvalidRow : ([c_DepthError, c_InvalidProgram, c_InvalidRun, c_InvalidLimit, c_InvalidLimits, c_InvalidModes, c_InvalidRow, c_InvalidSign, c_InvalidOperation, c_InvalidCommand, c_ParseError, c_UnknownName, c_UnknownSite, c_InvalidNumber, c_NothingToUndo, c_Refused, c_TooMany].map fun C => PySem.W.kitOne K (.ref C) (.ref c_InvalidRow)) = ([false, false, false, false, false, false, true, false, false, false, false, false, false, false, false, false, false] : List Bool).map some)
    (kt_InvalidRun : ([c_DepthError, c_InvalidProgram, c_InvalidRun, c_InvalidLimit, c_InvalidLimits, c_InvalidModes, c_InvalidRow, c_InvalidSign, c_InvalidOperation, c_InvalidCommand, c_ParseError, c_UnknownName, c_UnknownSite, c_InvalidNumber, c_NothingToUndo, c_Refused, c_TooMany].map fun C => PySem.W.kitOne K (.ref C) (.ref c_InvalidRun)) = ([false, false, true, false, false, false, false, false, false, false, false, false, false, false, false, false, false] : List Bool).map some)
    (kt_InvalidSign : ([c_DepthError, c_InvalidProgram, c_InvalidRun, c_InvalidLimit, c_InvalidLimits, c_InvalidModes, c_InvalidRow, c_InvalidSign, c_InvalidOperation, c_InvalidCommand, c_ParseError, c_UnknownName, c_UnknownSite, c_InvalidNumber, c_NothingToUndo, c_Refused, c_TooMany].map fun C => PySem.W.kitOne K (.ref C) (.ref c_InvalidSign)) = ([false, false, false, false, false, false, false, true, false, false, false, false, false, false, false, false, false] : List Bool).map some)
    (kt_KeyError : ([c_DepthError, c_InvalidProgram, c_InvalidRun, c_InvalidLimit, c_InvalidLimits, c_InvalidModes, c_InvalidRow, c_InvalidSign, c_InvalidOperation, c_InvalidCommand, c_ParseError, c_UnknownName, c_UnknownSite, c_InvalidNumber, c_NothingToUndo, c_Refused, c_TooMany].map fun C => PySem.W.kitOne K (.ref C) (.type "KeyError")) = ([false, false, false, false, false, false, false, false, false, false, false, true, true, false, false, false, false] : List Bool).map some)
    (kt_LookupError : ([c_DepthError, c_InvalidProgram, c_InvalidRun, c_InvalidLimit, c_InvalidLimits, c_InvalidModes, c_InvalidRow, c_InvalidSign, c_InvalidOperation, c_InvalidCommand, c_ParseError, c_UnknownName, c_UnknownSite, c_InvalidNumber, c_NothingToUndo, c_Refused, c_TooMany].map fun C => PySem.W.kitOne K (.ref C) (.type "LookupError")) = ([false, false, false, false, false, false, false, false, false, false, false, true, true, true, true, false, false] : List Bool).map some)
    (kt_NothingToUndo : ([c_DepthError, c_InvalidProgram, c_InvalidRun, c_InvalidLimit, c_InvalidLimits, c_InvalidModes, c_InvalidRow, c_InvalidSign, c_InvalidOperation, c_InvalidCommand, c_ParseError, c_UnknownName, c_UnknownSite, c_InvalidNumber, c_NothingToUndo, c_Refused, c_TooMany].map fun C => PySem.W.kitOne K (.ref C) (.ref c_NothingToUndo)) = ([false, false, false, false, false, false, false, false, false, false, false, false, false, false, true, false, false] : List Bool).map some)
    (kt_OverflowError : ([c_DepthError, c_InvalidProgram, c_InvalidRun, c_InvalidLimit, c_InvalidLimits, c_InvalidModes, c_InvalidRow, c_InvalidSign, c_InvalidOperation, c_InvalidCommand, c_ParseError, c_UnknownName, c_UnknownSite, c_InvalidNumber, c_NothingToUndo, c_Refused, c_TooMany].map fun C => PySem.W.kitOne K (.ref C) (.type "OverflowError")) = ([false, false, false, false, false, false, false, false, false, false, false, false, false, false, false, false, true] : List Bool).map some)
    (kt_ParseError : ([c_DepthError, c_InvalidProgram, c_InvalidRun, c_InvalidLimit, c_InvalidLimits, c_InvalidModes, c_InvalidRow, c_InvalidSign, c_InvalidOperation, c_InvalidCommand, c_ParseError, c_UnknownName, c_UnknownSite, c_InvalidNumber, c_NothingToUndo, c_Refused, c_TooMany].map fun C => PySem.W.kitOne K (.ref C) (.ref c_ParseError)) = ([false, false, false, false, false, false, false, false, false, false, true, false, false, false, false, false, false] : List Bool).map some)
    (kt_Refused : ([c_DepthError, c_InvalidProgram, c_InvalidRun, c_InvalidLimit, c_InvalidLimits, c_InvalidModes, c_InvalidRow, c_InvalidSign, c_InvalidOperation, c_InvalidCommand, c_ParseError, c_UnknownName, c_UnknownSite, c_InvalidNumber, c_NothingToUndo, c_Refused, c_TooMany].map fun C => PySem.W.kitOne K (.ref C) (.ref c_Refused)) = ([false, false, false, false, false, false, false, false, false, false, false, false, false, false, false, true, false] : List Bool).map some)
    (kt_TooMany : ([c_DepthError, c_InvalidProgram, c_InvalidRun, c_InvalidLimit, c_InvalidLimits, c_InvalidModes, c_InvalidRow, c_InvalidSign, c_InvalidOperation, c_InvalidCommand, c_ParseError, c_UnknownName, c_UnknownSite, c_InvalidNumber, c_NothingToUndo, c_Refused, c_TooMany].map fun C => PySem.W.kitOne K (.ref C) (.ref c_TooMany)) = ([false, false, false, false, false, false, false, false, false, false, false, false, false, false, false, false, true] : List Bool).map some)
    (kt_UnknownName : ([c_DepthError, c_InvalidProgram, c_InvalidRun, c_InvalidLimit, c_InvalidLimits, c_InvalidModes, c_InvalidRow, c_InvalidSign, c_InvalidOperation, c_InvalidCommand, c_ParseError, c_UnknownName, c_UnknownSite, c_InvalidNumber, c_NothingToUndo, c_Refused, c_TooMany].map fun C => PySem.W.kitOne K (.ref C) (.ref c_UnknownName)) = ([false, false, false, false, false, false, false, false, false, false, false, true, false, false, false, false, false] : List Bool).map some)
    (kt_UnknownSite : ([c_DepthError, c_InvalidProgram, c_InvalidRun, c_InvalidLimit, c_InvalidLimits, c_InvalidModes, c_InvalidRow, c_InvalidSign, c_InvalidOperation, c_InvalidCommand, c_ParseError, c_UnknownName, c_UnknownSite, c_InvalidNumber, c_NothingToUndo, c_Refused, c_TooMany].map fun C => PySem.W.kitOne K (.ref C) (.ref c_UnknownSite)) = ([false, false, false, false, false, false, false, false, false, false, false, false, true, false, false, false, false] : List Bool).map some)
    (kt_ValueError : ([c_DepthError, c_InvalidProgram, c_InvalidRun, c_InvalidLimit, c_InvalidLimits, c_InvalidModes, c_InvalidRow, c_InvalidSign, c_InvalidOperation, c_InvalidCommand, c_ParseError, c_UnknownName, c_UnknownSite, c_InvalidNumber, c_NothingToUndo, c_Refused, c_TooMany].map fun C => PySem.W.kitOne K (.ref C) (.type "ValueError")) = ([true, true, true, true, true, true, true, true, true, true, true, false, false, false, false, false, false] : List Bool).map some) :
    ∃ fd : FuncData, ∀ base : Heap, K.In base → base.Ns mainGlobals mg → FG P w K mg base 4 fa fd 1 F_law := by
  have e := hfa.symm.trans (PySem.W.mg_of X G a8)
  cases e
  have T : Txt mg := ⟨PySem.W.mg_none_of X G z_ArithmeticError, PySem.W.mg_none_of X G z_IndexError, PySem.W.mg_none_of X G z_KeyError, PySem.W.mg_none_of X G z_LookupError, PySem.W.mg_none_of X G z_OverflowError, PySem.W.mg_none_of X G z_ValueError, PySem.W.mg_none_of X G z_abs, PySem.W.mg_none_of X G z_int, PySem.W.mg_none_of X G z_isinstance, PySem.W.mg_none_of X G z_len, PySem.W.mg_none_of X G z_max, PySem.W.mg_none_of X G z_min, PySem.W.mg_none_of X G z_range, PySem.W.mg_none_of X G z_repr⟩
  have hns : (["DepthError", "InvalidProgram", "InvalidRun", "InvalidLimit", "InvalidLimits", "InvalidModes", "InvalidRow", "InvalidSign", "InvalidOperation", "InvalidCommand", "ParseError", "UnknownName", "UnknownSite", "InvalidNumber", "NothingToUndo", "Refused", "TooMany"] : List Str).map (fun n => PySem.W.nsIn K mainGlobals n) = [c_DepthError, c_InvalidProgram, c_InvalidRun, c_InvalidLimit, c_InvalidLimits, c_InvalidModes, c_InvalidRow, c_InvalidSign, c_InvalidOperation, c_InvalidCommand, c_ParseError, c_UnknownName, c_UnknownSite, c_InvalidNumber, c_NothingToUndo, c_Refused, c_TooMany].map fun C => some (some (Value.ref C)) := by
    simp only [List.map_cons, List.map_nil, ca_DepthError, ca_InvalidProgram, ca_InvalidRun, ca_InvalidLimit, ca_InvalidLimits, ca_InvalidModes, ca_InvalidRow, ca_InvalidSign, ca_InvalidOperation, ca_InvalidCommand, ca_ParseError, ca_UnknownName, ca_UnknownSite, ca_InvalidNumber, ca_NothingToUndo, ca_Refused, ca_TooMany]
  have u_ParseError := fun_mk (st := si_ParseError) cl_ParseError cc_ParseError ck_ParseError
  have u_UnknownName := fun_mk (st := si_UnknownName) cl_UnknownName cc_UnknownName ck_UnknownName
  have u_UnknownSite := fun_mk (st := si_UnknownSite) cl_UnknownSite cc_UnknownSite ck_UnknownSite
  have u_InvalidNumber := fun_mk (st := si_InvalidNumber) cl_InvalidNumber cc_InvalidNumber ck_InvalidNumber
  have u_NothingToUndo := fun_mk (st := si_NothingToUndo) cl_NothingToUndo cc_NothingToUndo ck_NothingToUndo
  have u_Refused := fun_mk (st := si_Refused) cl_Refused cc_Refused ck_Refused
  have u_TooMany := fun_mk (st := si_TooMany) cl_TooMany cc_TooMany ck_TooMany
  have CF : ∀ base : Heap, TC P w K mg base c_DepthError c_InvalidProgram c_InvalidRun c_InvalidLimit c_InvalidLimits c_InvalidModes c_InvalidRow c_InvalidSign c_InvalidOperation c_InvalidCommand c_ParseError c_UnknownName c_UnknownSite c_InvalidNumber c_NothingToUndo c_Refused c_TooMany i_ParseError i_UnknownName i_UnknownSite i_InvalidNumber i_NothingToUndo i_Refused i_TooMany _ _ _ _ _ _ _ := fun base => {
    ns_DepthError := ca_DepthError
    m_DepthError := PySem.W.mg_of X G ca_DepthError
    k_DepthError := ck_DepthError
    q_DepthError := cq_DepthError
    ns_InvalidProgram := ca_InvalidProgram
    m_InvalidProgram := PySem.W.mg_of X G ca_InvalidProgram
    k_InvalidProgram := ck_InvalidProgram
    q_InvalidProgram := cq_InvalidProgram
    ns_InvalidRun := ca_InvalidRun
    m_InvalidRun := PySem.W.mg_of X G ca_InvalidRun
    k_InvalidRun := ck_InvalidRun
    q_InvalidRun := cq_InvalidRun
    ns_InvalidLimit := ca_InvalidLimit
    m_InvalidLimit := PySem.W.mg_of X G ca_InvalidLimit
    k_InvalidLimit := ck_InvalidLimit
    q_InvalidLimit := cq_InvalidLimit
    ns_InvalidLimits := ca_InvalidLimits
    m_InvalidLimits := PySem.W.mg_of X G ca_InvalidLimits
    k_InvalidLimits := ck_InvalidLimits
    q_InvalidLimits := cq_InvalidLimits
    ns_InvalidModes := ca_InvalidModes
    m_InvalidModes := PySem.W.mg_of X G ca_InvalidModes
    k_InvalidModes := ck_InvalidModes
    q_InvalidModes := cq_InvalidModes
    ns_InvalidRow := ca_InvalidRow
    m_InvalidRow := PySem.W.mg_of X G ca_InvalidRow
    k_InvalidRow := ck_InvalidRow
    q_InvalidRow := cq_InvalidRow
    ns_InvalidSign := ca_InvalidSign
    m_InvalidSign := PySem.W.mg_of X G ca_InvalidSign
    k_InvalidSign := ck_InvalidSign
    q_InvalidSign := cq_InvalidSign
    ns_InvalidOperation := ca_InvalidOperation
    m_InvalidOperation := PySem.W.mg_of X G ca_InvalidOperation
    k_InvalidOperation := ck_InvalidOperation
    q_InvalidOperation := cq_InvalidOperation
    ns_InvalidCommand := ca_InvalidCommand
    m_InvalidCommand := PySem.W.mg_of X G ca_InvalidCommand
    k_InvalidCommand := ck_InvalidCommand
    q_InvalidCommand := cq_InvalidCommand
    ns_ParseError := ca_ParseError
    m_ParseError := PySem.W.mg_of X G ca_ParseError
    x_ParseError := (clB_ok cb_ParseError).1
    j_ParseError := cj_ParseError
    t_ParseError := ct_ParseError
    f_ParseError := fn_first (k := 0) F.store_ValueError (clB_ok cb_ParseError).1 (clB_ok cb_ParseError).2.1 u_ParseError sci_ParseError rfl (fun _ _ _ _ _ _ => pv 0) (fun _ _ _ _ _ _ => pv 1) (fun _ => rfl)
    b_ParseError := u_ParseError.binds (fun _ _ _ _ _ _ us hl => match us, hl with | [_, _], _ => rfl)
    gf_ParseError := gf_ok ca_ParseError cb_ParseError
    ns_UnknownName := ca_UnknownName
    m_UnknownName := PySem.W.mg_of X G ca_UnknownName
    x_UnknownName := (clB_ok cb_UnknownName).1
    j_UnknownName := cj_UnknownName
    t_UnknownName := ct_UnknownName
    f_UnknownName := fn_first (k := 0) keStore (clB_ok cb_UnknownName).1 (clB_ok cb_UnknownName).2.1 u_UnknownName sci_UnknownName rfl (fun _ _ _ _ _ _ => pv 0) (fun _ _ _ _ _ _ => pv 1) (fun _ => rfl)
    b_UnknownName := u_UnknownName.binds (fun _ _ _ _ _ _ us hl => match us, hl with | [_, _], _ => rfl)
    gf_UnknownName := gf_ok ca_UnknownName cb_UnknownName
    ns_UnknownSite := ca_UnknownSite
    m_UnknownSite := PySem.W.mg_of X G ca_UnknownSite
    x_UnknownSite := (clB_ok cb_UnknownSite).1
    j_UnknownSite := cj_UnknownSite
    t_UnknownSite := ct_UnknownSite
    f_UnknownSite := fn_first (k := 0) keStore (clB_ok cb_UnknownSite).1 (clB_ok cb_UnknownSite).2.1 u_UnknownSite sci_UnknownSite rfl (fun _ _ _ _ _ _ => pv 0) (fun _ _ _ _ _ _ => pv 1) (fun _ => rfl)
    b_UnknownSite := u_UnknownSite.binds (fun _ _ _ _ _ _ us hl => match us, hl with | [_, _], _ => rfl)
    gf_UnknownSite := gf_ok ca_UnknownSite cb_UnknownSite
    ns_InvalidNumber := ca_InvalidNumber
    m_InvalidNumber := PySem.W.mg_of X G ca_InvalidNumber
    x_InvalidNumber := (clB_ok cb_InvalidNumber).1
    j_InvalidNumber := cj_InvalidNumber
    t_InvalidNumber := ct_InvalidNumber
    f_InvalidNumber := fn_first (k := 0) F.store_IndexError (clB_ok cb_InvalidNumber).1 (clB_ok cb_InvalidNumber).2.1 u_InvalidNumber sci_InvalidNumber rfl (fun _ _ _ _ _ _ => pv 0) (fun _ _ _ _ _ _ => pv 1) (fun _ => rfl)
    b_InvalidNumber := u_InvalidNumber.binds (fun _ _ _ _ _ _ us hl => match us, hl with | [_, _], _ => rfl)
    gf_InvalidNumber := gf_ok ca_InvalidNumber cb_InvalidNumber
    ns_NothingToUndo := ca_NothingToUndo
    m_NothingToUndo := PySem.W.mg_of X G ca_NothingToUndo
    x_NothingToUndo := (clB_ok cb_NothingToUndo).1
    j_NothingToUndo := cj_NothingToUndo
    t_NothingToUndo := ct_NothingToUndo
    f_NothingToUndo := fn_first (k := 0) F.store_LookupError (clB_ok cb_NothingToUndo).1 (clB_ok cb_NothingToUndo).2.1 u_NothingToUndo sci_NothingToUndo rfl (fun _ _ _ _ _ _ => pv 0) (fun _ _ _ _ _ _ => pv 1) (fun _ => rfl)
    b_NothingToUndo := u_NothingToUndo.binds (fun _ _ _ _ _ _ us hl => match us, hl with | [_, _], _ => rfl)
    gf_NothingToUndo := gf_ok ca_NothingToUndo cb_NothingToUndo
    ns_Refused := ca_Refused
    m_Refused := PySem.W.mg_of X G ca_Refused
    x_Refused := (clB_ok cb_Refused).1
    j_Refused := cj_Refused
    t_Refused := ct_Refused
    f_Refused := fn_first (k := 0) F.store_ArithmeticError (clB_ok cb_Refused).1 (clB_ok cb_Refused).2.1 u_Refused sci_Refused rfl (fun _ _ _ _ _ _ => pv 0) (fun _ _ _ _ _ _ => pv 1) (fun _ => rfl)
    b_Refused := u_Refused.binds (fun _ _ _ _ _ _ us hl => match us, hl with | [_, _], _ => rfl)
    gf_Refused := gf_ok ca_Refused cb_Refused
    ns_TooMany := ca_TooMany
    m_TooMany := PySem.W.mg_of X G ca_TooMany
    x_TooMany := (clB_ok cb_TooMany).1
    j_TooMany := cj_TooMany
    t_TooMany := ct_TooMany
    f_TooMany := fn_first (k := 0) F.store_OverflowError (clB_ok cb_TooMany).1 (clB_ok cb_TooMany).2.1 u_TooMany sci_TooMany rfl (fun _ _ _ _ _ _ => pv 0) (fun _ _ _ _ _ _ => pv 1) (fun _ => rfl)
    b_TooMany := u_TooMany.binds (fun _ _ _ _ _ _ us hl => match us, hl with | [_, _], _ => rfl)
    gf_TooMany := gf_ok ca_TooMany cb_TooMany
    tb_ArithmeticError := tab_ok hns xq kt_ArithmeticError
    tb_DepthError := tab_ok hns xq kt_DepthError
    tb_IndexError := tab_ok hns xq kt_IndexError
    tb_InvalidCommand := tab_ok hns xq kt_InvalidCommand
    tb_InvalidLimit := tab_ok hns xq kt_InvalidLimit
    tb_InvalidLimits := tab_ok hns xq kt_InvalidLimits
    tb_InvalidModes := tab_ok hns xq kt_InvalidModes
    tb_InvalidNumber := tab_ok hns xq kt_InvalidNumber
    tb_InvalidOperation := tab_ok hns xq kt_InvalidOperation
    tb_InvalidProgram := tab_ok hns xq kt_InvalidProgram
    tb_InvalidRow := tab_ok hns xq kt_InvalidRow
    tb_InvalidRun := tab_ok hns xq kt_InvalidRun
    tb_InvalidSign := tab_ok hns xq kt_InvalidSign
    tb_KeyError := tab_ok hns xq kt_KeyError
    tb_LookupError := tab_ok hns xq kt_LookupError
    tb_NothingToUndo := tab_ok hns xq kt_NothingToUndo
    tb_OverflowError := tab_ok hns xq kt_OverflowError
    tb_ParseError := tab_ok hns xq kt_ParseError
    tb_Refused := tab_ok hns xq kt_Refused
    tb_TooMany := tab_ok hns xq kt_TooMany
    tb_UnknownName := tab_ok hns xq kt_UnknownName
    tb_UnknownSite := tab_ok hns xq kt_UnknownSite
    tb_ValueError := tab_ok hns xq kt_ValueError }
  refine ⟨PySem.W.fnOf "law" "law" (defArgs s_law) (defBody s_law) (defScope s_law) .none kV8 dc8 pm8 an8 cd8 ct8, fun base _ _ => ?body⟩
  case body =>
    have h__law_plain_ones : Has P w K mg base "_law_plain_ones" 1 1 F__law_plain_ones := ⟨_, _, PySem.W.mg_of X G a1, ok__law_plain_ones (P := P) (w := w) (base := base) (fun_mk (st := s__law_plain_ones) l1 c1 k1) T (CF base)⟩
    have h__law_cast : Has P w K mg base "_law_cast" 1 2 F__law_cast := ⟨_, _, PySem.W.mg_of X G a2, ok__law_cast (P := P) (w := w) (base := base) (fun_mk (st := s__law_cast) l2 c2 k2) T (CF base)⟩
    have h__law_pick : Has P w K mg base "_law_pick" 2 2 F__law_pick := ⟨_, _, PySem.W.mg_of X G a3, ok__law_pick (P := P) (w := w) (base := base) (fun_mk (st := s__law_pick) l3 c3 k3) T (CF base) h__law_cast⟩
    have h__law_of_others : Has P w K mg base "_law_of_others" 1 1 F__law_of_others := ⟨_, _, PySem.W.mg_of X G a4, ok__law_of_others (P := P) (w := w) (base := base) (fun_mk (st := s__law_of_others) l4 c4 k4) T (CF base)⟩
    have h__law_of_depth : Has P w K mg base "_law_of_depth" 1 1 F__law_of_depth := ⟨_, _, PySem.W.mg_of X G a5, ok__law_of_depth (P := P) (w := w) (base := base) (fun_mk (st := s__law_of_depth) l5 c5 k5) T (CF base)⟩
    have h__law_right : Has P w K mg base "_law_right" 3 1 F__law_right := ⟨_, _, PySem.W.mg_of X G a6, ok__law_right (P := P) (w := w) (base := base) (fun_mk (st := s__law_right) l6 c6 k6) T (CF base) h__law_of_depth h__law_of_others h__law_pick h__law_plain_ones⟩
    have h__law_numbers : Has P w K mg base "_law_numbers" 1 2 F__law_numbers := ⟨_, _, PySem.W.mg_of X G a7, ok__law_numbers (P := P) (w := w) (base := base) (fun_mk (st := s__law_numbers) l7 c7 k7) T (CF base)⟩
    exact ok_law (P := P) (w := w) (base := base) (fun_mk (st := s_law) l8 c8 k8) T (CF base) h__law_numbers h__law_right
theorem walk {l : PySem.W.OpenLaw} {q : Program} {loose : List Str} {XP : (Str → Option Value) → Heap → Prop} {YP : World → Heap → Prop} {d : DefRec} {K : Params → PySem.W.Frag} (hn : l.most = some 63) (hdf : d.params.defaults = [])
    (hY : ∀ (w : World) (h : Heap), YP w h → (K w.params).In h)
    (F : ∀ (w : World) (mg : Str → Option Value) (fa : Addr) (h : Heap), (K w.params).In h → h.Ns mainGlobals mg → mg d.name = some (.ref fa) →
      ∃ fd : FuncData, ∀ base : Heap, (K w.params).In base → base.Ns mainGlobals mg → FG l.prog w (K w.params) mg base 4 fa fd 1 F_law) :
    PySem.W.WalkO q loose XP YP l.row.toRowW d [] (fun f vs => PySem.call f vs) :=
  walkD (n := 63) (k := 4) (F := F_law) hn (by decide) hdf ⟨rfl, by decide, by decide⟩ hY F law_ok
end
end G
open PySem PySem.W PyProof.Rows
set_option maxRecDepth 100000 in
set_option maxHeartbeats 0 in
theorem PySem.Challenge.cw_deepenough_k00_errors_and_what_they_keep_holds : PySem.Challenge.rw_deepenough_k00_errors_and_what_they_keep.Holds := by
  w_on; o_law; k_head; (case hw => w_witness2)
  k_fill
  refine G.walk (l := PySem.Challenge.rw_deepenough_k00_errors_and_what_they_keep) rfl rfl (fun w h Y => PySem.W.kIn_of Y) ?F
  case F =>
    intro w mg fa h KX Gn hmg
    refine' G.all_mk KX Gn hmg ?a1 ?l1 ?c1 ?k1 ?a2 ?l2 ?c2 ?k2 ?a3 ?l3 ?c3 ?k3 ?a4 ?l4 ?c4 ?k4 ?a5 ?l5 ?c5 ?k5 ?a6 ?l6 ?c6 ?k6 ?a7 ?l7 ?c7 ?k7 ?a8 ?l8 ?c8 ?k8 ?z_ArithmeticError ?z_IndexError ?z_KeyError ?z_LookupError ?z_OverflowError ?z_ValueError ?z_abs ?z_int ?z_isinstance ?z_len ?z_max ?z_min ?z_range ?z_repr ?ca_DepthError ?ca_InvalidProgram ?ca_InvalidRun ?ca_InvalidLimit ?ca_InvalidLimits ?ca_InvalidModes ?ca_InvalidRow ?ca_InvalidSign ?ca_InvalidOperation ?ca_InvalidCommand ?ca_ParseError ?ca_UnknownName ?ca_UnknownSite ?ca_InvalidNumber ?ca_NothingToUndo ?ca_Refused ?ca_TooMany ?cj_ParseError ?ct_ParseError ?cl_ParseError ?cc_ParseError ?ck_ParseError ?cb_ParseError ?cj_UnknownName ?ct_UnknownName ?cl_UnknownName ?cc_UnknownName ?ck_UnknownName ?cb_UnknownName ?cj_UnknownSite ?ct_UnknownSite ?cl_UnknownSite ?cc_UnknownSite ?ck_UnknownSite ?cb_UnknownSite ?cj_InvalidNumber ?ct_InvalidNumber ?cl_InvalidNumber ?cc_InvalidNumber ?ck_InvalidNumber ?cb_InvalidNumber ?cj_NothingToUndo ?ct_NothingToUndo ?cl_NothingToUndo ?cc_NothingToUndo ?ck_NothingToUndo ?cb_NothingToUndo ?cj_Refused ?ct_Refused ?cl_Refused ?cc_Refused ?ck_Refused ?cb_Refused ?cj_TooMany ?ct_TooMany ?cl_TooMany ?cc_TooMany ?ck_TooMany ?cb_TooMany ?ck_DepthError ?cq_DepthError ?ck_InvalidProgram ?cq_InvalidProgram ?ck_InvalidRun ?cq_InvalidRun ?ck_InvalidLimit ?cq_InvalidLimit ?ck_InvalidLimits ?cq_InvalidLimits ?ck_InvalidModes ?cq_InvalidModes ?ck_InvalidRow ?cq_InvalidRow ?ck_InvalidSign ?cq_InvalidSign ?ck_InvalidOperation ?cq_InvalidOperation ?ck_InvalidCommand ?cq_InvalidCommand ?xq ?kt_ArithmeticError ?kt_DepthError ?kt_IndexError ?kt_InvalidCommand ?kt_InvalidLimit ?kt_InvalidLimits ?kt_InvalidModes ?kt_InvalidNumber ?kt_InvalidOperation ?kt_InvalidProgram ?kt_InvalidRow ?kt_InvalidRun ?kt_InvalidSign ?kt_KeyError ?kt_LookupError ?kt_NothingToUndo ?kt_OverflowError ?kt_ParseError ?kt_Refused ?kt_TooMany ?kt_UnknownName ?kt_UnknownSite ?kt_ValueError
    (case a1 => first | k_is | kernel_rfl | rfl)
    (case l1 => first | k_is | kernel_rfl | rfl)
    (case c1 => first | k_is | kernel_rfl | rfl)
    (case k1 => first | k_is | kernel_rfl | rfl)
    (case a2 => first | k_is | kernel_rfl | rfl)
    (case l2 => first | k_is | kernel_rfl | rfl)
    (case c2 => first | k_is | kernel_rfl | rfl)
    (case k2 => first | k_is | kernel_rfl | rfl)
    (case a3 => first | k_is | kernel_rfl | rfl)
    (case l3 => first | k_is | kernel_rfl | rfl)
    (case c3 => first | k_is | kernel_rfl | rfl)
    (case k3 => first | k_is | kernel_rfl | rfl)
    (case a4 => first | k_is | kernel_rfl | rfl)
    (case l4 => first | k_is | kernel_rfl | rfl)
    (case c4 => first | k_is | kernel_rfl | rfl)
    (case k4 => first | k_is | kernel_rfl | rfl)
    (case a5 => first | k_is | kernel_rfl | rfl)
    (case l5 => first | k_is | kernel_rfl | rfl)
    (case c5 => first | k_is | kernel_rfl | rfl)
    (case k5 => first | k_is | kernel_rfl | rfl)
    (case a6 => first | k_is | kernel_rfl | rfl)
    (case l6 => first | k_is | kernel_rfl | rfl)
    (case c6 => first | k_is | kernel_rfl | rfl)
    (case k6 => first | k_is | kernel_rfl | rfl)
    (case a7 => first | k_is | kernel_rfl | rfl)
    (case l7 => first | k_is | kernel_rfl | rfl)
    (case c7 => first | k_is | kernel_rfl | rfl)
    (case k7 => first | k_is | kernel_rfl | rfl)
    (case a8 => first | k_is | kernel_rfl | rfl)
    (case l8 => first | k_is | kernel_rfl | rfl)
    (case c8 => first | k_is | kernel_rfl | rfl)
    (case k8 => first | k_is | kernel_rfl | rfl)
    (case z_ArithmeticError => first | k_is | kernel_rfl | rfl)
    (case z_IndexError => first | k_is | kernel_rfl | rfl)
    (case z_KeyError => first | k_is | kernel_rfl | rfl)
    (case z_LookupError => first | k_is | kernel_rfl | rfl)
    (case z_OverflowError => first | k_is | kernel_rfl | rfl)
    (case z_ValueError => first | k_is | kernel_rfl | rfl)
    (case z_abs => first | k_is | kernel_rfl | rfl)
    (case z_int => first | k_is | kernel_rfl | rfl)
    (case z_isinstance => first | k_is | kernel_rfl | rfl)
    (case z_len => first | k_is | kernel_rfl | rfl)
    (case z_max => first | k_is | kernel_rfl | rfl)
    (case z_min => first | k_is | kernel_rfl | rfl)
    (case z_range => first | k_is | kernel_rfl | rfl)
    (case z_repr => first | k_is | kernel_rfl | rfl)
    (case ca_DepthError => first | k_is | kernel_rfl | rfl)
    (case ca_InvalidProgram => first | k_is | kernel_rfl | rfl)
    (case ca_InvalidRun => first | k_is | kernel_rfl | rfl)
    (case ca_InvalidLimit => first | k_is | kernel_rfl | rfl)
    (case ca_InvalidLimits => first | k_is | kernel_rfl | rfl)
    (case ca_InvalidModes => first | k_is | kernel_rfl | rfl)
    (case ca_InvalidRow => first | k_is | kernel_rfl | rfl)
    (case ca_InvalidSign => first | k_is | kernel_rfl | rfl)
    (case ca_InvalidOperation => first | k_is | kernel_rfl | rfl)
    (case ca_InvalidCommand => first | k_is | kernel_rfl | rfl)
    (case ca_ParseError => first | k_is | kernel_rfl | rfl)
    (case ca_UnknownName => first | k_is | kernel_rfl | rfl)
    (case ca_UnknownSite => first | k_is | kernel_rfl | rfl)
    (case ca_InvalidNumber => first | k_is | kernel_rfl | rfl)
    (case ca_NothingToUndo => first | k_is | kernel_rfl | rfl)
    (case ca_Refused => first | k_is | kernel_rfl | rfl)
    (case ca_TooMany => first | k_is | kernel_rfl | rfl)
    (case cj_ParseError => first | k_is | kernel_rfl | rfl)
    (case ct_ParseError => first | k_is | kernel_rfl | rfl)
    (case cl_ParseError => first | k_is | kernel_rfl | rfl)
    (case cc_ParseError => first | k_is | kernel_rfl | rfl)
    (case ck_ParseError => first | k_is | kernel_rfl | rfl)
    (case cb_ParseError => first | k_is | kernel_rfl | rfl)
    (case cj_UnknownName => first | k_is | kernel_rfl | rfl)
    (case ct_UnknownName => first | k_is | kernel_rfl | rfl)
    (case cl_UnknownName => first | k_is | kernel_rfl | rfl)
    (case cc_UnknownName => first | k_is | kernel_rfl | rfl)
    (case ck_UnknownName => first | k_is | kernel_rfl | rfl)
    (case cb_UnknownName => first | k_is | kernel_rfl | rfl)
    (case cj_UnknownSite => first | k_is | kernel_rfl | rfl)
    (case ct_UnknownSite => first | k_is | kernel_rfl | rfl)
    (case cl_UnknownSite => first | k_is | kernel_rfl | rfl)
    (case cc_UnknownSite => first | k_is | kernel_rfl | rfl)
    (case ck_UnknownSite => first | k_is | kernel_rfl | rfl)
    (case cb_UnknownSite => first | k_is | kernel_rfl | rfl)
    (case cj_InvalidNumber => first | k_is | kernel_rfl | rfl)
    (case ct_InvalidNumber => first | k_is | kernel_rfl | rfl)
    (case cl_InvalidNumber => first | k_is | kernel_rfl | rfl)
    (case cc_InvalidNumber => first | k_is | kernel_rfl | rfl)
    (case ck_InvalidNumber => first | k_is | kernel_rfl | rfl)
    (case cb_InvalidNumber => first | k_is | kernel_rfl | rfl)
    (case cj_NothingToUndo => first | k_is | kernel_rfl | rfl)
    (case ct_NothingToUndo => first | k_is | kernel_rfl | rfl)
    (case cl_NothingToUndo => first | k_is | kernel_rfl | rfl)
    (case cc_NothingToUndo => first | k_is | kernel_rfl | rfl)
    (case ck_NothingToUndo => first | k_is | kernel_rfl | rfl)
    (case cb_NothingToUndo => first | k_is | kernel_rfl | rfl)
    (case cj_Refused => first | k_is | kernel_rfl | rfl)
    (case ct_Refused => first | k_is | kernel_rfl | rfl)
    (case cl_Refused => first | k_is | kernel_rfl | rfl)
    (case cc_Refused => first | k_is | kernel_rfl | rfl)
    (case ck_Refused => first | k_is | kernel_rfl | rfl)
    (case cb_Refused => first | k_is | kernel_rfl | rfl)
    (case cj_TooMany => first | k_is | kernel_rfl | rfl)
    (case ct_TooMany => first | k_is | kernel_rfl | rfl)
    (case cl_TooMany => first | k_is | kernel_rfl | rfl)
    (case cc_TooMany => first | k_is | kernel_rfl | rfl)
    (case ck_TooMany => first | k_is | kernel_rfl | rfl)
    (case cb_TooMany => first | k_is | kernel_rfl | rfl)
    (case ck_DepthError => first | k_is | kernel_rfl | rfl)
    (case cq_DepthError => first | k_is | kernel_rfl | rfl)
    (case ck_InvalidProgram => first | k_is | kernel_rfl | rfl)
    (case cq_InvalidProgram => first | k_is | kernel_rfl | rfl)
    (case ck_InvalidRun => first | k_is | kernel_rfl | rfl)
    (case cq_InvalidRun => first | k_is | kernel_rfl | rfl)
    (case ck_InvalidLimit => first | k_is | kernel_rfl | rfl)
    (case cq_InvalidLimit => first | k_is | kernel_rfl | rfl)
    (case ck_InvalidLimits => first | k_is | kernel_rfl | rfl)
    (case cq_InvalidLimits => first | k_is | kernel_rfl | rfl)
    (case ck_InvalidModes => first | k_is | kernel_rfl | rfl)
    (case cq_InvalidModes => first | k_is | kernel_rfl | rfl)
    (case ck_InvalidRow => first | k_is | kernel_rfl | rfl)
    (case cq_InvalidRow => first | k_is | kernel_rfl | rfl)
    (case ck_InvalidSign => first | k_is | kernel_rfl | rfl)
    (case cq_InvalidSign => first | k_is | kernel_rfl | rfl)
    (case ck_InvalidOperation => first | k_is | kernel_rfl | rfl)
    (case cq_InvalidOperation => first | k_is | kernel_rfl | rfl)
    (case ck_InvalidCommand => first | k_is | kernel_rfl | rfl)
    (case cq_InvalidCommand => first | k_is | kernel_rfl | rfl)
    (case xq => first | k_is | kernel_rfl | rfl)
    (case kt_ArithmeticError => first | k_is | kernel_rfl | rfl)
    (case kt_DepthError => first | k_is | kernel_rfl | rfl)
    (case kt_IndexError => first | k_is | kernel_rfl | rfl)
    (case kt_InvalidCommand => first | k_is | kernel_rfl | rfl)
    (case kt_InvalidLimit => first | k_is | kernel_rfl | rfl)
    (case kt_InvalidLimits => first | k_is | kernel_rfl | rfl)
    (case kt_InvalidModes => first | k_is | kernel_rfl | rfl)
    (case kt_InvalidNumber => first | k_is | kernel_rfl | rfl)
    (case kt_InvalidOperation => first | k_is | kernel_rfl | rfl)
    (case kt_InvalidProgram => first | k_is | kernel_rfl | rfl)
    (case kt_InvalidRow => first | k_is | kernel_rfl | rfl)
    (case kt_InvalidRun => first | k_is | kernel_rfl | rfl)
    (case kt_InvalidSign => first | k_is | kernel_rfl | rfl)
    (case kt_KeyError => first | k_is | kernel_rfl | rfl)
    (case kt_LookupError => first | k_is | kernel_rfl | rfl)
    (case kt_NothingToUndo => first | k_is | kernel_rfl | rfl)
    (case kt_OverflowError => first | k_is | kernel_rfl | rfl)
    (case kt_ParseError => first | k_is | kernel_rfl | rfl)
    (case kt_Refused => first | k_is | kernel_rfl | rfl)
    (case kt_TooMany => first | k_is | kernel_rfl | rfl)
    (case kt_UnknownName => first | k_is | kernel_rfl | rfl)
    (case kt_UnknownSite => first | k_is | kernel_rfl | rfl)
    (case kt_ValueError => first | k_is | kernel_rfl | rfl)
