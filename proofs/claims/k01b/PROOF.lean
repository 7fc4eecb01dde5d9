import PyProof.Rows.All
import Wide.All
import OpenK.AllK
import Wide.FinOn
import HandS.Words
import HandS.Comp
import HandS.Iter
import HandS.Text
import HandS.More
import HandS.IsInst
import HandS.StrMore
import HandS.Exc
import HandS.ExcOwn
import HandS.TryOnly
import HandS.ExcValue
import HandS.ExcInit
import HandS.Flow
import HandS.Walk
import HandS.Ends
import HandS.Dict
import HandS.List
import HandS.Conv
import HandS.TupAny
import HandS.Zip
import HandS.Star
import HandS.FStr
import PyProof.P3In
import PyProof.ReprRoads
import HandS.Codes
import HandS.RaiseMore
import PySem.Challenge.RW_deepenough_k01_names_and_limits
set_option Elab.async false
set_option linter.all false
set_option maxRecDepth 100000
/-! Data in place of addresses: an expression of the program is a plain function of the frame's data and of a store of the things that change. -/
namespace DL
open PySem L2

/-- data: what never changes stands as a tree, what may change by the number of its cell -/
inductive D where
  | non | bl (b : Bool) | int (i : Int) | str (s : Str) | ty (n : String) | h (k : Nat)
  | lst (xs : List D) | rl (xs : List D) | tup (xs : List D) | dct (kvs : List (Key × D))
  /-- an exception of the program's class of this name, with or without a field -/
  | exc (n : Str) | exf (n f : Str) (x : D)

/-- what may change -/
inductive Cell where
  | lst (xs : List D)

/-- the frame's names and the cells -/
structure Sg where
  ρ : List (Option D)
  μ : List Cell

/-- the cells' addresses; what no data may lie at -/
structure Ar where
  c : List Addr
  b : List Addr
def Ar.Out (as : Ar) (a : Addr) : Prop := a ∉ as.c ∧ a ∉ as.b

section
variable (K : PySem.W.Frag)
/-- a list of the written part, or one that is tracked: the last never at an address of a cell -/
def TrL (as : Ar) (H : Hp) (a : Addr) (vs : List V) : Prop := (Rd H a (.lst vs) ∧ as.Out a) ∨ ∀ H' : Hp, SqL K H' a vs
def TrT (as : Ar) (H : Hp) (a : Addr) (vs : List V) : Prop := (Rd H a (.tup vs) ∧ as.Out a) ∨ ∀ H' : Hp, SqT K H' a vs
theorem TrL.sq {K : PySem.W.Frag} {as : Ar} {H : Hp} {a : Addr} {vs : List V} (h : TrL K as H a vs) : SqL K H a vs := h.elim (fun z => .inl z.1) fun z => z H
theorem TrT.sq {K : PySem.W.Frag} {as : Ar} {H : Hp} {a : Addr} {vs : List V} (h : TrT K as H a vs) : SqT K H a vs := h.elim (fun z => .inl z.1) fun z => z H

mutual
inductive Rep (as : Ar) (H : Hp) : V → D → Prop
  | non : Rep as H .non .non
  | bl (b : Bool) : Rep as H (.bl b) (.bl b)
  | int (i : Int) : Rep as H (.int i) (.int i)
  | str (s : Str) : Rep as H (.str s) (.str s)
  | ty (n : String) : Rep as H (.ty n) (.ty n)
  | h {k : Nat} {a : Addr} : as.c[k]? = some a → Rep as H (.ref a) (.h k)
  | lst {a : Addr} {vs : List V} {ds : List D} : H a = some (.lst vs) → as.Out a → Reps as H vs ds → Rep as H (.ref a) (.lst ds)
  | rl {a : Addr} {vs : List V} {ds : List D} : TrL K as H a vs → Reps as H vs ds → Rep as H (.ref a) (.rl ds)
  | tup {a : Addr} {vs : List V} {ds : List D} : TrT K as H a vs → Reps as H vs ds → Rep as H (.ref a) (.tup ds)
  | dct {a : Addr} {kvs : List (Key × V)} {ds : List (Key × D)} : H a = some (.dK kvs) → as.Out a → kvs.map (·.1) = ds.map (·.1) → Reps as H (kvs.map (·.2)) (ds.map (·.2)) → Rep as H (.ref a) (.dct ds)
  | exc {a C : Addr} {n : Str} : PySem.W.nsIn K mainGlobals n = some (some (.ref C)) → H a = some (ExO (.ref C) a) → as.Out a → Rep as H (.ref a) (.exc n)
  | exf {a C dx : Addr} {n f : Str} {v : V} {x : D} : PySem.W.nsIn K mainGlobals n = some (some (.ref C)) → H a = some (exo a C (some dx)) → as.Out a → H dx = some (exd dx [(f, v)]) → as.Out dx → Rep as H v x → Rep as H (.ref a) (.exf n f x)
inductive Reps (as : Ar) (H : Hp) : List V → List D → Prop
  | nil : Reps as H [] []
  | cons {v : V} {vs : List V} {d : D} {ds : List D} : Rep as H v d → Reps as H vs ds → Reps as H (v :: vs) (d :: ds)
end

/-- from one time to a later one: cells may be more, what is no cell stands -/
structure Ext (as : Ar) (H : Hp) (as' : Ar) (H' : Hp) : Prop where
  pre : ∃ more, as'.c = as.c ++ more ∧ ∀ a ∈ more, H a = none
  blk : ∃ nb, as'.b = nb ++ as.b ∧ ∀ a ∈ nb, H a = none
  old : ∀ a o, a ∉ as.c → H a = some o → H' a = some o
  cel : ∀ a ∈ as.c, H a ≠ none → H' a ≠ none

def CellR (as : Ar) (H : Hp) (a : Addr) : Cell → Prop
  | .lst ds => ∃ vs, H a = some (.lst vs) ∧ Reps K as H vs ds

structure StoR (as : Ar) (H : Hp) (μ : List Cell) : Prop where
  len : as.c.length = μ.length
  at_ : ∀ (k : Nat) (a : Addr) (c : Cell), as.c[k]? = some a → μ[k]? = some c → CellR K as H a c
  nd : as.c.Nodup
  bl : ∀ a ∈ as.b, H a ≠ none

def EnvR (as : Ar) (H : Hp) (σ : St) (ρ : List (Option D)) : Prop :=
  σ.length = ρ.length ∧ ∀ (i : Nat) (d : D), ρ[i]? = some (some d) → ∃ v, σ[i]? = some (some v) ∧ Rep K as H v d

structure ER (as : Ar) (σ : St) (H : Hp) (S : Sg) : Prop where
  env : EnvR K as H σ S.ρ
  sto : StoR K as H S.μ
end

section
variable {K : PySem.W.Frag} {as as' as'' : Ar} {H H' H'' : Hp} {σ : St} {S : Sg} {v : V} {d : D} {vs : List V} {ds : List D} {μ μ' : List Cell} {ρ : List (Option D)}

theorem Rd.mv {a : Addr} {u : HO} (h : Rd H a u) (n : as.Out a) (E : Ext as H as' H') : Rd H' a u ∧ as'.Out a := by
  have ne : H a ≠ none := by rcases h with h | ⟨o, h⟩ <;> rw [h] <;> simp
  refine ⟨?_, ?_⟩
  · rcases h with h | ⟨o, h⟩
    · exact .inl (E.old a _ n.1 h)
    · exact .inr ⟨o, E.old a _ n.1 h⟩
  · obtain ⟨more, e, f⟩ := E.pre
    obtain ⟨nb, e', f'⟩ := E.blk
    refine ⟨?_, ?_⟩
    · rw [e, List.mem_append]
      rintro (z | z)
      · exact n.1 z
      · exact ne (f a z)
    · rw [e', List.mem_append]
      rintro (z | z)
      · exact ne (f' a z)
      · exact n.2 z
theorem at_mv {a : Addr} {u : HO} (h : H a = some u) (n : as.Out a) (E : Ext as H as' H') : H' a = some u ∧ as'.Out a :=
  ⟨E.old a u n.1 h, (Rd.mv (.inl h) n E).2⟩
theorem TrL.mv {a : Addr} (h : TrL K as H a vs) (E : Ext as H as' H') : TrL K as' H' a vs := h.elim (fun z => .inl (Rd.mv z.1 z.2 E)) .inr
theorem TrT.mv {a : Addr} (h : TrT K as H a vs) (E : Ext as H as' H') : TrT K as' H' a vs := h.elim (fun z => .inl (Rd.mv z.1 z.2 E)) .inr
mutual
theorem Rep.mv (E : Ext as H as' H') : ∀ {v : V} {d : D}, Rep K as H v d → Rep K as' H' v d
  | _, _, .non => .non
  | _, _, .bl b => .bl b
  | _, _, .int i => .int i
  | _, _, .str s => .str s
  | _, _, .ty n => .ty n
  | _, _, .h e => by
    obtain ⟨more, q, _⟩ := E.pre
    refine .h ?_
    rw [q, List.getElem?_append_left (List.getElem?_eq_some_iff.mp e).1]
    exact e
  | _, _, .lst t n r => let q := at_mv t n E; .lst q.1 q.2 (Reps.mv E r)
  | _, _, .rl t r => .rl (t.mv E) (Reps.mv E r)
  | _, _, .tup t r => .tup (t.mv E) (Reps.mv E r)
  | _, _, .dct t n e r => let q := at_mv t n E; .dct q.1 q.2 e (Reps.mv E r)
  | _, _, .exc e t n => let q := at_mv t n E; .exc e q.1 q.2
  | _, _, .exf e t n t2 n2 r => let q := at_mv t n E; let q2 := at_mv t2 n2 E; .exf e q.1 q.2 q2.1 q2.2 (Rep.mv E r)
theorem Reps.mv (E : Ext as H as' H') : ∀ {vs : List V} {ds : List D}, Reps K as H vs ds → Reps K as' H' vs ds
  | _, _, .nil => .nil
  | _, _, .cons h t => .cons (Rep.mv E h) (Reps.mv E t)
end
theorem Ext.refl : Ext as H as H := ⟨⟨[], by simp, by simp⟩, ⟨[], by simp, by simp⟩, fun _ _ _ h => h, fun _ _ h => h⟩
theorem Ext.trans (E : Ext as H as' H') (E' : Ext as' H' as'' H'') (tr : ∀ a, a ∈ as.c → H a ≠ none) : Ext as H as'' H'' := by
  obtain ⟨m1, e1, f1⟩ := E.pre
  obtain ⟨m2, e2, f2⟩ := E'.pre
  obtain ⟨n1, b1, g1⟩ := E.blk
  obtain ⟨n2, b2, g2⟩ := E'.blk
  have back : ∀ a, H' a = none → H a = none := fun a q => by
    by_cases hn : H a = none
    · exact hn
    · exfalso
      by_cases ha : a ∈ as.c
      · exact E.cel a ha hn q
      · cases e : H a with
        | none => exact hn e
        | some o => rw [E.old a o ha e] at q; cases q
  refine ⟨⟨m1 ++ m2, by rw [e2, e1, List.append_assoc], fun a ha => ?_⟩, ⟨n2 ++ n1, by rw [b2, b1, List.append_assoc], fun a ha => (List.mem_append.mp ha).elim (fun z => back a (g2 a z)) (g1 a)⟩, fun a o n h => ?_, fun a ha h => ?_⟩
  · rcases List.mem_append.mp ha with z | z
    · exact f1 a z
    · exact back a (f2 a z)
  · have q := E.old a o n h
    refine E'.old a o ?_ q
    rw [e1, List.mem_append]
    rintro (z | z)
    · exact n z
    · rw [f1 a z] at h; cases h
  · exact E'.cel a (by rw [e1]; exact List.mem_append_left _ ha) (E.cel a ha h)
theorem StoR.trk (h : StoR K as H μ) : ∀ a ∈ as.c, H a ≠ none := by
  intro a ha
  obtain ⟨k, e⟩ := List.mem_iff_getElem?.mp ha
  have hk : k < μ.length := by rw [← h.len]; exact (List.getElem?_eq_some_iff.mp e).1
  have q := h.at_ k a _ e (List.getElem?_eq_getElem hk)
  cases c : μ[k] with
  | lst ds =>
    rw [c] at q
    obtain ⟨vs, z, _⟩ := q
    rw [z]; simp
theorem StoR.out {p : Addr} (h : StoR K as H μ) (hp : H p = none) : as.Out p := ⟨fun z => h.trk p z hp, fun z => h.bl p z hp⟩
theorem EnvR.mv (h : EnvR K as H σ ρ) (E : Ext as H as' H') : EnvR K as' H' σ ρ := ⟨h.1, fun i d e => let ⟨v, a, b⟩ := h.2 i d e; ⟨v, a, b.mv E⟩⟩
/-- a new thing that is no cell -/
theorem Ext.new {p : Addr} {o : HO} (hp : H p = none) (n : as.Out p) : Ext as H as (upd H p o) :=
  ⟨⟨[], by simp, by simp⟩, ⟨[], by simp, by simp⟩, fun a u _ h => by rw [upd_ne (ne_of_none h hp)]; exact h, fun a ha _ => by
    by_cases e : a = p
    · exact absurd (e ▸ ha) n.1
    · rw [upd_ne e]; assumption⟩
theorem CellR.mv {a : Addr} {c : Cell} (h : CellR K as H a c) (E : Ext as H as' H') (e : H' a = H a) : CellR K as' H' a c := by
  cases c with
  | lst ds => obtain ⟨vs, q, r⟩ := h; exact ⟨vs, e.trans q, r.mv E⟩
/-- the cells stand where nothing was stored into them -/
theorem StoR.keep (h : StoR K as H μ) (E : Ext as H as H') (e : ∀ a ∈ as.c, H' a = H a) : StoR K as H' μ :=
  ⟨h.len, fun k a c q r => (h.at_ k a c q r).mv E (e a (List.mem_of_getElem? q)), h.nd, fun a ha => by
    by_cases hc : a ∈ as.c
    · exact E.cel a hc (h.bl a ha)
    · have q := h.bl a ha
      cases z : H a with
      | none => exact absurd z q
      | some o => rw [E.old a o hc z]; simp⟩
theorem StoR.new {p : Addr} {o : HO} (h : StoR K as H μ) (hp : H p = none) : StoR K as (upd H p o) μ :=
  h.keep (Ext.new hp (h.out hp)) fun a ha => upd_ne fun e => (h.out hp).1 (e ▸ ha)
theorem ER.mvE (h : ER K as σ H S) (E : Ext as H as' H') {μ' : List Cell} (s : StoR K as' H' μ') : ER K as' σ H' { S with μ := μ' } := ⟨h.env.mv E, s⟩
theorem Reps.length : ∀ {vs : List V} {ds : List D}, Reps K as H vs ds → vs.length = ds.length
  | _, _, .nil => rfl
  | _, _, .cons _ t => by rw [List.length_cons, List.length_cons, Reps.length t]
theorem Reps.get : ∀ {vs : List V} {ds : List D} {i : Nat} {d : D}, Reps K as H vs ds → ds[i]? = some d → ∃ v, vs[i]? = some v ∧ Rep K as H v d
  | _, _, _, _, .nil, e => by simp at e
  | _, _, 0, _, .cons h _, e => by simp at e; subst e; exact ⟨_, rfl, h⟩
  | _, _, i + 1, d, .cons _ t, e => by
    obtain ⟨v, a, b⟩ := Reps.get (i := i) t (by simpa using e)
    exact ⟨v, by simpa using a, b⟩
theorem Reps.getV : ∀ {vs : List V} {ds : List D} {i : Nat} {v : V}, Reps K as H vs ds → vs[i]? = some v → ∃ d, ds[i]? = some d ∧ Rep K as H v d
  | _, _, _, _, .nil, e => by simp at e
  | _, _, 0, _, .cons h _, e => by simp at e; subst e; exact ⟨_, rfl, h⟩
  | _, _, i + 1, d, .cons _ t, e => by
    obtain ⟨v, a, b⟩ := Reps.getV (i := i) t (by simpa using e)
    exact ⟨v, by simpa using a, b⟩
theorem Reps.append : ∀ {vs ws : List V} {ds es : List D}, Reps K as H vs ds → Reps K as H ws es → Reps K as H (vs ++ ws) (ds ++ es)
  | _, _, _, _, .nil, s => s
  | _, _, _, _, .cons h t, s => .cons h (Reps.append t s)
theorem Reps.snoc (h : Reps K as H vs ds) (r : Rep K as H v d) : Reps K as H (vs ++ [v]) (ds ++ [d]) := h.append (.cons r .nil)
theorem Reps.set : ∀ {vs : List V} {ds : List D} {v : V} {d : D} (i : Nat), Reps K as H vs ds → Rep K as H v d → Reps K as H (vs.set i v) (ds.set i d)
  | _, _, _, _, _, .nil, _ => .nil
  | _, _, _, _, 0, .cons _ t, r => .cons r t
  | _, _, _, _, i + 1, .cons h t, r => .cons h (Reps.set i t r)
theorem Reps.take : ∀ {vs : List V} {ds : List D} (n : Nat), Reps K as H vs ds → Reps K as H (vs.take n) (ds.take n)
  | _, _, 0, _ => .nil
  | _, _, n + 1, .nil => .nil
  | _, _, n + 1, .cons h t => .cons h (Reps.take n t)
theorem Reps.drop : ∀ {vs : List V} {ds : List D} (n : Nat), Reps K as H vs ds → Reps K as H (vs.drop n) (ds.drop n)
  | _, _, 0, r => r
  | _, _, n + 1, .nil => .nil
  | _, _, n + 1, .cons _ t => Reps.drop n t
theorem Reps.ints : ∀ {ns : List Int}, Reps K as H (ns.map V.int) (ns.map D.int)
  | [] => .nil
  | _ :: _ => .cons (.int _) Reps.ints

/-! ### the judgements -/
abbrev EvE := Sg → Option (D × List Cell)
abbrev EvT := Sg → Option (Bool × List Cell)
abbrev EvA := Sg → Option (List D × List Cell)
/-- how a statement ends; what an expression gives: data, or an exception of the class of this name, with what it keeps -/
inductive Fl where
  | nx | rt (d : D) | bk | ct | ex (n : Str) (x : Option D)
inductive Ov where
  | v (d : D) | x (n : Str) (p : Option D)
abbrev EvX := Sg → Option (Ov × List Cell)
abbrev EvS := Sg → Option (Fl × Sg)

variable (K) in
def tF (f : EvE) : TE := fun σ H Q => ∃ as S d μ', ER K as σ H S ∧ f S = some (d, μ') ∧ ∀ v as' H', Ext as H as' H' → Rep K as' H' v d → StoR K as' H' μ' → Q v H'
variable (K) in
def tFT (f : EvT) : TT := fun σ H Q => ∃ as S b μ', ER K as σ H S ∧ f S = some (b, μ') ∧ ∀ as' H', Ext as H as' H' → StoR K as' H' μ' → Q b H'
variable (K) in
def tFA (f : EvA) : TA := fun σ H Q => ∃ as S ds μ', ER K as σ H S ∧ f S = some (ds, μ') ∧ ∀ vs as' H', Ext as H as' H' → Reps K as' H' vs ds → StoR K as' H' μ' → Q vs H'
/-- what an exception keeps -/
def XR (d : Option Addr) : Option D → Prop
  | none => d = none
  | some _ => False
variable (K) in
/-- .. where an exception may come out -/
def tFX (mg : Str → Option Value) (W : WX) (f : EvX) : TE := fun σ H Q => ∃ as S o μ', ER K as σ H S ∧ f S = some (o, μ') ∧ (match o with
  | .v d => ∀ v as' H', Ext as H as' H' → Rep K as' H' v d → StoR K as' H' μ' → Q v H'
  | .x n p => ∀ as' H' C dx, Ext as H as' H' → StoR K as' H' μ' → mg n = some C → XR dx p → W C dx σ H')
variable (K) in
def endS (mg : Str → Option Value) (W : WX) (as : Ar) (H : Hp) (E : Ends) : Fl → Sg → Prop
  | .nx, S' => ∀ as' σ' H', Ext as H as' H' → ER K as' σ' H' S' → E.nx σ' H'
  | .bk, S' => ∀ as' σ' H', Ext as H as' H' → ER K as' σ' H' S' → E.bk σ' H'
  | .ct, S' => ∀ as' σ' H', Ext as H as' H' → ER K as' σ' H' S' → E.ct σ' H'
  | .rt d, S' => ∀ as' v H', Ext as H as' H' → Rep K as' H' v d → StoR K as' H' S'.μ → E.rt v H'
  | .ex n p, S' => ∀ as' σ' H' C dx, Ext as H as' H' → ER K as' σ' H' S' → mg n = some C → XR dx p → W C dx σ' H'
variable (K) in
def tFS (mg : Str → Option Value) (W : WX) (g : EvS) : TS := fun E σ H => ∃ as S fl S', ER K as σ H S ∧ g S = some (fl, S') ∧ endS K mg W as H E fl S'

end
theorem _root_.L2.PE.imp {X : Cx} {e : Expr} {t t' : TE} (h : PE X e t) (q : ∀ σ H Q, t' σ H Q → t σ H Q) : PE X e t' := ⟨fun pins s σ H Q I z => h.run pins s σ H Q I (q σ H Q z)⟩
theorem _root_.L2.PT.imp {X : Cx} {e : Expr} {t t' : TT} (h : PT X e t) (q : ∀ σ H Q, t' σ H Q → t σ H Q) : PT X e t' := ⟨fun pins s σ H Q I z => h.run pins s σ H Q I (q σ H Q z)⟩
theorem _root_.L2.PA.imp {X : Cx} {e : List Expr} {t t' : TA} (h : PA X e t) (q : ∀ σ H Q, t' σ H Q → t σ H Q) : PA X e t' := ⟨fun pos pins s σ H Q I z => h.run pos pins s σ H Q I (q σ H Q z)⟩
theorem _root_.L2.PS.imp {X : Cx} {e : Stmt} {t t' : TS} (h : PS X e t) (q : ∀ D σ H, t' D σ H → t D σ H) : PS X e t' := ⟨fun pins s σ H D I z => h.run pins s σ H D I (q D σ H z)⟩
theorem _root_.L2.PSs.imp {X : Cx} {e : List Stmt} {t t' : TS} (h : PSs X e t) (q : ∀ D σ H, t' D σ H → t D σ H) : PSs X e t' := ⟨fun pins s σ H D I z => h.run pins s σ H D I (q D σ H z)⟩
end DL
namespace DL
open PySem L2
/-! ### names, constants -/
def fV (i : Nat) : EvE := fun S => match S.ρ[i]? with
  | some (some d) => some (d, S.μ)
  | _ => none
def fC (d : D) : EvE := fun S => some (d, S.μ)
/-- two in a row -/
def fB (g : D → D → List Cell → Option D) (fa fb : EvE) : EvE := fun S => match fa S with
  | some (x, μ1) => match fb { S with μ := μ1 } with
    | some (y, μ2) => match g x y μ2 with
      | some z => some (z, μ2)
      | none => none
    | none => none
  | none => none
def fU (g : D → List Cell → Option D) (fa : EvE) : EvE := fun S => match fa S with
  | some (x, μ1) => match g x μ1 with
    | some z => some (z, μ1)
    | none => none
  | none => none
section
variable {X : Cx} {σ : St} {H : Hp} {Q : VK} {as : Ar}
theorem tF_c {K : PySem.W.Frag} {v : V} {d : D} (r : ∀ as H, Rep K as H v d) : ∀ σ H Q, tF K (fC d) σ H Q → tC v σ H Q := fun σ H Q ⟨as, S, d', μ', E, e, q⟩ => by
  have e' : (d, S.μ) = (d', μ') := Option.some.inj e
  injection e' with e1 e2
  subst e1 e2
  exact q v as H .refl (r _ _) E.sto
theorem de_int {i j pos} : PE X (.Constant (.int i) j pos) (tF X.K (fC (.int i))) := pe_int.imp (tF_c fun _ _ => .int i)
theorem de_bl {b j pos} : PE X (.Constant (.bool b) j pos) (tF X.K (fC (.bl b))) := pe_bl.imp (tF_c fun _ _ => .bl b)
theorem de_non {j pos} : PE X (.Constant .none j pos) (tF X.K (fC .non)) := pe_non.imp (tF_c fun _ _ => .non)
theorem de_str {x j pos} : PE X (.Constant (.str x) j pos) (tF X.K (fC (.str x))) := pe_str.imp (tF_c fun _ _ => .str x)
theorem de_var (i : Nat) {x : Str} {pos : Pos} (hN : X.N[i]? = some x := by rfl) (hv : Vis X.env.scope x := by first | exact Or.inl rfl | exact Or.inr (Or.inl rfl) | exact Or.inr (Or.inr rfl))
    (hd : (x == ("__debug__" : Str)) = false := by decide) (hcd : (x == ("__classdict__" : Str)) = false := by decide) : PE X (.Name x pos) (tF X.K (fV i)) := by
  refine (pe_var hN hv hd hcd).imp fun σ H Q ⟨as, S, d, μ', E, e, q⟩ => ?_
  unfold fV at e
  split at e
  · rename_i d' he
    injection e with e
    injection e with e1 e2
    subst e1 e2
    obtain ⟨v, a, r⟩ := E.env.2 i _ he
    exact ⟨v, a, q v as H .refl r E.sto⟩
  · cases e
/-- a name of the module that holds a constant -/
theorem de_gint {i : Int} {x : Str} {pos : Pos} (hg : Gl X x) (hm : ∃ t, X.mg x = some (.int i t)) (hdb : (x == ("__debug__" : Str)) = false := by decide) : PE X (.Name x pos) (tF X.K (fC (.int i))) := by
  obtain ⟨t, hm⟩ := hm
  exact (pe_glob (v := .int i) hg hm ⟨t, rfl⟩ (hd := hdb)).imp (tF_c fun _ _ => .int i)
theorem de_gty {T : String} {x : Str} {pos : Pos} (hg : Gl X x) (hm : X.mg x = none) (hv : bootBuiltins x = some (.type T)) (hn : x ≠ "__name__" := by decide) (hdb : (x == ("__debug__" : Str)) = false := by decide) : PE X (.Name x pos) (tF X.K (fC (.ty T))) :=
  (pe_bltn (v := .ty T) hg hm hv rfl (hn := hn) (hd := hdb)).imp (tF_c fun _ _ => .ty T)

/-! ### operators -/
def rD (K : PySem.W.Frag) (g : D → D → List Cell → Option D) : R2 := fun x y H Q => ∃ as d e μ z, Rep K as H x d ∧ Rep K as H y e ∧ StoR K as H μ ∧ g d e μ = some z ∧
  ∀ v H', Ext as H as H' → Rep K as H' v z → StoR K as H' μ → Q v H'
def rU1 (K : PySem.W.Frag) (g : D → List Cell → Option D) : V → Hp → VK → Prop := fun x H Q => ∃ as d μ z, Rep K as H x d ∧ StoR K as H μ ∧ g d μ = some z ∧
  ∀ v H', Ext as H as H' → Rep K as H' v z → StoR K as H' μ → Q v H'
theorem tF_b {K : PySem.W.Frag} {g : D → D → List Cell → Option D} {fa fb : EvE} : ∀ σ H Q, tF K (fB g fa fb) σ H Q → tOp (rD K g) (tF K fa) (tF K fb) σ H Q := fun σ H Q ⟨as, S, d', μ', E, e, q⟩ => by
  unfold fB at e
  split at e
  · rename_i x μ1 ea
    split at e
    · rename_i y μ2 eb
      split at e
      · rename_i z ez
        injection e with e
        injection e with e1 e2
        subst e1 e2
        refine ⟨as, S, x, μ1, E, ea, fun v as1 H1 X1 r1 s1 => ⟨as1, _, y, μ2, E.mvE X1 s1, eb, fun u as2 H2 X2 r2 s2 => ⟨as2, x, y, μ2, z, r1.mv X2, r2, s2, ez, fun w H3 X3 r3 s3 => ?_⟩⟩⟩
        exact q w as2 H3 ((X1.trans X2 E.sto.trk).trans X3 E.sto.trk) r3 s3
      · cases e
    · cases e
  · cases e
theorem tF_u {K : PySem.W.Frag} {g : D → List Cell → Option D} {fa : EvE} : ∀ σ H Q, tF K (fU g fa) σ H Q → tUn (rU1 K g) (tF K fa) σ H Q := fun σ H Q ⟨as, S, d', μ', E, e, q⟩ => by
  unfold fU at e
  split at e
  · rename_i x μ1 ea
    split at e
    · rename_i z ez
      injection e with e
      injection e with e1 e2
      subst e1 e2
      exact ⟨as, S, x, μ1, E, ea, fun v as1 H1 X1 r1 s1 => ⟨as1, x, μ1, z, r1, s1, ez, fun w H3 X3 r3 s3 => q w as1 H3 (X1.trans X3 E.sto.trk) r3 s3⟩⟩
    · cases e
  · cases e
variable {a b c : Expr} {fa fb fc : EvE} {pos : Pos}
theorem de_bin {op : Operator} {g : D → D → List Cell → Option D} (ho : OpR X (binaryOp op) (rD X.K g)) (ha : PE X a (tF X.K fa)) (hb : PE X b (tF X.K fb)) : PE X (.BinOp a op b pos) (tF X.K (fB g fa fb)) :=
  (pe_op ho ha hb).imp tF_b
theorem de_cmp {op : CmpOp} {g : D → D → List Cell → Option D} (ho : OpR X (compareOp op) (rD X.K g)) (ha : PE X a (tF X.K fa)) (hb : PE X b (tF X.K fb)) (hm : behindInMarks op b = false) : PE X (.Compare a [op] [b] pos) (tF X.K (fB g fa fb)) :=
  (pe_cmpR ho ha hb hm).imp tF_b
theorem de_un {op : UnaryOp} {g : D → List Cell → Option D} (ho : UnR X (unaryOp op) (rU1 X.K g)) (ha : PE X a (tF X.K fa)) : PE X (.UnaryOp op a pos) (tF X.K (fU g fa)) :=
  (pe_un ho ha).imp tF_u
theorem de_ix {g : D → D → List Cell → Option D} (ho : IxR X (rD X.K g)) (ha : PE X a (tF X.K fa)) (hb : PE X b (tF X.K fb)) (hs : PlainIx b := by exact fun _ _ => rfl) : PE X (.Subscript a b pos) (tF X.K (fB g fa fb)) :=
  (pe_ix ho ha hb hs).imp tF_b
/-- a < b < c: the third only where the first comparison holds -/
def fCh (g g' : D → D → List Cell → Option D) (fa fb fc : EvE) : EvE := fun S => match fa S with
  | some (x, μ1) => match fb { S with μ := μ1 } with
    | some (y, μ2) => match g x y μ2 with
      | some (.bl true) => match fc { S with μ := μ2 } with
        | some (w, μ3) => match g' y w μ3 with
          | some z => some (z, μ3)
          | none => none
        | none => none
      | some (.bl false) => some (.bl false, μ2)
      | _ => none
    | none => none
  | none => none
theorem tF_ch {K : PySem.W.Frag} {g g' : D → D → List Cell → Option D} : ∀ σ H Q, tF K (fCh g g' fa fb fc) σ H Q → tChain (rD K g) (rD K g') (tF K fa) (tF K fb) (tF K fc) σ H Q := fun σ H Q ⟨as, S, d', μ', E, e, q⟩ => by
  unfold fCh at e
  split at e
  · rename_i x μ1 ea
    split at e
    · rename_i y μ2 eb
      split at e
      · rename_i ez
        split at e
        · rename_i w μ3 ec
          split at e
          · rename_i z ew
            injection e with e
            injection e with e1 e2
            subst e1 e2
            refine ⟨as, S, x, μ1, E, ea, fun v as1 H1 X1 r1 s1 => ⟨as1, _, y, μ2, E.mvE X1 s1, eb, fun u as2 H2 X2 r2 s2 => ⟨as2, x, y, μ2, .bl true, r1.mv X2, r2, s2, ez, fun k H3 X3 r3 s3 => ?_⟩⟩⟩
            have X13 := X1.trans (X2.trans X3 s1.trk) E.sto.trk
            cases r3
            refine ⟨true, rfl, ?_⟩
            rw [if_pos rfl]
            refine ⟨as2, _, w, μ3, E.mvE X13 s3, ec, fun t as4 H4 X4 r4 s4 => ⟨as4, y, w, μ3, z, (r2.mv X3).mv X4, r4, s4, ew, fun k5 H5 X5 r5 s5 => ?_⟩⟩
            exact q k5 as4 H5 ((X13.trans X4 E.sto.trk).trans X5 E.sto.trk) r5 s5
          · cases e
        · cases e
      · rename_i ez
        injection e with e
        injection e with e1 e2
        subst e1 e2
        refine ⟨as, S, x, μ1, E, ea, fun v as1 H1 X1 r1 s1 => ⟨as1, _, y, μ2, E.mvE X1 s1, eb, fun u as2 H2 X2 r2 s2 => ⟨as2, x, y, μ2, .bl false, r1.mv X2, r2, s2, ez, fun k H3 X3 r3 s3 => ?_⟩⟩⟩
        have X13 := X1.trans (X2.trans X3 s1.trk) E.sto.trk
        cases r3
        refine ⟨false, rfl, ?_⟩
        rw [if_neg Bool.false_ne_true]
        exact q _ as2 H3 X13 (.bl false) s3
      · cases e
    · cases e
  · cases e
theorem de_chain {op op' : CmpOp} {g g' : D → D → List Cell → Option D} (ho : OpR X (compareOp op) (rD X.K g)) (ho' : OpR X (compareOp op') (rD X.K g')) (ha : PE X a (tF X.K fa)) (hb : PE X b (tF X.K fb)) (hc : PE X c (tF X.K fc)) (hm : lastMarks [op, op'] [b, c] = false := by rfl) :
    PE X (.Compare a [op, op'] [b, c] pos) (tF X.K (fCh g g' fa fb fc)) := (pe_chain ho ho' ha hb hc (hm := hm)).imp tF_ch

/-! ### truth -/
def dTru : D → List Cell → Option Bool
  | .non, _ => some false
  | .bl b, _ => some b
  | .int i, _ => some (i != 0)
  | .str y, _ => if y.length ≤ sizeLine then some ((y.length : Int) != 0) else none
  | .lst xs, _ | .rl xs, _ | .tup xs, _ => some (!xs.isEmpty)
  | .dct kvs, _ => some (!kvs.isEmpty)
  | .h k, μ => match μ[k]? with
    | some (.lst xs) => some (!xs.isEmpty)
    | none => none
  | .ty _, _ | .exc _, _ | .exf _ _ _, _ => none
theorem Reps.isEmpty {K : PySem.W.Frag} {vs : List V} {ds : List D} (h : Reps K as H vs ds) : vs.isEmpty = ds.isEmpty := by cases h <;> rfl
theorem dTru_ok {K : PySem.W.Frag} {v : V} {d : D} {μ : List Cell} {k : Bool} (r : Rep K as H v d) (s : StoR K as H μ) (e : dTru d μ = some k) : TruV K v H k := by
  cases r with
  | non => exact (Option.some.inj e).symm
  | bl b => exact (Option.some.inj e).symm
  | int i => exact (Option.some.inj e).symm
  | str y =>
    simp only [dTru] at e
    split at e
    · rename_i hl
      exact ⟨hl, (Option.some.inj e).symm⟩
    · cases e
  | ty n => cases e
  | exc _ _ _ => cases e
  | exf _ _ _ _ _ _ => cases e
  | @lst a vs ds t n rs => exact .inl ⟨vs, SqL.of t, by rw [rs.isEmpty]; exact (Option.some.inj e).symm⟩
  | @rl a vs ds t rs => exact .inl ⟨vs, t.sq, by rw [rs.isEmpty]; exact (Option.some.inj e).symm⟩
  | @tup a vs ds t rs => exact .inr (.inl ⟨vs, t.sq, by rw [rs.isEmpty]; exact (Option.some.inj e).symm⟩)
  | @dct a kvs ds t n ek rs =>
    refine .inr (.inr ⟨kvs, t, ?_⟩)
    have e' : (!ds.isEmpty) = k := Option.some.inj e
    rw [← e']
    have l : kvs.length = ds.length := by simpa using congrArg List.length ek
    cases kvs <;> cases ds <;> simp_all
  | @h k' a ea =>
    simp only [dTru] at e
    split at e
    · rename_i xs em
      obtain ⟨vs, hv, rs⟩ := s.at_ k' a _ ea em
      exact .inl ⟨vs, SqL.of hv, by rw [rs.isEmpty]; exact (Option.some.inj e).symm⟩
    · cases e
def fTru (fa : EvE) : EvT := fun S => match fa S with
  | some (x, μ1) => match dTru x μ1 with
    | some k => some (k, μ1)
    | none => none
  | none => none
theorem dt_truth (ha : PE X a (tF X.K fa)) (he : ∀ whole, isTrue a X.env whole = (do let v ← whole; standAt a.pos; holding [v] (truthy v)) := by intro _; rfl) : PT X a (tFT X.K (fTru fa)) := by
  refine (pt_truth ha he).imp fun σ H Q ⟨as, S, k, μ', E, e, q⟩ => ?_
  unfold fTru at e
  split at e
  · rename_i x μ1 ea
    split at e
    · rename_i k' ek
      injection e with e
      injection e with e1 e2
      subst e1 e2
      exact ⟨as, S, x, μ1, E, ea, fun v as1 H1 X1 r1 s1 => ⟨k', dTru_ok r1 s1 ek, q as1 H1 X1 s1⟩⟩
    · cases e
  · cases e
/-- a comparison as a test -/
theorem dt_cmp {op : CmpOp} {g : D → D → List Cell → Option D} (ho : OpR X (compareOp op) (rD X.K g)) (ha : PE X a (tF X.K fa)) (hb : PE X b (tF X.K fb)) (hm : behindInMarks op b = false) (hbl : ∀ x y μ z, g x y μ = some z → ∃ k, z = .bl k) :
    PT X (.Compare a [op] [b] pos) (tFT X.K (fTru (fB g fa fb))) := by
  refine (pt_cmpR ho ha hb hm).imp fun σ H Q ⟨as, S, k, μ', E, e, q⟩ => ?_
  unfold fTru at e
  split at e
  · rename_i x μ1 ea
    split at e
    · rename_i k' ek
      injection e with e
      injection e with e1 e2
      subst e1 e2
      obtain ⟨kb, rfl⟩ : ∃ k, x = .bl k := by
        have ea' := ea
        unfold fB at ea'
        split at ea'
        · split at ea'
          · split at ea'
            · rename_i ez
              injection ea' with ea'
              injection ea' with e1 _
              obtain ⟨k, hk⟩ := hbl _ _ _ _ ez
              exact ⟨k, e1 ▸ hk⟩
            · cases ea'
          · cases ea'
        · cases ea'
      have ek' : kb = k' := Option.some.inj ek
      subst ek'
      refine tF_b (K := X.K) σ H _ ⟨as, S, .bl kb, μ1, E, ea, fun v as1 H1 X1 r1 s1 => ?_⟩
      cases r1
      exact ⟨kb, rfl, q as1 H1 X1 s1⟩
    · cases e
  · cases e
theorem dt_chain {op op' : CmpOp} {g g' : D → D → List Cell → Option D} (ho : OpR X (compareOp op) (rD X.K g)) (ho' : OpR X (compareOp op') (rD X.K g')) (ha : PE X a (tF X.K fa)) (hb : PE X b (tF X.K fb)) (hc : PE X c (tF X.K fc))
    (hbl : ∀ x y μ z, g' x y μ = some z → ∃ k, z = .bl k) (hm : lastMarks [op, op'] [b, c] = false := by rfl) : PT X (.Compare a [op, op'] [b, c] pos) (tFT X.K (fTru (fCh g g' fa fb fc))) := by
  refine (pt_chain ho ho' ha hb hc (hm := hm)).imp fun σ H Q ⟨as, S, k, μ', E, e, q⟩ => ?_
  unfold fTru at e
  split at e
  · rename_i x μ1 ea
    split at e
    · rename_i k' ek
      injection e with e
      injection e with e1 e2
      subst e1 e2
      obtain ⟨kb, rfl⟩ : ∃ k, x = .bl k := by
        have ea' := ea
        unfold fCh at ea'
        split at ea'
        · split at ea'
          · split at ea'
            · split at ea'
              · split at ea'
                · rename_i ez
                  injection ea' with ea'
                  injection ea' with e1 _
                  obtain ⟨k, hk⟩ := hbl _ _ _ _ ez
                  exact ⟨k, e1 ▸ hk⟩
                · cases ea'
              · cases ea'
            · injection ea' with ea'
              injection ea' with e1 _
              exact ⟨false, e1.symm⟩
            · cases ea'
          · cases ea'
        · cases ea'
      have ek' : kb = k' := Option.some.inj ek
      subst ek'
      have z := tF_ch (K := X.K) σ H (fun x H' => ∃ k, x = .bl k ∧ Q k H') ⟨as, S, .bl kb, μ1, E, ea, fun v as1 H1 X1 r1 s1 => by cases r1; exact ⟨kb, rfl, q as1 H1 X1 s1⟩⟩
      exact z
    · cases e
  · cases e
def fNot (t : EvT) : EvT := fun S => match t S with
  | some (k, μ1) => some (!k, μ1)
  | none => none
def fAnd (t u : EvT) : EvT := fun S => match t S with
  | some (true, μ1) => u { S with μ := μ1 }
  | some (false, μ1) => some (false, μ1)
  | none => none
def fOr (t u : EvT) : EvT := fun S => match t S with
  | some (true, μ1) => some (true, μ1)
  | some (false, μ1) => u { S with μ := μ1 }
  | none => none
variable {t u : EvT} {rest : List Expr}
theorem dt_not (ha : PT X a (tFT X.K t)) : PT X (.UnaryOp .Not a pos) (tFT X.K (fNot t)) := by
  refine (pt_not ha).imp fun σ H Q ⟨as, S, k, μ', E, e, q⟩ => ?_
  unfold fNot at e
  split at e
  · rename_i k1 μ1 ea
    injection e with e
    injection e with e1 e2
    subst e1 e2
    exact ⟨as, S, k1, μ1, E, ea, fun as1 H1 X1 s1 => q as1 H1 X1 s1⟩
  · cases e
theorem PW.imp {X : Cx} {e : Expr} {t t' : TT} (h : PW X e t) (q : ∀ σ H Q, t' σ H Q → t σ H Q) : PW X e t' := ⟨fun whole pins s σ H Q I z => h.run whole pins s σ H Q I (q σ H Q z)⟩
theorem dw_and1 (ha : PT X a (tFT X.K t)) : PW X (.BoolOp .And [a] pos) (tFT X.K t) := pw_and1 ha
theorem dw_or1 (ha : PT X a (tFT X.K t)) : PW X (.BoolOp .Or [a] pos) (tFT X.K t) := pw_or1 ha
theorem dw_and (ha : PT X a (tFT X.K t)) (hb : PW X (.BoolOp .And (b :: rest) pos) (tFT X.K u)) : PW X (.BoolOp .And (a :: b :: rest) pos) (tFT X.K (fAnd t u)) := by
  refine PW.imp (pw_and ha hb) fun σ H Q ⟨as, S, k, μ', E, e, q⟩ => ?_
  unfold fAnd at e
  split at e
  · rename_i μ1 ea
    exact ⟨as, S, true, μ1, E, ea, fun as1 H1 X1 s1 => iteT ⟨as1, _, k, μ', E.mvE X1 s1, e, fun as2 H2 X2 s2 => q as2 H2 (X1.trans X2 E.sto.trk) s2⟩⟩
  · rename_i μ1 ea
    injection e with e
    injection e with e1 e2
    subst e1 e2
    exact ⟨as, S, false, μ1, E, ea, fun as1 H1 X1 s1 => iteF (q as1 H1 X1 s1)⟩
  · cases e
theorem dw_or (ha : PT X a (tFT X.K t)) (hb : PW X (.BoolOp .Or (b :: rest) pos) (tFT X.K u)) : PW X (.BoolOp .Or (a :: b :: rest) pos) (tFT X.K (fOr t u)) := by
  refine PW.imp (pw_or ha hb) fun σ H Q ⟨as, S, k, μ', E, e, q⟩ => ?_
  unfold fOr at e
  split at e
  · rename_i μ1 ea
    injection e with e
    injection e with e1 e2
    subst e1 e2
    exact ⟨as, S, true, μ1, E, ea, fun as1 H1 X1 s1 => iteT (q as1 H1 X1 s1)⟩
  · rename_i μ1 ea
    exact ⟨as, S, false, μ1, E, ea, fun as1 H1 X1 s1 => iteF ⟨as1, _, k, μ', E.mvE X1 s1, e, fun as2 H2 X2 s2 => q as2 H2 (X1.trans X2 E.sto.trk) s2⟩⟩
  · cases e

/-! ### and, or, not, if as values -/
def fAndV (fa fb : EvE) : EvE := fun S => match fa S with
  | some (x, μ1) => match dTru x μ1 with
    | some true => fb { S with μ := μ1 }
    | some false => some (x, μ1)
    | none => none
  | none => none
def fOrV (fa fb : EvE) : EvE := fun S => match fa S with
  | some (x, μ1) => match dTru x μ1 with
    | some true => some (x, μ1)
    | some false => fb { S with μ := μ1 }
    | none => none
  | none => none
def dNot : D → List Cell → Option D := fun d μ => (dTru d μ).map fun k => .bl (!k)
def fIfE (t : EvT) (fa fb : EvE) : EvE := fun S => match t S with
  | some (true, μ1) => fa { S with μ := μ1 }
  | some (false, μ1) => fb { S with μ := μ1 }
  | none => none
theorem de_one {op} (ha : PE X a (tF X.K fa)) : PE X (.BoolOp op [a] pos) (tF X.K fa) := pe_one ha
theorem de_and (ha : PE X a (tF X.K fa)) (hb : PE X (.BoolOp .And (b :: rest) pos) (tF X.K fb)) : PE X (.BoolOp .And (a :: b :: rest) pos) (tF X.K (fAndV fa fb)) := by
  refine (pe_andT ha hb).imp fun σ H Q ⟨as, S, d, μ', E, e, q⟩ => ?_
  unfold fAndV at e
  split at e
  · rename_i x μ1 ea
    split at e
    · rename_i ek
      exact ⟨as, S, x, μ1, E, ea, fun v as1 H1 X1 r1 s1 => ⟨true, dTru_ok r1 s1 ek, iteT ⟨as1, _, d, μ', E.mvE X1 s1, e, fun w as2 H2 X2 r2 s2 => q w as2 H2 (X1.trans X2 E.sto.trk) r2 s2⟩⟩⟩
    · rename_i ek
      injection e with e
      injection e with e1 e2
      subst e1 e2
      exact ⟨as, S, x, μ1, E, ea, fun v as1 H1 X1 r1 s1 => ⟨false, dTru_ok r1 s1 ek, iteF (q v as1 H1 X1 r1 s1)⟩⟩
    · cases e
  · cases e
theorem de_or (ha : PE X a (tF X.K fa)) (hb : PE X (.BoolOp .Or (b :: rest) pos) (tF X.K fb)) : PE X (.BoolOp .Or (a :: b :: rest) pos) (tF X.K (fOrV fa fb)) := by
  refine (pe_orT ha hb).imp fun σ H Q ⟨as, S, d, μ', E, e, q⟩ => ?_
  unfold fOrV at e
  split at e
  · rename_i x μ1 ea
    split at e
    · rename_i ek
      injection e with e
      injection e with e1 e2
      subst e1 e2
      exact ⟨as, S, x, μ1, E, ea, fun v as1 H1 X1 r1 s1 => ⟨true, dTru_ok r1 s1 ek, iteT (q v as1 H1 X1 r1 s1)⟩⟩
    · rename_i ek
      exact ⟨as, S, x, μ1, E, ea, fun v as1 H1 X1 r1 s1 => ⟨false, dTru_ok r1 s1 ek, iteF ⟨as1, _, d, μ', E.mvE X1 s1, e, fun w as2 H2 X2 r2 s2 => q w as2 H2 (X1.trans X2 E.sto.trk) r2 s2⟩⟩⟩
    · cases e
  · cases e
theorem de_not (ha : PE X a (tF X.K fa)) : PE X (.UnaryOp .Not a pos) (tF X.K (fU dNot fa)) := by
  refine (pe_notT ha).imp fun σ H Q ⟨as, S, d, μ', E, e, q⟩ => ?_
  unfold fU at e
  split at e
  · rename_i x μ1 ea
    split at e
    · rename_i z ez
      injection e with e
      injection e with e1 e2
      subst e1 e2
      obtain ⟨k, ek, rfl⟩ := Option.map_eq_some_iff.mp ez
      exact ⟨as, S, x, μ1, E, ea, fun v as1 H1 X1 r1 s1 => ⟨k, dTru_ok r1 s1 ek, q _ as1 H1 X1 (.bl _) s1⟩⟩
    · cases e
  · cases e
theorem de_ifE (hc : PT X c (tFT X.K t)) (ha : PE X a (tF X.K fa)) (hb : PE X b (tF X.K fb)) : PE X (.IfExp c a b pos) (tF X.K (fIfE t fa fb)) := by
  refine (pe_ifExp hc ha hb).imp fun σ H Q ⟨as, S, d, μ', E, e, q⟩ => ?_
  unfold fIfE at e
  split at e
  · rename_i μ1 ea
    exact ⟨as, S, true, μ1, E, ea, fun as1 H1 X1 s1 => iteT ⟨as1, _, d, μ', E.mvE X1 s1, e, fun w as2 H2 X2 r2 s2 => q w as2 H2 (X1.trans X2 E.sto.trk) r2 s2⟩⟩
  · rename_i μ1 ea
    exact ⟨as, S, false, μ1, E, ea, fun as1 H1 X1 s1 => iteF ⟨as1, _, d, μ', E.mvE X1 s1, e, fun w as2 H2 X2 r2 s2 => q w as2 H2 (X1.trans X2 E.sto.trk) r2 s2⟩⟩
  · cases e

/-! ### lists of expressions, displays, calls of what is built in -/
def fNil : EvA := fun S => some ([], S.μ)
def fCons (fa : EvE) (fr : EvA) : EvA := fun S => match fa S with
  | some (x, μ1) => match fr { S with μ := μ1 } with
    | some (xs, μ2) => some (x :: xs, μ2)
    | none => none
  | none => none
def fApp (g : List D → List Cell → Option D) (fs : EvA) : EvE := fun S => match fs S with
  | some (xs, μ1) => match g xs μ1 with
    | some z => some (z, μ1)
    | none => none
  | none => none
variable {es : List Expr} {fs : EvA}
theorem da_nil : PA X [] (tFA X.K fNil) := pa_nil.imp fun σ H Q ⟨as, S, d, μ', E, e, q⟩ => by
  injection e with e
  injection e with e1 e2
  subst e1 e2
  exact q [] as H .refl .nil E.sto
theorem da_cons (ha : PE X a (tF X.K fa)) (hr : PA X es (tFA X.K fs)) (hs : starEach (a :: es) X.env = (false, eval a X.env) :: starEach es X.env := by rfl) : PA X (a :: es) (tFA X.K (fCons fa fs)) := by
  refine (pa_cons ha hr hs).imp fun σ H Q ⟨as, S, d, μ', E, e, q⟩ => ?_
  unfold fCons at e
  split at e
  · rename_i x μ1 ea
    split at e
    · rename_i xs μ2 eb
      injection e with e
      injection e with e1 e2
      subst e1 e2
      exact ⟨as, S, x, μ1, E, ea, fun v as1 H1 X1 r1 s1 => ⟨as1, _, xs, μ2, E.mvE X1 s1, eb, fun vs as2 H2 X2 r2 s2 => q _ as2 H2 (X1.trans X2 E.sto.trk) (.cons (r1.mv X2) r2) s2⟩⟩
    · cases e
  · cases e
def gLst : List D → List Cell → Option D := fun xs _ => if xs.length ≤ sizeLine then some (.lst xs) else none
def gTup : List D → List Cell → Option D := fun xs _ => if xs.length ≤ sizeLine then some (.tup xs) else none
theorem fApp_out {g : List D → List Cell → Option D} {S : Sg} {d : D} {μ' : List Cell} (e : fApp g fs S = some (d, μ')) : ∃ xs, fs S = some (xs, μ') ∧ g xs μ' = some d := by
  unfold fApp at e
  split at e
  · rename_i xs μ1 ea
    split at e
    · rename_i z ez
      injection e with e
      injection e with e1 e2
      subst e1 e2
      exact ⟨xs, ea, ez⟩
    · cases e
  · cases e
theorem Rep.newL {K : PySem.W.Frag} {p : Addr} {vs : List V} {ds : List D} {μ : List Cell} (s : StoR K as H μ) (hp : H p = none) (r : Reps K as H vs ds) : Rep K as (upd H p (.lst vs)) (.ref p) (.lst ds) :=
  .lst upd_same (s.out hp) (r.mv (Ext.new hp (s.out hp)))
theorem Rep.newT {K : PySem.W.Frag} {p : Addr} {vs : List V} {ds : List D} {μ : List Cell} (s : StoR K as H μ) (hp : H p = none) (r : Reps K as H vs ds) : Rep K as (upd H p (.tup vs)) (.ref p) (.tup ds) :=
  .tup (.inl ⟨.inl upd_same, s.out hp⟩) (r.mv (Ext.new hp (s.out hp)))
theorem de_lst (ha : PA X es (tFA X.K fs)) : PE X (.List es pos) (tF X.K (fApp gLst fs)) := by
  refine (pe_lst ha).imp fun σ H Q ⟨as, S, d, μ', E, e, q⟩ => ?_
  obtain ⟨xs, ea, ez⟩ := fApp_out e
  unfold gLst at ez
  split at ez
  · rename_i hl
    injection ez with ez
    subst ez
    refine ⟨as, S, xs, μ', E, ea, fun vs as1 H1 X1 r1 s1 => ⟨by rw [r1.length]; exact hl, fun p hp => ?_⟩⟩
    exact q _ as1 _ (X1.trans (Ext.new hp (s1.out hp)) E.sto.trk) (.newL s1 hp r1) (s1.new hp)
  · cases ez
theorem de_tup {x1} (ha : PA X es (tFA X.K fs)) : PE X (.Tuple es x1 pos) (tF X.K (fApp gTup fs)) := by
  refine (pe_tup ha).imp fun σ H Q ⟨as, S, d, μ', E, e, q⟩ => ?_
  obtain ⟨xs, ea, ez⟩ := fApp_out e
  unfold gTup at ez
  split at ez
  · rename_i hl
    injection ez with ez
    subst ez
    refine ⟨as, S, xs, μ', E, ea, fun vs as1 H1 X1 r1 s1 => ⟨by rw [r1.length]; exact hl, fun p hp => ?_⟩⟩
    exact q _ as1 _ (X1.trans (Ext.new hp (s1.out hp)) E.sto.trk) (.newT s1 hp r1) (s1.new hp)
  · cases ez
def rCD (K : PySem.W.Frag) (g : List D → List Cell → Option D) : List V → Hp → VK → Prop := fun xs H Q => ∃ as ds μ z, Reps K as H xs ds ∧ StoR K as H μ ∧ g ds μ = some z ∧
  ∀ v H', Ext as H as H' → Rep K as H' v z → StoR K as H' μ → Q v H'
theorem tF_app {K : PySem.W.Frag} {g : List D → List Cell → Option D} : ∀ σ H Q, tF K (fApp g fs) σ H Q → tCB (rCD K g) (tFA K fs) σ H Q := fun σ H Q ⟨as, S, d, μ', E, e, q⟩ => by
  obtain ⟨xs, ea, ez⟩ := fApp_out e
  exact ⟨as, S, xs, μ', E, ea, fun vs as1 H1 X1 r1 s1 => ⟨as1, xs, μ', d, r1, s1, ez, fun w H3 X3 r3 s3 => q w as1 H3 (X1.trans X3 E.sto.trk) r3 s3⟩⟩
theorem de_callB {x : Str} {p : Pos} {id : String} {g : List D → List Cell → Option D} (hc : CallR X (.builtin id) (rCD X.K g)) (hg : Gl X x) (hm : X.mg x = none) (hv : bootBuiltins x = some (.builtin id)) (ha : PA X (a :: es) (tFA X.K fs)) (hn : x ≠ "__name__" := by decide)
    (hdb : (x == ("__debug__" : Str)) = false := by decide) (he : starEach (a :: es) X.env = (false, eval a X.env) :: starEach es X.env := by rfl) (hpl : (backTo pos (starEach es X.env)).any (·.1) = false := by rfl) :
    PE X (.Call (.Name x p) (a :: es) [] pos) (tF X.K (fApp g fs)) := (pe_callB hc hg hm hv ha hn hdb he hpl).imp tF_app
theorem de_callTy {x : Str} {p : Pos} {T : String} {g : List D → List Cell → Option D} (hc : CallR X (.type T) (rCD X.K g)) (hg : Gl X x) (hm : X.mg x = none) (hv : bootBuiltins x = some (.type T)) (ha : PA X (a :: es) (tFA X.K fs)) (hn : x ≠ "__name__" := by decide)
    (hdb : (x == ("__debug__" : Str)) = false := by decide) (he : starEach (a :: es) X.env = (false, eval a X.env) :: starEach es X.env := by rfl) (hpl : (backTo pos (starEach es X.env)).any (·.1) = false := by rfl) :
    PE X (.Call (.Name x p) (a :: es) [] pos) (tF X.K (fApp g fs)) := (pe_callTy hc hg hm hv ha hn hdb he hpl).imp tF_app
end
end DL
namespace DL
open PySem L2
section
variable {X : Cx}
/-! ### what operators do to data -/
/-- the items of a list that may be joined, changed: a tree's or a cell's -/
def asL : D → List Cell → Option (List D)
  | .lst xs, _ => some xs
  | .h k, μ => match μ[k]? with
    | some (.lst xs) => some xs
    | none => none
  | _, _ => none
theorem asL_ok {K : PySem.W.Frag} {as : Ar} {H : Hp} {v : V} {d : D} {μ : List Cell} {xs : List D} (r : Rep K as H v d) (s : StoR K as H μ) (e : asL d μ = some xs) : ∃ a vs, v = .ref a ∧ H a = some (.lst vs) ∧ Reps K as H vs xs := by
  cases r with
  | @lst a vs ds t n rs =>
    have e' : ds = xs := Option.some.inj e
    subst e'
    exact ⟨a, vs, rfl, t, rs⟩
  | @h k a ea =>
    simp only [asL] at e
    split at e
    · rename_i ys em
      have e' : ys = xs := Option.some.inj e
      subst e'
      obtain ⟨vs, hv, rs⟩ := s.at_ k a _ ea em
      exact ⟨a, vs, rfl, hv, rs⟩
    · cases e
  | _ => exact nomatch (show none = some xs from e)
/-- the items of anything like a list -/
def asSL : D → List Cell → Option (List D)
  | .rl xs, _ => some xs
  | d, μ => asL d μ
theorem asSL_ok {K : PySem.W.Frag} {as : Ar} {H : Hp} {v : V} {d : D} {μ : List Cell} {xs : List D} (r : Rep K as H v d) (s : StoR K as H μ) (e : asSL d μ = some xs) : ∃ a vs, v = .ref a ∧ SqL K H a vs ∧ Reps K as H vs xs := by
  cases r with
  | @rl a vs ds t rs =>
    have e' : ds = xs := Option.some.inj e
    subst e'
    exact ⟨a, vs, rfl, t.sq, rs⟩
  | @lst a vs ds t n rs =>
    obtain ⟨b, ws, q1, q2, q3⟩ := asL_ok (Rep.lst t n rs) s e
    exact ⟨b, ws, q1, SqL.of q2, q3⟩
  | @h k a ea =>
    obtain ⟨b, ws, q1, q2, q3⟩ := asL_ok (Rep.h (H := H) (K := K) ea) s e
    exact ⟨b, ws, q1, SqL.of q2, q3⟩
  | _ => exact nomatch (show none = some xs from e)

def dAdd : D → D → List Cell → Option D
  | .int i, .int j, _ => some (.int (i + j))
  | .str x, .str y, _ => if x.length + y.length ≤ sizeLine then some (.str (x ++ y)) else none
  | .tup xs, .tup ys, _ => if xs ≠ [] ∧ xs.length + ys.length ≤ sizeLine then some (.tup (xs ++ ys)) else none
  | x, y, μ => match asL x μ, asL y μ with
    | some xs, some ys => if xs.length + ys.length ≤ sizeLine then some (.lst (xs ++ ys)) else none
    | _, _ => none
theorem Reps.nil_iff {K : PySem.W.Frag} {as : Ar} {H : Hp} {vs : List V} {ds : List D} (r : Reps K as H vs ds) : vs = [] ↔ ds = [] := by
  cases r with
  | nil => simp
  | cons _ _ => simp
theorem add_lists {pins : List (Addr × Obj)} {s : Shared} {σ : St} {H : Hp} {x y : V} {v u : Value} {Q : VK} {as : Ar} {d e : D} {μ : List Cell} {z : D} (I : Inv X pins σ H s) (rx : RelV x v) (ry : RelV y u)
    (rd : Rep X.K as H x d) (re : Rep X.K as H y e) (sto : StoR X.K as H μ) (ez : (match asL d μ, asL e μ with
      | some xs, some ys => if xs.length + ys.length ≤ sizeLine then some (D.lst (xs ++ ys)) else none
      | _, _ => none) = some z) (q : ∀ v H', Ext as H as H' → Rep X.K as H' v z → StoR X.K as H' μ → Q v H') : wpAny (model X.prog X.w) X.A (binaryOp .Add v u) (EP X pins σ Q) X.xe s := by
  split at ez
  · rename_i xs ys e1 e2
    split at ez
    · rename_i hz
      have ez' : D.lst (xs ++ ys) = z := Option.some.inj ez
      subst ez'
      obtain ⟨a, vs, rfl, ha, r1⟩ := asL_ok rd sto e1
      obtain ⟨b, ws, rfl, hb, r2⟩ := asL_ok re sto e2
      exact op_cat pins s σ H _ _ v u Q I rx ry ⟨a, b, vs, ws, rfl, rfl, ha, hb, by rw [r1.length, r2.length]; exact hz, fun p hp => q _ _ (Ext.new hp (sto.out hp)) (.newL sto hp (r1.append r2)) (sto.new hp)⟩
    · cases ez
  · cases ez
theorem op_addD : OpR X (binaryOp .Add) (rD X.K dAdd) := by
  intro pins s σ H x y v u Q I rx ry h
  obtain ⟨as, d, e, μ, z, rd, re, sto, ez, q⟩ := h
  unfold dAdd at ez
  split at ez
  · cases rd; cases re
    have ez' := Option.some.inj ez
    subst ez'
    exact op_add pins s σ H _ _ v u Q I rx ry ⟨_, _, rfl, rfl, q _ H .refl (.int _) sto⟩
  · cases rd; cases re
    split at ez
    · rename_i hz
      have ez' := Option.some.inj ez
      subst ez'
      exact op_add_str pins s σ H _ _ v u Q I rx ry ⟨_, _, rfl, rfl, hz, q _ H .refl (.str _) sto⟩
    · cases ez
  · cases rd with
    | @tup a vs ds t1 r1 =>
    cases re with
    | @tup b ws es t2 r2 =>
    split at ez
    · rename_i hz
      have ez' := Option.some.inj ez
      subst ez'
      refine op_catT pins s σ H _ _ v u Q I rx ry ⟨a, b, vs, ws, rfl, rfl, t1.sq, t2.sq, fun c => hz.1 (r1.nil_iff.mp c), by rw [r1.length, r2.length]; exact hz.2, fun c => ?_, fun c p hp => ?_⟩
      · have c' := r2.nil_iff.mp c
        subst c'
        rw [List.append_nil] at q
        exact q _ H .refl (.tup t1 r1) sto
      · exact q _ _ (Ext.new hp (sto.out hp)) (.newT sto hp (r1.append r2)) (sto.new hp)
    · cases ez
  · exact add_lists I rx ry rd re sto ez q

/-- operators of ints alone -/
def dII (g : Int → Int → Option D) : D → D → List Cell → Option D
  | .int i, .int j, _ => g i j
  | _, _, _ => none
theorem opD_ii {f : Value → Value → Sem Value} {g : Int → Int → Option D} (h : ∀ (pins : List (Addr × Obj)) (s : Shared) (σ : St) (H : Hp) (i j : Int) (v u : Value) (Q : VK) (z : D), Inv X pins σ H s → RelV (.int i) v → RelV (.int j) u → g i j = some z →
    (∀ w, (∀ as, Rep X.K as H w z) → Q w H) → wpAny (model X.prog X.w) X.A (f v u) (EP X pins σ Q) X.xe s) : OpR X f (rD X.K (dII g)) := by
  intro pins s σ H x y v u Q I rx ry ⟨as, d, e, μ, z, rd, re, sto, ez, q⟩
  unfold dII at ez
  split at ez
  · cases rd; cases re
    exact h pins s σ H _ _ v u Q z I rx ry ez fun w r => q w H .refl (r as) sto
  · cases ez
def gSub (i j : Int) : Option D := some (.int (i - j))
def gMod (i j : Int) : Option D := if j ≠ 0 then some (.int (i.fmod j)) else none
def gFdiv (i j : Int) : Option D := if j ≠ 0 ∧ j.natAbs < 1073741824 then some (.int (i.fdiv j)) else none
def gPow (i j : Int) : Option D := if 0 ≤ j ∧ (Builtin.Int.intBits i : Int) * j ≤ 2 ^ 27 then some (.int (i ^ j.toNat)) else none
theorem op_subD : OpR X (binaryOp .Sub) (rD X.K (dII gSub)) := opD_ii fun pins s σ H i j v u Q z I rx ry e q =>
  op_sub pins s σ H _ _ v u Q I rx ry ⟨i, j, rfl, rfl, q _ fun _ => by cases Option.some.inj e; exact .int _⟩
theorem op_modD : OpR X (binaryOp .Mod) (rD X.K (dII gMod)) := opD_ii fun pins s σ H i j v u Q z I rx ry e q => by
  unfold gMod at e
  split at e
  · rename_i hj
    exact op_modN pins s σ H _ _ v u Q I rx ry ⟨i, j, rfl, rfl, hj, q _ fun _ => by cases Option.some.inj e; exact .int _⟩
  · cases e
theorem op_fdivD : OpR X (binaryOp .FloorDiv) (rD X.K (dII gFdiv)) := opD_ii fun pins s σ H i j v u Q z I rx ry e q => by
  unfold gFdiv at e
  split at e
  · rename_i hj
    exact op_fdivN pins s σ H _ _ v u Q I rx ry ⟨i, j, rfl, rfl, hj, q _ fun _ => by cases Option.some.inj e; exact .int _⟩
  · cases e
theorem op_powD : OpR X (binaryOp .Pow) (rD X.K (dII gPow)) := opD_ii fun pins s σ H i j v u Q z I rx ry e q => by
  unfold gPow at e
  split at e
  · rename_i hj
    obtain ⟨t, ev⟩ := (show ∃ t, v = Value.int i t from rx)
    obtain ⟨t', eu⟩ := (show ∃ t, u = Value.int j t from ry)
    subst ev eu
    exact PyProof.Rows.pow_int hj.1 hj.2 ⟨.int _, H, I.tok _, ⟨_, rfl⟩, q _ fun _ => by cases Option.some.inj e; exact .int _⟩
  · cases e
/-- a product of ints, a list so many times -/
def dMul : D → D → List Cell → Option D
  | .int i, .int j, _ => if (-(2 ^ 64) < i ∧ i < 2 ^ 64) ∨ (-(2 ^ 64) < j ∧ j < 2 ^ 64) then some (.int (i * j)) else none
  | x, .int k, μ => match asL x μ with
    | some xs => if -(2 ^ 63) ≤ k ∧ k < 2 ^ 63 ∧ xs.length * k.toNat ≤ sizeLine then some (.lst (List.replicate k.toNat xs).flatten) else none
    | none => none
  | _, _, _ => none
theorem Reps.reps {K : PySem.W.Frag} {as : Ar} {H : Hp} {vs : List V} {ds : List D} (r : Reps K as H vs ds) : ∀ n : Nat, Reps K as H (List.replicate n vs).flatten (List.replicate n ds).flatten
  | 0 => .nil
  | n + 1 => by
    rw [List.replicate_succ, List.replicate_succ, List.flatten_cons, List.flatten_cons]
    exact r.append (r.reps n)
theorem op_mulD : OpR X (binaryOp .Mult) (rD X.K dMul) := by
  intro pins s σ H x y v u Q I rx ry ⟨as, d, e, μ, z, rd, re, sto, ez, q⟩
  unfold dMul at ez
  split at ez
  · cases rd; cases re
    split at ez
    · rename_i hz
      have ez' := Option.some.inj ez
      subst ez'
      exact op_mul pins s σ H _ _ v u Q I rx ry ⟨_, _, rfl, rfl, hz, q _ H .refl (.int _) sto⟩
    · cases ez
  · cases re
    split at ez
    · rename_i xs ex
      split at ez
      · rename_i hz
        have ez' := Option.some.inj ez
        subst ez'
        obtain ⟨a, vs, rfl, ha, r1⟩ := asL_ok rd sto ex
        exact op_rep pins s σ H _ _ v u Q I rx ry ⟨a, _, vs, rfl, rfl, ha, hz.1, hz.2.1, by rw [r1.length]; exact hz.2.2, fun p hp => q _ _ (Ext.new hp (sto.out hp)) (.newL sto hp (r1.reps _)) (sto.new hp)⟩
      · cases ez
    · cases ez
  · cases ez
def dNeg : D → List Cell → Option D
  | .int i, _ => some (.int (-i))
  | _, _ => none
theorem un_negD : UnR X (unaryOp .USub) (rU1 X.K dNeg) := by
  intro pins s σ H x v Q I rx ⟨as, d, μ, z, rd, sto, ez, q⟩
  unfold dNeg at ez
  split at ez
  · cases rd
    have ez' := Option.some.inj ez
    subst ez'
    exact un_neg pins s σ H _ v Q I rx ⟨_, rfl, q _ H .refl (.int _) sto⟩
  · cases ez

/-! ### comparisons -/
/-- of ints, of texts -/
def dOrd (gi : Int → Int → Bool) (gs : Str → Str → Bool) : D → D → List Cell → Option D
  | .int i, .int j, _ => some (.bl (gi i j))
  | .str x, .str y, _ => some (.bl (gs x y))
  | _, _, _ => none
theorem dOrd_bl {gi : Int → Int → Bool} {gs : Str → Str → Bool} : ∀ x y μ z, dOrd gi gs x y μ = some z → ∃ k, z = .bl k := fun x y μ z e => by
  unfold dOrd at e
  split at e
  · exact ⟨_, (Option.some.inj e).symm⟩
  · exact ⟨_, (Option.some.inj e).symm⟩
  · cases e
theorem op_ordD {op : CmpOp} {gi : Int → Int → Bool} {gs : Str → Str → Bool} (h1 : OpR X (compareOp op) (rI0 fun i j => .bl (gi i j))) (h2 : OpR X (compareOp op) (fun x y H Q => ∃ i j, x = .str i ∧ y = .str j ∧ Q (.bl (gs i j)) H)) :
    OpR X (compareOp op) (rD X.K (dOrd gi gs)) := by
  intro pins s σ H x y v u Q I rx ry ⟨as, d, e, μ, z, rd, re, sto, ez, q⟩
  unfold dOrd at ez
  split at ez
  · cases rd; cases re
    have ez' := Option.some.inj ez
    subst ez'
    exact h1 pins s σ H _ _ v u Q I rx ry ⟨_, _, rfl, rfl, q _ H .refl (.bl _) sto⟩
  · cases rd; cases re
    have ez' := Option.some.inj ez
    subst ez'
    exact h2 pins s σ H _ _ v u Q I rx ry ⟨_, _, rfl, rfl, q _ H .refl (.bl _) sto⟩
  · cases ez
def sLt (x y : Str) : Bool := decide (x.cps.toList < y.cps.toList)
abbrev dLt := dOrd (fun i j => decide (i < j)) sLt
abbrev dLe := dOrd (fun i j => decide (i ≤ j)) fun x y => !sLt y x
abbrev dGt := dOrd (fun i j => decide (j < i)) fun x y => sLt y x
abbrev dGe := dOrd (fun i j => decide (j ≤ i)) fun x y => !sLt x y
theorem op_ltD : OpR X (compareOp .Lt) (rD X.K dLt) := op_ordD op_lt op_lt_str
theorem op_leD : OpR X (compareOp .LtE) (rD X.K dLe) := op_ordD op_le op_le_str
theorem op_gtD : OpR X (compareOp .Gt) (rD X.K dGt) := op_ordD op_gt op_gt_str
theorem op_geD : OpR X (compareOp .GtE) (rD X.K dGe) := op_ordD op_ge op_ge_str
/-- is: None, types -/
def isB : D → D → List Cell → Option Bool
  | .non, .non, _ => some true
  | .h _, .non, _ => some false
  | _, .non, _ => some false
  | .ty a, .ty b, _ => some (decide (a = b))
  | _, _, _ => none
def dIs : D → D → List Cell → Option D := fun x y μ => (isB x y μ).map .bl
def dIsNot : D → D → List Cell → Option D := fun x y μ => (isB x y μ).map fun k => .bl (!k)
theorem map_bl {o : Option Bool} {f : Bool → Bool} {z : D} (e : o.map (fun k => D.bl (f k)) = some z) : ∃ k, z = .bl k := by
  obtain ⟨k, _, rfl⟩ := Option.map_eq_some_iff.mp e
  exact ⟨_, rfl⟩
theorem dIs_bl : ∀ x y μ z, dIs x y μ = some z → ∃ k, z = .bl k := fun _ _ _ _ e => map_bl (f := fun k => k) e
theorem dIsNot_bl : ∀ x y μ z, dIsNot x y μ = some z → ∃ k, z = .bl k := fun _ _ _ _ e => map_bl e
theorem isB_ok {K : PySem.W.Frag} {as : Ar} {H : Hp} {x y : V} {d e : D} {μ : List Cell} {k : Bool} (rd : Rep K as H x d) (re : Rep K as H y e) (ez : isB d e μ = some k) :
    (y = .non ∧ k = decide (x = .non)) ∨ ∃ a b, x = .ty a ∧ y = .ty b ∧ k = decide (a = b) := by
  cases re with
  | non =>
    refine .inl ⟨rfl, ?_⟩
    cases rd <;> first | (simp [isB] at ez; simp [← ez]; done) | (unfold isB at ez; simp at ez; simp [ez])
  | ty n =>
    cases rd with
    | ty m => exact .inr ⟨m, n, rfl, rfl, (Option.some.inj ez).symm⟩
    | _ => exact nomatch (show none = some k from ez)
  | _ =>
    cases rd <;> exact nomatch (show none = some k from ez)
theorem op_isD : OpR X (compareOp .Is) (rD X.K dIs) := by
  intro pins s σ H x y v u Q I rx ry ⟨as, d, e, μ, z, rd, re, sto, ez, q⟩
  obtain ⟨k, ek, rfl⟩ := Option.map_eq_some_iff.mp ez
  rcases isB_ok rd re ek with ⟨rfl, rfl⟩ | ⟨a, b, rfl, rfl, rfl⟩
  · exact op_isN pins s σ H _ _ v u Q I rx ry ⟨rfl, q _ H .refl (.bl _) sto⟩
  · exact op_isTyB pins s σ H _ _ v u Q I rx ry ⟨a, b, rfl, rfl, q _ H .refl (.bl _) sto⟩
theorem op_isNotD : OpR X (compareOp .IsNot) (rD X.K dIsNot) := by
  intro pins s σ H x y v u Q I rx ry ⟨as, d, e, μ, z, rd, re, sto, ez, q⟩
  obtain ⟨k, ek, rfl⟩ := Option.map_eq_some_iff.mp ez
  rcases isB_ok rd re ek with ⟨rfl, rfl⟩ | ⟨a, b, rfl, rfl, rfl⟩
  · exact op_notN pins s σ H _ _ v u Q I rx ry ⟨rfl, q _ H .refl (.bl _) sto⟩
  · exact op_notTyB pins s σ H _ _ v u Q I rx ry (show ∃ m n, V.ty a = .ty m ∧ V.ty b = .ty n ∧ Q (.bl (!decide (m = n))) H from ⟨a, b, rfl, rfl, q _ H .refl (.bl _) sto⟩)

/-! ### == of data without dicts -/
mutual
def toP : D → List Cell → Option PyData
  | .non, _ => some .none
  | .bl b, _ => some (.bool b)
  | .int i, _ => some (.int i)
  | .str s, _ => some (.str s)
  | .lst xs, μ | .rl xs, μ => (toPs xs μ).map .list
  | .tup xs, μ => (toPs xs μ).map .tuple
  | .h _, _ | .ty _, _ | .dct _, _ | .exc _, _ | .exf _ _ _, _ => none
def toPs : List D → List Cell → Option (List PyData)
  | [], _ => some []
  | d :: ds, μ => match toP d μ, toPs ds μ with
    | some p, some ps => some (p :: ps)
    | _, _ => none
end
mutual
theorem toP_ok {K : PySem.W.Frag} {as : Ar} {H : Hp} {μ : List Cell} : ∀ {v : V} {d : D} {p : PyData}, Rep K as H v d → toP d μ = some p → Dp K H v p
  | _, _, _, .non, e => by simp only [toP] at e; cases e; exact .non
  | _, _, _, .bl b, e => by simp only [toP] at e; cases e; exact .bl b
  | _, _, _, .int i, e => by simp only [toP] at e; cases e; exact .int i
  | _, _, _, .str s, e => by simp only [toP] at e; cases e; exact .str s
  | _, _, _, .ty n, e => by simp only [toP] at e; cases e
  | _, _, _, .h _, e => by simp only [toP] at e; cases e
  | _, _, _, .dct _ _ _ _, e => by simp only [toP] at e; cases e
  | _, _, _, .exc _ _ _, e => by simp only [toP] at e; cases e
  | _, _, _, .exf _ _ _ _ _ _, e => by simp only [toP] at e; cases e
  | _, _, _, .lst t n r, e => by
    simp only [toP] at e
    obtain ⟨ps, e1, rfl⟩ := Option.map_eq_some_iff.mp e
    exact .lst (SqL.of t) (toPs_ok r e1)
  | _, _, _, .rl t r, e => by
    simp only [toP] at e
    obtain ⟨ps, e1, rfl⟩ := Option.map_eq_some_iff.mp e
    exact .lst t.sq (toPs_ok r e1)
  | _, _, _, .tup t r, e => by
    simp only [toP] at e
    obtain ⟨ps, e1, rfl⟩ := Option.map_eq_some_iff.mp e
    exact .tup t.sq (toPs_ok r e1)
theorem toPs_ok {K : PySem.W.Frag} {as : Ar} {H : Hp} {μ : List Cell} : ∀ {vs : List V} {ds : List D} {ps : List PyData}, Reps K as H vs ds → toPs ds μ = some ps → DpAll K H vs ps
  | _, _, _, .nil, e => by simp only [toPs] at e; cases e; exact .nil
  | _, _, _, .cons h t, e => by
    simp only [toPs] at e
    split at e
    · rename_i p ps e1 e2
      cases e
      exact .cons (toP_ok h e1) (toPs_ok t e2)
    · cases e
end
/-- .. a cell's list, too -/
def toQ : D → List Cell → Option PyData
  | .h k, μ => match μ[k]? with
    | some (.lst xs) => (toPs xs μ).map .list
    | none => none
  | x, μ => toP x μ
theorem toQ_ok {K : PySem.W.Frag} {as : Ar} {H : Hp} {μ : List Cell} {v : V} {d : D} {p : PyData} (r : Rep K as H v d) (s : StoR K as H μ) (e : toQ d μ = some p) : Dp K H v p := by
  unfold toQ at e
  split at e
  · split at e
    · rename_i xs ex
      obtain ⟨ps, e1, rfl⟩ := Option.map_eq_some_iff.mp e
      cases r with
      | @h _ a ea =>
        obtain ⟨vs, hv, rs⟩ := s.at_ _ a _ ea ex
        exact .lst (SqL.of hv) (toPs_ok rs e1)
    · cases e
  · exact toP_ok r e
def eqB (x y : D) (μ : List Cell) : Option Bool := match toQ x μ, toQ y μ with
  | some p, some q => if SeqAt.shaped p = true ∧ SeqAt.shaped q = true then some (PyData.eqv p q) else none
  | _, _ => none
def dEq : D → D → List Cell → Option D := fun x y μ => (eqB x y μ).map .bl
def dNe : D → D → List Cell → Option D := fun x y μ => (eqB x y μ).map fun k => .bl (!k)
theorem dEq_bl : ∀ x y μ z, dEq x y μ = some z → ∃ k, z = .bl k := fun _ _ _ _ e => map_bl (f := fun k => k) e
theorem dNe_bl : ∀ x y μ z, dNe x y μ = some z → ∃ k, z = .bl k := fun _ _ _ _ e => map_bl e
theorem op_eqDD (hu : X.A.units + 64 < cLine) : OpR X (compareOp .Eq) (rD X.K dEq) := by
  intro pins s σ H x y v u Q I rx ry ⟨as, d, e, μ, z, rd, re, sto, ez, q⟩
  obtain ⟨k, ek, rfl⟩ := Option.map_eq_some_iff.mp ez
  unfold eqB at ek
  split at ek
  · rename_i p r e1 e2
    split at ek
    · rename_i hs
      have ek' := Option.some.inj ek
      subst ek'
      exact op_eqD hu pins s σ H _ _ v u Q I rx ry ⟨p, r, toQ_ok rd sto e1, toQ_ok re sto e2, hs.1, hs.2, q _ H .refl (.bl _) sto⟩
    · cases ek
  · cases ek
theorem op_neDD (hu : X.A.units + 64 < cLine) : OpR X (compareOp .NotEq) (rD X.K dNe) := by
  intro pins s σ H x y v u Q I rx ry ⟨as, d, e, μ, z, rd, re, sto, ez, q⟩
  obtain ⟨k, ek, rfl⟩ := Option.map_eq_some_iff.mp ez
  unfold eqB at ek
  split at ek
  · rename_i p r e1 e2
    split at ek
    · rename_i hs
      have ek' := Option.some.inj ek
      subst ek'
      exact op_neD hu pins s σ H _ _ v u Q I rx ry ⟨p, r, toQ_ok rd sto e1, toQ_ok re sto e2, hs.1, hs.2, q _ H .refl (.bl _) sto⟩
    · cases ek
  · cases ek

/-! ### xs[i] -/
def dIx : D → D → List Cell → Option D
  | .str z, .int i, _ => if z.length ≤ sizeLine then (atI z.cps.toList i).map fun c => .str ⟨#[c]⟩ else none
  | .tup xs, .int i, _ => atI xs i
  | x, .int i, μ => match asSL x μ with
    | some xs => atI xs i
    | none => none
  | _, _, _ => none
theorem Reps.atI {K : PySem.W.Frag} {as : Ar} {H : Hp} {vs : List V} {ds : List D} {i : Int} {d : D} (r : Reps K as H vs ds) (e : atI ds i = some d) : ∃ v, L2.atI vs i = some v ∧ Rep K as H v d := by
  unfold L2.atI at e ⊢
  rw [r.length]
  obtain ⟨j, e1, e2⟩ := Option.bind_eq_some_iff.mp e
  obtain ⟨v, q1, q2⟩ := r.get e2
  exact ⟨v, by rw [e1]; exact q1, q2⟩
theorem ix_D : IxR X (rD X.K dIx) := by
  intro value slice pins s σ H x y v u Q I rx ry ⟨as, d, e, μ, z, rd, re, sto, ez, q⟩ hs
  unfold dIx at ez
  split at ez
  · cases rd; cases re
    split at ez
    · rename_i hz
      obtain ⟨c, ec, rfl⟩ := Option.map_eq_some_iff.mp ez
      exact ix_str value slice pins s σ H _ _ v u Q I rx ry ⟨_, _, c, rfl, rfl, hz, ec, q _ H .refl (.str _) sto⟩ hs
    · cases ez
  · cases re
    cases rd with
    | @tup a vs ds t r =>
      obtain ⟨w, e1, r1⟩ := r.atI ez
      exact ix_tup value slice pins s σ H _ _ v u Q I rx ry ⟨a, vs, _, w, rfl, rfl, t.sq, e1, q _ H .refl r1 sto⟩ hs
  · cases re
    split at ez
    · rename_i xs ex
      obtain ⟨a, vs, rfl, hq, r⟩ := asSL_ok rd sto ex
      obtain ⟨w, e1, r1⟩ := r.atI ez
      exact ix_list value slice pins s σ H _ _ v u Q I rx ry ⟨a, vs, _, w, rfl, rfl, hq, e1, q _ H .refl r1 sto⟩ hs
    · cases ez
  · cases ez

/-! ### built-in functions -/
def g1 (g : D → List Cell → Option D) : List D → List Cell → Option D
  | [x], μ => g x μ
  | _, _ => none
def g2 (g : D → D → List Cell → Option D) : List D → List Cell → Option D
  | [x, y], μ => g x y μ
  | _, _ => none
theorem call1 {f : Value} {g : D → List Cell → Option D} (h : ∀ (pins : List (Addr × Obj)) (s : Shared) (σ : St) (H : Hp) (x : V) (us : List Value) (Q : VK) (as : Ar) (d : D) (μ : List Cell) (z : D), Inv X pins σ H s → Vals [x] us → Rep X.K as H x d → StoR X.K as H μ → g d μ = some z →
    (∀ v H', Ext as H as H' → Rep X.K as H' v z → StoR X.K as H' μ → Q v H') → wpAny (model X.prog X.w) X.A (call f us) (EP X pins σ Q) X.xe s) : CallR X f (rCD X.K (g1 g)) := by
  intro pins s σ H xs us Q I r ⟨as, ds, μ, z, rd, sto, ez, q⟩
  unfold g1 at ez
  split at ez
  · cases rd with
    | cons r1 rt =>
    cases rt
    exact h pins s σ H _ us Q as _ μ z I r r1 sto ez q
  · cases ez
theorem call2 {f : Value} {g : D → D → List Cell → Option D} (h : ∀ (pins : List (Addr × Obj)) (s : Shared) (σ : St) (H : Hp) (x y : V) (us : List Value) (Q : VK) (as : Ar) (d e : D) (μ : List Cell) (z : D), Inv X pins σ H s → Vals [x, y] us → Rep X.K as H x d → Rep X.K as H y e → StoR X.K as H μ → g d e μ = some z →
    (∀ v H', Ext as H as H' → Rep X.K as H' v z → StoR X.K as H' μ → Q v H') → wpAny (model X.prog X.w) X.A (call f us) (EP X pins σ Q) X.xe s) : CallR X f (rCD X.K (g2 g)) := by
  intro pins s σ H xs us Q I r ⟨as, ds, μ, z, rd, sto, ez, q⟩
  unfold g2 at ez
  split at ez
  · cases rd with
    | cons r1 rt =>
    cases rt with
    | cons r2 rt =>
    cases rt
    exact h pins s σ H _ _ us Q as _ _ μ z I r r1 r2 sto ez q
  · cases ez
def dAbs : D → List Cell → Option D
  | .int i, _ => some (.int (if i < 0 then -i else i))
  | _, _ => none
theorem call_absD : CallR X (.builtin "abs") (rCD X.K (g1 dAbs)) := call1 fun pins s σ H x us Q as d μ z I r rd sto ez q => by
  unfold dAbs at ez
  split at ez
  · cases rd
    cases Option.some.inj ez
    exact call_abs pins s σ H _ us Q I r ⟨_, rfl, q _ H .refl (.int _) sto⟩
  · cases ez
def dInt1 : D → List Cell → Option D
  | .int i, _ => some (.int i)
  | .bl k, _ => some (.int (if k then 1 else 0))
  | _, _ => none
theorem call_intD : CallR X (.type "int") (rCD X.K (g1 dInt1)) := call1 fun pins s σ H x us Q as d μ z I r rd sto ez q => by
  unfold dInt1 at ez
  split at ez
  · cases rd
    cases Option.some.inj ez
    exact call_int1 pins s σ H _ us Q I r (.inl ⟨_, rfl, q _ H .refl (.int _) sto⟩)
  · cases rd
    cases Option.some.inj ez
    exact call_int1 pins s σ H _ us Q I r (.inr ⟨_, rfl, q _ H .refl (.int _) sto⟩)
  · cases ez
def dMax2 : D → D → List Cell → Option D := dII fun i j => some (.int (if j > i then j else i))
def dMin2 : D → D → List Cell → Option D := dII fun i j => some (.int (if j < i then j else i))
theorem call_max2D (hc : X.calm = true) : CallR X (.builtin "max") (rCD X.K (g2 dMax2)) := call2 fun pins s σ H x y us Q as d e μ z I r rd re sto ez q => by
  unfold dMax2 dII at ez
  split at ez
  · cases rd; cases re
    cases Option.some.inj ez
    exact call_max2 hc pins s σ H _ us Q I r ⟨_, _, rfl, q _ H .refl (.int _) sto⟩
  · cases ez
theorem call_min2D (hc : X.calm = true) : CallR X (.builtin "min") (rCD X.K (g2 dMin2)) := call2 fun pins s σ H x y us Q as d e μ z I r rd re sto ez q => by
  unfold dMin2 dII at ez
  split at ez
  · cases rd; cases re
    cases Option.some.inj ez
    exact call_min2 hc pins s σ H _ us Q I r ⟨_, _, rfl, q _ H .refl (.int _) sto⟩
  · cases ez
def dStr1 : D → List Cell → Option D
  | .int i, _ => if i.natAbs.log2 < 1920 then some (.str (toString i)) else none
  | _, _ => none
theorem call_strD : CallR X (.type "str") (rCD X.K (g1 dStr1)) := call1 fun pins s σ H x us Q as d μ z I r rd sto ez q => by
  unfold dStr1 at ez
  split at ez
  · cases rd
    split at ez
    · rename_i hz
      cases Option.some.inj ez
      exact call_str_int pins s σ H _ us Q I r ⟨_, rfl, hz, q _ H .refl (.str _) sto⟩
    · cases ez
  · cases ez
def dLen : D → List Cell → Option D
  | .str z, _ => if z.length ≤ sizeLine then some (.int z.length) else none
  | .tup xs, _ => some (.int xs.length)
  | x, μ => (asSL x μ).map fun xs => .int xs.length
theorem call_lenD : CallR X (.builtin "len") (rCD X.K (g1 dLen)) := call1 fun pins s σ H x us Q as d μ z I r rd sto ez q => by
  unfold dLen at ez
  split at ez
  · cases rd
    split at ez
    · rename_i hz
      cases Option.some.inj ez
      exact call_len_str pins s σ H _ us Q I r ⟨_, rfl, hz, q _ H .refl (.int _) sto⟩
    · cases ez
  · cases rd with
    | @tup a vs ds t rs =>
      cases Option.some.inj ez
      refine call_len_seq pins s σ H _ us Q I r ⟨a, vs, rfl, .inr t.sq, ?_⟩
      rw [rs.length]
      exact q _ H .refl (.int _) sto
  · obtain ⟨xs, ex, rfl⟩ := Option.map_eq_some_iff.mp ez
    obtain ⟨a, vs, rfl, hq, rs⟩ := asSL_ok rd sto ex
    refine call_len_seq pins s σ H _ us Q I r ⟨a, vs, rfl, .inl hq, ?_⟩
    rw [rs.length]
    exact q _ H .refl (.int _) sto
/-- the built-in class of data -/
def tyOf : D → List Cell → Option String
  | .non, _ => some "NoneType" | .bl _, _ => some "bool" | .int _, _ => some "int" | .str _, _ => some "str"
  | .lst _, _ | .rl _, _ => some "list" | .tup _, _ => some "tuple" | .dct _, _ => some "dict"
  | .h k, μ => match μ[k]? with
    | some (.lst _) => some "list"
    | none => none
  | .ty _, _ | .exc _, _ | .exf _ _ _, _ => none
theorem tyOf_ok {K : PySem.W.Frag} {as : Ar} {H : Hp} {v : V} {d : D} {μ : List Cell} {T : String} (r : Rep K as H v d) (s : StoR K as H μ) (e : tyOf d μ = some T) : TyB K H v T ∧ TyX K H v (.type T) := by
  cases r with
  | non => cases Option.some.inj e; exact ⟨.non, .base .non⟩
  | bl b => cases Option.some.inj e; exact ⟨.bl b, .base (.bl b)⟩
  | int i => cases Option.some.inj e; exact ⟨.int i, .base (.int i)⟩
  | str y => cases Option.some.inj e; exact ⟨.str y, .base (.str y)⟩
  | ty n => cases e
  | exc _ _ _ => cases e
  | exf _ _ _ _ _ _ => cases e
  | @lst a vs ds t n rs => cases Option.some.inj e; exact ⟨.lst (SqL.of t), .base (.lst t)⟩
  | @rl a vs ds t rs =>
    cases Option.some.inj e
    refine ⟨.lst t.sq, ?_⟩
    rcases t with ⟨t, n⟩ | t
    · rcases t with t | ⟨o, t⟩
      · exact .base (.lst t)
      · exact .base (.frz t)
    · rcases t (fun _ => none) with t | ⟨o, its, n, hk, hc, _⟩
      · rcases t with t | ⟨o, t⟩ <;> cases t
      · exact .kList hk hc
  | @tup a vs ds t rs =>
    cases Option.some.inj e
    refine ⟨.tup t.sq, ?_⟩
    rcases t with ⟨t, n⟩ | t
    · rcases t with t | ⟨o, t⟩
      · exact .base (.tup t)
      · exact .fTuple t
    · rcases t (fun _ => none) with t | ⟨o, its, n, hk, hc, _⟩
      · rcases t with t | ⟨o, t⟩ <;> cases t
      · exact .kTuple hk hc
  | @dct a kvs ds t n ek rs => cases Option.some.inj e; exact ⟨.dK t, .base (.dK t)⟩
  | @h k a ea =>
    simp only [tyOf] at e
    split at e
    · rename_i ys em
      cases Option.some.inj e
      obtain ⟨vs, hv, rs⟩ := s.at_ k a _ ea em
      exact ⟨.lst (SqL.of hv), .base (.lst hv)⟩
    · cases e
def dType : D → List Cell → Option D := fun d μ => (tyOf d μ).map .ty
theorem call_typeD : CallR X (.type "type") (rCD X.K (g1 dType)) := call1 fun pins s σ H x us Q as d μ z I r rd sto ez q => by
  obtain ⟨T, e, rfl⟩ := Option.map_eq_some_iff.mp ez
  exact call_type1 pins s σ H _ us Q I r ⟨x, T, rfl, (tyOf_ok rd sto e).1, q _ H .refl (.ty T) sto⟩
def dIsi : D → D → List Cell → Option D
  | d, .ty T, μ => match tyOf d μ with
    | some U => (kitB U T).map .bl
    | none => none
  | _, _, _ => none
theorem call_isiD : CallR X (.builtin "isinstance") (rCD X.K (g2 dIsi)) := call2 fun pins s σ H x y us Q as d e μ z I r rd re sto ez q => by
  unfold dIsi at ez
  split at ez
  · cases re
    split at ez
    · rename_i U eU
      obtain ⟨b, eb, rfl⟩ := Option.map_eq_some_iff.mp ez
      exact call_isi pins s σ H _ us Q I r ⟨x, _, _, _, b, rfl, .ty _, (tyOf_ok rd sto eU).2, kit_ty eb, q _ H .refl (.bl b) sto⟩
    · cases ez
  · cases ez
def reprB (b : Bool) : Str := if b then "True" else "False"
def dRepr0 : D → List Cell → Option D
  | .bl b, _ => some (.str (reprB b))
  | _, _ => none
theorem call_reprD0 : CallR X (.builtin "repr") (rCD X.K (g1 dRepr0)) := call1 fun pins s σ H x us Q as d μ z I r rd sto ez q => by
  unfold dRepr0 at ez
  split at ez
  · cases rd
    cases Option.some.inj ez
    obtain ⟨u, rfl, ru⟩ := Vals.one r
    cases ru
    exact PySem.P.repr_of_bool ⟨.str _, H, I.tok _, ⟨_, rfl⟩, q _ H .refl (.str _) sto⟩
  · cases ez

/-! ### methods of texts -/
variable {o a : Expr} {es : List Expr} {fa : EvE} {fs : EvA} {name : Str} {apos cpos : Pos}
/-- s.m() of a text -/
def dS0 (P : Str → Bool) (g : Str → D) : D → List Cell → Option D
  | .str z, _ => if P z then some (g z) else none
  | _, _ => none
theorem dS0_out {P : Str → Bool} {g : Str → D} {x z : D} {μ : List Cell} (e : dS0 P g x μ = some z) : ∃ y, x = .str y ∧ P y = true ∧ z = g y := by
  unfold dS0 at e
  split at e
  · split at e
    · rename_i hp
      exact ⟨_, rfl, hp, (Option.some.inj e).symm⟩
    · cases e
  · cases e
theorem fU_out {g : D → List Cell → Option D} {f : EvE} {S : Sg} {d : D} {μ' : List Cell} (e : fU g f S = some (d, μ')) : ∃ x, f S = some (x, μ') ∧ g x μ' = some d := by
  unfold fU at e
  split at e
  · rename_i x μ1 ea
    split at e
    · rename_i z ez
      have e' := Option.some.inj e
      injection e' with e1 e2
      subst e1 e2
      exact ⟨x, ea, ez⟩
    · cases e
  · cases e
theorem de_sm0 {id : String} {P : Str → Bool} {g : Str → D} (slot : Slot "str" name id) (ty : typeOf (.builtin id) = pure (.type "method_descriptor"))
    (rule : MtR X id (fun x xs H Q => ∃ z, x = .str z ∧ xs = [] ∧ P z = true ∧ ∀ v, (∀ as, Rep X.K as H v (g z)) → Q v H))
    (ho : PE X o (tF X.K fa)) (hbase : attributeBase o name X.env (eval o X.env) = eval o X.env := by rfl) (hline : (apos.endLine == cpos.line) = true := by rfl) :
    PE X (.Call (.Attribute o name apos) [] [] cpos) (tF X.K (fU (dS0 P g) fa)) := by
  refine (pe_m0 slot ty rule ho hbase hline).imp fun σ H Q ⟨as, S, d, μ', E, e, q⟩ => ?_
  obtain ⟨x, ea, ez⟩ := fU_out e
  obtain ⟨zz, rfl, hp, rfl⟩ := dS0_out ez
  exact ⟨as, S, _, μ', E, ea, fun v as1 H1 X1 r1 s1 => by
    cases r1
    exact ⟨⟨_, rfl⟩, zz, rfl, rfl, hp, fun w rw => q w as1 H1 X1 (rw as1) s1⟩⟩
end
end DL
namespace DL
open PySem L2
theorem pr_inj {α β : Type} {a c : α} {b d : β} (e : some (a, b) = some (c, d)) : a = c ∧ b = d := by
  injection e with e
  exact Prod.mk.inj e
section
variable {K : PySem.W.Frag} {as as' : Ar} {H H' : Hp} {σ : St} {S : Sg} {v : V} {d : D} {vs : List V} {ds : List D} {μ μ' : List Cell} {ρ : List (Option D)}
theorem EnvR.set {i : Nat} (h : EnvR K as H σ ρ) (r : Rep K as H v d) (hi : i < ρ.length) : EnvR K as H (σ.set i (some v)) (ρ.set i (some d)) := by
  refine ⟨by rw [List.length_set, List.length_set]; exact h.1, fun j e he => ?_⟩
  by_cases hj : i = j
  · subst hj
    rw [List.getElem?_set_self hi] at he
    cases he
    exact ⟨v, by rw [List.getElem?_set_self (by rw [h.1]; exact hi)], r⟩
  · rw [List.getElem?_set_ne hj] at he ⊢
    exact h.2 j e he
def wipeR (ρ : List (Option D)) : List Nat → List (Option D)
  | [] => ρ
  | v :: vs => (wipeR ρ vs).set v none
theorem wipeR_length : ∀ ws : List Nat, (wipeR ρ ws).length = ρ.length
  | [] => rfl
  | w :: ws => by unfold wipeR; rw [List.length_set, wipeR_length ws]
theorem EnvR.wipe (h : EnvR K as H σ ρ) : ∀ ws : List Nat, EnvR K as H (L2.wipe σ ws) (wipeR ρ ws)
  | [] => h
  | w :: ws => by
    have q := h.wipe ws
    unfold L2.wipe wipeR
    refine ⟨by rw [List.length_set, List.length_set]; exact q.1, fun j e he => ?_⟩
    by_cases hj : w = j
    · subst hj
      by_cases hw : w < (wipeR ρ ws).length
      · rw [List.getElem?_set_self hw] at he; cases he
      · rw [List.getElem?_eq_none (by rw [List.length_set]; omega)] at he; cases he
    · rw [List.getElem?_set_ne hj] at he ⊢
      exact q.2 j e he
theorem wipe_agree : ∀ {ws : List Nat} {σ τ : St}, σ.length = τ.length → (∀ j, j ∉ ws → σ[j]? = τ[j]?) → L2.wipe σ ws = L2.wipe τ ws := fun {ws σ τ} hl h => by
  refine List.ext_getElem? fun j => ?_
  have key : ∀ (ws : List Nat) (σ : St) (j : Nat), (L2.wipe σ ws)[j]? = if j ∈ ws ∧ j < σ.length then some none else σ[j]? := by
    intro ws
    induction ws with
    | nil => intro σ j; simp [L2.wipe]
    | cons w ws ih =>
      intro σ j
      unfold L2.wipe
      by_cases hj : w = j
      · subst hj
        by_cases hw : w < σ.length
        · rw [List.getElem?_set_self (by rw [wipe_length]; exact hw)]; simp [hw]
        · rw [List.getElem?_eq_none (by rw [List.length_set, wipe_length]; omega), if_neg (by omega), List.getElem?_eq_none (by omega)]
      · rw [List.getElem?_set_ne hj, ih]
        have e : (j ∈ w :: ws) ↔ j ∈ ws := by simp [Ne.symm hj]
        simp only [e]
  rw [key, key]
  by_cases hj : j ∈ ws
  · simp only [hj, true_and, hl]
    split
    · rfl
    · rw [List.getElem?_eq_none (by omega), List.getElem?_eq_none (by omega)]
  · simp only [hj, false_and, if_false]
    exact h j hj

/-! ### targets -/
abbrev Bd := D → Sg → Option Sg
abbrev Bds := List D → Sg → Option Sg
variable (K) in
def tG (b : Bd) (ix : List Nat) : TG := fun v σ H Q => ∃ as S d S', ER K as σ H S ∧ Rep K as H v d ∧ b d S = some S' ∧
  ∀ as' σ' H', Ext as H as' H' → ER K as' σ' H' S' → σ'.length = σ.length → (∀ j, j ∉ ix → σ'[j]? = σ[j]?) → Q σ' H'
variable (K) in
def tGs (b : Bds) (ix : List Nat) : TGs := fun vs σ H Q => ∃ as S ds S', ER K as σ H S ∧ Reps K as H vs ds ∧ b ds S = some S' ∧
  ∀ as' σ' H', Ext as H as' H' → ER K as' σ' H' S' → σ'.length = σ.length → (∀ j, j ∉ ix → σ'[j]? = σ[j]?) → Q σ' H'
end
theorem PG.imp {X : Cx} {e : Expr} {t t' : TG} (h : PG X e t) (q : ∀ v σ H Q, t' v σ H Q → t v σ H Q) : PG X e t' := ⟨fun pins s σ H v u Q I r z => h.run pins s σ H v u Q I r (q v σ H Q z)⟩
theorem PGs.imp {X : Cx} {e : List Expr} {t t' : TGs} (h : PGs X e t) (q : ∀ v σ H Q, t' v σ H Q → t v σ H Q) : PGs X e t' := ⟨fun pins s σ H v u Q I r z => h.run pins s σ H v u Q I r (q v σ H Q z)⟩
theorem PI.imp {X : Cx} {tg e : Expr} {t t' : TI} (h : PI X tg e t) (q : ∀ σ H R, t' σ H R → t σ H R) : PI X tg e t' := ⟨fun pins s σ H R I z => h.run pins s σ H R I (q σ H R z)⟩
theorem PI.or {X : Cx} {tg e : Expr} {t u : TI} (h1 : PI X tg e t) (h2 : PI X tg e u) : PI X tg e (fun σ H R => t σ H R ∨ u σ H R) := ⟨fun pins s σ H R I z => z.elim (h1.run pins s σ H R I) (h2.run pins s σ H R I)⟩
section
variable {X : Cx} {a e : Expr} {es : List Expr} {pos : Pos} {W : WX}
def bName (i : Nat) : Bd := fun d S => if i < S.ρ.length then some { S with ρ := S.ρ.set i (some d) } else none
theorem bName_out {i : Nat} {d : D} {S S' : Sg} (e : bName i d S = some S') : i < S.ρ.length ∧ S' = { S with ρ := S.ρ.set i (some d) } := by
  unfold bName at e
  split at e
  · rename_i h
    exact ⟨h, (Option.some.inj e).symm⟩
  · cases e
theorem gName_of {K : PySem.W.Frag} {i : Nat} : ∀ v σ H Q, tG K (bName i) [i] v σ H Q → gName i v σ H Q := fun v σ H Q ⟨as, S, d, S', E, r, e, q⟩ => by
  obtain ⟨hi, rfl⟩ := bName_out e
  refine q as _ H .refl ⟨E.env.set r hi, E.sto⟩ (List.length_set ..) fun j hj => ?_
  rw [List.getElem?_set_ne (by simpa using Ne.symm (by simpa using hj))]
theorem dg_name {i : Nat} {x : Str} (hN : X.N.Nodup) (hi : X.N[i]? = some x) (hx : Loc X.env.scope x) (hf : X.fn x = true ∨ X.env.scope.names.lookup x = some .local := by first | exact .inl rfl | exact .inr rfl | assumption) : PG X (.Name x pos) (tG X.K (bName i) [i]) :=
  PG.imp (pg_name hN hi hx hf) gName_of
def bsNil : Bds := fun ds S => match ds with
  | [] => some S
  | _ :: _ => none
def bsCons (b : Bd) (bs : Bds) : Bds := fun ds S => match ds with
  | [] => none
  | d :: r => match b d S with
    | some S1 => bs r S1
    | none => none
theorem dgs_nil : PGs X [] (tGs X.K bsNil []) := PGs.imp pgs_nil fun vs σ H Q ⟨as, S, ds, S', E, r, e, q⟩ => by
  cases r with
  | nil =>
    cases Option.some.inj e
    exact ⟨rfl, q as σ H .refl E rfl fun _ _ => rfl⟩
  | cons _ _ => cases e
theorem dgs_cons {b : Bd} {bs : Bds} {ix jx : List Nat} (h1 : PG X a (tG X.K b ix)) (h2 : PGs X es (tGs X.K bs jx)) (hs : (assignEach (a :: es) X.env).map (·.2) = assign a X.env :: (assignEach es X.env).map (·.2) := by rfl) :
    PGs X (a :: es) (tGs X.K (bsCons b bs) (ix ++ jx)) := PGs.imp (pgs_cons h1 h2 hs) fun vs σ H Q ⟨as, S, ds, S', E, r, e, q⟩ => by
  cases r with
  | nil => cases e
  | @cons v vs d ds r1 r2 =>
    unfold bsCons at e
    simp only at e
    split at e
    · rename_i S1 e1
      refine ⟨v, vs, rfl, as, S, d, S1, E, r1, e1, fun as1 σ1 H1 X1 E1 l1 g1 => ⟨as1, S1, ds, S', E1, r2.mv X1, e, fun as2 σ2 H2 X2 E2 l2 g2 => ?_⟩⟩
      exact q as2 σ2 H2 (X1.trans X2 E.sto.trk) E2 (l2.trans l1) fun j hj => (g2 j fun z => hj (List.mem_append_right _ z)).trans (g1 j fun z => hj (List.mem_append_left _ z))
    · cases e
def bTup (n : Nat) (bs : Bds) : Bd := fun d S => match d with
  | .tup xs => if xs.length = n then bs xs S else none
  | _ => none
theorem dg_tup {k : Nat} {bs : Bds} {ix : List Nat} {n : Nat} (hc : X.calm = true) (h : PGs X es (tGs X.K bs ix)) (hn : (assignEach es X.env).length = n := by rfl) (hst : (assignEach es X.env).findIdx? (·.1) = none := by rfl) :
    PG X (.Tuple es k pos) (tG X.K (bTup n bs) ix) := PG.imp (pg_tup hc h hn hst) fun v σ H Q ⟨as, S, d, S', E, r, e, q⟩ => by
  unfold bTup at e
  split at e
  · split at e
    · rename_i hl
      cases r with
      | tup t rs => exact ⟨_, _, rfl, t.sq, rs.length.trans hl, as, S, _, S', E, rs, e, q⟩
    · cases e
  · cases e
/-- a store into a cell's list -/
def cSet (o i d : D) (μ : List Cell) : Option (List Cell) := match o, i with
  | .h k, .int j => match μ[k]? with
    | some (.lst xs) => match ixN xs.length j with
      | some n => some (μ.set k (.lst (xs.set n d)))
      | none => none
    | none => none
  | _, _ => none
theorem nodup_ix {l : List Addr} {i j : Nat} {a : Addr} (h : l.Nodup) (e1 : l[i]? = some a) (e2 : l[j]? = some a) : i = j := by
  exact (List.getElem?_inj (List.getElem?_eq_some_iff.mp e1).1 h).mp (e1.trans e2.symm)
theorem StoR.upd {K : PySem.W.Frag} {as : Ar} {H : Hp} {μ : List Cell} {k : Nat} {a : Addr} {vs : List V} {ds : List D} (s : StoR K as H μ) (ea : as.c[k]? = some a) (r : Reps K as H vs ds) :
    Ext as H as (L2.upd H a (.lst vs)) ∧ StoR K as (L2.upd H a (.lst vs)) (μ.set k (.lst ds)) := by
  have ha : a ∈ as.c := List.mem_of_getElem? ea
  have X1 : Ext as H as (L2.upd H a (.lst vs)) := ⟨⟨[], by simp, by simp⟩, ⟨[], by simp, by simp⟩, fun b o hb e => by rw [upd_ne fun (z : b = a) => hb (by rw [z]; exact ha)]; exact e, fun b hb e => by
    by_cases z : b = a
    · subst z; rw [upd_same]; simp
    · rw [upd_ne z]; exact e⟩
  refine ⟨X1, ?_, fun j b c ej ec => ?_, s.nd, fun b hb => ?_⟩
  · rw [List.length_set]; exact s.len
  · by_cases hj : k = j
    · subst hj
      have hk : k < μ.length := by
        rw [← s.len]; exact (List.getElem?_eq_some_iff.mp ea).1
      rw [List.getElem?_set_self hk] at ec
      cases ec
      rw [ea] at ej
      cases ej
      exact ⟨vs, upd_same, r.mv X1⟩
    · rw [List.getElem?_set_ne hj] at ec
      refine (s.at_ j b c ej ec).mv X1 (upd_ne fun z => hj ?_)
      subst z
      exact nodup_ix s.nd ea ej
  · by_cases z : b = a
    · subst z; rw [upd_same]; simp
    · rw [upd_ne z]; exact s.bl b hb
def bSub (fo fi : EvE) : Bd := fun d S => match fo S with
  | some (o, μ1) => match fi { S with μ := μ1 } with
    | some (i, μ2) => match cSet o i d μ2 with
      | some μ3 => some { S with μ := μ3 }
      | none => none
    | none => none
  | none => none
theorem cSet_out {o i d : D} {μ μ' : List Cell} (e : cSet o i d μ = some μ') : ∃ k j xs n, o = .h k ∧ i = .int j ∧ μ[k]? = some (.lst xs) ∧ ixN xs.length j = some n ∧ μ' = μ.set k (.lst (xs.set n d)) := by
  unfold cSet at e
  split at e
  · split at e
    · rename_i xs ex
      split at e
      · rename_i n en
        exact ⟨_, _, xs, n, rfl, rfl, ex, en, (Option.some.inj e).symm⟩
      · cases e
    · cases e
  · cases e
theorem dg_sub {o i : Expr} {fo fi : EvE} (ho : PE X o (tF X.K fo)) (hi : PE X i (tF X.K fi)) (ha : ∀ v, assign (.Subscript o i pos) X.env v = (do
      let ov ← holding [v] (eval o X.env)
      let iv ← holding [v, ov] (eval i X.env)
      standAt pos
      holding [v, ov, iv] (setItem ov iv v)
      release [v, ov, iv] []) := by intro _; rfl) : PG X (.Subscript o i pos) (tG X.K (bSub fo fi) []) := PG.imp (pg_sub ho hi set_list ha) fun v σ H Q ⟨as, S, d, S', E, r, e, q⟩ => by
  unfold bSub at e
  split at e
  · rename_i x μ1 ea
    split at e
    · rename_i y μ2 eb
      split at e
      · rename_i μ3 ec
        cases Option.some.inj e
        obtain ⟨k, j, xs, n, rfl, rfl, ex, en, rfl⟩ := cSet_out ec
        refine ⟨as, S, _, μ1, E, ea, fun u as1 H1 X1 r1 s1 => ⟨as1, _, _, μ2, E.mvE X1 s1, eb, fun w as2 H2 X2 r2 s2 => ?_⟩⟩
        have r1' := r1.mv X2
        cases r2
        cases r1' with
        | @h _ p ep =>
          obtain ⟨vs, hv, rs⟩ := s2.at_ k p _ ep ex
          have X12 := X1.trans X2 E.sto.trk
          obtain ⟨X3, s3⟩ := s2.upd ep (rs.set n (r.mv X12))
          refine ⟨p, vs, j, n, rfl, rfl, hv, by rw [rs.length]; exact en, ?_⟩
          exact q as2 σ _ (X12.trans X3 E.sto.trk) (E.mvE (X12.trans X3 E.sto.trk) s3) rfl fun _ _ => rfl
      · cases e
    · cases e
  · cases e

/-! ### statements -/
def bThen (b : Bd) (f : EvE) : EvS := fun S => match f S with
  | some (d, μ1) => match b d { S with μ := μ1 } with
    | some S' => some (.nx, S')
    | none => none
  | none => none
theorem endS_mv {K : PySem.W.Frag} {mg : Str → Option Value} {as as1 : Ar} {H H1 : Hp} {E : Ends} {fl : Fl} {S' : Sg} (h : endS K mg W as H E fl S') (X1 : Ext as H as1 H1) (tr : ∀ a, a ∈ as.c → H a ≠ none) : endS K mg W as1 H1 E fl S' := by
  cases fl with
  | nx => exact fun as2 σ2 H2 X2 E2 => h as2 σ2 H2 (X1.trans X2 tr) E2
  | bk => exact fun as2 σ2 H2 X2 E2 => h as2 σ2 H2 (X1.trans X2 tr) E2
  | ct => exact fun as2 σ2 H2 X2 E2 => h as2 σ2 H2 (X1.trans X2 tr) E2
  | rt d => exact fun as2 v H2 X2 r s => h as2 v H2 (X1.trans X2 tr) r s
  | ex n p => exact fun as2 σ2 H2 C dx X2 E2 e x => h as2 σ2 H2 C dx (X1.trans X2 tr) E2 e x
variable {f : EvE} {b : Bd} {ix : List Nat}
theorem bThen_of {K : PySem.W.Frag} {mg : Str → Option Value} {g : TG} (hg : ∀ v σ H Q, tG K b ix v σ H Q → g v σ H Q) : ∀ D σ H, tFS K mg W (bThen b f) D σ H → tAsg (tF K f) g D σ H := fun D σ H ⟨as, S, fl, S', E, e, q⟩ => by
  unfold bThen at e
  split at e
  · rename_i d μ1 ef
    split at e
    · rename_i S1 eb
      obtain ⟨rfl, rfl⟩ := pr_inj e
      exact ⟨as, S, d, μ1, E, ef, fun v as1 H1 X1 r1 s1 => hg _ _ _ _ ⟨as1, _, d, S1, E.mvE X1 s1, r1, eb, fun as2 σ2 H2 X2 E2 _ _ => q as2 σ2 H2 (X1.trans X2 E.sto.trk) E2⟩⟩
    · cases e
  · cases e
theorem ds_asg {tg : Expr} (he : PE X e (tF X.K f)) (hg : PG X tg (tG X.K b ix)) (hs : swapsWithSole [tg] e pos.line X.env = pure false := by rfl) (hw : swappedStores [tg] e X.env = pure none := by rfl)
    (h1 : (assignEach [tg] X.env).map (·.2) = [assign tg X.env] := by rfl) : PS X (.Assign [tg] e pos) (tFS X.K X.mg W (bThen b f)) := (ps_asg he hg hs hw h1).imp (bThen_of fun _ _ _ _ z => z)
theorem ds_set {i : Nat} {x : Str} {pos' : Pos} (hN : X.N.Nodup) (hi : X.N[i]? = some x) (hx : Loc X.env.scope x) (he : PE X e (tF X.K f)) (hs : swapsWith e (some (.Name x pos')) pos.line X.env = pure false := by rfl)
    (hf : X.fn x = true ∨ X.env.scope.names.lookup x = some .local := by first | exact .inl rfl | exact .inr rfl | assumption) : PS X (.Assign [.Name x pos'] e pos) (tFS X.K X.mg W (bThen (bName i) f)) := (ps_set hN hi hx he hs hf).imp (bThen_of gName_of)
def sDrop (f : EvE) : EvS := fun S => match f S with
  | some (_, μ1) => some (.nx, { S with μ := μ1 })
  | none => none
theorem ds_expr (he : PE X e (tF X.K f)) (hs : swapsWith e none pos.line X.env = pure false := by rfl) : PS X (.Expr e pos) (tFS X.K X.mg W (sDrop f)) := (ps_expr he hs).imp fun D σ H ⟨as, S, fl, S', E, e, q⟩ => by
  unfold sDrop at e
  split at e
  · rename_i d μ1 ef
    obtain ⟨rfl, rfl⟩ := pr_inj e
    exact ⟨as, S, d, μ1, E, ef, fun v as1 H1 X1 r1 s1 => q as1 σ H1 X1 (E.mvE X1 s1)⟩
  · cases e
/-! .. of what may raise -/
def bThenX (b : Bd) (f : EvX) : EvS := fun S => match f S with
  | some (.v d, μ1) => match b d { S with μ := μ1 } with
    | some S' => some (.nx, S')
    | none => none
  | some (.x n p, μ1) => some (.ex n p, { S with μ := μ1 })
  | none => none
theorem bThenX_of {K : PySem.W.Frag} {mg : Str → Option Value} {fx : EvX} {g : TG} (hg : ∀ v σ H Q, tG K b ix v σ H Q → g v σ H Q) : ∀ D σ H, tFS K mg W (bThenX b fx) D σ H → tAsg (tFX K mg W fx) g D σ H := fun D σ H ⟨as, S, fl, S', E, e, q⟩ => by
  unfold bThenX at e
  split at e
  · rename_i d μ1 ef
    split at e
    · rename_i S1 eb
      obtain ⟨rfl, rfl⟩ := pr_inj e
      exact ⟨as, S, .v d, μ1, E, ef, fun v as1 H1 X1 r1 s1 => hg _ _ _ _ ⟨as1, _, d, S1, E.mvE X1 s1, r1, eb, fun as2 σ2 H2 X2 E2 _ _ => q as2 σ2 H2 (X1.trans X2 E.sto.trk) E2⟩⟩
    · cases e
  · rename_i n p μ1 ef
    obtain ⟨rfl, rfl⟩ := pr_inj e
    exact ⟨as, S, .x n p, μ1, E, ef, fun as1 H1 C dx X1 s1 ec xr => q as1 σ H1 C dx X1 (E.mvE X1 s1) ec xr⟩
  · cases e
variable {fx : EvX}
theorem ds_asgX {tg : Expr} (he : PE X e (tFX X.K X.mg W fx)) (hg : PG X tg (tG X.K b ix)) (hs : swapsWithSole [tg] e pos.line X.env = pure false := by rfl) (hw : swappedStores [tg] e X.env = pure none := by rfl)
    (h1 : (assignEach [tg] X.env).map (·.2) = [assign tg X.env] := by rfl) : PS X (.Assign [tg] e pos) (tFS X.K X.mg W (bThenX b fx)) := (ps_asg he hg hs hw h1).imp (bThenX_of fun _ _ _ _ z => z)
theorem ds_setX {i : Nat} {x : Str} {pos' : Pos} (hN : X.N.Nodup) (hi : X.N[i]? = some x) (hx : Loc X.env.scope x) (he : PE X e (tFX X.K X.mg W fx)) (hs : swapsWith e (some (.Name x pos')) pos.line X.env = pure false := by rfl)
    (hf : X.fn x = true ∨ X.env.scope.names.lookup x = some .local := by first | exact .inl rfl | exact .inr rfl | assumption) : PS X (.Assign [.Name x pos'] e pos) (tFS X.K X.mg W (bThenX (bName i) fx)) := (ps_set hN hi hx he hs hf).imp (bThenX_of gName_of)
def sDropX (f : EvX) : EvS := fun S => match f S with
  | some (.v _, μ1) => some (.nx, { S with μ := μ1 })
  | some (.x n p, μ1) => some (.ex n p, { S with μ := μ1 })
  | none => none
theorem ds_exprX (he : PE X e (tFX X.K X.mg W fx)) (hs : swapsWith e none pos.line X.env = pure false := by rfl) : PS X (.Expr e pos) (tFS X.K X.mg W (sDropX fx)) := (ps_expr he hs).imp fun D σ H ⟨as, S, fl, S', E, e, q⟩ => by
  unfold sDropX at e
  split at e
  · rename_i d μ1 ef
    obtain ⟨rfl, rfl⟩ := pr_inj e
    exact ⟨as, S, .v d, μ1, E, ef, fun v as1 H1 X1 r1 s1 => q as1 σ H1 X1 (E.mvE X1 s1)⟩
  · rename_i n p μ1 ef
    obtain ⟨rfl, rfl⟩ := pr_inj e
    exact ⟨as, S, .x n p, μ1, E, ef, fun as1 H1 C dx X1 s1 ec xr => q as1 σ H1 C dx X1 (E.mvE X1 s1) ec xr⟩
  · cases e
def sRetX (f : EvX) : EvS := fun S => match f S with
  | some (.v d, μ1) => some (.rt d, { S with μ := μ1 })
  | some (.x n p, μ1) => some (.ex n p, { S with μ := μ1 })
  | none => none
theorem ds_retX (he : PE X e (tFX X.K X.mg W fx)) : PS X (.Return (some e) pos) (tFS X.K X.mg W (sRetX fx)) := (ps_ret he).imp fun D σ H ⟨as, S, fl, S', E, e, q⟩ => by
  unfold sRetX at e
  split at e
  · rename_i d μ1 ef
    obtain ⟨rfl, rfl⟩ := pr_inj e
    exact ⟨as, S, .v d, μ1, E, ef, fun v as1 H1 X1 r1 s1 => q as1 v H1 X1 r1 s1⟩
  · rename_i n p μ1 ef
    obtain ⟨rfl, rfl⟩ := pr_inj e
    exact ⟨as, S, .x n p, μ1, E, ef, fun as1 H1 C dx X1 s1 ec xr => q as1 σ H1 C dx X1 (E.mvE X1 s1) ec xr⟩
  · cases e
/-- what raises nothing here -/
def fNox (f : EvX) : EvE := fun S => match f S with
  | some (.v d, μ1) => some (d, μ1)
  | _ => none
theorem fNox_out {f : EvX} {S : Sg} {d : D} {μ' : List Cell} (e : fNox f S = some (d, μ')) : f S = some (.v d, μ') := by
  unfold fNox at e
  split at e
  · rename_i d1 μ1 ef
    obtain ⟨rfl, rfl⟩ := pr_inj e
    exact ef
  · cases e
/-- raise C('m') -/
def sRaise (n : Str) : EvS := fun S => some (.ex n none, S)
theorem ds_raise {C : Addr} {bmB : List Value} {B newId initId : String} {x m : Str} {j : Nat} {p p2 pos1 pos2 : Pos} (hc : X.calm = true) (tk : Takes X W) (F : PySem.ExcBaseFacts B newId initId bmB) (q : PySem.W.excIn X.K C bmB newId = true) (gC : X.mg x = some (.ref C)) (kC : PySem.W.keepIn X.K (.ref C) = true) (r : Raises X (.ref C)) (hg : Gl X x)
    (hdb : (x == ("__debug__" : Str)) = false := by decide) : PS X (.Raise (some (.Call (.Name x p) [.Constant (.str m) j p2] [] pos1)) none pos2) (tFS X.K X.mg W (sRaise x)) :=
  (ps_raise hc tk (pmk_own F q gC kC r hg hdb)).imp fun D σ H ⟨as, S, fl, S', E, e, q⟩ => by
    obtain ⟨rfl, rfl⟩ := pr_inj e
    exact q as σ H (.ref C) none .refl E gC rfl
/-- try: .. except x: .., where h tells which names the clause takes -/
def sTry (h : Str → Option Bool) (g gs : EvS) : EvS := fun S => match g S with
  | some (.ex n p, S1) => match h n with
    | some true => match gs S1 with
      | some (.ex _ _, _) => none
      | r => r
    | some false => some (.ex n p, S1)
    | none => none
  | r => r
theorem ds_try {x : Str} {c : Value} {h : Str → Option Bool} {g gs : EvS} {body suite : List Stmt} {b₀ : Stmt} {np pos pos' : Pos} (hs : X.stack = X.env :: X.outer) (hf : X.env.frame = some X.env.locals) (hc : Names X x c) (tk : Takes X W)
    (hh : ∀ n b C, h n = some b → X.mg n = some C → PySem.W.exmOne X.K C c = some b)
    (hb : ∀ (W' : WX) (pn : List (Addr × Obj)) (xe : Value → Shared → Prop), Takes (X.tr pn xe) W' → PassesOwn (model X.prog X.w) X.A X.env xe → PSs (X.tr pn xe) body (tFS X.K X.mg W' g))
    (hsu : ∀ (a : Addr) (pn : List (Addr × Obj)), PSs (X.suite a pn) (b₀ :: suite) (tFS X.K X.mg (fun _ _ _ _ => False) gs)) :
    PS X (.Try body [.ExceptHandler (some (.Name x np)) none (b₀ :: suite) pos'] [] [] pos) (tFS X.K X.mg W (sTry h g gs)) :=
  (ps_try_only (tb := fun W' => tFS X.K X.mg W' g) (ts := fun _ _ _ => tFS X.K X.mg (fun _ _ _ _ => False) gs) hs hf hc tk hb (fun a oe cls d pn _ _ => hsu a ((a, oe) :: pn))).imp fun D σ H ⟨as, S, fl, S', E, e, q⟩ => by
    unfold sTry at e
    split at e
    · rename_i n p S1 eg
      split at e
      · rename_i eh
        refine ⟨as, S, .ex n p, S1, E, eg, fun as1 σ1 H1 C dx X1 E1 ec xr => ⟨true, hh n true C eh ec, fun _ a na => ?_, fun z => nomatch z⟩⟩
        split at e
        · cases e
        · rename_i hn
          have q1 := endS_mv q X1 E.sto.trk
          refine ⟨as1, S1, fl, S', E1, e, ?_⟩
          cases fl with
          | ex n' p' => exact (hn n' p' S' e).elim
          | nx => exact q1
          | bk => exact q1
          | ct => exact q1
          | rt d => exact q1
      · rename_i eh
        obtain ⟨rfl, rfl⟩ := pr_inj e
        exact ⟨as, S, .ex n p, S1, E, eg, fun as1 σ1 H1 C dx X1 E1 ec xr => ⟨false, hh n false C eh ec, fun z => (nomatch z), fun _ => q as1 σ1 H1 C dx X1 E1 ec xr⟩⟩
      · cases e
    · rename_i hn
      refine ⟨as, S, fl, S', E, e, ?_⟩
      cases fl with
      | ex n' p' => exact (hn n' p' S' e).elim
      | nx => exact q
      | bk => exact q
      | ct => exact q
      | rt d => exact q
def sNx : EvS := fun S => some (.nx, S)
theorem ds_doc {x j pos'} : PS X (.Expr (.Constant (.str x) j pos) pos') (tFS X.K X.mg W sNx) := ps_doc.imp fun D σ H ⟨as, S, fl, S', E, e, q⟩ => by
  cases Option.some.inj e
  exact q as σ H .refl E
theorem ds_pass : PS X (.Pass pos) (tFS X.K X.mg W sNx) := ps_pass.imp fun D σ H ⟨as, S, fl, S', E, e, q⟩ => by
  cases Option.some.inj e
  exact q as σ H .refl E
def sBk : EvS := fun S => some (.bk, S)
def sCt : EvS := fun S => some (.ct, S)
theorem ds_break : PS X (.Break pos) (tFS X.K X.mg W sBk) := ps_break.imp fun D σ H ⟨as, S, fl, S', E, e, q⟩ => by
  cases Option.some.inj e
  exact q as σ H .refl E
theorem ds_continue : PS X (.Continue pos) (tFS X.K X.mg W sCt) := ps_continue.imp fun D σ H ⟨as, S, fl, S', E, e, q⟩ => by
  cases Option.some.inj e
  exact q as σ H .refl E
def sRet (f : EvE) : EvS := fun S => match f S with
  | some (d, μ1) => some (.rt d, { S with μ := μ1 })
  | none => none
theorem ds_ret (he : PE X e (tF X.K f)) : PS X (.Return (some e) pos) (tFS X.K X.mg W (sRet f)) := (ps_ret he).imp fun D σ H ⟨as, S, fl, S', E, e, q⟩ => by
  unfold sRet at e
  split at e
  · rename_i d μ1 ef
    obtain ⟨rfl, rfl⟩ := pr_inj e
    exact ⟨as, S, d, μ1, E, ef, fun v as1 H1 X1 r1 s1 => q as1 v H1 X1 r1 s1⟩
  · cases e
theorem ds_retN : PS X (.Return none pos) (tFS X.K X.mg W (sRet (fC .non))) := ps_retN.imp fun D σ H ⟨as, S, fl, S', E, e, q⟩ => by
  cases Option.some.inj e
  exact q as .non H .refl .non E.sto
variable {t : EvT} {g g' : EvS} {ss ss' : List Stmt}
def sIf (t : EvT) (g g' : EvS) : EvS := fun S => match t S with
  | some (true, μ1) => g { S with μ := μ1 }
  | some (false, μ1) => g' { S with μ := μ1 }
  | none => none
theorem ds_if {c : Expr} (hc : PT X c (tFT X.K t)) (ha : PSs X ss (tFS X.K X.mg W g)) (hb : PSs X ss' (tFS X.K X.mg W g')) : PS X (.If c ss ss' pos) (tFS X.K X.mg W (sIf t g g')) := (ps_if hc ha hb).imp fun D σ H ⟨as, S, fl, S', E, e, q⟩ => by
  unfold sIf at e
  split at e
  · rename_i μ1 et
    exact ⟨as, S, true, μ1, E, et, fun as1 H1 X1 s1 => iteT ⟨as1, _, fl, S', E.mvE X1 s1, e, endS_mv q X1 E.sto.trk⟩⟩
  · rename_i μ1 et
    exact ⟨as, S, false, μ1, E, et, fun as1 H1 X1 s1 => iteF ⟨as1, _, fl, S', E.mvE X1 s1, e, endS_mv q X1 E.sto.trk⟩⟩
  · cases e
def sSeq (g g' : EvS) : EvS := fun S => match g S with
  | some (.nx, S1) => g' S1
  | r => r
theorem dss_nil : PSs X [] (tFS X.K X.mg W sNx) := pss_nil.imp fun D σ H ⟨as, S, fl, S', E, e, q⟩ => by
  cases Option.some.inj e
  exact q as σ H .refl E
theorem dss_one {st : Stmt} (h : PS X st (tFS X.K X.mg W g)) : PSs X [st] (tFS X.K X.mg W g) := pss_one h
theorem dss_cons {st : Stmt} (h1 : PS X st (tFS X.K X.mg W g)) (h2 : PSs X ss (tFS X.K X.mg W g')) : PSs X (st :: ss) (tFS X.K X.mg W (sSeq g g')) := (pss_cons h1 h2).imp fun D σ H ⟨as, S, fl, S', E, e, q⟩ => by
  unfold sSeq at e
  split at e
  · rename_i S1 e1
    exact ⟨as, S, .nx, S1, E, e1, fun as1 σ1 H1 X1 E1 => ⟨as1, S1, fl, S', E1, e, endS_mv q X1 E.sto.trk⟩⟩
  · rename_i hn
    refine ⟨as, S, fl, S', E, e, ?_⟩
    cases fl with
    | nx => exact (hn S' e).elim
    | bk => exact q
    | ct => exact q
    | rt d => exact q
    | ex n p => exact q

/-! ### what is walked -/
abbrev EvI := Sg → Option (List D × List Cell)
structure ItD (K : PySem.W.Frag) (as : Ar) (H : Hp) (J : It) (ds : List D) : Prop where
  go : ∀ i as' H', Ext as H as' H' → i < ds.length → J.go i H'
  stop : ∀ as' H', Ext as H as' H' → J.stop ds.length H'
  yld : ∀ i as' H' μ x H'', Ext as H as' H' → StoR K as' H' μ → i < ds.length → J.yld i H' x H'' → ∃ d, ds[i]? = some d ∧ Ext as' H' as' H'' ∧ Rep K as' H'' x d ∧ StoR K as' H'' μ
/-- the heap behind later turns of a comprehension: what is blocked in it stands apart -/
def tI (K : PySem.W.Frag) (f : EvI) : TI := fun σ H R => ∃ as S ds μ', ER K as σ H S ∧ f S = some (ds, μ') ∧ ∀ J as' H', Ext as H as' H' → StoR K as' H' μ' → ItD K as' H' J ds → R J H'
def itOf (g : D → Option (List D)) (f : EvE) : EvI := fun S => match f S with
  | some (d, μ1) => match g d with
    | some ds => some (ds, μ1)
    | none => none
  | none => none
theorem itOf_out {g : D → Option (List D)} {f : EvE} {S : Sg} {ds : List D} {μ' : List Cell} (e : itOf g f S = some (ds, μ')) : ∃ d, f S = some (d, μ') ∧ g d = some ds := by
  unfold itOf at e
  split at e
  · rename_i d μ1 ef
    split at e
    · rename_i ds' ed
      have e' := Option.some.inj e
      injection e' with e1 e2
      subst e1 e2
      exact ⟨d, ef, ed⟩
    · cases e
  · cases e
/-- lists, tuples, texts -/
def gSeq : D → Option (List D)
  | .lst xs | .rl xs | .tup xs => some xs
  | .str z => some (z.cps.toList.map fun c => .str ⟨#[c]⟩)
  | _ => none
theorem di_seq {tg : Expr} (he : PE X e (tF X.K f)) : PI X tg e (tI X.K (itOf gSeq f)) := by
  refine PI.imp (PI.or (pi_list he) (PI.or (pi_tup he) (pi_str he))) fun σ H R ⟨as, S, ds, μ', E, e, q⟩ => ?_
  obtain ⟨d, ef, ed⟩ := itOf_out e
  have list : ∀ {a : Addr} {vs : List V} {as1 : Ar} {H1 : Hp}, (∀ as' H', Ext as1 H1 as' H' → SqL X.K H' a vs) → Reps X.K as1 H1 vs ds → ItD X.K as1 H1 (Itl X.K a) ds := fun {a vs as1 H1} hq rs =>
    ⟨fun i as' H' X' hi => walk_list.goes i H' (by rw [rs.length]; exact hi) (hq as' H' X'), fun as' H' X' => by rw [← rs.length]; exact walk_list.stops H' (hq as' H' X'), fun i as' H' μ x H'' X' s' hi y => by
      obtain ⟨e1, e2⟩ := walk_list.yields i H' x H'' (by rw [rs.length]; exact hi) (hq as' H' X') y
      subst e1
      obtain ⟨d, e3, r⟩ := (rs.mv X').getV e2
      exact ⟨d, e3, .refl, r, s'⟩⟩
  unfold gSeq at ed
  split at ed
  · cases Option.some.inj ed
    refine .inl ⟨as, S, _, μ', E, ef, fun v as1 H1 X1 r1 s1 => ?_⟩
    cases r1 with
    | @lst a vs _ t n rs => exact ⟨a, rfl, ⟨vs, SqL.of t⟩, q _ as1 H1 X1 s1 (list (fun as' H' X' => SqL.of (at_mv t n X').1) rs)⟩
  · cases Option.some.inj ed
    refine .inl ⟨as, S, _, μ', E, ef, fun v as1 H1 X1 r1 s1 => ?_⟩
    cases r1 with
    | @rl a vs _ t rs => exact ⟨a, rfl, ⟨vs, t.sq⟩, q _ as1 H1 X1 s1 (list (fun as' H' X' => (t.mv X').sq) rs)⟩
  · cases Option.some.inj ed
    refine .inr (.inl ⟨as, S, _, μ', E, ef, fun v as1 H1 X1 r1 s1 => ?_⟩)
    cases r1 with
    | @tup a vs _ t rs =>
      refine ⟨a, rfl, ⟨vs, t.sq⟩, q _ as1 H1 X1 s1 ?_⟩
      have hq : ∀ as' H', Ext as1 H1 as' H' → SqT X.K H' a vs := fun as' H' X' => (t.mv X').sq
      exact ⟨fun i as' H' X' hi => walk_tup.goes i H' (by rw [rs.length]; exact hi) (hq as' H' X'), fun as' H' X' => by rw [← rs.length]; exact walk_tup.stops H' (hq as' H' X'), fun i as' H' μ x H'' X' s' hi y => by
        obtain ⟨e1, e2⟩ := walk_tup.yields i H' x H'' (by rw [rs.length]; exact hi) (hq as' H' X') y
        subst e1
        obtain ⟨d, e3, r⟩ := (rs.mv X').getV e2
        exact ⟨d, e3, .refl, r, s'⟩⟩
  · rename_i z
    cases Option.some.inj ed
    refine .inr (.inr ⟨as, S, _, μ', E, ef, fun v as1 H1 X1 r1 s1 => ?_⟩)
    cases r1
    have hl : (z.cps.toList.map fun c => D.str ⟨#[c]⟩).length = z.cps.size := by simp
    refine ⟨z, rfl, q _ as1 H1 X1 s1 ⟨fun i as' H' X' hi => walk_str.goes i H' (by rw [← hl]; exact hi) trivial, fun as' H' X' => by rw [hl]; exact walk_str.stops H' trivial, fun i as' H' μ x H'' X' s' hi y => ?_⟩⟩
    obtain ⟨e1, c, e2, e3⟩ := walk_str.yields i H' x H'' (by rw [← hl]; exact hi) trivial y
    subst e1 e3
    refine ⟨.str ⟨#[c]⟩, ?_, .refl, .str _, s'⟩
    rw [List.getElem?_map, Array.getElem?_toList, e2]
    rfl
  · cases ed
/-- range(n), range(a, b) -/
def rngD (lo : Int) (n : Nat) : List D := (List.range n).map fun (i : Nat) => .int (lo + (i : Int))
def gRng1 (fs : EvA) : EvI := fun S => match fs S with
  | some ([.int j], μ1) => if -(2 ^ 62) ≤ j ∧ j < 2 ^ 62 then some (rngD 0 j.toNat, μ1) else none
  | _ => none
theorem rng_it {K : PySem.W.Frag} {as : Ar} {H : Hp} {lo : Int} {n : Nat} : ItD K as H (Itr lo n) (rngD lo n) := by
  have hl : (rngD lo n).length = n := by simp [rngD]
  refine ⟨fun i as' H' X' hi => walk_range.goes i H' (by rw [← hl]; exact hi) trivial, fun as' H' X' => by rw [hl]; exact walk_range.stops H' trivial, fun i as' H' μ x H'' X' s' hi y => ?_⟩
  obtain ⟨e1, e2⟩ := walk_range.yields i H' x H'' (by rw [← hl]; exact hi) trivial y
  subst e1 e2
  refine ⟨.int (lo + (i : Int)), ?_, .refl, .int _, s'⟩
  rw [hl] at hi
  simp [rngD, hi]
theorem di_range1 {tg : Expr} {p : Pos} {fs : EvA} (hg : Gl X "range") (hm : X.mg "range" = none) (ha : PA X [a] (tFA X.K fs)) (hs : starEach [a] X.env = [(false, eval a X.env)] := by rfl) : PI X tg (.Call (.Name "range" p) [a] [] pos) (tI X.K (gRng1 fs)) :=
  PI.imp (pi_range1 hg hm ha hs) fun σ H R ⟨as, S, ds, μ', E, e, q⟩ => by
    unfold gRng1 at e
    split at e
    · rename_i j μ1 ef
      split at e
      · rename_i hj
        obtain ⟨rfl, rfl⟩ := pr_inj e
        refine ⟨as, S, _, μ1, E, ef, fun vs as1 H1 X1 r1 s1 => ?_⟩
        cases r1 with
        | cons r1 rt =>
        cases rt
        cases r1
        exact ⟨j, rfl, hj.1, hj.2, q _ as1 H1 X1 s1 rng_it⟩
      · cases e
    · cases e
def gRng2 (fs : EvA) : EvI := fun S => match fs S with
  | some ([.int i, .int j], μ1) => if -(2 ^ 62) ≤ i ∧ i < 2 ^ 62 ∧ -(2 ^ 62) ≤ j ∧ j < 2 ^ 62 then some (rngD i (j - i).toNat, μ1) else none
  | _ => none
theorem di_range2 {tg a2 : Expr} {p : Pos} {fs : EvA} (hg : Gl X "range") (hm : X.mg "range" = none) (ha : PA X [a, a2] (tFA X.K fs)) (hs : starEach [a, a2] X.env = [(false, eval a X.env), (false, eval a2 X.env)] := by rfl) (hs2 : starEach [a2] X.env = [(false, eval a2 X.env)] := by rfl) :
    PI X tg (.Call (.Name "range" p) [a, a2] [] pos) (tI X.K (gRng2 fs)) := PI.imp (pi_range2 hg hm ha hs hs2) fun σ H R ⟨as, S, ds, μ', E, e, q⟩ => by
    unfold gRng2 at e
    split at e
    · rename_i i j μ1 ef
      split at e
      · rename_i hj
        obtain ⟨rfl, rfl⟩ := pr_inj e
        refine ⟨as, S, _, μ1, E, ef, fun vs as1 H1 X1 r1 s1 => ?_⟩
        cases r1 with
        | cons r1 rt =>
        cases rt with
        | cons r2 rt =>
        cases rt
        cases r1
        cases r2
        exact ⟨i, j, rfl, hj, q _ as1 H1 X1 s1 rng_it⟩
      · cases e
    · cases e

/-! ### for -/
def forL (b : Bd) (body : EvS) : List D → Sg → Option (Fl × Sg)
  | [], S => some (.nx, S)
  | d :: ds, S => match b d S with
    | some S1 => match body S1 with
      | some (.nx, S2) => forL b body ds S2
      | some (.ct, S2) => forL b body ds S2
      | some (.bk, S2) => some (.nx, S2)
      | some (.rt x, S2) => some (.rt x, S2)
      | some (.ex n p, S2) => some (.ex n p, S2)
      | none => none
    | none => none
def sFor (it : EvI) (b : Bd) (body : EvS) : EvS := fun S => match it S with
  | some (ds, μ1) => forL b body ds { S with μ := μ1 }
  | none => none
theorem ds_for {tg iter : Expr} {it : EvI} (hp : PassesOwn (model X.prog X.w) X.A X.env X.xe) (hc : X.calm = true) (hi : PI X tg iter (tI X.K it)) (hg : PG X tg (tG X.K b ix)) (hb : PSs X ss (tFS X.K X.mg W g)) (hs : ∀ x, foldedSetIterable iter X.env x = pure x := by intro _; rfl) :
    PS X (.For tg iter ss [] pos) (tFS X.K X.mg W (sFor it b g)) := by
  refine (ps_for hp hc hi hg hb hs).imp fun D σ H ⟨as, S, fl, S', E, e, q⟩ => ?_
  unfold sFor at e
  split at e
  · rename_i ds μ1 ei
    refine ⟨as, S, ds, μ1, E, ei, fun J as1 H1 X1 s1 it1 => ?_⟩
    have q1 := endS_mv q X1 E.sto.trk
    have E1 := E.mvE X1 s1
    refine ⟨fun i m σ2 H2 => m = ds.length - i ∧ i ≤ ds.length ∧ ∃ as2 S2, Ext as1 H1 as2 H2 ∧ ER X.K as2 σ2 H2 S2 ∧ forL b g (ds.drop i) S2 = some (fl, S'), ⟨_, rfl, Nat.zero_le _, as1, _, .refl, E1, e⟩, ?_⟩
    rintro i m σ2 H2 ⟨rfl, hi, as2, S2, X2, E2, e2⟩
    by_cases hlt : i < ds.length
    · refine .inr ⟨it1.go i as2 H2 X2 hlt, fun σ3 H3 => ∃ as3 S3, Ext as1 H1 as3 H3 ∧ ER X.K as3 σ3 H3 S3 ∧ forL b g (ds.drop (i + 1)) S3 = some (fl, S'), fun σ3 H3 ⟨as3, S3, X3, E3, e3⟩ => ⟨_, by omega, rfl, hlt, as3, S3, X3, E3, e3⟩, fun x H3 y => ?_⟩
      obtain ⟨d, ed, X3, r3, s3⟩ := it1.yld i as2 H2 S2.μ x H3 X2 E2.sto hlt y
      have hd : ds.drop i = d :: ds.drop (i + 1) := by
        rw [List.drop_eq_getElem_cons hlt]
        rw [List.getElem?_eq_getElem hlt] at ed
        cases ed
        rfl
      rw [hd] at e2
      unfold forL at e2
      split at e2
      · rename_i S3 eb
        have E3 := E2.mvE X3 s3
        refine ⟨as2, S2, d, S3, E3, r3, eb, fun as4 σ4 H4 X4 E4 _ _ => ?_⟩
        have X14 := X2.trans (X3.trans X4 E2.sto.trk) s1.trk
        split at e2
        · rename_i S5 eg
          exact ⟨as4, S3, .nx, S5, E4, eg, fun as5 σ5 H5 X5 E5 => ⟨as5, S5, X14.trans X5 s1.trk, E5, e2⟩⟩
        · rename_i S5 eg
          exact ⟨as4, S3, .ct, S5, E4, eg, fun as5 σ5 H5 X5 E5 => ⟨as5, S5, X14.trans X5 s1.trk, E5, e2⟩⟩
        · rename_i S5 eg
          obtain ⟨rfl, rfl⟩ := pr_inj e2
          exact ⟨as4, S3, .bk, S5, E4, eg, fun as5 σ5 H5 X5 E5 => q1 as5 σ5 H5 (X14.trans X5 s1.trk) E5⟩
        · rename_i x5 S5 eg
          obtain ⟨rfl, rfl⟩ := pr_inj e2
          exact ⟨as4, S3, .rt x5, S5, E4, eg, fun as5 v5 H5 X5 r5 s5 => q1 as5 v5 H5 (X14.trans X5 s1.trk) r5 s5⟩
        · rename_i n5 p5 S5 eg
          obtain ⟨rfl, rfl⟩ := pr_inj e2
          exact ⟨as4, S3, .ex n5 p5, S5, E4, eg, fun as5 σ5 H5 C dx X5 E5 ec xr => q1 as5 σ5 H5 C dx (X14.trans X5 s1.trk) E5 ec xr⟩
        · cases e2
      · cases e2
    · have hn : i = ds.length := by omega
      subst hn
      rw [List.drop_length] at e2
      cases Option.some.inj e2
      exact .inl ⟨it1.stop as2 H2 X2, q1 as2 σ2 H2 X2 E2⟩
  · cases e
end
end DL
namespace DL
open PySem L2
/-! ### comprehensions -/
section
variable {K : PySem.W.Frag} {as as' : Ar} {H H' : Hp}
def Ar.blk (as : Ar) (p : Addr) : Ar := ⟨as.c, p :: as.b⟩
mutual
theorem Rep.unblk {b : List Addr} (hb : ∀ a ∈ b, a ∈ as.b) : ∀ {v : V} {d : D}, Rep K as H v d → Rep K ⟨as.c, b⟩ H v d
  | _, _, .non => .non
  | _, _, .bl b => .bl b
  | _, _, .int i => .int i
  | _, _, .str s => .str s
  | _, _, .ty n => .ty n
  | _, _, .h e => .h e
  | _, _, .lst t n r => .lst t ⟨n.1, fun z => n.2 (hb _ z)⟩ (Reps.unblk hb r)
  | _, _, .rl t r => .rl (t.elim (fun z => .inl ⟨z.1, z.2.1, fun w => z.2.2 (hb _ w)⟩) .inr) (Reps.unblk hb r)
  | _, _, .tup t r => .tup (t.elim (fun z => .inl ⟨z.1, z.2.1, fun w => z.2.2 (hb _ w)⟩) .inr) (Reps.unblk hb r)
  | _, _, .dct t n e r => .dct t ⟨n.1, fun z => n.2 (hb _ z)⟩ e (Reps.unblk hb r)
  | _, _, .exc e t n => .exc e t ⟨n.1, fun z => n.2 (hb _ z)⟩
  | _, _, .exf e t n t2 n2 r => .exf e t ⟨n.1, fun z => n.2 (hb _ z)⟩ t2 ⟨n2.1, fun z => n2.2 (hb _ z)⟩ (Rep.unblk hb r)
theorem Reps.unblk {b : List Addr} (hb : ∀ a ∈ b, a ∈ as.b) : ∀ {vs : List V} {ds : List D}, Reps K as H vs ds → Reps K ⟨as.c, b⟩ H vs ds
  | _, _, .nil => .nil
  | _, _, .cons h t => .cons (Rep.unblk hb h) (Reps.unblk hb t)
end
mutual
/-- what stands at a blocked place does not matter to data -/
theorem Rep.reblk {p : Addr} {o : HO} (hp : p ∈ as.b) : ∀ {v : V} {d : D}, Rep K as H v d → Rep K as (upd H p o) v d
  | _, _, .non => .non
  | _, _, .bl b => .bl b
  | _, _, .int i => .int i
  | _, _, .str s => .str s
  | _, _, .ty n => .ty n
  | _, _, .h e => .h e
  | _, _, .lst t n r => .lst (by rw [upd_ne fun e => n.2 (by rw [e]; exact hp)]; exact t) n (Reps.reblk hp r)
  | _, _, .rl t r => .rl (t.elim (fun z => .inl ⟨by unfold Rd; rw [upd_ne fun e => z.2.2 (by rw [e]; exact hp)]; exact z.1, z.2⟩) .inr) (Reps.reblk hp r)
  | _, _, .tup t r => .tup (t.elim (fun z => .inl ⟨by unfold Rd; rw [upd_ne fun e => z.2.2 (by rw [e]; exact hp)]; exact z.1, z.2⟩) .inr) (Reps.reblk hp r)
  | _, _, .dct t n e r => .dct (by rw [upd_ne fun e => n.2 (by rw [e]; exact hp)]; exact t) n e (Reps.reblk hp r)
  | _, _, .exc e t n => .exc e (by rw [upd_ne fun e => n.2 (by rw [e]; exact hp)]; exact t) n
  | _, _, .exf e t n t2 n2 r => .exf e (by rw [upd_ne fun e => n.2 (by rw [e]; exact hp)]; exact t) n (by rw [upd_ne fun e => n2.2 (by rw [e]; exact hp)]; exact t2) n2 (Rep.reblk hp r)
theorem Reps.reblk {p : Addr} {o : HO} (hp : p ∈ as.b) : ∀ {vs : List V} {ds : List D}, Reps K as H vs ds → Reps K as (upd H p o) vs ds
  | _, _, .nil => .nil
  | _, _, .cons h t => .cons (Rep.reblk hp h) (Reps.reblk hp t)
end
theorem CellR.map {as as' : Ar} {H H' : Hp} {a : Addr} {c : Cell} (h : CellR K as H a c) (e : H' a = H a) (f : ∀ {vs : List V} {ds : List D}, Reps K as H vs ds → Reps K as' H' vs ds) : CellR K as' H' a c := by
  cases c with
  | lst ds => obtain ⟨vs, q, r⟩ := h; exact ⟨vs, e.trans q, f r⟩
end
section
variable {X : Cx} {elt tg iter : Expr} {ifs : List Expr} {pos : Pos}
theorem dts_nil : PTs X [] (tFT X.K fun S => some (true, S.μ)) := ⟨fun pins s σ H Q I ⟨as, S, k, μ', E, e, q⟩ => by
  obtain ⟨rfl, rfl⟩ := pr_inj e
  exact pts_nil.run pins s σ H Q I (q as H .refl E.sto)⟩
theorem dts_one {c : Expr} {t : EvT} (h : PT X c (tFT X.K t)) : PTs X [c] (tFT X.K t) := pts_one h
def lcL (b : Bd) (t : EvT) (f : EvE) (ρ : List (Option D)) : List D → List Cell → Option (List D × List Cell)
  | [], μ => some ([], μ)
  | d :: ds, μ => match b d ⟨ρ, μ⟩ with
    | some S1 => match t S1 with
      | some (true, μ1) => match f { S1 with μ := μ1 } with
        | some (x, μ2) => match lcL b t f ρ ds μ2 with
          | some (xs, μ3) => some (x :: xs, μ3)
          | none => none
        | none => none
      | some (false, μ1) => lcL b t f ρ ds μ1
      | none => none
    | none => none
def fLc (it : EvI) (b : Bd) (t : EvT) (f : EvE) (ws : List Nat) : EvE := fun S => match it S with
  | some (ds, μ1) => match lcL b t f (wipeR S.ρ ws) ds μ1 with
    | some (xs, μ2) => if xs.length ≤ sizeLine then some (.lst xs, μ2) else none
    | none => none
  | none => none
variable {it : EvI} {b : Bd} {ix : List Nat} {t : EvT} {f : EvE} {ws : List Nat} {W : WX}
theorem tF_lc {K : PySem.W.Frag} (hix : ∀ j ∈ ix, j ∈ ws) : ∀ σ H Q, tF K (fLc it b t f ws) σ H Q → tLc (tI K it) (tG K b ix) (tFT K t) (tF K f) ws σ H Q := fun σ H Q ⟨as, S, d, μ', E, e, q⟩ => by
  unfold fLc at e
  split at e
  · rename_i ds μ1 ei
    split at e
    · rename_i xs μ2 el
      split at e
      · rename_i hz
        obtain ⟨rfl, rfl⟩ := pr_inj e
        refine ⟨as, S, ds, μ1, E, ei, fun J as1 H1 X1 s1 it1 p hp => ?_⟩
        have hpo := s1.out hp
        -- from a turn to a later time
        have carry : ∀ {as2 as6 : Ar} {H2 H6 : Hp}, Ext as2 H2 as6 H6 → H2 p ≠ none → (p ∈ as2.b ∧ p ∉ as2.c) → (∀ a ∈ as1.b, a ∈ as2.b) → (p ∈ as6.b ∧ p ∉ as6.c) ∧ ∀ a ∈ as1.b, a ∈ as6.b := fun {as2 as6 H2 H6} Z hn hb hs => by
          obtain ⟨nb, e, _⟩ := Z.blk
          obtain ⟨more, e', f'⟩ := Z.pre
          refine ⟨⟨by rw [e]; exact List.mem_append_right _ hb.1, ?_⟩, fun a ha => by rw [e]; exact List.mem_append_right _ (hs a ha)⟩
          rw [e', List.mem_append]
          rintro (z | z)
          · exact hb.2 z
          · exact hn (f' p z)
        have X0 : Ext as1 H1 (as1.blk p) (upd H1 p (.lst [])) := ⟨⟨[], (List.append_nil _).symm, by simp⟩, ⟨[p], rfl, by simpa using hp⟩, (Ext.new hp hpo).old, (Ext.new hp hpo).cel⟩
        have s0 : StoR K (as1.blk p) (upd H1 p (.lst [])) μ1 := by
          refine ⟨s1.len, fun k a c ea ec => ?_, s1.nd, fun a ha => ?_⟩
          · exact (s1.at_ k a c ea ec).map (upd_ne fun z => hpo.1 (z ▸ List.mem_of_getElem? ea)) fun r => r.mv X0
          · rcases List.mem_cons.mp ha with z | z
            · subst z; rw [upd_same]; simp
            · by_cases w : a = p
              · subst w; rw [upd_same]; simp
              · rw [upd_ne w]; exact s1.bl a z
        have tr0 := s1.trk
        -- what holds ahead of turn i
        let Pv : Nat → Hp → Prop := fun i H2 => ∃ as2 μ2' vs acc rest, (p ∈ as2.b ∧ p ∉ as2.c) ∧ Ext as1 H1 as2 H2 ∧ EnvR K as2 H2 (L2.wipe σ ws) (wipeR S.ρ ws) ∧ StoR K as2 H2 μ2' ∧ H2 p = some (.lst vs) ∧ Reps K as2 H2 vs acc ∧
          lcL b t f (wipeR S.ρ ws) (ds.drop i) μ2' = some (rest, μ2) ∧ acc ++ rest = xs ∧ (∀ a ∈ as1.b, a ∈ as2.b)
        refine ⟨fun i m H2 => m = ds.length - i ∧ i ≤ ds.length ∧ Pv i H2, ⟨_, rfl, Nat.zero_le _, as1.blk p, μ1, [], [], xs, ⟨List.mem_cons_self, hpo.1⟩, X0, (E.env.mv X1).mv X0 |>.wipe ws, s0, upd_same, .nil, el, rfl, fun a ha => List.mem_cons_of_mem _ ha⟩, ?_⟩
        rintro i m H2 ⟨rfl, hi, as2, μ3, vs, acc, rest, ⟨hb2, hc2⟩, X2, E2, s2, hp2, ra, el2, ex, hsub⟩
        by_cases hlt : i < ds.length
        · refine .inr ⟨it1.go i as2 H2 X2 hlt, Pv (i + 1), fun H3 z => ⟨_, by omega, rfl, hlt, z⟩, fun x H3 y => ?_⟩
          obtain ⟨d0, ed, X3, r3, s3⟩ := it1.yld i as2 H2 μ3 x H3 X2 s2 hlt y
          have hd : ds.drop i = d0 :: ds.drop (i + 1) := by
            rw [List.drop_eq_getElem_cons hlt]
            rw [List.getElem?_eq_getElem hlt] at ed
            cases ed
            rfl
          rw [hd] at el2
          unfold lcL at el2
          split at el2
          · rename_i S3 eb
            have E3 : ER K as2 (L2.wipe σ ws) H3 ⟨wipeR S.ρ ws, μ3⟩ := ⟨E2.mv X3, s3⟩
            refine ⟨as2, _, d0, S3, E3, r3, eb, fun as4 σ4 H4 X4 E4 l4 g4 => ⟨?_, ?_⟩⟩
            · refine (wipe_agree (l4.trans rfl) fun j hj => g4 j fun z => hj (hix j z)).trans ?_
              refine wipe_agree (wipe_length σ ws) fun j hj => ?_
              exact wipe_out hj
            have X24 := X3.trans X4 s2.trk
            split at el2
            · rename_i μ4 et
              refine ⟨as4, S3, true, μ4, E4, et, fun as5 H5 X5 s5 => iteT ?_⟩
              split at el2
              · rename_i x5 μ5 ef
                split at el2
                · rename_i ys μ6 er
                  obtain ⟨rfl, rfl⟩ := pr_inj el2
                  refine ⟨as5, _, x5, μ5, E4.mvE X5 s5, ef, fun y6 as6 H6 X6 r6 s6 => ?_⟩
                  have X26 := X24.trans (X5.trans X6 E4.sto.trk) s2.trk
                  obtain ⟨⟨hp6, hc6⟩, hs6⟩ := carry X26 (by rw [hp2]; simp) ⟨hb2, hc2⟩ hsub
                  have hv6 : H6 p = some (.lst vs) := X26.old p _ hc2 hp2
                  have hl : acc.length < sizeLine := by
                    rw [← ex, List.length_append, List.length_cons] at hz
                    omega
                  have ra6 := ra.mv X26
                  have X16 := X2.trans X26 tr0
                  have E6 := E2.mv X26
                  refine ⟨vs, hv6, by rw [ra.length]; exact hl, as6, μ5, vs ++ [y6], acc ++ [x5], ys, ⟨hp6, hc6⟩, ⟨X16.pre, X16.blk, fun a o ha e => ?_, fun a ha e => ?_⟩, ⟨E6.1, fun j e he => ?_⟩, ⟨s6.len, fun k a c ea ec => ?_, s6.nd, fun a ha => ?_⟩, upd_same, (ra6.snoc r6).reblk hp6, er, by rw [← ex, List.append_assoc]; rfl, hs6⟩
                  · rw [upd_ne (ne_of_none e hp)]; exact X16.old a o ha e
                  · by_cases w : a = p
                    · subst w; rw [upd_same]; simp
                    · rw [upd_ne w]; exact X16.cel a ha e
                  · obtain ⟨v, hv, r⟩ := E6.2 j e he
                    exact ⟨v, hv, r.reblk hp6⟩
                  · exact (s6.at_ k a c ea ec).map (upd_ne fun z => hc6 (z ▸ List.mem_of_getElem? ea)) fun r => r.reblk hp6
                  · by_cases w : a = p
                    · subst w; rw [upd_same]; simp
                    · rw [upd_ne w]; exact s6.bl a ha
                · cases el2
              · cases el2
            · rename_i μ4 et
              refine ⟨as4, S3, false, μ4, E4, et, fun as5 H5 X5 s5 => iteF ?_⟩
              have X25 := X24.trans X5 s2.trk
              obtain ⟨h5, hs5⟩ := carry X25 (by rw [hp2]; simp) ⟨hb2, hc2⟩ hsub
              exact ⟨as5, μ4, vs, acc, rest, h5, X2.trans X25 tr0, E2.mv X25, s5, X25.old p _ hc2 hp2, ra.mv X25, el2, ex, hs5⟩
            · cases el2
          · cases el2
        · have hn : i = ds.length := by omega
          subst hn
          rw [List.drop_length] at el2
          obtain ⟨rfl, rfl⟩ := pr_inj el2
          rw [List.append_nil] at ex
          subst ex
          refine .inl ⟨it1.stop as2 H2 X2, q (.ref p) ⟨as2.c, as1.b⟩ H2 (X1.trans ⟨X2.pre, ⟨[], rfl, by simp⟩, X2.old, X2.cel⟩ E.sto.trk) (.lst hp2 ⟨hc2, hpo.2⟩ (ra.unblk hsub)) ⟨s2.len, fun k a c ea ec => (s2.at_ k a c ea ec).map rfl fun r => r.unblk hsub, s2.nd, fun a ha => s2.bl a (hsub a ha)⟩⟩
      · cases e
    · cases e
  · cases e

theorem de_lc {scope : Scope} {own : List (Str × Nat)} (hc : X.calm = true) (hN : X.N.Nodup) (hi : PI X tg iter (tI X.K it)) (ok : BlkOk X.N X.env.scope scope own)
    (hg : ∀ (s : Shared) (H : Hp) (C : Addr) (cl : List (Str × Addr)) (fp : List Addr), PG (X.blk s H scope (compEnvC scope cl C X.env) fp) tg (tG X.K b ix))
    (ht : ∀ (s : Shared) (H : Hp) (C : Addr) (cl : List (Str × Addr)) (fp : List Addr), PTs (X.blk s H scope (compEnvC scope cl C X.env) fp) ifs (tFT X.K t))
    (he : ∀ (s : Shared) (H : Hp) (C : Addr) (cl : List (Str × Addr)) (fp : List Addr), PE (X.blk s H scope (compEnvC scope cl C X.env) fp) elt (tF X.K f))
    (hix : ∀ j ∈ ix, j ∈ own.map (·.2) := by decide) (hs : ∀ x, foldedSetIterable iter X.env x = pure x := by intro _; rfl) :
    PE X (.ListComp elt [⟨tg, iter, ifs, 0⟩] scope pos) (tF X.K (fLc it b t f (own.map (·.2)))) := (pe_lc hc hN hi ok hg ht he hs).imp (tF_lc hix)
theorem ds_setLc {i : Nat} {y : Str} {py spos : Pos} {scope : Scope} {own : List (Str × Nat)} (hc : X.calm = true) (hN : X.N.Nodup) (hy : X.N[i]? = some y) (hyl : X.env.scope.names.lookup y = some .local)
    (hsw : swapsWith (.ListComp elt [⟨tg, iter, ifs, 0⟩] scope pos) (some (.Name y py)) spos.line X.env = pure true) (hi : PI X tg iter (tI X.K it)) (ok : BlkOk X.N X.env.scope scope own)
    (hg : ∀ (s : Shared) (H : Hp) (C : Addr) (cl : List (Str × Addr)) (fp : List Addr), PG (X.blk s H scope (compEnvC scope cl C X.env) fp) tg (tG X.K b ix))
    (ht : ∀ (s : Shared) (H : Hp) (C : Addr) (cl : List (Str × Addr)) (fp : List Addr), PTs (X.blk s H scope (compEnvC scope cl C X.env) fp) ifs (tFT X.K t))
    (he : ∀ (s : Shared) (H : Hp) (C : Addr) (cl : List (Str × Addr)) (fp : List Addr), PE (X.blk s H scope (compEnvC scope cl C X.env) fp) elt (tF X.K f))
    (hix : ∀ j ∈ ix, j ∈ own.map (·.2) := by decide) (hs : ∀ x, foldedSetIterable iter X.env x = pure x := by intro _; rfl) :
    PS X (.Assign [.Name y py] (.ListComp elt [⟨tg, iter, ifs, 0⟩] scope pos) spos) (tFS X.K X.mg W (bThen (bName i) (fLc it b t f (own.map (·.2))))) :=
  (ps_setLc hc hN hy hyl hsw hi ok hg ht he hs).imp fun D σ H z => tF_lc hix σ H _ (bThen_of (g := gName i) gName_of D σ H z)
end

/-! ### defs -/
abbrev FnF := List D → List Cell → Option (Ov × List Cell)
/-- what is wished of an exception, by its name -/
def outD (K : PySem.W.Frag) (mg : Str → Option Value) (as : Ar) (H : Hp) (Q : VK) (E : XK) : Ov → List Cell → Prop
  | .v d, μ' => ∀ v as' H', Ext as H as' H' → Rep K as' H' v d → StoR K as' H' μ' → Q v H'
  | .x n p, μ' => ∀ as' H' C dx, Ext as H as' H' → StoR K as' H' μ' → mg n = some C → XR dx p → E C dx H'
def spD (K : PySem.W.Frag) (mg : Str → Option Value) (n : Nat) (F : FnF) : Sp := fun vs H Q E => ∃ as μ ds o μ', vs.length = n ∧ Reps K as H vs ds ∧ StoR K as H μ ∧ F ds μ = some (o, μ') ∧ outD K mg as H Q E o μ'
def fnF (n N : Nat) (body : EvS) : FnF := fun ds μ => match body ⟨ds.map some ++ List.replicate (N - n) none, μ⟩ with
  | some (.rt d, S') => some (.v d, S'.μ)
  | some (.nx, S') => some (.v .non, S'.μ)
  | some (.ex n p, S') => some (.x n p, S'.μ)
  | _ => none
/-- a def keeps its promise wherever nothing that guards runs around it -/
structure FG (P : Program) (w : World) (K : PySem.W.Frag) (mg : Str → Option Value) (base : Heap) (k : Nat) (f : Addr) (fd : FuncData) (n : Nat) (F : FnF) : Prop where
  ps : ∃ ps : List Str, ps.length = n ∧ Binds K fd ps [] ∧ PySem.W.keepIn K (.ref f) = true ∧
    ∀ (A : Around) (stk : List Env) (st : Shared) (H : Hp) (ar : Args) (us : List Value) (vs : List V) (Q : VK) (E : XK), Room k A → A.guards = some [] → Env0 P w K mg base A stk st H → BindsTo st fd ar (ps.zip us) → Vals vs us → spD K mg n F vs H Q E →
      codeAny (model P w) A (.call (.ref f) ar) (CR (CX P w) stk P w H st Q E) st
theorem FG.mono {P : Program} {w : World} {K : PySem.W.Frag} {mg : Str → Option Value} {base : Heap} {j k : Nat} {f : Addr} {fd : FuncData} {n : Nat} {F : FnF} (h : FG P w K mg base j f fd n F) (hk : j ≤ k) : FG P w K mg base k f fd n F := by
  obtain ⟨ps, a, b, c, q⟩ := h.ps
  exact ⟨ps, a, b, c, fun A stk st H ar us vs Q E hr => q A stk st H ar us vs Q E (hr.mono hk)⟩
section
variable {P : Program} {w : World} {K : PySem.W.Frag} {mg : Str → Option Value} {base : Heap}
theorem guards_deeper {A : Around} {env : Env} (h : A.guards = some []) : (A.deeper env).guards = some [] := h
abbrev cxB (P : Program) (w : World) (K : PySem.W.Frag) (mg : Str → Option Value) (base : Heap) (N : List Str) (qual : Str) (st : Stmt) (f : Addr) (cdv : Value) (A : Around) (stk : List Env) (s : Shared) (H : Hp) (E : XK) : Cx :=
  cxOf (CX P w) P w K mg base N qual (defScope st) f cdv A stk s H E
/-- a def's own wish -/
abbrev WfD (E : XK) : WX := fun cls d _ H => E cls d H
theorem takesB {N : List Str} {qual : Str} {st : Stmt} {f : Addr} {cdv : Value} {A : Around} {stk : List Env} {s : Shared} {H : Hp} {E : XK} : Takes (cxB P w K mg base N qual st f cdv A stk s H E) (WfD E) :=
  takes_of (X := cxB P w K mg base N qual st f cdv A stk s H E) rfl rfl rfl rfl
theorem passB {N : List Str} {qual : Str} {st : Stmt} {f : Addr} {cdv : Value} {A : Around} {stk : List Env} {s : Shared} {H : Hp} {E : XK} : PassesOwn (model P w) (cxB P w K mg base N qual st f cdv A stk s H E).A (cxB P w K mg base N qual st f cdv A stk s H E).env (cxB P w K mg base N qual st f cdv A stk s H E).xe :=
  passes_of (X := cxB P w K mg base N qual st f cdv A stk s H E) rfl
theorem fg_def {x qual : Str} {st : Stmt} {f : Addr} {fd : FuncData} {N ps : List Str} {k : Nat} {g : EvS} (Fu : Fun K x qual st f fd) (S : FnScope N ps (defScope st))
    (hB : ∀ (kV doc pm : Value) (an : Option Addr) (cdv ct : Value) (us : List Value), us.length = ps.length → bindArgs (PySem.W.fnOf x qual (defArgs st) (defBody st) (defScope st) .none kV doc pm an cdv ct) ⟨us, []⟩ = pure (ps.zip us))
    (hbody : ∀ (cdv : Value) (A : Around) (stk : List Env) (s : Shared) (H : Hp) (E : XK), Room k (cxB P w K mg base N qual st f cdv A stk s H E).A → (cxB P w K mg base N qual st f cdv A stk s H E).A.guards = some [] → PSs (cxB P w K mg base N qual st f cdv A stk s H E) (defBody st) (tFS K mg (WfD E) g)) :
    FG P w K mg base (k + 1) f fd ps.length (fnF ps.length N.length g) := by
  refine ⟨⟨ps, rfl, Fu.binds hB, Fu.kp, fun A stk st' H ar us vs Q E hr hgd e0 hbind r hsp => ?_⟩⟩
  obtain ⟨oc, od, kV, doc, pm, an, cdv, ct, osl, rfl, lk, hcd⟩ := Fu.ex
  obtain ⟨as, μ, ds, o, μ', hl, rs, sto, ef, q⟩ := hsp
  have KX : K.In st'.heap := e0.mod.kin.keeps fun b o e => (e0.bs b o e).1
  have nolim : st'.heap.NoLimit := e0.mod.nolimit.keeps fun b o e => (e0.bs b o e).1
  have seen : ∀ y ∈ ps.zip us, (defScope st).names.lookup y.1 = some .local ∨ ((defScope st).names.lookup y.1 = some .cell ∧ ((cellsFrom (st'.heap.objs.size + 1) (defScope st).names []).lookup y.1).isSome = true) := fun ⟨n, v⟩ hy =>
    (S.par n (List.of_mem_zip hy).1).elim .inl fun c => .inr ⟨c, PySem.W.cellsFrom_some _ _ _ (.inl c)⟩
  refine codeAny_call_function hr.depth (KX _ _ lk) rfl S.co S.gen rfl (PySem.W.codeRec_of KX hcd) (hbind _ _ _ _ ?_)
  refine wpAny_newFunctionEnv_cells S.kind seen fun env he s1 ic => ?_
  subst he
  refine ⟨nolim.keeps ic.toInCall.keep, codeAny_func ?_⟩
  have I0 : Inv (cxB P w K mg base N qual st f cdv A stk st' H E) [] (L2.start N vs) H s1 := inv_start S hr.hd e0 hl r ic
  have hps : ps.length ≤ N.length := by
    have c := congrArg List.length S.pre
    rw [List.length_take] at c
    omega
  have hb := hbody cdv A stk st' H E (hr.deeper _) (guards_deeper hgd)
  -- the entry: the parameters' data
  have en : EnvR K as H (L2.start N vs) (ds.map some ++ List.replicate (N.length - ps.length) none) := by
    refine ⟨?_, fun i d' e => ?_⟩
    · unfold L2.start
      rw [List.length_append, List.length_append, List.length_map, List.length_map, List.length_replicate, List.length_replicate, rs.length, ← hl, rs.length]
    · unfold L2.start
      by_cases hi : i < ds.length
      · rw [List.getElem?_append_left (by simpa using hi), List.getElem?_map] at e
        obtain ⟨d2, e2, e3⟩ := Option.map_eq_some_iff.mp e
        cases e3
        obtain ⟨v, hv, rv⟩ := rs.get e2
        refine ⟨v, ?_, rv⟩
        rw [List.getElem?_append_left (by rw [List.length_map, rs.length]; exact hi), List.getElem?_map, hv]
        rfl
      · rw [List.getElem?_append_right (by simpa using hi), List.getElem?_replicate] at e
        split at e <;> cases e
  obtain ⟨fl, S', eg, hq⟩ : ∃ fl S', g ⟨ds.map some ++ List.replicate (N.length - ps.length) none, μ⟩ = some (fl, S') ∧ endS K mg (WfD E) as H { nx := fun _ H' => Q .non H', rt := Q } fl S' := by
    unfold fnF at ef
    split at ef
    · rename_i d2 S2 e2
      obtain ⟨rfl, rfl⟩ := pr_inj ef
      exact ⟨.rt d2, S2, e2, fun as' v H' X' rv s' => q v as' H' X' rv s'⟩
    · rename_i S2 e2
      obtain ⟨rfl, rfl⟩ := pr_inj ef
      exact ⟨.nx, S2, e2, fun as' σ' H' X' E' => q .non as' H' X' .non E'.sto⟩
    · rename_i n2 p2 S2 e2
      obtain ⟨rfl, rfl⟩ := pr_inj ef
      exact ⟨.ex n2 p2, S2, e2, fun as' σ' H' C dx X' E' ec xr => q as' H' C dx X' E'.sto ec xr⟩
    · cases ef
  refine wpAny_mono (hb.run [] s1 (L2.start N vs) H { nx := fun _ H' => Q .non H', rt := Q } I0 ⟨as, ⟨_, μ⟩, fl, S', ⟨en, sto⟩, eg, hq⟩) (fun fl' s' z => ?_) fun e s' z => z
  cases fl' with
  | ret u =>
    obtain ⟨v, σ', H', J, rv, y⟩ := z
    exact ⟨v, H', J.os, J.bare, J.base, J.hok, rv, y⟩
  | next =>
    obtain ⟨σ', H', J, y⟩ := z
    exact ⟨.non, H', J.os, J.bare, J.base, J.hok, rfl, y⟩
  | brk =>
    obtain ⟨_, _, _, y⟩ := z
    exact y.elim
  | cont =>
    obtain ⟨_, _, _, y⟩ := z
    exact y.elim
end
/-! ### calls -/
section
variable {X : Cx} {k n : Nat} {f : Addr} {fd : FuncData} {F : FnF} {x : Str} {p pos : Pos} {e : Expr} {es : List Expr} {fs : EvA} {W : WX}
theorem run_fg {pins : List (Addr × Obj)} {σ : St} {H : Hp} {s : Shared} {Q : VK} {E : XK} {us : List Value} {vs : List V} (G : FG X.prog X.w X.K X.mg X.base k f fd n F) (hr : Room k X.A) (hgd : X.A.guards = some [])
    (I : Inv X pins σ H s) (r : Vals vs us) (hx : PassesAt (L2.CX X.prog X.w) X σ E) (h : spD X.K X.mg n F vs H Q E) : PySem.W.keepIn X.K (.ref f) = true ∧ wpAny (model X.prog X.w) X.A (call (.ref f) us) (EP X pins σ Q) X.xe s := by
  obtain ⟨ps, hn, hb, hk, run⟩ := G.ps
  refine ⟨hk, ?_⟩
  have hl : (us ++ []).length = ps.length := by
    obtain ⟨as, μ, ds, d, μ', hl, _⟩ := h
    rw [List.append_nil, ← r.length, hl, hn]
  have q := run X.A X.stack s H ⟨us, []⟩ (us ++ []) vs Q E hr hgd I.env0 (hb s us I.kIn hl) (by rw [List.append_nil]; exact r) h
  refine wpAny_call (codeAny_mono q fun res s' hq => ?_)
  cases res with
  | error e => exact hx pins H s e s' I hq
  | ok fl => cases fl with
    | ret u => exact I.after hq
    | _ => exact False.elim hq
theorem passF {σ : St} : PassesAt (L2.CX X.prog X.w) X σ (fun _ _ _ => False) := fun _ _ _ _ _ _ ⟨_, _, _, _, _, _, _, _, _, _, _, _, z⟩ => z.elim
def fCallX (F : FnF) (fs : EvA) : EvX := fun S => match fs S with
  | some (ds, μ1) => F ds μ1
  | none => none
def fCall (F : FnF) (fs : EvA) : EvE := fNox (fCallX F fs)
def fLen (n : Nat) (fs : EvA) : EvA := fun S => match fs S with
  | some (ds, μ1) => if ds.length = n then some (ds, μ1) else none
  | none => none
theorem fCallX_out {S : Sg} {o : Ov} {μ' : List Cell} (e : fCallX F (fLen n fs) S = some (o, μ')) : ∃ ds μ1, fs S = some (ds, μ1) ∧ ds.length = n ∧ F ds μ1 = some (o, μ') := by
  unfold fCallX fLen at e
  split at e
  · rename_i ds μ1 e1
    split at e1
    · rename_i ds' μ1' es
      split at e1
      · rename_i hn
        obtain ⟨rfl, rfl⟩ := pr_inj e1
        exact ⟨_, _, es, hn, e⟩
      · cases e1
    · cases e1
  · cases e
/-- a call whose arguments are read, of any end -/
theorem call_any {pins : List (Addr × Obj)} {s : Shared} {σ : St} {H : Hp} {Q : VK} {E : XK} {as : Ar} {S : Sg} {o : Ov} {μ' : List Cell} (G : FG X.prog X.w X.K X.mg X.base k f fd n F) (hr : Room k X.A) (hgd : X.A.guards = some []) (hg : Gl X x) (hm : X.mg x = some (.ref f)) (ha : PA X (e :: es) (tFA X.K fs)) (hdb : (x == ("__debug__" : Str)) = false)
    (he : starEach (e :: es) X.env = (false, eval e X.env) :: starEach es X.env) (hpl : (backTo pos (starEach es X.env)).any (·.1) = false) (I : Inv X pins σ H s) (ee : ER X.K as σ H S) (ed : fCallX F (fLen n fs) S = some (o, μ')) (hx : PassesAt (L2.CX X.prog X.w) X σ E) (q : outD X.K X.mg as H Q E o μ') :
    wpAny (model X.prog X.w) X.A (eval (.Call (.Name x p) (e :: es) [] pos) X.env) (EP X pins σ Q) X.xe s := by
  obtain ⟨ps, _, _, hk, _⟩ := G.ps
  obtain ⟨ds, μ1, ea, hn, ef⟩ := fCallX_out ed
  refine wpAny_Call_Name_kw (ld_glob I hg hm ?_ hdb)
  refine PySem.W.callWith_K (h₀ := X.base) I.ok.mod.kin hk (thn (ha.run pos pins s σ H (fun vs H1 => spD X.K X.mg n F vs H1 Q E) I ⟨as, S, _, _, ee, ea, fun vs as1 H1 X1 r1 s1 => ?_⟩) fun us s1 ⟨vs, H1, I1, r1, q1⟩ => ⟨I1.kIn, (run_fg G hr hgd I1 r1 hx q1).2⟩) he hpl
  refine ⟨as1, _, _, o, μ', r1.length.trans hn, r1, s1, ef, ?_⟩
  cases o with
  | v d => exact fun v as2 H2 X2 r2 s2 => q v as2 H2 (X1.trans X2 ee.sto.trk) r2 s2
  | x m pp => exact fun as2 H2 C dx X2 s2 ec xr => q as2 H2 C dx (X1.trans X2 ee.sto.trk) s2 ec xr
theorem de_call (G : FG X.prog X.w X.K X.mg X.base k f fd n F) (hr : Room k X.A) (hgd : X.A.guards = some []) (hg : Gl X x) (hm : X.mg x = some (.ref f)) (ha : PA X (e :: es) (tFA X.K fs)) (hdb : (x == ("__debug__" : Str)) = false := by decide)
    (he : starEach (e :: es) X.env = (false, eval e X.env) :: starEach es X.env := by rfl) (hpl : (backTo pos (starEach es X.env)).any (·.1) = false := by rfl) :
    PE X (.Call (.Name x p) (e :: es) [] pos) (tF X.K (fCall F (fLen n fs))) :=
  ⟨fun pins s σ H Q I ⟨as, S, d, μ', E, ed, q⟩ => call_any G hr hgd hg hm ha hdb he hpl I E (fNox_out ed) passF q⟩
theorem de_callX (tk : Takes X W) (G : FG X.prog X.w X.K X.mg X.base k f fd n F) (hr : Room k X.A) (hgd : X.A.guards = some []) (hg : Gl X x) (hm : X.mg x = some (.ref f)) (ha : PA X (e :: es) (tFA X.K fs)) (hdb : (x == ("__debug__" : Str)) = false := by decide)
    (he : starEach (e :: es) X.env = (false, eval e X.env) :: starEach es X.env := by rfl) (hpl : (backTo pos (starEach es X.env)).any (·.1) = false := by rfl) :
    PE X (.Call (.Name x p) (e :: es) [] pos) (tFX X.K X.mg W (fCallX F (fLen n fs))) :=
  ⟨fun pins s σ H Q I ⟨as, S, o, μ', E, ed, q⟩ => call_any (E := L2.WE W σ) G hr hgd hg hm ha hdb he hpl I E ed (passAt tk σ) (by
    cases o with
    | v d => exact q
    | x m pp => exact q)⟩
theorem call_any0 {pins : List (Addr × Obj)} {s : Shared} {σ : St} {H : Hp} {Q : VK} {E : XK} {as : Ar} {S : Sg} {o : Ov} {μ' : List Cell} (G : FG X.prog X.w X.K X.mg X.base k f fd 0 F) (hr : Room k X.A) (hgd : X.A.guards = some []) (hg : Gl X x) (hm : X.mg x = some (.ref f)) (hdb : (x == ("__debug__" : Str)) = false)
    (I : Inv X pins σ H s) (ee : ER X.K as σ H S) (ed : fCallX F fNil S = some (o, μ')) (hx : PassesAt (L2.CX X.prog X.w) X σ E) (q : outD X.K X.mg as H Q E o μ') :
    wpAny (model X.prog X.w) X.A (eval (.Call (.Name x p) [] [] pos) X.env) (EP X pins σ Q) X.xe s := by
  obtain ⟨ps, _, _, hk, _⟩ := G.ps
  refine wpAny_Call_Name_kw (ld_glob I hg hm ?_ hdb)
  exact PySem.W.callWith_K0 I.kIn hk (run_fg (us := []) (vs := []) G hr hgd I .nil hx ⟨as, S.μ, [], o, μ', rfl, .nil, ee.sto, ed, q⟩).2
theorem de_call0 (G : FG X.prog X.w X.K X.mg X.base k f fd 0 F) (hr : Room k X.A) (hgd : X.A.guards = some []) (hg : Gl X x) (hm : X.mg x = some (.ref f)) (hdb : (x == ("__debug__" : Str)) = false := by decide) :
    PE X (.Call (.Name x p) [] [] pos) (tF X.K (fCall F fNil)) :=
  ⟨fun pins s σ H Q I ⟨as, S, d, μ', E, ed, q⟩ => call_any0 G hr hgd hg hm hdb I E (fNox_out ed) passF q⟩
theorem de_callX0 (tk : Takes X W) (G : FG X.prog X.w X.K X.mg X.base k f fd 0 F) (hr : Room k X.A) (hgd : X.A.guards = some []) (hg : Gl X x) (hm : X.mg x = some (.ref f)) (hdb : (x == ("__debug__" : Str)) = false := by decide) :
    PE X (.Call (.Name x p) [] [] pos) (tFX X.K X.mg W (fCallX F fNil)) :=
  ⟨fun pins s σ H Q I ⟨as, S, o, μ', E, ed, q⟩ => call_any0 (E := L2.WE W σ) G hr hgd hg hm hdb I E ed (passAt tk σ) (by
    cases o with
    | v d => exact q
    | x m pp => exact q)⟩
end
end DL
namespace DL
open PySem PySem.Spec PyProof.Rows L2
/-! ### the law's own call -/
theorem room_caller : callerA.guards = some [] := rfl
theorem law_data {P : Program} {w : World} {K : PySem.W.Frag} {mg mb : Str → Option Value} {k : Nat} {fa a : Addr} {fd : FuncData} {F : FnF} {s : Shared} {us : List Value} {ns : List Int}
    (kin : K.In s.heap) (gl : s.heap.Ns mainGlobals mg) (bl : s.heap.Ns builtinsNs mb) (bb : ∀ x : Str, x ≠ "__name__" → mb x = bootBuiltins x) (nl : s.heap.NoLimit) (gens : s.gens = #[])
    (hobj : s.heap.get? a = some { cls := .type "list", data := .seq us.toArray }) (hints : IntsAre us ns) (few : ns.length ≤ sizeLine) (hr : Room k callerA)
    (G : ∀ base : Heap, K.In base → base.Ns mainGlobals mg → FG P w K mg base k fa fd 1 F)
    (val : ∃ μ', F [.rl (ns.map D.int)] [] = some (.v (.bl true), μ')) :
    codeAny (model P w) callerA (.call (.ref fa) ⟨[.ref a], []⟩) (fun r s' => r = .ok (.ret (.bool true)) ∧ OldK s.heap s'.heap ∧ s'.os = s.os ∧ AllBare s'.gens) s := by
  have rv := vals_ints hints
  obtain ⟨μ', val⟩ := val
  -- an abstract heap that tracks the script alone, or nothing
  have core : ∀ H : Hp, (∀ b u, H b = some u → b = a ∧ ∃ o vs, u = .frz o (.lst vs)) → TrL K ⟨[], []⟩ H a (ns.map V.int) → HOk P w H s.heap → (H a ≠ none → K.lookup a = none) →
      codeAny (model P w) callerA (.call (.ref fa) ⟨[.ref a], []⟩) (fun r s' => r = .ok (.ret (.bool true)) ∧ OldK s.heap s'.heap ∧ s'.os = s.os ∧ AllBare s'.gens) s := by
    intro H only tr hok hK
    have hid : ∀ {b : Addr} {o : Obj}, s.heap.get? b = some o → H b = none → (hidT s.heap H).get? b = some o := fun e n => hidT_get e n
    have free : ∀ {b : Addr} {o : Obj} {es : Array DictEntry} {ep : Nat}, s.heap.get? b = some o → o.data = .dict es ep → H b = none := fun {b o es ep} e d => by
      cases q : H b with
      | none => rfl
      | some u =>
        obtain ⟨rfl, _⟩ := only b u q
        rw [hobj] at e
        cases e
        cases d
    have ns1 : ∀ {b : Addr} {m : Str → Option Value}, s.heap.Ns b m → (hidT s.heap H).Ns b m := fun {b m} ⟨o, es, ep, e, d, r⟩ => ⟨o, es, ep, hid e (free e d), d, r⟩
    have kin1 : K.In (hidT s.heap H) := fun b o e => hid (kin b o e) (by
      cases q : H b with
      | none => rfl
      | some u =>
        obtain ⟨rfl, _⟩ := only b u q
        have z := hK (by rw [q]; simp)
        rw [z] at e
        cases e)
    have md : Mod K mg (hidT s.heap H) := ⟨kin1, ns1 gl, ⟨mb, ns1 bl, bb⟩, nl.elim fun mc z => ⟨mc, ns1 z.1, z.2⟩⟩
    have en : Env0 P w K mg (hidT s.heap H) callerA [] s H := ⟨rfl, md, fun b o e => of_hidT e, by rw [hidT_size]; exact Nat.le_refl _, trivial, fun b hb => (List.not_mem_nil hb).elim, hok, .of_eq gens⟩
    obtain ⟨ps, hn, hb, hk, run⟩ := (G _ kin1 (ns1 gl)).ps
    have hbd : BindsTo s fd ⟨[.ref a], []⟩ (ps.zip [.ref a]) := by
      have z := hb s [.ref a] kin (by simp [hn])
      simpa using z
    refine codeAny_mono (run callerA [] s H ⟨[.ref a], []⟩ [.ref a] [.ref a] (fun v _ => v = .bl true) (fun _ _ _ => False) hr room_caller en hbd (.cons rfl .nil)
      ⟨⟨[], []⟩, [], [.rl (ns.map D.int)], .v (.bl true), μ', rfl, .cons (.rl tr Reps.ints) .nil, ⟨rfl, fun k b c e => by simp at e, List.nodup_nil, fun b hb => (List.not_mem_nil hb).elim⟩, val, fun v as' H' X' r s' => by cases r; rfl⟩) fun r s' h => ?_
    cases r with
    | error e =>
      obtain ⟨_, _, _, _, _, _, _, _, _, _, _, _, z⟩ := h
      exact z.elim
    | ok fl => cases fl with
      | ret u =>
        obtain ⟨v, H', eos, bare, un, hok', ru, q⟩ := h
        subst q
        cases ru
        refine ⟨rfl, OldK.of_keep fun b o e => ?_, eos, bare⟩
        cases z : H b with
        | none => exact un.keep b o e z (fun y => (List.not_mem_nil y).elim) (by simp)
        | some u =>
          obtain ⟨rfl, ob, vs, rfl⟩ := only b u z
          obtain ⟨e1, _⟩ := hok b _ z
          obtain ⟨e2, _⟩ := hok' b _ (un.frzs b ob _ z)
          rw [e] at e1
          cases e1
          exact e2
      | _ => exact False.elim h
  have lenV : ns.length = us.length := by
    have z := rv.length
    rw [List.length_map] at z
    exact z
  cases hk : K.lookup a with
  | some o =>
    have e := kin a o hk
    rw [hobj] at e
    cases e
    refine core (fun _ => none) (fun b u z => nomatch (show none = some u from z)) (.inr fun H' => .inr ⟨_, us.toArray, _, hk, rfl, rfl, rfl, by rw [List.size_toArray, ← lenV]; exact few, by simpa using rv⟩) (fun b u z => nomatch (show none = some u from z)) fun z => absurd rfl z
  | none =>
    have at1 : ∀ b u, (fun b : Addr => if b = a then some (HO.frz { cls := .type "list", data := .seq us.toArray } (.lst (ns.map V.int))) else none) b = some u → b = a ∧ u = HO.frz { cls := .type "list", data := .seq us.toArray } (.lst (ns.map V.int)) := fun b u z => by
      by_cases hb : b = a
      · exact ⟨hb, (Option.some.inj ((if_pos hb).symm.trans z)).symm⟩
      · exact nomatch ((if_neg hb).symm.trans z)
    refine core (fun b => if b = a then some (.frz { cls := .type "list", data := .seq us.toArray } (.lst (ns.map V.int))) else none) (fun b u z => ⟨(at1 b u z).1, _, _, (at1 b u z).2⟩) (.inl ⟨.inr ⟨_, if_pos rfl⟩, List.not_mem_nil, List.not_mem_nil⟩) (fun b u z => ?_) fun _ => hk
    obtain ⟨rfl, rfl⟩ := at1 b u z
    exact ⟨hobj, by rw [List.length_map]; exact few, us, _, rv, hobj⟩
theorem walkD {l : PySem.W.OpenLaw} {n k : Nat} {q : Program} {loose : List Str} {XP : (Str → Option Value) → Heap → Prop} {YP : World → Heap → Prop} {d : DefRec} {K : Params → PySem.W.Frag} {F : FnF}
    (hn : l.most = some n) (hn2 : n ≤ sizeLine) (hdf : d.params.defaults = []) (hr : Room k callerA) (hY : ∀ (w : World) (h : Heap), YP w h → (K w.params).In h)
    (G : ∀ (w : World) (mg : Str → Option Value) (fa : Addr) (h : Heap), (K w.params).In h → h.Ns mainGlobals mg → mg d.name = some (.ref fa) →
      ∃ fd : FuncData, ∀ base : Heap, (K w.params).In base → base.Ns mainGlobals mg → FG l.prog w (K w.params) mg base k fa fd 1 F)
    (val : ∀ ns : List Int, ns.length ≤ n → ∃ μ', F [.rl (ns.map D.int)] [] = some (.v (.bl true), μ')) :
    PySem.W.WalkO q loose XP YP l.row.toRowW d [] (fun f vs => PySem.call f vs) :=
  Att.attach_call hn hdf fun w s₀ s₁ mg mb fa o pm cd doc a vs ns T Y ho hd hcd hmg hobj hints hlen gens => by
    have kin := hY w _ Y
    obtain ⟨fd, hF⟩ := G w mg fa _ kin T.T.g hmg
    exact law_data kin T.T.g T.T.b T.T.builtins T.T.nolimit gens hobj hints (Nat.le_trans hlen hn2) hr hF (val ns hlen)
end DL
namespace DL
open PySem L2
section
variable {X : Cx} {o a : Expr} {es : List Expr} {fa fb : EvE} {fs : EvA} {name : Str} {apos cpos pos : Pos}
theorem sm_rule {id : String} {C : Str → Prop} {P : Str → Bool} {g : Str → V} {gd : Str → D} (h : MtR X id (fun x xs H Q => ∃ z, x = .str z ∧ xs = [] ∧ C z ∧ Q (g z) H)) (hC : ∀ z, P z = true → C z) (hg : ∀ z as H, Rep X.K as H (g z) (gd z)) :
    MtR X id (fun x xs H Q => ∃ z, x = .str z ∧ xs = [] ∧ P z = true ∧ ∀ v, (∀ as, Rep X.K as H v (gd z)) → Q v H) := fun pins s σ H x xs v us Q I rx rs ⟨z, e1, e2, e3, q⟩ =>
  h pins s σ H x xs v us Q I rx rs ⟨z, e1, e2, hC z e3, q _ fun as => hg z as H⟩
def dUpper : D → List Cell → Option D := dS0 (fun z => decide (z.length ≤ 5592405)) fun z => .str (Txt.upper z)
def dIsascii : D → List Cell → Option D := dS0 (fun _ => true) fun z => .bl (Txt.isascii z)
def dIsalpha : D → List Cell → Option D := dS0 (fun _ => true) fun z => .bl (Txt.isalpha z)
def dIslower : D → List Cell → Option D := dS0 (fun _ => true) fun z => .bl (Txt.islower z)
theorem de_upper (ho : PE X o (tF X.K fa)) (hbase : attributeBase o "upper" X.env (eval o X.env) = eval o X.env := by rfl) (hline : (apos.endLine == cpos.line) = true := by rfl) :
    PE X (.Call (.Attribute o "upper" apos) [] [] cpos) (tF X.K (fU dUpper fa)) :=
  de_sm0 PySem.F.slot_str_upper PySem.F.type_str_upper (sm_rule (mt_upper (X := X)) (fun z h => of_decide_eq_true h) fun z as H => .str _) ho hbase hline
theorem de_isascii (ho : PE X o (tF X.K fa)) (hbase : attributeBase o "isascii" X.env (eval o X.env) = eval o X.env := by rfl) (hline : (apos.endLine == cpos.line) = true := by rfl) :
    PE X (.Call (.Attribute o "isascii" apos) [] [] cpos) (tF X.K (fU dIsascii fa)) :=
  de_sm0 PySem.F.slot_str_isascii PySem.F.type_str_isascii (sm_rule (mt_isascii (X := X)) (fun _ _ => trivial) fun z as H => .bl _) ho hbase hline
theorem de_isalpha (ho : PE X o (tF X.K fa)) (hbase : attributeBase o "isalpha" X.env (eval o X.env) = eval o X.env := by rfl) (hline : (apos.endLine == cpos.line) = true := by rfl) :
    PE X (.Call (.Attribute o "isalpha" apos) [] [] cpos) (tF X.K (fU dIsalpha fa)) :=
  de_sm0 PySem.F.slot_str_isalpha PySem.F.type_str_isalpha (sm_rule (mt_isalpha (X := X)) (fun _ _ => trivial) fun z as H => .bl _) ho hbase hline
theorem de_islower (ho : PE X o (tF X.K fa)) (hbase : attributeBase o "islower" X.env (eval o X.env) = eval o X.env := by rfl) (hline : (apos.endLine == cpos.line) = true := by rfl) :
    PE X (.Call (.Attribute o "islower" apos) [] [] cpos) (tF X.K (fU dIslower fa)) :=
  de_sm0 PySem.F.slot_str_islower PySem.F.type_str_islower (sm_rule (mt_islower (X := X)) (fun _ _ => trivial) fun z as H => .bl _) ho hbase hline
/-- all of them texts -/
def strsOf : List D → Option (List Str)
  | [] => some []
  | .str z :: r => (strsOf r).map (z :: ·)
  | _ :: _ => none
theorem strs_ok {K : PySem.W.Frag} {as : Ar} {H : Hp} : ∀ {vs : List V} {ds : List D} {zs : List Str}, Reps K as H vs ds → strsOf ds = some zs → vs = zs.map V.str
  | _, _, _, .nil, e => by cases e; rfl
  | _, d :: ds, _, .cons h t, e => by
    cases d with
    | str z =>
      simp only [strsOf] at e
      obtain ⟨r, er, rfl⟩ := Option.map_eq_some_iff.mp e
      cases h
      rw [List.map_cons, strs_ok t er]
    | _ => cases e
/-- the items of a list or a tuple -/
def asSq : D → List Cell → Option (List D)
  | .tup xs, _ => some xs
  | d, μ => asSL d μ
theorem asSq_ok {K : PySem.W.Frag} {as : Ar} {H : Hp} {v : V} {d : D} {μ : List Cell} {xs : List D} (r : Rep K as H v d) (s : StoR K as H μ) (e : asSq d μ = some xs) : ∃ a vs, v = .ref a ∧ (SqL K H a vs ∨ SqT K H a vs) ∧ Reps K as H vs xs := by
  unfold asSq at e
  split at e
  · cases r with
    | tup t rs => cases Option.some.inj e; exact ⟨_, _, rfl, .inr t.sq, rs⟩
  · obtain ⟨a, vs, h1, h2, h3⟩ := asSL_ok r s e
    exact ⟨a, vs, h1, .inl h2, h3⟩
def dJoin : D → D → List Cell → Option D
  | .str z, d, μ => match asSq d μ with
    | some xs => match strsOf xs with
      | some zs => if (zs.map (·.length)).sum + zs.length * z.length ≤ 16777216 then some (.str (Txt.join z zs)) else none
      | none => none
    | none => none
  | _, _, _ => none
theorem dJoin_out {x y z : D} {μ : List Cell} (e : dJoin x y μ = some z) : ∃ t xs zs, x = .str t ∧ asSq y μ = some xs ∧ strsOf xs = some zs ∧ (zs.map (·.length)).sum + zs.length * t.length ≤ 16777216 ∧ z = .str (Txt.join t zs) := by
  unfold dJoin at e
  split at e
  · split at e
    · rename_i h1
      split at e
      · rename_i h2
        split at e
        · rename_i h3
          exact ⟨_, _, _, rfl, h1, h2, h3, (Option.some.inj e).symm⟩
        · cases e
      · cases e
    · cases e
  · cases e
theorem fB_out {g : D → D → List Cell → Option D} {S : Sg} {d : D} {μ' : List Cell} (e : fB g fa fb S = some (d, μ')) : ∃ x μ1 y, fa S = some (x, μ1) ∧ fb { S with μ := μ1 } = some (y, μ') ∧ g x y μ' = some d := by
  unfold fB at e
  split at e
  · rename_i x μ1 ea
    split at e
    · rename_i y μ2 eb
      split at e
      · rename_i z ez
        obtain ⟨rfl, rfl⟩ := pr_inj e
        exact ⟨x, μ1, y, ea, eb, ez⟩
      · cases e
    · cases e
  · cases e
theorem de_join (ho : PE X o (tF X.K fa)) (he : PE X a (tF X.K fb)) (hs : starEach [a] X.env = [(false, eval a X.env)] := by rfl) (hbase : attributeBase o "join" X.env (eval o X.env) = eval o X.env := by rfl) (hline : (apos.endLine == cpos.line) = true := by rfl) :
    PE X (.Call (.Attribute o "join" apos) [a] [] cpos) (tF X.K (fB dJoin fa fb)) := (pe_join ho he hs hbase hline).imp fun σ H Q ⟨as, S, d, μ', E, e, q⟩ => by
  obtain ⟨x, μ1, y, ea, eb, ez⟩ := fB_out e
  obtain ⟨t, xs, zs, rfl, h1, h2, h3, rfl⟩ := dJoin_out ez
  refine ⟨as, S, _, μ1, E, ea, fun v as1 H1 X1 r1 s1 => ?_⟩
  cases r1
  refine ⟨⟨t, rfl⟩, as1, _, y, μ', E.mvE X1 s1, eb, fun w as2 H2 X2 r2 s2 => ?_⟩
  obtain ⟨p, vs, rfl, hq, rs⟩ := asSq_ok r2 s2 h1
  have ev := strs_ok rs h2
  subst ev
  exact ⟨t, p, zs, rfl, rfl, hq, h3, q _ as2 H2 (X1.trans X2 E.sto.trk) (.str _) s2⟩
theorem de_dct0 : PE X (.Dict [] [] pos) (tF X.K (fC (.dct []))) := pe_dnewK.imp fun σ H Q ⟨as, S, d, μ', E, e, q⟩ p hp => by
  obtain ⟨rfl, rfl⟩ := pr_inj e
  exact q _ as _ (Ext.new hp (E.sto.out hp)) (.dct (kvs := []) (ds := []) upd_same (E.sto.out hp) rfl .nil) (E.sto.new hp)
end
/-! ### a new list that will change: a new cell -/
section
variable {X : Cx} {es : List Expr} {fs : EvA} {pos : Pos}
theorem StoR.grow {K : PySem.W.Frag} {as : Ar} {H : Hp} {μ : List Cell} {p : Addr} {vs : List V} {ds : List D} (s : StoR K as H μ) (hp : H p = none) (r : Reps K as H vs ds) :
    Ext as H ⟨as.c ++ [p], as.b⟩ (L2.upd H p (.lst vs)) ∧ StoR K ⟨as.c ++ [p], as.b⟩ (L2.upd H p (.lst vs)) (μ ++ [.lst ds]) := by
  have n := s.out hp
  have X1 : Ext as H ⟨as.c ++ [p], as.b⟩ (L2.upd H p (.lst vs)) := ⟨⟨[p], rfl, by simpa using hp⟩, ⟨[], rfl, by simp⟩, (Ext.new hp n).old, (Ext.new hp n).cel⟩
  refine ⟨X1, by simp [s.len], fun k a c ea ec => ?_, ?_, fun a ha => ?_⟩
  · by_cases hk : k < μ.length
    · have hk' : k < as.c.length := by rw [s.len]; exact hk
      rw [List.getElem?_append_left hk'] at ea
      rw [List.getElem?_append_left hk] at ec
      exact (s.at_ k a c ea ec).mv X1 (upd_ne fun z => n.1 (z ▸ List.mem_of_getElem? ea))
    · have hk' : ¬ k < as.c.length := by rw [s.len]; exact hk
      rw [List.getElem?_append_right (by omega)] at ea
      rw [List.getElem?_append_right (by omega)] at ec
      have h0 : k - μ.length = 0 := by
        have := (List.getElem?_eq_some_iff.mp ec).1
        simpa using this
      rw [h0] at ec
      rw [s.len, h0] at ea
      cases ec
      cases ea
      exact ⟨vs, upd_same, r.mv X1⟩
  · rw [List.nodup_append]
    exact ⟨s.nd, by simp, fun a ha b hb e => n.1 (by simp at hb; rw [← hb, ← e]; exact ha)⟩
  · by_cases z : a = p
    · subst z; rw [upd_same]; simp
    · rw [upd_ne z]; exact s.bl a ha
def fNewC (fs : EvA) : EvE := fun S => match fs S with
  | some (xs, μ1) => if xs.length ≤ sizeLine then some (.h μ1.length, μ1 ++ [.lst xs]) else none
  | none => none
theorem de_lstC (ha : PA X es (tFA X.K fs)) : PE X (.List es pos) (tF X.K (fNewC fs)) := by
  refine (pe_lst ha).imp fun σ H Q ⟨as, S, d, μ', E, e, q⟩ => ?_
  unfold fNewC at e
  split at e
  · rename_i xs μ1 ea
    split at e
    · rename_i hl
      obtain ⟨rfl, rfl⟩ := pr_inj e
      refine ⟨as, S, xs, μ1, E, ea, fun vs as1 H1 X1 r1 s1 => ⟨by rw [r1.length]; exact hl, fun p hp => ?_⟩⟩
      obtain ⟨X2, s2⟩ := s1.grow hp r1
      refine q _ _ _ (X1.trans X2 E.sto.trk) (.h ?_) s2
      rw [List.getElem?_append_right (by rw [s1.len]; exact Nat.le_refl _), s1.len]
      simp
    · cases e
  · cases e
end
/-! ### a def by its name -/
structure Has (P : Program) (w : World) (K : PySem.W.Frag) (mg : Str → Option Value) (base : Heap) (x : Str) (k n : Nat) (F : FnF) : Prop where
  ex : ∃ f fd, mg x = some (.ref f) ∧ FG P w K mg base k f fd n F
section
variable {X : Cx} {k j n : Nat} {F : FnF} {x : Str} {p pos : Pos} {e : Expr} {es : List Expr} {fs : EvA} {W : WX}
theorem de_callH (h : Has X.prog X.w X.K X.mg X.base x j n F) (hr : Room k X.A) (hgd : X.A.guards = some []) (hk : j ≤ k) (hg : Gl X x) (ha : PA X (e :: es) (tFA X.K fs)) (hdb : (x == ("__debug__" : Str)) = false := by decide)
    (he : starEach (e :: es) X.env = (false, eval e X.env) :: starEach es X.env := by rfl) (hpl : (backTo pos (starEach es X.env)).any (·.1) = false := by rfl) :
    PE X (.Call (.Name x p) (e :: es) [] pos) (tF X.K (fCall F (fLen n fs))) := by
  obtain ⟨f, fd, hm, G⟩ := h
  exact de_call (G.mono hk) hr hgd hg hm ha hdb he hpl
theorem de_callH0 (h : Has X.prog X.w X.K X.mg X.base x j 0 F) (hr : Room k X.A) (hgd : X.A.guards = some []) (hk : j ≤ k) (hg : Gl X x) (hdb : (x == ("__debug__" : Str)) = false := by decide) :
    PE X (.Call (.Name x p) [] [] pos) (tF X.K (fCall F fNil)) := by
  obtain ⟨f, fd, hm, G⟩ := h
  exact de_call0 (G.mono hk) hr hgd hg hm hdb
theorem de_callHX (tk : Takes X W) (h : Has X.prog X.w X.K X.mg X.base x j n F) (hr : Room k X.A) (hgd : X.A.guards = some []) (hk : j ≤ k) (hg : Gl X x) (ha : PA X (e :: es) (tFA X.K fs)) (hdb : (x == ("__debug__" : Str)) = false := by decide)
    (he : starEach (e :: es) X.env = (false, eval e X.env) :: starEach es X.env := by rfl) (hpl : (backTo pos (starEach es X.env)).any (·.1) = false := by rfl) :
    PE X (.Call (.Name x p) (e :: es) [] pos) (tFX X.K X.mg W (fCallX F (fLen n fs))) := by
  obtain ⟨f, fd, hm, G⟩ := h
  exact de_callX tk (G.mono hk) hr hgd hg hm ha hdb he hpl
theorem de_callHX0 (tk : Takes X W) (h : Has X.prog X.w X.K X.mg X.base x j 0 F) (hr : Room k X.A) (hgd : X.A.guards = some []) (hk : j ≤ k) (hg : Gl X x) (hdb : (x == ("__debug__" : Str)) = false := by decide) :
    PE X (.Call (.Name x p) [] [] pos) (tFX X.K X.mg W (fCallX F fNil)) := by
  obtain ⟨f, fd, hm, G⟩ := h
  exact de_callX0 tk (G.mono hk) hr hgd hg hm hdb
end
end DL
namespace DL
open PySem L2
/-! ### what is wanted of data functions, from the left -/
def WE (f : EvE) (S : Sg) (P : D → List Cell → Prop) : Prop := ∃ d μ', f S = some (d, μ') ∧ P d μ'
def WT (f : EvT) (S : Sg) (P : Bool → List Cell → Prop) : Prop := ∃ b μ', f S = some (b, μ') ∧ P b μ'
def WA (f : EvA) (S : Sg) (P : List D → List Cell → Prop) : Prop := ∃ ds μ', f S = some (ds, μ') ∧ P ds μ'
def WS (g : EvS) (S : Sg) (P : Fl → Sg → Prop) : Prop := ∃ fl S', g S = some (fl, S') ∧ P fl S'
def WB (b : Bd) (d : D) (S : Sg) (P : Sg → Prop) : Prop := ∃ S', b d S = some S' ∧ P S'
def WBs (b : Bds) (d : List D) (S : Sg) (P : Sg → Prop) : Prop := ∃ S', b d S = some S' ∧ P S'
def W2 (g : D → D → List Cell → Option D) (x y : D) (μ : List Cell) (P : D → Prop) : Prop := ∃ z, g x y μ = some z ∧ P z
def W1 (g : D → List Cell → Option D) (x : D) (μ : List Cell) (P : D → Prop) : Prop := ∃ z, g x μ = some z ∧ P z
def WL (g : List D → List Cell → Option D) (x : List D) (μ : List Cell) (P : D → Prop) : Prop := ∃ z, g x μ = some z ∧ P z
def WF (F : FnF) (ds : List D) (μ : List Cell) (P : D → List Cell → Prop) : Prop := ∃ d μ', F ds μ = some (.v d, μ') ∧ P d μ'
/-- .. of any end -/
def WFX (F : FnF) (ds : List D) (μ : List Cell) (P : Ov → List Cell → Prop) : Prop := ∃ o μ', F ds μ = some (o, μ') ∧ P o μ'
def WEX (f : EvX) (S : Sg) (P : Ov → List Cell → Prop) : Prop := ∃ o μ', f S = some (o, μ') ∧ P o μ'
def WI (f : EvI) (S : Sg) (P : List D → List Cell → Prop) : Prop := ∃ ds μ', f S = some (ds, μ') ∧ P ds μ'
def WTr (d : D) (μ : List Cell) (P : Bool → Prop) : Prop := ∃ b, dTru d μ = some b ∧ P b
section
variable {S : Sg} {P : D → List Cell → Prop} {Q : Bool → List Cell → Prop} {R : List D → List Cell → Prop} {U : Fl → Sg → Prop} {V : D → Prop} {B : Sg → Prop} {fa fb fc : EvE} {fs : EvA} {t u : EvT} {g g' : EvS} {b : Bd} {bs : Bds} {μ : List Cell} {ρ : List (Option D)} {d x y : D} {ds : List D} {i j k : Nat}
theorem W1.of {f : D → List Cell → Option D} {z : D} (e : f x μ = some z) (p : V z) : W1 f x μ V := ⟨z, e, p⟩
theorem WF.mono {F : FnF} {P' : D → List Cell → Prop} (h : WF F ds μ P) (q : ∀ d μ', P d μ' → P' d μ') : WF F ds μ P' := let ⟨d, μ', e, p⟩ := h; ⟨d, μ', e, q d μ' p⟩
theorem WS.mono {U' : Fl → Sg → Prop} (h : WS g S U) (q : ∀ d μ', U d μ' → U' d μ') : WS g S U' := let ⟨d, μ', e, p⟩ := h; ⟨d, μ', e, q d μ' p⟩
theorem we_V : WE (fV i) ⟨ρ, μ⟩ P ↔ ∃ d, ρ[i]? = some (some d) ∧ P d μ := by
  constructor
  · rintro ⟨d, μ', e, p⟩
    unfold fV at e
    split at e
    · rename_i d' he
      obtain ⟨rfl, rfl⟩ := pr_inj e
      exact ⟨d', he, p⟩
    · cases e
  · rintro ⟨d, e, p⟩
    have e' : (⟨ρ, μ⟩ : Sg).ρ[i]? = some (some d) := e
    exact ⟨d, μ, by unfold fV; rw [e'], p⟩
theorem we_C : WE (fC d) ⟨ρ, μ⟩ P ↔ P d μ := ⟨fun ⟨d', μ', e, p⟩ => by obtain ⟨rfl, rfl⟩ := pr_inj e; exact p, fun p => ⟨d, μ, rfl, p⟩⟩
theorem we_B {f : D → D → List Cell → Option D} : WE (fB f fa fb) ⟨ρ, μ⟩ P ↔ WE fa ⟨ρ, μ⟩ fun x μ1 => WE fb ⟨ρ, μ1⟩ fun y μ2 => W2 f x y μ2 fun z => P z μ2 := by
  constructor
  · rintro ⟨d, μ', e, p⟩
    obtain ⟨x, μ1, y, ea, eb, ez⟩ := fB_out e
    exact ⟨x, μ1, ea, y, μ', eb, d, ez, p⟩
  · rintro ⟨x, μ1, ea, y, μ2, eb, z, ez, p⟩
    exact ⟨z, μ2, by unfold fB; rw [ea]; simp only; rw [eb]; simp only; rw [ez], p⟩
theorem we_U {f : D → List Cell → Option D} : WE (fU f fa) ⟨ρ, μ⟩ P ↔ WE fa ⟨ρ, μ⟩ fun x μ1 => W1 f x μ1 fun z => P z μ1 := by
  constructor
  · rintro ⟨d, μ', e, p⟩
    obtain ⟨x, ea, ez⟩ := fU_out e
    exact ⟨x, μ', ea, d, ez, p⟩
  · rintro ⟨x, μ1, ea, z, ez, p⟩
    exact ⟨z, μ1, by unfold fU; rw [ea]; simp only; rw [ez], p⟩
theorem we_App {f : List D → List Cell → Option D} : WE (fApp f fs) ⟨ρ, μ⟩ P ↔ WA fs ⟨ρ, μ⟩ fun xs μ1 => WL f xs μ1 fun z => P z μ1 := by
  constructor
  · rintro ⟨d, μ', e, p⟩
    obtain ⟨x, ea, ez⟩ := fApp_out e
    exact ⟨x, μ', ea, d, ez, p⟩
  · rintro ⟨x, μ1, ea, z, ez, p⟩
    exact ⟨z, μ1, by unfold fApp; rw [ea]; simp only; rw [ez], p⟩
theorem wa_nil : WA fNil ⟨ρ, μ⟩ R ↔ R [] μ := ⟨fun ⟨d', μ', e, p⟩ => by obtain ⟨rfl, rfl⟩ := pr_inj e; exact p, fun p => ⟨[], μ, rfl, p⟩⟩
theorem wa_cons : WA (fCons fa fs) ⟨ρ, μ⟩ R ↔ WE fa ⟨ρ, μ⟩ fun x μ1 => WA fs ⟨ρ, μ1⟩ fun xs μ2 => R (x :: xs) μ2 := by
  constructor
  · rintro ⟨d, μ', e, p⟩
    unfold fCons at e
    split at e
    · rename_i x μ1 ea
      split at e
      · rename_i xs μ2 eb
        obtain ⟨rfl, rfl⟩ := pr_inj e
        exact ⟨x, μ1, ea, xs, μ2, eb, p⟩
      · cases e
    · cases e
  · rintro ⟨x, μ1, ea, xs, μ2, eb, p⟩
    exact ⟨x :: xs, μ2, by unfold fCons; rw [ea]; simp only; rw [eb], p⟩
theorem wl_1 {f : D → List Cell → Option D} : WL (g1 f) [x] μ V ↔ W1 f x μ V := Iff.rfl
theorem wl_2 {f : D → D → List Cell → Option D} : WL (g2 f) [x, y] μ V ↔ W2 f x y μ V := Iff.rfl
theorem wl_lst : WL gLst ds μ V ↔ ds.length ≤ sizeLine ∧ V (.lst ds) := by
  constructor
  · rintro ⟨z, e, p⟩
    unfold gLst at e
    split at e
    · rename_i h; cases e; exact ⟨h, p⟩
    · cases e
  · rintro ⟨h, p⟩
    exact ⟨_, by unfold gLst; rw [if_pos h], p⟩
theorem wl_tup : WL gTup ds μ V ↔ ds.length ≤ sizeLine ∧ V (.tup ds) := by
  constructor
  · rintro ⟨z, e, p⟩
    unfold gTup at e
    split at e
    · rename_i h; cases e; exact ⟨h, p⟩
    · cases e
  · rintro ⟨h, p⟩
    exact ⟨_, by unfold gTup; rw [if_pos h], p⟩
theorem we_newC : WE (fNewC fs) ⟨ρ, μ⟩ P ↔ WA fs ⟨ρ, μ⟩ fun xs μ1 => xs.length ≤ sizeLine ∧ P (.h μ1.length) (μ1 ++ [.lst xs]) := by
  constructor
  · rintro ⟨d, μ', e, p⟩
    unfold fNewC at e
    split at e
    · rename_i xs μ1 ea
      split at e
      · rename_i h
        obtain ⟨rfl, rfl⟩ := pr_inj e
        exact ⟨xs, μ1, ea, h, p⟩
      · cases e
    · cases e
  · rintro ⟨xs, μ1, ea, h, p⟩
    exact ⟨_, _, by unfold fNewC; rw [ea]; simp only; rw [if_pos h], p⟩
theorem we_call {F : FnF} : WE (fCall F fs) ⟨ρ, μ⟩ P ↔ WA fs ⟨ρ, μ⟩ fun ds μ1 => WF F ds μ1 P := by
  constructor
  · rintro ⟨d, μ', e, p⟩
    have e := fNox_out e
    unfold fCallX at e
    split at e
    · rename_i ds μ1 ea
      exact ⟨ds, μ1, ea, d, μ', e, p⟩
    · cases e
  · rintro ⟨ds, μ1, ea, d, μ', e, p⟩
    exact ⟨d, μ', by unfold fCall fNox fCallX; rw [ea]; simp only; rw [e], p⟩
theorem wx_call {F : FnF} {Y : Ov → List Cell → Prop} : WEX (fCallX F fs) ⟨ρ, μ⟩ Y ↔ WA fs ⟨ρ, μ⟩ fun ds μ1 => WFX F ds μ1 Y := by
  constructor
  · rintro ⟨d, μ', e, p⟩
    unfold fCallX at e
    split at e
    · rename_i ds μ1 ea
      exact ⟨ds, μ1, ea, d, μ', e, p⟩
    · cases e
  · rintro ⟨ds, μ1, ea, d, μ', e, p⟩
    exact ⟨d, μ', by unfold fCallX; rw [ea]; exact e, p⟩
theorem wf_x {F : FnF} : WF F ds μ P ↔ WFX F ds μ fun o μ' => match o with
    | .v d => P d μ'
    | .x _ _ => False := by
  constructor
  · rintro ⟨d, μ', e, p⟩
    exact ⟨.v d, μ', e, p⟩
  · rintro ⟨o, μ', e, p⟩
    cases o with
    | v d => exact ⟨d, μ', e, p⟩
    | x n q => exact p.elim
theorem we_nox {fx : EvX} : WE (fNox fx) S P ↔ WEX fx S fun o μ' => match o with
    | .v d => P d μ'
    | .x _ _ => False := by
  constructor
  · rintro ⟨d, μ', e, p⟩
    exact ⟨.v d, μ', fNox_out e, p⟩
  · rintro ⟨o, μ', e, p⟩
    cases o with
    | v d => exact ⟨d, μ', by unfold fNox; rw [e], p⟩
    | x n q => exact p.elim
theorem wa_len {n : Nat} : WA (fLen n fs) ⟨ρ, μ⟩ R ↔ WA fs ⟨ρ, μ⟩ fun ds μ1 => ds.length = n ∧ R ds μ1 := by
  constructor
  · rintro ⟨d, μ', e, p⟩
    unfold fLen at e
    split at e
    · rename_i ds μ1 ea
      split at e
      · rename_i h
        obtain ⟨rfl, rfl⟩ := pr_inj e
        exact ⟨ds, μ1, ea, h, p⟩
      · cases e
    · cases e
  · rintro ⟨ds, μ1, ea, h, p⟩
    exact ⟨_, _, by unfold fLen; rw [ea]; simp only; rw [if_pos h], p⟩
/-! tests -/
theorem wt_Tru : WT (fTru fa) ⟨ρ, μ⟩ Q ↔ WE fa ⟨ρ, μ⟩ fun x μ1 => WTr x μ1 fun k => Q k μ1 := by
  constructor
  · rintro ⟨d, μ', e, p⟩
    unfold fTru at e
    split at e
    · rename_i x μ1 ea
      split at e
      · rename_i k ek
        obtain ⟨rfl, rfl⟩ := pr_inj e
        exact ⟨x, μ1, ea, k, ek, p⟩
      · cases e
    · cases e
  · rintro ⟨x, μ1, ea, k, ek, p⟩
    exact ⟨k, μ1, by unfold fTru; rw [ea]; simp only; rw [ek], p⟩
theorem wt_Not : WT (fNot t) ⟨ρ, μ⟩ Q ↔ WT t ⟨ρ, μ⟩ fun k μ1 => Q (!k) μ1 := by
  constructor
  · rintro ⟨d, μ', e, p⟩
    unfold fNot at e
    split at e
    · rename_i k μ1 ea
      obtain ⟨rfl, rfl⟩ := pr_inj e
      exact ⟨k, μ1, ea, p⟩
    · cases e
  · rintro ⟨k, μ1, ea, p⟩
    exact ⟨!k, μ1, by unfold fNot; rw [ea], p⟩
theorem wt_And : WT (fAnd t u) ⟨ρ, μ⟩ Q ↔ WT t ⟨ρ, μ⟩ fun k μ1 => if k = true then WT u ⟨ρ, μ1⟩ Q else Q false μ1 := by
  constructor
  · rintro ⟨d, μ', e, p⟩
    unfold fAnd at e
    split at e
    · rename_i μ1 ea; exact ⟨true, μ1, ea, iteT ⟨d, μ', e, p⟩⟩
    · rename_i μ1 ea
      obtain ⟨rfl, rfl⟩ := pr_inj e
      exact ⟨false, μ1, ea, iteF p⟩
    · cases e
  · rintro ⟨k, μ1, ea, p⟩
    cases k with
    | true =>
      obtain ⟨d, μ', e, p⟩ := (if_pos rfl : (if true = true then WT u ⟨ρ, μ1⟩ Q else Q false μ1) = _) ▸ p
      exact ⟨d, μ', by unfold fAnd; rw [ea]; exact e, p⟩
    | false => exact ⟨false, μ1, by unfold fAnd; rw [ea], by simpa using p⟩
theorem wt_Or : WT (fOr t u) ⟨ρ, μ⟩ Q ↔ WT t ⟨ρ, μ⟩ fun k μ1 => if k = true then Q true μ1 else WT u ⟨ρ, μ1⟩ Q := by
  constructor
  · rintro ⟨d, μ', e, p⟩
    unfold fOr at e
    split at e
    · rename_i μ1 ea
      obtain ⟨rfl, rfl⟩ := pr_inj e
      exact ⟨true, μ1, ea, iteT p⟩
    · rename_i μ1 ea; exact ⟨false, μ1, ea, iteF ⟨d, μ', e, p⟩⟩
    · cases e
  · rintro ⟨k, μ1, ea, p⟩
    cases k with
    | true => exact ⟨true, μ1, by unfold fOr; rw [ea], by simpa using p⟩
    | false =>
      obtain ⟨d, μ', e, p⟩ := (if_neg Bool.false_ne_true : (if false = true then Q true μ1 else WT u ⟨ρ, μ1⟩ Q) = _) ▸ p
      exact ⟨d, μ', by unfold fOr; rw [ea]; exact e, p⟩
theorem wt_true : WT (fun S => some (true, S.μ)) ⟨ρ, μ⟩ Q ↔ Q true μ := ⟨fun ⟨d', μ', e, p⟩ => by obtain ⟨rfl, rfl⟩ := pr_inj e; exact p, fun p => ⟨true, μ, rfl, p⟩⟩
theorem we_AndV : WE (fAndV fa fb) ⟨ρ, μ⟩ P ↔ WE fa ⟨ρ, μ⟩ fun x μ1 => WTr x μ1 fun k => if k = true then WE fb ⟨ρ, μ1⟩ P else P x μ1 := by
  constructor
  · rintro ⟨d, μ', e, p⟩
    unfold fAndV at e
    split at e
    · rename_i x μ1 ea
      split at e
      · rename_i ek; exact ⟨x, μ1, ea, true, ek, iteT ⟨d, μ', e, p⟩⟩
      · rename_i ek
        obtain ⟨rfl, rfl⟩ := pr_inj e
        exact ⟨x, μ1, ea, false, ek, iteF p⟩
      · cases e
    · cases e
  · rintro ⟨x, μ1, ea, k, ek, p⟩
    cases k with
    | true =>
      obtain ⟨d, μ', e, p⟩ := (if_pos rfl : (if true = true then WE fb ⟨ρ, μ1⟩ P else P x μ1) = _) ▸ p
      exact ⟨d, μ', by unfold fAndV; rw [ea]; simp only; rw [ek]; exact e, p⟩
    | false => exact ⟨x, μ1, by unfold fAndV; rw [ea]; simp only; rw [ek], by simpa using p⟩
theorem we_OrV : WE (fOrV fa fb) ⟨ρ, μ⟩ P ↔ WE fa ⟨ρ, μ⟩ fun x μ1 => WTr x μ1 fun k => if k = true then P x μ1 else WE fb ⟨ρ, μ1⟩ P := by
  constructor
  · rintro ⟨d, μ', e, p⟩
    unfold fOrV at e
    split at e
    · rename_i x μ1 ea
      split at e
      · rename_i ek
        obtain ⟨rfl, rfl⟩ := pr_inj e
        exact ⟨x, μ1, ea, true, ek, iteT p⟩
      · rename_i ek; exact ⟨x, μ1, ea, false, ek, iteF ⟨d, μ', e, p⟩⟩
      · cases e
    · cases e
  · rintro ⟨x, μ1, ea, k, ek, p⟩
    cases k with
    | true => exact ⟨x, μ1, by unfold fOrV; rw [ea]; simp only; rw [ek], by simpa using p⟩
    | false =>
      obtain ⟨d, μ', e, p⟩ := (if_neg Bool.false_ne_true : (if false = true then P x μ1 else WE fb ⟨ρ, μ1⟩ P) = _) ▸ p
      exact ⟨d, μ', by unfold fOrV; rw [ea]; simp only; rw [ek]; exact e, p⟩
theorem we_IfE : WE (fIfE t fa fb) ⟨ρ, μ⟩ P ↔ WT t ⟨ρ, μ⟩ fun k μ1 => if k = true then WE fa ⟨ρ, μ1⟩ P else WE fb ⟨ρ, μ1⟩ P := by
  constructor
  · rintro ⟨d, μ', e, p⟩
    unfold fIfE at e
    split at e
    · rename_i μ1 ea; exact ⟨true, μ1, ea, iteT ⟨d, μ', e, p⟩⟩
    · rename_i μ1 ea; exact ⟨false, μ1, ea, iteF ⟨d, μ', e, p⟩⟩
    · cases e
  · rintro ⟨k, μ1, ea, p⟩
    cases k with
    | true =>
      obtain ⟨d, μ', e, p⟩ := (if_pos rfl : (if true = true then WE fa ⟨ρ, μ1⟩ P else WE fb ⟨ρ, μ1⟩ P) = _) ▸ p
      exact ⟨d, μ', by unfold fIfE; rw [ea]; exact e, p⟩
    | false =>
      obtain ⟨d, μ', e, p⟩ := (if_neg Bool.false_ne_true : (if false = true then WE fa ⟨ρ, μ1⟩ P else WE fb ⟨ρ, μ1⟩ P) = _) ▸ p
      exact ⟨d, μ', by unfold fIfE; rw [ea]; exact e, p⟩
theorem we_Ch {f f' : D → D → List Cell → Option D} : WE (fCh f f' fa fb fc) ⟨ρ, μ⟩ P ↔ WE fa ⟨ρ, μ⟩ fun x μ1 => WE fb ⟨ρ, μ1⟩ fun y μ2 => W2 f x y μ2 fun z => (z = .bl true ∧ WE fc ⟨ρ, μ2⟩ fun w μ3 => W2 f' y w μ3 fun z => P z μ3) ∨ (z = .bl false ∧ P (.bl false) μ2) := by
  constructor
  · rintro ⟨d, μ', e, p⟩
    unfold fCh at e
    split at e
    · rename_i x μ1 ea
      split at e
      · rename_i y μ2 eb
        split at e
        · rename_i ez
          split at e
          · rename_i w μ3 ec
            split at e
            · rename_i z ew
              obtain ⟨rfl, rfl⟩ := pr_inj e
              exact ⟨x, μ1, ea, y, μ2, eb, _, ez, .inl ⟨rfl, w, μ3, ec, z, ew, p⟩⟩
            · cases e
          · cases e
        · rename_i ez
          obtain ⟨rfl, rfl⟩ := pr_inj e
          exact ⟨x, μ1, ea, y, μ2, eb, _, ez, .inr ⟨rfl, p⟩⟩
        · cases e
      · cases e
    · cases e
  · rintro ⟨x, μ1, ea, y, μ2, eb, z, ez, h⟩
    rcases h with ⟨rfl, w, μ3, ec, z, ew, p⟩ | ⟨rfl, p⟩
    · exact ⟨z, μ3, by unfold fCh; rw [ea]; simp only; rw [eb]; simp only; rw [ez]; simp only; rw [ec]; simp only; rw [ew], p⟩
    · exact ⟨_, μ2, by unfold fCh; rw [ea]; simp only; rw [eb]; simp only; rw [ez], p⟩
/-! statements -/
theorem ws_then : WS (bThen b fa) ⟨ρ, μ⟩ U ↔ WE fa ⟨ρ, μ⟩ fun d μ1 => WB b d ⟨ρ, μ1⟩ fun S' => U .nx S' := by
  constructor
  · rintro ⟨fl, S', e, p⟩
    unfold bThen at e
    split at e
    · rename_i d μ1 ea
      split at e
      · rename_i S1 eb
        obtain ⟨rfl, rfl⟩ := pr_inj e
        exact ⟨d, μ1, ea, S1, eb, p⟩
      · cases e
    · cases e
  · rintro ⟨d, μ1, ea, S1, eb, p⟩
    exact ⟨.nx, S1, by unfold bThen; rw [ea]; simp only; rw [eb], p⟩
theorem wb_name : WB (bName i) d ⟨ρ, μ⟩ B ↔ i < ρ.length ∧ B ⟨ρ.set i (some d), μ⟩ := by
  constructor
  · rintro ⟨S', e, p⟩
    obtain ⟨h, rfl⟩ := bName_out e
    exact ⟨h, p⟩
  · rintro ⟨h, p⟩
    exact ⟨_, by unfold bName; rw [if_pos h], p⟩
theorem wb_sub : WB (bSub fa fb) d ⟨ρ, μ⟩ B ↔ WE fa ⟨ρ, μ⟩ fun o μ1 => WE fb ⟨ρ, μ1⟩ fun i μ2 => ∃ μ3, cSet o i d μ2 = some μ3 ∧ B ⟨ρ, μ3⟩ := by
  constructor
  · rintro ⟨S', e, p⟩
    unfold bSub at e
    split at e
    · rename_i o μ1 ea
      split at e
      · rename_i i μ2 eb
        split at e
        · rename_i μ3 ec
          cases Option.some.inj e
          exact ⟨o, μ1, ea, i, μ2, eb, μ3, ec, p⟩
        · cases e
      · cases e
    · cases e
  · rintro ⟨o, μ1, ea, i, μ2, eb, μ3, ec, p⟩
    exact ⟨_, by unfold bSub; rw [ea]; simp only; rw [eb]; simp only; rw [ec], p⟩
theorem cSet_iff {z : Int} {C : List Cell → Prop} : (∃ μ3, cSet (.h k) (.int z) d μ = some μ3 ∧ C μ3) ↔ ∃ xs n, μ[k]? = some (.lst xs) ∧ ixN xs.length z = some n ∧ C (μ.set k (.lst (xs.set n d))) := by
  constructor
  · rintro ⟨μ3, e, p⟩
    obtain ⟨k', j, xs, n, e1, e2, ex, en, rfl⟩ := cSet_out e
    cases e1
    cases e2
    exact ⟨xs, n, ex, en, p⟩
  · rintro ⟨xs, n, ex, en, p⟩
    exact ⟨_, by unfold cSet; simp only; rw [ex]; simp only; rw [en], p⟩
theorem wb_tup {n : Nat} : WB (bTup n bs) (.tup ds) ⟨ρ, μ⟩ B ↔ ds.length = n ∧ WBs bs ds ⟨ρ, μ⟩ B := by
  constructor
  · rintro ⟨S', e, p⟩
    unfold bTup at e
    simp only at e
    split at e
    · rename_i h; exact ⟨h, S', e, p⟩
    · cases e
  · rintro ⟨h, S', e, p⟩
    exact ⟨S', by unfold bTup; simp only; rw [if_pos h]; exact e, p⟩
theorem wbs_nil : WBs bsNil [] ⟨ρ, μ⟩ B ↔ B ⟨ρ, μ⟩ := ⟨fun ⟨S', e, p⟩ => by cases Option.some.inj e; exact p, fun p => ⟨_, rfl, p⟩⟩
theorem wbs_cons : WBs (bsCons b bs) (d :: ds) S B ↔ WB b d S fun S1 => WBs bs ds S1 B := by
  constructor
  · rintro ⟨S', e, p⟩
    unfold bsCons at e
    simp only at e
    split at e
    · rename_i S1 e1; exact ⟨S1, e1, S', e, p⟩
    · cases e
  · rintro ⟨S1, e1, S', e, p⟩
    exact ⟨S', by unfold bsCons; simp only; rw [e1]; exact e, p⟩
theorem ws_drop : WS (sDrop fa) ⟨ρ, μ⟩ U ↔ WE fa ⟨ρ, μ⟩ fun _ μ1 => U .nx ⟨ρ, μ1⟩ := by
  constructor
  · rintro ⟨fl, S', e, p⟩
    unfold sDrop at e
    split at e
    · rename_i d μ1 ea
      obtain ⟨rfl, rfl⟩ := pr_inj e
      exact ⟨d, μ1, ea, p⟩
    · cases e
  · rintro ⟨d, μ1, ea, p⟩
    exact ⟨_, _, by unfold sDrop; rw [ea], p⟩
theorem ws_nx : WS sNx S U ↔ U .nx S := ⟨fun ⟨fl, S', e, p⟩ => by obtain ⟨rfl, rfl⟩ := pr_inj e; exact p, fun p => ⟨_, _, rfl, p⟩⟩
theorem ws_bk : WS sBk S U ↔ U .bk S := ⟨fun ⟨fl, S', e, p⟩ => by obtain ⟨rfl, rfl⟩ := pr_inj e; exact p, fun p => ⟨_, _, rfl, p⟩⟩
theorem ws_ct : WS sCt S U ↔ U .ct S := ⟨fun ⟨fl, S', e, p⟩ => by obtain ⟨rfl, rfl⟩ := pr_inj e; exact p, fun p => ⟨_, _, rfl, p⟩⟩
theorem ws_ret : WS (sRet fa) ⟨ρ, μ⟩ U ↔ WE fa ⟨ρ, μ⟩ fun d μ1 => U (.rt d) ⟨ρ, μ1⟩ := by
  constructor
  · rintro ⟨fl, S', e, p⟩
    unfold sRet at e
    split at e
    · rename_i d μ1 ea
      obtain ⟨rfl, rfl⟩ := pr_inj e
      exact ⟨d, μ1, ea, p⟩
    · cases e
  · rintro ⟨d, μ1, ea, p⟩
    exact ⟨_, _, by unfold sRet; rw [ea], p⟩
def Ox (U : Fl → Sg → Prop) (k : D → List Cell → Prop) (ρ : List (Option D)) (o : Ov) (μ' : List Cell) : Prop := match o with
  | .v d => k d μ'
  | .x n p => U (.ex n p) ⟨ρ, μ'⟩
theorem Ox_v {k : D → List Cell → Prop} : Ox U k ρ (.v d) μ ↔ k d μ := Iff.rfl
theorem Ox_x {k : D → List Cell → Prop} {n : Str} {p : Option D} : Ox U k ρ (.x n p) μ ↔ U (.ex n p) ⟨ρ, μ⟩ := Iff.rfl
theorem ws_retX {fx : EvX} : WS (sRetX fx) ⟨ρ, μ⟩ U ↔ WEX fx ⟨ρ, μ⟩ (Ox U (fun d μ1 => U (.rt d) ⟨ρ, μ1⟩) ρ) := by
  constructor
  · rintro ⟨fl, S', e, p⟩
    unfold sRetX at e
    split at e
    · rename_i d μ1 ea
      obtain ⟨rfl, rfl⟩ := pr_inj e
      exact ⟨_, _, ea, p⟩
    · rename_i n q μ1 ea
      obtain ⟨rfl, rfl⟩ := pr_inj e
      exact ⟨_, _, ea, p⟩
    · cases e
  · rintro ⟨o, μ1, ea, p⟩
    cases o with
    | v d => exact ⟨_, _, by unfold sRetX; rw [ea], p⟩
    | x n q => exact ⟨_, _, by unfold sRetX; rw [ea], p⟩
theorem ws_dropX {fx : EvX} : WS (sDropX fx) ⟨ρ, μ⟩ U ↔ WEX fx ⟨ρ, μ⟩ (Ox U (fun _ μ1 => U .nx ⟨ρ, μ1⟩) ρ) := by
  constructor
  · rintro ⟨fl, S', e, p⟩
    unfold sDropX at e
    split at e
    · rename_i d μ1 ea
      obtain ⟨rfl, rfl⟩ := pr_inj e
      exact ⟨_, _, ea, p⟩
    · rename_i n q μ1 ea
      obtain ⟨rfl, rfl⟩ := pr_inj e
      exact ⟨_, _, ea, p⟩
    · cases e
  · rintro ⟨o, μ1, ea, p⟩
    cases o with
    | v d => exact ⟨_, _, by unfold sDropX; rw [ea], p⟩
    | x n q => exact ⟨_, _, by unfold sDropX; rw [ea], p⟩
theorem ws_thenX {fx : EvX} : WS (bThenX b fx) ⟨ρ, μ⟩ U ↔ WEX fx ⟨ρ, μ⟩ (Ox U (fun d μ1 => WB b d ⟨ρ, μ1⟩ fun S' => U .nx S') ρ) := by
  constructor
  · rintro ⟨fl, S', e, p⟩
    unfold bThenX at e
    split at e
    · rename_i d μ1 ea
      split at e
      · rename_i S1 eb
        obtain ⟨rfl, rfl⟩ := pr_inj e
        exact ⟨_, _, ea, _, eb, p⟩
      · cases e
    · rename_i n q μ1 ea
      obtain ⟨rfl, rfl⟩ := pr_inj e
      exact ⟨_, _, ea, p⟩
    · cases e
  · rintro ⟨o, μ1, ea, p⟩
    cases o with
    | v d =>
      obtain ⟨S1, eb, p⟩ := p
      exact ⟨_, _, by unfold bThenX; rw [ea]; simp only; rw [eb], p⟩
    | x n q => exact ⟨_, _, by unfold bThenX; rw [ea], p⟩
theorem ws_raise {n : Str} : WS (sRaise n) S U ↔ U (.ex n none) S := ⟨fun ⟨fl, S', e, p⟩ => by obtain ⟨rfl, rfl⟩ := pr_inj e; exact p, fun p => ⟨_, _, rfl, p⟩⟩
theorem ws_try {h : Str → Option Bool} {gs : EvS} (p : WS g S fun fl S1 => match fl with
    | .ex n x => (h n = some true ∧ WS gs S1 fun fl' S' => (∀ n p, fl' ≠ .ex n p) ∧ U fl' S') ∨ (h n = some false ∧ U (.ex n x) S1)
    | fl => U fl S1) : WS (sTry h g gs) S U := by
  obtain ⟨fl, S1, e, q⟩ := p
  cases fl with
  | ex n x =>
    rcases q with ⟨eh, fl', S', e', hn, u⟩ | ⟨eh, u⟩
    · refine ⟨fl', S', ?_, u⟩
      unfold sTry
      rw [e]
      simp only
      rw [eh]
      simp only
      rw [e']
      cases fl' with
      | ex n p => exact (hn n p rfl).elim
      | _ => rfl
    · refine ⟨_, _, ?_, u⟩
      unfold sTry
      rw [e]
      simp only
      rw [eh]
  | _ => exact ⟨_, _, by unfold sTry; rw [e], q⟩
theorem ws_if : WS (sIf t g g') ⟨ρ, μ⟩ U ↔ WT t ⟨ρ, μ⟩ fun k μ1 => if k = true then WS g ⟨ρ, μ1⟩ U else WS g' ⟨ρ, μ1⟩ U := by
  constructor
  · rintro ⟨fl, S', e, p⟩
    unfold sIf at e
    split at e
    · rename_i μ1 ea; exact ⟨true, μ1, ea, iteT ⟨fl, S', e, p⟩⟩
    · rename_i μ1 ea; exact ⟨false, μ1, ea, iteF ⟨fl, S', e, p⟩⟩
    · cases e
  · rintro ⟨k, μ1, ea, p⟩
    cases k with
    | true =>
      obtain ⟨d, μ', e, p⟩ := (if_pos rfl : (if true = true then WS g ⟨ρ, μ1⟩ U else WS g' ⟨ρ, μ1⟩ U) = _) ▸ p
      exact ⟨d, μ', by unfold sIf; rw [ea]; exact e, p⟩
    | false =>
      obtain ⟨d, μ', e, p⟩ := (if_neg Bool.false_ne_true : (if false = true then WS g ⟨ρ, μ1⟩ U else WS g' ⟨ρ, μ1⟩ U) = _) ▸ p
      exact ⟨d, μ', by unfold sIf; rw [ea]; exact e, p⟩
/-- what is wanted behind the first of two -/
def Nx (U : Fl → Sg → Prop) (g' : EvS) (fl : Fl) (S1 : Sg) : Prop := match fl with
  | .nx => WS g' S1 U
  | fl => U fl S1
theorem ws_seq : WS (sSeq g g') S U ↔ WS g S (Nx U g') := by
  constructor
  · rintro ⟨fl, S', e, p⟩
    unfold sSeq at e
    split at e
    · rename_i S1 e1
      exact ⟨.nx, S1, e1, fl, S', e, p⟩
    · rename_i hn
      refine ⟨fl, S', e, ?_⟩
      cases fl with
      | nx => exact (hn S' e).elim
      | _ => exact p
  · rintro ⟨fl, S1, e1, h⟩
    cases fl with
    | nx =>
      obtain ⟨fl', S', e, p⟩ := h
      exact ⟨fl', S', by unfold sSeq; rw [e1]; exact e, p⟩
    | _ => exact ⟨_, S1, by unfold sSeq; rw [e1], h⟩
theorem Nx_nx : Nx U g' .nx S ↔ WS g' S U := Iff.rfl
theorem Nx_rt : Nx U g' (.rt d) S ↔ U (.rt d) S := Iff.rfl
theorem Nx_bk : Nx U g' .bk S ↔ U .bk S := Iff.rfl
theorem Nx_ct : Nx U g' .ct S ↔ U .ct S := Iff.rfl
theorem Nx_ex {n : Str} {p : Option D} : Nx U g' (.ex n p) S ↔ U (.ex n p) S := Iff.rfl
/-- a def's end -/
def Fe (P : D → List Cell → Prop) (fl : Fl) (S' : Sg) : Prop := match fl with
  | .rt d => P d S'.μ
  | .nx => P .non S'.μ
  | _ => False
theorem wf_fn {n N : Nat} : WF (fnF n N g) ds μ P ↔ WS g ⟨ds.map some ++ List.replicate (N - n) none, μ⟩ (Fe P) := by
  constructor
  · rintro ⟨d, μ', e, p⟩
    unfold fnF at e
    split at e
    · rename_i d S' e1
      obtain ⟨e0, rfl⟩ := pr_inj e
      cases e0
      exact ⟨_, S', e1, p⟩
    · rename_i S' e1
      obtain ⟨e0, rfl⟩ := pr_inj e
      cases e0
      exact ⟨_, S', e1, p⟩
    · cases (pr_inj e).1
    · cases e
  · rintro ⟨fl, S', e1, h⟩
    cases fl with
    | rt d => exact ⟨d, S'.μ, by unfold fnF; rw [e1], h⟩
    | nx => exact ⟨.non, S'.μ, by unfold fnF; rw [e1], h⟩
    | _ => exact h.elim
/-- .. of any end -/
def FeX (Y : Ov → List Cell → Prop) (fl : Fl) (S' : Sg) : Prop := match fl with
  | .rt d => Y (.v d) S'.μ
  | .nx => Y (.v .non) S'.μ
  | .ex n p => Y (.x n p) S'.μ
  | _ => False
theorem wfx_fn {n N : Nat} {Y : Ov → List Cell → Prop} : WFX (fnF n N g) ds μ Y ↔ WS g ⟨ds.map some ++ List.replicate (N - n) none, μ⟩ (FeX Y) := by
  constructor
  · rintro ⟨d, μ', e, p⟩
    unfold fnF at e
    split at e
    · rename_i d S' e1
      obtain ⟨rfl, rfl⟩ := pr_inj e
      exact ⟨_, S', e1, p⟩
    · rename_i S' e1
      obtain ⟨rfl, rfl⟩ := pr_inj e
      exact ⟨_, S', e1, p⟩
    · rename_i n2 p2 S' e1
      obtain ⟨rfl, rfl⟩ := pr_inj e
      exact ⟨_, S', e1, p⟩
    · cases e
  · rintro ⟨fl, S', e1, h⟩
    cases fl with
    | rt d => exact ⟨.v d, S'.μ, by unfold fnF; rw [e1], h⟩
    | nx => exact ⟨.v .non, S'.μ, by unfold fnF; rw [e1], h⟩
    | ex n p => exact ⟨.x n p, S'.μ, by unfold fnF; rw [e1], h⟩
    | _ => exact h.elim
theorem FeX_rt {Y : Ov → List Cell → Prop} : FeX Y (.rt d) ⟨ρ, μ⟩ ↔ Y (.v d) μ := Iff.rfl
theorem FeX_nx {Y : Ov → List Cell → Prop} : FeX Y .nx ⟨ρ, μ⟩ ↔ Y (.v .non) μ := Iff.rfl
theorem FeX_ex {Y : Ov → List Cell → Prop} {n : Str} {p : Option D} : FeX Y (.ex n p) ⟨ρ, μ⟩ ↔ Y (.x n p) μ := Iff.rfl
theorem Fe_rt : Fe P (.rt d) ⟨ρ, μ⟩ ↔ P d μ := Iff.rfl
theorem Fe_nx : Fe P .nx ⟨ρ, μ⟩ ↔ P .non μ := Iff.rfl
/-! loops -/
theorem wi_seq {gs : D → Option (List D)} : WI (itOf gs fa) ⟨ρ, μ⟩ R ↔ WE fa ⟨ρ, μ⟩ fun d μ1 => ∃ ds, gs d = some ds ∧ R ds μ1 := by
  constructor
  · rintro ⟨ds, μ', e, p⟩
    obtain ⟨d, ef, ed⟩ := itOf_out e
    exact ⟨d, μ', ef, ds, ed, p⟩
  · rintro ⟨d, μ', ef, ds, ed, p⟩
    exact ⟨ds, μ', by unfold itOf; rw [ef]; simp only; rw [ed], p⟩
theorem wi_rng1 : WI (gRng1 fs) ⟨ρ, μ⟩ R ↔ WA fs ⟨ρ, μ⟩ fun ds μ1 => ∃ j, ds = [.int j] ∧ -(2 ^ 62) ≤ j ∧ j < 2 ^ 62 ∧ R (rngD 0 j.toNat) μ1 := by
  constructor
  · rintro ⟨ds, μ', e, p⟩
    unfold gRng1 at e
    split at e
    · rename_i j μ1 ef
      split at e
      · rename_i hj
        obtain ⟨rfl, rfl⟩ := pr_inj e
        exact ⟨_, _, ef, j, rfl, hj.1, hj.2, p⟩
      · cases e
    · cases e
  · rintro ⟨ds, μ1, ef, j, rfl, h1, h2, p⟩
    exact ⟨_, _, by unfold gRng1; rw [ef]; simp only; rw [if_pos ⟨h1, h2⟩], p⟩
theorem ws_for {it : EvI} : WS (sFor it b g) ⟨ρ, μ⟩ U ↔ WI it ⟨ρ, μ⟩ fun ds μ1 => WS (forL b g ds) ⟨ρ, μ1⟩ U := by
  constructor
  · rintro ⟨fl, S', e, p⟩
    unfold sFor at e
    split at e
    · rename_i ds μ1 ei; exact ⟨ds, μ1, ei, fl, S', e, p⟩
    · cases e
  · rintro ⟨ds, μ1, ei, fl, S', e, p⟩
    exact ⟨fl, S', by unfold sFor; rw [ei]; exact e, p⟩
/-- what is wanted behind a turn -/
def Tn (U : Fl → Sg → Prop) (again : Sg → Prop) (fl : Fl) (S' : Sg) : Prop := match fl with
  | .nx => again S'
  | .ct => again S'
  | .bk => U .nx S'
  | .rt d => U (.rt d) S'
  | .ex n p => U (.ex n p) S'
theorem ws_forNil : WS (forL b g []) S U ↔ U .nx S := ws_nx
theorem ws_forCons : WS (forL b g (d :: ds)) S U ↔ WB b d S fun S1 => WS g S1 (Tn U fun S2 => WS (forL b g ds) S2 U) := by
  constructor
  · rintro ⟨fl, S', e, p⟩
    unfold forL at e
    split at e
    · rename_i S1 eb
      split at e
      · rename_i S2 eg; exact ⟨S1, eb, .nx, S2, eg, fl, S', e, p⟩
      · rename_i S2 eg; exact ⟨S1, eb, .ct, S2, eg, fl, S', e, p⟩
      · rename_i S2 eg
        obtain ⟨rfl, rfl⟩ := pr_inj e
        exact ⟨S1, eb, .bk, S2, eg, p⟩
      · rename_i x S2 eg
        obtain ⟨rfl, rfl⟩ := pr_inj e
        exact ⟨S1, eb, .rt x, S2, eg, p⟩
      · rename_i n x S2 eg
        obtain ⟨rfl, rfl⟩ := pr_inj e
        exact ⟨S1, eb, .ex n x, S2, eg, p⟩
      · cases e
    · cases e
  · rintro ⟨S1, eb, fl, S2, eg, h⟩
    cases fl with
    | nx => obtain ⟨fl, S', e, p⟩ := h; exact ⟨fl, S', by unfold forL; rw [eb]; simp only; rw [eg]; exact e, p⟩
    | ct => obtain ⟨fl, S', e, p⟩ := h; exact ⟨fl, S', by unfold forL; rw [eb]; simp only; rw [eg]; exact e, p⟩
    | bk => exact ⟨.nx, S2, by unfold forL; rw [eb]; simp only; rw [eg], h⟩
    | rt x => exact ⟨.rt x, S2, by unfold forL; rw [eb]; simp only; rw [eg], h⟩
    | ex n x => exact ⟨.ex n x, S2, by unfold forL; rw [eb]; simp only; rw [eg], h⟩
/-- a loop by its invariant, over the items that are left -/
theorem ws_forInv (I : List D → Sg → Prop) (h : ∀ d r S, I (d :: r) S → WB b d S fun S1 => WS g S1 (Tn U (I r))) (h0 : ∀ S, I [] S → U .nx S) : ∀ (ds : List D) (S : Sg), I ds S → WS (forL b g ds) S U
  | [], S, p => ws_forNil.mpr (h0 S p)
  | d :: ds, S, p => by
    refine ws_forCons.mpr ?_
    obtain ⟨S1, e1, fl, S2, e2, q⟩ := h d ds S p
    refine ⟨S1, e1, fl, S2, e2, ?_⟩
    cases fl with
    | nx => exact ws_forInv I h h0 ds S2 q
    | ct => exact ws_forInv I h h0 ds S2 q
    | bk => exact q
    | rt d => exact q
    | ex n p => exact q
theorem Tn_nx {A : Sg → Prop} : Tn U A .nx S ↔ A S := Iff.rfl
theorem Tn_ct {A : Sg → Prop} : Tn U A .ct S ↔ A S := Iff.rfl
theorem Tn_bk {A : Sg → Prop} : Tn U A .bk S ↔ U .nx S := Iff.rfl
theorem Tn_rt {A : Sg → Prop} : Tn U A (.rt d) S ↔ U (.rt d) S := Iff.rfl
/-! comprehensions -/
def WLc (b : Bd) (t : EvT) (f : EvE) (ρ : List (Option D)) (ds : List D) (μ : List Cell) (R : List D → List Cell → Prop) : Prop := ∃ xs μ', lcL b t f ρ ds μ = some (xs, μ') ∧ R xs μ'
theorem we_Lc {it : EvI} {ws : List Nat} : WE (fLc it b t fa ws) ⟨ρ, μ⟩ P ↔ WI it ⟨ρ, μ⟩ fun ds μ1 => WLc b t fa (wipeR ρ ws) ds μ1 fun xs μ2 => xs.length ≤ sizeLine ∧ P (.lst xs) μ2 := by
  constructor
  · rintro ⟨d, μ', e, p⟩
    unfold fLc at e
    split at e
    · rename_i ds μ1 ei
      split at e
      · rename_i xs μ2 el
        split at e
        · rename_i h
          obtain ⟨rfl, rfl⟩ := pr_inj e
          exact ⟨ds, μ1, ei, xs, μ2, el, h, p⟩
        · cases e
      · cases e
    · cases e
  · rintro ⟨ds, μ1, ei, xs, μ2, el, h, p⟩
    exact ⟨_, _, by unfold fLc; rw [ei]; simp only; rw [el]; simp only; rw [if_pos h], p⟩
theorem wlc_nil : WLc b t fa ρ [] μ R ↔ R [] μ := ⟨fun ⟨d', μ', e, p⟩ => by obtain ⟨rfl, rfl⟩ := pr_inj e; exact p, fun p => ⟨[], μ, rfl, p⟩⟩
theorem wlc_cons : WLc b t fa ρ (d :: ds) μ R ↔ WB b d ⟨ρ, μ⟩ fun S1 => WT t S1 fun k μ1 => if k = true then WE fa ⟨S1.ρ, μ1⟩ fun x μ2 => WLc b t fa ρ ds μ2 fun xs μ3 => R (x :: xs) μ3 else WLc b t fa ρ ds μ1 R := by
  constructor
  · rintro ⟨xs, μ', e, p⟩
    unfold lcL at e
    split at e
    · rename_i S1 eb
      split at e
      · rename_i μ1 et
        split at e
        · rename_i x μ2 ef
          split at e
          · rename_i ys μ3 er
            obtain ⟨rfl, rfl⟩ := pr_inj e
            exact ⟨S1, eb, true, μ1, et, iteT ⟨x, μ2, ef, ys, μ3, er, p⟩⟩
          · cases e
        · cases e
      · rename_i μ1 et
        exact ⟨S1, eb, false, μ1, et, iteF ⟨xs, μ', e, p⟩⟩
      · cases e
    · cases e
  · rintro ⟨S1, eb, k, μ1, et, h⟩
    cases k with
    | true =>
      obtain ⟨x, μ2, ef, ys, μ3, er, p⟩ : WE fa ⟨S1.ρ, μ1⟩ fun x μ2 => WLc b t fa ρ ds μ2 fun xs μ3 => R (x :: xs) μ3 := by simpa using h
      exact ⟨x :: ys, μ3, by unfold lcL; rw [eb]; simp only; rw [et]; simp only; rw [ef]; simp only; rw [er], p⟩
    | false =>
      obtain ⟨xs, μ', e, p⟩ : WLc b t fa ρ ds μ1 R := by simpa using h
      exact ⟨xs, μ', by unfold lcL; rw [eb]; simp only; rw [et]; exact e, p⟩
/-- a comprehension by its invariant: the items left, those made -/
theorem wlc_inv (I : List D → List D → List Cell → Prop) (h : ∀ d r xs μ, I (d :: r) xs μ → WB b d ⟨ρ, μ⟩ fun S1 => WT t S1 fun k μ1 => if k = true then WE fa ⟨S1.ρ, μ1⟩ fun x μ2 => I r (xs ++ [x]) μ2 else I r xs μ1) :
    ∀ (ds xs : List D) (μ : List Cell), I ds xs μ → WLc b t fa ρ ds μ fun ys μ' => I [] (xs ++ ys) μ'
  | [], xs, μ, p => wlc_nil.mpr (by rw [List.append_nil]; exact p)
  | d :: ds, xs, μ, p => by
    refine wlc_cons.mpr ?_
    obtain ⟨S1, e1, k, μ1, e2, q⟩ := h d ds xs μ p
    refine ⟨S1, e1, k, μ1, e2, ?_⟩
    cases k with
    | true =>
      obtain ⟨x, μ2, e3, q⟩ : WE fa ⟨S1.ρ, μ1⟩ fun x μ2 => I ds (xs ++ [x]) μ2 := by simpa using q
      obtain ⟨ys, μ3, e4, q⟩ := wlc_inv I h ds (xs ++ [x]) μ2 q
      exact iteT ⟨x, μ2, e3, ys, μ3, e4, by rw [List.append_assoc] at q; exact q⟩
    | false =>
      have q : I ds xs μ1 := by simpa using q
      exact iteF (wlc_inv I h ds xs μ1 q)
end
/-! ### operations on plain values -/
section
variable {V : D → Prop} {μ : List Cell} {i j : Int} {s z : Str} {x y : D} {xs ys : List D} {k : Nat} {p q : Bool} {T : String}
theorem w2_addI : W2 dAdd (.int i) (.int j) μ V ↔ V (.int (i + j)) := ⟨fun ⟨z, e, p⟩ => by cases e; exact p, fun p => ⟨_, rfl, p⟩⟩
theorem w2_addS : W2 dAdd (.str s) (.str z) μ V ↔ s.length + z.length ≤ sizeLine ∧ V (.str (s ++ z)) := by
  constructor
  · rintro ⟨w, e, p⟩
    unfold dAdd at e
    simp only at e
    split at e
    · rename_i h; cases e; exact ⟨h, p⟩
    · cases e
  · rintro ⟨h, p⟩
    exact ⟨_, by unfold dAdd; simp only; rw [if_pos h], p⟩
theorem w2_addL : W2 dAdd (.lst xs) (.lst ys) μ V ↔ xs.length + ys.length ≤ sizeLine ∧ V (.lst (xs ++ ys)) := by
  constructor
  · rintro ⟨w, e, p⟩
    unfold dAdd asL at e
    simp only at e
    split at e
    · rename_i h; cases e; exact ⟨h, p⟩
    · cases e
  · rintro ⟨h, p⟩
    exact ⟨_, by unfold dAdd asL; simp only; rw [if_pos h], p⟩
theorem w2_II {g : Int → Int → Option D} : W2 (dII g) (.int i) (.int j) μ V ↔ ∃ z, g i j = some z ∧ V z := Iff.rfl
theorem gSub_iff : (∃ z, gSub i j = some z ∧ V z) ↔ V (.int (i - j)) := ⟨fun ⟨z, e, p⟩ => by cases e; exact p, fun p => ⟨_, rfl, p⟩⟩
theorem gMod_iff : (∃ z, gMod i j = some z ∧ V z) ↔ j ≠ 0 ∧ V (.int (i.fmod j)) := by
  constructor
  · rintro ⟨z, e, p⟩
    unfold gMod at e
    split at e
    · rename_i h; cases e; exact ⟨h, p⟩
    · cases e
  · rintro ⟨h, p⟩
    exact ⟨_, by unfold gMod; rw [if_pos h], p⟩
theorem gFdiv_iff : (∃ z, gFdiv i j = some z ∧ V z) ↔ (j ≠ 0 ∧ j.natAbs < 1073741824) ∧ V (.int (i.fdiv j)) := by
  constructor
  · rintro ⟨z, e, p⟩
    unfold gFdiv at e
    split at e
    · rename_i h; cases e; exact ⟨h, p⟩
    · cases e
  · rintro ⟨h, p⟩
    exact ⟨_, by unfold gFdiv; rw [if_pos h], p⟩
theorem gPow_iff : (∃ z, gPow i j = some z ∧ V z) ↔ (0 ≤ j ∧ (Builtin.Int.intBits i : Int) * j ≤ 2 ^ 27) ∧ V (.int (i ^ j.toNat)) := by
  constructor
  · rintro ⟨z, e, p⟩
    unfold gPow at e
    split at e
    · rename_i h; cases e; exact ⟨h, p⟩
    · cases e
  · rintro ⟨h, p⟩
    exact ⟨_, by unfold gPow; rw [if_pos h], p⟩
theorem w2_mulI : W2 dMul (.int i) (.int j) μ V ↔ ((-(2 ^ 64) < i ∧ i < 2 ^ 64) ∨ (-(2 ^ 64) < j ∧ j < 2 ^ 64)) ∧ V (.int (i * j)) := by
  constructor
  · rintro ⟨z, e, p⟩
    unfold dMul at e
    simp only at e
    split at e
    · rename_i h; cases e; exact ⟨h, p⟩
    · cases e
  · rintro ⟨h, p⟩
    exact ⟨_, by unfold dMul; simp only; rw [if_pos h], p⟩
theorem w1_neg : W1 dNeg (.int i) μ V ↔ V (.int (-i)) := ⟨fun ⟨z, e, p⟩ => by cases e; exact p, fun p => ⟨_, rfl, p⟩⟩
theorem w2_ordI {gi : Int → Int → Bool} {gs : Str → Str → Bool} : W2 (dOrd gi gs) (.int i) (.int j) μ V ↔ V (.bl (gi i j)) := ⟨fun ⟨z, e, p⟩ => by cases e; exact p, fun p => ⟨_, rfl, p⟩⟩
theorem w2_ordS {gi : Int → Int → Bool} {gs : Str → Str → Bool} : W2 (dOrd gi gs) (.str s) (.str z) μ V ↔ V (.bl (gs s z)) := ⟨fun ⟨z, e, p⟩ => by cases e; exact p, fun p => ⟨_, rfl, p⟩⟩
theorem w2_is : W2 dIs x y μ V ↔ ∃ k, isB x y μ = some k ∧ V (.bl k) := by
  constructor
  · rintro ⟨z, e, p⟩
    obtain ⟨k, ek, rfl⟩ := Option.map_eq_some_iff.mp e
    exact ⟨k, ek, p⟩
  · rintro ⟨k, ek, p⟩
    exact ⟨_, by unfold dIs; rw [ek]; rfl, p⟩
theorem w2_isNot : W2 dIsNot x y μ V ↔ ∃ k, isB x y μ = some k ∧ V (.bl !k) := by
  constructor
  · rintro ⟨z, e, p⟩
    obtain ⟨k, ek, rfl⟩ := Option.map_eq_some_iff.mp e
    exact ⟨k, ek, p⟩
  · rintro ⟨k, ek, p⟩
    exact ⟨_, by unfold dIsNot; rw [ek]; rfl, p⟩
theorem w2_eq : W2 dEq x y μ V ↔ ∃ k, eqB x y μ = some k ∧ V (.bl k) := by
  constructor
  · rintro ⟨z, e, p⟩
    obtain ⟨k, ek, rfl⟩ := Option.map_eq_some_iff.mp e
    exact ⟨k, ek, p⟩
  · rintro ⟨k, ek, p⟩
    exact ⟨_, by unfold dEq; rw [ek]; rfl, p⟩
theorem w2_ne : W2 dNe x y μ V ↔ ∃ k, eqB x y μ = some k ∧ V (.bl !k) := by
  constructor
  · rintro ⟨z, e, p⟩
    obtain ⟨k, ek, rfl⟩ := Option.map_eq_some_iff.mp e
    exact ⟨k, ek, p⟩
  · rintro ⟨k, ek, p⟩
    exact ⟨_, by unfold dNe; rw [ek]; rfl, p⟩
theorem w2_ixL : W2 dIx (.lst xs) (.int i) μ V ↔ ∃ d, atI xs i = some d ∧ V d := Iff.rfl
theorem w2_ixR : W2 dIx (.rl xs) (.int i) μ V ↔ ∃ d, atI xs i = some d ∧ V d := Iff.rfl
theorem w2_ixT : W2 dIx (.tup xs) (.int i) μ V ↔ ∃ d, atI xs i = some d ∧ V d := Iff.rfl
theorem w2_ixS : W2 dIx (.str s) (.int i) μ V ↔ s.length ≤ sizeLine ∧ ∃ c, atI s.cps.toList i = some c ∧ V (.str ⟨#[c]⟩) := by
  constructor
  · rintro ⟨z, e, p⟩
    unfold dIx at e
    simp only at e
    split at e
    · rename_i h
      obtain ⟨c, ec, rfl⟩ := Option.map_eq_some_iff.mp e
      exact ⟨h, c, ec, p⟩
    · cases e
  · rintro ⟨h, c, ec, p⟩
    exact ⟨_, by unfold dIx; simp only; rw [if_pos h, ec]; rfl, p⟩
theorem w2_ixH : W2 dIx (.h k) (.int i) μ V ↔ ∃ xs, μ[k]? = some (.lst xs) ∧ ∃ d, atI xs i = some d ∧ V d := by
  constructor
  · rintro ⟨z, e, p⟩
    unfold dIx asSL asL at e
    simp only at e
    split at e
    · rename_i xs ex
      split at ex
      · rename_i ys ey
        cases ex
        exact ⟨_, ey, z, e, p⟩
      · cases ex
    · cases e
  · rintro ⟨xs, ex, d, ed, p⟩
    exact ⟨d, by unfold dIx asSL asL; simp only; rw [ex]; exact ed, p⟩
theorem w1_abs : W1 dAbs (.int i) μ V ↔ V (.int (if i < 0 then -i else i)) := ⟨fun ⟨z, e, p⟩ => by cases e; exact p, fun p => ⟨_, rfl, p⟩⟩
theorem w1_intI : W1 dInt1 (.int i) μ V ↔ V (.int i) := ⟨fun ⟨z, e, p⟩ => by cases e; exact p, fun p => ⟨_, rfl, p⟩⟩
theorem w1_intB : W1 dInt1 (.bl p) μ V ↔ V (.int (if p then 1 else 0)) := ⟨fun ⟨z, e, p⟩ => by cases e; exact p, fun p => ⟨_, rfl, p⟩⟩
theorem w2_max : W2 dMax2 (.int i) (.int j) μ V ↔ V (.int (if j > i then j else i)) := ⟨fun ⟨z, e, p⟩ => by cases e; exact p, fun p => ⟨_, rfl, p⟩⟩
theorem w2_min : W2 dMin2 (.int i) (.int j) μ V ↔ V (.int (if j < i then j else i)) := ⟨fun ⟨z, e, p⟩ => by cases e; exact p, fun p => ⟨_, rfl, p⟩⟩
theorem w1_str : W1 dStr1 (.int i) μ V ↔ i.natAbs.log2 < 1920 ∧ V (.str (toString i)) := by
  constructor
  · rintro ⟨z, e, p⟩
    unfold dStr1 at e
    simp only at e
    split at e
    · rename_i h; cases e; exact ⟨h, p⟩
    · cases e
  · rintro ⟨h, p⟩
    exact ⟨_, by unfold dStr1; simp only; rw [if_pos h], p⟩
theorem w1_lenS : W1 dLen (.str s) μ V ↔ s.length ≤ sizeLine ∧ V (.int s.length) := by
  constructor
  · rintro ⟨z, e, p⟩
    unfold dLen at e
    simp only at e
    split at e
    · rename_i h; cases e; exact ⟨h, p⟩
    · cases e
  · rintro ⟨h, p⟩
    exact ⟨_, by unfold dLen; simp only; rw [if_pos h], p⟩
theorem w1_lenL : W1 dLen (.lst xs) μ V ↔ V (.int xs.length) := ⟨fun ⟨z, e, p⟩ => by cases e; exact p, fun p => ⟨_, rfl, p⟩⟩
theorem w1_lenR : W1 dLen (.rl xs) μ V ↔ V (.int xs.length) := ⟨fun ⟨z, e, p⟩ => by cases e; exact p, fun p => ⟨_, rfl, p⟩⟩
theorem w1_lenT : W1 dLen (.tup xs) μ V ↔ V (.int xs.length) := ⟨fun ⟨z, e, p⟩ => by cases e; exact p, fun p => ⟨_, rfl, p⟩⟩
theorem w1_type : W1 dType x μ V ↔ ∃ T, tyOf x μ = some T ∧ V (.ty T) := by
  constructor
  · rintro ⟨z, e, p⟩
    obtain ⟨k, ek, rfl⟩ := Option.map_eq_some_iff.mp e
    exact ⟨k, ek, p⟩
  · rintro ⟨k, ek, p⟩
    exact ⟨_, by unfold dType; rw [ek]; rfl, p⟩
theorem w2_isi : W2 dIsi x (.ty T) μ V ↔ ∃ U, tyOf x μ = some U ∧ ∃ b, kitB U T = some b ∧ V (.bl b) := by
  constructor
  · rintro ⟨z, e, p⟩
    unfold dIsi at e
    simp only at e
    split at e
    · rename_i U eU
      obtain ⟨b, eb, rfl⟩ := Option.map_eq_some_iff.mp e
      exact ⟨U, eU, b, eb, p⟩
    · cases e
  · rintro ⟨U, eU, b, eb, p⟩
    exact ⟨_, by unfold dIsi; simp only; rw [eU]; simp only; rw [eb]; rfl, p⟩
theorem w1_repr0 : W1 dRepr0 (.bl p) μ V ↔ V (.str (reprB p)) := ⟨fun ⟨z, e, p⟩ => by cases e; exact p, fun p => ⟨_, rfl, p⟩⟩
theorem w1_not : W1 dNot x μ V ↔ WTr x μ fun k => V (.bl !k) := by
  constructor
  · rintro ⟨z, e, p⟩
    obtain ⟨k, ek, rfl⟩ := Option.map_eq_some_iff.mp e
    exact ⟨k, ek, p⟩
  · rintro ⟨k, ek, p⟩
    exact ⟨_, by unfold dNot; rw [ek]; rfl, p⟩
theorem w1_S0 {Pz : Str → Bool} {g : Str → D} : W1 (dS0 Pz g) (.str s) μ V ↔ Pz s = true ∧ V (g s) := by
  constructor
  · rintro ⟨z, e, p⟩
    obtain ⟨y, e1, e2, rfl⟩ := dS0_out e
    cases e1
    exact ⟨e2, p⟩
  · rintro ⟨h, p⟩
    exact ⟨_, by unfold dS0; simp only; rw [if_pos h], p⟩
theorem w2_join : W2 dJoin (.str s) (.lst xs) μ V ↔ ∃ zs, strsOf xs = some zs ∧ (zs.map (·.length)).sum + zs.length * s.length ≤ 16777216 ∧ V (.str (Txt.join s zs)) := by
  constructor
  · rintro ⟨z, e, p⟩
    obtain ⟨t, ys, zs, e1, h1, h2, h3, rfl⟩ := dJoin_out e
    cases e1
    cases h1
    exact ⟨zs, h2, h3, p⟩
  · rintro ⟨zs, h2, h3, p⟩
    exact ⟨_, by unfold dJoin asSq asSL asL; simp only; rw [h2]; simp only; rw [if_pos h3], p⟩
variable {Q : Bool → Prop}
theorem wtr_bl : WTr (.bl p) μ Q ↔ Q p := ⟨fun ⟨z, e, p⟩ => by cases e; exact p, fun p => ⟨_, rfl, p⟩⟩
end
end DL
namespace DL
open PySem L2
section
variable {X : Cx}
/-! ### all, any, sum, max, min of a list -/
def blsOf : List D → Option (List Bool)
  | [] => some []
  | .bl b :: ds => (blsOf ds).map (b :: ·)
  | _ :: _ => none
theorem blsOf_ok {K : PySem.W.Frag} {as : Ar} {H : Hp} : ∀ {vs : List V} {ds : List D} {bs : List Bool}, Reps K as H vs ds → blsOf ds = some bs → vs = bs.map V.bl
  | _, _, _, .nil, e => by cases e; rfl
  | v :: vs, d :: ds, bs, .cons h t, e => by
    unfold blsOf at e
    split at e
    · rename_i e0; cases e0
    · rename_i b ds' e0
      cases e0
      obtain ⟨cs, ec, rfl⟩ := Option.map_eq_some_iff.mp e
      cases h
      rw [blsOf_ok t ec]
      rfl
    · cases e
def intsOf : List D → Option (List Int)
  | [] => some []
  | .int b :: ds => (intsOf ds).map (b :: ·)
  | _ :: _ => none
theorem intsOf_ok {K : PySem.W.Frag} {as : Ar} {H : Hp} : ∀ {vs : List V} {ds : List D} {bs : List Int}, Reps K as H vs ds → intsOf ds = some bs → vs = bs.map V.int
  | _, _, _, .nil, e => by cases e; rfl
  | v :: vs, d :: ds, bs, .cons h t, e => by
    unfold intsOf at e
    split at e
    · rename_i e0; cases e0
    · rename_i b ds' e0
      cases e0
      obtain ⟨cs, ec, rfl⟩ := Option.map_eq_some_iff.mp e
      cases h
      rw [intsOf_ok t ec]
      rfl
    · cases e
def dAll : D → List Cell → Option D := fun x μ => match asSL x μ with
  | some xs => (blsOf xs).map fun bs => .bl (bs.all id)
  | none => none
def dAny : D → List Cell → Option D := fun x μ => match asSL x μ with
  | some xs => (blsOf xs).map fun bs => .bl (bs.any id)
  | none => none
def dSum : D → List Cell → Option D := fun x μ => match asSL x μ with
  | some xs => (intsOf xs).map fun ns => .int ns.sum
  | none => none
theorem call_allD (hc : X.calm = true) : CallR X (.builtin "all") (rCD X.K (g1 dAll)) := call1 fun pins s σ H x us Q as d μ z I r rd sto ez q => by
  unfold dAll at ez
  split at ez
  · rename_i xs ex
    obtain ⟨bs, eb, rfl⟩ := Option.map_eq_some_iff.mp ez
    obtain ⟨a, vs, rfl, hq, rs⟩ := asSL_ok rd sto ex
    rw [blsOf_ok rs eb] at hq
    exact cr_all hc pins s σ H _ us Q I r ⟨a, bs, rfl, hq, q _ H .refl (.bl _) sto⟩
  · cases ez
theorem call_anyD (hc : X.calm = true) : CallR X (.builtin "any") (rCD X.K (g1 dAny)) := call1 fun pins s σ H x us Q as d μ z I r rd sto ez q => by
  unfold dAny at ez
  split at ez
  · rename_i xs ex
    obtain ⟨bs, eb, rfl⟩ := Option.map_eq_some_iff.mp ez
    obtain ⟨a, vs, rfl, hq, rs⟩ := asSL_ok rd sto ex
    rw [blsOf_ok rs eb] at hq
    exact cr_any hc pins s σ H _ us Q I r ⟨a, bs, rfl, hq, q _ H .refl (.bl _) sto⟩
  · cases ez
theorem call_sumD (hc : X.calm = true) : CallR X (.builtin "sum") (rCD X.K (g1 dSum)) := call1 fun pins s σ H x us Q as d μ z I r rd sto ez q => by
  unfold dSum at ez
  split at ez
  · rename_i xs ex
    obtain ⟨bs, eb, rfl⟩ := Option.map_eq_some_iff.mp ez
    obtain ⟨a, vs, rfl, hq, rs⟩ := asSL_ok rd sto ex
    rw [intsOf_ok rs eb] at hq
    exact cr_sum hc pins s σ H _ us Q I r ⟨a, bs, rfl, hq, q _ H .refl (.int _) sto⟩
  · cases ez
/-- the greatest, the least of some ints -/
def maxI : List Int → Int
  | [] => 0
  | [a] => a
  | a :: r => if maxI r > a then maxI r else a
def minI : List Int → Int
  | [] => 0
  | [a] => a
  | a :: r => if minI r < a then minI r else a
theorem maxI_is : ∀ {ns : List Int} {m : Int}, m ∈ ns → (∀ y, y ∈ ns → y ≤ m) → m = maxI ns := by
  have ub : ∀ (ns : List Int), ∀ y ∈ ns, y ≤ maxI ns := by
    intro ns
    induction ns with
    | nil => intro y hy; cases hy
    | cons a r ih =>
      intro y hy
      cases r with
      | nil => simp only [List.mem_cons, List.not_mem_nil, or_false] at hy; subst hy; exact Int.le_refl _
      | cons b r =>
        unfold maxI
        rcases List.mem_cons.mp hy with rfl | h
        · split <;> omega
        · have := ih y h
          split <;> omega
  have mem : ∀ (ns : List Int), ns ≠ [] → maxI ns ∈ ns := by
    intro ns
    induction ns with
    | nil => intro h; exact absurd rfl h
    | cons a r ih =>
      intro _
      cases r with
      | nil => exact List.mem_cons_self
      | cons b r =>
        unfold maxI
        split
        · exact List.mem_cons_of_mem _ (ih (by simp))
        · exact List.mem_cons_self
  intro ns m hm h
  have h1 := ub ns m hm
  have h2 := h _ (mem ns (by intro e; subst e; cases hm))
  omega
def dMaxL : D → List Cell → Option D := fun x μ => match asSL x μ with
  | some xs => match intsOf xs with
    | some (n :: ns) => some (.int (maxI (n :: ns)))
    | _ => none
  | none => none
theorem call_maxLD (hc : X.calm = true) : CallR X (.builtin "max") (rCD X.K (g1 dMaxL)) := call1 fun pins s σ H x us Q as d μ z I r rd sto ez q => by
  unfold dMaxL at ez
  split at ez
  · rename_i xs ex
    split at ez
    · rename_i n ns eb
      cases Option.some.inj ez
      obtain ⟨a, vs, rfl, hq, rs⟩ := asSL_ok rd sto ex
      rw [intsOf_ok rs eb] at hq
      exact cr_max hc pins s σ H _ us Q I r ⟨a, _, rfl, hq, by simp, fun m hm h => by rw [maxI_is hm h]; exact q _ H .refl (.int _) sto⟩
    · cases ez
  · cases ez
/-- a name of the module that holds a text -/
theorem de_gstr {i x : Str} {pos : Pos} (hg : Gl X x) (hm : ∃ t, X.mg x = some (.str i t)) (hdb : (x == ("__debug__" : Str)) = false := by decide) : PE X (.Name x pos) (tF X.K (fC (.str i))) :=
  let ⟨t, hm⟩ := hm
  (pe_glob (v := .str i) hg hm ⟨t, rfl⟩ (hd := hdb)).imp (tF_c fun _ _ => .str i)
/-! ### list(..), tuple(..) -/
/-- the items of a list or tuple -/
def asQ : D → List Cell → Option (List D)
  | .tup xs, _ => some xs
  | x, μ => asSL x μ
theorem asQ_ok {K : PySem.W.Frag} {as : Ar} {H : Hp} {v : V} {d : D} {μ : List Cell} {xs : List D} (r : Rep K as H v d) (s : StoR K as H μ) (e : asQ d μ = some xs) : ∃ a vs, v = .ref a ∧ (SqL K H a vs ∨ SqT K H a vs) ∧ Reps K as H vs xs := by
  unfold asQ at e
  split at e
  · cases r with
    | @tup a vs ds t rs =>
      cases Option.some.inj e
      exact ⟨a, vs, rfl, .inr t.sq, rs⟩
  · obtain ⟨a, vs, h1, h2, h3⟩ := asSL_ok r s e
    exact ⟨a, vs, h1, .inl h2, h3⟩
def dList : D → List Cell → Option D := fun x μ => (asQ x μ).map .lst
theorem call_listD : CallR X (.type "list") (rCD X.K (g1 dList)) := call1 fun pins s σ H x us Q as d μ z I r rd sto ez q => by
  obtain ⟨xs, ex, rfl⟩ := Option.map_eq_some_iff.mp ez
  obtain ⟨a, vs, rfl, hq, rs⟩ := asQ_ok rd sto ex
  exact call_list_of pins s σ H _ us Q I r ⟨a, vs, rfl, hq, fun p hp => q _ _ (Ext.new hp (sto.out hp)) (.newL sto hp rs) (sto.new hp)⟩
def dTuple : D → List Cell → Option D
  | .tup xs, _ => some (.tup xs)
  | x, μ => (asSL x μ).map .tup
theorem de_tuple {a : Expr} {fa : EvE} {p pos : Pos} (hg : Gl X "tuple") (hm : X.mg "tuple" = none) (ha : PE X a (tF X.K fa)) (na : starEach [a] X.env = (false, eval a X.env) :: starEach [] X.env := by rfl) :
    PE X (.Call (.Name "tuple" p) [a] [] pos) (tF X.K (fU dTuple fa)) := (pe_tupleOf hg hm ha na).imp fun σ H Q ⟨as, S, d, μ', E, e, q⟩ => by
  obtain ⟨x, ex, ez⟩ := fU_out e
  refine ⟨as, S, x, μ', E, ex, fun v as1 H1 X1 r1 s1 => ?_⟩
  unfold dTuple at ez
  split at ez
  · cases Option.some.inj ez
    cases r1 with
    | @tup b vs ds t rs => exact .inr ⟨b, vs, rfl, t.sq, q _ as1 H1 X1 (.tup t rs) s1⟩
  · obtain ⟨xs, ex', rfl⟩ := Option.map_eq_some_iff.mp ez
    obtain ⟨b, vs, rfl, hq, rs⟩ := asSL_ok r1 s1 ex'
    exact .inl ⟨b, vs, rfl, hq, fun p hp => q _ as1 _ (X1.trans (Ext.new hp (s1.out hp)) E.sto.trk) (.newT s1 hp rs) (s1.new hp)⟩
/-- .. as a list that changes -/
def fListC (fa : EvE) : EvE := fun S => match fa S with
  | some (x, μ1) => match asQ x μ1 with
    | some xs => some (.h μ1.length, μ1 ++ [.lst xs])
    | none => none
  | none => none
def rListC (K : PySem.W.Frag) : List V → Hp → VK → Prop := fun vs H Q => ∃ as x xs μ, Reps K as H vs [x] ∧ StoR K as H μ ∧ asQ x μ = some xs ∧ ∀ v as' H', Ext as H as' H' → Rep K as' H' v (.h μ.length) → StoR K as' H' (μ ++ [.lst xs]) → Q v H'
theorem call_listC : CallR X (.type "list") (rListC X.K) := by
  intro pins s σ H vs us Q I r ⟨as, x, xs, μ, rs, sto, ex, q⟩
  cases rs with
  | cons r1 rt =>
  cases rt
  obtain ⟨a, ws, rfl, hq, rs⟩ := asQ_ok r1 sto ex
  refine call_list_of pins s σ H _ us Q I r ⟨a, ws, rfl, hq, fun p hp => ?_⟩
  obtain ⟨X2, s2⟩ := sto.grow hp rs
  refine q _ _ _ X2 (.h ?_) s2
  rw [List.getElem?_append_right (by rw [sto.len]; exact Nat.le_refl _), sto.len]
  simp
theorem de_listC {a : Expr} {fa : EvE} {p pos : Pos} (hg : Gl X "list") (hm : X.mg "list" = none) (ha : PE X a (tF X.K fa)) (he : starEach [a] X.env = (false, eval a X.env) :: starEach [] X.env := by rfl) (hpl : (backTo pos (starEach [] X.env)).any (·.1) = false := by rfl) :
    PE X (.Call (.Name "list" p) [a] [] pos) (tF X.K (fListC fa)) := (pe_callTy call_listC hg hm (by decide +kernel) (da_cons ha da_nil he) (by decide) (by decide) he hpl).imp fun σ H Q ⟨as, S, d, μ', E, e, q⟩ => by
  unfold fListC at e
  split at e
  · rename_i x μ1 ea
    split at e
    · rename_i xs ex
      obtain ⟨rfl, rfl⟩ := pr_inj e
      exact ⟨as, S, [x], μ1, E, by unfold fCons fNil; rw [ea], fun vs as1 H1 X1 r1 s1 => ⟨as1, x, xs, μ1, r1, s1, ex, fun v as2 H2 X2 r2 s2 => q v as2 H2 (X1.trans X2 E.sto.trk) r2 s2⟩⟩
    · cases e
  · cases e
end
end DL
namespace DL
open PySem L2
section
variable {X : Cx} {a b c o e : Expr} {es : List Expr} {pos p : Pos} {fa fb : EvE} {fs : EvA}
/-! ### slices -/
abbrev EvO := Sg → Option (Option Int × List Cell)
def tFO (K : PySem.W.Frag) (f : EvO) : TO := fun σ H Q => ∃ as S d μ', ER K as σ H S ∧ f S = some (d, μ') ∧ ∀ as' H', Ext as H as' H' → StoR K as' H' μ' → Q d H'
theorem _root_.L2.PO.imp {e : Option Expr} {t t' : TO} (h : PO X e t) (q : ∀ σ H Q, t' σ H Q → t σ H Q) : PO X e t' := ⟨fun pins s σ H Q I z => h.run pins s σ H Q I (q σ H Q z)⟩
def fNo : EvO := fun S => some (none, S.μ)
def fPart (f : EvE) : EvO := fun S => match f S with
  | some (.int i, μ') => some (some i, μ')
  | _ => none
theorem do_none : PO X none (tFO X.K fNo) := po_none.imp fun σ H Q ⟨as, S, d, μ', E, ed, q⟩ => by
  obtain ⟨rfl, rfl⟩ := pr_inj ed
  exact q as H .refl E.sto
theorem do_some (h : PE X a (tF X.K fa)) : PO X (some a) (tFO X.K (fPart fa)) := (po_some h).imp fun σ H Q ⟨as, S, d, μ', E, ed, q⟩ => by
  unfold fPart at ed
  split at ed
  · rename_i i μ1 ea
    obtain ⟨rfl, rfl⟩ := pr_inj ed
    exact ⟨as, S, _, μ1, E, ea, fun v as1 H1 X1 r1 s1 => by cases r1; exact ⟨i, rfl, q as1 H1 X1 s1⟩⟩
  · cases ed
def cutD {α : Type} (xs : List α) (lo hi : Option Int) : List α := (xs.drop (HT.sIx xs.length 0 lo)).take (HT.sIx xs.length xs.length hi - HT.sIx xs.length 0 lo)
theorem Reps.cut {K : PySem.W.Frag} {as : Ar} {H : Hp} {vs : List V} {ds : List D} (r : Reps K as H vs ds) (lo hi : Option Int) : Reps K as H (cutV vs lo hi) (cutD ds lo hi) := by
  unfold cutV cutD
  rw [r.length]
  exact (r.drop _).take _
theorem cut_whole {α : Type} {xs : List α} {lo hi : Option Int} (h : HT.sIx xs.length 0 lo = 0 ∧ HT.sIx xs.length xs.length hi = xs.length) : cutD xs lo hi = xs := by
  unfold cutD
  rw [h.1, h.2, List.drop_zero, Nat.sub_zero, List.take_length]
def dSl (x : D) (lo hi : Option Int) (μ : List Cell) : Option D := match x with
  | .tup xs => some (.tup (cutD xs lo hi))
  | .str z => if z.length ≤ sizeLine then some (.str (Txt.slice z lo hi)) else none
  | x => (asSL x μ).map fun xs => .lst (cutD xs lo hi)
def fSl (fa : EvE) (fl fh : EvO) : EvE := fun S => match fa S with
  | some (x, μ1) => match fl { S with μ := μ1 } with
    | some (lo, μ2) => match fh { S with μ := μ2 } with
      | some (hi, μ3) => (dSl x lo hi μ3).map fun z => (z, μ3)
      | none => none
    | none => none
  | none => none
def rSlD (K : PySem.W.Frag) : V → Option Int → Option Int → Hp → VK → Prop := fun x lo hi H Q => ∃ as d μ z, Rep K as H x d ∧ StoR K as H μ ∧ dSl d lo hi μ = some z ∧ ∀ v H', Ext as H as H' → Rep K as H' v z → StoR K as H' μ → Q v H'
theorem sl_D : SlR X (rSlD X.K) := by
  intro pins s σ H x v vl vu lo hi sl Q I rx hs pl pu ⟨as, d, μ, z, rd, sto, ez, q⟩
  unfold dSl at ez
  split at ez
  · cases Option.some.inj ez
    cases rd with
    | @tup a vs ds t rs =>
      refine sl_tupA pins s σ H _ v vl vu lo hi sl Q I rx hs pl pu ⟨a, vs, rfl, t.sq, fun w => ?_, fun _ p hp => q _ _ (Ext.new hp (sto.out hp)) (.newT sto hp (rs.cut lo hi)) (sto.new hp)⟩
      rw [rs.length] at w
      rw [cut_whole w] at q
      exact q _ H .refl (.tup t rs) sto
  · split at ez
    · rename_i hz
      cases Option.some.inj ez
      cases rd
      exact C8.sl_txt pins s σ H _ v vl vu lo hi sl Q I rx hs pl pu ⟨_, rfl, hz, q _ H .refl (.str _) sto⟩
    · cases ez
  · obtain ⟨xs, ex, rfl⟩ := Option.map_eq_some_iff.mp ez
    obtain ⟨a, vs, rfl, hq, rs⟩ := asSL_ok rd sto ex
    exact sl_list pins s σ H _ v vl vu lo hi sl Q I rx hs pl pu ⟨a, vs, rfl, hq, fun p hp => q _ _ (Ext.new hp (sto.out hp)) (.newL sto hp (rs.cut lo hi)) (sto.new hp)⟩
theorem de_slice {lo hi : Option Expr} {fl fh : EvO} {p2 : Pos} (he : PE X a (tF X.K fa)) (hl : PO X lo (tFO X.K fl)) (hu : PO X hi (tFO X.K fh)) : PE X (.Subscript a (.Slice lo hi none p2) pos) (tF X.K (fSl fa fl fh)) :=
  (pe_slice sl_D he hl hu).imp fun σ H Q ⟨as, S, d, μ', E, ed, q⟩ => by
    unfold fSl at ed
    split at ed
    · rename_i x μ1 ea
      split at ed
      · rename_i l μ2 el
        split at ed
        · rename_i h μ3 eh
          obtain ⟨z, ez, eq⟩ := Option.map_eq_some_iff.mp ed
          obtain ⟨rfl, rfl⟩ := Prod.mk.inj eq
          refine ⟨as, S, x, μ1, E, ea, fun v as1 H1 X1 r1 s1 => ⟨as1, _, l, μ2, E.mvE X1 s1, el, fun as2 H2 X2 s2 => ⟨as2, _, h, μ3, (E.mvE X1 s1).mvE X2 s2, eh, fun as3 H3 X3 s3 => ?_⟩⟩⟩
          have X23 := X2.trans X3 s1.trk
          exact ⟨as3, x, μ3, _, r1.mv X23, s3, ez, fun w H4 X4 r4 s4 => q w as3 H4 (X1.trans (X23.trans X4 s1.trk) E.sto.trk) r4 s4⟩
        · cases ed
      · cases ed
    · cases ed
/-! ### methods of cells -/
def cApp (o d : D) (μ : List Cell) : Option (List Cell) := match o with
  | .h k => match μ[k]? with
    | some (.lst xs) => if xs.length < sizeLine then some (μ.set k (.lst (xs ++ [d]))) else none
    | none => none
  | _ => none
def fApn (fo fd : EvE) : EvE := fun S => match fo S with
  | some (o, μ1) => match fd { S with μ := μ1 } with
    | some (d, μ2) => (cApp o d μ2).map fun μ3 => (.non, μ3)
    | none => none
  | none => none
theorem cApp_out {o d : D} {μ μ' : List Cell} (e : cApp o d μ = some μ') : ∃ k xs, o = .h k ∧ μ[k]? = some (.lst xs) ∧ xs.length < sizeLine ∧ μ' = μ.set k (.lst (xs ++ [d])) := by
  unfold cApp at e
  split at e
  · split at e
    · rename_i xs ex
      split at e
      · rename_i h
        exact ⟨_, xs, rfl, ex, h, (Option.some.inj e).symm⟩
      · cases e
    · cases e
  · cases e
theorem h_list {K : PySem.W.Frag} {as : Ar} {H : Hp} {μ : List Cell} {k : Nat} {v : V} {xs : List D} (r : Rep K as H v (.h k)) (s : StoR K as H μ) (e : μ[k]? = some (.lst xs)) : ∃ p vs, v = .ref p ∧ as.c[k]? = some p ∧ H p = some (.lst vs) ∧ Reps K as H vs xs := by
  cases r with
  | @h _ p ep =>
    obtain ⟨vs, hv, rs⟩ := s.at_ k p _ ep e
    exact ⟨p, vs, rfl, ep, hv, rs⟩
theorem cell_ty {K : PySem.W.Frag} {as : Ar} {H : Hp} {μ : List Cell} {k : Nat} {v : V} (r : Rep K as H v (.h k)) (s : StoR K as H μ) : tyV K "list" v H := by
  cases r with
  | @h _ p ep =>
    have hk : k < μ.length := by rw [← s.len]; exact (List.getElem?_eq_some_iff.mp ep).1
    have q := s.at_ k p _ ep (List.getElem?_eq_getElem hk)
    cases c : μ[k] with
    | lst ds =>
      rw [c] at q
      obtain ⟨vs, z, _⟩ := q
      exact .inl ⟨rfl, vs, SqL.of z⟩
theorem de_append {apos cpos : Pos} (ho : PE X o (tF X.K fa)) (he : PE X e (tF X.K fb)) (hbase : attributeBase o "append" X.env (eval o X.env) = eval o X.env := by rfl)
    (hfew : ((backTo cpos (starEach [e] X.env)).all (fun x => !x.1) && (backToKw cpos (keywordEach [] X.env)).all (fun x => x.1.isSome)
      && decide ([e].length + ([] : List Keyword).length + (if ([] : List Keyword).isEmpty then 0 else 1) < 30)) = true := by rfl)
    (hline : (apos.endLine == cpos.line) = true := by rfl) (hs : starEach [e] X.env = (false, eval e X.env) :: starEach [] X.env := by rfl) (hplain : (backTo cpos (starEach [] X.env)).any (·.1) = false := by rfl)
    (hs1 : starEach [e] X.env = [(false, eval e X.env)] := by rfl) :
    PE X (.Call (.Attribute o "append" apos) [e] [] cpos) (tF X.K (fApn fa fb)) :=
  (pe_bm PySem.F.plainAttrs_list PySem.F.slot_list_append PySem.F.type_list_append mt_append ho (da_cons he da_nil hs) hbase hfew hline hs hplain).imp fun σ H Q ⟨as, S, d, μ', E, ed, q⟩ => by
    unfold fApn at ed
    split at ed
    · rename_i x μ1 ea
      split at ed
      · rename_i y μ2 eb
        obtain ⟨μ3, ec, eq⟩ := Option.map_eq_some_iff.mp ed
        obtain ⟨rfl, rfl⟩ := Prod.mk.inj eq
        obtain ⟨k, xs, rfl, ex, hz, rfl⟩ := cApp_out ec
        refine ⟨as, S, _, μ1, E, ea, fun v as1 H1 X1 r1 s1 => ⟨?_, as1, _, [y], μ2, E.mvE X1 s1, ?_, fun vs as2 H2 X2 r2 s2 => ?_⟩⟩
        · exact cell_ty r1 s1
        · unfold fCons fNil; rw [eb]
        · cases r2 with
          | cons r2 rt =>
          cases rt
          obtain ⟨p, ws, rfl, ep, hv, rs⟩ := h_list (r1.mv X2) s2 ex
          have X12 := X1.trans X2 E.sto.trk
          obtain ⟨X3, s3⟩ := s2.upd ep (rs.snoc r2)
          exact ⟨p, ws, _, rfl, rfl, hv, by rw [rs.length]; exact hz, q .non as2 _ (X12.trans X3 E.sto.trk) .non s3⟩
      · cases ed
    · cases ed
end
end DL
namespace DL
open PySem L2
section
variable {X : Cx} {a b c o e : Expr} {es : List Expr} {pos p : Pos} {fa fb : EvE} {fs : EvA}
/-! ### pop -/
theorem type_pop : typeOf (.builtin "list.pop") = pure (.type "method_descriptor") := by show builtinType _ = _; rw [builtinType_eq_fast]; kernel_rfl
def cPop (o i : D) (μ : List Cell) : Option (D × List Cell) := match o, i with
  | .h k, .int j => match μ[k]? with
    | some (.lst xs) => if -(2 ^ 63) ≤ j ∧ j < 2 ^ 63 then match seqIndex? j xs.length with
      | some n => match xs[n]? with
        | some d => some (d, μ.set k (.lst (xs.eraseIdx n)))
        | none => none
      | none => none
      else none
    | none => none
  | _, _ => none
theorem cPop_out {o i d : D} {μ μ' : List Cell} (e : cPop o i μ = some (d, μ')) : ∃ k j xs n, o = .h k ∧ i = .int j ∧ μ[k]? = some (.lst xs) ∧ -(2 ^ 63) ≤ j ∧ j < 2 ^ 63 ∧ seqIndex? j xs.length = some n ∧ xs[n]? = some d ∧ μ' = μ.set k (.lst (xs.eraseIdx n)) := by
  unfold cPop at e
  split at e
  · split at e
    · rename_i xs ex
      split at e
      · rename_i hj
        split at e
        · rename_i n en
          split at e
          · rename_i d1 ed
            obtain ⟨rfl, rfl⟩ := pr_inj e
            exact ⟨_, _, xs, n, rfl, rfl, ex, hj.1, hj.2, en, ed, rfl⟩
          · cases e
        · cases e
      · cases e
    · cases e
  · cases e
theorem Reps.erase {K : PySem.W.Frag} {as : Ar} {H : Hp} : ∀ {vs : List V} {ds : List D} (n : Nat), Reps K as H vs ds → Reps K as H (vs.eraseIdx n) (ds.eraseIdx n)
  | _, _, _, .nil => .nil
  | _, _, 0, .cons _ t => t
  | _, _, n + 1, .cons h t => .cons h (Reps.erase n t)
def fPop (fo fi : EvE) : EvE := fun S => match fo S with
  | some (o, μ1) => match fi { S with μ := μ1 } with
    | some (i, μ2) => cPop o i μ2
    | none => none
  | none => none
theorem de_pop {apos cpos : Pos} (ho : PE X o (tF X.K fa)) (he : PE X e (tF X.K fb)) (hbase : attributeBase o "pop" X.env (eval o X.env) = eval o X.env := by rfl)
    (hfew : ((backTo cpos (starEach [e] X.env)).all (fun x => !x.1) && (backToKw cpos (keywordEach [] X.env)).all (fun x => x.1.isSome)
      && decide ([e].length + ([] : List Keyword).length + (if ([] : List Keyword).isEmpty then 0 else 1) < 30)) = true := by rfl)
    (hline : (apos.endLine == cpos.line) = true := by rfl) (hs : starEach [e] X.env = (false, eval e X.env) :: starEach [] X.env := by rfl) (hplain : (backTo cpos (starEach [] X.env)).any (·.1) = false := by rfl) :
    PE X (.Call (.Attribute o "pop" apos) [e] [] cpos) (tF X.K (fPop fa fb)) :=
  (pe_bm PySem.F.plainAttrs_list PySem.F.slot_list_pop type_pop mt_popAt ho (da_cons he da_nil hs) hbase hfew hline hs hplain).imp fun σ H Q ⟨as, S, d, μ', E, ed, q⟩ => by
    unfold fPop at ed
    split at ed
    · rename_i x μ1 ea
      split at ed
      · rename_i y μ2 eb
        obtain ⟨k, j, xs, n, rfl, rfl, ex, h1, h2, hn, hd, rfl⟩ := cPop_out ed
        refine ⟨as, S, _, μ1, E, ea, fun v as1 H1 X1 r1 s1 => ⟨cell_ty r1 s1, as1, _, [.int j], μ2, E.mvE X1 s1, ?_, fun vs as2 H2 X2 r2 s2 => ?_⟩⟩
        · unfold fCons fNil; rw [eb]
        · cases r2 with
          | cons r2 rt =>
          cases rt
          cases r2
          obtain ⟨p, ws, rfl, ep, hv, rs⟩ := h_list (r1.mv X2) s2 ex
          have X12 := X1.trans X2 E.sto.trk
          obtain ⟨w, hw, rw'⟩ := rs.get hd
          obtain ⟨X3, s3⟩ := s2.upd ep (rs.erase n)
          exact ⟨p, ws, j, n, w, rfl, rfl, hv, h1, h2, by rw [rs.length]; exact hn, hw, q w as2 _ (X12.trans X3 E.sto.trk) (rw'.mv X3) s3⟩
      · cases ed
    · cases ed
/-! ### starred arguments, displays -/
def fStar (fa : EvE) (fs : EvA) : EvA := fun S => match fa S with
  | some (x, μ1) => match asQ x μ1 with
    | some xs => match fs { S with μ := μ1 } with
      | some (ys, μ2) => some (xs ++ ys, μ2)
      | none => none
    | none => none
  | none => none
theorem da_star (ha : PE X a (tF X.K fa)) (hr : PA X es (tFA X.K fs)) (hs : starEach (.Starred a p :: es) X.env = (true, eval a X.env) :: starEach es X.env := by rfl) : PA X (.Starred a p :: es) (tFA X.K (fStar fa fs)) :=
  (StX.pa_star ha hr hs).imp fun σ H Q ⟨as, S, d, μ', E, ed, q⟩ => by
    unfold fStar at ed
    split at ed
    · rename_i x μ1 ea
      split at ed
      · rename_i xs ex
        split at ed
        · rename_i ys μ2 es'
          obtain ⟨rfl, rfl⟩ := pr_inj ed
          refine ⟨as, S, x, μ1, E, ea, fun v as1 H1 X1 r1 s1 => ?_⟩
          obtain ⟨b, vs, rfl, hq, rs⟩ := asQ_ok r1 s1 ex
          exact ⟨b, vs, rfl, hq.symm, as1, _, ys, μ2, E.mvE X1 s1, es', fun ws as2 H2 X2 r2 s2 => q _ as2 H2 (X1.trans X2 E.sto.trk) ((rs.mv X2).append r2) s2⟩
        · cases ed
      · cases ed
    · cases ed
/-! ### zip, enumerate -/
def zipD (xs ys : List D) : List D := List.zipWith (fun x y => D.tup [x, y]) xs ys
def gZip (fs : EvA) : EvI := fun S => match fs S with
  | some ([.tup xs, .tup ys], μ1) => some (zipD xs ys, μ1)
  | some ([.lst xs, .lst ys], μ1) => some (zipD xs ys, μ1)
  | _ => none
theorem zipD_get {xs ys : List D} {i : Nat} {x y : D} (hx : xs[i]? = some x) (hy : ys[i]? = some y) : (zipD xs ys)[i]? = some (.tup [x, y]) := by
  unfold zipD
  rw [List.getElem?_zipWith, hx, hy]
theorem zipD_len {xs ys : List D} : (zipD xs ys).length = min xs.length ys.length := by simp [zipD]
theorem di_zip {e2 : Expr} {tpos : Pos} {elts : List Expr} {kk : Nat} (hg : Gl X "zip") (hm : X.mg "zip" = none) (ha : PA X [e, e2] (tFA X.K fs))
    (hs : starEach [e, e2] X.env = (false, eval e X.env) :: starEach [e2] X.env := by rfl) (hpl : (backTo pos (starEach [e2] X.env)).any (·.1) = false := by rfl) :
    PI X (.Tuple elts kk tpos) (.Call (.Name "zip" p) [e, e2] [] pos) (tI X.K (gZip fs)) := PI.imp (RZ.pi_zipA hg hm ha hs hpl) fun σ H R ⟨as, S, ds, μ', E, ed, q⟩ => by
  have newT : ∀ {as' : Ar} {H' H'' : Hp} {μ : List Cell} {T : Addr} {x y : V} {dx dy : D}, StoR X.K as' H' μ → H' T = none → H'' = upd H' T (.tup [x, y]) → Rep X.K as' H' x dx → Rep X.K as' H' y dy → Ext as' H' as' H'' ∧ Rep X.K as' H'' (.ref T) (.tup [dx, dy]) ∧ StoR X.K as' H'' μ := fun {as' H' H'' μ T x y dx dy} s' hT e' rx ry => by
    subst e'
    exact ⟨Ext.new hT (s'.out hT), .newT s' hT (.cons rx (.cons ry .nil)), s'.new hT⟩
  unfold gZip at ed
  split at ed
  · rename_i xs ys μ1 ef
    obtain ⟨rfl, rfl⟩ := pr_inj ed
    refine ⟨as, S, _, μ1, E, ef, fun vs as1 H1 X1 r1 s1 => ?_⟩
    cases r1 with
    | cons ra rt =>
    cases rt with
    | cons rb rt =>
    cases rt
    cases ra with
    | @tup u us _ t1 q1 =>
    cases rb with
    | @tup v ws _ t2 q2 =>
    refine ⟨u, v, us, ws, rfl, .inr ⟨t1.sq, t2.sq, q _ as1 H1 X1 s1 ⟨fun i as' H' X' hi => ?_, fun as' H' X' => ⟨us, ws, (t1.mv X').sq, (t2.mv X').sq, ?_⟩, fun i as' H' μ x H'' X' s' hi y => ?_⟩⟩⟩
    · rw [zipD_len] at hi
      have h1 : i < us.length := by rw [q1.length]; omega
      have h2 : i < ws.length := by rw [q2.length]; omega
      exact ⟨us, ws, us[i], ws[i], (t1.mv X').sq, (t2.mv X').sq, List.getElem?_eq_getElem h1, List.getElem?_eq_getElem h2⟩
    · rw [zipD_len, q1.length, q2.length]; omega
    · obtain ⟨T, x', y', rfl, hT, hH, hx, hy⟩ := y
      obtain ⟨dx, ex, rx⟩ := (q1.mv X').getV (hx us (t1.mv X').sq)
      obtain ⟨dy, ey, ry⟩ := (q2.mv X').getV (hy ws (t2.mv X').sq)
      obtain ⟨z1, z2, z3⟩ := newT s' hT hH rx ry
      exact ⟨_, zipD_get ex ey, z1, z2, z3⟩
  · rename_i xs ys μ1 ef
    obtain ⟨rfl, rfl⟩ := pr_inj ed
    refine ⟨as, S, _, μ1, E, ef, fun vs as1 H1 X1 r1 s1 => ?_⟩
    cases r1 with
    | cons ra rt =>
    cases rt with
    | cons rb rt =>
    cases rt
    cases ra with
    | @lst u us _ t1 n1 q1 =>
    cases rb with
    | @lst v ws _ t2 n2 q2 =>
    have S1 : ∀ {as' : Ar} {H' : Hp}, Ext as1 H1 as' H' → SqL X.K H' u us := fun X' => SqL.of (at_mv t1 n1 X').1
    have S2 : ∀ {as' : Ar} {H' : Hp}, Ext as1 H1 as' H' → SqL X.K H' v ws := fun X' => SqL.of (at_mv t2 n2 X').1
    refine ⟨u, v, us, ws, rfl, .inl ⟨S1 .refl, S2 .refl, q _ as1 H1 X1 s1 ⟨fun i as' H' X' hi => ?_, fun as' H' X' => ⟨us, ws, S1 X', S2 X', ?_⟩, fun i as' H' μ x H'' X' s' hi y => ?_⟩⟩⟩
    · rw [zipD_len] at hi
      have h1 : i < us.length := by rw [q1.length]; omega
      have h2 : i < ws.length := by rw [q2.length]; omega
      exact ⟨us, ws, us[i], ws[i], S1 X', S2 X', List.getElem?_eq_getElem h1, List.getElem?_eq_getElem h2⟩
    · rw [zipD_len, q1.length, q2.length]; omega
    · obtain ⟨T, x', y', rfl, hT, hH, hx, hy⟩ := y
      obtain ⟨dx, ex, rx⟩ := (q1.mv X').getV (hx us (S1 X'))
      obtain ⟨dy, ey, ry⟩ := (q2.mv X').getV (hy ws (S2 X'))
      obtain ⟨z1, z2, z3⟩ := newT s' hT hH rx ry
      exact ⟨_, zipD_get ex ey, z1, z2, z3⟩
  · cases ed
/-! ### texts with parts -/
def dFmt : D → List Cell → Option D
  | .str y, _ => if y.length ≤ sizeLine then some (.str y) else none
  | .int i, _ => if i.natAbs.log2 < 1920 then some (.str (toString i)) else none
  | _, _ => none
theorem de_fmt (he : PE X a (tF X.K fa)) : PE X (.FormattedValue a (-1) none pos) (tF X.K (fU dFmt fa)) := (pe_fmt he).imp fun σ H Q ⟨as, S, d, μ', E, ed, q⟩ => by
  obtain ⟨x, ex, ez⟩ := fU_out ed
  refine ⟨as, S, x, μ', E, ex, fun v as1 H1 X1 r1 s1 => ?_⟩
  unfold dFmt at ez
  split at ez
  · split at ez
    · rename_i hz
      cases Option.some.inj ez
      cases r1
      exact .inl ⟨_, rfl, hz, q _ as1 H1 X1 (.str _) s1⟩
    · cases ez
  · split at ez
    · rename_i hz
      cases Option.some.inj ez
      cases r1
      exact .inr ⟨_, rfl, hz, q _ as1 H1 X1 (.str _) s1⟩
    · cases ez
  · cases ez
inductive DJs (X : Cx) : List Expr → List EvE → Prop where
  | nil : DJs X [] []
  | cons {e : Expr} {f : EvE} {es : List Expr} {fs : List EvE} (h : PE X e (tF X.K f)) (r : DJs X es fs) : DJs X (e :: es) (f :: fs)
theorem DJs.pj : ∀ {es : List Expr} {fs : List EvE}, DJs X es fs → PJ X es (fs.map (tF X.K))
  | _, _, .nil => .nil
  | _, _, .cons h r => .cons h r.pj
def joinL : List EvE → Str → Sg → Option (Str × List Cell)
  | [], acc, S => some (acc, S.μ)
  | f :: fs, acc, S => match f S with
    | some (.str y, μ1) => if (acc ++ y).length ≤ sizeLine then joinL fs (acc ++ y) { S with μ := μ1 } else none
    | _ => none
def fJs (fs : List EvE) : EvE := fun S => match joinL fs Str.empty S with
  | some (z, μ') => some (.str z, μ')
  | none => none
theorem joinL_ok {K : PySem.W.Frag} {σ : St} {Q : Str → Hp → Prop} {z : Str} {μ' : List Cell} : ∀ {fs : List EvE} {acc : Str} {as : Ar} {H : Hp} {S : Sg}, ER K as σ H S → joinL fs acc S = some (z, μ') → (∀ as' H', Ext as H as' H' → StoR K as' H' μ' → Q z H') → tJs (fs.map (tF K)) acc σ H Q
  | [], acc, as, H, S, E, e, q => by
    obtain ⟨rfl, rfl⟩ := pr_inj e
    exact q as H .refl E.sto
  | f :: fs, acc, as, H, S, E, e, q => by
    unfold joinL at e
    split at e
    · rename_i y μ1 ef
      split at e
      · rename_i hz
        refine ⟨as, S, _, μ1, E, ef, fun v as1 H1 X1 r1 s1 => ?_⟩
        cases r1
        exact ⟨y, rfl, hz, joinL_ok (E.mvE X1 s1) e fun as2 H2 X2 s2 => q as2 H2 (X1.trans X2 E.sto.trk) s2⟩
      · cases e
    · cases e
theorem de_joined {v1 v2 : Expr} {rest : List Expr} {fs : List EvE} (h : DJs X (v1 :: v2 :: rest) fs) : PE X (.JoinedStr (v1 :: v2 :: rest) pos) (tF X.K (fJs fs)) := (pe_joined h.pj).imp fun σ H Q ⟨as, S, d, μ', E, ed, q⟩ => by
  unfold fJs at ed
  split at ed
  · rename_i z μ1 ej
    obtain ⟨rfl, rfl⟩ := pr_inj ed
    exact joinL_ok E ej fun as' H' X' s' => q _ as' H' X' (.str _) s'
  · cases ed
theorem de_joined1 (h : PE X a (tF X.K fa)) : PE X (.JoinedStr [a] pos) (tF X.K fa) := pe_joined1 h
/-! ### in, not in -/
def inB (x y : D) (μ : List Cell) : Option Bool := match x, y with
  | .str w, .str z => match w.cps.toList with
    | [c] => some (decide (c ∈ z.cps.toList))
    | _ => none
  | _, _ => match toP x μ, toP y μ with
    | some p, some (.list ps) => if p.canLay0 = true ∧ PyData.canLayAll0 ps = true ∧ p.depth ≤ 63 then some (ps.any fun q => PyData.eqv q p) else none
    | some p, some (.tuple ps) => if p.canLay0 = true ∧ PyData.canLayAll0 ps = true ∧ p.depth ≤ 63 then some (ps.any fun q => PyData.eqv q p) else none
    | _, _ => none
def dIn : D → D → List Cell → Option D := fun x y μ => (inB x y μ).map .bl
def dNotIn : D → D → List Cell → Option D := fun x y μ => (inB x y μ).map fun k => .bl (!k)
theorem dIn_bl : ∀ x y μ z, dIn x y μ = some z → ∃ k, z = .bl k := fun _ _ _ _ e => map_bl (f := fun k => k) e
theorem dNotIn_bl : ∀ x y μ z, dNotIn x y μ = some z → ∃ k, z = .bl k := fun _ _ _ _ e => map_bl e
theorem one_sign {w : Str} {c : Nat} (e : w.cps.toList = [c]) : w = ⟨#[c]⟩ := by
  cases w with
  | mk l =>
    congr 1
    apply Array.ext'
    simpa using e
theorem op_inD (hu : X.A.units + 64 < cLine) : OpR X (compareOp .In) (rD X.K dIn) := by
  intro pins s σ H x y v u Q I rx ry ⟨as, d, e, μ, z, rd, re, sto, ez, q⟩
  obtain ⟨k, ek, rfl⟩ := Option.map_eq_some_iff.mp ez
  unfold inB at ek
  split at ek
  · split at ek
    · rename_i c hc
      cases Option.some.inj ek
      cases rd; cases re
      exact op_in_sign pins s σ H _ _ v u Q I rx ry ⟨c, _, by rw [one_sign hc], rfl, q _ H .refl (.bl _) sto⟩
    · cases ek
  · split at ek
    · rename_i p ps e1 e2
      split at ek
      · rename_i hs
        cases Option.some.inj ek
        obtain ⟨bs, r1⟩ := Dp.reads I p x v (toP_ok rd e1) rx
        obtain ⟨cs, r2⟩ := Dp.reads I _ y u (toP_ok re e2) ry
        exact SeqAt.in_list_reads r2 r1 hs.2.1 hs.1 (by omega) ⟨.bl _, H, I, rfl, q _ H .refl (.bl _) sto⟩
      · cases ek
    · rename_i p ps e1 e2
      split at ek
      · rename_i hs
        cases Option.some.inj ek
        obtain ⟨bs, r1⟩ := Dp.reads I p x v (toP_ok rd e1) rx
        obtain ⟨cs, r2⟩ := Dp.reads I _ y u (toP_ok re e2) ry
        exact SeqAt.in_tuple_reads r2 r1 hs.2.1 hs.1 (by omega) ⟨.bl _, H, I, rfl, q _ H .refl (.bl _) sto⟩
      · cases ek
    · cases ek
theorem op_notInD (hu : X.A.units + 64 < cLine) : OpR X (compareOp .NotIn) (rD X.K dNotIn) := by
  intro pins s σ H x y v u Q I rx ry ⟨as, d, e, μ, z, rd, re, sto, ez, q⟩
  obtain ⟨k, ek, rfl⟩ := Option.map_eq_some_iff.mp ez
  unfold inB at ek
  split at ek
  · split at ek
    · rename_i c hc
      cases Option.some.inj ek
      cases rd; cases re
      exact op_notIn_sign pins s σ H _ _ v u Q I rx ry ⟨c, _, by rw [one_sign hc], rfl, q _ H .refl (.bl _) sto⟩
    · cases ek
  · split at ek
    · rename_i p ps e1 e2
      split at ek
      · rename_i hs
        cases Option.some.inj ek
        obtain ⟨bs, r1⟩ := Dp.reads I p x v (toP_ok rd e1) rx
        obtain ⟨cs, r2⟩ := Dp.reads I _ y u (toP_ok re e2) ry
        exact SeqAt.notIn_list_reads r2 r1 hs.2.1 hs.1 (by omega) ⟨.bl _, H, I, rfl, q _ H .refl (.bl _) sto⟩
      · cases ek
    · rename_i p ps e1 e2
      split at ek
      · rename_i hs
        cases Option.some.inj ek
        obtain ⟨bs, r1⟩ := Dp.reads I p x v (toP_ok rd e1) rx
        obtain ⟨cs, r2⟩ := Dp.reads I _ y u (toP_ok re e2) ry
        exact SeqAt.notIn_tuple_reads r2 r1 hs.2.1 hs.1 (by omega) ⟨.bl _, H, I, rfl, q _ H .refl (.bl _) sto⟩
      · cases ek
    · cases ek
/-! ### repr of lists, tuples -/
def isQ : D → Bool
  | .lst _ | .rl _ | .tup _ | .h _ => true
  | _ => false
def dRepr : D → List Cell → Option D
  | .bl b, _ => some (.str (reprB b))
  | x, μ => if isQ x = true then match toQ x μ with
    | some p => if p.showable = true ∧ p.hasDict = false ∧ p.depth ≤ 62 ∧ p.shown.length ≤ sizeLine then some (.str p.shown) else none
    | none => none
    else none
theorem call_reprD (hgd : X.A.guards = some []) (hu : X.A.units + 64 < cLine) : CallR X (.builtin "repr") (rCD X.K (g1 dRepr)) := call1 fun pins s σ H x us Q as d μ z I r rd sto ez q => by
  unfold dRepr at ez
  split at ez
  · cases Option.some.inj ez
    cases rd
    obtain ⟨u, rfl, ru⟩ := Vals.one r
    cases ru
    exact PySem.P.repr_of_bool ⟨.str _, H, I.tok _, ⟨_, rfl⟩, q _ H .refl (.str _) sto⟩
  · split at ez
    · rename_i hq
      split at ez
      · rename_i p e1
        split at ez
        · rename_i hs
          cases Option.some.inj ez
          obtain ⟨u, rfl, ru⟩ := Vals.one r
          have isr : ∃ a, x = .ref a := by
            cases rd with
            | lst _ _ _ => exact ⟨_, rfl⟩
            | rl _ _ => exact ⟨_, rfl⟩
            | tup _ _ => exact ⟨_, rfl⟩
            | h _ => exact ⟨_, rfl⟩
            | _ => simp [isQ] at hq
          obtain ⟨a, rfl⟩ := isr
          obtain ⟨bs, r1⟩ := Dp.reads I p (.ref a) u (toQ_ok rd sto e1) ru
          cases ru
          exact repr_of_reads' r1 hs.1 (by rw [hs.2.1]; intro h; cases h) hgd (by omega) (fun _ _ h => h) (fun h' u' tk hk => ⟨.str _, H, I.kept hk, ⟨_, rfl⟩, q _ H .refl (.str _) sto⟩) hs.2.2.2
        · cases ez
      · cases ez
    · cases ez
end
end DL
namespace G
open PySem L2 DL
def topS (i : Nat) : Stmt := PySem.Challenge.pw_deepenough_k01_names_and_limits.main.body.getD i (.Pass ⟨0, 0, 0, 0⟩)
structure Txt (mg : Str → Option Value) : Prop where
  n_abs : mg "abs" = none
  n_all : mg "all" = none
  n_bool : mg "bool" = none
  n_int : mg "int" = none
  n_isinstance : mg "isinstance" = none
  n_len : mg "len" = none
  n_max : mg "max" = none
  n_min : mg "min" = none
  n_range : mg "range" = none
  n_repr : mg "repr" = none
  n_str : mg "str" = none
  c_LETTERS : ∃ t, mg "LETTERS" = some (.str "abcdefghijklmnopqrstuvwxyz" t)
  c_LONGEST_NAME : ∃ t, mg "LONGEST_NAME" = some (.int 8 t)
section
variable {P : Program} {w : World} {K : PySem.W.Frag} {mg : Str → Option Value} {base : Heap}
/-! _law_numbers -/
abbrev s__law_numbers : Stmt := topS 8
abbrev N__law_numbers : List Str := ["script", "at", "cell", "whole", "mixed"]
theorem sc__law_numbers : FnScope N__law_numbers ["script", "at"] (defScope s__law_numbers) := ⟨rfl, rfl, rfl, by decide +kernel, rfl, by decide +kernel, by decide +kernel⟩
def g__law_numbers : EvS :=
  (sSeq (bThen (bName 2) (fIfE (fTru (fB dLt (fV 1) (fApp (g1 dLen) (fCons (fV 0) fNil)))) (fB dIx (fV 0) (fV 1)) (fB dAdd (fB dMul (fC (.int 59)) (fV 1)) (fC (.int 17)))))
  (sSeq (bThen (bName 3) (fB (dII gMod) (fApp (g1 dInt1) (fCons (fApp (g1 dAbs) (fCons (fV 2) fNil)) fNil)) (fB (dII gPow) (fB (dII gPow) (fC (.int 10)) (fC (.int 59))) (fC (.int 11)))))
  (sSeq (bThen (bName 4) (fB dAdd (fB dAdd (fB dAdd (fB dMul (fV 3) (fC (.int 1000121))) (fB dMul (fC (.int 8219)) (fV 1))) (fB dMul (fC (.int 31)) (fApp (g1 dInt1) (fCons (fB dLt (fV 2) (fC (.int 0))) fNil)))) (fC (.int 7))))
  (sRet (fNewC (fCons (fApp (g2 dMax2) (fCons (fC (.int 0)) (fCons (fB (dII gSub) (fV 3) (fB (dII gPow) (fC (.int 10)) (fC (.int 16)))) fNil))) (fCons (fB (dII gMod) (fApp (g1 dInt1) (fCons (fV 4) fNil)) (fC (.int 1152921504606846817))) (fCons (fC (.int 0)) fNil))))))))
def F__law_numbers : FnF := fnF 2 5 g__law_numbers
theorem ok__law_numbers {f : Addr} {fd : FuncData} (Fu : Fun K "_law_numbers" "_law_numbers" s__law_numbers f fd) (T : Txt mg) : FG P w K mg base 1 f fd 2 F__law_numbers :=
  fg_def (k := 0) Fu sc__law_numbers (fun _ _ _ _ _ _ us hl => match us, hl with | [_, _], _ => rfl) fun cdv A stk s H E hr hgd =>
      (dss_cons (ds_set (i := 2) sc__law_numbers.nd rfl (by first | exact .inl rfl | exact .inr rfl) (de_ifE (dt_cmp op_ltD (de_var 1) (de_callB call_lenD rfl T.n_len (by decide +kernel) (da_cons (de_var 0) da_nil)) (nomark _) dOrd_bl) (de_ix ix_D (de_var 0) (de_var 1)) (de_bin op_addD (de_bin op_mulD de_int (de_var 1)) de_int)))
      (dss_cons (ds_set (i := 3) sc__law_numbers.nd rfl (by first | exact .inl rfl | exact .inr rfl) (de_bin op_modD (de_callTy call_intD rfl T.n_int (by decide +kernel) (da_cons (de_callB call_absD rfl T.n_abs (by decide +kernel) (da_cons (de_var 2) da_nil)) da_nil)) (de_bin op_powD (de_bin op_powD de_int de_int) de_int)))
      (dss_cons (ds_set (i := 4) sc__law_numbers.nd rfl (by first | exact .inl rfl | exact .inr rfl) (de_bin op_addD (de_bin op_addD (de_bin op_addD (de_bin op_mulD (de_var 3) de_int) (de_bin op_mulD de_int (de_var 1))) (de_bin op_mulD de_int (de_callTy call_intD rfl T.n_int (by decide +kernel) (da_cons (de_cmp op_ltD (de_var 2) de_int (nomark _)) da_nil)))) de_int))
      (dss_one (ds_ret (de_lstC (da_cons (de_callB (call_max2D rfl) rfl T.n_max (by decide +kernel) (da_cons de_int (da_cons (de_bin op_subD (de_var 3) (de_bin op_powD de_int de_int)) da_nil))) (da_cons (de_bin op_modD (de_callTy call_intD rfl T.n_int (by decide +kernel) (da_cons (de_var 4) da_nil)) de_int) (da_cons de_int da_nil)))))))))
/-! is_name -/
abbrev s_is_name : Stmt := topS 5
abbrev N_is_name : List Str := ["value", "letter"]
theorem sc_is_name : FnScope N_is_name ["value"] (defScope s_is_name) := ⟨rfl, rfl, rfl, by decide +kernel, rfl, by decide +kernel, by decide +kernel⟩
def g_is_name : EvS :=
  (sSeq (sIf (fOr (fNot (fTru (fApp (g2 dIsi) (fCons (fV 0) (fCons (fC (.ty "str")) fNil))))) (fNot (fTru (fCh dLe dLe (fC (.int 1)) (fApp (g1 dLen) (fCons (fV 0) fNil)) (fC (.int 8)))))) (sRet (fC (.bl false))) sNx)
  (sRet (fApp (g1 dAll) (fCons (fLc (itOf gSeq (fV 0)) (bName 1) (fun S => some (true, S.μ)) (fB dIn (fV 1) (fC (.str "abcdefghijklmnopqrstuvwxyz"))) [1]) fNil))))
def F_is_name : FnF := fnF 1 2 g_is_name
theorem ok_is_name {f : Addr} {fd : FuncData} (Fu : Fun K "is_name" "is_name" s_is_name f fd) (T : Txt mg) : FG P w K mg base 1 f fd 1 F_is_name :=
  fg_def (k := 0) Fu sc_is_name (fun _ _ _ _ _ _ us hl => match us, hl with | [_], _ => rfl) fun cdv A stk s H E hr hgd =>
      (dss_cons (ds_if (PW.pt (dw_or (dt_not (dt_truth (de_callB call_isiD rfl T.n_isinstance (by decide +kernel) (da_cons (de_var 0) (da_cons (de_gty rfl T.n_str (by decide +kernel)) da_nil))))) (dw_or1 (dt_not (dt_chain op_leD op_leD de_int (de_callB call_lenD rfl T.n_len (by decide +kernel) (da_cons (de_var 0) da_nil)) (de_gint rfl T.c_LONGEST_NAME) dOrd_bl))))) (dss_one (ds_ret de_bl)) dss_nil)
      (dss_one (ds_ret (de_callB (call_allD rfl) rfl T.n_all (by decide +kernel) (da_cons (de_lc rfl sc_is_name.nd (own := [("letter", 1)]) (di_seq (de_var 0)) (blkOk_by (N := N_is_name) (sc := defScope s_is_name) (by decide +kernel)) (fun _ _ _ _ _ => (dg_name (i := 1) sc_is_name.nd rfl (by first | exact .inl rfl | exact .inr rfl))) (fun _ _ _ _ _ => dts_nil) (fun _ _ _ _ _ => (de_cmp (op_inD hr.units) (de_var 1) (de_gstr rfl T.c_LETTERS) rfl))) da_nil)))))
/-! _law_cast -/
abbrev s__law_cast : Stmt := topS 9
abbrev N__law_cast : List Str := ["die", "total", "found", "one", "two"]
theorem sc__law_cast : FnScope N__law_cast ["die", "total"] (defScope s__law_cast) := ⟨rfl, rfl, rfl, by decide +kernel, rfl, by decide +kernel, by decide +kernel⟩
def g__law_cast : EvS :=
  (sSeq (sIf (fTru (fB dGt (fB dIx (fV 0) (fC (.int 0))) (fC (.int 0)))) (sSeq (bThen (bName 2) (fB (dII gMod) (fApp (g1 dInt1) (fCons (fB dIx (fV 0) (fC (.int 0))) fNil)) (fV 1)))
  (sSeq (bThen (bSub (fV 0) (fC (.int 0))) (fB (dII gFdiv) (fB dIx (fV 0) (fC (.int 0))) (fV 1)))
  (sRet (fV 2)))) sNx)
  (sSeq (bThen (bSub (fV 0) (fC (.int 2))) (fB dAdd (fB dIx (fV 0) (fC (.int 2))) (fC (.int 1))))
  (sSeq (bThen (bName 3) (fB (dII gMod) (fApp (g1 dInt1) (fCons (fB dAdd (fB dIx (fV 0) (fC (.int 1))) (fB dMul (fC (.int 776531491)) (fB dIx (fV 0) (fC (.int 2))))) fNil)) (fC (.int 2305843009213693907))))
  (sSeq (bThen (bName 4) (fB dAdd (fB dMul (fB (dII gMod) (fApp (g1 dInt1) (fCons (fB dMul (fV 3) (fV 3)) fNil)) (fC (.int 1152921504606846619))) (fV 3)) (fB dMul (fC (.int 7057)) (fB dIx (fV 0) (fC (.int 2))))))
  (sRet (fB (dII gMod) (fApp (g1 dInt1) (fCons (fB (dII gFdiv) (fB (dII gMod) (fApp (g1 dInt1) (fCons (fB dAdd (fV 4) (fB dIx (fV 0) (fC (.int 1)))) fNil)) (fC (.int 8796093022091))) (fC (.int 32))) fNil)) (fV 1)))))))
def F__law_cast : FnF := fnF 2 5 g__law_cast
theorem ok__law_cast {f : Addr} {fd : FuncData} (Fu : Fun K "_law_cast" "_law_cast" s__law_cast f fd) (T : Txt mg) : FG P w K mg base 1 f fd 2 F__law_cast :=
  fg_def (k := 0) Fu sc__law_cast (fun _ _ _ _ _ _ us hl => match us, hl with | [_, _], _ => rfl) fun cdv A stk s H E hr hgd =>
      (dss_cons (ds_if (dt_cmp op_gtD (de_ix ix_D (de_var 0) de_int) de_int (nomark _) dOrd_bl) (dss_cons (ds_set (i := 2) sc__law_cast.nd rfl (by first | exact .inl rfl | exact .inr rfl) (de_bin op_modD (de_callTy call_intD rfl T.n_int (by decide +kernel) (da_cons (de_ix ix_D (de_var 0) de_int) da_nil)) (de_var 1)))
      (dss_cons (ds_asg (de_bin op_fdivD (de_ix ix_D (de_var 0) de_int) (de_var 1)) (dg_sub (de_var 0) de_int))
      (dss_one (ds_ret (de_var 2))))) dss_nil)
      (dss_cons (ds_asg (de_bin op_addD (de_ix ix_D (de_var 0) de_int) de_int) (dg_sub (de_var 0) de_int))
      (dss_cons (ds_set (i := 3) sc__law_cast.nd rfl (by first | exact .inl rfl | exact .inr rfl) (de_bin op_modD (de_callTy call_intD rfl T.n_int (by decide +kernel) (da_cons (de_bin op_addD (de_ix ix_D (de_var 0) de_int) (de_bin op_mulD de_int (de_ix ix_D (de_var 0) de_int))) da_nil)) de_int))
      (dss_cons (ds_set (i := 4) sc__law_cast.nd rfl (by first | exact .inl rfl | exact .inr rfl) (de_bin op_addD (de_bin op_mulD (de_bin op_modD (de_callTy call_intD rfl T.n_int (by decide +kernel) (da_cons (de_bin op_mulD (de_var 3) (de_var 3)) da_nil)) de_int) (de_var 3)) (de_bin op_mulD de_int (de_ix ix_D (de_var 0) de_int))))
      (dss_one (ds_ret (de_bin op_modD (de_callTy call_intD rfl T.n_int (by decide +kernel) (da_cons (de_bin op_fdivD (de_bin op_modD (de_callTy call_intD rfl T.n_int (by decide +kernel) (da_cons (de_bin op_addD (de_var 4) (de_ix ix_D (de_var 0) de_int)) da_nil)) de_int) de_int) da_nil)) (de_var 1))))))))
/-! _law_pick -/
abbrev s__law_pick : Stmt := topS 10
abbrev N__law_pick : List Str := ["die", "items"]
theorem sc__law_pick : FnScope N__law_pick ["die", "items"] (defScope s__law_pick) := ⟨rfl, rfl, rfl, by decide +kernel, rfl, by decide +kernel, by decide +kernel⟩
def g__law_pick : EvS :=
  (sRet (fB dIx (fV 1) (fCall F__law_cast (fLen 2 (fCons (fV 0) (fCons (fApp (g1 dLen) (fCons (fV 1) fNil)) fNil))))))
def F__law_pick : FnF := fnF 2 2 g__law_pick
theorem ok__law_pick {f : Addr} {fd : FuncData} (Fu : Fun K "_law_pick" "_law_pick" s__law_pick f fd) (T : Txt mg) (h__law_cast : Has P w K mg base "_law_cast" 1 2 F__law_cast) : FG P w K mg base 2 f fd 2 F__law_pick :=
  fg_def (k := 1) Fu sc__law_pick (fun _ _ _ _ _ _ us hl => match us, hl with | [_, _], _ => rfl) fun cdv A stk s H E hr hgd =>
      (dss_one (ds_ret (de_ix ix_D (de_var 1) (de_callH h__law_cast hr hgd (by decide) rfl (da_cons (de_var 0) (da_cons (de_callB call_lenD rfl T.n_len (by decide +kernel) (da_cons (de_var 1) da_nil)) da_nil))))))
/-! _law_odd_one -/
abbrev s__law_odd_one : Stmt := topS 13
abbrev N__law_odd_one : List Str := ["die", "some"]
theorem sc__law_odd_one : FnScope N__law_odd_one ["die"] (defScope s__law_odd_one) := ⟨rfl, rfl, rfl, by decide +kernel, rfl, by decide +kernel, by decide +kernel⟩
def g__law_odd_one : EvS :=
  (sSeq (bThen (bName 1) (fApp gLst (fCons (fC .non) (fCons (fC (.int 0)) (fCons (fC (.int 1)) (fCons (fC (.int 7)) (fCons (fC (.int 99)) (fCons (fU dNeg (fC (.int 1))) (fCons (fC (.bl true)) (fCons (fC (.bl false)) (fCons (fC (.str "")) (fCons (fC (.str "a")) (fCons (fC (.str "B")) (fCons (fC (.str "abcdefghi")) (fCons (fApp gTup fNil) (fCons (fApp gTup (fCons (fC (.int 0)) fNil)) (fCons (fApp gTup (fCons (fC (.int 1)) (fCons (fC (.int 0)) fNil))) (fCons (fApp gTup (fCons (fC (.int 0)) (fCons (fC (.int 0)) fNil))) (fCons (fApp gLst (fCons (fC (.int 0)) fNil)) (fCons (fC (.dct [])) (fCons (fC (.str "p")) fNil)))))))))))))))))))))
  (sSeq (bThen (bName 1) (fB dAdd (fV 1) (fApp gLst (fCons (fB (dII gPow) (fC (.int 10)) (fC (.int 39))) (fCons (fApp gTup (fCons (fC .non) fNil)) (fCons (fApp gTup (fCons (fApp gTup (fCons (fC (.int 0)) (fCons (fC (.int 0)) fNil))) fNil)) (fCons (fApp gTup (fCons (fApp gTup (fCons (fC (.int 0)) (fCons (fC (.int 0)) fNil))) (fCons (fApp gTup (fCons (fC (.int 0)) (fCons (fC (.int 0)) fNil))) fNil))) (fCons (fApp gTup (fCons (fC (.str "a")) fNil)) (fCons (fApp gTup (fCons (fC (.str "p")) (fCons (fC (.int 0)) fNil))) (fCons (fC (.str "go")) (fCons (fC (.str "fail")) (fCons (fC (.str "left")) fNil))))))))))))
  (sRet (fCall F__law_pick (fLen 2 (fCons (fV 0) (fCons (fV 1) fNil)))))))
def F__law_odd_one : FnF := fnF 1 2 g__law_odd_one
theorem ok__law_odd_one {f : Addr} {fd : FuncData} (Fu : Fun K "_law_odd_one" "_law_odd_one" s__law_odd_one f fd) (T : Txt mg) (h__law_pick : Has P w K mg base "_law_pick" 2 2 F__law_pick) : FG P w K mg base 3 f fd 1 F__law_odd_one :=
  fg_def (k := 2) Fu sc__law_odd_one (fun _ _ _ _ _ _ us hl => match us, hl with | [_], _ => rfl) fun cdv A stk s H E hr hgd =>
      (dss_cons (ds_set (i := 1) sc__law_odd_one.nd rfl (by first | exact .inl rfl | exact .inr rfl) (de_lst (da_cons de_non (da_cons de_int (da_cons de_int (da_cons de_int (da_cons de_int (da_cons (de_un un_negD de_int) (da_cons de_bl (da_cons de_bl (da_cons de_str (da_cons de_str (da_cons de_str (da_cons de_str (da_cons (de_tup da_nil) (da_cons (de_tup (da_cons de_int da_nil)) (da_cons (de_tup (da_cons de_int (da_cons de_int da_nil))) (da_cons (de_tup (da_cons de_int (da_cons de_int da_nil))) (da_cons (de_lst (da_cons de_int da_nil)) (da_cons de_dct0 (da_cons de_str da_nil)))))))))))))))))))))
      (dss_cons (ds_set (i := 1) sc__law_odd_one.nd rfl (by first | exact .inl rfl | exact .inr rfl) (de_bin op_addD (de_var 1) (de_lst (da_cons (de_bin op_powD de_int de_int) (da_cons (de_tup (da_cons de_non da_nil)) (da_cons (de_tup (da_cons (de_tup (da_cons de_int (da_cons de_int da_nil))) da_nil)) (da_cons (de_tup (da_cons (de_tup (da_cons de_int (da_cons de_int da_nil))) (da_cons (de_tup (da_cons de_int (da_cons de_int da_nil))) da_nil))) (da_cons (de_tup (da_cons de_str da_nil)) (da_cons (de_tup (da_cons de_str (da_cons de_int da_nil))) (da_cons de_str (da_cons de_str (da_cons de_str da_nil))))))))))))
      (dss_one (ds_ret (de_callH h__law_pick hr hgd (by decide) rfl (da_cons (de_var 0) (da_cons (de_var 1) da_nil)))))))
/-! _law_is_word -/
abbrev s__law_is_word : Stmt := topS 12
abbrev N__law_is_word : List Str := ["value", "one"]
theorem sc__law_is_word : FnScope N__law_is_word ["value"] (defScope s__law_is_word) := ⟨rfl, rfl, rfl, by decide +kernel, rfl, by decide +kernel, by decide +kernel⟩
def g__law_is_word : EvS :=
  (sSeq (sIf (fOr (fNot (fTru (fApp (g2 dIsi) (fCons (fV 0) (fCons (fC (.ty "str")) fNil))))) (fNot (fTru (fCh dLe dLe (fC (.int 1)) (fApp (g1 dLen) (fCons (fV 0) fNil)) (fC (.int 8)))))) (sRet (fC (.bl false))) sNx)
  (sRet (fB dEq (fLc (itOf gSeq (fV 0)) (bName 1) (fNot (fTru (fCh dLe dLe (fC (.str "a")) (fV 1) (fC (.str "z"))))) (fV 1) [1]) (fApp gLst fNil))))
def F__law_is_word : FnF := fnF 1 2 g__law_is_word
theorem ok__law_is_word {f : Addr} {fd : FuncData} (Fu : Fun K "_law_is_word" "_law_is_word" s__law_is_word f fd) (T : Txt mg) : FG P w K mg base 1 f fd 1 F__law_is_word :=
  fg_def (k := 0) Fu sc__law_is_word (fun _ _ _ _ _ _ us hl => match us, hl with | [_], _ => rfl) fun cdv A stk s H E hr hgd =>
      (dss_cons (ds_if (PW.pt (dw_or (dt_not (dt_truth (de_callB call_isiD rfl T.n_isinstance (by decide +kernel) (da_cons (de_var 0) (da_cons (de_gty rfl T.n_str (by decide +kernel)) da_nil))))) (dw_or1 (dt_not (dt_chain op_leD op_leD de_int (de_callB call_lenD rfl T.n_len (by decide +kernel) (da_cons (de_var 0) da_nil)) de_int dOrd_bl))))) (dss_one (ds_ret de_bl)) dss_nil)
      (dss_one (ds_ret (de_cmp (op_eqDD hr.units) (de_lc rfl sc__law_is_word.nd (own := [("one", 1)]) (di_seq (de_var 0)) (blkOk_by (N := N__law_is_word) (sc := defScope s__law_is_word) (by decide +kernel)) (fun _ _ _ _ _ => (dg_name (i := 1) sc__law_is_word.nd rfl (by first | exact .inl rfl | exact .inr rfl))) (fun _ _ _ _ _ => dts_one (dt_not (dt_chain op_leD op_leD de_str (de_var 1) de_str dOrd_bl))) (fun _ _ _ _ _ => (de_var 1))) (de_lst da_nil) (nomark _)))))
/-! is_whole -/
abbrev s_is_whole : Stmt := topS 3
abbrev N_is_whole : List Str := ["value"]
theorem sc_is_whole : FnScope N_is_whole ["value"] (defScope s_is_whole) := ⟨rfl, rfl, rfl, by decide +kernel, rfl, by decide +kernel, by decide +kernel⟩
def g_is_whole : EvS :=
  (sRet (fAndV (fApp (g2 dIsi) (fCons (fV 0) (fCons (fC (.ty "int")) fNil))) (fU dNot (fApp (g2 dIsi) (fCons (fV 0) (fCons (fC (.ty "bool")) fNil))))))
def F_is_whole : FnF := fnF 1 1 g_is_whole
theorem ok_is_whole {f : Addr} {fd : FuncData} (Fu : Fun K "is_whole" "is_whole" s_is_whole f fd) (T : Txt mg) : FG P w K mg base 1 f fd 1 F_is_whole :=
  fg_def (k := 0) Fu sc_is_whole (fun _ _ _ _ _ _ us hl => match us, hl with | [_], _ => rfl) fun cdv A stk s H E hr hgd =>
      (dss_one (ds_ret (de_and (de_callB call_isiD rfl T.n_isinstance (by decide +kernel) (da_cons (de_var 0) (da_cons (de_gty rfl T.n_int (by decide +kernel)) da_nil))) (de_one (de_not (de_callB call_isiD rfl T.n_isinstance (by decide +kernel) (da_cons (de_var 0) (da_cons (de_gty rfl T.n_bool (by decide +kernel)) da_nil))))))))
/-! is_whole_from -/
abbrev s_is_whole_from : Stmt := topS 4
abbrev N_is_whole_from : List Str := ["value", "low"]
theorem sc_is_whole_from : FnScope N_is_whole_from ["value", "low"] (defScope s_is_whole_from) := ⟨rfl, rfl, rfl, by decide +kernel, rfl, by decide +kernel, by decide +kernel⟩
def g_is_whole_from : EvS :=
  (sRet (fAndV (fCall F_is_whole (fLen 1 (fCons (fV 0) fNil))) (fB dLe (fV 1) (fV 0))))
def F_is_whole_from : FnF := fnF 2 2 g_is_whole_from
theorem ok_is_whole_from {f : Addr} {fd : FuncData} (Fu : Fun K "is_whole_from" "is_whole_from" s_is_whole_from f fd) (T : Txt mg) (h_is_whole : Has P w K mg base "is_whole" 1 1 F_is_whole) : FG P w K mg base 2 f fd 2 F_is_whole_from :=
  fg_def (k := 1) Fu sc_is_whole_from (fun _ _ _ _ _ _ us hl => match us, hl with | [_, _], _ => rfl) fun cdv A stk s H E hr hgd =>
      (dss_one (ds_ret (de_and (de_callH h_is_whole hr hgd (by decide) rfl (da_cons (de_var 0) da_nil)) (de_one (de_cmp op_leD (de_var 1) (de_var 0) (nomark _))))))
/-! is_limit -/
abbrev s_is_limit : Stmt := topS 6
abbrev N_is_limit : List Str := ["value"]
theorem sc_is_limit : FnScope N_is_limit ["value"] (defScope s_is_limit) := ⟨rfl, rfl, rfl, by decide +kernel, rfl, by decide +kernel, by decide +kernel⟩
def g_is_limit : EvS :=
  (sRet (fOrV (fB dIs (fV 0) (fC .non)) (fCall F_is_whole_from (fLen 2 (fCons (fV 0) (fCons (fC (.int 0)) fNil))))))
def F_is_limit : FnF := fnF 1 1 g_is_limit
theorem ok_is_limit {f : Addr} {fd : FuncData} (Fu : Fun K "is_limit" "is_limit" s_is_limit f fd) (T : Txt mg) (h_is_whole_from : Has P w K mg base "is_whole_from" 2 2 F_is_whole_from) : FG P w K mg base 3 f fd 1 F_is_limit :=
  fg_def (k := 2) Fu sc_is_limit (fun _ _ _ _ _ _ us hl => match us, hl with | [_], _ => rfl) fun cdv A stk s H E hr hgd =>
      (dss_one (ds_ret (de_or (de_cmp op_isD (de_var 0) de_non (nomark _)) (de_one (de_callH h_is_whole_from hr hgd (by decide) rfl (da_cons (de_var 0) (da_cons de_int da_nil)))))))
/-! _law_is_number -/
abbrev s__law_is_number : Stmt := topS 11
abbrev N__law_is_number : List Str := ["value", "total"]
theorem sc__law_is_number : FnScope N__law_is_number ["value", "total"] (defScope s__law_is_number) := ⟨rfl, rfl, rfl, by decide +kernel, rfl, by decide +kernel, by decide +kernel⟩
def g__law_is_number : EvS :=
  (sRet (fAndV (fApp (g2 dIsi) (fCons (fV 0) (fCons (fC (.ty "int")) fNil))) (fAndV (fU dNot (fApp (g2 dIsi) (fCons (fV 0) (fCons (fC (.ty "bool")) fNil)))) (fCh dLe dLt (fC (.int 0)) (fV 0) (fV 1)))))
def F__law_is_number : FnF := fnF 2 2 g__law_is_number
theorem ok__law_is_number {f : Addr} {fd : FuncData} (Fu : Fun K "_law_is_number" "_law_is_number" s__law_is_number f fd) (T : Txt mg) : FG P w K mg base 1 f fd 2 F__law_is_number :=
  fg_def (k := 0) Fu sc__law_is_number (fun _ _ _ _ _ _ us hl => match us, hl with | [_, _], _ => rfl) fun cdv A stk s H E hr hgd =>
      (dss_one (ds_ret (de_and (de_callB call_isiD rfl T.n_isinstance (by decide +kernel) (da_cons (de_var 0) (da_cons (de_gty rfl T.n_int (by decide +kernel)) da_nil))) (de_and (de_not (de_callB call_isiD rfl T.n_isinstance (by decide +kernel) (da_cons (de_var 0) (da_cons (de_gty rfl T.n_bool (by decide +kernel)) da_nil)))) (de_one (de_chain op_leD op_ltD de_int (de_var 0) (de_var 1)))))))
/-! _law_right -/
abbrev s__law_right : Stmt := topS 14
abbrev N__law_right : List Str := ["die", "letters", "turn", "word", "number", "some", "value"]
theorem sc__law_right : FnScope N__law_right ["die"] (defScope s__law_right) := ⟨rfl, rfl, rfl, by decide +kernel, rfl, by decide +kernel, by decide +kernel⟩
def g__law_right : EvS :=
  (sSeq (bThen (bName 1) (fC (.str "abcdefghijklmnopqrstuvwxyz")))
  (sSeq (bThen (bName 3) (fB dJoin (fC (.str "")) (fLc (gRng1 (fCons (fCall F__law_cast (fLen 2 (fCons (fV 0) (fCons (fC (.int 10)) fNil)))) fNil)) (bName 2) (fun S => some (true, S.μ)) (fCall F__law_pick (fLen 2 (fCons (fV 0) (fCons (fV 1) fNil)))) [2])))
  (sSeq (bThen (bName 4) (fC (.int 0)))
  (sSeq (sFor (gRng1 (fCons (fB dAdd (fC (.int 1)) (fCall F__law_cast (fLen 2 (fCons (fV 0) (fCons (fC (.int 39)) fNil))))) fNil)) (bName 2) (bThen (bName 4) (fB dAdd (fB dMul (fV 4) (fC (.int 10))) (fCall F__law_cast (fLen 2 (fCons (fV 0) (fCons (fC (.int 10)) fNil)))))))
  (sSeq (bThen (bName 5) (fApp gLst (fCons (fV 3) (fCons (fB dAdd (fV 3) (fCall F__law_pick (fLen 2 (fCons (fV 0) (fCons (fApp gLst (fCons (fC (.str " ")) (fCons (fC (.str "A")) (fCons (fC (.str "0")) (fCons (fC (.str "_")) (fCons (fC (.str "z")) fNil)))))) fNil))))) (fCons (fU dUpper (fV 3)) (fCons (fCall F__law_odd_one (fLen 1 (fCons (fV 0) fNil))) (fCons (fV 4) (fCons (fU dNeg (fV 4)) fNil))))))))
  (sSeq (bThen (bName 5) (fB dAdd (fV 5) (fApp gLst (fCons (fB (dII gSub) (fV 4) (fB (dII gPow) (fC (.int 10)) (fC (.int 38)))) (fCons (fApp (g1 dStr1) (fCons (fV 4) fNil)) (fCons (fApp gTup (fCons (fV 4) fNil)) (fCons (fC .non) (fCons (fC (.bl true)) (fCons (fC (.bl false)) (fCons (fC (.int 0)) (fCons (fU dNeg (fC (.int 1))) (fCons (fB (dII gSub) (fB (dII gPow) (fC (.int 10)) (fC (.int 40))) (fC (.int 1))) (fCons (fApp gLst (fCons (fV 3) fNil)) fNil)))))))))))))
  (sSeq (sFor (itOf gSeq (fV 5)) (bName 6) (sSeq (sIf (fTru (fB dNe (fApp (g1 dRepr) (fCons (fCall F_is_name (fLen 1 (fCons (fV 6) fNil))) fNil)) (fApp (g1 dRepr) (fCons (fCall F__law_is_word (fLen 1 (fCons (fV 6) fNil))) fNil)))) (sRet (fC (.bl false))) sNx)
  (sIf (fTru (fB dNe (fApp (g1 dRepr) (fCons (fCall F_is_limit (fLen 1 (fCons (fV 6) fNil))) fNil)) (fApp (g1 dRepr) (fCons (fOrV (fB dIs (fV 6) (fC .non)) (fCall F__law_is_number (fLen 2 (fCons (fV 6) (fCons (fB (dII gPow) (fC (.int 10)) (fC (.int 40))) fNil))))) fNil)))) (sRet (fC (.bl false))) sNx)))
  (sRet (fC (.bl true))))))))))
def F__law_right : FnF := fnF 1 7 g__law_right
theorem ok__law_right {f : Addr} {fd : FuncData} (Fu : Fun K "_law_right" "_law_right" s__law_right f fd) (T : Txt mg) (h__law_cast : Has P w K mg base "_law_cast" 1 2 F__law_cast) (h__law_is_number : Has P w K mg base "_law_is_number" 1 2 F__law_is_number) (h__law_is_word : Has P w K mg base "_law_is_word" 1 1 F__law_is_word) (h__law_odd_one : Has P w K mg base "_law_odd_one" 3 1 F__law_odd_one) (h__law_pick : Has P w K mg base "_law_pick" 2 2 F__law_pick) (h_is_limit : Has P w K mg base "is_limit" 3 1 F_is_limit) (h_is_name : Has P w K mg base "is_name" 1 1 F_is_name) : FG P w K mg base 4 f fd 1 F__law_right :=
  fg_def (k := 3) Fu sc__law_right (fun _ _ _ _ _ _ us hl => match us, hl with | [_], _ => rfl) fun cdv A stk s H E hr hgd =>
      (dss_cons (ds_set (i := 1) sc__law_right.nd rfl (by first | exact .inl rfl | exact .inr rfl) de_str)
      (dss_cons (ds_set (i := 3) sc__law_right.nd rfl (by first | exact .inl rfl | exact .inr rfl) (de_join de_str (de_lc rfl sc__law_right.nd (own := [("turn", 2)]) (di_range1 rfl T.n_range (da_cons (de_callH h__law_cast hr hgd (by decide) rfl (da_cons (de_var 0) (da_cons de_int da_nil))) da_nil)) (blkOk_by (N := N__law_right) (sc := defScope s__law_right) (by decide +kernel)) (fun _ _ _ _ _ => (dg_name (i := 2) sc__law_right.nd rfl (by first | exact .inl rfl | exact .inr rfl))) (fun _ _ _ _ _ => dts_nil) (fun _ _ _ _ _ => (de_callH h__law_pick hr hgd (by decide) rfl (da_cons (de_var 0) (da_cons (de_var 1) da_nil)))))))
      (dss_cons (ds_set (i := 4) sc__law_right.nd rfl (by first | exact .inl rfl | exact .inr rfl) de_int)
      (dss_cons (ds_for passB rfl (di_range1 rfl T.n_range (da_cons (de_bin op_addD de_int (de_callH h__law_cast hr hgd (by decide) rfl (da_cons (de_var 0) (da_cons de_int da_nil)))) da_nil)) (dg_name (i := 2) sc__law_right.nd rfl (by first | exact .inl rfl | exact .inr rfl)) (dss_one (ds_set (i := 4) sc__law_right.nd rfl (by first | exact .inl rfl | exact .inr rfl) (de_bin op_addD (de_bin op_mulD (de_var 4) de_int) (de_callH h__law_cast hr hgd (by decide) rfl (da_cons (de_var 0) (da_cons de_int da_nil)))))))
      (dss_cons (ds_set (i := 5) sc__law_right.nd rfl (by first | exact .inl rfl | exact .inr rfl) (de_lst (da_cons (de_var 3) (da_cons (de_bin op_addD (de_var 3) (de_callH h__law_pick hr hgd (by decide) rfl (da_cons (de_var 0) (da_cons (de_lst (da_cons de_str (da_cons de_str (da_cons de_str (da_cons de_str (da_cons de_str da_nil)))))) da_nil)))) (da_cons (de_upper (de_var 3)) (da_cons (de_callH h__law_odd_one hr hgd (by decide) rfl (da_cons (de_var 0) da_nil)) (da_cons (de_var 4) (da_cons (de_un un_negD (de_var 4)) da_nil))))))))
      (dss_cons (ds_set (i := 5) sc__law_right.nd rfl (by first | exact .inl rfl | exact .inr rfl) (de_bin op_addD (de_var 5) (de_lst (da_cons (de_bin op_subD (de_var 4) (de_bin op_powD de_int de_int)) (da_cons (de_callTy call_strD rfl T.n_str (by decide +kernel) (da_cons (de_var 4) da_nil)) (da_cons (de_tup (da_cons (de_var 4) da_nil)) (da_cons de_non (da_cons de_bl (da_cons de_bl (da_cons de_int (da_cons (de_un un_negD de_int) (da_cons (de_bin op_subD (de_bin op_powD de_int de_int) de_int) (da_cons (de_lst (da_cons (de_var 3) da_nil)) da_nil)))))))))))))
      (dss_cons (ds_for passB rfl (di_seq (de_var 5)) (dg_name (i := 6) sc__law_right.nd rfl (by first | exact .inl rfl | exact .inr rfl)) (dss_cons (ds_if (dt_cmp (op_neDD hr.units) (de_callB (call_reprD hgd hr.units) rfl T.n_repr (by decide +kernel) (da_cons (de_callH h_is_name hr hgd (by decide) rfl (da_cons (de_var 6) da_nil)) da_nil)) (de_callB (call_reprD hgd hr.units) rfl T.n_repr (by decide +kernel) (da_cons (de_callH h__law_is_word hr hgd (by decide) rfl (da_cons (de_var 6) da_nil)) da_nil)) (nomark _) dNe_bl) (dss_one (ds_ret de_bl)) dss_nil)
      (dss_one (ds_if (dt_cmp (op_neDD hr.units) (de_callB (call_reprD hgd hr.units) rfl T.n_repr (by decide +kernel) (da_cons (de_callH h_is_limit hr hgd (by decide) rfl (da_cons (de_var 6) da_nil)) da_nil)) (de_callB (call_reprD hgd hr.units) rfl T.n_repr (by decide +kernel) (da_cons (de_or (de_cmp op_isD (de_var 6) de_non (nomark _)) (de_one (de_callH h__law_is_number hr hgd (by decide) rfl (da_cons (de_var 6) (da_cons (de_bin op_powD de_int de_int) da_nil))))) da_nil)) (nomark _) dNe_bl) (dss_one (ds_ret de_bl)) dss_nil))))
      (dss_one (ds_ret de_bl)))))))))
/-! law -/
abbrev s_law : Stmt := topS 15
abbrev N_law : List Str := ["script", "at", "die", "turn", "told", "word"]
theorem sc_law : FnScope N_law ["script"] (defScope s_law) := ⟨rfl, rfl, rfl, by decide +kernel, rfl, by decide +kernel, by decide +kernel⟩
def g_law : EvS :=
  (sSeq (sFor (gRng1 (fCons (fApp (g2 dMax2) (fCons (fC (.int 1)) (fCons (fApp (g2 dMin2) (fCons (fC (.int 8)) (fCons (fApp (g1 dLen) (fCons (fV 0) fNil)) fNil))) fNil))) fNil)) (bName 1) (sSeq (bThen (bName 2) (fCall F__law_numbers (fLen 2 (fCons (fV 0) (fCons (fV 1) fNil)))))
  (sFor (gRng1 (fCons (fC (.int 4)) fNil)) (bName 3) (sIf (fNot (fTru (fCall F__law_right (fLen 1 (fCons (fV 2) fNil))))) (sRet (fC (.bl false))) sNx))))
  (sSeq (bThen (bName 4) (fLc (itOf gSeq (fApp gTup (fCons (fC (.str "a")) (fCons (fC (.str "zzzzzzzz")) (fCons (fC (.str "aaaaaaaaa")) (fCons (fC (.str "")) (fCons (fC (.str "none")) fNil))))))) (bName 5) (fun S => some (true, S.μ)) (fCall F_is_name (fLen 1 (fCons (fV 5) fNil))) [5]))
  (sRet (fAndV (fB dEq (fV 4) (fApp gLst (fCons (fC (.bl true)) (fCons (fC (.bl true)) (fCons (fC (.bl false)) (fCons (fC (.bl false)) (fCons (fC (.bl true)) fNil))))))) (fB dEq (fApp gLst (fCons (fCall F_is_limit (fLen 1 (fCons (fC .non) fNil))) (fCons (fCall F_is_limit (fLen 1 (fCons (fC (.bl true)) fNil))) fNil))) (fApp gLst (fCons (fC (.bl true)) (fCons (fC (.bl false)) fNil))))))))
def F_law : FnF := fnF 1 6 g_law
theorem ok_law {f : Addr} {fd : FuncData} (Fu : Fun K "law" "law" s_law f fd) (T : Txt mg) (h__law_numbers : Has P w K mg base "_law_numbers" 1 2 F__law_numbers) (h__law_right : Has P w K mg base "_law_right" 4 1 F__law_right) (h_is_limit : Has P w K mg base "is_limit" 3 1 F_is_limit) (h_is_name : Has P w K mg base "is_name" 1 1 F_is_name) : FG P w K mg base 5 f fd 1 F_law :=
  fg_def (k := 4) Fu sc_law (fun _ _ _ _ _ _ us hl => match us, hl with | [_], _ => rfl) fun cdv A stk s H E hr hgd =>
      (dss_cons (ds_for passB rfl (di_range1 rfl T.n_range (da_cons (de_callB (call_max2D rfl) rfl T.n_max (by decide +kernel) (da_cons de_int (da_cons (de_callB (call_min2D rfl) rfl T.n_min (by decide +kernel) (da_cons de_int (da_cons (de_callB call_lenD rfl T.n_len (by decide +kernel) (da_cons (de_var 0) da_nil)) da_nil))) da_nil))) da_nil)) (dg_name (i := 1) sc_law.nd rfl (by first | exact .inl rfl | exact .inr rfl)) (dss_cons (ds_set (i := 2) sc_law.nd rfl (by first | exact .inl rfl | exact .inr rfl) (de_callH h__law_numbers hr hgd (by decide) rfl (da_cons (de_var 0) (da_cons (de_var 1) da_nil))))
      (dss_one (ds_for passB rfl (di_range1 rfl T.n_range (da_cons de_int da_nil)) (dg_name (i := 3) sc_law.nd rfl (by first | exact .inl rfl | exact .inr rfl)) (dss_one (ds_if (dt_not (dt_truth (de_callH h__law_right hr hgd (by decide) rfl (da_cons (de_var 2) da_nil)))) (dss_one (ds_ret de_bl)) dss_nil))))))
      (dss_cons (ds_setLc (i := 4) rfl sc_law.nd rfl rfl (sw_true rfl rfl rfl (by decide +kernel)) (own := [("word", 5)]) (di_seq (de_tup (da_cons de_str (da_cons de_str (da_cons de_str (da_cons de_str (da_cons de_str da_nil))))))) (blkOk_by (N := N_law) (sc := defScope s_law) (by decide +kernel)) (fun _ _ _ _ _ => (dg_name (i := 5) sc_law.nd rfl (by first | exact .inl rfl | exact .inr rfl))) (fun _ _ _ _ _ => dts_nil) (fun _ _ _ _ _ => (de_callH h_is_name hr hgd (by decide) rfl (da_cons (de_var 5) da_nil))))
      (dss_one (ds_ret (de_and (de_cmp (op_eqDD hr.units) (de_var 4) (de_lst (da_cons de_bl (da_cons de_bl (da_cons de_bl (da_cons de_bl (da_cons de_bl da_nil)))))) (nomark _)) (de_one (de_cmp (op_eqDD hr.units) (de_lst (da_cons (de_callH h_is_limit hr hgd (by decide) rfl (da_cons de_non da_nil)) (da_cons (de_callH h_is_limit hr hgd (by decide) rfl (da_cons de_bl da_nil)) da_nil))) (de_lst (da_cons de_bl (da_cons de_bl da_nil))) (nomark _))))))))
end
end G
namespace G
open PySem L2 DL
theorem w1_reprB {p : Bool} {μ : List Cell} {V : D → Prop} : W1 dRepr (.bl p) μ V ↔ V (.str (reprB p)) := ⟨fun ⟨z, e, p⟩ => by cases e; exact p, fun p => ⟨_, rfl, p⟩⟩
theorem w1_all {xs : List D} {μ : List Cell} {V : D → Prop} : W1 dAll (.lst xs) μ V ↔ ∃ bs, blsOf xs = some bs ∧ V (.bl (bs.all id)) := by
  constructor
  · rintro ⟨z, e, p⟩
    obtain ⟨bs, eb, rfl⟩ := Option.map_eq_some_iff.mp (show (blsOf xs).map (fun bs => D.bl (bs.all id)) = some z from e)
    exact ⟨bs, eb, p⟩
  · rintro ⟨bs, eb, p⟩
    exact ⟨_, show (blsOf xs).map (fun bs => D.bl (bs.all id)) = some _ by rw [eb]; rfl, p⟩
theorem w2_in {x y : D} {μ : List Cell} {V : D → Prop} : W2 dIn x y μ V ↔ ∃ k, inB x y μ = some k ∧ V (.bl k) := by
  constructor
  · rintro ⟨z, e, p⟩
    obtain ⟨k, ek, rfl⟩ := Option.map_eq_some_iff.mp e
    exact ⟨k, ek, p⟩
  · rintro ⟨k, ek, p⟩
    exact ⟨_, show (inB x y μ).map D.bl = some _ by rw [ek]; rfl, p⟩
/-! the letters of the walk over data -/
theorem at0 {α : Type} {a : α} {r : List α} : atI (a :: r) 0 = some a := by simp [atI, ixN]
theorem at1 {α : Type} {a b : α} {r : List α} : atI (a :: b :: r) 1 = some b := by
  have h : ixN (a :: b :: r).length 1 = some 1 := by
    unfold ixN
    rw [if_pos (by decide), if_pos (by simp only [List.length_cons]; omega)]
    rfl
  unfold atI
  rw [h]
  rfl
theorem at2 {α : Type} {a b c : α} {r : List α} : atI (a :: b :: c :: r) 2 = some c := by
  have h : ixN (a :: b :: c :: r).length 2 = some 2 := by
    unfold ixN
    rw [if_pos (by decide), if_pos (by simp only [List.length_cons]; omega)]
    rfl
  unfold atI
  rw [h]
  rfl
theorem ixN_lt {n : Nat} {i : Int} (h : 0 ≤ i) (h2 : i < n) : ixN n i = some i.toNat := by
  unfold ixN
  rw [if_pos h, if_pos h2]
theorem atI_lt {α : Type} {xs : List α} {i : Int} (h : 0 ≤ i) (h2 : i < xs.length) : ∃ x, atI xs i = some x ∧ x ∈ xs ∧ xs[i.toNat]? = some x := by
  have hl : i.toNat < xs.length := by omega
  refine ⟨xs[i.toNat], ?_, List.getElem_mem hl, List.getElem?_eq_getElem hl⟩
  unfold atI
  rw [ixN_lt h h2]
  exact List.getElem?_eq_getElem hl
theorem fmod_pos {a b : Int} (h : 0 < b) : 0 ≤ a.fmod b ∧ a.fmod b < b := ⟨Int.fmod_nonneg_of_pos a h, Int.fmod_lt_of_pos a h⟩
theorem ix3 : ixN 3 0 = some 0 ∧ ixN 3 2 = some 2 ∧ ixN 3 1 = some 1 := by decide
theorem set3a {a b c d : D} : [a, b, c].set 0 d = [d, b, c] := rfl
theorem set3c {a b c d : D} : [a, b, c].set 2 d = [a, b, d] := rfl
theorem cell_set {μ : List Cell} {k : Nat} {c d : Cell} (h : μ[k]? = some c) : (μ.set k d)[k]? = some d := List.getElem?_set_self (List.getElem?_eq_some_iff.mp h).1
theorem set_same {μ : List Cell} {k : Nat} {c : Cell} (h : μ[k]? = some c) : μ.set k c = μ := by
  refine List.ext_getElem? fun j => ?_
  by_cases e : k = j
  · subst e
    rw [cell_set h, h]
  · rw [List.getElem?_set_ne e]
theorem set_set {μ : List Cell} {k : Nat} {c d : Cell} : (μ.set k c).set k d = μ.set k d := List.set_set ..
local macro_rules | `(tactic| walk_at "dl") => `(tactic| simp only [wf_fn, ws_seq, ws_then, ws_drop, ws_nx, ws_bk, ws_ct, ws_ret, ws_if, ws_for, wb_name, wb_sub, wb_tup, wbs_nil, wbs_cons, cSet_iff, we_V, we_C, we_B, we_U, we_App, we_newC, we_call, we_AndV, we_OrV, we_IfE, we_Ch, we_Lc, wa_nil, wa_cons, wa_len,
  wl_1, wl_2, wl_lst, wl_tup, wt_Tru, wt_Not, wt_And, wt_Or, wt_true, wi_seq, wi_rng1, Nx_nx, Nx_rt, Nx_bk, Nx_ct, Fe_rt, Fe_nx, Tn_nx, Tn_ct, Tn_bk, Tn_rt,
  w2_addI, w2_addS, w2_addL, w2_II, gSub_iff, gMod_iff, gFdiv_iff, gPow_iff, w2_mulI, w1_neg, w2_ordI, w2_ordS, w2_is, w2_isNot, w2_eq, w2_ne, w2_ixL, w2_ixR, w2_ixT, w2_ixS, w2_ixH, w1_abs, w1_intI, w1_intB, w2_max, w2_min, w1_str, w1_lenS, w1_lenL, w1_lenR, w1_lenT, w1_type, w2_isi, w1_reprB, w1_all, w2_in, w1_not, w1_S0, w2_join, wtr_bl,
  List.map_cons, List.map_nil, List.cons_append, List.nil_append, List.replicate_succ, List.replicate_zero, List.getElem?_cons_zero, List.getElem?_cons_succ, List.set_cons_zero, List.set_cons_succ, List.length_cons, List.length_nil, Option.some.injEq, exists_eq_left', exists_eq_left, D.int.injEq, and_true, true_and, Nat.reduceAdd, Nat.reduceSub, Nat.reduceLT, Nat.lt_add_left_iff_pos, Nat.zero_lt_succ, List.length_replicate, List.length_append, List.length_map, List.cons.injEq, List.length_set, gSeq, decide_true, if_true, D.bl.injEq, Bool.not_true, Bool.not_false, Bool.false_eq_true, if_false, reduceCtorEq, false_and, or_false, false_or])
theorem numbers_ok (ns : List Int) (a : Int) (h : 0 ≤ a) (μ : List Cell) : WF F__law_numbers [.rl (ns.map D.int), .int a] μ fun d μ' => ∃ x y : Int, d = .h μ.length ∧ μ' = μ ++ [.lst [.int x, .int y, .int 0]] := by
  unfold F__law_numbers g__law_numbers
  walk_at "dl"
  have big : ((10 : Int) ^ Int.toNat 59) ^ Int.toNat 11 ≠ 0 := by decide
  have b1 : (Builtin.Int.intBits 10 : Int) * 59 ≤ 2 ^ 27 := by decide +kernel
  have b2 : (Builtin.Int.intBits (10 ^ Int.toNat 59) : Int) * 11 ≤ 2 ^ 27 := by decide +kernel
  have b3 : (Builtin.Int.intBits 10 : Int) * 16 ≤ 2 ^ 27 := by decide +kernel
  refine ite2 (fun hlt => ?_) fun _ => ?_
  · obtain ⟨d, e1, hm, _⟩ := atI_lt (xs := ns.map D.int) h (by rw [List.length_map]; exact of_decide_eq_true hlt)
    obtain ⟨c, _, rfl⟩ := List.mem_map.mp hm
    refine ⟨_, e1, ?_⟩
    walk_at "dl"
    exact ⟨⟨by decide, b1⟩, ⟨by decide, b2⟩, big, .inr (by decide), .inl (by decide), .inl (by decide), ⟨by decide, b3⟩, by decide, by decide, _, _, rfl⟩
  · exact ⟨.inl (by decide), ⟨by decide, b1⟩, ⟨by decide, b2⟩, big, .inr (by decide), .inl (by decide), .inl (by decide), ⟨by decide, b3⟩, by decide, by decide, _, _, rfl⟩
/-- the numbers that are drawn from -/
def Die (k : Nat) (μ : List Cell) : Prop := ∃ x y z : Int, μ[k]? = some (.lst [.int x, .int y, .int z])
/-- cells alike but for the numbers that are drawn from -/
def Drawn (k : Nat) (μ μ' : List Cell) : Prop := ∃ x y z : Int, μ' = μ.set k (.lst [.int x, .int y, .int z])
theorem Drawn.die {k : Nat} {μ μ' : List Cell} (h : Die k μ) (d : Drawn k μ μ') : Die k μ' := by
  obtain ⟨x, y, z, rfl⟩ := d
  obtain ⟨_, _, _, e⟩ := h
  exact ⟨x, y, z, cell_set e⟩
theorem Drawn.trans {k : Nat} {μ μ' μ'' : List Cell} (d : Drawn k μ μ') (d' : Drawn k μ' μ'') : Drawn k μ μ'' := by
  obtain ⟨x, y, z, rfl⟩ := d
  obtain ⟨x', y', z', rfl⟩ := d'
  exact ⟨x', y', z', set_set⟩
theorem cast_ok {k : Nat} {t : Int} {μ : List Cell} (hd : Die k μ) (h0 : 0 < t) (h1 : t < 1073741824) : WF F__law_cast [.h k, .int t] μ fun d μ' => ∃ r : Int, d = .int r ∧ 0 ≤ r ∧ r < t ∧ Drawn k μ μ' := by
  obtain ⟨x, y, z, hk⟩ := hd
  have hk2 : ∀ c, (μ.set k c)[k]? = some c := fun c => cell_set hk
  unfold F__law_cast g__law_cast
  walk_at "dl"
  simp only [hk, Option.some.injEq, Cell.lst.injEq, exists_eq_left', at0, at1, at2]
  walk_at "dl"
  simp only [exists_and_left, exists_eq_left', List.length_cons, List.length_nil, Nat.reduceAdd, ix3.1, ix3.2.1, Option.some.injEq, set3a, set3c, hk2, Cell.lst.injEq, at1, at2]
  walk_at "dl"
  refine ite2 (fun _ => ⟨by omega, ⟨by omega, by omega⟩, (fmod_pos h0).1, (fmod_pos h0).2, _, _, _, rfl⟩) fun _ => ?_
  have m1 := fmod_pos (a := y + 776531491 * (z + 1)) (b := 2305843009213693907) (by decide)
  have m2 := fmod_pos (a := (y + 776531491 * (z + 1)).fmod 2305843009213693907 * (y + 776531491 * (z + 1)).fmod 2305843009213693907) (b := 1152921504606846619) (by decide)
  generalize (y + 776531491 * (z + 1)).fmod 2305843009213693907 = one at m1 m2 ⊢
  generalize (one * one).fmod 1152921504606846619 = sq at m2 ⊢
  refine ⟨.inl (by decide), by decide, .inl ⟨by omega, by omega⟩, by decide, .inl ⟨by omega, by omega⟩, .inl (by decide), by decide, ⟨by decide, by decide⟩, by omega, (fmod_pos h0).1, (fmod_pos h0).2, _, _, _, rfl⟩
/-- what is picked is one of the items -/
theorem pick_ok {k : Nat} {μ : List Cell} {xs : List D} (hd : Die k μ) (hx : 0 < xs.length) (hl : xs.length < 1073741824) : WF F__law_pick [.h k, .lst xs] μ fun d μ' => d ∈ xs ∧ Drawn k μ μ' := by
  unfold F__law_pick g__law_pick
  walk_at "dl"
  obtain ⟨d, μ', e, r, rfl, h0, h1, dr⟩ := cast_ok (t := xs.length) hd (by omega) (by omega)
  refine ⟨_, μ', e, ?_⟩
  obtain ⟨c, e1, hm, _⟩ := atI_lt h0 h1
  walk_at "dl"
  exact ⟨c, e1, hm, dr⟩
theorem pick_str {k : Nat} {μ : List Cell} {z : Str} (hd : Die k μ) (hx : 0 < z.length) (hl : z.length ≤ 1000) : WF F__law_pick [.h k, .str z] μ fun d μ' => (∃ c ∈ z.cps.toList, d = .str ⟨#[c]⟩) ∧ Drawn k μ μ' := by
  have hz : z.length ≤ sizeLine := Nat.le_trans hl (by decide)
  unfold F__law_pick g__law_pick
  walk_at "dl"
  refine ⟨hz, ?_⟩
  obtain ⟨d, μ', e, r, rfl, h0, h1, dr⟩ := cast_ok (t := z.length) hd (by omega) (by omega)
  refine ⟨_, μ', e, ?_⟩
  obtain ⟨c, e1, hm, _⟩ := atI_lt (xs := z.cps.toList) h0 (by rw [Array.length_toList]; exact h1)
  walk_at "dl"
  exact ⟨hz, c, e1, ⟨c, hm, rfl⟩, dr⟩

/-! ### names -/
def az (c : Nat) : Bool := decide (97 ≤ c) && decide (c ≤ 122)
def nameS (z : Str) : Bool := decide (1 ≤ z.length) && decide (z.length ≤ 8) && z.cps.toList.all az
def nameB : D → Bool
  | .str z => nameS z
  | _ => false
theorem cls_a : ∀ c, c < 128 → Unicode.isAlpha c = (decide (65 ≤ c ∧ c ≤ 90) || az c) := by decide +kernel
theorem cls_l : ∀ c, c < 128 → Unicode.isLower c = az c := by decide +kernel
theorem cls_u : ∀ c, c < 128 → (Unicode.isUpper c || Unicode.isTitle c) = decide (65 ≤ c ∧ c ≤ 90) := by decide +kernel
theorem az_lt {c : Nat} (h : az c = true) : c < 128 ∧ 97 ≤ c ∧ c ≤ 122 := by
  unfold az at h
  simp only [Bool.and_eq_true, decide_eq_true_eq] at h
  omega
theorem chars {z : Str} (h : 1 ≤ z.length) : (Txt.isascii z && (Txt.isalpha z && Txt.islower z)) = z.cps.toList.all az := by
  have hl : z.cps.toList.length = z.length := Array.length_toList
  unfold Txt.isascii Txt.isalpha Txt.islower
  rw [← Array.all_toList, ← Array.all_toList, ← Array.any_toList, ← Array.any_toList]
  have h0 : (decide (z.length > 0)) = true := decide_eq_true h
  rw [h0, Bool.true_and]
  generalize z.cps.toList = l at hl
  rw [Bool.eq_iff_iff]
  simp only [Bool.and_eq_true, List.all_eq_true, List.any_eq_true, decide_eq_true_eq, Bool.not_eq_true', List.any_eq_false]
  constructor
  · rintro ⟨h1, h2, h3, h4⟩ c hc
    have q := h2 c hc
    rw [cls_a c (h1 c hc)] at q
    have r := h4 c hc
    rw [cls_u c (h1 c hc)] at r
    simp only [Bool.or_eq_true, decide_eq_true_eq] at q r
    rcases q with q | q
    · exact absurd q r
    · exact q
  · intro q
    refine ⟨fun c hc => (az_lt (q c hc)).1, fun c hc => ?_, ?_, fun c hc => ?_⟩
    · rw [cls_a c (az_lt (q c hc)).1, q c hc, Bool.or_true]
    · cases l with
      | nil => simp at hl; omega
      | cons c r => exact ⟨c, List.mem_cons_self, by rw [cls_l c (az_lt (q c List.mem_cons_self)).1]; exact q c List.mem_cons_self⟩
    · have b := az_lt (q c hc)
      rw [cls_u c b.1, decide_eq_true_eq]
      omega
/-- the values that are asked about -/
def Plain : D → Prop
  | .str z => z.length ≤ sizeLine ∧ ∀ c ∈ z.cps.toList, c < 0x110000
  | .int i => i < 10 ^ 40
  | .non | .bl _ | .lst _ | .tup _ | .dct _ => True
  | _ => False
theorem kit_sts : kitB "str" "str" = some true ∧ kitB "int" "str" = some false ∧ kitB "bool" "str" = some false ∧ kitB "NoneType" "str" = some false ∧ kitB "list" "str" = some false ∧ kitB "tuple" "str" = some false ∧ kitB "dict" "str" = some false := by decide +kernel
theorem kit_ints : kitB "str" "int" = some false ∧ kitB "int" "int" = some true ∧ kitB "bool" "int" = some true ∧ kitB "NoneType" "int" = some false ∧ kitB "list" "int" = some false ∧ kitB "tuple" "int" = some false ∧ kitB "dict" "int" = some false := by decide +kernel
theorem kit_bools : kitB "int" "bool" = some false ∧ kitB "bool" "bool" = some true := by decide +kernel
theorem letters_mem (c : Nat) : decide (c ∈ (Str.ofString "abcdefghijklmnopqrstuvwxyz").cps.toList) = az c := by
  have e : (Str.ofString "abcdefghijklmnopqrstuvwxyz").cps.toList = (List.range 26).map (· + 97) := by decide +kernel
  rw [e, Bool.eq_iff_iff]
  unfold az
  simp only [decide_eq_true_eq, List.mem_map, List.mem_range, Bool.and_eq_true]
  constructor
  · rintro ⟨a, h, rfl⟩
    omega
  · rintro ⟨h1, h2⟩
    exact ⟨c - 97, by omega, by omega⟩
theorem inB_letter (c : Nat) (μ : List Cell) : inB (.str ⟨#[c]⟩) (.str (Str.ofString "abcdefghijklmnopqrstuvwxyz")) μ = some (az c) := by
  rw [← letters_mem]
  rfl
abbrev sg (c : Nat) : D := .str ⟨#[c]⟩
theorem letters_lc (l : List Nat) (ρ : List (Option D)) (μ : List Cell) (hρ : ρ.length = 2) : WLc (bName 1) (fun S => some (true, S.μ)) (fB dIn (fV 1) (fC (.str (Str.ofString "abcdefghijklmnopqrstuvwxyz")))) ρ (l.map sg) μ fun xs μ' => xs = l.map (fun c => D.bl (az c)) ∧ μ' = μ := by
  induction l with
  | nil => exact wlc_nil.mpr ⟨rfl, rfl⟩
  | cons c l ih =>
    obtain ⟨a, b, rfl⟩ : ∃ a b, ρ = [a, b] := by
      match ρ, hρ with
      | [a, b], _ => exact ⟨a, b, rfl⟩
    rw [List.map_cons, wlc_cons]
    walk_at "dl"
    simp only [inB_letter, Option.some.injEq, exists_eq_left']
    obtain ⟨xs, μ', e, rfl, rfl⟩ := ih
    exact ⟨_, _, e, by simp⟩
theorem bls_map (l : List Nat) : blsOf (l.map fun c => D.bl (az c)) = some (l.map az) := by
  induction l with
  | nil => rfl
  | cons c l ih => simp only [List.map_cons, blsOf, ih]; rfl
theorem is_name_ok {d : D} (h : Plain d) (μ : List Cell) : WF F_is_name [d] μ fun r μ' => r = .bl (nameB d) ∧ μ' = μ := by
  unfold F_is_name g_is_name
  walk_at "dl"
  cases d with
  | str z =>
    simp only [tyOf, Option.some.injEq, exists_eq_left', kit_sts.1, w1_lenS, h.1]
    walk_at "dl"
    by_cases h1 : 1 ≤ z.length
    · by_cases h8 : z.length ≤ 8
      · have e1 : decide ((1 : Int) ≤ (z.length : Int)) = true := decide_eq_true (by omega)
        have e2 : decide ((z.length : Int) ≤ 8) = true := decide_eq_true (by omega)
        simp only [e1, e2]
        walk_at "dl"
        obtain ⟨xs, μ', e, rfl, rfl⟩ := letters_lc z.cps.toList (wipeR [some (D.str z), none] [1]) μ rfl
        refine ⟨_, _, e, ?_, _, bls_map _, ?_⟩
        · rw [List.length_map, Array.length_toList]
          exact h.1
        · have en : nameB (.str z) = z.cps.toList.all az := by
            show nameS z = _
            unfold nameS
            rw [decide_eq_true h1, decide_eq_true h8, Bool.true_and, Bool.true_and]
          rw [en, List.all_map]
          exact ⟨rfl, rfl⟩
      · have e1 : decide ((1 : Int) ≤ (z.length : Int)) = true := decide_eq_true (by omega)
        have e2 : decide ((z.length : Int) ≤ 8) = false := decide_eq_false (by omega)
        simp only [e1, e2]
        walk_at "dl"
        simp [nameB, nameS, h8]
    · have e1 : decide ((1 : Int) ≤ (z.length : Int)) = false := decide_eq_false (by omega)
      simp only [e1]
      walk_at "dl"
      simp [nameB, nameS, h1]
  | int i => simp only [tyOf, Option.some.injEq, exists_eq_left', kit_sts.2.1]; walk_at "dl"; simp [nameB]
  | bl i => simp only [tyOf, Option.some.injEq, exists_eq_left', kit_sts.2.2.1]; walk_at "dl"; simp [nameB]
  | non => simp only [tyOf, Option.some.injEq, exists_eq_left', kit_sts.2.2.2.1]; walk_at "dl"; simp [nameB]
  | lst i => simp only [tyOf, Option.some.injEq, exists_eq_left', kit_sts.2.2.2.2.1]; walk_at "dl"; simp [nameB]
  | tup i => simp only [tyOf, Option.some.injEq, exists_eq_left', kit_sts.2.2.2.2.2.1]; walk_at "dl"; simp [nameB]
  | dct i => simp only [tyOf, Option.some.injEq, exists_eq_left', kit_sts.2.2.2.2.2.2]; walk_at "dl"; simp [nameB]
  | _ => exact h.elim
theorem sLt1 (a b : Nat) : sLt ⟨#[a]⟩ ⟨#[b]⟩ = decide (a < b) := by
  unfold sLt
  simp [List.cons_lt_cons_iff]
theorem str_a : Str.ofString "a" = ⟨#[97]⟩ := by decide
theorem str_z : Str.ofString "z" = ⟨#[122]⟩ := by decide
theorem toPs_sg (μ : List Cell) : ∀ l : List Nat, toPs (l.map sg) μ = some (l.map fun c => PyData.str ⟨#[c]⟩)
  | [] => rfl
  | c :: l => by simp only [List.map_cons, toPs, sg, toP, toPs_sg μ l]
theorem eqB_sg (l : List Nat) (h : ∀ c ∈ l, c < 0x110000) (μ : List Cell) : eqB (.lst (l.map sg)) (.lst []) μ = some l.isEmpty := by
  unfold eqB
  simp only [toQ, toP, toPs_sg, toPs, Option.map_some]
  have hs : SeqAt.shaped (.list (l.map fun c => PyData.str ⟨#[c]⟩)) = true := by
    unfold SeqAt.shaped
    have e1 : ∀ l : List Nat, (∀ c ∈ l, c < 0x110000) → PyData.canLayAll0 (l.map fun c => PyData.str ⟨#[c]⟩) = true := by
      intro l
      induction l with
      | nil => intro _; rfl
      | cons c l ih =>
        intro h
        simp only [List.map_cons, PyData.canLayAll0, PyData.canLay0, ih fun c hc => h c (List.mem_cons_of_mem _ hc), Bool.and_true]
        have := h c List.mem_cons_self
        simp [PyData.strOk, this]
    have e2 : ∀ l : List Nat, PyData.depthAll (l.map fun c => PyData.str ⟨#[c]⟩) ≤ 1 := by
      intro l
      induction l with
      | nil => simp [PyData.depthAll]
      | cons c l ih => simp only [List.map_cons, PyData.depthAll, PyData.depth]; omega
    have e3 := e2 l
    refine Bool.and_eq_true_iff.mpr ⟨e1 l h, decide_eq_true ?_⟩
    show PyData.depthAll _ + 1 ≤ 64
    omega
  rw [if_pos ⟨hs, by decide⟩]
  cases l <;> rfl
theorem signs_filter (l : List Nat) (ρ : List (Option D)) (μ : List Cell) (hρ : ρ.length = 2) : WLc (bName 1) (fNot (fTru (fCh dLe dLe (fC (D.str ⟨#[97]⟩)) (fV 1) (fC (D.str ⟨#[122]⟩))))) (fV 1) ρ (l.map sg) μ fun xs μ' => xs = (l.filter fun c => !az c).map sg ∧ μ' = μ := by
  induction l with
  | nil => exact wlc_nil.mpr ⟨rfl, rfl⟩
  | cons c l ih =>
    obtain ⟨a, b, rfl⟩ : ∃ a b, ρ = [a, b] := by
      match ρ, hρ with
      | [a, b], _ => exact ⟨a, b, rfl⟩
    rw [List.map_cons, wlc_cons]
    walk_at "dl"
    simp only [sLt1]
    obtain ⟨xs, μ', e, rfl, rfl⟩ := ih
    cases h1 : decide (c < 97) with
    | true =>
      have hc : az c = false := by
        have := of_decide_eq_true h1
        unfold az
        rw [decide_eq_false (by omega), Bool.false_and]
      walk_at "dl"
      exact ⟨_, _, e, by simp [hc]⟩
    | false =>
      cases h2 : decide (122 < c) with
      | true =>
        have hc : az c = false := by
          have := of_decide_eq_true h2
          unfold az
          rw [decide_eq_false (show ¬ c ≤ 122 by omega), Bool.and_false]
        walk_at "dl"
        exact ⟨_, _, e, by simp [hc]⟩
      | false =>
        have hc : az c = true := by
          have a1 := of_decide_eq_false h1
          have a2 := of_decide_eq_false h2
          unfold az
          rw [decide_eq_true (by omega), decide_eq_true (by omega)]
          rfl
        walk_at "dl"
        exact ⟨_, _, e, by simp [hc]⟩
theorem all_filter (l : List Nat) : (l.filter fun c => !az c).isEmpty = l.all az := by
  rw [Bool.eq_iff_iff]
  simp
theorem is_word_ok {d : D} (h : Plain d) (μ : List Cell) : WF F__law_is_word [d] μ fun r μ' => r = .bl (nameB d) ∧ μ' = μ := by
  unfold F__law_is_word g__law_is_word
  simp only [str_a, str_z]
  walk_at "dl"
  cases d with
  | str z =>
    simp only [tyOf, Option.some.injEq, exists_eq_left', kit_sts.1, w1_lenS, h.1]
    walk_at "dl"
    by_cases h1 : 1 ≤ z.length
    · have e1 : decide ((1 : Int) ≤ (z.length : Int)) = true := decide_eq_true (by omega)
      by_cases h8 : z.length ≤ 8
      · have e2 : decide ((z.length : Int) ≤ 8) = true := decide_eq_true (by omega)
        simp only [e1, e2]
        walk_at "dl"
        obtain ⟨xs, μ', e, rfl, rfl⟩ := signs_filter z.cps.toList (wipeR [some (D.str z), none] [1]) μ rfl
        refine ⟨_, _, e, ?_, ?_⟩
        · rw [List.length_map]
          refine Nat.le_trans (List.length_filter_le _ _) ?_
          rw [Array.length_toList]
          exact h.1
        refine ⟨by decide, ?_⟩
        rw [eqB_sg _ (fun c hc => h.2 c (List.mem_filter.mp hc).1)]
        refine ⟨_, rfl, ?_⟩
        rw [all_filter]
        simp [nameB, nameS, h1, h8]
      · have e2 : decide ((z.length : Int) ≤ 8) = false := decide_eq_false (by omega)
        simp only [e1, e2]
        walk_at "dl"
        simp [nameB, nameS, h8]
    · have e1 : decide ((1 : Int) ≤ (z.length : Int)) = false := decide_eq_false (by omega)
      simp only [e1]
      walk_at "dl"
      simp [nameB, nameS, h1]
  | int i => simp only [tyOf, Option.some.injEq, exists_eq_left', kit_sts.2.1]; walk_at "dl"; simp [nameB]
  | bl i => simp only [tyOf, Option.some.injEq, exists_eq_left', kit_sts.2.2.1]; walk_at "dl"; simp [nameB]
  | non => simp only [tyOf, Option.some.injEq, exists_eq_left', kit_sts.2.2.2.1]; walk_at "dl"; simp [nameB]
  | lst i => simp only [tyOf, Option.some.injEq, exists_eq_left', kit_sts.2.2.2.2.1]; walk_at "dl"; simp [nameB]
  | tup i => simp only [tyOf, Option.some.injEq, exists_eq_left', kit_sts.2.2.2.2.2.1]; walk_at "dl"; simp [nameB]
  | dct i => simp only [tyOf, Option.some.injEq, exists_eq_left', kit_sts.2.2.2.2.2.2]; walk_at "dl"; simp [nameB]
  | _ => exact h.elim
/-! ### limits -/
def limB : D → Bool
  | .non => true
  | .int i => decide (0 ≤ i)
  | _ => false
def intB : D → Bool
  | .int _ => true
  | _ => false
theorem is_whole_ok {d : D} (h : Plain d) (μ : List Cell) : WF F_is_whole [d] μ fun r μ' => r = .bl (intB d) ∧ μ' = μ := by
  unfold F_is_whole g_is_whole
  walk_at "dl"
  cases d with
  | int i => simp only [tyOf, Option.some.injEq, exists_eq_left', kit_ints.2.1, kit_bools.1]; walk_at "dl"; simp [intB]
  | bl i => simp only [tyOf, Option.some.injEq, exists_eq_left', kit_ints.2.2.1, kit_bools.2]; walk_at "dl"; simp [intB]
  | str i => simp only [tyOf, Option.some.injEq, exists_eq_left', kit_ints.1]; walk_at "dl"; simp [intB]
  | non => simp only [tyOf, Option.some.injEq, exists_eq_left', kit_ints.2.2.2.1]; walk_at "dl"; simp [intB]
  | lst i => simp only [tyOf, Option.some.injEq, exists_eq_left', kit_ints.2.2.2.2.1]; walk_at "dl"; simp [intB]
  | tup i => simp only [tyOf, Option.some.injEq, exists_eq_left', kit_ints.2.2.2.2.2.1]; walk_at "dl"; simp [intB]
  | dct i => simp only [tyOf, Option.some.injEq, exists_eq_left', kit_ints.2.2.2.2.2.2]; walk_at "dl"; simp [intB]
  | _ => exact h.elim
theorem whole_ok {d : D} (h : Plain d) (μ : List Cell) : WF F_is_whole_from [d, .int 0] μ fun r μ' => r = .bl (match d with
    | .int i => decide (0 ≤ i)
    | _ => false) ∧ μ' = μ := by
  unfold F_is_whole_from g_is_whole_from
  walk_at "dl"
  obtain ⟨r, μ', e, rfl, rfl⟩ := is_whole_ok h μ
  refine ⟨_, _, e, ?_⟩
  cases d with
  | int i => simp only [intB]; (try walk_at "dl"); (try simp)
  | str i => simp only [intB]; (try walk_at "dl"); (try simp)
  | bl i => simp only [intB]; (try walk_at "dl"); (try simp)
  | non => simp only [intB]; (try walk_at "dl"); (try simp)
  | lst i => simp only [intB]; (try walk_at "dl"); (try simp)
  | tup i => simp only [intB]; (try walk_at "dl"); (try simp)
  | dct i => simp only [intB]; (try walk_at "dl"); (try simp)
  | _ => exact h.elim
theorem isN_plain {d : D} (h : Plain d) (μ : List Cell) : isB d .non μ = some (match d with
    | .non => true
    | _ => false) := by
  cases d <;> first | rfl | exact h.elim
theorem is_limit_ok {d : D} (h : Plain d) (μ : List Cell) : WF F_is_limit [d] μ fun r μ' => r = .bl (limB d) ∧ μ' = μ := by
  unfold F_is_limit g_is_limit
  walk_at "dl"
  simp only [isN_plain h, Option.some.injEq, exists_eq_left']
  obtain ⟨r, μ', e, rfl, rfl⟩ := whole_ok h μ
  cases d <;> (walk_at "dl") <;> first | (exact ⟨_, _, e, rfl, rfl⟩) | rfl | exact ⟨rfl, rfl⟩ | simp [limB]
theorem is_number_ok {d : D} (h : Plain d) (μ : List Cell) : WF F__law_is_number [d, .int (10 ^ 40)] μ fun r μ' => r = .bl (match d with
    | .int i => decide (0 ≤ i)
    | _ => false) ∧ μ' = μ := by
  unfold F__law_is_number g__law_is_number
  walk_at "dl"
  cases d with
  | int i =>
    simp only [tyOf, Option.some.injEq, exists_eq_left', kit_ints.2.1, kit_bools.1]
    walk_at "dl"
    have hi : decide (i < 10 ^ 40) = true := decide_eq_true h
    have hi' : i < 10 ^ 40 := h
    cases hz : decide (0 ≤ i) <;> (walk_at "dl") <;> first | (simp [hi]; done) | (simp; omega)
  | bl i =>
    simp only [tyOf, Option.some.injEq, exists_eq_left', kit_ints.2.2.1, kit_bools.2]
    walk_at "dl"
  | str i => simp only [tyOf, Option.some.injEq, exists_eq_left', kit_ints.1]; walk_at "dl"
  | non => simp only [tyOf, Option.some.injEq, exists_eq_left', kit_ints.2.2.2.1]; walk_at "dl"
  | lst i => simp only [tyOf, Option.some.injEq, exists_eq_left', kit_ints.2.2.2.2.1]; walk_at "dl"
  | tup i => simp only [tyOf, Option.some.injEq, exists_eq_left', kit_ints.2.2.2.2.2.1]; walk_at "dl"
  | dct i => simp only [tyOf, Option.some.injEq, exists_eq_left', kit_ints.2.2.2.2.2.2]; walk_at "dl"
  | _ => exact h.elim

/-! ### what is drawn -/
theorem ofString_ok (s : String) : ∀ c ∈ (Str.ofString s).cps.toList, c < 0x110000 := by
  rw [Str.ofString_eq_toList]
  intro c hc
  have hc : c ∈ s.toList.map Char.toNat := hc
  obtain ⟨x, _, rfl⟩ := List.mem_map.mp hc
  have v := x.valid
  have e : x.toNat = x.val.toNat := rfl
  unfold UInt32.isValidChar Nat.isValidChar at v
  omega
theorem plain_lit (s : String) (h : (Str.ofString s).length ≤ sizeLine) : Plain (.str (Str.ofString s)) := ⟨h, ofString_ok s⟩
theorem odd_ok {k : Nat} {μ : List Cell} (hd : Die k μ) : WF F__law_odd_one [.h k] μ fun d μ' => Plain d ∧ Drawn k μ μ' := by
  unfold F__law_odd_one g__law_odd_one
  walk_at "dl"
  have b1 : (Builtin.Int.intBits 10 : Int) * 39 ≤ 2 ^ 27 := by decide +kernel
  repeat (refine ⟨by first | decide | exact ⟨by decide, b1⟩, ?_⟩)
  refine (pick_ok hd (by simp) (by simp)).mono fun d μ' ⟨hm, dr⟩ => ⟨?_, dr⟩
  simp only [List.mem_cons, List.not_mem_nil, or_false] at hm
  rcases hm with rfl | rfl | rfl | rfl | rfl | rfl | rfl | rfl | rfl | rfl | rfl | rfl | rfl | rfl | rfl | rfl | rfl | rfl | rfl | rfl | rfl | rfl | rfl | rfl | rfl | rfl | rfl | rfl
  all_goals first | exact True.intro | exact plain_lit _ (by decide) | (show (_ : Int) < 10 ^ 40; decide)
/-- a text of letters -/
def Word (z : Str) : Prop := z.length ≤ 9 ∧ ∀ c ∈ z.cps.toList, az c = true
theorem one_len (c : Nat) : (⟨#[c]⟩ : Str).length = 1 := rfl
theorem app_cps (x y : Str) : (x ++ y).cps.toList = x.cps.toList ++ y.cps.toList := by
  show (x.cps ++ y.cps).toList = _
  simp
theorem app_len (x y : Str) : (x ++ y).length = x.length + y.length := by
  show (x.cps ++ y.cps).size = _
  simp [Str.length]
theorem join_word : ∀ cs : List Nat, (Str.join Str.empty (cs.map fun c => (⟨#[c]⟩ : Str))).cps.toList = cs
  | [] => rfl
  | [c] => rfl
  | c :: d :: cs => by
    have ih := join_word (d :: cs)
    rw [List.map_cons, List.map_cons]
    show ((⟨#[c]⟩ : Str) ++ Str.empty ++ Str.join Str.empty ((⟨#[d]⟩ : Str) :: cs.map _)).cps.toList = _
    rw [app_cps, app_cps]
    rw [List.map_cons] at ih
    rw [ih]
    rfl
theorem len_cps (z : Str) : z.length = z.cps.toList.length := Array.length_toList.symm
theorem plain_word {z : Str} (h : Word z) : Plain (.str z) := ⟨Nat.le_trans h.1 (by decide), fun c hc => by have := az_lt (h.2 c hc); omega⟩
theorem plain_app {x y : Str} (hx : x.length ≤ 9 ∧ ∀ c ∈ x.cps.toList, c < 0x110000) (hy : y.length ≤ 9 ∧ ∀ c ∈ y.cps.toList, c < 0x110000) : Plain (.str (x ++ y)) := by
  refine ⟨?_, fun c hc => ?_⟩
  · rw [app_len]
    exact Nat.le_trans (Nat.add_le_add hx.1 hy.1) (by decide)
  · rw [app_cps] at hc
    exact (List.mem_append.mp hc).elim (hx.2 c) (hy.2 c)
theorem up_az : ∀ c, c < 128 → (Unicode.upperOf c).all (fun d => decide (d < 0x110000)) = true := by decide +kernel
theorem plain_upper {z : Str} (h : Word z) : Plain (.str (Txt.upper z)) := by
  refine ⟨?_, fun c hc => ?_⟩
  · have q := PyProof.Rows.len_upper z
    have := h.1
    exact Nat.le_trans (show (Txt.upper z).length ≤ 27 by omega) (by decide)
  · have hc : c ∈ ((z.cps.mapIdx fun _ c => (Unicode.upperOf c).toArray).flatten).toList := hc
    rw [Array.toList_flatten] at hc
    obtain ⟨l, hl, hcl⟩ := List.mem_flatten.mp hc
    obtain ⟨ar, har, rfl⟩ := List.mem_map.mp hl
    rw [Array.toList_mapIdx] at har
    obtain ⟨i, hi, e⟩ := List.mem_mapIdx.mp har
    subst e
    have q := up_az _ (az_lt (h.2 _ (List.getElem_mem hi))).1
    rw [List.all_eq_true] at q
    exact of_decide_eq_true (q c (by simpa using hcl))

theorem letters_az : ∀ c ∈ (Str.ofString "abcdefghijklmnopqrstuvwxyz").cps.toList, az c = true := by decide +kernel
theorem letters_len : (Str.ofString "abcdefghijklmnopqrstuvwxyz").length = 26 := by decide +kernel
theorem draw_word {k n : Nat} (hn : n ≤ 9) {ρ : List (Option D)} {i : Nat} (h0 : ρ[0]? = some (some (.h k))) (h1 : ρ[1]? = some (some (.str (Str.ofString "abcdefghijklmnopqrstuvwxyz")))) (h2 : 2 < ρ.length) : ∀ (ds : List D) (μ : List Cell), Die k μ → ds.length ≤ n →
    WLc (bName 2) (fun S => some (true, S.μ)) (fCall F__law_pick (fLen 2 (fCons (fV 0) (fCons (fV 1) fNil)))) ρ ds μ fun xs μ' => (∃ cs : List Nat, xs = cs.map sg ∧ cs.length = ds.length ∧ ∀ c ∈ cs, az c = true) ∧ Drawn k μ μ'
  | [], μ, hd, _ => by
    obtain ⟨x, y, z, e⟩ := hd
    refine wlc_nil.mpr ⟨⟨[], rfl, rfl, by simp⟩, x, y, z, ?_⟩
    exact (set_same e).symm
  | d :: ds, μ, hd, hl => by
    rw [wlc_cons]
    walk_at "dl"
    refine ⟨h2, ?_⟩
    refine ⟨_, by rw [List.getElem?_set_ne (by decide)]; exact h0, _, by rw [List.getElem?_set_ne (by decide)]; exact h1, ?_⟩
    obtain ⟨x, μ1, e, ⟨c, hc, rfl⟩, dr⟩ := pick_str hd (by rw [letters_len]; decide) (by rw [letters_len]; decide)
    refine ⟨_, μ1, e, ?_⟩
    obtain ⟨xs, μ2, e2, ⟨cs, rfl, hlen, hcs⟩, dr2⟩ := draw_word hn h0 h1 h2 (i := i) ds μ1 (dr.die hd) (by simp only [List.length_cons] at hl; omega)
    refine ⟨_, μ2, e2, ⟨c :: cs, rfl, by simp [hlen], fun b hb => ?_⟩, dr.trans dr2⟩
    rcases List.mem_cons.mp hb with rfl | hb
    · exact letters_az _ hc
    · exact hcs b hb
theorem strs_sg : ∀ cs : List Nat, strsOf (cs.map sg) = some (cs.map fun c => (⟨#[c]⟩ : Str))
  | [] => rfl
  | c :: cs => by simp only [List.map_cons, strsOf, strs_sg cs, Option.map_some]
theorem empty_lit : Str.ofString "" = Str.empty := by decide
theorem log_small {i : Int} (h0 : 0 ≤ i) (h : i < 10 ^ 39) : i.natAbs.log2 < 1920 := by
  by_cases hz : i.natAbs = 0
  · rw [hz]; decide
  · refine (Nat.log2_lt hz).mpr (Nat.lt_trans (show i.natAbs < 10 ^ 39 by omega) (by decide +kernel))
theorem eq_repr (b : Bool) (μ : List Cell) : eqB (.str (reprB b)) (.str (reprB b)) μ = some true := by
  unfold eqB
  simp only [toQ, toP]
  cases b <;> decide +kernel
theorem to_eq {F : FnF} {ds : List D} {μ : List Cell} {r : D} (h : WF F ds μ fun d μ' => d = r ∧ μ' = μ) : F ds μ = some (.v r, μ) := by
  obtain ⟨d, μ', e, rfl, rfl⟩ := h
  exact e
theorem right_ok {k : Nat} {μ : List Cell} (hd : Die k μ) : WF F__law_right [.h k] μ fun d μ' => d = .bl true ∧ Drawn k μ μ' := by
  unfold F__law_right g__law_right
  walk_at "dl"
  obtain ⟨_, μ1, e1, r, rfl, r0, r1, d1⟩ := cast_ok (t := 10) hd (by decide) (by decide)
  refine ⟨_, μ1, e1, ?_⟩
  walk_at "dl"
  refine ⟨by omega, by omega, ?_⟩
  obtain ⟨_, μ2, e2, ⟨cs, rfl, hlen, hcs⟩, d2⟩ := draw_word (n := 9) (Nat.le_refl _) (ρ := wipeR [some (D.h k), some (D.str (Str.ofString "abcdefghijklmnopqrstuvwxyz")), none, none, none, none, none] [2]) (i := 0) rfl rfl (Nat.lt_of_sub_pos (Nat.zero_lt_succ 4)) (rngD 0 r.toNat) μ1 (d1.die hd) (by simp [rngD]; omega)
  have hl9 : cs.length ≤ 9 := by rw [hlen]; simp [rngD]; omega
  refine ⟨_, μ2, e2, ?_⟩
  have hsum : ((cs.map fun c => (⟨#[c]⟩ : Str)).map (·.length)).sum = cs.length := by
    clear hlen hcs hl9 e2
    induction cs with
    | nil => rfl
    | cons c cs ih =>
      simp only [List.map_cons, List.sum_cons, List.length_cons, ih, one_len]
      omega
  refine ⟨by rw [List.length_map]; exact Nat.le_trans hl9 (by decide), _, strs_sg cs, ?_, ?_⟩
  · rw [hsum, empty_lit]
    show cs.length + _ * 0 ≤ _
    omega
  have hw : Word (Txt.join (Str.ofString "") (cs.map fun c => (⟨#[c]⟩ : Str))) := by
    rw [TL.join_eq, empty_lit]
    refine ⟨by rw [len_cps, join_word]; exact hl9, fun c hc => ?_⟩
    rw [join_word] at hc
    exact hcs c hc
  generalize Txt.join (Str.ofString "") (cs.map fun c => (⟨#[c]⟩ : Str)) = word at hw ⊢
  have dd2 := d2.die (d1.die hd)
  have D2 := d1.trans d2
  clear hsum e2 hcs hlen hl9 d2 d1 e1
  clear cs
  obtain ⟨_, μ3, e3, m, rfl, m0, m1, d3⟩ := cast_ok (t := 39) dd2 (by decide) (by decide)
  refine ⟨_, μ3, e3, ?_⟩
  walk_at "dl"
  refine ⟨by omega, by omega, ?_⟩
  refine ws_forInv (fun ds S => ∃ μ t number i, S = ⟨[some (D.h k), some (D.str (Str.ofString "abcdefghijklmnopqrstuvwxyz")), t, some (D.str word), some (D.int number), none, none], μ⟩ ∧ Die k μ ∧ Drawn k μ3 μ ∧ 0 ≤ number ∧ number < 10 ^ i ∧ i + ds.length ≤ 39)
    ?_ ?_ _ _ ⟨μ3, none, 0, 0, rfl, d3.die dd2, ?_, by decide, by decide, by simp [rngD]; omega⟩
  · rintro d r S ⟨μ, t, number, i, rfl, hdie, hdr, n0, n1, hi⟩
    walk_at "dl"
    obtain ⟨_, μ', e, q, rfl, q0, q1, dr⟩ := cast_ok (t := 10) hdie (by decide) (by decide)
    refine ⟨.inr (by decide), _, μ', e, ?_⟩
    walk_at "dl"
    refine ⟨μ', _, number * 10 + q, i + 1, rfl, dr.die hdie, hdr.trans dr, by omega, ?_, by simp only [List.length_cons] at hi; omega⟩
    rw [Int.pow_succ]
    omega
  · rintro S ⟨μ4, t, number, i, rfl, hdie, hdr, n0, n1, hi⟩
    have n39 : number < 10 ^ 39 := by
      refine Int.lt_of_lt_of_le n1 ?_
      have : i ≤ 39 := by simpa using hi
      have q : (10 : Nat) ^ i ≤ 10 ^ 39 := Nat.pow_le_pow_right (by decide) this
      exact_mod_cast q
    have D4 := D2.trans (d3.trans hdr)
    clear n1 hi e3 d3
    walk_at "dl"
    refine ⟨by decide, ?_⟩
    obtain ⟨y0, μ5, e5, hy, d5⟩ := pick_ok (xs := [D.str (Str.ofString " "), D.str (Str.ofString "A"), D.str (Str.ofString "0"), D.str (Str.ofString "_"), D.str (Str.ofString "z")]) hdie (by decide) (by decide)
    refine ⟨_, μ5, e5, ?_⟩
    obtain ⟨y, rfl, y1, y2⟩ : ∃ y, y0 = .str y ∧ y.length ≤ 9 ∧ ∀ c ∈ y.cps.toList, c < 0x110000 := by
      simp only [List.mem_cons, List.not_mem_nil, or_false] at hy
      rcases hy with rfl | rfl | rfl | rfl | rfl <;> exact ⟨_, rfl, by decide, ofString_ok _⟩
    have pw := plain_word hw
    have pa := plain_app (x := word) ⟨hw.1, pw.2⟩ ⟨y1, y2⟩
    have pu := plain_upper hw
    rw [w2_addS]
    refine ⟨by rw [← app_len]; exact pa.1, ?_⟩
    unfold dUpper
    rw [w1_S0]
    refine ⟨decide_eq_true (by have := hw.1; omega), ?_⟩
    obtain ⟨x, μ6, e6, px, d6⟩ := odd_ok (d5.die hdie)
    refine ⟨x, μ6, e6, by decide, ⟨by decide, by decide +kernel⟩, log_small n0 n39, by decide, ⟨by decide, by decide +kernel⟩, by decide, by decide, by decide, ?_⟩
    have D6 := D4.trans (d5.trans d6)
    have pn : Plain (.str (Str.ofString (toString number))) := ⟨int_text_fits (log_small n0 n39), ofString_ok _⟩
    generalize hall : [D.str word, D.str (word ++ y), D.str (Txt.upper word), x, D.int number, D.int (-number), D.int (number - 10 ^ Int.toNat 38), D.str (Str.ofString (toString number)), D.tup [D.int number], D.non, D.bl true, D.bl false, D.int 0, D.int (-1), D.int (10 ^ Int.toNat 40 - 1), D.lst [D.str word]] = all
    have pall : ∀ d ∈ all, Plain d := by
      subst hall
      intro d hdm
      have t38 : (10 : Int) ^ Int.toNat 38 = 10 ^ 38 := rfl
      have t40 : (10 : Int) ^ Int.toNat 40 = 10 ^ 40 := rfl
      simp only [List.mem_cons, List.not_mem_nil, or_false] at hdm
      rcases hdm with rfl | rfl | rfl | rfl | rfl | rfl | rfl | rfl | rfl | rfl | rfl | rfl | rfl | rfl | rfl | rfl
      all_goals first | assumption | exact True.intro | (show (_ : Int) < 10 ^ 40; first | omega | (rw [t38]; omega) | (rw [t40]; omega))
    refine ws_forInv (fun ds S => ∃ v, S = ⟨[some (D.h k), some (D.str (Str.ofString "abcdefghijklmnopqrstuvwxyz")), t, some (D.str word), some (D.int number), some (D.lst all), v], μ6⟩ ∧ ∀ d ∈ ds, Plain d) ?_ ?_ _ _ ⟨none, rfl, pall⟩
    · rintro d r S ⟨v, rfl, hp⟩
      have pd := hp d List.mem_cons_self
      walk_at "dl"
      refine ⟨_, _, to_eq (is_name_ok pd μ6), ?_⟩
      walk_at "dl"
      refine ⟨_, _, to_eq (is_word_ok pd μ6), ?_⟩
      walk_at "dl"
      refine ⟨true, eq_repr _ _, ?_⟩
      walk_at "dl"
      refine ⟨_, _, to_eq (is_limit_ok pd μ6), ?_⟩
      walk_at "dl"
      refine ⟨_, isN_plain pd _, ?_⟩
      have num := to_eq (is_number_ok pd μ6)
      have b40 : (0 : Int) ≤ 40 ∧ (Builtin.Int.intBits 10 : Int) * 40 ≤ 2 ^ 27 := ⟨by decide, by decide +kernel⟩
      cases d with
      | non =>
        walk_at "dl"
        refine ⟨true, eq_repr true _, ?_⟩
        walk_at "dl"
        exact ⟨_, rfl, fun d hd => hp d (List.mem_cons_of_mem _ hd)⟩
      | _ =>
        first
        | exact pd.elim
        | (walk_at "dl"
           refine ⟨b40, _, _, num, ?_⟩
           walk_at "dl"
           refine ⟨true, eq_repr _ _, ?_⟩
           walk_at "dl"
           exact ⟨_, rfl, fun d hd => hp d (List.mem_cons_of_mem _ hd)⟩)
    · rintro S ⟨v, rfl, _⟩
      walk_at "dl"
      exact D6
  · obtain ⟨x, y, z, e⟩ := d3.die dd2
    exact ⟨x, y, z, (set_same e).symm⟩

theorem name_eq (z : String) (h : (Str.ofString z).length ≤ sizeLine) (μ : List Cell) : F_is_name [.str (Str.ofString z)] μ = some (.v (.bl (nameS (Str.ofString z))), μ) := to_eq (is_name_ok (plain_lit z h) μ)
theorem mem_rng {lo : Int} {n : Nat} {d : D} (h : d ∈ rngD lo n) : ∃ i : Nat, i < n ∧ d = .int (lo + i) := by
  obtain ⟨i, hi, rfl⟩ := List.mem_map.mp h
  exact ⟨i, List.mem_range.mp hi, rfl⟩
theorem law_ok (ns : List Int) (h : ns.length ≤ 63) : ∃ μ', F_law [.rl (ns.map D.int)] [] = some (.v (.bl true), μ') := by
  suffices q : WF F_law [.rl (ns.map D.int)] [] fun d _ => d = .bl true by
    obtain ⟨d, μ', e, rfl⟩ := q
    exact ⟨μ', e⟩
  unfold F_law g_law
  walk_at "dl"
  generalize hm : (if (if ((ns.length : Nat) : Int) < 8 then ((ns.length : Nat) : Int) else 8) > 1 then (if ((ns.length : Nat) : Int) < 8 then ((ns.length : Nat) : Int) else 8) else 1) = m
  have m8 : 0 ≤ m ∧ m ≤ 8 := by
    rw [← hm]
    split <;> split <;> omega
  refine ⟨by omega, by omega, ?_⟩
  refine ws_forInv (fun ds S => ∃ μ a b c, S = ⟨[some (D.rl (ns.map D.int)), a, b, c, none, none], μ⟩ ∧ ∀ d ∈ ds, ∃ i : Nat, d = .int (0 + i)) ?_ ?_ _ _ ⟨[], none, none, none, rfl, fun d hd => let ⟨i, _, e⟩ := mem_rng hd; ⟨i, e⟩⟩
  · rintro d r S ⟨μ, a, b, c, rfl, hp⟩
    obtain ⟨i, rfl⟩ := hp d List.mem_cons_self
    walk_at "dl"
    obtain ⟨_, _, e1, x, y, rfl, rfl⟩ := numbers_ok ns (0 + (i : Int)) (by omega) μ
    refine ⟨_, _, e1, ?_⟩
    walk_at "dl"
    refine ⟨by decide, by decide, ?_⟩
    refine ws_forInv (fun ds S => ∃ μ' t, S = ⟨[some (D.rl (ns.map D.int)), some (D.int (0 + (i : Int))), some (D.h μ.length), t, none, none], μ'⟩ ∧ Die μ.length μ') ?_ ?_ _ _ ⟨_, c, rfl, x, y, 0, by simp⟩
    · rintro d2 r2 S ⟨μ', t, rfl, hdie⟩
      walk_at "dl"
      obtain ⟨_, μ2, e2, rfl, dr⟩ := right_ok hdie
      refine ⟨_, μ2, e2, ?_⟩
      walk_at "dl"
      exact ⟨_, _, rfl, dr.die hdie⟩
    · rintro S ⟨μ', t, rfl, hdie⟩
      walk_at "dl"
      exact ⟨_, _, _, _, rfl, fun d hd => hp d (List.mem_cons_of_mem _ hd)⟩
  · rintro S ⟨μ, a, b, c, rfl, _⟩
    walk_at "dl"
    refine ⟨by decide, ?_⟩
    simp only [wlc_cons, wlc_nil, wipeR]
    walk_at "dl"
    have n1 : nameS (Str.ofString "a") = true := by decide +kernel
    have n2 : nameS (Str.ofString "zzzzzzzz") = true := by decide +kernel
    have n3 : nameS (Str.ofString "aaaaaaaaa") = false := by decide +kernel
    have n4 : nameS (Str.ofString "") = false := by decide +kernel
    have n5 : nameS (Str.ofString "none") = true := by decide +kernel
    refine ⟨_, _, name_eq "a" (by decide) _, _, _, name_eq "zzzzzzzz" (by decide) _, _, _, name_eq "aaaaaaaaa" (by decide) _, _, _, name_eq "" (by decide) _, _, _, name_eq "none" (by decide) _, by decide, by decide, true, ?_, ?_⟩
    · rw [n1, n2, n3, n4, n5]
      unfold eqB
      simp only [toQ, toP, toPs, Option.map_some]
      decide +kernel
    · walk_at "dl"
      refine ⟨_, _, to_eq (is_limit_ok (d := .non) trivial _), _, _, to_eq (is_limit_ok (d := .bl true) trivial _), by decide, by decide, true, ?_, rfl⟩
      unfold eqB
      simp only [toQ, toP, toPs, Option.map_some, limB]
      decide +kernel
end G
namespace G
open PySem L2 DL
section
theorem all_mk {P : Program} {w : World} {K : PySem.W.Frag} {h : Heap} {mg : Str → Option Value} {fa : Addr} (X : K.In h) (G : h.Ns mainGlobals mg) (hfa : mg "law" = some (.ref fa))
    {od1 an1 : Option Addr} {sl1 : Array (Option Value)} {oc1 kV1 dc1 pm1 cd1 ct1 : Value} {f1 : Addr} {od2 an2 : Option Addr} {sl2 : Array (Option Value)} {oc2 kV2 dc2 pm2 cd2 ct2 : Value} {f2 : Addr} {od3 an3 : Option Addr} {sl3 : Array (Option Value)} {oc3 kV3 dc3 pm3 cd3 ct3 : Value} {f3 : Addr} {od4 an4 : Option Addr} {sl4 : Array (Option Value)} {oc4 kV4 dc4 pm4 cd4 ct4 : Value} {f4 : Addr} {od5 an5 : Option Addr} {sl5 : Array (Option Value)} {oc5 kV5 dc5 pm5 cd5 ct5 : Value} {f5 : Addr} {od6 an6 : Option Addr} {sl6 : Array (Option Value)} {oc6 kV6 dc6 pm6 cd6 ct6 : Value} {f6 : Addr} {od7 an7 : Option Addr} {sl7 : Array (Option Value)} {oc7 kV7 dc7 pm7 cd7 ct7 : Value} {f7 : Addr} {od8 an8 : Option Addr} {sl8 : Array (Option Value)} {oc8 kV8 dc8 pm8 cd8 ct8 : Value} {f8 : Addr} {od9 an9 : Option Addr} {sl9 : Array (Option Value)} {oc9 kV9 dc9 pm9 cd9 ct9 : Value} {f9 : Addr} {od10 an10 : Option Addr} {sl10 : Array (Option Value)} {oc10 kV10 dc10 pm10 cd10 ct10 : Value} {f10 : Addr} {od11 an11 : Option Addr} {sl11 : Array (Option Value)} {oc11 kV11 dc11 pm11 cd11 ct11 : Value} {f11 : Addr} {od12 an12 : Option Addr} {sl12 : Array (Option Value)} {oc12 kV12 dc12 pm12 cd12 ct12 : Value} {f12 : Addr} {tk_LETTERS : Tok} {tk_LONGEST_NAME : Tok}
    (a1 : PySem.W.nsIn K mainGlobals "_law_numbers" = some (some (.ref f1))) (l1 : K.lookup f1 = some ⟨oc1, od1, .func (PySem.W.fnOf "_law_numbers" "_law_numbers" (defArgs s__law_numbers) (defBody s__law_numbers) (defScope s__law_numbers) .none kV1 dc1 pm1 an1 cd1 ct1), sl1⟩) (c1 : PySem.W.codeIn K cd1 "_law_numbers" = true) (k1 : PySem.W.keepIn K (.ref f1) = true)
    (a2 : PySem.W.nsIn K mainGlobals "is_name" = some (some (.ref f2))) (l2 : K.lookup f2 = some ⟨oc2, od2, .func (PySem.W.fnOf "is_name" "is_name" (defArgs s_is_name) (defBody s_is_name) (defScope s_is_name) .none kV2 dc2 pm2 an2 cd2 ct2), sl2⟩) (c2 : PySem.W.codeIn K cd2 "is_name" = true) (k2 : PySem.W.keepIn K (.ref f2) = true)
    (a3 : PySem.W.nsIn K mainGlobals "_law_cast" = some (some (.ref f3))) (l3 : K.lookup f3 = some ⟨oc3, od3, .func (PySem.W.fnOf "_law_cast" "_law_cast" (defArgs s__law_cast) (defBody s__law_cast) (defScope s__law_cast) .none kV3 dc3 pm3 an3 cd3 ct3), sl3⟩) (c3 : PySem.W.codeIn K cd3 "_law_cast" = true) (k3 : PySem.W.keepIn K (.ref f3) = true)
    (a4 : PySem.W.nsIn K mainGlobals "_law_pick" = some (some (.ref f4))) (l4 : K.lookup f4 = some ⟨oc4, od4, .func (PySem.W.fnOf "_law_pick" "_law_pick" (defArgs s__law_pick) (defBody s__law_pick) (defScope s__law_pick) .none kV4 dc4 pm4 an4 cd4 ct4), sl4⟩) (c4 : PySem.W.codeIn K cd4 "_law_pick" = true) (k4 : PySem.W.keepIn K (.ref f4) = true)
    (a5 : PySem.W.nsIn K mainGlobals "_law_odd_one" = some (some (.ref f5))) (l5 : K.lookup f5 = some ⟨oc5, od5, .func (PySem.W.fnOf "_law_odd_one" "_law_odd_one" (defArgs s__law_odd_one) (defBody s__law_odd_one) (defScope s__law_odd_one) .none kV5 dc5 pm5 an5 cd5 ct5), sl5⟩) (c5 : PySem.W.codeIn K cd5 "_law_odd_one" = true) (k5 : PySem.W.keepIn K (.ref f5) = true)
    (a6 : PySem.W.nsIn K mainGlobals "_law_is_word" = some (some (.ref f6))) (l6 : K.lookup f6 = some ⟨oc6, od6, .func (PySem.W.fnOf "_law_is_word" "_law_is_word" (defArgs s__law_is_word) (defBody s__law_is_word) (defScope s__law_is_word) .none kV6 dc6 pm6 an6 cd6 ct6), sl6⟩) (c6 : PySem.W.codeIn K cd6 "_law_is_word" = true) (k6 : PySem.W.keepIn K (.ref f6) = true)
    (a7 : PySem.W.nsIn K mainGlobals "is_whole" = some (some (.ref f7))) (l7 : K.lookup f7 = some ⟨oc7, od7, .func (PySem.W.fnOf "is_whole" "is_whole" (defArgs s_is_whole) (defBody s_is_whole) (defScope s_is_whole) .none kV7 dc7 pm7 an7 cd7 ct7), sl7⟩) (c7 : PySem.W.codeIn K cd7 "is_whole" = true) (k7 : PySem.W.keepIn K (.ref f7) = true)
    (a8 : PySem.W.nsIn K mainGlobals "is_whole_from" = some (some (.ref f8))) (l8 : K.lookup f8 = some ⟨oc8, od8, .func (PySem.W.fnOf "is_whole_from" "is_whole_from" (defArgs s_is_whole_from) (defBody s_is_whole_from) (defScope s_is_whole_from) .none kV8 dc8 pm8 an8 cd8 ct8), sl8⟩) (c8 : PySem.W.codeIn K cd8 "is_whole_from" = true) (k8 : PySem.W.keepIn K (.ref f8) = true)
    (a9 : PySem.W.nsIn K mainGlobals "is_limit" = some (some (.ref f9))) (l9 : K.lookup f9 = some ⟨oc9, od9, .func (PySem.W.fnOf "is_limit" "is_limit" (defArgs s_is_limit) (defBody s_is_limit) (defScope s_is_limit) .none kV9 dc9 pm9 an9 cd9 ct9), sl9⟩) (c9 : PySem.W.codeIn K cd9 "is_limit" = true) (k9 : PySem.W.keepIn K (.ref f9) = true)
    (a10 : PySem.W.nsIn K mainGlobals "_law_is_number" = some (some (.ref f10))) (l10 : K.lookup f10 = some ⟨oc10, od10, .func (PySem.W.fnOf "_law_is_number" "_law_is_number" (defArgs s__law_is_number) (defBody s__law_is_number) (defScope s__law_is_number) .none kV10 dc10 pm10 an10 cd10 ct10), sl10⟩) (c10 : PySem.W.codeIn K cd10 "_law_is_number" = true) (k10 : PySem.W.keepIn K (.ref f10) = true)
    (a11 : PySem.W.nsIn K mainGlobals "_law_right" = some (some (.ref f11))) (l11 : K.lookup f11 = some ⟨oc11, od11, .func (PySem.W.fnOf "_law_right" "_law_right" (defArgs s__law_right) (defBody s__law_right) (defScope s__law_right) .none kV11 dc11 pm11 an11 cd11 ct11), sl11⟩) (c11 : PySem.W.codeIn K cd11 "_law_right" = true) (k11 : PySem.W.keepIn K (.ref f11) = true)
    (a12 : PySem.W.nsIn K mainGlobals "law" = some (some (.ref f12))) (l12 : K.lookup f12 = some ⟨oc12, od12, .func (PySem.W.fnOf "law" "law" (defArgs s_law) (defBody s_law) (defScope s_law) .none kV12 dc12 pm12 an12 cd12 ct12), sl12⟩) (c12 : PySem.W.codeIn K cd12 "law" = true) (k12 : PySem.W.keepIn K (.ref f12) = true)
    (x_LETTERS : PySem.W.nsIn K mainGlobals "LETTERS" = some (some (.str "abcdefghijklmnopqrstuvwxyz" tk_LETTERS)))
    (x_LONGEST_NAME : PySem.W.nsIn K mainGlobals "LONGEST_NAME" = some (some (.int 8 tk_LONGEST_NAME)))
    (z_abs : PySem.W.nsIn K mainGlobals "abs" = some none)
    (z_all : PySem.W.nsIn K mainGlobals "all" = some none)
    (z_bool : PySem.W.nsIn K mainGlobals "bool" = some none)
    (z_int : PySem.W.nsIn K mainGlobals "int" = some none)
    (z_isinstance : PySem.W.nsIn K mainGlobals "isinstance" = some none)
    (z_len : PySem.W.nsIn K mainGlobals "len" = some none)
    (z_max : PySem.W.nsIn K mainGlobals "max" = some none)
    (z_min : PySem.W.nsIn K mainGlobals "min" = some none)
    (z_range : PySem.W.nsIn K mainGlobals "range" = some none)
    (z_repr : PySem.W.nsIn K mainGlobals "repr" = some none)
    (z_str : PySem.W.nsIn K mainGlobals "str" = some none) :
    ∃ fd : FuncData, ∀ base : Heap, K.In base → base.Ns mainGlobals mg → FG P w K mg base 5 fa fd 1 F_law := by
  have e := hfa.symm.trans (PySem.W.mg_of X G a12)
  cases e
  have T : Txt mg := ⟨PySem.W.mg_none_of X G z_abs, PySem.W.mg_none_of X G z_all, PySem.W.mg_none_of X G z_bool, PySem.W.mg_none_of X G z_int, PySem.W.mg_none_of X G z_isinstance, PySem.W.mg_none_of X G z_len, PySem.W.mg_none_of X G z_max, PySem.W.mg_none_of X G z_min, PySem.W.mg_none_of X G z_range, PySem.W.mg_none_of X G z_repr, PySem.W.mg_none_of X G z_str, ⟨_, PySem.W.mg_of X G x_LETTERS⟩, ⟨_, PySem.W.mg_of X G x_LONGEST_NAME⟩⟩
  refine ⟨PySem.W.fnOf "law" "law" (defArgs s_law) (defBody s_law) (defScope s_law) .none kV12 dc12 pm12 an12 cd12 ct12, fun base _ _ => ?body⟩
  case body =>
    have h__law_numbers : Has P w K mg base "_law_numbers" 1 2 F__law_numbers := ⟨_, _, PySem.W.mg_of X G a1, ok__law_numbers (P := P) (w := w) (base := base) (fun_mk (st := s__law_numbers) l1 c1 k1) T⟩
    have h_is_name : Has P w K mg base "is_name" 1 1 F_is_name := ⟨_, _, PySem.W.mg_of X G a2, ok_is_name (P := P) (w := w) (base := base) (fun_mk (st := s_is_name) l2 c2 k2) T⟩
    have h__law_cast : Has P w K mg base "_law_cast" 1 2 F__law_cast := ⟨_, _, PySem.W.mg_of X G a3, ok__law_cast (P := P) (w := w) (base := base) (fun_mk (st := s__law_cast) l3 c3 k3) T⟩
    have h__law_pick : Has P w K mg base "_law_pick" 2 2 F__law_pick := ⟨_, _, PySem.W.mg_of X G a4, ok__law_pick (P := P) (w := w) (base := base) (fun_mk (st := s__law_pick) l4 c4 k4) T h__law_cast⟩
    have h__law_odd_one : Has P w K mg base "_law_odd_one" 3 1 F__law_odd_one := ⟨_, _, PySem.W.mg_of X G a5, ok__law_odd_one (P := P) (w := w) (base := base) (fun_mk (st := s__law_odd_one) l5 c5 k5) T h__law_pick⟩
    have h__law_is_word : Has P w K mg base "_law_is_word" 1 1 F__law_is_word := ⟨_, _, PySem.W.mg_of X G a6, ok__law_is_word (P := P) (w := w) (base := base) (fun_mk (st := s__law_is_word) l6 c6 k6) T⟩
    have h_is_whole : Has P w K mg base "is_whole" 1 1 F_is_whole := ⟨_, _, PySem.W.mg_of X G a7, ok_is_whole (P := P) (w := w) (base := base) (fun_mk (st := s_is_whole) l7 c7 k7) T⟩
    have h_is_whole_from : Has P w K mg base "is_whole_from" 2 2 F_is_whole_from := ⟨_, _, PySem.W.mg_of X G a8, ok_is_whole_from (P := P) (w := w) (base := base) (fun_mk (st := s_is_whole_from) l8 c8 k8) T h_is_whole⟩
    have h_is_limit : Has P w K mg base "is_limit" 3 1 F_is_limit := ⟨_, _, PySem.W.mg_of X G a9, ok_is_limit (P := P) (w := w) (base := base) (fun_mk (st := s_is_limit) l9 c9 k9) T h_is_whole_from⟩
    have h__law_is_number : Has P w K mg base "_law_is_number" 1 2 F__law_is_number := ⟨_, _, PySem.W.mg_of X G a10, ok__law_is_number (P := P) (w := w) (base := base) (fun_mk (st := s__law_is_number) l10 c10 k10) T⟩
    have h__law_right : Has P w K mg base "_law_right" 4 1 F__law_right := ⟨_, _, PySem.W.mg_of X G a11, ok__law_right (P := P) (w := w) (base := base) (fun_mk (st := s__law_right) l11 c11 k11) T h__law_cast h__law_is_number h__law_is_word h__law_odd_one h__law_pick h_is_limit h_is_name⟩
    exact ok_law (P := P) (w := w) (base := base) (fun_mk (st := s_law) l12 c12 k12) T h__law_numbers h__law_right h_is_limit h_is_name
theorem walk {l : PySem.W.OpenLaw} {q : Program} {loose : List Str} {XP : (Str → Option Value) → Heap → Prop} {YP : World → Heap → Prop} {d : DefRec} {K : Params → PySem.W.Frag} (hn : l.most = some 63) (hdf : d.params.defaults = [])
    (hY : ∀ (w : World) (h : Heap), YP w h → (K w.params).In h)
    (F : ∀ (w : World) (mg : Str → Option Value) (fa : Addr) (h : Heap), (K w.params).In h → h.Ns mainGlobals mg → mg d.name = some (.ref fa) →
      ∃ fd : FuncData, ∀ base : Heap, (K w.params).In base → base.Ns mainGlobals mg → FG l.prog w (K w.params) mg base 5 fa fd 1 F_law) :
    PySem.W.WalkO q loose XP YP l.row.toRowW d [] (fun f vs => PySem.call f vs) :=
  walkD (n := 63) (k := 5) (F := F_law) hn (by decide) hdf ⟨rfl, by decide, by decide⟩ hY F law_ok
end
end G
open PySem PySem.W PyProof.Rows
set_option maxRecDepth 100000 in
set_option maxHeartbeats 0 in
theorem PySem.Challenge.cw_deepenough_k01_names_and_limits_holds : PySem.Challenge.rw_deepenough_k01_names_and_limits.Holds := by
  w_on; o_law; k_head; (case hw => w_witness2)
  k_fill
  refine G.walk (l := PySem.Challenge.rw_deepenough_k01_names_and_limits) rfl rfl (fun w h Y => PySem.W.kIn_of Y) ?F
  case F =>
    intro w mg fa h KX Gn hmg
    refine' G.all_mk KX Gn hmg ?a1 ?l1 ?c1 ?k1 ?a2 ?l2 ?c2 ?k2 ?a3 ?l3 ?c3 ?k3 ?a4 ?l4 ?c4 ?k4 ?a5 ?l5 ?c5 ?k5 ?a6 ?l6 ?c6 ?k6 ?a7 ?l7 ?c7 ?k7 ?a8 ?l8 ?c8 ?k8 ?a9 ?l9 ?c9 ?k9 ?a10 ?l10 ?c10 ?k10 ?a11 ?l11 ?c11 ?k11 ?a12 ?l12 ?c12 ?k12 ?x_LETTERS ?x_LONGEST_NAME ?z_abs ?z_all ?z_bool ?z_int ?z_isinstance ?z_len ?z_max ?z_min ?z_range ?z_repr ?z_str
    (case a1 => k_is)
    (case l1 => k_is)
    (case c1 => k_is)
    (case k1 => k_is)
    (case a2 => k_is)
    (case l2 => k_is)
    (case c2 => k_is)
    (case k2 => k_is)
    (case a3 => k_is)
    (case l3 => k_is)
    (case c3 => k_is)
    (case k3 => k_is)
    (case a4 => k_is)
    (case l4 => k_is)
    (case c4 => k_is)
    (case k4 => k_is)
    (case a5 => k_is)
    (case l5 => k_is)
    (case c5 => k_is)
    (case k5 => k_is)
    (case a6 => k_is)
    (case l6 => k_is)
    (case c6 => k_is)
    (case k6 => k_is)
    (case a7 => k_is)
    (case l7 => k_is)
    (case c7 => k_is)
    (case k7 => k_is)
    (case a8 => k_is)
    (case l8 => k_is)
    (case c8 => k_is)
    (case k8 => k_is)
    (case a9 => k_is)
    (case l9 => k_is)
    (case c9 => k_is)
    (case k9 => k_is)
    (case a10 => k_is)
    (case l10 => k_is)
    (case c10 => k_is)
    (case k10 => k_is)
    (case a11 => k_is)
    (case l11 => k_is)
    (case c11 => k_is)
    (case k11 => k_is)
    (case a12 => k_is)
    (case l12 => k_is)
    (case c12 => k_is)
    (case k12 => k_is)
    (case x_LETTERS => k_is)
    (case x_LONGEST_NAME => k_is)
    (case z_abs => k_is)
    (case z_all => k_is)
    (case z_bool => k_is)
    (case z_int => k_is)
    (case z_isinstance => k_is)
    (case z_len => k_is)
    (case z_max => k_is)
    (case z_min => k_is)
    (case z_range => k_is)
    (case z_repr => k_is)
    (case z_str => k_is)
