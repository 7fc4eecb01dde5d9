import PyProof.Rows.All
import Wide.All
import OpenK.AllK
import Wide.FinOn
import HandS.Words
import HandS.Comp
import HandS.Iter
import HandS.Text
import HandS.More
import HandS.IsInst
import HandS.StrMore
import HandS.Exc
import HandS.ExcOwn
import HandS.TryOnly
import HandS.ExcValue
import HandS.ExcInit
import HandS.Lambda
import KE.KNestM
import HandS.Flow
import HandS.Walk
import HandS.Ends
import HandS.Dict
import HandS.List
import HandS.Conv
import HandS.TupAny
import HandS.Zip
import HandS.Star
import HandS.FStr
import PyProof.P3In
import PyProof.ReprRoads
import HandS.Codes
import HandS.RaiseMore
import HandS.Call
import HandS.Property
import HandS.ClsMeth
import HandS.OwnEq
import KE.KFmtOwn
import KE.KExcInit
import PyProof.InstStoreFacts
import PyProof.RulesRaise
import PyProof.FactsTree
import KE.KExcIs
import HandS.ExcIs
import PyProof.P3Eq
import PyProof.FactsAll.dict_1
import PyProof.FactsAll.subtypes
import PyProof.EqLayable
import PyProof.ReprReads
import PyProof.NeData
import PyProof.FactsAll.dict_2
import HandS.SetFor
import HandS.Strs
import HandS.TupSets
import HandS.TupMul
import KE.DataMinMax
import HandS.EndTab
import PySem.Challenge.RW_deepenough_k10_procedures_by_form
import KE.KLam
set_option Elab.async false
set_option linter.all false
set_option maxRecDepth 100000
/-! Data in place of addresses: an expression of the program is a plain function of the frame's data and of a store of the things that change. -/
namespace DL
open PySem L2

/-- data: what never changes stands as a tree, what may change by the number of its cell -/
inductive D where
  | non | bl (b : Bool) | int (i : Int) | str (s : Str) | ty (n : String) | h (k : Nat)
  | lst (xs : List D) | rl (xs : List D) | tup (xs : List D) | dct (kvs : List (Key × D))
  /-- an exception of the program's class of this name, with or without a field -/
  | exc (n : Str) | exf (n f : Str) (x : D)
  /-- a class of the program, by its name -/
  | cls (n : Str)

/-- what may change -/
inductive Cell where
  | lst (xs : List D) | obj (n : Str) (fs : List (Str × D))
  /-- the table of the code objects that the def x makes; they bear the name q -/
  | tab (x q : Str)

/-- the frame's names and the cells -/
structure Sg where
  ρ : List (Option D)
  μ : List Cell

/-- the cells' addresses; what no data may lie at -/
structure Ar where
  c : List Addr
  b : List Addr
def Ar.Out (as : Ar) (a : Addr) : Prop := a ∉ as.c ∧ a ∉ as.b

section
variable (K : PySem.W.Frag)
/-- a list of the written part, or one that is tracked: the last never at an address of a cell -/
def TrL (as : Ar) (H : Hp) (a : Addr) (vs : List V) : Prop := (Rd H a (.lst vs) ∧ as.Out a) ∨ ∀ H' : Hp, SqL K H' a vs
def TrT (as : Ar) (H : Hp) (a : Addr) (vs : List V) : Prop := (Rd H a (.tup vs) ∧ as.Out a) ∨ ∀ H' : Hp, SqT K H' a vs
theorem TrL.sq {K : PySem.W.Frag} {as : Ar} {H : Hp} {a : Addr} {vs : List V} (h : TrL K as H a vs) : SqL K H a vs := h.elim (fun z => .inl z.1) fun z => z H
theorem TrT.sq {K : PySem.W.Frag} {as : Ar} {H : Hp} {a : Addr} {vs : List V} (h : TrT K as H a vs) : SqT K H a vs := h.elim (fun z => .inl z.1) fun z => z H

mutual
inductive Rep (as : Ar) (H : Hp) : V → D → Prop
  | non : Rep as H .non .non
  | bl (b : Bool) : Rep as H (.bl b) (.bl b)
  | int (i : Int) : Rep as H (.int i) (.int i)
  | str (s : Str) : Rep as H (.str s) (.str s)
  | ty (n : String) : Rep as H (.ty n) (.ty n)
  | h {k : Nat} {a : Addr} : as.c[k]? = some a → Rep as H (.ref a) (.h k)
  | lst {a : Addr} {vs : List V} {ds : List D} : H a = some (.lst vs) → as.Out a → Reps as H vs ds → Rep as H (.ref a) (.lst ds)
  | rl {a : Addr} {vs : List V} {ds : List D} : TrL K as H a vs → Reps as H vs ds → Rep as H (.ref a) (.rl ds)
  | tup {a : Addr} {vs : List V} {ds : List D} : TrT K as H a vs → Reps as H vs ds → Rep as H (.ref a) (.tup ds)
  | dct {a : Addr} {kvs : List (Key × V)} {ds : List (Key × D)} : H a = some (.dK kvs) → as.Out a → kvs.map (·.1) = ds.map (·.1) → Reps as H (kvs.map (·.2)) (ds.map (·.2)) → Rep as H (.ref a) (.dct ds)
  | exc {a C : Addr} {n : Str} : PySem.W.nsIn K mainGlobals n = some (some (.ref C)) → H a = some (ExO (.ref C) a) → as.Out a → Rep as H (.ref a) (.exc n)
  | exf {a C dx : Addr} {n f : Str} {v : V} {x : D} : PySem.W.nsIn K mainGlobals n = some (some (.ref C)) → H a = some (exo a C (some dx)) → as.Out a → H dx = some (exd dx [(f, v)]) → as.Out dx → Rep as H v x → Rep as H (.ref a) (.exf n f x)
  | cls {C : Addr} {n : Str} : PySem.W.nsIn K mainGlobals n = some (some (.ref C)) → Rep as H (.ref C) (.cls n)
inductive Reps (as : Ar) (H : Hp) : List V → List D → Prop
  | nil : Reps as H [] []
  | cons {v : V} {vs : List V} {d : D} {ds : List D} : Rep as H v d → Reps as H vs ds → Reps as H (v :: vs) (d :: ds)
end

/-- from one time to a later one: cells may be more, what is no cell stands -/
structure Ext (as : Ar) (H : Hp) (as' : Ar) (H' : Hp) : Prop where
  pre : ∃ more, as'.c = as.c ++ more ∧ ∀ a ∈ more, H a = none
  blk : ∃ nb, as'.b = nb ++ as.b ∧ ∀ a ∈ nb, H a = none
  old : ∀ a o, a ∉ as.c → H a = some o → H' a = some o
  cel : ∀ a ∈ as.c, H a ≠ none → H' a ≠ none

def CellR (as : Ar) (H : Hp) (a : Addr) : Cell → Prop
  | .lst ds => ∃ vs, H a = some (.lst vs) ∧ Reps K as H vs ds
  | .obj n fs => ∃ C dx fv, PySem.W.nsIn K mainGlobals n = some (some (.ref C)) ∧ H a = some (.ins C dx fv) ∧ fv.map (·.1) = fs.map (·.1) ∧ Reps K as H (fv.map (·.2)) (fs.map (·.2))
  | .tab x q => ∃ c ps, PySem.W.tabIn K x = some (c, a) ∧ H a = some (.tbl ps) ∧ TriplesOk ps.toList ∧ ∀ (pos : Pos) (cv : Value), codeAmong pos ps.toList = some cv → ∃ e, cv = .ref e ∧ H e = some (LamX.CodeO e q) ∧ e ∉ as.c

structure StoR (as : Ar) (H : Hp) (μ : List Cell) : Prop where
  len : as.c.length = μ.length
  at_ : ∀ (k : Nat) (a : Addr) (c : Cell), as.c[k]? = some a → μ[k]? = some c → CellR K as H a c
  nd : as.c.Nodup
  bl : ∀ a ∈ as.b, H a ≠ none

def EnvR (as : Ar) (H : Hp) (σ : St) (ρ : List (Option D)) : Prop :=
  σ.length = ρ.length ∧ ∀ (i : Nat) (d : D), ρ[i]? = some (some d) → ∃ v, σ[i]? = some (some v) ∧ Rep K as H v d

structure ER (as : Ar) (σ : St) (H : Hp) (S : Sg) : Prop where
  env : EnvR K as H σ S.ρ
  sto : StoR K as H S.μ
end

section
variable {K : PySem.W.Frag} {as as' as'' : Ar} {H H' H'' : Hp} {σ : St} {S : Sg} {v : V} {d : D} {vs : List V} {ds : List D} {μ μ' : List Cell} {ρ : List (Option D)}

theorem Rd.mv {a : Addr} {u : HO} (h : Rd H a u) (n : as.Out a) (E : Ext as H as' H') : Rd H' a u ∧ as'.Out a := by
  have ne : H a ≠ none := by rcases h with h | ⟨o, h⟩ <;> rw [h] <;> simp
  refine ⟨?_, ?_⟩
  · rcases h with h | ⟨o, h⟩
    · exact .inl (E.old a _ n.1 h)
    · exact .inr ⟨o, E.old a _ n.1 h⟩
  · obtain ⟨more, e, f⟩ := E.pre
    obtain ⟨nb, e', f'⟩ := E.blk
    refine ⟨?_, ?_⟩
    · rw [e, List.mem_append]
      rintro (z | z)
      · exact n.1 z
      · exact ne (f a z)
    · rw [e', List.mem_append]
      rintro (z | z)
      · exact ne (f' a z)
      · exact n.2 z
theorem at_mv {a : Addr} {u : HO} (h : H a = some u) (n : as.Out a) (E : Ext as H as' H') : H' a = some u ∧ as'.Out a :=
  ⟨E.old a u n.1 h, (Rd.mv (.inl h) n E).2⟩
theorem TrL.mv {a : Addr} (h : TrL K as H a vs) (E : Ext as H as' H') : TrL K as' H' a vs := h.elim (fun z => .inl (Rd.mv z.1 z.2 E)) .inr
theorem TrT.mv {a : Addr} (h : TrT K as H a vs) (E : Ext as H as' H') : TrT K as' H' a vs := h.elim (fun z => .inl (Rd.mv z.1 z.2 E)) .inr
mutual
theorem Rep.mv (E : Ext as H as' H') : ∀ {v : V} {d : D}, Rep K as H v d → Rep K as' H' v d
  | _, _, .non => .non
  | _, _, .bl b => .bl b
  | _, _, .int i => .int i
  | _, _, .str s => .str s
  | _, _, .ty n => .ty n
  | _, _, .h e => by
    obtain ⟨more, q, _⟩ := E.pre
    refine .h ?_
    rw [q, List.getElem?_append_left (List.getElem?_eq_some_iff.mp e).1]
    exact e
  | _, _, .lst t n r => let q := at_mv t n E; .lst q.1 q.2 (Reps.mv E r)
  | _, _, .rl t r => .rl (t.mv E) (Reps.mv E r)
  | _, _, .tup t r => .tup (t.mv E) (Reps.mv E r)
  | _, _, .dct t n e r => let q := at_mv t n E; .dct q.1 q.2 e (Reps.mv E r)
  | _, _, .exc e t n => let q := at_mv t n E; .exc e q.1 q.2
  | _, _, .exf e t n t2 n2 r => let q := at_mv t n E; let q2 := at_mv t2 n2 E; .exf e q.1 q.2 q2.1 q2.2 (Rep.mv E r)
  | _, _, .cls e => .cls e
theorem Reps.mv (E : Ext as H as' H') : ∀ {vs : List V} {ds : List D}, Reps K as H vs ds → Reps K as' H' vs ds
  | _, _, .nil => .nil
  | _, _, .cons h t => .cons (Rep.mv E h) (Reps.mv E t)
end
theorem Ext.refl : Ext as H as H := ⟨⟨[], by simp, by simp⟩, ⟨[], by simp, by simp⟩, fun _ _ _ h => h, fun _ _ h => h⟩
theorem Ext.trans (E : Ext as H as' H') (E' : Ext as' H' as'' H'') (tr : ∀ a, a ∈ as.c → H a ≠ none) : Ext as H as'' H'' := by
  obtain ⟨m1, e1, f1⟩ := E.pre
  obtain ⟨m2, e2, f2⟩ := E'.pre
  obtain ⟨n1, b1, g1⟩ := E.blk
  obtain ⟨n2, b2, g2⟩ := E'.blk
  have back : ∀ a, H' a = none → H a = none := fun a q => by
    by_cases hn : H a = none
    · exact hn
    · exfalso
      by_cases ha : a ∈ as.c
      · exact E.cel a ha hn q
      · cases e : H a with
        | none => exact hn e
        | some o => rw [E.old a o ha e] at q; cases q
  refine ⟨⟨m1 ++ m2, by rw [e2, e1, List.append_assoc], fun a ha => ?_⟩, ⟨n2 ++ n1, by rw [b2, b1, List.append_assoc], fun a ha => (List.mem_append.mp ha).elim (fun z => back a (g2 a z)) (g1 a)⟩, fun a o n h => ?_, fun a ha h => ?_⟩
  · rcases List.mem_append.mp ha with z | z
    · exact f1 a z
    · exact back a (f2 a z)
  · have q := E.old a o n h
    refine E'.old a o ?_ q
    rw [e1, List.mem_append]
    rintro (z | z)
    · exact n z
    · rw [f1 a z] at h; cases h
  · exact E'.cel a (by rw [e1]; exact List.mem_append_left _ ha) (E.cel a ha h)
theorem StoR.trk (h : StoR K as H μ) : ∀ a ∈ as.c, H a ≠ none := by
  intro a ha
  obtain ⟨k, e⟩ := List.mem_iff_getElem?.mp ha
  have hk : k < μ.length := by rw [← h.len]; exact (List.getElem?_eq_some_iff.mp e).1
  have q := h.at_ k a _ e (List.getElem?_eq_getElem hk)
  cases c : μ[k] with
  | lst ds =>
    rw [c] at q
    obtain ⟨vs, z, _⟩ := q
    rw [z]; simp
  | obj n fs =>
    rw [c] at q
    obtain ⟨_, _, _, _, z, _⟩ := q
    rw [z]; simp
  | tab x n =>
    rw [c] at q
    obtain ⟨_, _, _, z, _⟩ := q
    rw [z]; simp
theorem StoR.out {p : Addr} (h : StoR K as H μ) (hp : H p = none) : as.Out p := ⟨fun z => h.trk p z hp, fun z => h.bl p z hp⟩
theorem EnvR.mv (h : EnvR K as H σ ρ) (E : Ext as H as' H') : EnvR K as' H' σ ρ := ⟨h.1, fun i d e => let ⟨v, a, b⟩ := h.2 i d e; ⟨v, a, b.mv E⟩⟩
/-- a new thing that is no cell -/
theorem Ext.new {p : Addr} {o : HO} (hp : H p = none) (n : as.Out p) : Ext as H as (upd H p o) :=
  ⟨⟨[], by simp, by simp⟩, ⟨[], by simp, by simp⟩, fun a u _ h => by rw [upd_ne (ne_of_none h hp)]; exact h, fun a ha _ => by
    by_cases e : a = p
    · exact absurd (e ▸ ha) n.1
    · rw [upd_ne e]; assumption⟩
theorem CellR.mv {a : Addr} {c : Cell} (h : CellR K as H a c) (E : Ext as H as' H') (e : H' a = H a) : CellR K as' H' a c := by
  cases c with
  | lst ds => obtain ⟨vs, q, r⟩ := h; exact ⟨vs, e.trans q, r.mv E⟩
  | obj n fs => obtain ⟨C, dx, fv, hn, q, l, r⟩ := h; exact ⟨C, dx, fv, hn, e.trans q, l, r.mv E⟩
  | tab x n =>
    obtain ⟨c, ps, ht, q, tr, l⟩ := h
    refine ⟨c, ps, ht, e.trans q, tr, fun pos cv z => ?_⟩
    obtain ⟨e1, e2, e3, e4⟩ := l pos cv z
    refine ⟨e1, e2, E.old _ _ e4 e3, fun w => ?_⟩
    obtain ⟨more, m1, m2⟩ := E.pre
    rw [m1, List.mem_append] at w
    rcases w with w | w
    · exact e4 w
    · rw [m2 _ w] at e3; cases e3
/-- the cells stand where nothing was stored into them -/
theorem StoR.keep (h : StoR K as H μ) (E : Ext as H as H') (e : ∀ a ∈ as.c, H' a = H a) : StoR K as H' μ :=
  ⟨h.len, fun k a c q r => (h.at_ k a c q r).mv E (e a (List.mem_of_getElem? q)), h.nd, fun a ha => by
    by_cases hc : a ∈ as.c
    · exact E.cel a hc (h.bl a ha)
    · have q := h.bl a ha
      cases z : H a with
      | none => exact absurd z q
      | some o => rw [E.old a o hc z]; simp⟩
theorem StoR.new {p : Addr} {o : HO} (h : StoR K as H μ) (hp : H p = none) : StoR K as (upd H p o) μ :=
  h.keep (Ext.new hp (h.out hp)) fun a ha => upd_ne fun e => (h.out hp).1 (e ▸ ha)
theorem ER.mvE (h : ER K as σ H S) (E : Ext as H as' H') {μ' : List Cell} (s : StoR K as' H' μ') : ER K as' σ H' { S with μ := μ' } := ⟨h.env.mv E, s⟩
theorem Reps.length : ∀ {vs : List V} {ds : List D}, Reps K as H vs ds → vs.length = ds.length
  | _, _, .nil => rfl
  | _, _, .cons _ t => by rw [List.length_cons, List.length_cons, Reps.length t]
theorem Reps.get : ∀ {vs : List V} {ds : List D} {i : Nat} {d : D}, Reps K as H vs ds → ds[i]? = some d → ∃ v, vs[i]? = some v ∧ Rep K as H v d
  | _, _, _, _, .nil, e => by simp at e
  | _, _, 0, _, .cons h _, e => by simp at e; subst e; exact ⟨_, rfl, h⟩
  | _, _, i + 1, d, .cons _ t, e => by
    obtain ⟨v, a, b⟩ := Reps.get (i := i) t (by simpa using e)
    exact ⟨v, by simpa using a, b⟩
theorem Reps.getV : ∀ {vs : List V} {ds : List D} {i : Nat} {v : V}, Reps K as H vs ds → vs[i]? = some v → ∃ d, ds[i]? = some d ∧ Rep K as H v d
  | _, _, _, _, .nil, e => by simp at e
  | _, _, 0, _, .cons h _, e => by simp at e; subst e; exact ⟨_, rfl, h⟩
  | _, _, i + 1, d, .cons _ t, e => by
    obtain ⟨v, a, b⟩ := Reps.getV (i := i) t (by simpa using e)
    exact ⟨v, by simpa using a, b⟩
theorem Reps.append : ∀ {vs ws : List V} {ds es : List D}, Reps K as H vs ds → Reps K as H ws es → Reps K as H (vs ++ ws) (ds ++ es)
  | _, _, _, _, .nil, s => s
  | _, _, _, _, .cons h t, s => .cons h (Reps.append t s)
theorem Reps.snoc (h : Reps K as H vs ds) (r : Rep K as H v d) : Reps K as H (vs ++ [v]) (ds ++ [d]) := h.append (.cons r .nil)
theorem Reps.set : ∀ {vs : List V} {ds : List D} {v : V} {d : D} (i : Nat), Reps K as H vs ds → Rep K as H v d → Reps K as H (vs.set i v) (ds.set i d)
  | _, _, _, _, _, .nil, _ => .nil
  | _, _, _, _, 0, .cons _ t, r => .cons r t
  | _, _, _, _, i + 1, .cons h t, r => .cons h (Reps.set i t r)
theorem Reps.take : ∀ {vs : List V} {ds : List D} (n : Nat), Reps K as H vs ds → Reps K as H (vs.take n) (ds.take n)
  | _, _, 0, _ => .nil
  | _, _, n + 1, .nil => .nil
  | _, _, n + 1, .cons h t => .cons h (Reps.take n t)
theorem Reps.drop : ∀ {vs : List V} {ds : List D} (n : Nat), Reps K as H vs ds → Reps K as H (vs.drop n) (ds.drop n)
  | _, _, 0, r => r
  | _, _, n + 1, .nil => .nil
  | _, _, n + 1, .cons _ t => Reps.drop n t
theorem Reps.ints : ∀ {ns : List Int}, Reps K as H (ns.map V.int) (ns.map D.int)
  | [] => .nil
  | _ :: _ => .cons (.int _) Reps.ints

/-! ### the judgements -/
abbrev EvE := Sg → Option (D × List Cell)
abbrev EvT := Sg → Option (Bool × List Cell)
abbrev EvA := Sg → Option (List D × List Cell)
/-- how a statement ends; what an expression gives: data, or an exception of the class of this name, with what it keeps -/
inductive Fl where
  | nx | rt (d : D) | bk | ct | ex (n : Str) (x : Option D)
inductive Ov where
  | v (d : D) | x (n : Str) (p : Option D)
abbrev EvX := Sg → Option (Ov × List Cell)
abbrev EvS := Sg → Option (Fl × Sg)

variable (K) in
def tF (f : EvE) : TE := fun σ H Q => ∃ as S d μ', ER K as σ H S ∧ f S = some (d, μ') ∧ ∀ v as' H', Ext as H as' H' → Rep K as' H' v d → StoR K as' H' μ' → Q v H'
variable (K) in
def tFT (f : EvT) : TT := fun σ H Q => ∃ as S b μ', ER K as σ H S ∧ f S = some (b, μ') ∧ ∀ as' H', Ext as H as' H' → StoR K as' H' μ' → Q b H'
variable (K) in
def tFA (f : EvA) : TA := fun σ H Q => ∃ as S ds μ', ER K as σ H S ∧ f S = some (ds, μ') ∧ ∀ vs as' H', Ext as H as' H' → Reps K as' H' vs ds → StoR K as' H' μ' → Q vs H'
/-- what an exception keeps -/
def XR (d : Option Addr) : Option D → Prop
  | none => d = none
  | some _ => False
variable (K) in
/-- .. where an exception may come out -/
def tFX (mg : Str → Option Value) (W : WX) (f : EvX) : TE := fun σ H Q => ∃ as S o μ', ER K as σ H S ∧ f S = some (o, μ') ∧ (match o with
  | .v d => ∀ v as' H', Ext as H as' H' → Rep K as' H' v d → StoR K as' H' μ' → Q v H'
  | .x n p => ∀ as' H' C dx, Ext as H as' H' → StoR K as' H' μ' → mg n = some C → XR dx p → W C dx σ H')
variable (K) in
def endS (mg : Str → Option Value) (W : WX) (as : Ar) (H : Hp) (E : Ends) : Fl → Sg → Prop
  | .nx, S' => ∀ as' σ' H', Ext as H as' H' → ER K as' σ' H' S' → E.nx σ' H'
  | .bk, S' => ∀ as' σ' H', Ext as H as' H' → ER K as' σ' H' S' → E.bk σ' H'
  | .ct, S' => ∀ as' σ' H', Ext as H as' H' → ER K as' σ' H' S' → E.ct σ' H'
  | .rt d, S' => ∀ as' v H', Ext as H as' H' → Rep K as' H' v d → StoR K as' H' S'.μ → E.rt v H'
  | .ex n p, S' => ∀ as' σ' H' C dx, Ext as H as' H' → ER K as' σ' H' S' → mg n = some C → XR dx p → W C dx σ' H'
variable (K) in
def tFS (mg : Str → Option Value) (W : WX) (g : EvS) : TS := fun E σ H => ∃ as S fl S', ER K as σ H S ∧ g S = some (fl, S') ∧ endS K mg W as H E fl S'

end
theorem _root_.L2.PE.imp {X : Cx} {e : Expr} {t t' : TE} (h : PE X e t) (q : ∀ σ H Q, t' σ H Q → t σ H Q) : PE X e t' := ⟨fun pins s σ H Q I z => h.run pins s σ H Q I (q σ H Q z)⟩
theorem _root_.L2.PT.imp {X : Cx} {e : Expr} {t t' : TT} (h : PT X e t) (q : ∀ σ H Q, t' σ H Q → t σ H Q) : PT X e t' := ⟨fun pins s σ H Q I z => h.run pins s σ H Q I (q σ H Q z)⟩
theorem _root_.L2.PA.imp {X : Cx} {e : List Expr} {t t' : TA} (h : PA X e t) (q : ∀ σ H Q, t' σ H Q → t σ H Q) : PA X e t' := ⟨fun pos pins s σ H Q I z => h.run pos pins s σ H Q I (q σ H Q z)⟩
theorem _root_.L2.PS.imp {X : Cx} {e : Stmt} {t t' : TS} (h : PS X e t) (q : ∀ D σ H, t' D σ H → t D σ H) : PS X e t' := ⟨fun pins s σ H D I z => h.run pins s σ H D I (q D σ H z)⟩
theorem _root_.L2.PSs.imp {X : Cx} {e : List Stmt} {t t' : TS} (h : PSs X e t) (q : ∀ D σ H, t' D σ H → t D σ H) : PSs X e t' := ⟨fun pins s σ H D I z => h.run pins s σ H D I (q D σ H z)⟩
end DL
namespace DL
open PySem L2
/-! ### names, constants -/
def fV (i : Nat) : EvE := fun S => match S.ρ[i]? with
  | some (some d) => some (d, S.μ)
  | _ => none
def fC (d : D) : EvE := fun S => some (d, S.μ)
/-- two in a row -/
def fB (g : D → D → List Cell → Option D) (fa fb : EvE) : EvE := fun S => match fa S with
  | some (x, μ1) => match fb { S with μ := μ1 } with
    | some (y, μ2) => match g x y μ2 with
      | some z => some (z, μ2)
      | none => none
    | none => none
  | none => none
def fU (g : D → List Cell → Option D) (fa : EvE) : EvE := fun S => match fa S with
  | some (x, μ1) => match g x μ1 with
    | some z => some (z, μ1)
    | none => none
  | none => none
section
variable {X : Cx} {σ : St} {H : Hp} {Q : VK} {as : Ar}
theorem tF_c {K : PySem.W.Frag} {v : V} {d : D} (r : ∀ as H, Rep K as H v d) : ∀ σ H Q, tF K (fC d) σ H Q → tC v σ H Q := fun σ H Q ⟨as, S, d', μ', E, e, q⟩ => by
  have e' : (d, S.μ) = (d', μ') := Option.some.inj e
  injection e' with e1 e2
  subst e1 e2
  exact q v as H .refl (r _ _) E.sto
theorem de_int {i j pos} : PE X (.Constant (.int i) j pos) (tF X.K (fC (.int i))) := pe_int.imp (tF_c fun _ _ => .int i)
theorem de_bl {b j pos} : PE X (.Constant (.bool b) j pos) (tF X.K (fC (.bl b))) := pe_bl.imp (tF_c fun _ _ => .bl b)
theorem de_non {j pos} : PE X (.Constant .none j pos) (tF X.K (fC .non)) := pe_non.imp (tF_c fun _ _ => .non)
theorem de_str {x j pos} : PE X (.Constant (.str x) j pos) (tF X.K (fC (.str x))) := pe_str.imp (tF_c fun _ _ => .str x)
theorem de_var (i : Nat) {x : Str} {pos : Pos} (hN : X.N[i]? = some x := by rfl) (hv : Vis X.env.scope x := by first | exact Or.inl rfl | exact Or.inr (Or.inl rfl) | exact Or.inr (Or.inr rfl))
    (hd : (x == ("__debug__" : Str)) = false := by decide) (hcd : (x == ("__classdict__" : Str)) = false := by decide) : PE X (.Name x pos) (tF X.K (fV i)) := by
  refine (pe_var hN hv hd hcd).imp fun σ H Q ⟨as, S, d, μ', E, e, q⟩ => ?_
  unfold fV at e
  split at e
  · rename_i d' he
    injection e with e
    injection e with e1 e2
    subst e1 e2
    obtain ⟨v, a, r⟩ := E.env.2 i _ he
    exact ⟨v, a, q v as H .refl r E.sto⟩
  · cases e
/-- a name of the module that holds a constant -/
theorem de_gint {i : Int} {x : Str} {pos : Pos} (hg : Gl X x) (hm : ∃ t, X.mg x = some (.int i t)) (hdb : (x == ("__debug__" : Str)) = false := by decide) : PE X (.Name x pos) (tF X.K (fC (.int i))) := by
  obtain ⟨t, hm⟩ := hm
  exact (pe_glob (v := .int i) hg hm ⟨t, rfl⟩ (hd := hdb)).imp (tF_c fun _ _ => .int i)
theorem de_gty {T : String} {x : Str} {pos : Pos} (hg : Gl X x) (hm : X.mg x = none) (hv : bootBuiltins x = some (.type T)) (hn : x ≠ "__name__" := by decide) (hdb : (x == ("__debug__" : Str)) = false := by decide) : PE X (.Name x pos) (tF X.K (fC (.ty T))) :=
  (pe_bltn (v := .ty T) hg hm hv rfl (hn := hn) (hd := hdb)).imp (tF_c fun _ _ => .ty T)

/-! ### operators -/
def rD (K : PySem.W.Frag) (g : D → D → List Cell → Option D) : R2 := fun x y H Q => ∃ as d e μ z, Rep K as H x d ∧ Rep K as H y e ∧ StoR K as H μ ∧ g d e μ = some z ∧
  ∀ v H', Ext as H as H' → Rep K as H' v z → StoR K as H' μ → Q v H'
def rU1 (K : PySem.W.Frag) (g : D → List Cell → Option D) : V → Hp → VK → Prop := fun x H Q => ∃ as d μ z, Rep K as H x d ∧ StoR K as H μ ∧ g d μ = some z ∧
  ∀ v H', Ext as H as H' → Rep K as H' v z → StoR K as H' μ → Q v H'
theorem tF_b {K : PySem.W.Frag} {g : D → D → List Cell → Option D} {fa fb : EvE} : ∀ σ H Q, tF K (fB g fa fb) σ H Q → tOp (rD K g) (tF K fa) (tF K fb) σ H Q := fun σ H Q ⟨as, S, d', μ', E, e, q⟩ => by
  unfold fB at e
  split at e
  · rename_i x μ1 ea
    split at e
    · rename_i y μ2 eb
      split at e
      · rename_i z ez
        injection e with e
        injection e with e1 e2
        subst e1 e2
        refine ⟨as, S, x, μ1, E, ea, fun v as1 H1 X1 r1 s1 => ⟨as1, _, y, μ2, E.mvE X1 s1, eb, fun u as2 H2 X2 r2 s2 => ⟨as2, x, y, μ2, z, r1.mv X2, r2, s2, ez, fun w H3 X3 r3 s3 => ?_⟩⟩⟩
        exact q w as2 H3 ((X1.trans X2 E.sto.trk).trans X3 E.sto.trk) r3 s3
      · cases e
    · cases e
  · cases e
theorem tF_u {K : PySem.W.Frag} {g : D → List Cell → Option D} {fa : EvE} : ∀ σ H Q, tF K (fU g fa) σ H Q → tUn (rU1 K g) (tF K fa) σ H Q := fun σ H Q ⟨as, S, d', μ', E, e, q⟩ => by
  unfold fU at e
  split at e
  · rename_i x μ1 ea
    split at e
    · rename_i z ez
      injection e with e
      injection e with e1 e2
      subst e1 e2
      exact ⟨as, S, x, μ1, E, ea, fun v as1 H1 X1 r1 s1 => ⟨as1, x, μ1, z, r1, s1, ez, fun w H3 X3 r3 s3 => q w as1 H3 (X1.trans X3 E.sto.trk) r3 s3⟩⟩
    · cases e
  · cases e
variable {a b c : Expr} {fa fb fc : EvE} {pos : Pos}
theorem de_bin {op : Operator} {g : D → D → List Cell → Option D} (ho : OpR X (binaryOp op) (rD X.K g)) (ha : PE X a (tF X.K fa)) (hb : PE X b (tF X.K fb)) : PE X (.BinOp a op b pos) (tF X.K (fB g fa fb)) :=
  (pe_op ho ha hb).imp tF_b
theorem de_cmp {op : CmpOp} {g : D → D → List Cell → Option D} (ho : OpR X (compareOp op) (rD X.K g)) (ha : PE X a (tF X.K fa)) (hb : PE X b (tF X.K fb)) (hm : behindInMarks op b = false) : PE X (.Compare a [op] [b] pos) (tF X.K (fB g fa fb)) :=
  (pe_cmpR ho ha hb hm).imp tF_b
theorem de_un {op : UnaryOp} {g : D → List Cell → Option D} (ho : UnR X (unaryOp op) (rU1 X.K g)) (ha : PE X a (tF X.K fa)) : PE X (.UnaryOp op a pos) (tF X.K (fU g fa)) :=
  (pe_un ho ha).imp tF_u
theorem de_ix {g : D → D → List Cell → Option D} (ho : IxR X (rD X.K g)) (ha : PE X a (tF X.K fa)) (hb : PE X b (tF X.K fb)) (hs : PlainIx b := by exact fun _ _ => rfl) : PE X (.Subscript a b pos) (tF X.K (fB g fa fb)) :=
  (pe_ix ho ha hb hs).imp tF_b
/-- a < b < c: the third only where the first comparison holds -/
def fCh (g g' : D → D → List Cell → Option D) (fa fb fc : EvE) : EvE := fun S => match fa S with
  | some (x, μ1) => match fb { S with μ := μ1 } with
    | some (y, μ2) => match g x y μ2 with
      | some (.bl true) => match fc { S with μ := μ2 } with
        | some (w, μ3) => match g' y w μ3 with
          | some z => some (z, μ3)
          | none => none
        | none => none
      | some (.bl false) => some (.bl false, μ2)
      | _ => none
    | none => none
  | none => none
theorem tF_ch {K : PySem.W.Frag} {g g' : D → D → List Cell → Option D} : ∀ σ H Q, tF K (fCh g g' fa fb fc) σ H Q → tChain (rD K g) (rD K g') (tF K fa) (tF K fb) (tF K fc) σ H Q := fun σ H Q ⟨as, S, d', μ', E, e, q⟩ => by
  unfold fCh at e
  split at e
  · rename_i x μ1 ea
    split at e
    · rename_i y μ2 eb
      split at e
      · rename_i ez
        split at e
        · rename_i w μ3 ec
          split at e
          · rename_i z ew
            injection e with e
            injection e with e1 e2
            subst e1 e2
            refine ⟨as, S, x, μ1, E, ea, fun v as1 H1 X1 r1 s1 => ⟨as1, _, y, μ2, E.mvE X1 s1, eb, fun u as2 H2 X2 r2 s2 => ⟨as2, x, y, μ2, .bl true, r1.mv X2, r2, s2, ez, fun k H3 X3 r3 s3 => ?_⟩⟩⟩
            have X13 := X1.trans (X2.trans X3 s1.trk) E.sto.trk
            cases r3
            refine ⟨true, rfl, ?_⟩
            rw [if_pos rfl]
            refine ⟨as2, _, w, μ3, E.mvE X13 s3, ec, fun t as4 H4 X4 r4 s4 => ⟨as4, y, w, μ3, z, (r2.mv X3).mv X4, r4, s4, ew, fun k5 H5 X5 r5 s5 => ?_⟩⟩
            exact q k5 as4 H5 ((X13.trans X4 E.sto.trk).trans X5 E.sto.trk) r5 s5
          · cases e
        · cases e
      · rename_i ez
        injection e with e
        injection e with e1 e2
        subst e1 e2
        refine ⟨as, S, x, μ1, E, ea, fun v as1 H1 X1 r1 s1 => ⟨as1, _, y, μ2, E.mvE X1 s1, eb, fun u as2 H2 X2 r2 s2 => ⟨as2, x, y, μ2, .bl false, r1.mv X2, r2, s2, ez, fun k H3 X3 r3 s3 => ?_⟩⟩⟩
        have X13 := X1.trans (X2.trans X3 s1.trk) E.sto.trk
        cases r3
        refine ⟨false, rfl, ?_⟩
        rw [if_neg Bool.false_ne_true]
        exact q _ as2 H3 X13 (.bl false) s3
      · cases e
    · cases e
  · cases e
theorem de_chain {op op' : CmpOp} {g g' : D → D → List Cell → Option D} (ho : OpR X (compareOp op) (rD X.K g)) (ho' : OpR X (compareOp op') (rD X.K g')) (ha : PE X a (tF X.K fa)) (hb : PE X b (tF X.K fb)) (hc : PE X c (tF X.K fc)) (hm : lastMarks [op, op'] [b, c] = false := by rfl) :
    PE X (.Compare a [op, op'] [b, c] pos) (tF X.K (fCh g g' fa fb fc)) := (pe_chain ho ho' ha hb hc (hm := hm)).imp tF_ch

/-! ### truth -/
def dTru : D → List Cell → Option Bool
  | .non, _ => some false
  | .bl b, _ => some b
  | .int i, _ => some (i != 0)
  | .str y, _ => if y.length ≤ sizeLine then some ((y.length : Int) != 0) else none
  | .lst xs, _ | .rl xs, _ | .tup xs, _ => some (!xs.isEmpty)
  | .dct kvs, _ => some (!kvs.isEmpty)
  | .h k, μ => match μ[k]? with
    | some (.lst xs) => some (!xs.isEmpty)
    | _ => none
  | .ty _, _ | .exc _, _ | .exf _ _ _, _ | .cls _, _ => none
theorem Reps.isEmpty {K : PySem.W.Frag} {vs : List V} {ds : List D} (h : Reps K as H vs ds) : vs.isEmpty = ds.isEmpty := by cases h <;> rfl
theorem dTru_ok {K : PySem.W.Frag} {v : V} {d : D} {μ : List Cell} {k : Bool} (r : Rep K as H v d) (s : StoR K as H μ) (e : dTru d μ = some k) : TruV K v H k := by
  cases r with
  | non => exact (Option.some.inj e).symm
  | bl b => exact (Option.some.inj e).symm
  | int i => exact (Option.some.inj e).symm
  | str y =>
    simp only [dTru] at e
    split at e
    · rename_i hl
      exact ⟨hl, (Option.some.inj e).symm⟩
    · cases e
  | ty n => cases e
  | exc _ _ _ => cases e
  | exf _ _ _ _ _ _ => cases e
  | cls _ => cases e
  | @lst a vs ds t n rs => exact .inl ⟨vs, SqL.of t, by rw [rs.isEmpty]; exact (Option.some.inj e).symm⟩
  | @rl a vs ds t rs => exact .inl ⟨vs, t.sq, by rw [rs.isEmpty]; exact (Option.some.inj e).symm⟩
  | @tup a vs ds t rs => exact .inr (.inl ⟨vs, t.sq, by rw [rs.isEmpty]; exact (Option.some.inj e).symm⟩)
  | @dct a kvs ds t n ek rs =>
    refine .inr (.inr ⟨kvs, t, ?_⟩)
    have e' : (!ds.isEmpty) = k := Option.some.inj e
    rw [← e']
    have l : kvs.length = ds.length := by simpa using congrArg List.length ek
    cases kvs <;> cases ds <;> simp_all
  | @h k' a ea =>
    simp only [dTru] at e
    split at e
    · rename_i xs em
      obtain ⟨vs, hv, rs⟩ := s.at_ k' a _ ea em
      exact .inl ⟨vs, SqL.of hv, by rw [rs.isEmpty]; exact (Option.some.inj e).symm⟩
    · cases e
def fTru (fa : EvE) : EvT := fun S => match fa S with
  | some (x, μ1) => match dTru x μ1 with
    | some k => some (k, μ1)
    | none => none
  | none => none
theorem dt_truth (ha : PE X a (tF X.K fa)) (he : ∀ whole, isTrue a X.env whole = (do let v ← whole; standAt a.pos; holding [v] (truthy v)) := by intro _; rfl) : PT X a (tFT X.K (fTru fa)) := by
  refine (pt_truth ha he).imp fun σ H Q ⟨as, S, k, μ', E, e, q⟩ => ?_
  unfold fTru at e
  split at e
  · rename_i x μ1 ea
    split at e
    · rename_i k' ek
      injection e with e
      injection e with e1 e2
      subst e1 e2
      exact ⟨as, S, x, μ1, E, ea, fun v as1 H1 X1 r1 s1 => ⟨k', dTru_ok r1 s1 ek, q as1 H1 X1 s1⟩⟩
    · cases e
  · cases e
/-- a comparison as a test -/
theorem dt_cmp {op : CmpOp} {g : D → D → List Cell → Option D} (ho : OpR X (compareOp op) (rD X.K g)) (ha : PE X a (tF X.K fa)) (hb : PE X b (tF X.K fb)) (hm : behindInMarks op b = false) (hbl : ∀ x y μ z, g x y μ = some z → ∃ k, z = .bl k) :
    PT X (.Compare a [op] [b] pos) (tFT X.K (fTru (fB g fa fb))) := by
  refine (pt_cmpR ho ha hb hm).imp fun σ H Q ⟨as, S, k, μ', E, e, q⟩ => ?_
  unfold fTru at e
  split at e
  · rename_i x μ1 ea
    split at e
    · rename_i k' ek
      injection e with e
      injection e with e1 e2
      subst e1 e2
      obtain ⟨kb, rfl⟩ : ∃ k, x = .bl k := by
        have ea' := ea
        unfold fB at ea'
        split at ea'
        · split at ea'
          · split at ea'
            · rename_i ez
              injection ea' with ea'
              injection ea' with e1 _
              obtain ⟨k, hk⟩ := hbl _ _ _ _ ez
              exact ⟨k, e1 ▸ hk⟩
            · cases ea'
          · cases ea'
        · cases ea'
      have ek' : kb = k' := Option.some.inj ek
      subst ek'
      refine tF_b (K := X.K) σ H _ ⟨as, S, .bl kb, μ1, E, ea, fun v as1 H1 X1 r1 s1 => ?_⟩
      cases r1
      exact ⟨kb, rfl, q as1 H1 X1 s1⟩
    · cases e
  · cases e
theorem dt_chain {op op' : CmpOp} {g g' : D → D → List Cell → Option D} (ho : OpR X (compareOp op) (rD X.K g)) (ho' : OpR X (compareOp op') (rD X.K g')) (ha : PE X a (tF X.K fa)) (hb : PE X b (tF X.K fb)) (hc : PE X c (tF X.K fc))
    (hbl : ∀ x y μ z, g' x y μ = some z → ∃ k, z = .bl k) (hm : lastMarks [op, op'] [b, c] = false := by rfl) : PT X (.Compare a [op, op'] [b, c] pos) (tFT X.K (fTru (fCh g g' fa fb fc))) := by
  refine (pt_chain ho ho' ha hb hc (hm := hm)).imp fun σ H Q ⟨as, S, k, μ', E, e, q⟩ => ?_
  unfold fTru at e
  split at e
  · rename_i x μ1 ea
    split at e
    · rename_i k' ek
      injection e with e
      injection e with e1 e2
      subst e1 e2
      obtain ⟨kb, rfl⟩ : ∃ k, x = .bl k := by
        have ea' := ea
        unfold fCh at ea'
        split at ea'
        · split at ea'
          · split at ea'
            · split at ea'
              · split at ea'
                · rename_i ez
                  injection ea' with ea'
                  injection ea' with e1 _
                  obtain ⟨k, hk⟩ := hbl _ _ _ _ ez
                  exact ⟨k, e1 ▸ hk⟩
                · cases ea'
              · cases ea'
            · injection ea' with ea'
              injection ea' with e1 _
              exact ⟨false, e1.symm⟩
            · cases ea'
          · cases ea'
        · cases ea'
      have ek' : kb = k' := Option.some.inj ek
      subst ek'
      have z := tF_ch (K := X.K) σ H (fun x H' => ∃ k, x = .bl k ∧ Q k H') ⟨as, S, .bl kb, μ1, E, ea, fun v as1 H1 X1 r1 s1 => by cases r1; exact ⟨kb, rfl, q as1 H1 X1 s1⟩⟩
      exact z
    · cases e
  · cases e
def fNot (t : EvT) : EvT := fun S => match t S with
  | some (k, μ1) => some (!k, μ1)
  | none => none
def fAnd (t u : EvT) : EvT := fun S => match t S with
  | some (true, μ1) => u { S with μ := μ1 }
  | some (false, μ1) => some (false, μ1)
  | none => none
def fOr (t u : EvT) : EvT := fun S => match t S with
  | some (true, μ1) => some (true, μ1)
  | some (false, μ1) => u { S with μ := μ1 }
  | none => none
variable {t u : EvT} {rest : List Expr}
theorem dt_not (ha : PT X a (tFT X.K t)) : PT X (.UnaryOp .Not a pos) (tFT X.K (fNot t)) := by
  refine (pt_not ha).imp fun σ H Q ⟨as, S, k, μ', E, e, q⟩ => ?_
  unfold fNot at e
  split at e
  · rename_i k1 μ1 ea
    injection e with e
    injection e with e1 e2
    subst e1 e2
    exact ⟨as, S, k1, μ1, E, ea, fun as1 H1 X1 s1 => q as1 H1 X1 s1⟩
  · cases e
theorem PW.imp {X : Cx} {e : Expr} {t t' : TT} (h : PW X e t) (q : ∀ σ H Q, t' σ H Q → t σ H Q) : PW X e t' := ⟨fun whole pins s σ H Q I z => h.run whole pins s σ H Q I (q σ H Q z)⟩
theorem dw_and1 (ha : PT X a (tFT X.K t)) : PW X (.BoolOp .And [a] pos) (tFT X.K t) := pw_and1 ha
theorem dw_or1 (ha : PT X a (tFT X.K t)) : PW X (.BoolOp .Or [a] pos) (tFT X.K t) := pw_or1 ha
theorem dw_and (ha : PT X a (tFT X.K t)) (hb : PW X (.BoolOp .And (b :: rest) pos) (tFT X.K u)) : PW X (.BoolOp .And (a :: b :: rest) pos) (tFT X.K (fAnd t u)) := by
  refine PW.imp (pw_and ha hb) fun σ H Q ⟨as, S, k, μ', E, e, q⟩ => ?_
  unfold fAnd at e
  split at e
  · rename_i μ1 ea
    exact ⟨as, S, true, μ1, E, ea, fun as1 H1 X1 s1 => iteT ⟨as1, _, k, μ', E.mvE X1 s1, e, fun as2 H2 X2 s2 => q as2 H2 (X1.trans X2 E.sto.trk) s2⟩⟩
  · rename_i μ1 ea
    injection e with e
    injection e with e1 e2
    subst e1 e2
    exact ⟨as, S, false, μ1, E, ea, fun as1 H1 X1 s1 => iteF (q as1 H1 X1 s1)⟩
  · cases e
theorem dw_or (ha : PT X a (tFT X.K t)) (hb : PW X (.BoolOp .Or (b :: rest) pos) (tFT X.K u)) : PW X (.BoolOp .Or (a :: b :: rest) pos) (tFT X.K (fOr t u)) := by
  refine PW.imp (pw_or ha hb) fun σ H Q ⟨as, S, k, μ', E, e, q⟩ => ?_
  unfold fOr at e
  split at e
  · rename_i μ1 ea
    injection e with e
    injection e with e1 e2
    subst e1 e2
    exact ⟨as, S, true, μ1, E, ea, fun as1 H1 X1 s1 => iteT (q as1 H1 X1 s1)⟩
  · rename_i μ1 ea
    exact ⟨as, S, false, μ1, E, ea, fun as1 H1 X1 s1 => iteF ⟨as1, _, k, μ', E.mvE X1 s1, e, fun as2 H2 X2 s2 => q as2 H2 (X1.trans X2 E.sto.trk) s2⟩⟩
  · cases e

/-! ### and, or, not, if as values -/
def fAndV (fa fb : EvE) : EvE := fun S => match fa S with
  | some (x, μ1) => match dTru x μ1 with
    | some true => fb { S with μ := μ1 }
    | some false => some (x, μ1)
    | none => none
  | none => none
def fOrV (fa fb : EvE) : EvE := fun S => match fa S with
  | some (x, μ1) => match dTru x μ1 with
    | some true => some (x, μ1)
    | some false => fb { S with μ := μ1 }
    | none => none
  | none => none
def dNot : D → List Cell → Option D := fun d μ => (dTru d μ).map fun k => .bl (!k)
def fIfE (t : EvT) (fa fb : EvE) : EvE := fun S => match t S with
  | some (true, μ1) => fa { S with μ := μ1 }
  | some (false, μ1) => fb { S with μ := μ1 }
  | none => none
theorem de_one {op} (ha : PE X a (tF X.K fa)) : PE X (.BoolOp op [a] pos) (tF X.K fa) := pe_one ha
theorem de_and (ha : PE X a (tF X.K fa)) (hb : PE X (.BoolOp .And (b :: rest) pos) (tF X.K fb)) : PE X (.BoolOp .And (a :: b :: rest) pos) (tF X.K (fAndV fa fb)) := by
  refine (pe_andT ha hb).imp fun σ H Q ⟨as, S, d, μ', E, e, q⟩ => ?_
  unfold fAndV at e
  split at e
  · rename_i x μ1 ea
    split at e
    · rename_i ek
      exact ⟨as, S, x, μ1, E, ea, fun v as1 H1 X1 r1 s1 => ⟨true, dTru_ok r1 s1 ek, iteT ⟨as1, _, d, μ', E.mvE X1 s1, e, fun w as2 H2 X2 r2 s2 => q w as2 H2 (X1.trans X2 E.sto.trk) r2 s2⟩⟩⟩
    · rename_i ek
      injection e with e
      injection e with e1 e2
      subst e1 e2
      exact ⟨as, S, x, μ1, E, ea, fun v as1 H1 X1 r1 s1 => ⟨false, dTru_ok r1 s1 ek, iteF (q v as1 H1 X1 r1 s1)⟩⟩
    · cases e
  · cases e
theorem de_or (ha : PE X a (tF X.K fa)) (hb : PE X (.BoolOp .Or (b :: rest) pos) (tF X.K fb)) : PE X (.BoolOp .Or (a :: b :: rest) pos) (tF X.K (fOrV fa fb)) := by
  refine (pe_orT ha hb).imp fun σ H Q ⟨as, S, d, μ', E, e, q⟩ => ?_
  unfold fOrV at e
  split at e
  · rename_i x μ1 ea
    split at e
    · rename_i ek
      injection e with e
      injection e with e1 e2
      subst e1 e2
      exact ⟨as, S, x, μ1, E, ea, fun v as1 H1 X1 r1 s1 => ⟨true, dTru_ok r1 s1 ek, iteT (q v as1 H1 X1 r1 s1)⟩⟩
    · rename_i ek
      exact ⟨as, S, x, μ1, E, ea, fun v as1 H1 X1 r1 s1 => ⟨false, dTru_ok r1 s1 ek, iteF ⟨as1, _, d, μ', E.mvE X1 s1, e, fun w as2 H2 X2 r2 s2 => q w as2 H2 (X1.trans X2 E.sto.trk) r2 s2⟩⟩⟩
    · cases e
  · cases e
theorem de_not (ha : PE X a (tF X.K fa)) : PE X (.UnaryOp .Not a pos) (tF X.K (fU dNot fa)) := by
  refine (pe_notT ha).imp fun σ H Q ⟨as, S, d, μ', E, e, q⟩ => ?_
  unfold fU at e
  split at e
  · rename_i x μ1 ea
    split at e
    · rename_i z ez
      injection e with e
      injection e with e1 e2
      subst e1 e2
      obtain ⟨k, ek, rfl⟩ := Option.map_eq_some_iff.mp ez
      exact ⟨as, S, x, μ1, E, ea, fun v as1 H1 X1 r1 s1 => ⟨k, dTru_ok r1 s1 ek, q _ as1 H1 X1 (.bl _) s1⟩⟩
    · cases e
  · cases e
theorem de_ifE (hc : PT X c (tFT X.K t)) (ha : PE X a (tF X.K fa)) (hb : PE X b (tF X.K fb)) : PE X (.IfExp c a b pos) (tF X.K (fIfE t fa fb)) := by
  refine (pe_ifExp hc ha hb).imp fun σ H Q ⟨as, S, d, μ', E, e, q⟩ => ?_
  unfold fIfE at e
  split at e
  · rename_i μ1 ea
    exact ⟨as, S, true, μ1, E, ea, fun as1 H1 X1 s1 => iteT ⟨as1, _, d, μ', E.mvE X1 s1, e, fun w as2 H2 X2 r2 s2 => q w as2 H2 (X1.trans X2 E.sto.trk) r2 s2⟩⟩
  · rename_i μ1 ea
    exact ⟨as, S, false, μ1, E, ea, fun as1 H1 X1 s1 => iteF ⟨as1, _, d, μ', E.mvE X1 s1, e, fun w as2 H2 X2 r2 s2 => q w as2 H2 (X1.trans X2 E.sto.trk) r2 s2⟩⟩
  · cases e

/-! ### lists of expressions, displays, calls of what is built in -/
def fNil : EvA := fun S => some ([], S.μ)
def fCons (fa : EvE) (fr : EvA) : EvA := fun S => match fa S with
  | some (x, μ1) => match fr { S with μ := μ1 } with
    | some (xs, μ2) => some (x :: xs, μ2)
    | none => none
  | none => none
def fApp (g : List D → List Cell → Option D) (fs : EvA) : EvE := fun S => match fs S with
  | some (xs, μ1) => match g xs μ1 with
    | some z => some (z, μ1)
    | none => none
  | none => none
variable {es : List Expr} {fs : EvA}
theorem da_nil : PA X [] (tFA X.K fNil) := pa_nil.imp fun σ H Q ⟨as, S, d, μ', E, e, q⟩ => by
  injection e with e
  injection e with e1 e2
  subst e1 e2
  exact q [] as H .refl .nil E.sto
theorem da_cons (ha : PE X a (tF X.K fa)) (hr : PA X es (tFA X.K fs)) (hs : starEach (a :: es) X.env = (false, eval a X.env) :: starEach es X.env := by rfl) : PA X (a :: es) (tFA X.K (fCons fa fs)) := by
  refine (pa_cons ha hr hs).imp fun σ H Q ⟨as, S, d, μ', E, e, q⟩ => ?_
  unfold fCons at e
  split at e
  · rename_i x μ1 ea
    split at e
    · rename_i xs μ2 eb
      injection e with e
      injection e with e1 e2
      subst e1 e2
      exact ⟨as, S, x, μ1, E, ea, fun v as1 H1 X1 r1 s1 => ⟨as1, _, xs, μ2, E.mvE X1 s1, eb, fun vs as2 H2 X2 r2 s2 => q _ as2 H2 (X1.trans X2 E.sto.trk) (.cons (r1.mv X2) r2) s2⟩⟩
    · cases e
  · cases e
def gLst : List D → List Cell → Option D := fun xs _ => if xs.length ≤ sizeLine then some (.lst xs) else none
def gTup : List D → List Cell → Option D := fun xs _ => if xs.length ≤ sizeLine then some (.tup xs) else none
theorem fApp_out {g : List D → List Cell → Option D} {S : Sg} {d : D} {μ' : List Cell} (e : fApp g fs S = some (d, μ')) : ∃ xs, fs S = some (xs, μ') ∧ g xs μ' = some d := by
  unfold fApp at e
  split at e
  · rename_i xs μ1 ea
    split at e
    · rename_i z ez
      injection e with e
      injection e with e1 e2
      subst e1 e2
      exact ⟨xs, ea, ez⟩
    · cases e
  · cases e
theorem Rep.newL {K : PySem.W.Frag} {p : Addr} {vs : List V} {ds : List D} {μ : List Cell} (s : StoR K as H μ) (hp : H p = none) (r : Reps K as H vs ds) : Rep K as (upd H p (.lst vs)) (.ref p) (.lst ds) :=
  .lst upd_same (s.out hp) (r.mv (Ext.new hp (s.out hp)))
theorem Rep.newT {K : PySem.W.Frag} {p : Addr} {vs : List V} {ds : List D} {μ : List Cell} (s : StoR K as H μ) (hp : H p = none) (r : Reps K as H vs ds) : Rep K as (upd H p (.tup vs)) (.ref p) (.tup ds) :=
  .tup (.inl ⟨.inl upd_same, s.out hp⟩) (r.mv (Ext.new hp (s.out hp)))
theorem de_lst (ha : PA X es (tFA X.K fs)) : PE X (.List es pos) (tF X.K (fApp gLst fs)) := by
  refine (pe_lst ha).imp fun σ H Q ⟨as, S, d, μ', E, e, q⟩ => ?_
  obtain ⟨xs, ea, ez⟩ := fApp_out e
  unfold gLst at ez
  split at ez
  · rename_i hl
    injection ez with ez
    subst ez
    refine ⟨as, S, xs, μ', E, ea, fun vs as1 H1 X1 r1 s1 => ⟨by rw [r1.length]; exact hl, fun p hp => ?_⟩⟩
    exact q _ as1 _ (X1.trans (Ext.new hp (s1.out hp)) E.sto.trk) (.newL s1 hp r1) (s1.new hp)
  · cases ez
theorem de_tup {x1} (ha : PA X es (tFA X.K fs)) : PE X (.Tuple es x1 pos) (tF X.K (fApp gTup fs)) := by
  refine (pe_tup ha).imp fun σ H Q ⟨as, S, d, μ', E, e, q⟩ => ?_
  obtain ⟨xs, ea, ez⟩ := fApp_out e
  unfold gTup at ez
  split at ez
  · rename_i hl
    injection ez with ez
    subst ez
    refine ⟨as, S, xs, μ', E, ea, fun vs as1 H1 X1 r1 s1 => ⟨by rw [r1.length]; exact hl, fun p hp => ?_⟩⟩
    exact q _ as1 _ (X1.trans (Ext.new hp (s1.out hp)) E.sto.trk) (.newT s1 hp r1) (s1.new hp)
  · cases ez
def rCD (K : PySem.W.Frag) (g : List D → List Cell → Option D) : List V → Hp → VK → Prop := fun xs H Q => ∃ as ds μ z, Reps K as H xs ds ∧ StoR K as H μ ∧ g ds μ = some z ∧
  ∀ v H', Ext as H as H' → Rep K as H' v z → StoR K as H' μ → Q v H'
theorem tF_app {K : PySem.W.Frag} {g : List D → List Cell → Option D} : ∀ σ H Q, tF K (fApp g fs) σ H Q → tCB (rCD K g) (tFA K fs) σ H Q := fun σ H Q ⟨as, S, d, μ', E, e, q⟩ => by
  obtain ⟨xs, ea, ez⟩ := fApp_out e
  exact ⟨as, S, xs, μ', E, ea, fun vs as1 H1 X1 r1 s1 => ⟨as1, xs, μ', d, r1, s1, ez, fun w H3 X3 r3 s3 => q w as1 H3 (X1.trans X3 E.sto.trk) r3 s3⟩⟩
theorem de_callB {x : Str} {p : Pos} {id : String} {g : List D → List Cell → Option D} (hc : CallR X (.builtin id) (rCD X.K g)) (hg : Gl X x) (hm : X.mg x = none) (hv : bootBuiltins x = some (.builtin id)) (ha : PA X (a :: es) (tFA X.K fs)) (hn : x ≠ "__name__" := by decide)
    (hdb : (x == ("__debug__" : Str)) = false := by decide) (he : starEach (a :: es) X.env = (false, eval a X.env) :: starEach es X.env := by rfl) (hpl : (backTo pos (starEach es X.env)).any (·.1) = false := by rfl) :
    PE X (.Call (.Name x p) (a :: es) [] pos) (tF X.K (fApp g fs)) := (pe_callB hc hg hm hv ha hn hdb he hpl).imp tF_app
theorem de_callTy {x : Str} {p : Pos} {T : String} {g : List D → List Cell → Option D} (hc : CallR X (.type T) (rCD X.K g)) (hg : Gl X x) (hm : X.mg x = none) (hv : bootBuiltins x = some (.type T)) (ha : PA X (a :: es) (tFA X.K fs)) (hn : x ≠ "__name__" := by decide)
    (hdb : (x == ("__debug__" : Str)) = false := by decide) (he : starEach (a :: es) X.env = (false, eval a X.env) :: starEach es X.env := by rfl) (hpl : (backTo pos (starEach es X.env)).any (·.1) = false := by rfl) :
    PE X (.Call (.Name x p) (a :: es) [] pos) (tF X.K (fApp g fs)) := (pe_callTy hc hg hm hv ha hn hdb he hpl).imp tF_app
end
end DL
namespace DL
open PySem L2
section
variable {X : Cx}
/-! ### what operators do to data -/
/-- the items of a list that may be joined, changed: a tree's or a cell's -/
def asL : D → List Cell → Option (List D)
  | .lst xs, _ => some xs
  | .h k, μ => match μ[k]? with
    | some (.lst xs) => some xs
    | _ => none
  | _, _ => none
theorem asL_ok {K : PySem.W.Frag} {as : Ar} {H : Hp} {v : V} {d : D} {μ : List Cell} {xs : List D} (r : Rep K as H v d) (s : StoR K as H μ) (e : asL d μ = some xs) : ∃ a vs, v = .ref a ∧ H a = some (.lst vs) ∧ Reps K as H vs xs := by
  cases r with
  | @lst a vs ds t n rs =>
    have e' : ds = xs := Option.some.inj e
    subst e'
    exact ⟨a, vs, rfl, t, rs⟩
  | @h k a ea =>
    simp only [asL] at e
    split at e
    · rename_i ys em
      have e' : ys = xs := Option.some.inj e
      subst e'
      obtain ⟨vs, hv, rs⟩ := s.at_ k a _ ea em
      exact ⟨a, vs, rfl, hv, rs⟩
    · cases e
  | _ => exact nomatch (show none = some xs from e)
/-- the items of anything like a list -/
def asSL : D → List Cell → Option (List D)
  | .rl xs, _ => some xs
  | d, μ => asL d μ
theorem asSL_ok {K : PySem.W.Frag} {as : Ar} {H : Hp} {v : V} {d : D} {μ : List Cell} {xs : List D} (r : Rep K as H v d) (s : StoR K as H μ) (e : asSL d μ = some xs) : ∃ a vs, v = .ref a ∧ SqL K H a vs ∧ Reps K as H vs xs := by
  cases r with
  | @rl a vs ds t rs =>
    have e' : ds = xs := Option.some.inj e
    subst e'
    exact ⟨a, vs, rfl, t.sq, rs⟩
  | @lst a vs ds t n rs =>
    obtain ⟨b, ws, q1, q2, q3⟩ := asL_ok (Rep.lst t n rs) s e
    exact ⟨b, ws, q1, SqL.of q2, q3⟩
  | @h k a ea =>
    obtain ⟨b, ws, q1, q2, q3⟩ := asL_ok (Rep.h (H := H) (K := K) ea) s e
    exact ⟨b, ws, q1, SqL.of q2, q3⟩
  | _ => exact nomatch (show none = some xs from e)

def dAdd : D → D → List Cell → Option D
  | .int i, .int j, _ => some (.int (i + j))
  | .str x, .str y, _ => if x.length + y.length ≤ sizeLine then some (.str (x ++ y)) else none
  | .tup xs, .tup ys, _ => if xs ≠ [] ∧ xs.length + ys.length ≤ sizeLine then some (.tup (xs ++ ys)) else none
  | x, y, μ => match asL x μ, asL y μ with
    | some xs, some ys => if xs.length + ys.length ≤ sizeLine then some (.lst (xs ++ ys)) else none
    | _, _ => none
theorem Reps.nil_iff {K : PySem.W.Frag} {as : Ar} {H : Hp} {vs : List V} {ds : List D} (r : Reps K as H vs ds) : vs = [] ↔ ds = [] := by
  cases r with
  | nil => simp
  | cons _ _ => simp
theorem add_lists {pins : List (Addr × Obj)} {s : Shared} {σ : St} {H : Hp} {x y : V} {v u : Value} {Q : VK} {as : Ar} {d e : D} {μ : List Cell} {z : D} (I : Inv X pins σ H s) (rx : RelV x v) (ry : RelV y u)
    (rd : Rep X.K as H x d) (re : Rep X.K as H y e) (sto : StoR X.K as H μ) (ez : (match asL d μ, asL e μ with
      | some xs, some ys => if xs.length + ys.length ≤ sizeLine then some (D.lst (xs ++ ys)) else none
      | _, _ => none) = some z) (q : ∀ v H', Ext as H as H' → Rep X.K as H' v z → StoR X.K as H' μ → Q v H') : wpAny (model X.prog X.w) X.A (binaryOp .Add v u) (EP X pins σ Q) X.xe s := by
  split at ez
  · rename_i xs ys e1 e2
    split at ez
    · rename_i hz
      have ez' : D.lst (xs ++ ys) = z := Option.some.inj ez
      subst ez'
      obtain ⟨a, vs, rfl, ha, r1⟩ := asL_ok rd sto e1
      obtain ⟨b, ws, rfl, hb, r2⟩ := asL_ok re sto e2
      exact op_cat pins s σ H _ _ v u Q I rx ry ⟨a, b, vs, ws, rfl, rfl, ha, hb, by rw [r1.length, r2.length]; exact hz, fun p hp => q _ _ (Ext.new hp (sto.out hp)) (.newL sto hp (r1.append r2)) (sto.new hp)⟩
    · cases ez
  · cases ez
theorem op_addD : OpR X (binaryOp .Add) (rD X.K dAdd) := by
  intro pins s σ H x y v u Q I rx ry h
  obtain ⟨as, d, e, μ, z, rd, re, sto, ez, q⟩ := h
  unfold dAdd at ez
  split at ez
  · cases rd; cases re
    have ez' := Option.some.inj ez
    subst ez'
    exact op_add pins s σ H _ _ v u Q I rx ry ⟨_, _, rfl, rfl, q _ H .refl (.int _) sto⟩
  · cases rd; cases re
    split at ez
    · rename_i hz
      have ez' := Option.some.inj ez
      subst ez'
      exact op_add_str pins s σ H _ _ v u Q I rx ry ⟨_, _, rfl, rfl, hz, q _ H .refl (.str _) sto⟩
    · cases ez
  · cases rd with
    | @tup a vs ds t1 r1 =>
    cases re with
    | @tup b ws es t2 r2 =>
    split at ez
    · rename_i hz
      have ez' := Option.some.inj ez
      subst ez'
      refine op_catT pins s σ H _ _ v u Q I rx ry ⟨a, b, vs, ws, rfl, rfl, t1.sq, t2.sq, fun c => hz.1 (r1.nil_iff.mp c), by rw [r1.length, r2.length]; exact hz.2, fun c => ?_, fun c p hp => ?_⟩
      · have c' := r2.nil_iff.mp c
        subst c'
        rw [List.append_nil] at q
        exact q _ H .refl (.tup t1 r1) sto
      · exact q _ _ (Ext.new hp (sto.out hp)) (.newT sto hp (r1.append r2)) (sto.new hp)
    · cases ez
  · exact add_lists I rx ry rd re sto ez q

/-- operators of ints alone -/
def dII (g : Int → Int → Option D) : D → D → List Cell → Option D
  | .int i, .int j, _ => g i j
  | _, _, _ => none
theorem opD_ii {f : Value → Value → Sem Value} {g : Int → Int → Option D} (h : ∀ (pins : List (Addr × Obj)) (s : Shared) (σ : St) (H : Hp) (i j : Int) (v u : Value) (Q : VK) (z : D), Inv X pins σ H s → RelV (.int i) v → RelV (.int j) u → g i j = some z →
    (∀ w, (∀ as, Rep X.K as H w z) → Q w H) → wpAny (model X.prog X.w) X.A (f v u) (EP X pins σ Q) X.xe s) : OpR X f (rD X.K (dII g)) := by
  intro pins s σ H x y v u Q I rx ry ⟨as, d, e, μ, z, rd, re, sto, ez, q⟩
  unfold dII at ez
  split at ez
  · cases rd; cases re
    exact h pins s σ H _ _ v u Q z I rx ry ez fun w r => q w H .refl (r as) sto
  · cases ez
def gSub (i j : Int) : Option D := some (.int (i - j))
def gMod (i j : Int) : Option D := if j ≠ 0 then some (.int (i.fmod j)) else none
def gFdiv (i j : Int) : Option D := if j ≠ 0 ∧ j.natAbs < 1073741824 then some (.int (i.fdiv j)) else none
def gPow (i j : Int) : Option D := if 0 ≤ j ∧ (Builtin.Int.intBits i : Int) * j ≤ 2 ^ 27 then some (.int (i ^ j.toNat)) else none
theorem op_subD : OpR X (binaryOp .Sub) (rD X.K (dII gSub)) := opD_ii fun pins s σ H i j v u Q z I rx ry e q =>
  op_sub pins s σ H _ _ v u Q I rx ry ⟨i, j, rfl, rfl, q _ fun _ => by cases Option.some.inj e; exact .int _⟩
theorem op_modD : OpR X (binaryOp .Mod) (rD X.K (dII gMod)) := opD_ii fun pins s σ H i j v u Q z I rx ry e q => by
  unfold gMod at e
  split at e
  · rename_i hj
    exact op_modN pins s σ H _ _ v u Q I rx ry ⟨i, j, rfl, rfl, hj, q _ fun _ => by cases Option.some.inj e; exact .int _⟩
  · cases e
theorem op_fdivD : OpR X (binaryOp .FloorDiv) (rD X.K (dII gFdiv)) := opD_ii fun pins s σ H i j v u Q z I rx ry e q => by
  unfold gFdiv at e
  split at e
  · rename_i hj
    exact op_fdivN pins s σ H _ _ v u Q I rx ry ⟨i, j, rfl, rfl, hj, q _ fun _ => by cases Option.some.inj e; exact .int _⟩
  · cases e
theorem op_powD : OpR X (binaryOp .Pow) (rD X.K (dII gPow)) := opD_ii fun pins s σ H i j v u Q z I rx ry e q => by
  unfold gPow at e
  split at e
  · rename_i hj
    obtain ⟨t, ev⟩ := (show ∃ t, v = Value.int i t from rx)
    obtain ⟨t', eu⟩ := (show ∃ t, u = Value.int j t from ry)
    subst ev eu
    exact PyProof.Rows.pow_int hj.1 hj.2 ⟨.int _, H, I.tok _, ⟨_, rfl⟩, q _ fun _ => by cases Option.some.inj e; exact .int _⟩
  · cases e
/-- a product of ints, a list so many times -/
def dMul : D → D → List Cell → Option D
  | .int i, .int j, _ => if (-(2 ^ 64) < i ∧ i < 2 ^ 64) ∨ (-(2 ^ 64) < j ∧ j < 2 ^ 64) then some (.int (i * j)) else none
  | x, .int k, μ => match asL x μ with
    | some xs => if -(2 ^ 63) ≤ k ∧ k < 2 ^ 63 ∧ xs.length * k.toNat ≤ sizeLine then some (.lst (List.replicate k.toNat xs).flatten) else none
    | none => none
  | _, _, _ => none
theorem Reps.reps {K : PySem.W.Frag} {as : Ar} {H : Hp} {vs : List V} {ds : List D} (r : Reps K as H vs ds) : ∀ n : Nat, Reps K as H (List.replicate n vs).flatten (List.replicate n ds).flatten
  | 0 => .nil
  | n + 1 => by
    rw [List.replicate_succ, List.replicate_succ, List.flatten_cons, List.flatten_cons]
    exact r.append (r.reps n)
theorem op_mulD : OpR X (binaryOp .Mult) (rD X.K dMul) := by
  intro pins s σ H x y v u Q I rx ry ⟨as, d, e, μ, z, rd, re, sto, ez, q⟩
  unfold dMul at ez
  split at ez
  · cases rd; cases re
    split at ez
    · rename_i hz
      have ez' := Option.some.inj ez
      subst ez'
      exact op_mul pins s σ H _ _ v u Q I rx ry ⟨_, _, rfl, rfl, hz, q _ H .refl (.int _) sto⟩
    · cases ez
  · cases re
    split at ez
    · rename_i xs ex
      split at ez
      · rename_i hz
        have ez' := Option.some.inj ez
        subst ez'
        obtain ⟨a, vs, rfl, ha, r1⟩ := asL_ok rd sto ex
        exact op_rep pins s σ H _ _ v u Q I rx ry ⟨a, _, vs, rfl, rfl, ha, hz.1, hz.2.1, by rw [r1.length]; exact hz.2.2, fun p hp => q _ _ (Ext.new hp (sto.out hp)) (.newL sto hp (r1.reps _)) (sto.new hp)⟩
      · cases ez
    · cases ez
  · cases ez
def dNeg : D → List Cell → Option D
  | .int i, _ => some (.int (-i))
  | _, _ => none
theorem un_negD : UnR X (unaryOp .USub) (rU1 X.K dNeg) := by
  intro pins s σ H x v Q I rx ⟨as, d, μ, z, rd, sto, ez, q⟩
  unfold dNeg at ez
  split at ez
  · cases rd
    have ez' := Option.some.inj ez
    subst ez'
    exact un_neg pins s σ H _ v Q I rx ⟨_, rfl, q _ H .refl (.int _) sto⟩
  · cases ez

/-! ### comparisons -/
/-- of ints, of texts -/
def dOrd (gi : Int → Int → Bool) (gs : Str → Str → Bool) : D → D → List Cell → Option D
  | .int i, .int j, _ => some (.bl (gi i j))
  | .str x, .str y, _ => some (.bl (gs x y))
  | _, _, _ => none
theorem dOrd_bl {gi : Int → Int → Bool} {gs : Str → Str → Bool} : ∀ x y μ z, dOrd gi gs x y μ = some z → ∃ k, z = .bl k := fun x y μ z e => by
  unfold dOrd at e
  split at e
  · exact ⟨_, (Option.some.inj e).symm⟩
  · exact ⟨_, (Option.some.inj e).symm⟩
  · cases e
theorem op_ordD {op : CmpOp} {gi : Int → Int → Bool} {gs : Str → Str → Bool} (h1 : OpR X (compareOp op) (rI0 fun i j => .bl (gi i j))) (h2 : OpR X (compareOp op) (fun x y H Q => ∃ i j, x = .str i ∧ y = .str j ∧ Q (.bl (gs i j)) H)) :
    OpR X (compareOp op) (rD X.K (dOrd gi gs)) := by
  intro pins s σ H x y v u Q I rx ry ⟨as, d, e, μ, z, rd, re, sto, ez, q⟩
  unfold dOrd at ez
  split at ez
  · cases rd; cases re
    have ez' := Option.some.inj ez
    subst ez'
    exact h1 pins s σ H _ _ v u Q I rx ry ⟨_, _, rfl, rfl, q _ H .refl (.bl _) sto⟩
  · cases rd; cases re
    have ez' := Option.some.inj ez
    subst ez'
    exact h2 pins s σ H _ _ v u Q I rx ry ⟨_, _, rfl, rfl, q _ H .refl (.bl _) sto⟩
  · cases ez
def sLt (x y : Str) : Bool := decide (x.cps.toList < y.cps.toList)
abbrev dLt := dOrd (fun i j => decide (i < j)) sLt
abbrev dLe := dOrd (fun i j => decide (i ≤ j)) fun x y => !sLt y x
abbrev dGt := dOrd (fun i j => decide (j < i)) fun x y => sLt y x
abbrev dGe := dOrd (fun i j => decide (j ≤ i)) fun x y => !sLt x y
theorem op_ltD : OpR X (compareOp .Lt) (rD X.K dLt) := op_ordD op_lt op_lt_str
theorem op_leD : OpR X (compareOp .LtE) (rD X.K dLe) := op_ordD op_le op_le_str
theorem op_gtD : OpR X (compareOp .Gt) (rD X.K dGt) := op_ordD op_gt op_gt_str
theorem op_geD : OpR X (compareOp .GtE) (rD X.K dGe) := op_ordD op_ge op_ge_str
/-- is: None, types -/
def isB : D → D → List Cell → Option Bool
  | .non, .non, _ => some true
  | .h _, .non, _ => some false
  | _, .non, _ => some false
  | .ty a, .ty b, _ => some (decide (a = b))
  | _, _, _ => none
def dIs : D → D → List Cell → Option D := fun x y μ => (isB x y μ).map .bl
def dIsNot : D → D → List Cell → Option D := fun x y μ => (isB x y μ).map fun k => .bl (!k)
theorem map_bl {o : Option Bool} {f : Bool → Bool} {z : D} (e : o.map (fun k => D.bl (f k)) = some z) : ∃ k, z = .bl k := by
  obtain ⟨k, _, rfl⟩ := Option.map_eq_some_iff.mp e
  exact ⟨_, rfl⟩
theorem dIs_bl : ∀ x y μ z, dIs x y μ = some z → ∃ k, z = .bl k := fun _ _ _ _ e => map_bl (f := fun k => k) e
theorem dIsNot_bl : ∀ x y μ z, dIsNot x y μ = some z → ∃ k, z = .bl k := fun _ _ _ _ e => map_bl e
theorem isB_ok {K : PySem.W.Frag} {as : Ar} {H : Hp} {x y : V} {d e : D} {μ : List Cell} {k : Bool} (rd : Rep K as H x d) (re : Rep K as H y e) (ez : isB d e μ = some k) :
    (y = .non ∧ k = decide (x = .non)) ∨ ∃ a b, x = .ty a ∧ y = .ty b ∧ k = decide (a = b) := by
  cases re with
  | non =>
    refine .inl ⟨rfl, ?_⟩
    cases rd <;> first | (simp [isB] at ez; simp [← ez]; done) | (unfold isB at ez; simp at ez; simp [ez])
  | ty n =>
    cases rd with
    | ty m => exact .inr ⟨m, n, rfl, rfl, (Option.some.inj ez).symm⟩
    | _ => exact nomatch (show none = some k from ez)
  | _ =>
    cases rd <;> exact nomatch (show none = some k from ez)
theorem op_isD : OpR X (compareOp .Is) (rD X.K dIs) := by
  intro pins s σ H x y v u Q I rx ry ⟨as, d, e, μ, z, rd, re, sto, ez, q⟩
  obtain ⟨k, ek, rfl⟩ := Option.map_eq_some_iff.mp ez
  rcases isB_ok rd re ek with ⟨rfl, rfl⟩ | ⟨a, b, rfl, rfl, rfl⟩
  · exact op_isN pins s σ H _ _ v u Q I rx ry ⟨rfl, q _ H .refl (.bl _) sto⟩
  · exact op_isTyB pins s σ H _ _ v u Q I rx ry ⟨a, b, rfl, rfl, q _ H .refl (.bl _) sto⟩
theorem op_isNotD : OpR X (compareOp .IsNot) (rD X.K dIsNot) := by
  intro pins s σ H x y v u Q I rx ry ⟨as, d, e, μ, z, rd, re, sto, ez, q⟩
  obtain ⟨k, ek, rfl⟩ := Option.map_eq_some_iff.mp ez
  rcases isB_ok rd re ek with ⟨rfl, rfl⟩ | ⟨a, b, rfl, rfl, rfl⟩
  · exact op_notN pins s σ H _ _ v u Q I rx ry ⟨rfl, q _ H .refl (.bl _) sto⟩
  · exact op_notTyB pins s σ H _ _ v u Q I rx ry (show ∃ m n, V.ty a = .ty m ∧ V.ty b = .ty n ∧ Q (.bl (!decide (m = n))) H from ⟨a, b, rfl, rfl, q _ H .refl (.bl _) sto⟩)

/-! ### == of data without dicts -/
mutual
def toP : D → List Cell → Option PyData
  | .non, _ => some .none
  | .bl b, _ => some (.bool b)
  | .int i, _ => some (.int i)
  | .str s, _ => some (.str s)
  | .lst xs, μ | .rl xs, μ => (toPs xs μ).map .list
  | .tup xs, μ => (toPs xs μ).map .tuple
  | .h _, _ | .ty _, _ | .dct _, _ | .exc _, _ | .exf _ _ _, _ | .cls _, _ => none
def toPs : List D → List Cell → Option (List PyData)
  | [], _ => some []
  | d :: ds, μ => match toP d μ, toPs ds μ with
    | some p, some ps => some (p :: ps)
    | _, _ => none
end
mutual
theorem toP_ok {K : PySem.W.Frag} {as : Ar} {H : Hp} {μ : List Cell} : ∀ {v : V} {d : D} {p : PyData}, Rep K as H v d → toP d μ = some p → Dp K H v p
  | _, _, _, .non, e => by simp only [toP] at e; cases e; exact .non
  | _, _, _, .bl b, e => by simp only [toP] at e; cases e; exact .bl b
  | _, _, _, .int i, e => by simp only [toP] at e; cases e; exact .int i
  | _, _, _, .str s, e => by simp only [toP] at e; cases e; exact .str s
  | _, _, _, .ty n, e => by simp only [toP] at e; cases e
  | _, _, _, .h _, e => by simp only [toP] at e; cases e
  | _, _, _, .dct _ _ _ _, e => by simp only [toP] at e; cases e
  | _, _, _, .exc _ _ _, e => by simp only [toP] at e; cases e
  | _, _, _, .exf _ _ _ _ _ _, e => by simp only [toP] at e; cases e
  | _, _, _, .cls _, e => by simp only [toP] at e; cases e
  | _, _, _, .lst t n r, e => by
    simp only [toP] at e
    obtain ⟨ps, e1, rfl⟩ := Option.map_eq_some_iff.mp e
    exact .lst (SqL.of t) (toPs_ok r e1)
  | _, _, _, .rl t r, e => by
    simp only [toP] at e
    obtain ⟨ps, e1, rfl⟩ := Option.map_eq_some_iff.mp e
    exact .lst t.sq (toPs_ok r e1)
  | _, _, _, .tup t r, e => by
    simp only [toP] at e
    obtain ⟨ps, e1, rfl⟩ := Option.map_eq_some_iff.mp e
    exact .tup t.sq (toPs_ok r e1)
theorem toPs_ok {K : PySem.W.Frag} {as : Ar} {H : Hp} {μ : List Cell} : ∀ {vs : List V} {ds : List D} {ps : List PyData}, Reps K as H vs ds → toPs ds μ = some ps → DpAll K H vs ps
  | _, _, _, .nil, e => by simp only [toPs] at e; cases e; exact .nil
  | _, _, _, .cons h t, e => by
    simp only [toPs] at e
    split at e
    · rename_i p ps e1 e2
      cases e
      exact .cons (toP_ok h e1) (toPs_ok t e2)
    · cases e
end
/-- .. a cell's list, too -/
def toQ : D → List Cell → Option PyData
  | .h k, μ => match μ[k]? with
    | some (.lst xs) => (toPs xs μ).map .list
    | _ => none
  | x, μ => toP x μ
theorem toQ_ok {K : PySem.W.Frag} {as : Ar} {H : Hp} {μ : List Cell} {v : V} {d : D} {p : PyData} (r : Rep K as H v d) (s : StoR K as H μ) (e : toQ d μ = some p) : Dp K H v p := by
  unfold toQ at e
  split at e
  · split at e
    · rename_i xs ex
      obtain ⟨ps, e1, rfl⟩ := Option.map_eq_some_iff.mp e
      cases r with
      | @h _ a ea =>
        obtain ⟨vs, hv, rs⟩ := s.at_ _ a _ ea ex
        exact .lst (SqL.of hv) (toPs_ok rs e1)
    · cases e
  · exact toP_ok r e
def eqP (x y : D) (μ : List Cell) : Option Bool := match toQ x μ, toQ y μ with
  | some p, some q => if SeqAt.shaped p = true ∧ SeqAt.shaped q = true then some (PyData.eqv p q) else none
  | _, _ => none
def eqB (x y : D) (μ : List Cell) : Option Bool := match x, y with
  | .str a, .str b => some (decide (a = b))
  | x, y => eqP x y μ
def dEq : D → D → List Cell → Option D := fun x y μ => (eqB x y μ).map .bl
def dNe : D → D → List Cell → Option D := fun x y μ => (eqB x y μ).map fun k => .bl (!k)
theorem dEq_bl : ∀ x y μ z, dEq x y μ = some z → ∃ k, z = .bl k := fun _ _ _ _ e => map_bl (f := fun k => k) e
theorem dNe_bl : ∀ x y μ z, dNe x y μ = some z → ∃ k, z = .bl k := fun _ _ _ _ e => map_bl e
theorem op_eqDD (hu : X.A.units + 64 < cLine) : OpR X (compareOp .Eq) (rD X.K dEq) := by
  intro pins s σ H x y v u Q I rx ry ⟨as, d, e, μ, z, rd, re, sto, ez, q⟩
  obtain ⟨k, ek, rfl⟩ := Option.map_eq_some_iff.mp ez
  unfold eqB at ek
  split at ek
  · cases Option.some.inj ek
    cases rd; cases re
    refine op_eq pins s σ H _ _ v u Q I rx ry ⟨rfl, ?_⟩
    have z := q (.bl _) H .refl (.bl _) sto
    simpa only [V.str.injEq] using z
  unfold eqP at ek
  split at ek
  · rename_i p r e1 e2
    split at ek
    · rename_i hs
      have ek' := Option.some.inj ek
      subst ek'
      exact op_eqD hu pins s σ H _ _ v u Q I rx ry ⟨p, r, toQ_ok rd sto e1, toQ_ok re sto e2, hs.1, hs.2, q _ H .refl (.bl _) sto⟩
    · cases ek
  · cases ek
theorem op_neDD (hu : X.A.units + 64 < cLine) : OpR X (compareOp .NotEq) (rD X.K dNe) := by
  intro pins s σ H x y v u Q I rx ry ⟨as, d, e, μ, z, rd, re, sto, ez, q⟩
  obtain ⟨k, ek, rfl⟩ := Option.map_eq_some_iff.mp ez
  unfold eqB at ek
  split at ek
  · cases Option.some.inj ek
    cases rd; cases re
    refine op_ne pins s σ H _ _ v u Q I rx ry ⟨rfl, ?_⟩
    have z := q (.bl _) H .refl (.bl _) sto
    simpa only [V.str.injEq] using z
  unfold eqP at ek
  split at ek
  · rename_i p r e1 e2
    split at ek
    · rename_i hs
      have ek' := Option.some.inj ek
      subst ek'
      exact op_neD hu pins s σ H _ _ v u Q I rx ry ⟨p, r, toQ_ok rd sto e1, toQ_ok re sto e2, hs.1, hs.2, q _ H .refl (.bl _) sto⟩
    · cases ek
  · cases ek

/-! ### xs[i] -/
def dIx : D → D → List Cell → Option D
  | .str z, .int i, _ => if z.length ≤ sizeLine then (atI z.cps.toList i).map fun c => .str ⟨#[c]⟩ else none
  | .tup xs, .int i, _ => atI xs i
  | x, .int i, μ => match asSL x μ with
    | some xs => atI xs i
    | none => none
  | _, _, _ => none
theorem Reps.atI {K : PySem.W.Frag} {as : Ar} {H : Hp} {vs : List V} {ds : List D} {i : Int} {d : D} (r : Reps K as H vs ds) (e : atI ds i = some d) : ∃ v, L2.atI vs i = some v ∧ Rep K as H v d := by
  unfold L2.atI at e ⊢
  rw [r.length]
  obtain ⟨j, e1, e2⟩ := Option.bind_eq_some_iff.mp e
  obtain ⟨v, q1, q2⟩ := r.get e2
  exact ⟨v, by rw [e1]; exact q1, q2⟩
theorem ix_D : IxR X (rD X.K dIx) := by
  intro value slice pins s σ H x y v u Q I rx ry ⟨as, d, e, μ, z, rd, re, sto, ez, q⟩ hs
  unfold dIx at ez
  split at ez
  · cases rd; cases re
    split at ez
    · rename_i hz
      obtain ⟨c, ec, rfl⟩ := Option.map_eq_some_iff.mp ez
      exact ix_str value slice pins s σ H _ _ v u Q I rx ry ⟨_, _, c, rfl, rfl, hz, ec, q _ H .refl (.str _) sto⟩ hs
    · cases ez
  · cases re
    cases rd with
    | @tup a vs ds t r =>
      obtain ⟨w, e1, r1⟩ := r.atI ez
      exact ix_tup value slice pins s σ H _ _ v u Q I rx ry ⟨a, vs, _, w, rfl, rfl, t.sq, e1, q _ H .refl r1 sto⟩ hs
  · cases re
    split at ez
    · rename_i xs ex
      obtain ⟨a, vs, rfl, hq, r⟩ := asSL_ok rd sto ex
      obtain ⟨w, e1, r1⟩ := r.atI ez
      exact ix_list value slice pins s σ H _ _ v u Q I rx ry ⟨a, vs, _, w, rfl, rfl, hq, e1, q _ H .refl r1 sto⟩ hs
    · cases ez
  · cases ez

/-! ### built-in functions -/
def g1 (g : D → List Cell → Option D) : List D → List Cell → Option D
  | [x], μ => g x μ
  | _, _ => none
def g2 (g : D → D → List Cell → Option D) : List D → List Cell → Option D
  | [x, y], μ => g x y μ
  | _, _ => none
theorem call1 {f : Value} {g : D → List Cell → Option D} (h : ∀ (pins : List (Addr × Obj)) (s : Shared) (σ : St) (H : Hp) (x : V) (us : List Value) (Q : VK) (as : Ar) (d : D) (μ : List Cell) (z : D), Inv X pins σ H s → Vals [x] us → Rep X.K as H x d → StoR X.K as H μ → g d μ = some z →
    (∀ v H', Ext as H as H' → Rep X.K as H' v z → StoR X.K as H' μ → Q v H') → wpAny (model X.prog X.w) X.A (call f us) (EP X pins σ Q) X.xe s) : CallR X f (rCD X.K (g1 g)) := by
  intro pins s σ H xs us Q I r ⟨as, ds, μ, z, rd, sto, ez, q⟩
  unfold g1 at ez
  split at ez
  · cases rd with
    | cons r1 rt =>
    cases rt
    exact h pins s σ H _ us Q as _ μ z I r r1 sto ez q
  · cases ez
theorem call2 {f : Value} {g : D → D → List Cell → Option D} (h : ∀ (pins : List (Addr × Obj)) (s : Shared) (σ : St) (H : Hp) (x y : V) (us : List Value) (Q : VK) (as : Ar) (d e : D) (μ : List Cell) (z : D), Inv X pins σ H s → Vals [x, y] us → Rep X.K as H x d → Rep X.K as H y e → StoR X.K as H μ → g d e μ = some z →
    (∀ v H', Ext as H as H' → Rep X.K as H' v z → StoR X.K as H' μ → Q v H') → wpAny (model X.prog X.w) X.A (call f us) (EP X pins σ Q) X.xe s) : CallR X f (rCD X.K (g2 g)) := by
  intro pins s σ H xs us Q I r ⟨as, ds, μ, z, rd, sto, ez, q⟩
  unfold g2 at ez
  split at ez
  · cases rd with
    | cons r1 rt =>
    cases rt with
    | cons r2 rt =>
    cases rt
    exact h pins s σ H _ _ us Q as _ _ μ z I r r1 r2 sto ez q
  · cases ez
def dAbs : D → List Cell → Option D
  | .int i, _ => some (.int (if i < 0 then -i else i))
  | _, _ => none
theorem call_absD : CallR X (.builtin "abs") (rCD X.K (g1 dAbs)) := call1 fun pins s σ H x us Q as d μ z I r rd sto ez q => by
  unfold dAbs at ez
  split at ez
  · cases rd
    cases Option.some.inj ez
    exact call_abs pins s σ H _ us Q I r ⟨_, rfl, q _ H .refl (.int _) sto⟩
  · cases ez
def dInt1 : D → List Cell → Option D
  | .int i, _ => some (.int i)
  | .bl k, _ => some (.int (if k then 1 else 0))
  | _, _ => none
theorem call_intD : CallR X (.type "int") (rCD X.K (g1 dInt1)) := call1 fun pins s σ H x us Q as d μ z I r rd sto ez q => by
  unfold dInt1 at ez
  split at ez
  · cases rd
    cases Option.some.inj ez
    exact call_int1 pins s σ H _ us Q I r (.inl ⟨_, rfl, q _ H .refl (.int _) sto⟩)
  · cases rd
    cases Option.some.inj ez
    exact call_int1 pins s σ H _ us Q I r (.inr ⟨_, rfl, q _ H .refl (.int _) sto⟩)
  · cases ez
def dMax2 : D → D → List Cell → Option D := dII fun i j => some (.int (if j > i then j else i))
def dMin2 : D → D → List Cell → Option D := dII fun i j => some (.int (if j < i then j else i))
theorem call_max2D (hc : X.calm = true) : CallR X (.builtin "max") (rCD X.K (g2 dMax2)) := call2 fun pins s σ H x y us Q as d e μ z I r rd re sto ez q => by
  unfold dMax2 dII at ez
  split at ez
  · cases rd; cases re
    cases Option.some.inj ez
    exact call_max2 hc pins s σ H _ us Q I r ⟨_, _, rfl, q _ H .refl (.int _) sto⟩
  · cases ez
theorem call_min2D (hc : X.calm = true) : CallR X (.builtin "min") (rCD X.K (g2 dMin2)) := call2 fun pins s σ H x y us Q as d e μ z I r rd re sto ez q => by
  unfold dMin2 dII at ez
  split at ez
  · cases rd; cases re
    cases Option.some.inj ez
    exact call_min2 hc pins s σ H _ us Q I r ⟨_, _, rfl, q _ H .refl (.int _) sto⟩
  · cases ez
def dStr1 : D → List Cell → Option D
  | .int i, _ => if i.natAbs.log2 < 1920 then some (.str (toString i)) else none
  | _, _ => none
theorem call_strD : CallR X (.type "str") (rCD X.K (g1 dStr1)) := call1 fun pins s σ H x us Q as d μ z I r rd sto ez q => by
  unfold dStr1 at ez
  split at ez
  · cases rd
    split at ez
    · rename_i hz
      cases Option.some.inj ez
      exact call_str_int pins s σ H _ us Q I r ⟨_, rfl, hz, q _ H .refl (.str _) sto⟩
    · cases ez
  · cases ez
def dLen : D → List Cell → Option D
  | .str z, _ => if z.length ≤ sizeLine then some (.int z.length) else none
  | .tup xs, _ => some (.int xs.length)
  | x, μ => (asSL x μ).map fun xs => .int xs.length
theorem call_lenD : CallR X (.builtin "len") (rCD X.K (g1 dLen)) := call1 fun pins s σ H x us Q as d μ z I r rd sto ez q => by
  unfold dLen at ez
  split at ez
  · cases rd
    split at ez
    · rename_i hz
      cases Option.some.inj ez
      exact call_len_str pins s σ H _ us Q I r ⟨_, rfl, hz, q _ H .refl (.int _) sto⟩
    · cases ez
  · cases rd with
    | @tup a vs ds t rs =>
      cases Option.some.inj ez
      refine call_len_seq pins s σ H _ us Q I r ⟨a, vs, rfl, .inr t.sq, ?_⟩
      rw [rs.length]
      exact q _ H .refl (.int _) sto
  · obtain ⟨xs, ex, rfl⟩ := Option.map_eq_some_iff.mp ez
    obtain ⟨a, vs, rfl, hq, rs⟩ := asSL_ok rd sto ex
    refine call_len_seq pins s σ H _ us Q I r ⟨a, vs, rfl, .inl hq, ?_⟩
    rw [rs.length]
    exact q _ H .refl (.int _) sto
/-- the built-in class of data -/
def tyOf : D → List Cell → Option String
  | .non, _ => some "NoneType" | .bl _, _ => some "bool" | .int _, _ => some "int" | .str _, _ => some "str"
  | .lst _, _ | .rl _, _ => some "list" | .tup _, _ => some "tuple" | .dct _, _ => some "dict"
  | .h k, μ => match μ[k]? with
    | some (.lst _) => some "list"
    | _ => none
  | .ty _, _ | .exc _, _ | .exf _ _ _, _ | .cls _, _ => none
theorem tyOf_ok {K : PySem.W.Frag} {as : Ar} {H : Hp} {v : V} {d : D} {μ : List Cell} {T : String} (r : Rep K as H v d) (s : StoR K as H μ) (e : tyOf d μ = some T) : TyB K H v T ∧ TyX K H v (.type T) := by
  cases r with
  | non => cases Option.some.inj e; exact ⟨.non, .base .non⟩
  | bl b => cases Option.some.inj e; exact ⟨.bl b, .base (.bl b)⟩
  | int i => cases Option.some.inj e; exact ⟨.int i, .base (.int i)⟩
  | str y => cases Option.some.inj e; exact ⟨.str y, .base (.str y)⟩
  | ty n => cases e
  | exc _ _ _ => cases e
  | exf _ _ _ _ _ _ => cases e
  | cls _ => cases e
  | @lst a vs ds t n rs => cases Option.some.inj e; exact ⟨.lst (SqL.of t), .base (.lst t)⟩
  | @rl a vs ds t rs =>
    cases Option.some.inj e
    refine ⟨.lst t.sq, ?_⟩
    rcases t with ⟨t, n⟩ | t
    · rcases t with t | ⟨o, t⟩
      · exact .base (.lst t)
      · exact .base (.frz t)
    · rcases t (fun _ => none) with t | ⟨o, its, n, hk, hc, _⟩
      · rcases t with t | ⟨o, t⟩ <;> cases t
      · exact .kList hk hc
  | @tup a vs ds t rs =>
    cases Option.some.inj e
    refine ⟨.tup t.sq, ?_⟩
    rcases t with ⟨t, n⟩ | t
    · rcases t with t | ⟨o, t⟩
      · exact .base (.tup t)
      · exact .fTuple t
    · rcases t (fun _ => none) with t | ⟨o, its, n, hk, hc, _⟩
      · rcases t with t | ⟨o, t⟩ <;> cases t
      · exact .kTuple hk hc
  | @dct a kvs ds t n ek rs => cases Option.some.inj e; exact ⟨.dK t, .base (.dK t)⟩
  | @h k a ea =>
    simp only [tyOf] at e
    split at e
    · rename_i ys em
      cases Option.some.inj e
      obtain ⟨vs, hv, rs⟩ := s.at_ k a _ ea em
      exact ⟨.lst (SqL.of hv), .base (.lst hv)⟩
    · cases e
def dType : D → List Cell → Option D := fun d μ => (tyOf d μ).map .ty
theorem call_typeD : CallR X (.type "type") (rCD X.K (g1 dType)) := call1 fun pins s σ H x us Q as d μ z I r rd sto ez q => by
  obtain ⟨T, e, rfl⟩ := Option.map_eq_some_iff.mp ez
  exact call_type1 pins s σ H _ us Q I r ⟨x, T, rfl, (tyOf_ok rd sto e).1, q _ H .refl (.ty T) sto⟩
def dIsi : D → D → List Cell → Option D
  | d, .ty T, μ => match tyOf d μ with
    | some U => (kitB U T).map .bl
    | none => none
  | _, _, _ => none
theorem call_isiD : CallR X (.builtin "isinstance") (rCD X.K (g2 dIsi)) := call2 fun pins s σ H x y us Q as d e μ z I r rd re sto ez q => by
  unfold dIsi at ez
  split at ez
  · cases re
    split at ez
    · rename_i U eU
      obtain ⟨b, eb, rfl⟩ := Option.map_eq_some_iff.mp ez
      exact call_isi pins s σ H _ us Q I r ⟨x, _, _, _, b, rfl, .ty _, (tyOf_ok rd sto eU).2, kit_ty eb, q _ H .refl (.bl b) sto⟩
    · cases ez
  · cases ez
def reprB (b : Bool) : Str := if b then "True" else "False"
def dRepr0 : D → List Cell → Option D
  | .bl b, _ => some (.str (reprB b))
  | _, _ => none
theorem call_reprD0 : CallR X (.builtin "repr") (rCD X.K (g1 dRepr0)) := call1 fun pins s σ H x us Q as d μ z I r rd sto ez q => by
  unfold dRepr0 at ez
  split at ez
  · cases rd
    cases Option.some.inj ez
    obtain ⟨u, rfl, ru⟩ := Vals.one r
    cases ru
    exact PySem.P.repr_of_bool ⟨.str _, H, I.tok _, ⟨_, rfl⟩, q _ H .refl (.str _) sto⟩
  · cases ez

/-! ### methods of texts -/
variable {o a : Expr} {es : List Expr} {fa : EvE} {fs : EvA} {name : Str} {apos cpos : Pos}
/-- s.m() of a text -/
def dS0 (P : Str → Bool) (g : Str → D) : D → List Cell → Option D
  | .str z, _ => if P z then some (g z) else none
  | _, _ => none
theorem dS0_out {P : Str → Bool} {g : Str → D} {x z : D} {μ : List Cell} (e : dS0 P g x μ = some z) : ∃ y, x = .str y ∧ P y = true ∧ z = g y := by
  unfold dS0 at e
  split at e
  · split at e
    · rename_i hp
      exact ⟨_, rfl, hp, (Option.some.inj e).symm⟩
    · cases e
  · cases e
theorem fU_out {g : D → List Cell → Option D} {f : EvE} {S : Sg} {d : D} {μ' : List Cell} (e : fU g f S = some (d, μ')) : ∃ x, f S = some (x, μ') ∧ g x μ' = some d := by
  unfold fU at e
  split at e
  · rename_i x μ1 ea
    split at e
    · rename_i z ez
      have e' := Option.some.inj e
      injection e' with e1 e2
      subst e1 e2
      exact ⟨x, ea, ez⟩
    · cases e
  · cases e
theorem de_sm0 {id : String} {P : Str → Bool} {g : Str → D} (slot : Slot "str" name id) (ty : typeOf (.builtin id) = pure (.type "method_descriptor"))
    (rule : MtR X id (fun x xs H Q => ∃ z, x = .str z ∧ xs = [] ∧ P z = true ∧ ∀ v, (∀ as, Rep X.K as H v (g z)) → Q v H))
    (ho : PE X o (tF X.K fa)) (hbase : attributeBase o name X.env (eval o X.env) = eval o X.env := by rfl) (hline : (apos.endLine == cpos.line) = true := by rfl) :
    PE X (.Call (.Attribute o name apos) [] [] cpos) (tF X.K (fU (dS0 P g) fa)) := by
  refine (pe_m0 slot ty rule ho hbase hline).imp fun σ H Q ⟨as, S, d, μ', E, e, q⟩ => ?_
  obtain ⟨x, ea, ez⟩ := fU_out e
  obtain ⟨zz, rfl, hp, rfl⟩ := dS0_out ez
  exact ⟨as, S, _, μ', E, ea, fun v as1 H1 X1 r1 s1 => by
    cases r1
    exact ⟨⟨_, rfl⟩, zz, rfl, rfl, hp, fun w rw => q w as1 H1 X1 (rw as1) s1⟩⟩
end
end DL
namespace DL
open PySem L2
theorem pr_inj {α β : Type} {a c : α} {b d : β} (e : some (a, b) = some (c, d)) : a = c ∧ b = d := by
  injection e with e
  exact Prod.mk.inj e
section
variable {K : PySem.W.Frag} {as as' : Ar} {H H' : Hp} {σ : St} {S : Sg} {v : V} {d : D} {vs : List V} {ds : List D} {μ μ' : List Cell} {ρ : List (Option D)}
theorem EnvR.set {i : Nat} (h : EnvR K as H σ ρ) (r : Rep K as H v d) (hi : i < ρ.length) : EnvR K as H (σ.set i (some v)) (ρ.set i (some d)) := by
  refine ⟨by rw [List.length_set, List.length_set]; exact h.1, fun j e he => ?_⟩
  by_cases hj : i = j
  · subst hj
    rw [List.getElem?_set_self hi] at he
    cases he
    exact ⟨v, by rw [List.getElem?_set_self (by rw [h.1]; exact hi)], r⟩
  · rw [List.getElem?_set_ne hj] at he ⊢
    exact h.2 j e he
def wipeR (ρ : List (Option D)) : List Nat → List (Option D)
  | [] => ρ
  | v :: vs => (wipeR ρ vs).set v none
theorem wipeR_length : ∀ ws : List Nat, (wipeR ρ ws).length = ρ.length
  | [] => rfl
  | w :: ws => by unfold wipeR; rw [List.length_set, wipeR_length ws]
theorem EnvR.wipe (h : EnvR K as H σ ρ) : ∀ ws : List Nat, EnvR K as H (L2.wipe σ ws) (wipeR ρ ws)
  | [] => h
  | w :: ws => by
    have q := h.wipe ws
    unfold L2.wipe wipeR
    refine ⟨by rw [List.length_set, List.length_set]; exact q.1, fun j e he => ?_⟩
    by_cases hj : w = j
    · subst hj
      by_cases hw : w < (wipeR ρ ws).length
      · rw [List.getElem?_set_self hw] at he; cases he
      · rw [List.getElem?_eq_none (by rw [List.length_set]; omega)] at he; cases he
    · rw [List.getElem?_set_ne hj] at he ⊢
      exact q.2 j e he
theorem wipe_agree : ∀ {ws : List Nat} {σ τ : St}, σ.length = τ.length → (∀ j, j ∉ ws → σ[j]? = τ[j]?) → L2.wipe σ ws = L2.wipe τ ws := fun {ws σ τ} hl h => by
  refine List.ext_getElem? fun j => ?_
  have key : ∀ (ws : List Nat) (σ : St) (j : Nat), (L2.wipe σ ws)[j]? = if j ∈ ws ∧ j < σ.length then some none else σ[j]? := by
    intro ws
    induction ws with
    | nil => intro σ j; simp [L2.wipe]
    | cons w ws ih =>
      intro σ j
      unfold L2.wipe
      by_cases hj : w = j
      · subst hj
        by_cases hw : w < σ.length
        · rw [List.getElem?_set_self (by rw [wipe_length]; exact hw)]; simp [hw]
        · rw [List.getElem?_eq_none (by rw [List.length_set, wipe_length]; omega), if_neg (by omega), List.getElem?_eq_none (by omega)]
      · rw [List.getElem?_set_ne hj, ih]
        have e : (j ∈ w :: ws) ↔ j ∈ ws := by simp [Ne.symm hj]
        simp only [e]
  rw [key, key]
  by_cases hj : j ∈ ws
  · simp only [hj, true_and, hl]
    split
    · rfl
    · rw [List.getElem?_eq_none (by omega), List.getElem?_eq_none (by omega)]
  · simp only [hj, false_and, if_false]
    exact h j hj

/-! ### targets -/
abbrev Bd := D → Sg → Option Sg
abbrev Bds := List D → Sg → Option Sg
variable (K) in
def tG (b : Bd) (ix : List Nat) : TG := fun v σ H Q => ∃ as S d S', ER K as σ H S ∧ Rep K as H v d ∧ b d S = some S' ∧
  ∀ as' σ' H', Ext as H as' H' → ER K as' σ' H' S' → σ'.length = σ.length → (∀ j, j ∉ ix → σ'[j]? = σ[j]?) → Q σ' H'
variable (K) in
def tGs (b : Bds) (ix : List Nat) : TGs := fun vs σ H Q => ∃ as S ds S', ER K as σ H S ∧ Reps K as H vs ds ∧ b ds S = some S' ∧
  ∀ as' σ' H', Ext as H as' H' → ER K as' σ' H' S' → σ'.length = σ.length → (∀ j, j ∉ ix → σ'[j]? = σ[j]?) → Q σ' H'
end
theorem PG.imp {X : Cx} {e : Expr} {t t' : TG} (h : PG X e t) (q : ∀ v σ H Q, t' v σ H Q → t v σ H Q) : PG X e t' := ⟨fun pins s σ H v u Q I r z => h.run pins s σ H v u Q I r (q v σ H Q z)⟩
theorem PGs.imp {X : Cx} {e : List Expr} {t t' : TGs} (h : PGs X e t) (q : ∀ v σ H Q, t' v σ H Q → t v σ H Q) : PGs X e t' := ⟨fun pins s σ H v u Q I r z => h.run pins s σ H v u Q I r (q v σ H Q z)⟩
theorem PI.imp {X : Cx} {tg e : Expr} {t t' : TI} (h : PI X tg e t) (q : ∀ σ H R, t' σ H R → t σ H R) : PI X tg e t' := ⟨fun pins s σ H R I z => h.run pins s σ H R I (q σ H R z)⟩
theorem PI.or {X : Cx} {tg e : Expr} {t u : TI} (h1 : PI X tg e t) (h2 : PI X tg e u) : PI X tg e (fun σ H R => t σ H R ∨ u σ H R) := ⟨fun pins s σ H R I z => z.elim (h1.run pins s σ H R I) (h2.run pins s σ H R I)⟩
section
variable {X : Cx} {a e : Expr} {es : List Expr} {pos : Pos} {W : WX}
def bName (i : Nat) : Bd := fun d S => if i < S.ρ.length then some { S with ρ := S.ρ.set i (some d) } else none
theorem bName_out {i : Nat} {d : D} {S S' : Sg} (e : bName i d S = some S') : i < S.ρ.length ∧ S' = { S with ρ := S.ρ.set i (some d) } := by
  unfold bName at e
  split at e
  · rename_i h
    exact ⟨h, (Option.some.inj e).symm⟩
  · cases e
theorem gName_of {K : PySem.W.Frag} {i : Nat} : ∀ v σ H Q, tG K (bName i) [i] v σ H Q → gName i v σ H Q := fun v σ H Q ⟨as, S, d, S', E, r, e, q⟩ => by
  obtain ⟨hi, rfl⟩ := bName_out e
  refine q as _ H .refl ⟨E.env.set r hi, E.sto⟩ (List.length_set ..) fun j hj => ?_
  rw [List.getElem?_set_ne (by simpa using Ne.symm (by simpa using hj))]
theorem dg_name {i : Nat} {x : Str} (hN : X.N.Nodup) (hi : X.N[i]? = some x) (hx : Loc X.env.scope x) (hf : X.fn x = true ∨ X.env.scope.names.lookup x = some .local := by first | exact .inl rfl | exact .inr rfl | assumption) : PG X (.Name x pos) (tG X.K (bName i) [i]) :=
  PG.imp (pg_name hN hi hx hf) gName_of
def bsNil : Bds := fun ds S => match ds with
  | [] => some S
  | _ :: _ => none
def bsCons (b : Bd) (bs : Bds) : Bds := fun ds S => match ds with
  | [] => none
  | d :: r => match b d S with
    | some S1 => bs r S1
    | none => none
theorem dgs_nil : PGs X [] (tGs X.K bsNil []) := PGs.imp pgs_nil fun vs σ H Q ⟨as, S, ds, S', E, r, e, q⟩ => by
  cases r with
  | nil =>
    cases Option.some.inj e
    exact ⟨rfl, q as σ H .refl E rfl fun _ _ => rfl⟩
  | cons _ _ => cases e
theorem dgs_cons {b : Bd} {bs : Bds} {ix jx : List Nat} (h1 : PG X a (tG X.K b ix)) (h2 : PGs X es (tGs X.K bs jx)) (hs : (assignEach (a :: es) X.env).map (·.2) = assign a X.env :: (assignEach es X.env).map (·.2) := by rfl) :
    PGs X (a :: es) (tGs X.K (bsCons b bs) (ix ++ jx)) := PGs.imp (pgs_cons h1 h2 hs) fun vs σ H Q ⟨as, S, ds, S', E, r, e, q⟩ => by
  cases r with
  | nil => cases e
  | @cons v vs d ds r1 r2 =>
    unfold bsCons at e
    simp only at e
    split at e
    · rename_i S1 e1
      refine ⟨v, vs, rfl, as, S, d, S1, E, r1, e1, fun as1 σ1 H1 X1 E1 l1 g1 => ⟨as1, S1, ds, S', E1, r2.mv X1, e, fun as2 σ2 H2 X2 E2 l2 g2 => ?_⟩⟩
      exact q as2 σ2 H2 (X1.trans X2 E.sto.trk) E2 (l2.trans l1) fun j hj => (g2 j fun z => hj (List.mem_append_right _ z)).trans (g1 j fun z => hj (List.mem_append_left _ z))
    · cases e
def bTup (n : Nat) (bs : Bds) : Bd := fun d S => match d with
  | .tup xs => if xs.length = n then bs xs S else none
  | _ => none
theorem dg_tup {k : Nat} {bs : Bds} {ix : List Nat} {n : Nat} (hc : X.calm = true) (h : PGs X es (tGs X.K bs ix)) (hn : (assignEach es X.env).length = n := by rfl) (hst : (assignEach es X.env).findIdx? (·.1) = none := by rfl) :
    PG X (.Tuple es k pos) (tG X.K (bTup n bs) ix) := PG.imp (pg_tup hc h hn hst) fun v σ H Q ⟨as, S, d, S', E, r, e, q⟩ => by
  unfold bTup at e
  split at e
  · split at e
    · rename_i hl
      cases r with
      | tup t rs => exact ⟨_, _, rfl, t.sq, rs.length.trans hl, as, S, _, S', E, rs, e, q⟩
    · cases e
  · cases e
/-- a store into a cell's list -/
def cSet (o i d : D) (μ : List Cell) : Option (List Cell) := match o, i with
  | .h k, .int j => match μ[k]? with
    | some (.lst xs) => match ixN xs.length j with
      | some n => some (μ.set k (.lst (xs.set n d)))
      | none => none
    | _ => none
  | _, _ => none
theorem nodup_ix {l : List Addr} {i j : Nat} {a : Addr} (h : l.Nodup) (e1 : l[i]? = some a) (e2 : l[j]? = some a) : i = j := by
  exact (List.getElem?_inj (List.getElem?_eq_some_iff.mp e1).1 h).mp (e1.trans e2.symm)
theorem StoR.upd {K : PySem.W.Frag} {as : Ar} {H : Hp} {μ : List Cell} {k : Nat} {a : Addr} {vs : List V} {ds : List D} (s : StoR K as H μ) (ea : as.c[k]? = some a) (r : Reps K as H vs ds) :
    Ext as H as (L2.upd H a (.lst vs)) ∧ StoR K as (L2.upd H a (.lst vs)) (μ.set k (.lst ds)) := by
  have ha : a ∈ as.c := List.mem_of_getElem? ea
  have X1 : Ext as H as (L2.upd H a (.lst vs)) := ⟨⟨[], by simp, by simp⟩, ⟨[], by simp, by simp⟩, fun b o hb e => by rw [upd_ne fun (z : b = a) => hb (by rw [z]; exact ha)]; exact e, fun b hb e => by
    by_cases z : b = a
    · subst z; rw [upd_same]; simp
    · rw [upd_ne z]; exact e⟩
  refine ⟨X1, ?_, fun j b c ej ec => ?_, s.nd, fun b hb => ?_⟩
  · rw [List.length_set]; exact s.len
  · by_cases hj : k = j
    · subst hj
      have hk : k < μ.length := by
        rw [← s.len]; exact (List.getElem?_eq_some_iff.mp ea).1
      rw [List.getElem?_set_self hk] at ec
      cases ec
      rw [ea] at ej
      cases ej
      exact ⟨vs, upd_same, r.mv X1⟩
    · rw [List.getElem?_set_ne hj] at ec
      refine (s.at_ j b c ej ec).mv X1 (upd_ne fun z => hj ?_)
      subst z
      exact nodup_ix s.nd ea ej
  · by_cases z : b = a
    · subst z; rw [upd_same]; simp
    · rw [upd_ne z]; exact s.bl b hb
def bSub (fo fi : EvE) : Bd := fun d S => match fo S with
  | some (o, μ1) => match fi { S with μ := μ1 } with
    | some (i, μ2) => match cSet o i d μ2 with
      | some μ3 => some { S with μ := μ3 }
      | none => none
    | none => none
  | none => none
theorem cSet_out {o i d : D} {μ μ' : List Cell} (e : cSet o i d μ = some μ') : ∃ k j xs n, o = .h k ∧ i = .int j ∧ μ[k]? = some (.lst xs) ∧ ixN xs.length j = some n ∧ μ' = μ.set k (.lst (xs.set n d)) := by
  unfold cSet at e
  split at e
  · split at e
    · rename_i xs ex
      split at e
      · rename_i n en
        exact ⟨_, _, xs, n, rfl, rfl, ex, en, (Option.some.inj e).symm⟩
      · cases e
    · cases e
  · cases e
theorem dg_sub {o i : Expr} {fo fi : EvE} (ho : PE X o (tF X.K fo)) (hi : PE X i (tF X.K fi)) (ha : ∀ v, assign (.Subscript o i pos) X.env v = (do
      let ov ← holding [v] (eval o X.env)
      let iv ← holding [v, ov] (eval i X.env)
      standAt pos
      holding [v, ov, iv] (setItem ov iv v)
      release [v, ov, iv] []) := by intro _; rfl) : PG X (.Subscript o i pos) (tG X.K (bSub fo fi) []) := PG.imp (pg_sub ho hi set_list ha) fun v σ H Q ⟨as, S, d, S', E, r, e, q⟩ => by
  unfold bSub at e
  split at e
  · rename_i x μ1 ea
    split at e
    · rename_i y μ2 eb
      split at e
      · rename_i μ3 ec
        cases Option.some.inj e
        obtain ⟨k, j, xs, n, rfl, rfl, ex, en, rfl⟩ := cSet_out ec
        refine ⟨as, S, _, μ1, E, ea, fun u as1 H1 X1 r1 s1 => ⟨as1, _, _, μ2, E.mvE X1 s1, eb, fun w as2 H2 X2 r2 s2 => ?_⟩⟩
        have r1' := r1.mv X2
        cases r2
        cases r1' with
        | @h _ p ep =>
          obtain ⟨vs, hv, rs⟩ := s2.at_ k p _ ep ex
          have X12 := X1.trans X2 E.sto.trk
          obtain ⟨X3, s3⟩ := s2.upd ep (rs.set n (r.mv X12))
          refine ⟨p, vs, j, n, rfl, rfl, hv, by rw [rs.length]; exact en, ?_⟩
          exact q as2 σ _ (X12.trans X3 E.sto.trk) (E.mvE (X12.trans X3 E.sto.trk) s3) rfl fun _ _ => rfl
      · cases e
    · cases e
  · cases e

/-! ### statements -/
def bThen (b : Bd) (f : EvE) : EvS := fun S => match f S with
  | some (d, μ1) => match b d { S with μ := μ1 } with
    | some S' => some (.nx, S')
    | none => none
  | none => none
theorem endS_mv {K : PySem.W.Frag} {mg : Str → Option Value} {as as1 : Ar} {H H1 : Hp} {E : Ends} {fl : Fl} {S' : Sg} (h : endS K mg W as H E fl S') (X1 : Ext as H as1 H1) (tr : ∀ a, a ∈ as.c → H a ≠ none) : endS K mg W as1 H1 E fl S' := by
  cases fl with
  | nx => exact fun as2 σ2 H2 X2 E2 => h as2 σ2 H2 (X1.trans X2 tr) E2
  | bk => exact fun as2 σ2 H2 X2 E2 => h as2 σ2 H2 (X1.trans X2 tr) E2
  | ct => exact fun as2 σ2 H2 X2 E2 => h as2 σ2 H2 (X1.trans X2 tr) E2
  | rt d => exact fun as2 v H2 X2 r s => h as2 v H2 (X1.trans X2 tr) r s
  | ex n p => exact fun as2 σ2 H2 C dx X2 E2 e x => h as2 σ2 H2 C dx (X1.trans X2 tr) E2 e x
variable {f : EvE} {b : Bd} {ix : List Nat}
theorem bThen_of {K : PySem.W.Frag} {mg : Str → Option Value} {g : TG} (hg : ∀ v σ H Q, tG K b ix v σ H Q → g v σ H Q) : ∀ D σ H, tFS K mg W (bThen b f) D σ H → tAsg (tF K f) g D σ H := fun D σ H ⟨as, S, fl, S', E, e, q⟩ => by
  unfold bThen at e
  split at e
  · rename_i d μ1 ef
    split at e
    · rename_i S1 eb
      obtain ⟨rfl, rfl⟩ := pr_inj e
      exact ⟨as, S, d, μ1, E, ef, fun v as1 H1 X1 r1 s1 => hg _ _ _ _ ⟨as1, _, d, S1, E.mvE X1 s1, r1, eb, fun as2 σ2 H2 X2 E2 _ _ => q as2 σ2 H2 (X1.trans X2 E.sto.trk) E2⟩⟩
    · cases e
  · cases e
theorem ds_asg {tg : Expr} (he : PE X e (tF X.K f)) (hg : PG X tg (tG X.K b ix)) (hs : swapsWithSole [tg] e pos.line X.env = pure false := by rfl) (hw : swappedStores [tg] e X.env = pure none := by rfl)
    (h1 : (assignEach [tg] X.env).map (·.2) = [assign tg X.env] := by rfl) : PS X (.Assign [tg] e pos) (tFS X.K X.mg W (bThen b f)) := (ps_asg he hg hs hw h1).imp (bThen_of fun _ _ _ _ z => z)
theorem ds_set {i : Nat} {x : Str} {pos' : Pos} (hN : X.N.Nodup) (hi : X.N[i]? = some x) (hx : Loc X.env.scope x) (he : PE X e (tF X.K f)) (hs : swapsWith e (some (.Name x pos')) pos.line X.env = pure false := by rfl)
    (hf : X.fn x = true ∨ X.env.scope.names.lookup x = some .local := by first | exact .inl rfl | exact .inr rfl | assumption) : PS X (.Assign [.Name x pos'] e pos) (tFS X.K X.mg W (bThen (bName i) f)) := (ps_set hN hi hx he hs hf).imp (bThen_of gName_of)
def sDrop (f : EvE) : EvS := fun S => match f S with
  | some (_, μ1) => some (.nx, { S with μ := μ1 })
  | none => none
theorem ds_expr (he : PE X e (tF X.K f)) (hs : swapsWith e none pos.line X.env = pure false := by rfl) : PS X (.Expr e pos) (tFS X.K X.mg W (sDrop f)) := (ps_expr he hs).imp fun D σ H ⟨as, S, fl, S', E, e, q⟩ => by
  unfold sDrop at e
  split at e
  · rename_i d μ1 ef
    obtain ⟨rfl, rfl⟩ := pr_inj e
    exact ⟨as, S, d, μ1, E, ef, fun v as1 H1 X1 r1 s1 => q as1 σ H1 X1 (E.mvE X1 s1)⟩
  · cases e
/-! .. of what may raise -/
def bThenX (b : Bd) (f : EvX) : EvS := fun S => match f S with
  | some (.v d, μ1) => match b d { S with μ := μ1 } with
    | some S' => some (.nx, S')
    | none => none
  | some (.x n p, μ1) => some (.ex n p, { S with μ := μ1 })
  | none => none
theorem bThenX_of {K : PySem.W.Frag} {mg : Str → Option Value} {fx : EvX} {g : TG} (hg : ∀ v σ H Q, tG K b ix v σ H Q → g v σ H Q) : ∀ D σ H, tFS K mg W (bThenX b fx) D σ H → tAsg (tFX K mg W fx) g D σ H := fun D σ H ⟨as, S, fl, S', E, e, q⟩ => by
  unfold bThenX at e
  split at e
  · rename_i d μ1 ef
    split at e
    · rename_i S1 eb
      obtain ⟨rfl, rfl⟩ := pr_inj e
      exact ⟨as, S, .v d, μ1, E, ef, fun v as1 H1 X1 r1 s1 => hg _ _ _ _ ⟨as1, _, d, S1, E.mvE X1 s1, r1, eb, fun as2 σ2 H2 X2 E2 _ _ => q as2 σ2 H2 (X1.trans X2 E.sto.trk) E2⟩⟩
    · cases e
  · rename_i n p μ1 ef
    obtain ⟨rfl, rfl⟩ := pr_inj e
    exact ⟨as, S, .x n p, μ1, E, ef, fun as1 H1 C dx X1 s1 ec xr => q as1 σ H1 C dx X1 (E.mvE X1 s1) ec xr⟩
  · cases e
variable {fx : EvX}
theorem ds_asgX {tg : Expr} (he : PE X e (tFX X.K X.mg W fx)) (hg : PG X tg (tG X.K b ix)) (hs : swapsWithSole [tg] e pos.line X.env = pure false := by rfl) (hw : swappedStores [tg] e X.env = pure none := by rfl)
    (h1 : (assignEach [tg] X.env).map (·.2) = [assign tg X.env] := by rfl) : PS X (.Assign [tg] e pos) (tFS X.K X.mg W (bThenX b fx)) := (ps_asg he hg hs hw h1).imp (bThenX_of fun _ _ _ _ z => z)
theorem ds_setX {i : Nat} {x : Str} {pos' : Pos} (hN : X.N.Nodup) (hi : X.N[i]? = some x) (hx : Loc X.env.scope x) (he : PE X e (tFX X.K X.mg W fx)) (hs : swapsWith e (some (.Name x pos')) pos.line X.env = pure false := by rfl)
    (hf : X.fn x = true ∨ X.env.scope.names.lookup x = some .local := by first | exact .inl rfl | exact .inr rfl | assumption) : PS X (.Assign [.Name x pos'] e pos) (tFS X.K X.mg W (bThenX (bName i) fx)) := (ps_set hN hi hx he hs hf).imp (bThenX_of gName_of)
def sDropX (f : EvX) : EvS := fun S => match f S with
  | some (.v _, μ1) => some (.nx, { S with μ := μ1 })
  | some (.x n p, μ1) => some (.ex n p, { S with μ := μ1 })
  | none => none
theorem ds_exprX (he : PE X e (tFX X.K X.mg W fx)) (hs : swapsWith e none pos.line X.env = pure false := by rfl) : PS X (.Expr e pos) (tFS X.K X.mg W (sDropX fx)) := (ps_expr he hs).imp fun D σ H ⟨as, S, fl, S', E, e, q⟩ => by
  unfold sDropX at e
  split at e
  · rename_i d μ1 ef
    obtain ⟨rfl, rfl⟩ := pr_inj e
    exact ⟨as, S, .v d, μ1, E, ef, fun v as1 H1 X1 r1 s1 => q as1 σ H1 X1 (E.mvE X1 s1)⟩
  · rename_i n p μ1 ef
    obtain ⟨rfl, rfl⟩ := pr_inj e
    exact ⟨as, S, .x n p, μ1, E, ef, fun as1 H1 C dx X1 s1 ec xr => q as1 σ H1 C dx X1 (E.mvE X1 s1) ec xr⟩
  · cases e
def sRetX (f : EvX) : EvS := fun S => match f S with
  | some (.v d, μ1) => some (.rt d, { S with μ := μ1 })
  | some (.x n p, μ1) => some (.ex n p, { S with μ := μ1 })
  | none => none
theorem ds_retX (he : PE X e (tFX X.K X.mg W fx)) : PS X (.Return (some e) pos) (tFS X.K X.mg W (sRetX fx)) := (ps_ret he).imp fun D σ H ⟨as, S, fl, S', E, e, q⟩ => by
  unfold sRetX at e
  split at e
  · rename_i d μ1 ef
    obtain ⟨rfl, rfl⟩ := pr_inj e
    exact ⟨as, S, .v d, μ1, E, ef, fun v as1 H1 X1 r1 s1 => q as1 v H1 X1 r1 s1⟩
  · rename_i n p μ1 ef
    obtain ⟨rfl, rfl⟩ := pr_inj e
    exact ⟨as, S, .x n p, μ1, E, ef, fun as1 H1 C dx X1 s1 ec xr => q as1 σ H1 C dx X1 (E.mvE X1 s1) ec xr⟩
  · cases e
/-- what raises nothing here -/
def fNox (f : EvX) : EvE := fun S => match f S with
  | some (.v d, μ1) => some (d, μ1)
  | _ => none
theorem fNox_out {f : EvX} {S : Sg} {d : D} {μ' : List Cell} (e : fNox f S = some (d, μ')) : f S = some (.v d, μ') := by
  unfold fNox at e
  split at e
  · rename_i d1 μ1 ef
    obtain ⟨rfl, rfl⟩ := pr_inj e
    exact ef
  · cases e
/-- raise C('m') -/
def sRaise (n : Str) : EvS := fun S => some (.ex n none, S)
theorem ds_raise {C : Addr} {bmB : List Value} {B newId initId : String} {x m : Str} {j : Nat} {p p2 pos1 pos2 : Pos} (hc : X.calm = true) (tk : Takes X W) (F : PySem.ExcBaseFacts B newId initId bmB) (q : PySem.W.excIn X.K C bmB newId = true) (gC : X.mg x = some (.ref C)) (kC : PySem.W.keepIn X.K (.ref C) = true) (r : Raises X (.ref C)) (hg : Gl X x)
    (hdb : (x == ("__debug__" : Str)) = false := by decide) : PS X (.Raise (some (.Call (.Name x p) [.Constant (.str m) j p2] [] pos1)) none pos2) (tFS X.K X.mg W (sRaise x)) :=
  (ps_raise hc tk (pmk_own F q gC kC r hg hdb)).imp fun D σ H ⟨as, S, fl, S', E, e, q⟩ => by
    obtain ⟨rfl, rfl⟩ := pr_inj e
    exact q as σ H (.ref C) none .refl E gC rfl
/-- try: .. except x: .., where h tells which names the clause takes -/
def sTry (h : Str → Option Bool) (g gs : EvS) : EvS := fun S => match g S with
  | some (.ex n p, S1) => match h n with
    | some true => match gs S1 with
      | some (.ex _ _, _) => none
      | r => r
    | some false => some (.ex n p, S1)
    | none => none
  | r => r
theorem ds_try {x : Str} {c : Value} {h : Str → Option Bool} {g gs : EvS} {body suite : List Stmt} {b₀ : Stmt} {np pos pos' : Pos} (hs : X.stack = X.env :: X.outer) (hf : X.env.frame = some X.env.locals) (hc : Names X x c) (tk : Takes X W)
    (hh : ∀ n b C, h n = some b → X.mg n = some C → PySem.W.exmOne X.K C c = some b)
    (hb : ∀ (W' : WX) (pn : List (Addr × Obj)) (xe : Value → Shared → Prop), Takes (X.tr pn xe) W' → PassesOwn (model X.prog X.w) X.A X.env xe → PSs (X.tr pn xe) body (tFS X.K X.mg W' g))
    (hsu : ∀ (a : Addr) (pn : List (Addr × Obj)), PSs (X.suite a pn) (b₀ :: suite) (tFS X.K X.mg (fun _ _ _ _ => False) gs)) :
    PS X (.Try body [.ExceptHandler (some (.Name x np)) none (b₀ :: suite) pos'] [] [] pos) (tFS X.K X.mg W (sTry h g gs)) :=
  (ps_try_only (tb := fun W' => tFS X.K X.mg W' g) (ts := fun _ _ _ => tFS X.K X.mg (fun _ _ _ _ => False) gs) hs hf hc tk hb (fun a oe cls d pn _ _ => hsu a ((a, oe) :: pn))).imp fun D σ H ⟨as, S, fl, S', E, e, q⟩ => by
    unfold sTry at e
    split at e
    · rename_i n p S1 eg
      split at e
      · rename_i eh
        refine ⟨as, S, .ex n p, S1, E, eg, fun as1 σ1 H1 C dx X1 E1 ec xr => ⟨true, hh n true C eh ec, fun _ a na => ?_, fun z => nomatch z⟩⟩
        split at e
        · cases e
        · rename_i hn
          have q1 := endS_mv q X1 E.sto.trk
          refine ⟨as1, S1, fl, S', E1, e, ?_⟩
          cases fl with
          | ex n' p' => exact (hn n' p' S' e).elim
          | nx => exact q1
          | bk => exact q1
          | ct => exact q1
          | rt d => exact q1
      · rename_i eh
        obtain ⟨rfl, rfl⟩ := pr_inj e
        exact ⟨as, S, .ex n p, S1, E, eg, fun as1 σ1 H1 C dx X1 E1 ec xr => ⟨false, hh n false C eh ec, fun z => (nomatch z), fun _ => q as1 σ1 H1 C dx X1 E1 ec xr⟩⟩
      · cases e
    · rename_i hn
      refine ⟨as, S, fl, S', E, e, ?_⟩
      cases fl with
      | ex n' p' => exact (hn n' p' S' e).elim
      | nx => exact q
      | bk => exact q
      | ct => exact q
      | rt d => exact q
def sNx : EvS := fun S => some (.nx, S)
theorem ds_doc {x j pos'} : PS X (.Expr (.Constant (.str x) j pos) pos') (tFS X.K X.mg W sNx) := ps_doc.imp fun D σ H ⟨as, S, fl, S', E, e, q⟩ => by
  cases Option.some.inj e
  exact q as σ H .refl E
theorem ds_pass : PS X (.Pass pos) (tFS X.K X.mg W sNx) := ps_pass.imp fun D σ H ⟨as, S, fl, S', E, e, q⟩ => by
  cases Option.some.inj e
  exact q as σ H .refl E
def sBk : EvS := fun S => some (.bk, S)
def sCt : EvS := fun S => some (.ct, S)
theorem ds_break : PS X (.Break pos) (tFS X.K X.mg W sBk) := ps_break.imp fun D σ H ⟨as, S, fl, S', E, e, q⟩ => by
  cases Option.some.inj e
  exact q as σ H .refl E
theorem ds_continue : PS X (.Continue pos) (tFS X.K X.mg W sCt) := ps_continue.imp fun D σ H ⟨as, S, fl, S', E, e, q⟩ => by
  cases Option.some.inj e
  exact q as σ H .refl E
def sRet (f : EvE) : EvS := fun S => match f S with
  | some (d, μ1) => some (.rt d, { S with μ := μ1 })
  | none => none
theorem ds_ret (he : PE X e (tF X.K f)) : PS X (.Return (some e) pos) (tFS X.K X.mg W (sRet f)) := (ps_ret he).imp fun D σ H ⟨as, S, fl, S', E, e, q⟩ => by
  unfold sRet at e
  split at e
  · rename_i d μ1 ef
    obtain ⟨rfl, rfl⟩ := pr_inj e
    exact ⟨as, S, d, μ1, E, ef, fun v as1 H1 X1 r1 s1 => q as1 v H1 X1 r1 s1⟩
  · cases e
theorem ds_retN : PS X (.Return none pos) (tFS X.K X.mg W (sRet (fC .non))) := ps_retN.imp fun D σ H ⟨as, S, fl, S', E, e, q⟩ => by
  cases Option.some.inj e
  exact q as .non H .refl .non E.sto
variable {t : EvT} {g g' : EvS} {ss ss' : List Stmt}
def sIf (t : EvT) (g g' : EvS) : EvS := fun S => match t S with
  | some (true, μ1) => g { S with μ := μ1 }
  | some (false, μ1) => g' { S with μ := μ1 }
  | none => none
theorem ds_if {c : Expr} (hc : PT X c (tFT X.K t)) (ha : PSs X ss (tFS X.K X.mg W g)) (hb : PSs X ss' (tFS X.K X.mg W g')) : PS X (.If c ss ss' pos) (tFS X.K X.mg W (sIf t g g')) := (ps_if hc ha hb).imp fun D σ H ⟨as, S, fl, S', E, e, q⟩ => by
  unfold sIf at e
  split at e
  · rename_i μ1 et
    exact ⟨as, S, true, μ1, E, et, fun as1 H1 X1 s1 => iteT ⟨as1, _, fl, S', E.mvE X1 s1, e, endS_mv q X1 E.sto.trk⟩⟩
  · rename_i μ1 et
    exact ⟨as, S, false, μ1, E, et, fun as1 H1 X1 s1 => iteF ⟨as1, _, fl, S', E.mvE X1 s1, e, endS_mv q X1 E.sto.trk⟩⟩
  · cases e
def sSeq (g g' : EvS) : EvS := fun S => match g S with
  | some (.nx, S1) => g' S1
  | r => r
theorem dss_nil : PSs X [] (tFS X.K X.mg W sNx) := pss_nil.imp fun D σ H ⟨as, S, fl, S', E, e, q⟩ => by
  cases Option.some.inj e
  exact q as σ H .refl E
theorem dss_one {st : Stmt} (h : PS X st (tFS X.K X.mg W g)) : PSs X [st] (tFS X.K X.mg W g) := pss_one h
theorem dss_cons {st : Stmt} (h1 : PS X st (tFS X.K X.mg W g)) (h2 : PSs X ss (tFS X.K X.mg W g')) : PSs X (st :: ss) (tFS X.K X.mg W (sSeq g g')) := (pss_cons h1 h2).imp fun D σ H ⟨as, S, fl, S', E, e, q⟩ => by
  unfold sSeq at e
  split at e
  · rename_i S1 e1
    exact ⟨as, S, .nx, S1, E, e1, fun as1 σ1 H1 X1 E1 => ⟨as1, S1, fl, S', E1, e, endS_mv q X1 E.sto.trk⟩⟩
  · rename_i hn
    refine ⟨as, S, fl, S', E, e, ?_⟩
    cases fl with
    | nx => exact (hn S' e).elim
    | bk => exact q
    | ct => exact q
    | rt d => exact q
    | ex n p => exact q

/-! ### what is walked -/
abbrev EvI := Sg → Option (List D × List Cell)
structure ItD (K : PySem.W.Frag) (as : Ar) (H : Hp) (J : It) (ds : List D) : Prop where
  go : ∀ i as' H', Ext as H as' H' → i < ds.length → J.go i H'
  stop : ∀ as' H', Ext as H as' H' → J.stop ds.length H'
  yld : ∀ i as' H' μ x H'', Ext as H as' H' → StoR K as' H' μ → i < ds.length → J.yld i H' x H'' → ∃ d, ds[i]? = some d ∧ Ext as' H' as' H'' ∧ Rep K as' H'' x d ∧ StoR K as' H'' μ
/-- the heap behind later turns of a comprehension: what is blocked in it stands apart -/
def tI (K : PySem.W.Frag) (f : EvI) : TI := fun σ H R => ∃ as S ds μ', ER K as σ H S ∧ f S = some (ds, μ') ∧ ∀ J as' H', Ext as H as' H' → StoR K as' H' μ' → ItD K as' H' J ds → R J H'
def itOf (g : D → Option (List D)) (f : EvE) : EvI := fun S => match f S with
  | some (d, μ1) => match g d with
    | some ds => some (ds, μ1)
    | none => none
  | none => none
theorem itOf_out {g : D → Option (List D)} {f : EvE} {S : Sg} {ds : List D} {μ' : List Cell} (e : itOf g f S = some (ds, μ')) : ∃ d, f S = some (d, μ') ∧ g d = some ds := by
  unfold itOf at e
  split at e
  · rename_i d μ1 ef
    split at e
    · rename_i ds' ed
      have e' := Option.some.inj e
      injection e' with e1 e2
      subst e1 e2
      exact ⟨d, ef, ed⟩
    · cases e
  · cases e
/-- lists, tuples, texts -/
def gSeq : D → Option (List D)
  | .lst xs | .rl xs | .tup xs => some xs
  | .str z => some (z.cps.toList.map fun c => .str ⟨#[c]⟩)
  | _ => none
theorem di_seq {tg : Expr} (he : PE X e (tF X.K f)) : PI X tg e (tI X.K (itOf gSeq f)) := by
  refine PI.imp (PI.or (pi_list he) (PI.or (pi_tup he) (pi_str he))) fun σ H R ⟨as, S, ds, μ', E, e, q⟩ => ?_
  obtain ⟨d, ef, ed⟩ := itOf_out e
  have list : ∀ {a : Addr} {vs : List V} {as1 : Ar} {H1 : Hp}, (∀ as' H', Ext as1 H1 as' H' → SqL X.K H' a vs) → Reps X.K as1 H1 vs ds → ItD X.K as1 H1 (Itl X.K a) ds := fun {a vs as1 H1} hq rs =>
    ⟨fun i as' H' X' hi => walk_list.goes i H' (by rw [rs.length]; exact hi) (hq as' H' X'), fun as' H' X' => by rw [← rs.length]; exact walk_list.stops H' (hq as' H' X'), fun i as' H' μ x H'' X' s' hi y => by
      obtain ⟨e1, e2⟩ := walk_list.yields i H' x H'' (by rw [rs.length]; exact hi) (hq as' H' X') y
      subst e1
      obtain ⟨d, e3, r⟩ := (rs.mv X').getV e2
      exact ⟨d, e3, .refl, r, s'⟩⟩
  unfold gSeq at ed
  split at ed
  · cases Option.some.inj ed
    refine .inl ⟨as, S, _, μ', E, ef, fun v as1 H1 X1 r1 s1 => ?_⟩
    cases r1 with
    | @lst a vs _ t n rs => exact ⟨a, rfl, ⟨vs, SqL.of t⟩, q _ as1 H1 X1 s1 (list (fun as' H' X' => SqL.of (at_mv t n X').1) rs)⟩
  · cases Option.some.inj ed
    refine .inl ⟨as, S, _, μ', E, ef, fun v as1 H1 X1 r1 s1 => ?_⟩
    cases r1 with
    | @rl a vs _ t rs => exact ⟨a, rfl, ⟨vs, t.sq⟩, q _ as1 H1 X1 s1 (list (fun as' H' X' => (t.mv X').sq) rs)⟩
  · cases Option.some.inj ed
    refine .inr (.inl ⟨as, S, _, μ', E, ef, fun v as1 H1 X1 r1 s1 => ?_⟩)
    cases r1 with
    | @tup a vs _ t rs =>
      refine ⟨a, rfl, ⟨vs, t.sq⟩, q _ as1 H1 X1 s1 ?_⟩
      have hq : ∀ as' H', Ext as1 H1 as' H' → SqT X.K H' a vs := fun as' H' X' => (t.mv X').sq
      exact ⟨fun i as' H' X' hi => walk_tup.goes i H' (by rw [rs.length]; exact hi) (hq as' H' X'), fun as' H' X' => by rw [← rs.length]; exact walk_tup.stops H' (hq as' H' X'), fun i as' H' μ x H'' X' s' hi y => by
        obtain ⟨e1, e2⟩ := walk_tup.yields i H' x H'' (by rw [rs.length]; exact hi) (hq as' H' X') y
        subst e1
        obtain ⟨d, e3, r⟩ := (rs.mv X').getV e2
        exact ⟨d, e3, .refl, r, s'⟩⟩
  · rename_i z
    cases Option.some.inj ed
    refine .inr (.inr ⟨as, S, _, μ', E, ef, fun v as1 H1 X1 r1 s1 => ?_⟩)
    cases r1
    have hl : (z.cps.toList.map fun c => D.str ⟨#[c]⟩).length = z.cps.size := by simp
    refine ⟨z, rfl, q _ as1 H1 X1 s1 ⟨fun i as' H' X' hi => walk_str.goes i H' (by rw [← hl]; exact hi) trivial, fun as' H' X' => by rw [hl]; exact walk_str.stops H' trivial, fun i as' H' μ x H'' X' s' hi y => ?_⟩⟩
    obtain ⟨e1, c, e2, e3⟩ := walk_str.yields i H' x H'' (by rw [← hl]; exact hi) trivial y
    subst e1 e3
    refine ⟨.str ⟨#[c]⟩, ?_, .refl, .str _, s'⟩
    rw [List.getElem?_map, Array.getElem?_toList, e2]
    rfl
  · cases ed
/-- range(n), range(a, b) -/
def rngD (lo : Int) (n : Nat) : List D := (List.range n).map fun (i : Nat) => .int (lo + (i : Int))
def gRng1 (fs : EvA) : EvI := fun S => match fs S with
  | some ([.int j], μ1) => if -(2 ^ 62) ≤ j ∧ j < 2 ^ 62 then some (rngD 0 j.toNat, μ1) else none
  | _ => none
theorem rng_it {K : PySem.W.Frag} {as : Ar} {H : Hp} {lo : Int} {n : Nat} : ItD K as H (Itr lo n) (rngD lo n) := by
  have hl : (rngD lo n).length = n := by simp [rngD]
  refine ⟨fun i as' H' X' hi => walk_range.goes i H' (by rw [← hl]; exact hi) trivial, fun as' H' X' => by rw [hl]; exact walk_range.stops H' trivial, fun i as' H' μ x H'' X' s' hi y => ?_⟩
  obtain ⟨e1, e2⟩ := walk_range.yields i H' x H'' (by rw [← hl]; exact hi) trivial y
  subst e1 e2
  refine ⟨.int (lo + (i : Int)), ?_, .refl, .int _, s'⟩
  rw [hl] at hi
  simp [rngD, hi]
theorem di_range1 {tg : Expr} {p : Pos} {fs : EvA} (hg : Gl X "range") (hm : X.mg "range" = none) (ha : PA X [a] (tFA X.K fs)) (hs : starEach [a] X.env = [(false, eval a X.env)] := by rfl) : PI X tg (.Call (.Name "range" p) [a] [] pos) (tI X.K (gRng1 fs)) :=
  PI.imp (pi_range1 hg hm ha hs) fun σ H R ⟨as, S, ds, μ', E, e, q⟩ => by
    unfold gRng1 at e
    split at e
    · rename_i j μ1 ef
      split at e
      · rename_i hj
        obtain ⟨rfl, rfl⟩ := pr_inj e
        refine ⟨as, S, _, μ1, E, ef, fun vs as1 H1 X1 r1 s1 => ?_⟩
        cases r1 with
        | cons r1 rt =>
        cases rt
        cases r1
        exact ⟨j, rfl, hj.1, hj.2, q _ as1 H1 X1 s1 rng_it⟩
      · cases e
    · cases e
def gRng2 (fs : EvA) : EvI := fun S => match fs S with
  | some ([.int i, .int j], μ1) => if -(2 ^ 62) ≤ i ∧ i < 2 ^ 62 ∧ -(2 ^ 62) ≤ j ∧ j < 2 ^ 62 then some (rngD i (j - i).toNat, μ1) else none
  | _ => none
theorem di_range2 {tg a2 : Expr} {p : Pos} {fs : EvA} (hg : Gl X "range") (hm : X.mg "range" = none) (ha : PA X [a, a2] (tFA X.K fs)) (hs : starEach [a, a2] X.env = [(false, eval a X.env), (false, eval a2 X.env)] := by rfl) (hs2 : starEach [a2] X.env = [(false, eval a2 X.env)] := by rfl) :
    PI X tg (.Call (.Name "range" p) [a, a2] [] pos) (tI X.K (gRng2 fs)) := PI.imp (pi_range2 hg hm ha hs hs2) fun σ H R ⟨as, S, ds, μ', E, e, q⟩ => by
    unfold gRng2 at e
    split at e
    · rename_i i j μ1 ef
      split at e
      · rename_i hj
        obtain ⟨rfl, rfl⟩ := pr_inj e
        refine ⟨as, S, _, μ1, E, ef, fun vs as1 H1 X1 r1 s1 => ?_⟩
        cases r1 with
        | cons r1 rt =>
        cases rt with
        | cons r2 rt =>
        cases rt
        cases r1
        cases r2
        exact ⟨i, j, rfl, hj, q _ as1 H1 X1 s1 rng_it⟩
      · cases e
    · cases e

/-! ### for -/
def forL (b : Bd) (body : EvS) : List D → Sg → Option (Fl × Sg)
  | [], S => some (.nx, S)
  | d :: ds, S => match b d S with
    | some S1 => match body S1 with
      | some (.nx, S2) => forL b body ds S2
      | some (.ct, S2) => forL b body ds S2
      | some (.bk, S2) => some (.nx, S2)
      | some (.rt x, S2) => some (.rt x, S2)
      | some (.ex n p, S2) => some (.ex n p, S2)
      | none => none
    | none => none
def sFor (it : EvI) (b : Bd) (body : EvS) : EvS := fun S => match it S with
  | some (ds, μ1) => forL b body ds { S with μ := μ1 }
  | none => none
theorem ds_for {tg iter : Expr} {it : EvI} (hp : PassesOwn (model X.prog X.w) X.A X.env X.xe) (hc : X.calm = true) (hi : PI X tg iter (tI X.K it)) (hg : PG X tg (tG X.K b ix)) (hb : PSs X ss (tFS X.K X.mg W g)) (hs : ∀ x, foldedSetIterable iter X.env x = pure x := by intro _; rfl) :
    PS X (.For tg iter ss [] pos) (tFS X.K X.mg W (sFor it b g)) := by
  refine (ps_for hp hc hi hg hb hs).imp fun D σ H ⟨as, S, fl, S', E, e, q⟩ => ?_
  unfold sFor at e
  split at e
  · rename_i ds μ1 ei
    refine ⟨as, S, ds, μ1, E, ei, fun J as1 H1 X1 s1 it1 => ?_⟩
    have q1 := endS_mv q X1 E.sto.trk
    have E1 := E.mvE X1 s1
    refine ⟨fun i m σ2 H2 => m = ds.length - i ∧ i ≤ ds.length ∧ ∃ as2 S2, Ext as1 H1 as2 H2 ∧ ER X.K as2 σ2 H2 S2 ∧ forL b g (ds.drop i) S2 = some (fl, S'), ⟨_, rfl, Nat.zero_le _, as1, _, .refl, E1, e⟩, ?_⟩
    rintro i m σ2 H2 ⟨rfl, hi, as2, S2, X2, E2, e2⟩
    by_cases hlt : i < ds.length
    · refine .inr ⟨it1.go i as2 H2 X2 hlt, fun σ3 H3 => ∃ as3 S3, Ext as1 H1 as3 H3 ∧ ER X.K as3 σ3 H3 S3 ∧ forL b g (ds.drop (i + 1)) S3 = some (fl, S'), fun σ3 H3 ⟨as3, S3, X3, E3, e3⟩ => ⟨_, by omega, rfl, hlt, as3, S3, X3, E3, e3⟩, fun x H3 y => ?_⟩
      obtain ⟨d, ed, X3, r3, s3⟩ := it1.yld i as2 H2 S2.μ x H3 X2 E2.sto hlt y
      have hd : ds.drop i = d :: ds.drop (i + 1) := by
        rw [List.drop_eq_getElem_cons hlt]
        rw [List.getElem?_eq_getElem hlt] at ed
        cases ed
        rfl
      rw [hd] at e2
      unfold forL at e2
      split at e2
      · rename_i S3 eb
        have E3 := E2.mvE X3 s3
        refine ⟨as2, S2, d, S3, E3, r3, eb, fun as4 σ4 H4 X4 E4 _ _ => ?_⟩
        have X14 := X2.trans (X3.trans X4 E2.sto.trk) s1.trk
        split at e2
        · rename_i S5 eg
          exact ⟨as4, S3, .nx, S5, E4, eg, fun as5 σ5 H5 X5 E5 => ⟨as5, S5, X14.trans X5 s1.trk, E5, e2⟩⟩
        · rename_i S5 eg
          exact ⟨as4, S3, .ct, S5, E4, eg, fun as5 σ5 H5 X5 E5 => ⟨as5, S5, X14.trans X5 s1.trk, E5, e2⟩⟩
        · rename_i S5 eg
          obtain ⟨rfl, rfl⟩ := pr_inj e2
          exact ⟨as4, S3, .bk, S5, E4, eg, fun as5 σ5 H5 X5 E5 => q1 as5 σ5 H5 (X14.trans X5 s1.trk) E5⟩
        · rename_i x5 S5 eg
          obtain ⟨rfl, rfl⟩ := pr_inj e2
          exact ⟨as4, S3, .rt x5, S5, E4, eg, fun as5 v5 H5 X5 r5 s5 => q1 as5 v5 H5 (X14.trans X5 s1.trk) r5 s5⟩
        · rename_i n5 p5 S5 eg
          obtain ⟨rfl, rfl⟩ := pr_inj e2
          exact ⟨as4, S3, .ex n5 p5, S5, E4, eg, fun as5 σ5 H5 C dx X5 E5 ec xr => q1 as5 σ5 H5 C dx (X14.trans X5 s1.trk) E5 ec xr⟩
        · cases e2
      · cases e2
    · have hn : i = ds.length := by omega
      subst hn
      rw [List.drop_length] at e2
      cases Option.some.inj e2
      exact .inl ⟨it1.stop as2 H2 X2, q1 as2 σ2 H2 X2 E2⟩
  · cases e
end
end DL
namespace DL
open PySem L2
/-! ### comprehensions -/
section
variable {K : PySem.W.Frag} {as as' : Ar} {H H' : Hp}
def Ar.blk (as : Ar) (p : Addr) : Ar := ⟨as.c, p :: as.b⟩
mutual
theorem Rep.unblk {b : List Addr} (hb : ∀ a ∈ b, a ∈ as.b) : ∀ {v : V} {d : D}, Rep K as H v d → Rep K ⟨as.c, b⟩ H v d
  | _, _, .non => .non
  | _, _, .bl b => .bl b
  | _, _, .int i => .int i
  | _, _, .str s => .str s
  | _, _, .ty n => .ty n
  | _, _, .h e => .h e
  | _, _, .lst t n r => .lst t ⟨n.1, fun z => n.2 (hb _ z)⟩ (Reps.unblk hb r)
  | _, _, .rl t r => .rl (t.elim (fun z => .inl ⟨z.1, z.2.1, fun w => z.2.2 (hb _ w)⟩) .inr) (Reps.unblk hb r)
  | _, _, .tup t r => .tup (t.elim (fun z => .inl ⟨z.1, z.2.1, fun w => z.2.2 (hb _ w)⟩) .inr) (Reps.unblk hb r)
  | _, _, .dct t n e r => .dct t ⟨n.1, fun z => n.2 (hb _ z)⟩ e (Reps.unblk hb r)
  | _, _, .exc e t n => .exc e t ⟨n.1, fun z => n.2 (hb _ z)⟩
  | _, _, .exf e t n t2 n2 r => .exf e t ⟨n.1, fun z => n.2 (hb _ z)⟩ t2 ⟨n2.1, fun z => n2.2 (hb _ z)⟩ (Rep.unblk hb r)
  | _, _, .cls e => .cls e
theorem Reps.unblk {b : List Addr} (hb : ∀ a ∈ b, a ∈ as.b) : ∀ {vs : List V} {ds : List D}, Reps K as H vs ds → Reps K ⟨as.c, b⟩ H vs ds
  | _, _, .nil => .nil
  | _, _, .cons h t => .cons (Rep.unblk hb h) (Reps.unblk hb t)
end
mutual
/-- what stands at a blocked place does not matter to data -/
theorem Rep.reblk {p : Addr} {o : HO} (hp : p ∈ as.b) : ∀ {v : V} {d : D}, Rep K as H v d → Rep K as (upd H p o) v d
  | _, _, .non => .non
  | _, _, .bl b => .bl b
  | _, _, .int i => .int i
  | _, _, .str s => .str s
  | _, _, .ty n => .ty n
  | _, _, .h e => .h e
  | _, _, .lst t n r => .lst (by rw [upd_ne fun e => n.2 (by rw [e]; exact hp)]; exact t) n (Reps.reblk hp r)
  | _, _, .rl t r => .rl (t.elim (fun z => .inl ⟨by unfold Rd; rw [upd_ne fun e => z.2.2 (by rw [e]; exact hp)]; exact z.1, z.2⟩) .inr) (Reps.reblk hp r)
  | _, _, .tup t r => .tup (t.elim (fun z => .inl ⟨by unfold Rd; rw [upd_ne fun e => z.2.2 (by rw [e]; exact hp)]; exact z.1, z.2⟩) .inr) (Reps.reblk hp r)
  | _, _, .dct t n e r => .dct (by rw [upd_ne fun e => n.2 (by rw [e]; exact hp)]; exact t) n e (Reps.reblk hp r)
  | _, _, .exc e t n => .exc e (by rw [upd_ne fun e => n.2 (by rw [e]; exact hp)]; exact t) n
  | _, _, .exf e t n t2 n2 r => .exf e (by rw [upd_ne fun e => n.2 (by rw [e]; exact hp)]; exact t) n (by rw [upd_ne fun e => n2.2 (by rw [e]; exact hp)]; exact t2) n2 (Rep.reblk hp r)
  | _, _, .cls e => .cls e
theorem Reps.reblk {p : Addr} {o : HO} (hp : p ∈ as.b) : ∀ {vs : List V} {ds : List D}, Reps K as H vs ds → Reps K as (upd H p o) vs ds
  | _, _, .nil => .nil
  | _, _, .cons h t => .cons (Rep.reblk hp h) (Reps.reblk hp t)
end
theorem CellR.map {as as' : Ar} {H H' : Hp} {a : Addr} {c : Cell} (h : CellR K as H a c) (e : H' a = H a) (f : ∀ {vs : List V} {ds : List D}, Reps K as H vs ds → Reps K as' H' vs ds) (g : ∀ c q, c ∉ as.c → H c = some (LamX.CodeO c q) → H' c = some (LamX.CodeO c q) ∧ c ∉ as'.c) : CellR K as' H' a c := by
  cases c with
  | lst ds => obtain ⟨vs, q, r⟩ := h; exact ⟨vs, e.trans q, f r⟩
  | obj n fs => obtain ⟨C, dx, fv, hn, q, l, r⟩ := h; exact ⟨C, dx, fv, hn, e.trans q, l, f r⟩
  | tab x n =>
    obtain ⟨c, ps, ht, q, tr, l⟩ := h
    refine ⟨c, ps, ht, e.trans q, tr, fun pos cv z => ?_⟩
    obtain ⟨e1, e2, e3, e4⟩ := l pos cv z
    exact ⟨e1, e2, g _ _ e4 e3⟩
end
section
variable {X : Cx} {elt tg iter : Expr} {ifs : List Expr} {pos : Pos}
theorem dts_nil : PTs X [] (tFT X.K fun S => some (true, S.μ)) := ⟨fun pins s σ H Q I ⟨as, S, k, μ', E, e, q⟩ => by
  obtain ⟨rfl, rfl⟩ := pr_inj e
  exact pts_nil.run pins s σ H Q I (q as H .refl E.sto)⟩
theorem dts_one {c : Expr} {t : EvT} (h : PT X c (tFT X.K t)) : PTs X [c] (tFT X.K t) := pts_one h
def lcL (b : Bd) (t : EvT) (f : EvE) (ρ : List (Option D)) : List D → List Cell → Option (List D × List Cell)
  | [], μ => some ([], μ)
  | d :: ds, μ => match b d ⟨ρ, μ⟩ with
    | some S1 => match t S1 with
      | some (true, μ1) => match f { S1 with μ := μ1 } with
        | some (x, μ2) => match lcL b t f ρ ds μ2 with
          | some (xs, μ3) => some (x :: xs, μ3)
          | none => none
        | none => none
      | some (false, μ1) => lcL b t f ρ ds μ1
      | none => none
    | none => none
def fLc (it : EvI) (b : Bd) (t : EvT) (f : EvE) (ws : List Nat) : EvE := fun S => match it S with
  | some (ds, μ1) => match lcL b t f (wipeR S.ρ ws) ds μ1 with
    | some (xs, μ2) => if xs.length ≤ sizeLine then some (.lst xs, μ2) else none
    | none => none
  | none => none
variable {it : EvI} {b : Bd} {ix : List Nat} {t : EvT} {f : EvE} {ws : List Nat} {W : WX}
theorem tF_lc {K : PySem.W.Frag} (hix : ∀ j ∈ ix, j ∈ ws) : ∀ σ H Q, tF K (fLc it b t f ws) σ H Q → tLc (tI K it) (tG K b ix) (tFT K t) (tF K f) ws σ H Q := fun σ H Q ⟨as, S, d, μ', E, e, q⟩ => by
  unfold fLc at e
  split at e
  · rename_i ds μ1 ei
    split at e
    · rename_i xs μ2 el
      split at e
      · rename_i hz
        obtain ⟨rfl, rfl⟩ := pr_inj e
        refine ⟨as, S, ds, μ1, E, ei, fun J as1 H1 X1 s1 it1 p hp => ?_⟩
        have hpo := s1.out hp
        -- from a turn to a later time
        have carry : ∀ {as2 as6 : Ar} {H2 H6 : Hp}, Ext as2 H2 as6 H6 → H2 p ≠ none → (p ∈ as2.b ∧ p ∉ as2.c) → (∀ a ∈ as1.b, a ∈ as2.b) → (p ∈ as6.b ∧ p ∉ as6.c) ∧ ∀ a ∈ as1.b, a ∈ as6.b := fun {as2 as6 H2 H6} Z hn hb hs => by
          obtain ⟨nb, e, _⟩ := Z.blk
          obtain ⟨more, e', f'⟩ := Z.pre
          refine ⟨⟨by rw [e]; exact List.mem_append_right _ hb.1, ?_⟩, fun a ha => by rw [e]; exact List.mem_append_right _ (hs a ha)⟩
          rw [e', List.mem_append]
          rintro (z | z)
          · exact hb.2 z
          · exact hn (f' p z)
        have X0 : Ext as1 H1 (as1.blk p) (upd H1 p (.lst [])) := ⟨⟨[], (List.append_nil _).symm, by simp⟩, ⟨[p], rfl, by simpa using hp⟩, (Ext.new hp hpo).old, (Ext.new hp hpo).cel⟩
        have s0 : StoR K (as1.blk p) (upd H1 p (.lst [])) μ1 := by
          refine ⟨s1.len, fun k a c ea ec => ?_, s1.nd, fun a ha => ?_⟩
          · exact (s1.at_ k a c ea ec).map (upd_ne fun z => hpo.1 (z ▸ List.mem_of_getElem? ea)) (fun r => r.mv X0) fun c q hc e => ⟨X0.old _ _ hc e, hc⟩
          · rcases List.mem_cons.mp ha with z | z
            · subst z; rw [upd_same]; simp
            · by_cases w : a = p
              · subst w; rw [upd_same]; simp
              · rw [upd_ne w]; exact s1.bl a z
        have tr0 := s1.trk
        -- what holds ahead of turn i
        let Pv : Nat → Hp → Prop := fun i H2 => ∃ as2 μ2' vs acc rest, (p ∈ as2.b ∧ p ∉ as2.c) ∧ Ext as1 H1 as2 H2 ∧ EnvR K as2 H2 (L2.wipe σ ws) (wipeR S.ρ ws) ∧ StoR K as2 H2 μ2' ∧ H2 p = some (.lst vs) ∧ Reps K as2 H2 vs acc ∧
          lcL b t f (wipeR S.ρ ws) (ds.drop i) μ2' = some (rest, μ2) ∧ acc ++ rest = xs ∧ (∀ a ∈ as1.b, a ∈ as2.b)
        refine ⟨fun i m H2 => m = ds.length - i ∧ i ≤ ds.length ∧ Pv i H2, ⟨_, rfl, Nat.zero_le _, as1.blk p, μ1, [], [], xs, ⟨List.mem_cons_self, hpo.1⟩, X0, (E.env.mv X1).mv X0 |>.wipe ws, s0, upd_same, .nil, el, rfl, fun a ha => List.mem_cons_of_mem _ ha⟩, ?_⟩
        rintro i m H2 ⟨rfl, hi, as2, μ3, vs, acc, rest, ⟨hb2, hc2⟩, X2, E2, s2, hp2, ra, el2, ex, hsub⟩
        by_cases hlt : i < ds.length
        · refine .inr ⟨it1.go i as2 H2 X2 hlt, Pv (i + 1), fun H3 z => ⟨_, by omega, rfl, hlt, z⟩, fun x H3 y => ?_⟩
          obtain ⟨d0, ed, X3, r3, s3⟩ := it1.yld i as2 H2 μ3 x H3 X2 s2 hlt y
          have hd : ds.drop i = d0 :: ds.drop (i + 1) := by
            rw [List.drop_eq_getElem_cons hlt]
            rw [List.getElem?_eq_getElem hlt] at ed
            cases ed
            rfl
          rw [hd] at el2
          unfold lcL at el2
          split at el2
          · rename_i S3 eb
            have E3 : ER K as2 (L2.wipe σ ws) H3 ⟨wipeR S.ρ ws, μ3⟩ := ⟨E2.mv X3, s3⟩
            refine ⟨as2, _, d0, S3, E3, r3, eb, fun as4 σ4 H4 X4 E4 l4 g4 => ⟨?_, ?_⟩⟩
            · refine (wipe_agree (l4.trans rfl) fun j hj => g4 j fun z => hj (hix j z)).trans ?_
              refine wipe_agree (wipe_length σ ws) fun j hj => ?_
              exact wipe_out hj
            have X24 := X3.trans X4 s2.trk
            split at el2
            · rename_i μ4 et
              refine ⟨as4, S3, true, μ4, E4, et, fun as5 H5 X5 s5 => iteT ?_⟩
              split at el2
              · rename_i x5 μ5 ef
                split at el2
                · rename_i ys μ6 er
                  obtain ⟨rfl, rfl⟩ := pr_inj el2
                  refine ⟨as5, _, x5, μ5, E4.mvE X5 s5, ef, fun y6 as6 H6 X6 r6 s6 => ?_⟩
                  have X26 := X24.trans (X5.trans X6 E4.sto.trk) s2.trk
                  obtain ⟨⟨hp6, hc6⟩, hs6⟩ := carry X26 (by rw [hp2]; simp) ⟨hb2, hc2⟩ hsub
                  have hv6 : H6 p = some (.lst vs) := X26.old p _ hc2 hp2
                  have hl : acc.length < sizeLine := by
                    rw [← ex, List.length_append, List.length_cons] at hz
                    omega
                  have ra6 := ra.mv X26
                  have X16 := X2.trans X26 tr0
                  have E6 := E2.mv X26
                  refine ⟨vs, hv6, by rw [ra.length]; exact hl, as6, μ5, vs ++ [y6], acc ++ [x5], ys, ⟨hp6, hc6⟩, ⟨X16.pre, X16.blk, fun a o ha e => ?_, fun a ha e => ?_⟩, ⟨E6.1, fun j e he => ?_⟩, ⟨s6.len, fun k a c ea ec => ?_, s6.nd, fun a ha => ?_⟩, upd_same, (ra6.snoc r6).reblk hp6, er, by rw [← ex, List.append_assoc]; rfl, hs6⟩
                  · rw [upd_ne (ne_of_none e hp)]; exact X16.old a o ha e
                  · by_cases w : a = p
                    · subst w; rw [upd_same]; simp
                    · rw [upd_ne w]; exact X16.cel a ha e
                  · obtain ⟨v, hv, r⟩ := E6.2 j e he
                    exact ⟨v, hv, r.reblk hp6⟩
                  · exact (s6.at_ k a c ea ec).map (upd_ne fun z => hc6 (z ▸ List.mem_of_getElem? ea)) (fun r => r.reblk hp6) fun c q hc e => ⟨by rw [upd_ne fun z => by rw [z, hv6] at e; unfold LamX.CodeO at e; cases e]; exact e, hc⟩
                  · by_cases w : a = p
                    · subst w; rw [upd_same]; simp
                    · rw [upd_ne w]; exact s6.bl a ha
                · cases el2
              · cases el2
            · rename_i μ4 et
              refine ⟨as4, S3, false, μ4, E4, et, fun as5 H5 X5 s5 => iteF ?_⟩
              have X25 := X24.trans X5 s2.trk
              obtain ⟨h5, hs5⟩ := carry X25 (by rw [hp2]; simp) ⟨hb2, hc2⟩ hsub
              exact ⟨as5, μ4, vs, acc, rest, h5, X2.trans X25 tr0, E2.mv X25, s5, X25.old p _ hc2 hp2, ra.mv X25, el2, ex, hs5⟩
            · cases el2
          · cases el2
        · have hn : i = ds.length := by omega
          subst hn
          rw [List.drop_length] at el2
          obtain ⟨rfl, rfl⟩ := pr_inj el2
          rw [List.append_nil] at ex
          subst ex
          refine .inl ⟨it1.stop as2 H2 X2, q (.ref p) ⟨as2.c, as1.b⟩ H2 (X1.trans ⟨X2.pre, ⟨[], rfl, by simp⟩, X2.old, X2.cel⟩ E.sto.trk) (.lst hp2 ⟨hc2, hpo.2⟩ (ra.unblk hsub)) ⟨s2.len, fun k a c ea ec => (s2.at_ k a c ea ec).map rfl (fun r => r.unblk hsub) fun c q h e => ⟨e, h⟩, s2.nd, fun a ha => s2.bl a (hsub a ha)⟩⟩
      · cases e
    · cases e
  · cases e

theorem de_lc {scope : Scope} {own : List (Str × Nat)} (hc : X.calm = true) (hN : X.N.Nodup) (hi : PI X tg iter (tI X.K it)) (ok : BlkOk X.N X.env.scope scope own)
    (hg : ∀ (s : Shared) (H : Hp) (C : Addr) (cl : List (Str × Addr)) (fp : List Addr), PG (X.blk s H scope (compEnvC scope cl C X.env) fp) tg (tG X.K b ix))
    (ht : ∀ (s : Shared) (H : Hp) (C : Addr) (cl : List (Str × Addr)) (fp : List Addr), PTs (X.blk s H scope (compEnvC scope cl C X.env) fp) ifs (tFT X.K t))
    (he : ∀ (s : Shared) (H : Hp) (C : Addr) (cl : List (Str × Addr)) (fp : List Addr), PE (X.blk s H scope (compEnvC scope cl C X.env) fp) elt (tF X.K f))
    (hix : ∀ j ∈ ix, j ∈ own.map (·.2) := by decide) (hs : ∀ x, foldedSetIterable iter X.env x = pure x := by intro _; rfl) :
    PE X (.ListComp elt [⟨tg, iter, ifs, 0⟩] scope pos) (tF X.K (fLc it b t f (own.map (·.2)))) := (pe_lc hc hN hi ok hg ht he hs).imp (tF_lc hix)
theorem ds_setLc {i : Nat} {y : Str} {py spos : Pos} {scope : Scope} {own : List (Str × Nat)} (hc : X.calm = true) (hN : X.N.Nodup) (hy : X.N[i]? = some y) (hyl : X.env.scope.names.lookup y = some .local)
    (hsw : swapsWith (.ListComp elt [⟨tg, iter, ifs, 0⟩] scope pos) (some (.Name y py)) spos.line X.env = pure true) (hi : PI X tg iter (tI X.K it)) (ok : BlkOk X.N X.env.scope scope own)
    (hg : ∀ (s : Shared) (H : Hp) (C : Addr) (cl : List (Str × Addr)) (fp : List Addr), PG (X.blk s H scope (compEnvC scope cl C X.env) fp) tg (tG X.K b ix))
    (ht : ∀ (s : Shared) (H : Hp) (C : Addr) (cl : List (Str × Addr)) (fp : List Addr), PTs (X.blk s H scope (compEnvC scope cl C X.env) fp) ifs (tFT X.K t))
    (he : ∀ (s : Shared) (H : Hp) (C : Addr) (cl : List (Str × Addr)) (fp : List Addr), PE (X.blk s H scope (compEnvC scope cl C X.env) fp) elt (tF X.K f))
    (hix : ∀ j ∈ ix, j ∈ own.map (·.2) := by decide) (hs : ∀ x, foldedSetIterable iter X.env x = pure x := by intro _; rfl) :
    PS X (.Assign [.Name y py] (.ListComp elt [⟨tg, iter, ifs, 0⟩] scope pos) spos) (tFS X.K X.mg W (bThen (bName i) (fLc it b t f (own.map (·.2))))) :=
  (ps_setLc hc hN hy hyl hsw hi ok hg ht he hs).imp fun D σ H z => tF_lc hix σ H _ (bThen_of (g := gName i) gName_of D σ H z)
end

/-! ### defs -/
abbrev FnF := List D → List Cell → Option (Ov × List Cell)
/-- what is wished of an exception, by its name -/
def outD (K : PySem.W.Frag) (mg : Str → Option Value) (as : Ar) (H : Hp) (Q : VK) (E : XK) : Ov → List Cell → Prop
  | .v d, μ' => ∀ v as' H', Ext as H as' H' → Rep K as' H' v d → StoR K as' H' μ' → Q v H'
  | .x n p, μ' => ∀ as' H' C dx, Ext as H as' H' → StoR K as' H' μ' → mg n = some C → XR dx p → E C dx H'
def spD (K : PySem.W.Frag) (mg : Str → Option Value) (n : Nat) (F : FnF) : Sp := fun vs H Q E => ∃ as μ ds o μ', vs.length = n ∧ Reps K as H vs ds ∧ StoR K as H μ ∧ F ds μ = some (o, μ') ∧ outD K mg as H Q E o μ'
def fnF (n N : Nat) (body : EvS) : FnF := fun ds μ => match body ⟨ds.map some ++ List.replicate (N - n) none, μ⟩ with
  | some (.rt d, S') => some (.v d, S'.μ)
  | some (.nx, S') => some (.v .non, S'.μ)
  | some (.ex n p, S') => some (.x n p, S'.μ)
  | _ => none
/-- a def keeps its promise wherever nothing that guards runs around it -/
structure FG (P : Program) (w : World) (K : PySem.W.Frag) (mg : Str → Option Value) (base : Heap) (k : Nat) (f : Addr) (fd : FuncData) (n : Nat) (F : FnF) : Prop where
  ps : ∃ ps : List Str, ps.length = n ∧ Binds K fd ps [] ∧ PySem.W.keepIn K (.ref f) = true ∧
    ∀ (A : Around) (stk : List Env) (st : Shared) (H : Hp) (ar : Args) (us : List Value) (vs : List V) (Q : VK) (E : XK), Room k A → A.guards = some [] → Env0 P w K mg base A stk st H → BindsTo st fd ar (ps.zip us) → Vals vs us → spD K mg n F vs H Q E →
      codeAny (model P w) A (.call (.ref f) ar) (CR (CX P w) stk P w H st Q E) st
theorem FG.mono {P : Program} {w : World} {K : PySem.W.Frag} {mg : Str → Option Value} {base : Heap} {j k : Nat} {f : Addr} {fd : FuncData} {n : Nat} {F : FnF} (h : FG P w K mg base j f fd n F) (hk : j ≤ k) : FG P w K mg base k f fd n F := by
  obtain ⟨ps, a, b, c, q⟩ := h.ps
  exact ⟨ps, a, b, c, fun A stk st H ar us vs Q E hr => q A stk st H ar us vs Q E (hr.mono hk)⟩
section
variable {P : Program} {w : World} {K : PySem.W.Frag} {mg : Str → Option Value} {base : Heap}
theorem guards_deeper {A : Around} {env : Env} (h : A.guards = some []) : (A.deeper env).guards = some [] := h
abbrev cxB (P : Program) (w : World) (K : PySem.W.Frag) (mg : Str → Option Value) (base : Heap) (N : List Str) (qual : Str) (st : Stmt) (f : Addr) (cdv : Value) (A : Around) (stk : List Env) (s : Shared) (H : Hp) (E : XK) : Cx :=
  cxOf (CX P w) P w K mg base N qual (defScope st) f cdv A stk s H E
/-- a def's own wish -/
abbrev WfD (E : XK) : WX := fun cls d _ H => E cls d H
theorem takesB {N : List Str} {qual : Str} {st : Stmt} {f : Addr} {cdv : Value} {A : Around} {stk : List Env} {s : Shared} {H : Hp} {E : XK} : Takes (cxB P w K mg base N qual st f cdv A stk s H E) (WfD E) :=
  takes_of (X := cxB P w K mg base N qual st f cdv A stk s H E) rfl rfl rfl rfl
theorem passB {N : List Str} {qual : Str} {st : Stmt} {f : Addr} {cdv : Value} {A : Around} {stk : List Env} {s : Shared} {H : Hp} {E : XK} : PassesOwn (model P w) (cxB P w K mg base N qual st f cdv A stk s H E).A (cxB P w K mg base N qual st f cdv A stk s H E).env (cxB P w K mg base N qual st f cdv A stk s H E).xe :=
  passes_of (X := cxB P w K mg base N qual st f cdv A stk s H E) rfl
theorem fg_def {x qual : Str} {st : Stmt} {f : Addr} {fd : FuncData} {N ps : List Str} {k : Nat} {g : EvS} (Fu : Fun K x qual st f fd) (S : FnScope N ps (defScope st))
    (hB : ∀ (kV doc pm : Value) (an : Option Addr) (cdv ct : Value) (us : List Value), us.length = ps.length → bindArgs (PySem.W.fnOf x qual (defArgs st) (defBody st) (defScope st) .none kV doc pm an cdv ct) ⟨us, []⟩ = pure (ps.zip us))
    (hbody : ∀ (cdv : Value) (A : Around) (stk : List Env) (s : Shared) (H : Hp) (E : XK), Room k (cxB P w K mg base N qual st f cdv A stk s H E).A → (cxB P w K mg base N qual st f cdv A stk s H E).A.guards = some [] → PSs (cxB P w K mg base N qual st f cdv A stk s H E) (defBody st) (tFS K mg (WfD E) g)) :
    FG P w K mg base (k + 1) f fd ps.length (fnF ps.length N.length g) := by
  refine ⟨⟨ps, rfl, Fu.binds hB, Fu.kp, fun A stk st' H ar us vs Q E hr hgd e0 hbind r hsp => ?_⟩⟩
  obtain ⟨oc, od, kV, doc, pm, an, cdv, ct, osl, rfl, lk, hcd⟩ := Fu.ex
  obtain ⟨as, μ, ds, o, μ', hl, rs, sto, ef, q⟩ := hsp
  have KX : K.In st'.heap := e0.mod.kin.keeps fun b o e => (e0.bs b o e).1
  have nolim : st'.heap.NoLimit := e0.mod.nolimit.keeps fun b o e => (e0.bs b o e).1
  have seen : ∀ y ∈ ps.zip us, (defScope st).names.lookup y.1 = some .local ∨ ((defScope st).names.lookup y.1 = some .cell ∧ ((cellsFrom (st'.heap.objs.size + 1) (defScope st).names []).lookup y.1).isSome = true) := fun ⟨n, v⟩ hy =>
    (S.par n (List.of_mem_zip hy).1).elim .inl fun c => .inr ⟨c, PySem.W.cellsFrom_some _ _ _ (.inl c)⟩
  refine codeAny_call_function hr.depth (KX _ _ lk) rfl S.co S.gen rfl (PySem.W.codeRec_of KX hcd) (hbind _ _ _ _ ?_)
  refine wpAny_newFunctionEnv_cells S.kind seen fun env he s1 ic => ?_
  subst he
  refine ⟨nolim.keeps ic.toInCall.keep, codeAny_func ?_⟩
  have I0 : Inv (cxB P w K mg base N qual st f cdv A stk st' H E) [] (L2.start N vs) H s1 := inv_start S hr.hd e0 hl r ic
  have hps : ps.length ≤ N.length := by
    have c := congrArg List.length S.pre
    rw [List.length_take] at c
    omega
  have hb := hbody cdv A stk st' H E (hr.deeper _) (guards_deeper hgd)
  -- the entry: the parameters' data
  have en : EnvR K as H (L2.start N vs) (ds.map some ++ List.replicate (N.length - ps.length) none) := by
    refine ⟨?_, fun i d' e => ?_⟩
    · unfold L2.start
      rw [List.length_append, List.length_append, List.length_map, List.length_map, List.length_replicate, List.length_replicate, rs.length, ← hl, rs.length]
    · unfold L2.start
      by_cases hi : i < ds.length
      · rw [List.getElem?_append_left (by simpa using hi), List.getElem?_map] at e
        obtain ⟨d2, e2, e3⟩ := Option.map_eq_some_iff.mp e
        cases e3
        obtain ⟨v, hv, rv⟩ := rs.get e2
        refine ⟨v, ?_, rv⟩
        rw [List.getElem?_append_left (by rw [List.length_map, rs.length]; exact hi), List.getElem?_map, hv]
        rfl
      · rw [List.getElem?_append_right (by simpa using hi), List.getElem?_replicate] at e
        split at e <;> cases e
  obtain ⟨fl, S', eg, hq⟩ : ∃ fl S', g ⟨ds.map some ++ List.replicate (N.length - ps.length) none, μ⟩ = some (fl, S') ∧ endS K mg (WfD E) as H { nx := fun _ H' => Q .non H', rt := Q } fl S' := by
    unfold fnF at ef
    split at ef
    · rename_i d2 S2 e2
      obtain ⟨rfl, rfl⟩ := pr_inj ef
      exact ⟨.rt d2, S2, e2, fun as' v H' X' rv s' => q v as' H' X' rv s'⟩
    · rename_i S2 e2
      obtain ⟨rfl, rfl⟩ := pr_inj ef
      exact ⟨.nx, S2, e2, fun as' σ' H' X' E' => q .non as' H' X' .non E'.sto⟩
    · rename_i n2 p2 S2 e2
      obtain ⟨rfl, rfl⟩ := pr_inj ef
      exact ⟨.ex n2 p2, S2, e2, fun as' σ' H' C dx X' E' ec xr => q as' H' C dx X' E'.sto ec xr⟩
    · cases ef
  refine wpAny_mono (hb.run [] s1 (L2.start N vs) H { nx := fun _ H' => Q .non H', rt := Q } I0 ⟨as, ⟨_, μ⟩, fl, S', ⟨en, sto⟩, eg, hq⟩) (fun fl' s' z => ?_) fun e s' z => z
  cases fl' with
  | ret u =>
    obtain ⟨v, σ', H', J, rv, y⟩ := z
    exact ⟨v, H', J.os, J.bare, J.base, J.hok, rv, y⟩
  | next =>
    obtain ⟨σ', H', J, y⟩ := z
    exact ⟨.non, H', J.os, J.bare, J.base, J.hok, rfl, y⟩
  | brk =>
    obtain ⟨_, _, _, y⟩ := z
    exact y.elim
  | cont =>
    obtain ⟨_, _, _, y⟩ := z
    exact y.elim
end
/-! ### calls -/
section
variable {X : Cx} {k n : Nat} {f : Addr} {fd : FuncData} {F : FnF} {x : Str} {p pos : Pos} {e : Expr} {es : List Expr} {fs : EvA} {W : WX}
theorem run_fg {pins : List (Addr × Obj)} {σ : St} {H : Hp} {s : Shared} {Q : VK} {E : XK} {us : List Value} {vs : List V} (G : FG X.prog X.w X.K X.mg X.base k f fd n F) (hr : Room k X.A) (hgd : X.A.guards = some [])
    (I : Inv X pins σ H s) (r : Vals vs us) (hx : PassesAt (L2.CX X.prog X.w) X σ E) (h : spD X.K X.mg n F vs H Q E) : PySem.W.keepIn X.K (.ref f) = true ∧ wpAny (model X.prog X.w) X.A (call (.ref f) us) (EP X pins σ Q) X.xe s := by
  obtain ⟨ps, hn, hb, hk, run⟩ := G.ps
  refine ⟨hk, ?_⟩
  have hl : (us ++ []).length = ps.length := by
    obtain ⟨as, μ, ds, d, μ', hl, _⟩ := h
    rw [List.append_nil, ← r.length, hl, hn]
  have q := run X.A X.stack s H ⟨us, []⟩ (us ++ []) vs Q E hr hgd I.env0 (hb s us I.kIn hl) (by rw [List.append_nil]; exact r) h
  refine wpAny_call (codeAny_mono q fun res s' hq => ?_)
  cases res with
  | error e => exact hx pins H s e s' I hq
  | ok fl => cases fl with
    | ret u => exact I.after hq
    | _ => exact False.elim hq
theorem passF {σ : St} : PassesAt (L2.CX X.prog X.w) X σ (fun _ _ _ => False) := fun _ _ _ _ _ _ ⟨_, _, _, _, _, _, _, _, _, _, _, _, z⟩ => z.elim
def fCallX (F : FnF) (fs : EvA) : EvX := fun S => match fs S with
  | some (ds, μ1) => F ds μ1
  | none => none
def fCall (F : FnF) (fs : EvA) : EvE := fNox (fCallX F fs)
def fLen (n : Nat) (fs : EvA) : EvA := fun S => match fs S with
  | some (ds, μ1) => if ds.length = n then some (ds, μ1) else none
  | none => none
theorem fCallX_out {S : Sg} {o : Ov} {μ' : List Cell} (e : fCallX F (fLen n fs) S = some (o, μ')) : ∃ ds μ1, fs S = some (ds, μ1) ∧ ds.length = n ∧ F ds μ1 = some (o, μ') := by
  unfold fCallX fLen at e
  split at e
  · rename_i ds μ1 e1
    split at e1
    · rename_i ds' μ1' es
      split at e1
      · rename_i hn
        obtain ⟨rfl, rfl⟩ := pr_inj e1
        exact ⟨_, _, es, hn, e⟩
      · cases e1
    · cases e1
  · cases e
/-- a call whose arguments are read, of any end -/
theorem call_any {pins : List (Addr × Obj)} {s : Shared} {σ : St} {H : Hp} {Q : VK} {E : XK} {as : Ar} {S : Sg} {o : Ov} {μ' : List Cell} (G : FG X.prog X.w X.K X.mg X.base k f fd n F) (hr : Room k X.A) (hgd : X.A.guards = some []) (hg : Gl X x) (hm : X.mg x = some (.ref f)) (ha : PA X (e :: es) (tFA X.K fs)) (hdb : (x == ("__debug__" : Str)) = false)
    (he : starEach (e :: es) X.env = (false, eval e X.env) :: starEach es X.env) (hpl : (backTo pos (starEach es X.env)).any (·.1) = false) (I : Inv X pins σ H s) (ee : ER X.K as σ H S) (ed : fCallX F (fLen n fs) S = some (o, μ')) (hx : PassesAt (L2.CX X.prog X.w) X σ E) (q : outD X.K X.mg as H Q E o μ') :
    wpAny (model X.prog X.w) X.A (eval (.Call (.Name x p) (e :: es) [] pos) X.env) (EP X pins σ Q) X.xe s := by
  obtain ⟨ps, _, _, hk, _⟩ := G.ps
  obtain ⟨ds, μ1, ea, hn, ef⟩ := fCallX_out ed
  refine wpAny_Call_Name_kw (ld_glob I hg hm ?_ hdb)
  refine PySem.W.callWith_K (h₀ := X.base) I.ok.mod.kin hk (thn (ha.run pos pins s σ H (fun vs H1 => spD X.K X.mg n F vs H1 Q E) I ⟨as, S, _, _, ee, ea, fun vs as1 H1 X1 r1 s1 => ?_⟩) fun us s1 ⟨vs, H1, I1, r1, q1⟩ => ⟨I1.kIn, (run_fg G hr hgd I1 r1 hx q1).2⟩) he hpl
  refine ⟨as1, _, _, o, μ', r1.length.trans hn, r1, s1, ef, ?_⟩
  cases o with
  | v d => exact fun v as2 H2 X2 r2 s2 => q v as2 H2 (X1.trans X2 ee.sto.trk) r2 s2
  | x m pp => exact fun as2 H2 C dx X2 s2 ec xr => q as2 H2 C dx (X1.trans X2 ee.sto.trk) s2 ec xr
theorem de_call (G : FG X.prog X.w X.K X.mg X.base k f fd n F) (hr : Room k X.A) (hgd : X.A.guards = some []) (hg : Gl X x) (hm : X.mg x = some (.ref f)) (ha : PA X (e :: es) (tFA X.K fs)) (hdb : (x == ("__debug__" : Str)) = false := by decide)
    (he : starEach (e :: es) X.env = (false, eval e X.env) :: starEach es X.env := by rfl) (hpl : (backTo pos (starEach es X.env)).any (·.1) = false := by rfl) :
    PE X (.Call (.Name x p) (e :: es) [] pos) (tF X.K (fCall F (fLen n fs))) :=
  ⟨fun pins s σ H Q I ⟨as, S, d, μ', E, ed, q⟩ => call_any G hr hgd hg hm ha hdb he hpl I E (fNox_out ed) passF q⟩
theorem de_callX (tk : Takes X W) (G : FG X.prog X.w X.K X.mg X.base k f fd n F) (hr : Room k X.A) (hgd : X.A.guards = some []) (hg : Gl X x) (hm : X.mg x = some (.ref f)) (ha : PA X (e :: es) (tFA X.K fs)) (hdb : (x == ("__debug__" : Str)) = false := by decide)
    (he : starEach (e :: es) X.env = (false, eval e X.env) :: starEach es X.env := by rfl) (hpl : (backTo pos (starEach es X.env)).any (·.1) = false := by rfl) :
    PE X (.Call (.Name x p) (e :: es) [] pos) (tFX X.K X.mg W (fCallX F (fLen n fs))) :=
  ⟨fun pins s σ H Q I ⟨as, S, o, μ', E, ed, q⟩ => call_any (E := L2.WE W σ) G hr hgd hg hm ha hdb he hpl I E ed (passAt tk σ) (by
    cases o with
    | v d => exact q
    | x m pp => exact q)⟩
theorem call_any0 {pins : List (Addr × Obj)} {s : Shared} {σ : St} {H : Hp} {Q : VK} {E : XK} {as : Ar} {S : Sg} {o : Ov} {μ' : List Cell} (G : FG X.prog X.w X.K X.mg X.base k f fd 0 F) (hr : Room k X.A) (hgd : X.A.guards = some []) (hg : Gl X x) (hm : X.mg x = some (.ref f)) (hdb : (x == ("__debug__" : Str)) = false)
    (I : Inv X pins σ H s) (ee : ER X.K as σ H S) (ed : fCallX F fNil S = some (o, μ')) (hx : PassesAt (L2.CX X.prog X.w) X σ E) (q : outD X.K X.mg as H Q E o μ') :
    wpAny (model X.prog X.w) X.A (eval (.Call (.Name x p) [] [] pos) X.env) (EP X pins σ Q) X.xe s := by
  obtain ⟨ps, _, _, hk, _⟩ := G.ps
  refine wpAny_Call_Name_kw (ld_glob I hg hm ?_ hdb)
  exact PySem.W.callWith_K0 I.kIn hk (run_fg (us := []) (vs := []) G hr hgd I .nil hx ⟨as, S.μ, [], o, μ', rfl, .nil, ee.sto, ed, q⟩).2
theorem de_call0 (G : FG X.prog X.w X.K X.mg X.base k f fd 0 F) (hr : Room k X.A) (hgd : X.A.guards = some []) (hg : Gl X x) (hm : X.mg x = some (.ref f)) (hdb : (x == ("__debug__" : Str)) = false := by decide) :
    PE X (.Call (.Name x p) [] [] pos) (tF X.K (fCall F fNil)) :=
  ⟨fun pins s σ H Q I ⟨as, S, d, μ', E, ed, q⟩ => call_any0 G hr hgd hg hm hdb I E (fNox_out ed) passF q⟩
theorem de_callX0 (tk : Takes X W) (G : FG X.prog X.w X.K X.mg X.base k f fd 0 F) (hr : Room k X.A) (hgd : X.A.guards = some []) (hg : Gl X x) (hm : X.mg x = some (.ref f)) (hdb : (x == ("__debug__" : Str)) = false := by decide) :
    PE X (.Call (.Name x p) [] [] pos) (tFX X.K X.mg W (fCallX F fNil)) :=
  ⟨fun pins s σ H Q I ⟨as, S, o, μ', E, ed, q⟩ => call_any0 (E := L2.WE W σ) G hr hgd hg hm hdb I E ed (passAt tk σ) (by
    cases o with
    | v d => exact q
    | x m pp => exact q)⟩
end
end DL
namespace DL
open PySem PySem.Spec PyProof.Rows L2
/-! ### the law's own call -/
theorem room_caller : callerA.guards = some [] := rfl
theorem law_data {P : Program} {w : World} {K : PySem.W.Frag} {mg mb : Str → Option Value} {k : Nat} {fa a : Addr} {fd : FuncData} {F : FnF} {s : Shared} {us : List Value} {ns : List Int}
    (kin : K.In s.heap) (gl : s.heap.Ns mainGlobals mg) (bl : s.heap.Ns builtinsNs mb) (bb : ∀ x : Str, x ≠ "__name__" → mb x = bootBuiltins x) (nl : s.heap.NoLimit) (gens : s.gens = #[])
    (hobj : s.heap.get? a = some { cls := .type "list", data := .seq us.toArray }) (hints : IntsAre us ns) (few : ns.length ≤ sizeLine) (hr : Room k callerA)
    (G : ∀ base : Heap, K.In base → base.Ns mainGlobals mg → FG P w K mg base k fa fd 1 F)
    (val : ∃ μ', F [.rl (ns.map D.int)] [] = some (.v (.bl true), μ')) :
    codeAny (model P w) callerA (.call (.ref fa) ⟨[.ref a], []⟩) (fun r s' => r = .ok (.ret (.bool true)) ∧ OldK s.heap s'.heap ∧ s'.os = s.os ∧ AllBare s'.gens) s := by
  have rv := vals_ints hints
  obtain ⟨μ', val⟩ := val
  -- an abstract heap that tracks the script alone, or nothing
  have core : ∀ H : Hp, (∀ b u, H b = some u → b = a ∧ ∃ o vs, u = .frz o (.lst vs)) → TrL K ⟨[], []⟩ H a (ns.map V.int) → HOk P w H s.heap → (H a ≠ none → K.lookup a = none) →
      codeAny (model P w) callerA (.call (.ref fa) ⟨[.ref a], []⟩) (fun r s' => r = .ok (.ret (.bool true)) ∧ OldK s.heap s'.heap ∧ s'.os = s.os ∧ AllBare s'.gens) s := by
    intro H only tr hok hK
    have hid : ∀ {b : Addr} {o : Obj}, s.heap.get? b = some o → H b = none → (hidT s.heap H).get? b = some o := fun e n => hidT_get e n
    have free : ∀ {b : Addr} {o : Obj} {es : Array DictEntry} {ep : Nat}, s.heap.get? b = some o → o.data = .dict es ep → H b = none := fun {b o es ep} e d => by
      cases q : H b with
      | none => rfl
      | some u =>
        obtain ⟨rfl, _⟩ := only b u q
        rw [hobj] at e
        cases e
        cases d
    have ns1 : ∀ {b : Addr} {m : Str → Option Value}, s.heap.Ns b m → (hidT s.heap H).Ns b m := fun {b m} ⟨o, es, ep, e, d, r⟩ => ⟨o, es, ep, hid e (free e d), d, r⟩
    have kin1 : K.In (hidT s.heap H) := fun b o e => hid (kin b o e) (by
      cases q : H b with
      | none => rfl
      | some u =>
        obtain ⟨rfl, _⟩ := only b u q
        have z := hK (by rw [q]; simp)
        rw [z] at e
        cases e)
    have md : Mod K mg (hidT s.heap H) := ⟨kin1, ns1 gl, ⟨mb, ns1 bl, bb⟩, nl.elim fun mc z => ⟨mc, ns1 z.1, z.2⟩⟩
    have en : Env0 P w K mg (hidT s.heap H) callerA [] s H := ⟨rfl, md, fun b o e => of_hidT e, by rw [hidT_size]; exact Nat.le_refl _, trivial, fun b hb => (List.not_mem_nil hb).elim, hok, .of_eq gens⟩
    obtain ⟨ps, hn, hb, hk, run⟩ := (G _ kin1 (ns1 gl)).ps
    have hbd : BindsTo s fd ⟨[.ref a], []⟩ (ps.zip [.ref a]) := by
      have z := hb s [.ref a] kin (by simp [hn])
      simpa using z
    refine codeAny_mono (run callerA [] s H ⟨[.ref a], []⟩ [.ref a] [.ref a] (fun v _ => v = .bl true) (fun _ _ _ => False) hr room_caller en hbd (.cons rfl .nil)
      ⟨⟨[], []⟩, [], [.rl (ns.map D.int)], .v (.bl true), μ', rfl, .cons (.rl tr Reps.ints) .nil, ⟨rfl, fun k b c e => by simp at e, List.nodup_nil, fun b hb => (List.not_mem_nil hb).elim⟩, val, fun v as' H' X' r s' => by cases r; rfl⟩) fun r s' h => ?_
    cases r with
    | error e =>
      obtain ⟨_, _, _, _, _, _, _, _, _, _, _, _, z⟩ := h
      exact z.elim
    | ok fl => cases fl with
      | ret u =>
        obtain ⟨v, H', eos, bare, un, hok', ru, q⟩ := h
        subst q
        cases ru
        refine ⟨rfl, OldK.of_keep fun b o e => ?_, eos, bare⟩
        cases z : H b with
        | none => exact un.keep b o e z (fun y => (List.not_mem_nil y).elim) (by simp)
        | some u =>
          obtain ⟨rfl, ob, vs, rfl⟩ := only b u z
          obtain ⟨e1, _⟩ := hok b _ z
          obtain ⟨e2, _⟩ := hok' b _ (un.frzs b ob _ z)
          rw [e] at e1
          cases e1
          exact e2
      | _ => exact False.elim h
  have lenV : ns.length = us.length := by
    have z := rv.length
    rw [List.length_map] at z
    exact z
  cases hk : K.lookup a with
  | some o =>
    have e := kin a o hk
    rw [hobj] at e
    cases e
    refine core (fun _ => none) (fun b u z => nomatch (show none = some u from z)) (.inr fun H' => .inr ⟨_, us.toArray, _, hk, rfl, rfl, rfl, by rw [List.size_toArray, ← lenV]; exact few, by simpa using rv⟩) (fun b u z => nomatch (show none = some u from z)) fun z => absurd rfl z
  | none =>
    have at1 : ∀ b u, (fun b : Addr => if b = a then some (HO.frz { cls := .type "list", data := .seq us.toArray } (.lst (ns.map V.int))) else none) b = some u → b = a ∧ u = HO.frz { cls := .type "list", data := .seq us.toArray } (.lst (ns.map V.int)) := fun b u z => by
      by_cases hb : b = a
      · exact ⟨hb, (Option.some.inj ((if_pos hb).symm.trans z)).symm⟩
      · exact nomatch ((if_neg hb).symm.trans z)
    refine core (fun b => if b = a then some (.frz { cls := .type "list", data := .seq us.toArray } (.lst (ns.map V.int))) else none) (fun b u z => ⟨(at1 b u z).1, _, _, (at1 b u z).2⟩) (.inl ⟨.inr ⟨_, if_pos rfl⟩, List.not_mem_nil, List.not_mem_nil⟩) (fun b u z => ?_) fun _ => hk
    obtain ⟨rfl, rfl⟩ := at1 b u z
    exact ⟨hobj, by rw [List.length_map]; exact few, us, _, rv, hobj⟩
theorem walkD {l : PySem.W.OpenLaw} {n k : Nat} {q : Program} {loose : List Str} {XP : (Str → Option Value) → Heap → Prop} {YP : World → Heap → Prop} {d : DefRec} {K : Params → PySem.W.Frag} {F : FnF}
    (hn : l.most = some n) (hn2 : n ≤ sizeLine) (hdf : d.params.defaults = []) (hr : Room k callerA) (hY : ∀ (w : World) (h : Heap), YP w h → (K w.params).In h)
    (G : ∀ (w : World) (mg : Str → Option Value) (fa : Addr) (h : Heap), (K w.params).In h → h.Ns mainGlobals mg → mg d.name = some (.ref fa) →
      ∃ fd : FuncData, ∀ base : Heap, (K w.params).In base → base.Ns mainGlobals mg → FG l.prog w (K w.params) mg base k fa fd 1 F)
    (val : ∀ ns : List Int, ns.length ≤ n → ∃ μ', F [.rl (ns.map D.int)] [] = some (.v (.bl true), μ')) :
    PySem.W.WalkO q loose XP YP l.row.toRowW d [] (fun f vs => PySem.call f vs) :=
  Att.attach_call hn hdf fun w s₀ s₁ mg mb fa o pm cd doc a vs ns T Y ho hd hcd hmg hobj hints hlen gens => by
    have kin := hY w _ Y
    obtain ⟨fd, hF⟩ := G w mg fa _ kin T.T.g hmg
    exact law_data kin T.T.g T.T.b T.T.builtins T.T.nolimit gens hobj hints (Nat.le_trans hlen hn2) hr hF (val ns hlen)
end DL
namespace DL
open PySem L2
section
variable {X : Cx} {o a : Expr} {es : List Expr} {fa fb : EvE} {fs : EvA} {name : Str} {apos cpos pos : Pos}
theorem sm_rule {id : String} {C : Str → Prop} {P : Str → Bool} {g : Str → V} {gd : Str → D} (h : MtR X id (fun x xs H Q => ∃ z, x = .str z ∧ xs = [] ∧ C z ∧ Q (g z) H)) (hC : ∀ z, P z = true → C z) (hg : ∀ z as H, Rep X.K as H (g z) (gd z)) :
    MtR X id (fun x xs H Q => ∃ z, x = .str z ∧ xs = [] ∧ P z = true ∧ ∀ v, (∀ as, Rep X.K as H v (gd z)) → Q v H) := fun pins s σ H x xs v us Q I rx rs ⟨z, e1, e2, e3, q⟩ =>
  h pins s σ H x xs v us Q I rx rs ⟨z, e1, e2, hC z e3, q _ fun as => hg z as H⟩
def dUpper : D → List Cell → Option D := dS0 (fun z => decide (z.length ≤ 5592405)) fun z => .str (Txt.upper z)
def dIsascii : D → List Cell → Option D := dS0 (fun _ => true) fun z => .bl (Txt.isascii z)
def dIsalpha : D → List Cell → Option D := dS0 (fun _ => true) fun z => .bl (Txt.isalpha z)
def dIslower : D → List Cell → Option D := dS0 (fun _ => true) fun z => .bl (Txt.islower z)
theorem de_upper (ho : PE X o (tF X.K fa)) (hbase : attributeBase o "upper" X.env (eval o X.env) = eval o X.env := by rfl) (hline : (apos.endLine == cpos.line) = true := by rfl) :
    PE X (.Call (.Attribute o "upper" apos) [] [] cpos) (tF X.K (fU dUpper fa)) :=
  de_sm0 PySem.F.slot_str_upper PySem.F.type_str_upper (sm_rule (mt_upper (X := X)) (fun z h => of_decide_eq_true h) fun z as H => .str _) ho hbase hline
theorem de_isascii (ho : PE X o (tF X.K fa)) (hbase : attributeBase o "isascii" X.env (eval o X.env) = eval o X.env := by rfl) (hline : (apos.endLine == cpos.line) = true := by rfl) :
    PE X (.Call (.Attribute o "isascii" apos) [] [] cpos) (tF X.K (fU dIsascii fa)) :=
  de_sm0 PySem.F.slot_str_isascii PySem.F.type_str_isascii (sm_rule (mt_isascii (X := X)) (fun _ _ => trivial) fun z as H => .bl _) ho hbase hline
theorem de_isalpha (ho : PE X o (tF X.K fa)) (hbase : attributeBase o "isalpha" X.env (eval o X.env) = eval o X.env := by rfl) (hline : (apos.endLine == cpos.line) = true := by rfl) :
    PE X (.Call (.Attribute o "isalpha" apos) [] [] cpos) (tF X.K (fU dIsalpha fa)) :=
  de_sm0 PySem.F.slot_str_isalpha PySem.F.type_str_isalpha (sm_rule (mt_isalpha (X := X)) (fun _ _ => trivial) fun z as H => .bl _) ho hbase hline
theorem de_islower (ho : PE X o (tF X.K fa)) (hbase : attributeBase o "islower" X.env (eval o X.env) = eval o X.env := by rfl) (hline : (apos.endLine == cpos.line) = true := by rfl) :
    PE X (.Call (.Attribute o "islower" apos) [] [] cpos) (tF X.K (fU dIslower fa)) :=
  de_sm0 PySem.F.slot_str_islower PySem.F.type_str_islower (sm_rule (mt_islower (X := X)) (fun _ _ => trivial) fun z as H => .bl _) ho hbase hline
/-- all of them texts -/
def strsOf : List D → Option (List Str)
  | [] => some []
  | .str z :: r => (strsOf r).map (z :: ·)
  | _ :: _ => none
theorem strs_ok {K : PySem.W.Frag} {as : Ar} {H : Hp} : ∀ {vs : List V} {ds : List D} {zs : List Str}, Reps K as H vs ds → strsOf ds = some zs → vs = zs.map V.str
  | _, _, _, .nil, e => by cases e; rfl
  | _, d :: ds, _, .cons h t, e => by
    cases d with
    | str z =>
      simp only [strsOf] at e
      obtain ⟨r, er, rfl⟩ := Option.map_eq_some_iff.mp e
      cases h
      rw [List.map_cons, strs_ok t er]
    | _ => cases e
/-- the items of a list or a tuple -/
def asSq : D → List Cell → Option (List D)
  | .tup xs, _ => some xs
  | d, μ => asSL d μ
theorem asSq_ok {K : PySem.W.Frag} {as : Ar} {H : Hp} {v : V} {d : D} {μ : List Cell} {xs : List D} (r : Rep K as H v d) (s : StoR K as H μ) (e : asSq d μ = some xs) : ∃ a vs, v = .ref a ∧ (SqL K H a vs ∨ SqT K H a vs) ∧ Reps K as H vs xs := by
  unfold asSq at e
  split at e
  · cases r with
    | tup t rs => cases Option.some.inj e; exact ⟨_, _, rfl, .inr t.sq, rs⟩
  · obtain ⟨a, vs, h1, h2, h3⟩ := asSL_ok r s e
    exact ⟨a, vs, h1, .inl h2, h3⟩
def dJoin : D → D → List Cell → Option D
  | .str z, d, μ => match asSq d μ with
    | some xs => match strsOf xs with
      | some zs => if (zs.map (·.length)).sum + zs.length * z.length ≤ 16777216 then some (.str (Txt.join z zs)) else none
      | none => none
    | none => none
  | _, _, _ => none
theorem dJoin_out {x y z : D} {μ : List Cell} (e : dJoin x y μ = some z) : ∃ t xs zs, x = .str t ∧ asSq y μ = some xs ∧ strsOf xs = some zs ∧ (zs.map (·.length)).sum + zs.length * t.length ≤ 16777216 ∧ z = .str (Txt.join t zs) := by
  unfold dJoin at e
  split at e
  · split at e
    · rename_i h1
      split at e
      · rename_i h2
        split at e
        · rename_i h3
          exact ⟨_, _, _, rfl, h1, h2, h3, (Option.some.inj e).symm⟩
        · cases e
      · cases e
    · cases e
  · cases e
theorem fB_out {g : D → D → List Cell → Option D} {S : Sg} {d : D} {μ' : List Cell} (e : fB g fa fb S = some (d, μ')) : ∃ x μ1 y, fa S = some (x, μ1) ∧ fb { S with μ := μ1 } = some (y, μ') ∧ g x y μ' = some d := by
  unfold fB at e
  split at e
  · rename_i x μ1 ea
    split at e
    · rename_i y μ2 eb
      split at e
      · rename_i z ez
        obtain ⟨rfl, rfl⟩ := pr_inj e
        exact ⟨x, μ1, y, ea, eb, ez⟩
      · cases e
    · cases e
  · cases e
theorem de_join (ho : PE X o (tF X.K fa)) (he : PE X a (tF X.K fb)) (hs : starEach [a] X.env = [(false, eval a X.env)] := by rfl) (hbase : attributeBase o "join" X.env (eval o X.env) = eval o X.env := by rfl) (hline : (apos.endLine == cpos.line) = true := by rfl) :
    PE X (.Call (.Attribute o "join" apos) [a] [] cpos) (tF X.K (fB dJoin fa fb)) := (pe_join ho he hs hbase hline).imp fun σ H Q ⟨as, S, d, μ', E, e, q⟩ => by
  obtain ⟨x, μ1, y, ea, eb, ez⟩ := fB_out e
  obtain ⟨t, xs, zs, rfl, h1, h2, h3, rfl⟩ := dJoin_out ez
  refine ⟨as, S, _, μ1, E, ea, fun v as1 H1 X1 r1 s1 => ?_⟩
  cases r1
  refine ⟨⟨t, rfl⟩, as1, _, y, μ', E.mvE X1 s1, eb, fun w as2 H2 X2 r2 s2 => ?_⟩
  obtain ⟨p, vs, rfl, hq, rs⟩ := asSq_ok r2 s2 h1
  have ev := strs_ok rs h2
  subst ev
  exact ⟨t, p, zs, rfl, rfl, hq, h3, q _ as2 H2 (X1.trans X2 E.sto.trk) (.str _) s2⟩
theorem de_dct0 : PE X (.Dict [] [] pos) (tF X.K (fC (.dct []))) := pe_dnewK.imp fun σ H Q ⟨as, S, d, μ', E, e, q⟩ p hp => by
  obtain ⟨rfl, rfl⟩ := pr_inj e
  exact q _ as _ (Ext.new hp (E.sto.out hp)) (.dct (kvs := []) (ds := []) upd_same (E.sto.out hp) rfl .nil) (E.sto.new hp)
end
/-! ### a new list that will change: a new cell -/
section
variable {X : Cx} {es : List Expr} {fs : EvA} {pos : Pos}
theorem StoR.grow {K : PySem.W.Frag} {as : Ar} {H : Hp} {μ : List Cell} {p : Addr} {vs : List V} {ds : List D} (s : StoR K as H μ) (hp : H p = none) (r : Reps K as H vs ds) :
    Ext as H ⟨as.c ++ [p], as.b⟩ (L2.upd H p (.lst vs)) ∧ StoR K ⟨as.c ++ [p], as.b⟩ (L2.upd H p (.lst vs)) (μ ++ [.lst ds]) := by
  have n := s.out hp
  have X1 : Ext as H ⟨as.c ++ [p], as.b⟩ (L2.upd H p (.lst vs)) := ⟨⟨[p], rfl, by simpa using hp⟩, ⟨[], rfl, by simp⟩, (Ext.new hp n).old, (Ext.new hp n).cel⟩
  refine ⟨X1, by simp [s.len], fun k a c ea ec => ?_, ?_, fun a ha => ?_⟩
  · by_cases hk : k < μ.length
    · have hk' : k < as.c.length := by rw [s.len]; exact hk
      rw [List.getElem?_append_left hk'] at ea
      rw [List.getElem?_append_left hk] at ec
      exact (s.at_ k a c ea ec).mv X1 (upd_ne fun z => n.1 (z ▸ List.mem_of_getElem? ea))
    · have hk' : ¬ k < as.c.length := by rw [s.len]; exact hk
      rw [List.getElem?_append_right (by omega)] at ea
      rw [List.getElem?_append_right (by omega)] at ec
      have h0 : k - μ.length = 0 := by
        have := (List.getElem?_eq_some_iff.mp ec).1
        simpa using this
      rw [h0] at ec
      rw [s.len, h0] at ea
      cases ec
      cases ea
      exact ⟨vs, upd_same, r.mv X1⟩
  · rw [List.nodup_append]
    exact ⟨s.nd, by simp, fun a ha b hb e => n.1 (by simp at hb; rw [← hb, ← e]; exact ha)⟩
  · by_cases z : a = p
    · subst z; rw [upd_same]; simp
    · rw [upd_ne z]; exact s.bl a ha
def fNewC (fs : EvA) : EvE := fun S => match fs S with
  | some (xs, μ1) => if xs.length ≤ sizeLine then some (.h μ1.length, μ1 ++ [.lst xs]) else none
  | none => none
theorem de_lstC (ha : PA X es (tFA X.K fs)) : PE X (.List es pos) (tF X.K (fNewC fs)) := by
  refine (pe_lst ha).imp fun σ H Q ⟨as, S, d, μ', E, e, q⟩ => ?_
  unfold fNewC at e
  split at e
  · rename_i xs μ1 ea
    split at e
    · rename_i hl
      obtain ⟨rfl, rfl⟩ := pr_inj e
      refine ⟨as, S, xs, μ1, E, ea, fun vs as1 H1 X1 r1 s1 => ⟨by rw [r1.length]; exact hl, fun p hp => ?_⟩⟩
      obtain ⟨X2, s2⟩ := s1.grow hp r1
      refine q _ _ _ (X1.trans X2 E.sto.trk) (.h ?_) s2
      rw [List.getElem?_append_right (by rw [s1.len]; exact Nat.le_refl _), s1.len]
      simp
    · cases e
  · cases e
end
/-! ### a def by its name -/
structure Has (P : Program) (w : World) (K : PySem.W.Frag) (mg : Str → Option Value) (base : Heap) (x : Str) (k n : Nat) (F : FnF) : Prop where
  ex : ∃ f fd, mg x = some (.ref f) ∧ FG P w K mg base k f fd n F
section
variable {X : Cx} {k j n : Nat} {F : FnF} {x : Str} {p pos : Pos} {e : Expr} {es : List Expr} {fs : EvA} {W : WX}
theorem de_callH (h : Has X.prog X.w X.K X.mg X.base x j n F) (hr : Room k X.A) (hgd : X.A.guards = some []) (hk : j ≤ k) (hg : Gl X x) (ha : PA X (e :: es) (tFA X.K fs)) (hdb : (x == ("__debug__" : Str)) = false := by decide)
    (he : starEach (e :: es) X.env = (false, eval e X.env) :: starEach es X.env := by rfl) (hpl : (backTo pos (starEach es X.env)).any (·.1) = false := by rfl) :
    PE X (.Call (.Name x p) (e :: es) [] pos) (tF X.K (fCall F (fLen n fs))) := by
  obtain ⟨f, fd, hm, G⟩ := h
  exact de_call (G.mono hk) hr hgd hg hm ha hdb he hpl
theorem de_callH0 (h : Has X.prog X.w X.K X.mg X.base x j 0 F) (hr : Room k X.A) (hgd : X.A.guards = some []) (hk : j ≤ k) (hg : Gl X x) (hdb : (x == ("__debug__" : Str)) = false := by decide) :
    PE X (.Call (.Name x p) [] [] pos) (tF X.K (fCall F fNil)) := by
  obtain ⟨f, fd, hm, G⟩ := h
  exact de_call0 (G.mono hk) hr hgd hg hm hdb
theorem de_callHX (tk : Takes X W) (h : Has X.prog X.w X.K X.mg X.base x j n F) (hr : Room k X.A) (hgd : X.A.guards = some []) (hk : j ≤ k) (hg : Gl X x) (ha : PA X (e :: es) (tFA X.K fs)) (hdb : (x == ("__debug__" : Str)) = false := by decide)
    (he : starEach (e :: es) X.env = (false, eval e X.env) :: starEach es X.env := by rfl) (hpl : (backTo pos (starEach es X.env)).any (·.1) = false := by rfl) :
    PE X (.Call (.Name x p) (e :: es) [] pos) (tFX X.K X.mg W (fCallX F (fLen n fs))) := by
  obtain ⟨f, fd, hm, G⟩ := h
  exact de_callX tk (G.mono hk) hr hgd hg hm ha hdb he hpl
theorem de_callHX0 (tk : Takes X W) (h : Has X.prog X.w X.K X.mg X.base x j 0 F) (hr : Room k X.A) (hgd : X.A.guards = some []) (hk : j ≤ k) (hg : Gl X x) (hdb : (x == ("__debug__" : Str)) = false := by decide) :
    PE X (.Call (.Name x p) [] [] pos) (tFX X.K X.mg W (fCallX F fNil)) := by
  obtain ⟨f, fd, hm, G⟩ := h
  exact de_callX0 tk (G.mono hk) hr hgd hg hm hdb
end
end DL
namespace DL
open PySem L2
section
variable {X : Cx}
/-! ### all, any, sum, max, min of a list -/
def blsOf : List D → Option (List Bool)
  | [] => some []
  | .bl b :: ds => (blsOf ds).map (b :: ·)
  | _ :: _ => none
theorem blsOf_ok {K : PySem.W.Frag} {as : Ar} {H : Hp} : ∀ {vs : List V} {ds : List D} {bs : List Bool}, Reps K as H vs ds → blsOf ds = some bs → vs = bs.map V.bl
  | _, _, _, .nil, e => by cases e; rfl
  | v :: vs, d :: ds, bs, .cons h t, e => by
    unfold blsOf at e
    split at e
    · rename_i e0; cases e0
    · rename_i b ds' e0
      cases e0
      obtain ⟨cs, ec, rfl⟩ := Option.map_eq_some_iff.mp e
      cases h
      rw [blsOf_ok t ec]
      rfl
    · cases e
def intsOf : List D → Option (List Int)
  | [] => some []
  | .int b :: ds => (intsOf ds).map (b :: ·)
  | _ :: _ => none
theorem intsOf_ok {K : PySem.W.Frag} {as : Ar} {H : Hp} : ∀ {vs : List V} {ds : List D} {bs : List Int}, Reps K as H vs ds → intsOf ds = some bs → vs = bs.map V.int
  | _, _, _, .nil, e => by cases e; rfl
  | v :: vs, d :: ds, bs, .cons h t, e => by
    unfold intsOf at e
    split at e
    · rename_i e0; cases e0
    · rename_i b ds' e0
      cases e0
      obtain ⟨cs, ec, rfl⟩ := Option.map_eq_some_iff.mp e
      cases h
      rw [intsOf_ok t ec]
      rfl
    · cases e
def dAll : D → List Cell → Option D := fun x μ => match asSL x μ with
  | some xs => (blsOf xs).map fun bs => .bl (bs.all id)
  | none => none
def dAny : D → List Cell → Option D := fun x μ => match asSL x μ with
  | some xs => (blsOf xs).map fun bs => .bl (bs.any id)
  | none => none
def dSum : D → List Cell → Option D := fun x μ => match asSL x μ with
  | some xs => (intsOf xs).map fun ns => .int ns.sum
  | none => none
theorem call_allD (hc : X.calm = true) : CallR X (.builtin "all") (rCD X.K (g1 dAll)) := call1 fun pins s σ H x us Q as d μ z I r rd sto ez q => by
  unfold dAll at ez
  split at ez
  · rename_i xs ex
    obtain ⟨bs, eb, rfl⟩ := Option.map_eq_some_iff.mp ez
    obtain ⟨a, vs, rfl, hq, rs⟩ := asSL_ok rd sto ex
    rw [blsOf_ok rs eb] at hq
    exact cr_all hc pins s σ H _ us Q I r ⟨a, bs, rfl, hq, q _ H .refl (.bl _) sto⟩
  · cases ez
theorem call_anyD (hc : X.calm = true) : CallR X (.builtin "any") (rCD X.K (g1 dAny)) := call1 fun pins s σ H x us Q as d μ z I r rd sto ez q => by
  unfold dAny at ez
  split at ez
  · rename_i xs ex
    obtain ⟨bs, eb, rfl⟩ := Option.map_eq_some_iff.mp ez
    obtain ⟨a, vs, rfl, hq, rs⟩ := asSL_ok rd sto ex
    rw [blsOf_ok rs eb] at hq
    exact cr_any hc pins s σ H _ us Q I r ⟨a, bs, rfl, hq, q _ H .refl (.bl _) sto⟩
  · cases ez
theorem call_sumD (hc : X.calm = true) : CallR X (.builtin "sum") (rCD X.K (g1 dSum)) := call1 fun pins s σ H x us Q as d μ z I r rd sto ez q => by
  unfold dSum at ez
  split at ez
  · rename_i xs ex
    obtain ⟨bs, eb, rfl⟩ := Option.map_eq_some_iff.mp ez
    obtain ⟨a, vs, rfl, hq, rs⟩ := asSL_ok rd sto ex
    rw [intsOf_ok rs eb] at hq
    exact cr_sum hc pins s σ H _ us Q I r ⟨a, bs, rfl, hq, q _ H .refl (.int _) sto⟩
  · cases ez
/-- the greatest, the least of some ints -/
def maxI : List Int → Int
  | [] => 0
  | [a] => a
  | a :: r => if maxI r > a then maxI r else a
def minI : List Int → Int
  | [] => 0
  | [a] => a
  | a :: r => if minI r < a then minI r else a
theorem maxI_is : ∀ {ns : List Int} {m : Int}, m ∈ ns → (∀ y, y ∈ ns → y ≤ m) → m = maxI ns := by
  have ub : ∀ (ns : List Int), ∀ y ∈ ns, y ≤ maxI ns := by
    intro ns
    induction ns with
    | nil => intro y hy; cases hy
    | cons a r ih =>
      intro y hy
      cases r with
      | nil => simp only [List.mem_cons, List.not_mem_nil, or_false] at hy; subst hy; exact Int.le_refl _
      | cons b r =>
        unfold maxI
        rcases List.mem_cons.mp hy with rfl | h
        · split <;> omega
        · have := ih y h
          split <;> omega
  have mem : ∀ (ns : List Int), ns ≠ [] → maxI ns ∈ ns := by
    intro ns
    induction ns with
    | nil => intro h; exact absurd rfl h
    | cons a r ih =>
      intro _
      cases r with
      | nil => exact List.mem_cons_self
      | cons b r =>
        unfold maxI
        split
        · exact List.mem_cons_of_mem _ (ih (by simp))
        · exact List.mem_cons_self
  intro ns m hm h
  have h1 := ub ns m hm
  have h2 := h _ (mem ns (by intro e; subst e; cases hm))
  omega
def dMaxL : D → List Cell → Option D := fun x μ => match asSL x μ with
  | some xs => match intsOf xs with
    | some (n :: ns) => some (.int (maxI (n :: ns)))
    | _ => none
  | none => none
theorem call_maxLD (hc : X.calm = true) : CallR X (.builtin "max") (rCD X.K (g1 dMaxL)) := call1 fun pins s σ H x us Q as d μ z I r rd sto ez q => by
  unfold dMaxL at ez
  split at ez
  · rename_i xs ex
    split at ez
    · rename_i n ns eb
      cases Option.some.inj ez
      obtain ⟨a, vs, rfl, hq, rs⟩ := asSL_ok rd sto ex
      rw [intsOf_ok rs eb] at hq
      exact cr_max hc pins s σ H _ us Q I r ⟨a, _, rfl, hq, by simp, fun m hm h => by rw [maxI_is hm h]; exact q _ H .refl (.int _) sto⟩
    · cases ez
  · cases ez
/-- a name of the module that holds a text -/
theorem de_gstr {i x : Str} {pos : Pos} (hg : Gl X x) (hm : ∃ t, X.mg x = some (.str i t)) (hdb : (x == ("__debug__" : Str)) = false := by decide) : PE X (.Name x pos) (tF X.K (fC (.str i))) :=
  let ⟨t, hm⟩ := hm
  (pe_glob (v := .str i) hg hm ⟨t, rfl⟩ (hd := hdb)).imp (tF_c fun _ _ => .str i)
/-! ### list(..), tuple(..) -/
/-- the items of a list or tuple -/
def asQ : D → List Cell → Option (List D)
  | .tup xs, _ => some xs
  | x, μ => asSL x μ
theorem asQ_ok {K : PySem.W.Frag} {as : Ar} {H : Hp} {v : V} {d : D} {μ : List Cell} {xs : List D} (r : Rep K as H v d) (s : StoR K as H μ) (e : asQ d μ = some xs) : ∃ a vs, v = .ref a ∧ (SqL K H a vs ∨ SqT K H a vs) ∧ Reps K as H vs xs := by
  unfold asQ at e
  split at e
  · cases r with
    | @tup a vs ds t rs =>
      cases Option.some.inj e
      exact ⟨a, vs, rfl, .inr t.sq, rs⟩
  · obtain ⟨a, vs, h1, h2, h3⟩ := asSL_ok r s e
    exact ⟨a, vs, h1, .inl h2, h3⟩
def dList : D → List Cell → Option D := fun x μ => (asQ x μ).map .lst
theorem call_listD : CallR X (.type "list") (rCD X.K (g1 dList)) := call1 fun pins s σ H x us Q as d μ z I r rd sto ez q => by
  obtain ⟨xs, ex, rfl⟩ := Option.map_eq_some_iff.mp ez
  obtain ⟨a, vs, rfl, hq, rs⟩ := asQ_ok rd sto ex
  exact call_list_of pins s σ H _ us Q I r ⟨a, vs, rfl, hq, fun p hp => q _ _ (Ext.new hp (sto.out hp)) (.newL sto hp rs) (sto.new hp)⟩
def dTuple : D → List Cell → Option D
  | .tup xs, _ => some (.tup xs)
  | x, μ => (asSL x μ).map .tup
theorem de_tuple {a : Expr} {fa : EvE} {p pos : Pos} (hg : Gl X "tuple") (hm : X.mg "tuple" = none) (ha : PE X a (tF X.K fa)) (na : starEach [a] X.env = (false, eval a X.env) :: starEach [] X.env := by rfl) :
    PE X (.Call (.Name "tuple" p) [a] [] pos) (tF X.K (fU dTuple fa)) := (pe_tupleOf hg hm ha na).imp fun σ H Q ⟨as, S, d, μ', E, e, q⟩ => by
  obtain ⟨x, ex, ez⟩ := fU_out e
  refine ⟨as, S, x, μ', E, ex, fun v as1 H1 X1 r1 s1 => ?_⟩
  unfold dTuple at ez
  split at ez
  · cases Option.some.inj ez
    cases r1 with
    | @tup b vs ds t rs => exact .inr ⟨b, vs, rfl, t.sq, q _ as1 H1 X1 (.tup t rs) s1⟩
  · obtain ⟨xs, ex', rfl⟩ := Option.map_eq_some_iff.mp ez
    obtain ⟨b, vs, rfl, hq, rs⟩ := asSL_ok r1 s1 ex'
    exact .inl ⟨b, vs, rfl, hq, fun p hp => q _ as1 _ (X1.trans (Ext.new hp (s1.out hp)) E.sto.trk) (.newT s1 hp rs) (s1.new hp)⟩
/-- .. as a list that changes -/
def fListC (fa : EvE) : EvE := fun S => match fa S with
  | some (x, μ1) => match asQ x μ1 with
    | some xs => some (.h μ1.length, μ1 ++ [.lst xs])
    | none => none
  | none => none
def rListC (K : PySem.W.Frag) : List V → Hp → VK → Prop := fun vs H Q => ∃ as x xs μ, Reps K as H vs [x] ∧ StoR K as H μ ∧ asQ x μ = some xs ∧ ∀ v as' H', Ext as H as' H' → Rep K as' H' v (.h μ.length) → StoR K as' H' (μ ++ [.lst xs]) → Q v H'
theorem call_listC : CallR X (.type "list") (rListC X.K) := by
  intro pins s σ H vs us Q I r ⟨as, x, xs, μ, rs, sto, ex, q⟩
  cases rs with
  | cons r1 rt =>
  cases rt
  obtain ⟨a, ws, rfl, hq, rs⟩ := asQ_ok r1 sto ex
  refine call_list_of pins s σ H _ us Q I r ⟨a, ws, rfl, hq, fun p hp => ?_⟩
  obtain ⟨X2, s2⟩ := sto.grow hp rs
  refine q _ _ _ X2 (.h ?_) s2
  rw [List.getElem?_append_right (by rw [sto.len]; exact Nat.le_refl _), sto.len]
  simp
theorem de_listC {a : Expr} {fa : EvE} {p pos : Pos} (hg : Gl X "list") (hm : X.mg "list" = none) (ha : PE X a (tF X.K fa)) (he : starEach [a] X.env = (false, eval a X.env) :: starEach [] X.env := by rfl) (hpl : (backTo pos (starEach [] X.env)).any (·.1) = false := by rfl) :
    PE X (.Call (.Name "list" p) [a] [] pos) (tF X.K (fListC fa)) := (pe_callTy call_listC hg hm (by decide +kernel) (da_cons ha da_nil he) (by decide) (by decide) he hpl).imp fun σ H Q ⟨as, S, d, μ', E, e, q⟩ => by
  unfold fListC at e
  split at e
  · rename_i x μ1 ea
    split at e
    · rename_i xs ex
      obtain ⟨rfl, rfl⟩ := pr_inj e
      exact ⟨as, S, [x], μ1, E, by unfold fCons fNil; rw [ea], fun vs as1 H1 X1 r1 s1 => ⟨as1, x, xs, μ1, r1, s1, ex, fun v as2 H2 X2 r2 s2 => q v as2 H2 (X1.trans X2 E.sto.trk) r2 s2⟩⟩
    · cases e
  · cases e
end
end DL
namespace DL
open PySem L2
section
variable {X : Cx} {a b c o e : Expr} {es : List Expr} {pos p : Pos} {fa fb : EvE} {fs : EvA}
/-! ### slices -/
abbrev EvO := Sg → Option (Option Int × List Cell)
def tFO (K : PySem.W.Frag) (f : EvO) : TO := fun σ H Q => ∃ as S d μ', ER K as σ H S ∧ f S = some (d, μ') ∧ ∀ as' H', Ext as H as' H' → StoR K as' H' μ' → Q d H'
theorem _root_.L2.PO.imp {e : Option Expr} {t t' : TO} (h : PO X e t) (q : ∀ σ H Q, t' σ H Q → t σ H Q) : PO X e t' := ⟨fun pins s σ H Q I z => h.run pins s σ H Q I (q σ H Q z)⟩
def fNo : EvO := fun S => some (none, S.μ)
def fPart (f : EvE) : EvO := fun S => match f S with
  | some (.int i, μ') => some (some i, μ')
  | _ => none
theorem do_none : PO X none (tFO X.K fNo) := po_none.imp fun σ H Q ⟨as, S, d, μ', E, ed, q⟩ => by
  obtain ⟨rfl, rfl⟩ := pr_inj ed
  exact q as H .refl E.sto
theorem do_some (h : PE X a (tF X.K fa)) : PO X (some a) (tFO X.K (fPart fa)) := (po_some h).imp fun σ H Q ⟨as, S, d, μ', E, ed, q⟩ => by
  unfold fPart at ed
  split at ed
  · rename_i i μ1 ea
    obtain ⟨rfl, rfl⟩ := pr_inj ed
    exact ⟨as, S, _, μ1, E, ea, fun v as1 H1 X1 r1 s1 => by cases r1; exact ⟨i, rfl, q as1 H1 X1 s1⟩⟩
  · cases ed
def cutD {α : Type} (xs : List α) (lo hi : Option Int) : List α := (xs.drop (HT.sIx xs.length 0 lo)).take (HT.sIx xs.length xs.length hi - HT.sIx xs.length 0 lo)
theorem Reps.cut {K : PySem.W.Frag} {as : Ar} {H : Hp} {vs : List V} {ds : List D} (r : Reps K as H vs ds) (lo hi : Option Int) : Reps K as H (cutV vs lo hi) (cutD ds lo hi) := by
  unfold cutV cutD
  rw [r.length]
  exact (r.drop _).take _
theorem cut_whole {α : Type} {xs : List α} {lo hi : Option Int} (h : HT.sIx xs.length 0 lo = 0 ∧ HT.sIx xs.length xs.length hi = xs.length) : cutD xs lo hi = xs := by
  unfold cutD
  rw [h.1, h.2, List.drop_zero, Nat.sub_zero, List.take_length]
def dSl (x : D) (lo hi : Option Int) (μ : List Cell) : Option D := match x with
  | .tup xs => some (.tup (cutD xs lo hi))
  | .str z => if z.length ≤ sizeLine then some (.str (Txt.slice z lo hi)) else none
  | x => (asSL x μ).map fun xs => .lst (cutD xs lo hi)
def fSl (fa : EvE) (fl fh : EvO) : EvE := fun S => match fa S with
  | some (x, μ1) => match fl { S with μ := μ1 } with
    | some (lo, μ2) => match fh { S with μ := μ2 } with
      | some (hi, μ3) => (dSl x lo hi μ3).map fun z => (z, μ3)
      | none => none
    | none => none
  | none => none
def rSlD (K : PySem.W.Frag) : V → Option Int → Option Int → Hp → VK → Prop := fun x lo hi H Q => ∃ as d μ z, Rep K as H x d ∧ StoR K as H μ ∧ dSl d lo hi μ = some z ∧ ∀ v H', Ext as H as H' → Rep K as H' v z → StoR K as H' μ → Q v H'
theorem sl_D : SlR X (rSlD X.K) := by
  intro pins s σ H x v vl vu lo hi sl Q I rx hs pl pu ⟨as, d, μ, z, rd, sto, ez, q⟩
  unfold dSl at ez
  split at ez
  · cases Option.some.inj ez
    cases rd with
    | @tup a vs ds t rs =>
      refine sl_tupA pins s σ H _ v vl vu lo hi sl Q I rx hs pl pu ⟨a, vs, rfl, t.sq, fun w => ?_, fun _ p hp => q _ _ (Ext.new hp (sto.out hp)) (.newT sto hp (rs.cut lo hi)) (sto.new hp)⟩
      rw [rs.length] at w
      rw [cut_whole w] at q
      exact q _ H .refl (.tup t rs) sto
  · split at ez
    · rename_i hz
      cases Option.some.inj ez
      cases rd
      exact C8.sl_txt pins s σ H _ v vl vu lo hi sl Q I rx hs pl pu ⟨_, rfl, hz, q _ H .refl (.str _) sto⟩
    · cases ez
  · obtain ⟨xs, ex, rfl⟩ := Option.map_eq_some_iff.mp ez
    obtain ⟨a, vs, rfl, hq, rs⟩ := asSL_ok rd sto ex
    exact sl_list pins s σ H _ v vl vu lo hi sl Q I rx hs pl pu ⟨a, vs, rfl, hq, fun p hp => q _ _ (Ext.new hp (sto.out hp)) (.newL sto hp (rs.cut lo hi)) (sto.new hp)⟩
theorem de_slice {lo hi : Option Expr} {fl fh : EvO} {p2 : Pos} (he : PE X a (tF X.K fa)) (hl : PO X lo (tFO X.K fl)) (hu : PO X hi (tFO X.K fh)) : PE X (.Subscript a (.Slice lo hi none p2) pos) (tF X.K (fSl fa fl fh)) :=
  (pe_slice sl_D he hl hu).imp fun σ H Q ⟨as, S, d, μ', E, ed, q⟩ => by
    unfold fSl at ed
    split at ed
    · rename_i x μ1 ea
      split at ed
      · rename_i l μ2 el
        split at ed
        · rename_i h μ3 eh
          obtain ⟨z, ez, eq⟩ := Option.map_eq_some_iff.mp ed
          obtain ⟨rfl, rfl⟩ := Prod.mk.inj eq
          refine ⟨as, S, x, μ1, E, ea, fun v as1 H1 X1 r1 s1 => ⟨as1, _, l, μ2, E.mvE X1 s1, el, fun as2 H2 X2 s2 => ⟨as2, _, h, μ3, (E.mvE X1 s1).mvE X2 s2, eh, fun as3 H3 X3 s3 => ?_⟩⟩⟩
          have X23 := X2.trans X3 s1.trk
          exact ⟨as3, x, μ3, _, r1.mv X23, s3, ez, fun w H4 X4 r4 s4 => q w as3 H4 (X1.trans (X23.trans X4 s1.trk) E.sto.trk) r4 s4⟩
        · cases ed
      · cases ed
    · cases ed
/-! ### methods of cells -/
def cApp (o d : D) (μ : List Cell) : Option (List Cell) := match o with
  | .h k => match μ[k]? with
    | some (.lst xs) => if xs.length < sizeLine then some (μ.set k (.lst (xs ++ [d]))) else none
    | _ => none
  | _ => none
def isLst (o : D) (μ : List Cell) : Bool := match o with
  | .h k => match μ[k]? with
    | some (.lst _) => true
    | _ => false
  | _ => false
def fApn (fo fd : EvE) : EvE := fun S => match fo S with
  | some (o, μ1) => if isLst o μ1 = true then match fd { S with μ := μ1 } with
    | some (d, μ2) => (cApp o d μ2).map fun μ3 => (.non, μ3)
    | none => none
    else none
  | none => none
theorem cApp_out {o d : D} {μ μ' : List Cell} (e : cApp o d μ = some μ') : ∃ k xs, o = .h k ∧ μ[k]? = some (.lst xs) ∧ xs.length < sizeLine ∧ μ' = μ.set k (.lst (xs ++ [d])) := by
  unfold cApp at e
  split at e
  · split at e
    · rename_i xs ex
      split at e
      · rename_i h
        exact ⟨_, xs, rfl, ex, h, (Option.some.inj e).symm⟩
      · cases e
    · cases e
  · cases e
theorem h_list {K : PySem.W.Frag} {as : Ar} {H : Hp} {μ : List Cell} {k : Nat} {v : V} {xs : List D} (r : Rep K as H v (.h k)) (s : StoR K as H μ) (e : μ[k]? = some (.lst xs)) : ∃ p vs, v = .ref p ∧ as.c[k]? = some p ∧ H p = some (.lst vs) ∧ Reps K as H vs xs := by
  cases r with
  | @h _ p ep =>
    obtain ⟨vs, hv, rs⟩ := s.at_ k p _ ep e
    exact ⟨p, vs, rfl, ep, hv, rs⟩
theorem cell_ty {K : PySem.W.Frag} {as : Ar} {H : Hp} {μ : List Cell} {d : D} {v : V} (r : Rep K as H v d) (s : StoR K as H μ) (e : isLst d μ = true) : tyV K "list" v H := by
  unfold isLst at e
  split at e
  · split at e
    · rename_i xs ex
      obtain ⟨p, vs, rfl, _, hv, _⟩ := h_list r s ex
      exact .inl ⟨rfl, vs, SqL.of hv⟩
    · cases e
  · cases e
theorem de_append {apos cpos : Pos} (ho : PE X o (tF X.K fa)) (he : PE X e (tF X.K fb)) (hbase : attributeBase o "append" X.env (eval o X.env) = eval o X.env := by rfl)
    (hfew : ((backTo cpos (starEach [e] X.env)).all (fun x => !x.1) && (backToKw cpos (keywordEach [] X.env)).all (fun x => x.1.isSome)
      && decide ([e].length + ([] : List Keyword).length + (if ([] : List Keyword).isEmpty then 0 else 1) < 30)) = true := by rfl)
    (hline : (apos.endLine == cpos.line) = true := by rfl) (hs : starEach [e] X.env = (false, eval e X.env) :: starEach [] X.env := by rfl) (hplain : (backTo cpos (starEach [] X.env)).any (·.1) = false := by rfl)
    (hs1 : starEach [e] X.env = [(false, eval e X.env)] := by rfl) :
    PE X (.Call (.Attribute o "append" apos) [e] [] cpos) (tF X.K (fApn fa fb)) :=
  (pe_bm PySem.F.plainAttrs_list PySem.F.slot_list_append PySem.F.type_list_append mt_append ho (da_cons he da_nil hs) hbase hfew hline hs hplain).imp fun σ H Q ⟨as, S, d, μ', E, ed, q⟩ => by
    unfold fApn at ed
    split at ed
    · rename_i x μ1 ea
      split at ed
      rename_i hil
      split at ed
      · rename_i y μ2 eb
        obtain ⟨μ3, ec, eq⟩ := Option.map_eq_some_iff.mp ed
        obtain ⟨rfl, rfl⟩ := Prod.mk.inj eq
        obtain ⟨k, xs, rfl, ex, hz, rfl⟩ := cApp_out ec
        refine ⟨as, S, _, μ1, E, ea, fun v as1 H1 X1 r1 s1 => ⟨?_, as1, _, [y], μ2, E.mvE X1 s1, ?_, fun vs as2 H2 X2 r2 s2 => ?_⟩⟩
        · exact cell_ty r1 s1 hil
        · unfold fCons fNil; rw [eb]
        · cases r2 with
          | cons r2 rt =>
          cases rt
          obtain ⟨p, ws, rfl, ep, hv, rs⟩ := h_list (r1.mv X2) s2 ex
          have X12 := X1.trans X2 E.sto.trk
          obtain ⟨X3, s3⟩ := s2.upd ep (rs.snoc r2)
          exact ⟨p, ws, _, rfl, rfl, hv, by rw [rs.length]; exact hz, q .non as2 _ (X12.trans X3 E.sto.trk) .non s3⟩
      · cases ed
      · cases ed
    · cases ed
end
end DL
namespace DL
open PySem L2
section
variable {X : Cx} {a b c o e : Expr} {es : List Expr} {pos p : Pos} {fa fb : EvE} {fs : EvA}
/-! ### pop -/
theorem type_pop : typeOf (.builtin "list.pop") = pure (.type "method_descriptor") := by show builtinType _ = _; rw [builtinType_eq_fast]; kernel_rfl
def cPop (o i : D) (μ : List Cell) : Option (D × List Cell) := match o, i with
  | .h k, .int j => match μ[k]? with
    | some (.lst xs) => if -(2 ^ 63) ≤ j ∧ j < 2 ^ 63 then match seqIndex? j xs.length with
      | some n => match xs[n]? with
        | some d => some (d, μ.set k (.lst (xs.eraseIdx n)))
        | none => none
      | none => none
      else none
    | _ => none
  | _, _ => none
theorem cPop_out {o i d : D} {μ μ' : List Cell} (e : cPop o i μ = some (d, μ')) : ∃ k j xs n, o = .h k ∧ i = .int j ∧ μ[k]? = some (.lst xs) ∧ -(2 ^ 63) ≤ j ∧ j < 2 ^ 63 ∧ seqIndex? j xs.length = some n ∧ xs[n]? = some d ∧ μ' = μ.set k (.lst (xs.eraseIdx n)) := by
  unfold cPop at e
  split at e
  · split at e
    · rename_i xs ex
      split at e
      · rename_i hj
        split at e
        · rename_i n en
          split at e
          · rename_i d1 ed
            obtain ⟨rfl, rfl⟩ := pr_inj e
            exact ⟨_, _, xs, n, rfl, rfl, ex, hj.1, hj.2, en, ed, rfl⟩
          · cases e
        · cases e
      · cases e
    · cases e
  · cases e
theorem Reps.erase {K : PySem.W.Frag} {as : Ar} {H : Hp} : ∀ {vs : List V} {ds : List D} (n : Nat), Reps K as H vs ds → Reps K as H (vs.eraseIdx n) (ds.eraseIdx n)
  | _, _, _, .nil => .nil
  | _, _, 0, .cons _ t => t
  | _, _, n + 1, .cons h t => .cons h (Reps.erase n t)
def fPop (fo fi : EvE) : EvE := fun S => match fo S with
  | some (o, μ1) => if isLst o μ1 = true then match fi { S with μ := μ1 } with
    | some (i, μ2) => cPop o i μ2
    | none => none
    else none
  | none => none
theorem de_pop {apos cpos : Pos} (ho : PE X o (tF X.K fa)) (he : PE X e (tF X.K fb)) (hbase : attributeBase o "pop" X.env (eval o X.env) = eval o X.env := by rfl)
    (hfew : ((backTo cpos (starEach [e] X.env)).all (fun x => !x.1) && (backToKw cpos (keywordEach [] X.env)).all (fun x => x.1.isSome)
      && decide ([e].length + ([] : List Keyword).length + (if ([] : List Keyword).isEmpty then 0 else 1) < 30)) = true := by rfl)
    (hline : (apos.endLine == cpos.line) = true := by rfl) (hs : starEach [e] X.env = (false, eval e X.env) :: starEach [] X.env := by rfl) (hplain : (backTo cpos (starEach [] X.env)).any (·.1) = false := by rfl) :
    PE X (.Call (.Attribute o "pop" apos) [e] [] cpos) (tF X.K (fPop fa fb)) :=
  (pe_bm PySem.F.plainAttrs_list PySem.F.slot_list_pop type_pop mt_popAt ho (da_cons he da_nil hs) hbase hfew hline hs hplain).imp fun σ H Q ⟨as, S, d, μ', E, ed, q⟩ => by
    unfold fPop at ed
    split at ed
    · rename_i x μ1 ea
      split at ed
      rename_i hil
      split at ed
      · rename_i y μ2 eb
        obtain ⟨k, j, xs, n, rfl, rfl, ex, h1, h2, hn, hd, rfl⟩ := cPop_out ed
        refine ⟨as, S, _, μ1, E, ea, fun v as1 H1 X1 r1 s1 => ⟨cell_ty r1 s1 hil, as1, _, [.int j], μ2, E.mvE X1 s1, ?_, fun vs as2 H2 X2 r2 s2 => ?_⟩⟩
        · unfold fCons fNil; rw [eb]
        · cases r2 with
          | cons r2 rt =>
          cases rt
          cases r2
          obtain ⟨p, ws, rfl, ep, hv, rs⟩ := h_list (r1.mv X2) s2 ex
          have X12 := X1.trans X2 E.sto.trk
          obtain ⟨w, hw, rw'⟩ := rs.get hd
          obtain ⟨X3, s3⟩ := s2.upd ep (rs.erase n)
          exact ⟨p, ws, j, n, w, rfl, rfl, hv, h1, h2, by rw [rs.length]; exact hn, hw, q w as2 _ (X12.trans X3 E.sto.trk) (rw'.mv X3) s3⟩
      · cases ed
      · cases ed
    · cases ed
/-! ### starred arguments, displays -/
def fStar (fa : EvE) (fs : EvA) : EvA := fun S => match fa S with
  | some (x, μ1) => match asQ x μ1 with
    | some xs => match fs { S with μ := μ1 } with
      | some (ys, μ2) => some (xs ++ ys, μ2)
      | none => none
    | none => none
  | none => none
theorem da_star (ha : PE X a (tF X.K fa)) (hr : PA X es (tFA X.K fs)) (hs : starEach (.Starred a p :: es) X.env = (true, eval a X.env) :: starEach es X.env := by rfl) : PA X (.Starred a p :: es) (tFA X.K (fStar fa fs)) :=
  (StX.pa_star ha hr hs).imp fun σ H Q ⟨as, S, d, μ', E, ed, q⟩ => by
    unfold fStar at ed
    split at ed
    · rename_i x μ1 ea
      split at ed
      · rename_i xs ex
        split at ed
        · rename_i ys μ2 es'
          obtain ⟨rfl, rfl⟩ := pr_inj ed
          refine ⟨as, S, x, μ1, E, ea, fun v as1 H1 X1 r1 s1 => ?_⟩
          obtain ⟨b, vs, rfl, hq, rs⟩ := asQ_ok r1 s1 ex
          exact ⟨b, vs, rfl, hq.symm, as1, _, ys, μ2, E.mvE X1 s1, es', fun ws as2 H2 X2 r2 s2 => q _ as2 H2 (X1.trans X2 E.sto.trk) ((rs.mv X2).append r2) s2⟩
        · cases ed
      · cases ed
    · cases ed
/-! ### zip, enumerate -/
def zipD (xs ys : List D) : List D := List.zipWith (fun x y => D.tup [x, y]) xs ys
def gZip (fs : EvA) : EvI := fun S => match fs S with
  | some ([.tup xs, .tup ys], μ1) => some (zipD xs ys, μ1)
  | some ([.lst xs, .lst ys], μ1) => some (zipD xs ys, μ1)
  | _ => none
theorem zipD_get {xs ys : List D} {i : Nat} {x y : D} (hx : xs[i]? = some x) (hy : ys[i]? = some y) : (zipD xs ys)[i]? = some (.tup [x, y]) := by
  unfold zipD
  rw [List.getElem?_zipWith, hx, hy]
theorem zipD_len {xs ys : List D} : (zipD xs ys).length = min xs.length ys.length := by simp [zipD]
theorem di_zip {e2 : Expr} {tpos : Pos} {elts : List Expr} {kk : Nat} (hg : Gl X "zip") (hm : X.mg "zip" = none) (ha : PA X [e, e2] (tFA X.K fs))
    (hs : starEach [e, e2] X.env = (false, eval e X.env) :: starEach [e2] X.env := by rfl) (hpl : (backTo pos (starEach [e2] X.env)).any (·.1) = false := by rfl) :
    PI X (.Tuple elts kk tpos) (.Call (.Name "zip" p) [e, e2] [] pos) (tI X.K (gZip fs)) := PI.imp (RZ.pi_zipA hg hm ha hs hpl) fun σ H R ⟨as, S, ds, μ', E, ed, q⟩ => by
  have newT : ∀ {as' : Ar} {H' H'' : Hp} {μ : List Cell} {T : Addr} {x y : V} {dx dy : D}, StoR X.K as' H' μ → H' T = none → H'' = upd H' T (.tup [x, y]) → Rep X.K as' H' x dx → Rep X.K as' H' y dy → Ext as' H' as' H'' ∧ Rep X.K as' H'' (.ref T) (.tup [dx, dy]) ∧ StoR X.K as' H'' μ := fun {as' H' H'' μ T x y dx dy} s' hT e' rx ry => by
    subst e'
    exact ⟨Ext.new hT (s'.out hT), .newT s' hT (.cons rx (.cons ry .nil)), s'.new hT⟩
  unfold gZip at ed
  split at ed
  · rename_i xs ys μ1 ef
    obtain ⟨rfl, rfl⟩ := pr_inj ed
    refine ⟨as, S, _, μ1, E, ef, fun vs as1 H1 X1 r1 s1 => ?_⟩
    cases r1 with
    | cons ra rt =>
    cases rt with
    | cons rb rt =>
    cases rt
    cases ra with
    | @tup u us _ t1 q1 =>
    cases rb with
    | @tup v ws _ t2 q2 =>
    refine ⟨u, v, us, ws, rfl, .inr ⟨t1.sq, t2.sq, q _ as1 H1 X1 s1 ⟨fun i as' H' X' hi => ?_, fun as' H' X' => ⟨us, ws, (t1.mv X').sq, (t2.mv X').sq, ?_⟩, fun i as' H' μ x H'' X' s' hi y => ?_⟩⟩⟩
    · rw [zipD_len] at hi
      have h1 : i < us.length := by rw [q1.length]; omega
      have h2 : i < ws.length := by rw [q2.length]; omega
      exact ⟨us, ws, us[i], ws[i], (t1.mv X').sq, (t2.mv X').sq, List.getElem?_eq_getElem h1, List.getElem?_eq_getElem h2⟩
    · rw [zipD_len, q1.length, q2.length]; omega
    · obtain ⟨T, x', y', rfl, hT, hH, hx, hy⟩ := y
      obtain ⟨dx, ex, rx⟩ := (q1.mv X').getV (hx us (t1.mv X').sq)
      obtain ⟨dy, ey, ry⟩ := (q2.mv X').getV (hy ws (t2.mv X').sq)
      obtain ⟨z1, z2, z3⟩ := newT s' hT hH rx ry
      exact ⟨_, zipD_get ex ey, z1, z2, z3⟩
  · rename_i xs ys μ1 ef
    obtain ⟨rfl, rfl⟩ := pr_inj ed
    refine ⟨as, S, _, μ1, E, ef, fun vs as1 H1 X1 r1 s1 => ?_⟩
    cases r1 with
    | cons ra rt =>
    cases rt with
    | cons rb rt =>
    cases rt
    cases ra with
    | @lst u us _ t1 n1 q1 =>
    cases rb with
    | @lst v ws _ t2 n2 q2 =>
    have S1 : ∀ {as' : Ar} {H' : Hp}, Ext as1 H1 as' H' → SqL X.K H' u us := fun X' => SqL.of (at_mv t1 n1 X').1
    have S2 : ∀ {as' : Ar} {H' : Hp}, Ext as1 H1 as' H' → SqL X.K H' v ws := fun X' => SqL.of (at_mv t2 n2 X').1
    refine ⟨u, v, us, ws, rfl, .inl ⟨S1 .refl, S2 .refl, q _ as1 H1 X1 s1 ⟨fun i as' H' X' hi => ?_, fun as' H' X' => ⟨us, ws, S1 X', S2 X', ?_⟩, fun i as' H' μ x H'' X' s' hi y => ?_⟩⟩⟩
    · rw [zipD_len] at hi
      have h1 : i < us.length := by rw [q1.length]; omega
      have h2 : i < ws.length := by rw [q2.length]; omega
      exact ⟨us, ws, us[i], ws[i], S1 X', S2 X', List.getElem?_eq_getElem h1, List.getElem?_eq_getElem h2⟩
    · rw [zipD_len, q1.length, q2.length]; omega
    · obtain ⟨T, x', y', rfl, hT, hH, hx, hy⟩ := y
      obtain ⟨dx, ex, rx⟩ := (q1.mv X').getV (hx us (S1 X'))
      obtain ⟨dy, ey, ry⟩ := (q2.mv X').getV (hy ws (S2 X'))
      obtain ⟨z1, z2, z3⟩ := newT s' hT hH rx ry
      exact ⟨_, zipD_get ex ey, z1, z2, z3⟩
  · cases ed
/-! ### texts with parts -/
def dFmt : D → List Cell → Option D
  | .str y, _ => if y.length ≤ sizeLine then some (.str y) else none
  | .int i, _ => if i.natAbs.log2 < 1920 then some (.str (toString i)) else none
  | _, _ => none
theorem de_fmt (he : PE X a (tF X.K fa)) : PE X (.FormattedValue a (-1) none pos) (tF X.K (fU dFmt fa)) := (pe_fmt he).imp fun σ H Q ⟨as, S, d, μ', E, ed, q⟩ => by
  obtain ⟨x, ex, ez⟩ := fU_out ed
  refine ⟨as, S, x, μ', E, ex, fun v as1 H1 X1 r1 s1 => ?_⟩
  unfold dFmt at ez
  split at ez
  · split at ez
    · rename_i hz
      cases Option.some.inj ez
      cases r1
      exact .inl ⟨_, rfl, hz, q _ as1 H1 X1 (.str _) s1⟩
    · cases ez
  · split at ez
    · rename_i hz
      cases Option.some.inj ez
      cases r1
      exact .inr ⟨_, rfl, hz, q _ as1 H1 X1 (.str _) s1⟩
    · cases ez
  · cases ez
inductive DJs (X : Cx) : List Expr → List EvE → Prop where
  | nil : DJs X [] []
  | cons {e : Expr} {f : EvE} {es : List Expr} {fs : List EvE} (h : PE X e (tF X.K f)) (r : DJs X es fs) : DJs X (e :: es) (f :: fs)
theorem DJs.pj : ∀ {es : List Expr} {fs : List EvE}, DJs X es fs → PJ X es (fs.map (tF X.K))
  | _, _, .nil => .nil
  | _, _, .cons h r => .cons h r.pj
def joinL : List EvE → Str → Sg → Option (Str × List Cell)
  | [], acc, S => some (acc, S.μ)
  | f :: fs, acc, S => match f S with
    | some (.str y, μ1) => if (acc ++ y).length ≤ sizeLine then joinL fs (acc ++ y) { S with μ := μ1 } else none
    | _ => none
def fJs (fs : List EvE) : EvE := fun S => match joinL fs Str.empty S with
  | some (z, μ') => some (.str z, μ')
  | none => none
theorem joinL_ok {K : PySem.W.Frag} {σ : St} {Q : Str → Hp → Prop} {z : Str} {μ' : List Cell} : ∀ {fs : List EvE} {acc : Str} {as : Ar} {H : Hp} {S : Sg}, ER K as σ H S → joinL fs acc S = some (z, μ') → (∀ as' H', Ext as H as' H' → StoR K as' H' μ' → Q z H') → tJs (fs.map (tF K)) acc σ H Q
  | [], acc, as, H, S, E, e, q => by
    obtain ⟨rfl, rfl⟩ := pr_inj e
    exact q as H .refl E.sto
  | f :: fs, acc, as, H, S, E, e, q => by
    unfold joinL at e
    split at e
    · rename_i y μ1 ef
      split at e
      · rename_i hz
        refine ⟨as, S, _, μ1, E, ef, fun v as1 H1 X1 r1 s1 => ?_⟩
        cases r1
        exact ⟨y, rfl, hz, joinL_ok (E.mvE X1 s1) e fun as2 H2 X2 s2 => q as2 H2 (X1.trans X2 E.sto.trk) s2⟩
      · cases e
    · cases e
theorem de_joined {v1 v2 : Expr} {rest : List Expr} {fs : List EvE} (h : DJs X (v1 :: v2 :: rest) fs) : PE X (.JoinedStr (v1 :: v2 :: rest) pos) (tF X.K (fJs fs)) := (pe_joined h.pj).imp fun σ H Q ⟨as, S, d, μ', E, ed, q⟩ => by
  unfold fJs at ed
  split at ed
  · rename_i z μ1 ej
    obtain ⟨rfl, rfl⟩ := pr_inj ed
    exact joinL_ok E ej fun as' H' X' s' => q _ as' H' X' (.str _) s'
  · cases ed
theorem de_joined1 (h : PE X a (tF X.K fa)) : PE X (.JoinedStr [a] pos) (tF X.K fa) := pe_joined1 h
/-! ### in, not in -/
def inB (x y : D) (μ : List Cell) : Option Bool := match x, y with
  | .str w, .str z => match w.cps.toList with
    | [c] => some (decide (c ∈ z.cps.toList))
    | _ => none
  | _, _ => match toP x μ, toP y μ with
    | some p, some (.list ps) => if p.canLay0 = true ∧ PyData.canLayAll0 ps = true ∧ p.depth ≤ 63 then some (ps.any fun q => PyData.eqv q p) else none
    | some p, some (.tuple ps) => if p.canLay0 = true ∧ PyData.canLayAll0 ps = true ∧ p.depth ≤ 63 then some (ps.any fun q => PyData.eqv q p) else none
    | _, _ => none
def dIn : D → D → List Cell → Option D := fun x y μ => (inB x y μ).map .bl
def dNotIn : D → D → List Cell → Option D := fun x y μ => (inB x y μ).map fun k => .bl (!k)
theorem dIn_bl : ∀ x y μ z, dIn x y μ = some z → ∃ k, z = .bl k := fun _ _ _ _ e => map_bl (f := fun k => k) e
theorem dNotIn_bl : ∀ x y μ z, dNotIn x y μ = some z → ∃ k, z = .bl k := fun _ _ _ _ e => map_bl e
theorem one_sign {w : Str} {c : Nat} (e : w.cps.toList = [c]) : w = ⟨#[c]⟩ := by
  cases w with
  | mk l =>
    congr 1
    apply Array.ext'
    simpa using e
theorem op_inD (hu : X.A.units + 64 < cLine) : OpR X (compareOp .In) (rD X.K dIn) := by
  intro pins s σ H x y v u Q I rx ry ⟨as, d, e, μ, z, rd, re, sto, ez, q⟩
  obtain ⟨k, ek, rfl⟩ := Option.map_eq_some_iff.mp ez
  unfold inB at ek
  split at ek
  · split at ek
    · rename_i c hc
      cases Option.some.inj ek
      cases rd; cases re
      exact op_in_sign pins s σ H _ _ v u Q I rx ry ⟨c, _, by rw [one_sign hc], rfl, q _ H .refl (.bl _) sto⟩
    · cases ek
  · split at ek
    · rename_i p ps e1 e2
      split at ek
      · rename_i hs
        cases Option.some.inj ek
        obtain ⟨bs, r1⟩ := Dp.reads I p x v (toP_ok rd e1) rx
        obtain ⟨cs, r2⟩ := Dp.reads I _ y u (toP_ok re e2) ry
        exact SeqAt.in_list_reads r2 r1 hs.2.1 hs.1 (by omega) ⟨.bl _, H, I, rfl, q _ H .refl (.bl _) sto⟩
      · cases ek
    · rename_i p ps e1 e2
      split at ek
      · rename_i hs
        cases Option.some.inj ek
        obtain ⟨bs, r1⟩ := Dp.reads I p x v (toP_ok rd e1) rx
        obtain ⟨cs, r2⟩ := Dp.reads I _ y u (toP_ok re e2) ry
        exact SeqAt.in_tuple_reads r2 r1 hs.2.1 hs.1 (by omega) ⟨.bl _, H, I, rfl, q _ H .refl (.bl _) sto⟩
      · cases ek
    · cases ek
theorem op_notInD (hu : X.A.units + 64 < cLine) : OpR X (compareOp .NotIn) (rD X.K dNotIn) := by
  intro pins s σ H x y v u Q I rx ry ⟨as, d, e, μ, z, rd, re, sto, ez, q⟩
  obtain ⟨k, ek, rfl⟩ := Option.map_eq_some_iff.mp ez
  unfold inB at ek
  split at ek
  · split at ek
    · rename_i c hc
      cases Option.some.inj ek
      cases rd; cases re
      exact op_notIn_sign pins s σ H _ _ v u Q I rx ry ⟨c, _, by rw [one_sign hc], rfl, q _ H .refl (.bl _) sto⟩
    · cases ek
  · split at ek
    · rename_i p ps e1 e2
      split at ek
      · rename_i hs
        cases Option.some.inj ek
        obtain ⟨bs, r1⟩ := Dp.reads I p x v (toP_ok rd e1) rx
        obtain ⟨cs, r2⟩ := Dp.reads I _ y u (toP_ok re e2) ry
        exact SeqAt.notIn_list_reads r2 r1 hs.2.1 hs.1 (by omega) ⟨.bl _, H, I, rfl, q _ H .refl (.bl _) sto⟩
      · cases ek
    · rename_i p ps e1 e2
      split at ek
      · rename_i hs
        cases Option.some.inj ek
        obtain ⟨bs, r1⟩ := Dp.reads I p x v (toP_ok rd e1) rx
        obtain ⟨cs, r2⟩ := Dp.reads I _ y u (toP_ok re e2) ry
        exact SeqAt.notIn_tuple_reads r2 r1 hs.2.1 hs.1 (by omega) ⟨.bl _, H, I, rfl, q _ H .refl (.bl _) sto⟩
      · cases ek
    · cases ek
/-! ### repr of lists, tuples -/
def isQ : D → Bool
  | .lst _ | .rl _ | .tup _ | .h _ => true
  | _ => false
def dRepr : D → List Cell → Option D
  | .bl b, _ => some (.str (reprB b))
  | x, μ => if isQ x = true then match toQ x μ with
    | some p => if p.showable = true ∧ p.hasDict = false ∧ p.depth ≤ 62 ∧ p.shown.length ≤ sizeLine then some (.str p.shown) else none
    | none => none
    else none
theorem call_reprD (hgd : X.A.guards = some []) (hu : X.A.units + 64 < cLine) : CallR X (.builtin "repr") (rCD X.K (g1 dRepr)) := call1 fun pins s σ H x us Q as d μ z I r rd sto ez q => by
  unfold dRepr at ez
  split at ez
  · cases Option.some.inj ez
    cases rd
    obtain ⟨u, rfl, ru⟩ := Vals.one r
    cases ru
    exact PySem.P.repr_of_bool ⟨.str _, H, I.tok _, ⟨_, rfl⟩, q _ H .refl (.str _) sto⟩
  · split at ez
    · rename_i hq
      split at ez
      · rename_i p e1
        split at ez
        · rename_i hs
          cases Option.some.inj ez
          obtain ⟨u, rfl, ru⟩ := Vals.one r
          have isr : ∃ a, x = .ref a := by
            cases rd with
            | lst _ _ _ => exact ⟨_, rfl⟩
            | rl _ _ => exact ⟨_, rfl⟩
            | tup _ _ => exact ⟨_, rfl⟩
            | h _ => exact ⟨_, rfl⟩
            | _ => simp [isQ] at hq
          obtain ⟨a, rfl⟩ := isr
          obtain ⟨bs, r1⟩ := Dp.reads I p (.ref a) u (toQ_ok rd sto e1) ru
          cases ru
          exact repr_of_reads' r1 hs.1 (by rw [hs.2.1]; intro h; cases h) hgd (by omega) (fun _ _ h => h) (fun h' u' tk hk => ⟨.str _, H, I.kept hk, ⟨_, rfl⟩, q _ H .refl (.str _) sto⟩) hs.2.2.2
        · cases ez
      · cases ez
    · cases ez
end
end DL
namespace DL
open PySem L2
/-! Objects of the program's classes as cells: fields read, stored; made by their own __init__. -/
section
variable {K : PySem.W.Frag} {as as' : Ar} {H H' : Hp} {μ : List Cell}
theorem fld_lookup {f : Str} : ∀ {fv : List (Str × V)} {fs : List (Str × D)} {d : D}, fv.map (·.1) = fs.map (·.1) → Reps K as H (fv.map (·.2)) (fs.map (·.2)) → fs.lookup f = some d → ∃ v, fv.lookup f = some v ∧ Rep K as H v d
  | [], [], _, _, _, e => by simp at e
  | [], _ :: _, _, h, _, _ => by simp at h
  | _ :: _, [], _, h, _, _ => by simp at h
  | (g, v) :: fv, (g', d') :: fs, d, h, r, e => by
    simp only [List.map_cons, List.cons.injEq] at h
    obtain ⟨rfl, h⟩ := h
    cases r with
    | cons r1 r2 =>
      rw [List.lookup_cons] at e ⊢
      split at e
      · cases e
        exact ⟨v, rfl, r1⟩
      · exact fld_lookup h r2 e
def putD (f : Str) (d : D) : List (Str × D) → List (Str × D)
  | [] => [(f, d)]
  | (g, x) :: r => if g = f then (g, d) :: r else (g, x) :: putD f d r
theorem put_map {f : Str} {v : V} {d : D} (rv : Rep K as H v d) : ∀ {fv : List (Str × V)} {fs : List (Str × D)}, fv.map (·.1) = fs.map (·.1) → Reps K as H (fv.map (·.2)) (fs.map (·.2)) →
    (putF f v fv).map (·.1) = (putD f d fs).map (·.1) ∧ Reps K as H ((putF f v fv).map (·.2)) ((putD f d fs).map (·.2))
  | [], [], _, _ => ⟨rfl, .cons rv .nil⟩
  | [], _ :: _, h, _ => by simp at h
  | _ :: _, [], h, _ => by simp at h
  | (g, x) :: fv, (g', y) :: fs, h, r => by
    simp only [List.map_cons, List.cons.injEq] at h
    obtain ⟨rfl, h⟩ := h
    cases r with
    | cons r1 r2 =>
      unfold putF putD
      by_cases hg : g = f
      · rw [if_pos hg, if_pos hg]
        exact ⟨by simp only [List.map_cons, h], .cons rv r2⟩
      · rw [if_neg hg, if_neg hg]
        obtain ⟨a, b⟩ := put_map rv h r2
        exact ⟨by simp only [List.map_cons, a], .cons r1 b⟩
theorem h_obj {k : Nat} {v : V} {n : Str} {fs : List (Str × D)} (r : Rep K as H v (.h k)) (s : StoR K as H μ) (e : μ[k]? = some (.obj n fs)) :
    ∃ p C dx fv, v = .ref p ∧ as.c[k]? = some p ∧ PySem.W.nsIn K mainGlobals n = some (some (.ref C)) ∧ H p = some (.ins C dx fv) ∧ fv.map (·.1) = fs.map (·.1) ∧ Reps K as H (fv.map (·.2)) (fs.map (·.2)) := by
  cases r with
  | @h _ p ep =>
    obtain ⟨C, dx, fv, hn, hv, hl, rs⟩ := s.at_ k p _ ep e
    exact ⟨p, C, dx, fv, rfl, ep, hn, hv, hl, rs⟩
/-- a cell takes another content -/
theorem StoR.upd1 {k : Nat} {a : Addr} {o : HO} {c' : Cell} (s : StoR K as H μ) (ea : as.c[k]? = some a) (r : ∀ {as' : Ar} {H' : Hp}, Ext as H as' H' → H' a = some o → CellR K as' H' a c') :
    Ext as H as (L2.upd H a o) ∧ StoR K as (L2.upd H a o) (μ.set k c') := by
  have ha : a ∈ as.c := List.mem_of_getElem? ea
  have X1 : Ext as H as (L2.upd H a o) := ⟨⟨[], by simp, by simp⟩, ⟨[], by simp, by simp⟩, fun b u hb e => by rw [upd_ne fun (z : b = a) => hb (by rw [z]; exact ha)]; exact e, fun b hb e => by
    by_cases z : b = a
    · subst z; rw [upd_same]; simp
    · rw [upd_ne z]; exact e⟩
  refine ⟨X1, ?_, fun j b c ej ec => ?_, s.nd, fun b hb => ?_⟩
  · rw [List.length_set]; exact s.len
  · by_cases hj : k = j
    · subst hj
      have hk : k < μ.length := by
        rw [← s.len]; exact (List.getElem?_eq_some_iff.mp ea).1
      rw [List.getElem?_set_self hk] at ec
      cases ec
      rw [ea] at ej
      cases ej
      exact r X1 upd_same
    · rw [List.getElem?_set_ne hj] at ec
      refine (s.at_ j b c ej ec).mv X1 (upd_ne fun z => hj ?_)
      subst z
      exact nodup_ix s.nd ea ej
  · by_cases z : b = a
    · subst z; rw [upd_same]; simp
    · rw [upd_ne z]; exact s.bl b hb
/-- a new cell -/
theorem StoR.grow1 {p : Addr} {o : HO} {c' : Cell} (s : StoR K as H μ) (hp : H p = none) (r : CellR K ⟨as.c ++ [p], as.b⟩ (L2.upd H p o) p c') :
    Ext as H ⟨as.c ++ [p], as.b⟩ (L2.upd H p o) ∧ StoR K ⟨as.c ++ [p], as.b⟩ (L2.upd H p o) (μ ++ [c']) := by
  have n := s.out hp
  have X1 : Ext as H ⟨as.c ++ [p], as.b⟩ (L2.upd H p o) := ⟨⟨[p], rfl, by simpa using hp⟩, ⟨[], rfl, by simp⟩, (Ext.new hp n).old, (Ext.new hp n).cel⟩
  refine ⟨X1, by simp [s.len], fun k a c ea ec => ?_, ?_, fun a ha => ?_⟩
  · by_cases hk : k < μ.length
    · have hk' : k < as.c.length := by rw [s.len]; exact hk
      rw [List.getElem?_append_left hk'] at ea
      rw [List.getElem?_append_left hk] at ec
      exact (s.at_ k a c ea ec).mv X1 (upd_ne fun z => n.1 (z ▸ List.mem_of_getElem? ea))
    · have hk' : ¬ k < as.c.length := by rw [s.len]; exact hk
      rw [List.getElem?_append_right (by omega)] at ea
      rw [List.getElem?_append_right (by omega)] at ec
      have h0 : k - μ.length = 0 := by
        have := (List.getElem?_eq_some_iff.mp ec).1
        simpa using this
      rw [h0] at ec
      rw [s.len, h0] at ea
      cases ec
      cases ea
      exact r
  · rw [List.nodup_append]
    exact ⟨s.nd, by simp, fun a ha b hb e => n.1 (by simp at hb; rw [← hb, ← e]; exact ha)⟩
  · by_cases z : a = p
    · subst z; rw [upd_same]; simp
    · rw [upd_ne z]; exact s.bl a ha
end
section
variable {X : Cx} {o e : Expr} {es : List Expr} {fl x : Str} {p pos pos' : Pos} {fa fb : EvE} {fs : EvA} {W : WX}
/-- the classes (by name) whose instances have no class attribute of this name -/
def FldOk (K : PySem.W.Frag) (ns : List Str) (fl : Str) : Prop := ∀ n C, n ∈ ns → PySem.W.nsIn K mainGlobals n = some (some (.ref C)) → Cls K C ∧ NoAttr K C fl
def dFld (ns : List Str) (fl : Str) : D → List Cell → Option D
  | .h k, μ => match μ[k]? with
    | some (.obj n fs) => if n ∈ ns then fs.lookup fl else none
    | _ => none
  | _, _ => none
theorem de_fld {ns : List Str} (hk : FldOk X.K ns fl) (he : PE X o (tF X.K fa)) (hb : attributeBase o fl X.env (eval o X.env) = eval o X.env := by rfl) : PE X (.Attribute o fl pos) (tF X.K (fU (dFld ns fl) fa)) := (pe_fld he hb).imp fun σ H Q ⟨as, S, d, μ', E, ed, q⟩ => by
  obtain ⟨y, ey, ez⟩ := fU_out ed
  unfold dFld at ez
  split at ez
  · split at ez
    · rename_i n fs ec
      split at ez
      · rename_i hn
        refine ⟨as, S, _, μ', E, ey, fun v as1 H1 X1 r1 s1 => ?_⟩
        obtain ⟨a, C, dx, fv, rfl, _, hc, ha, hl, rs⟩ := h_obj r1 s1 ec
        obtain ⟨w, hw, rw'⟩ := fld_lookup hl rs ez
        obtain ⟨k1, k2⟩ := hk n C hn hc
        exact ⟨a, C, dx, fv, w, rfl, ha, k1, k2, hw, q w as1 H1 X1 rw' s1⟩
      · cases ez
    · cases ez
  · cases ez
/-- o.f = e -/
def cFld (ns : List Str) (fl : Str) (o d : D) (μ : List Cell) : Option (List Cell) := match o with
  | .h k => match μ[k]? with
    | some (.obj n fs) => if n ∈ ns ∧ fs.length < 1000 then some (μ.set k (.obj n (putD fl d fs))) else none
    | _ => none
  | _ => none
def sFldD (ns : List Str) (fl : Str) (fo fe : EvE) : EvS := fun S => match fe S with
  | some (d, μ1) => match fo { S with μ := μ1 } with
    | some (ob, μ2) => match cFld ns fl ob d μ2 with
      | some μ3 => some (.nx, { S with μ := μ3 })
      | none => none
    | none => none
  | none => none
theorem ds_fld {ns : List Str} (hk : FldOk X.K ns fl) (ho : PE X o (tF X.K fa)) (he : PE X e (tF X.K fb)) (hs : swapsWith e (some (.Attribute o fl pos')) pos.line X.env = pure false := by rfl) : PS X (.Assign [.Attribute o fl pos'] e pos) (tFS X.K X.mg W (sFldD ns fl fa fb)) := (ps_fld ho he hs).imp fun D σ H ⟨as, S, f, S', E, ed, q⟩ => by
  unfold sFldD at ed
  split at ed
  · rename_i d μ1 e1
    split at ed
    · rename_i ob μ2 e2
      split at ed
      · rename_i μ3 e3
        obtain ⟨rfl, rfl⟩ := pr_inj ed
        refine ⟨as, S, d, μ1, E, e1, fun y as1 H1 X1 r1 s1 => ⟨as1, _, ob, μ2, E.mvE X1 s1, e2, fun v as2 H2 X2 r2 s2 => ?_⟩⟩
        unfold cFld at e3
        split at e3
        · split at e3
          · rename_i k n fs ec
            split at e3
            · rename_i hn
              cases Option.some.inj e3
              obtain ⟨a, C, dx, fv, rfl, ea, hc, ha, hl, rs⟩ := h_obj r2 s2 ec
              obtain ⟨k1, k2⟩ := hk n C hn.1 hc
              have X12 := X1.trans X2 E.sto.trk
              have ry := r1.mv X2
              obtain ⟨X3, s3⟩ := s2.upd1 (o := .ins C dx (putF fl y fv)) (c' := .obj n (putD fl d fs)) ea fun {as' H'} Z hz => by
                obtain ⟨m1, m2⟩ := put_map (f := fl) (ry.mv Z) hl (rs.mv Z)
                exact ⟨C, dx, _, hc, hz, m1, m2⟩
              have hlen : fv.length < 1000 := by
                have z := congrArg List.length hl
                simp only [List.length_map] at z
                omega
              have X13 := X12.trans X3 E.sto.trk
              exact ⟨a, C, dx, fv, rfl, ha, k1, k2, hlen, q as2 σ _ X13 (E.mvE X13 s3)⟩
            · cases e3
          · cases e3
        · cases e3
      · cases ed
    · cases ed
  · cases ed
/-- C(e, ..): a new cell, then __init__ -/
def fMake (x : Str) (F : FnF) (fs : EvA) : EvX := fun S => match fs S with
  | some (ds, μ1) => match F (.h μ1.length :: ds) (μ1 ++ [.obj x []]) with
    | some (.v .non, μ2) => some (.v (.h μ1.length), μ2)
    | some (.x n q, μ2) => some (.x n q, μ2)
    | _ => none
  | none => none
theorem under_guards {A : Around} {C : Addr} {us : List Value} (h : A.guards = some []) : (A.under (.builtin "type.__call__" ⟨.ref C :: us, []⟩)).guards = some [] := by
  first | exact h | simpa [Around.under] using h
theorem run_mkG {k n : Nat} {f C : Addr} {fd : FuncData} {F : FnF} {pins : List (Addr × Obj)} {σ : L2.St} {H : Hp} {s : Shared} {Q : VK} {E : XK} {us : List Value} {vs : List V} {as : Ar} {ds : List D} {μ : List Cell} {o : Ov} {μ' : List Cell}
    (M : Mk X.K C f) (G : FG X.prog X.w X.K X.mg X.base k f fd (n + 1) F) (hr : Room (k + 1) X.A) (hgd : X.A.guards = some []) (hc : PySem.W.nsIn X.K mainGlobals x = some (some (.ref C))) (I : Inv X pins σ H s) (r : Vals vs us) (hx : PassesAt (L2.CX X.prog X.w) X σ E)
    (hn : vs.length = n) (rs : Reps X.K as H vs ds) (sto : StoR X.K as H μ) (ef : F (.h μ.length :: ds) (μ ++ [.obj x []]) = some (o, μ'))
    (q : match o with
      | .v d => d = .non ∧ ∀ v as' H', Ext as H as' H' → Rep X.K as' H' v (.h μ.length) → StoR X.K as' H' μ' → Q v H'
      | .x m pp => ∀ as' H' C dx, Ext as H as' H' → StoR X.K as' H' μ' → X.mg m = some C → XR dx pp → E C dx H') :
    wpAny (model X.prog X.w) X.A (call (.ref C) us) (EP X pins σ Q) X.xe s := by
  obtain ⟨ps, hp, hb, hk, run⟩ := G.ps
  have hx0 : H s.heap.objs.size = none := I.hok.fresh (Nat.le_refl _)
  have hx1 : H (s.heap.objs.size + 1) = none := I.hok.fresh (Nat.le_succ _)
  have ne : s.heap.objs.size ≠ s.heap.objs.size + 1 := Nat.ne_of_lt (Nat.lt_succ_self _)
  have I2 := Inv.made (C := C) I
  have X1 := Ext.new (o := HO.own (s.heap.objs.size + 1)) hx0 (sto.out hx0)
  have s1 := sto.new (o := HO.own (s.heap.objs.size + 1)) hx0
  have hx1' : upd H s.heap.objs.size (HO.own (s.heap.objs.size + 1)) (s.heap.objs.size + 1) = none := by rw [upd_ne (Ne.symm ne)]; exact hx1
  obtain ⟨X2, s2⟩ := s1.grow1 (o := .ins C s.heap.objs.size []) (c' := .obj x []) hx1' ⟨C, s.heap.objs.size, [], hc, upd_same, rfl, .nil⟩
  have X12 := X1.trans X2 sto.trk
  have rself : Rep X.K ⟨as.c ++ [s.heap.objs.size + 1], as.b⟩ (upd (upd H s.heap.objs.size (HO.own (s.heap.objs.size + 1))) (s.heap.objs.size + 1) (.ins C s.heap.objs.size [])) (.ref (s.heap.objs.size + 1)) (.h μ.length) := .h (by
    rw [List.getElem?_append_right (by rw [sto.len]; exact Nat.le_refl _), sto.len]
    simp)
  have hl : (Value.ref (s.heap.objs.size + 1) :: us ++ []).length = ps.length := by
    rw [List.append_nil, List.length_cons, ← r.length, hn, hp]
  refine wpAny_call (make_map (f := f) I.kIn M.makes M.init (beq_iff_eq.mp M.fn) (codeAny_mono (run _ X.stack _ _ ⟨Value.ref (s.heap.objs.size + 1) :: us, []⟩ (Value.ref (s.heap.objs.size + 1) :: us ++ []) (.ref (s.heap.objs.size + 1) :: vs) (fun v H2 => v = .non ∧ Q (.ref (s.heap.objs.size + 1)) H2) E (hr.make C us []) (under_guards hgd)
    (I2.env0.make C us []) (hb _ (Value.ref (s.heap.objs.size + 1) :: us) I2.kIn hl) (by rw [List.append_nil]; exact .cons rfl r) ⟨_, _, .h μ.length :: ds, o, μ', by rw [List.length_cons, hn], .cons rself (rs.mv X12), s2, ef, ?_⟩) fun r s' hq' => ?_))
  · cases o with
    | v d =>
      obtain ⟨rfl, q⟩ := q
      intro v as' H' Z rv sv
      cases rv
      exact ⟨rfl, q _ as' H' (X12.trans Z sto.trk) (rself.mv Z) sv⟩
    | x m pp => exact fun as' H' C dx Z sv em xr => q as' H' C dx (X12.trans Z sto.trk) sv em xr
  · cases r with
    | error e => exact hx pins _ _ e s' I2 hq'
    | ok fl =>
      cases fl with
      | ret u =>
        obtain ⟨v, H', I3, rv, ev, q3⟩ := I2.after hq'
        subst ev
        exact ⟨rv, ⟨V.ref (s.heap.objs.size + 1), H', I3, rfl, q3⟩⟩
      | _ => exact False.elim hq'
end

section
variable {X : Cx} {o e : Expr} {es : List Expr} {x m : Str} {p apos pos : Pos} {fa : EvE} {fs : EvA} {W : WX} {k n : Nat} {f C : Addr} {fd : FuncData} {F : FnF}
theorem fMake_out {S : Sg} {r : Ov} {μ' : List Cell} (e : fMake x F (fLen n fs) S = some (r, μ')) : ∃ ds μ1 o, fs S = some (ds, μ1) ∧ ds.length = n ∧ F (.h μ1.length :: ds) (μ1 ++ [.obj x []]) = some (o, μ') ∧ ((o = .v .non ∧ r = .v (.h μ1.length)) ∨ ∃ m q, o = .x m q ∧ r = .x m q) := by
  unfold fMake fLen at e
  split at e
  · rename_i ds μ1 e1
    split at e1
    · rename_i ds' μ1' es
      split at e1
      · rename_i hn
        obtain ⟨rfl, rfl⟩ := pr_inj e1
        split at e
        · rename_i μ2 ef
          obtain ⟨rfl, rfl⟩ := pr_inj e
          exact ⟨_, _, _, es, hn, ef, .inl ⟨rfl, rfl⟩⟩
        · rename_i m q μ2 ef
          obtain ⟨rfl, rfl⟩ := pr_inj e
          exact ⟨_, _, _, es, hn, ef, .inr ⟨_, _, rfl, rfl⟩⟩
        · cases e
      · cases e1
    · cases e1
  · cases e
theorem make_any {pins : List (Addr × Obj)} {s : Shared} {σ : L2.St} {H : Hp} {Q : VK} {E : XK} {as : Ar} {S : Sg} {r : Ov} {μ' : List Cell} (M : Mk X.K C f) (G : FG X.prog X.w X.K X.mg X.base k f fd (n + 1) F) (hr : Room (k + 1) X.A) (hgd : X.A.guards = some []) (hc : PySem.W.nsIn X.K mainGlobals x = some (some (.ref C))) (hg : Gl X x) (hm : X.mg x = some (.ref C))
    (ha : PA X (e :: es) (tFA X.K fs)) (hdb : (x == ("__debug__" : Str)) = false) (he : starEach (e :: es) X.env = (false, eval e X.env) :: starEach es X.env) (hpl : (backTo pos (starEach es X.env)).any (·.1) = false) (I : Inv X pins σ H s) (ee : ER X.K as σ H S) (ed : fMake x F (fLen n fs) S = some (r, μ')) (hx : PassesAt (L2.CX X.prog X.w) X σ E) (q : outD X.K X.mg as H Q E r μ') :
    wpAny (model X.prog X.w) X.A (eval (.Call (.Name x p) (e :: es) [] pos) X.env) (EP X pins σ Q) X.xe s := by
  obtain ⟨ds, μ1, ov, ea, hn, ef, ho⟩ := fMake_out ed
  refine wpAny_Call_Name_kw (ld_glob I hg hm ?_ hdb)
  refine PySem.W.callWith_K (h₀ := X.base) I.ok.mod.kin M.kp (thn (ha.run pos pins s σ H (fun vs H1 => ∃ as1, Ext as H as1 H1 ∧ Reps X.K as1 H1 vs ds ∧ StoR X.K as1 H1 μ1) I ⟨as, S, _, _, ee, ea, fun vs as1 H1 X1 r1 s1 => ⟨as1, X1, r1, s1⟩⟩) fun us s1 ⟨vs, H1, I1, r1, as1, X1, rs, st⟩ => ⟨I1.kIn, run_mkG M G hr hgd hc I1 r1 hx (rs.length.trans hn) rs st ef ?_⟩) he hpl
  rcases ho with ⟨rfl, rfl⟩ | ⟨m, pp, rfl, rfl⟩
  · exact ⟨rfl, fun v as2 H2 X2 r2 s2 => q v as2 H2 (X1.trans X2 ee.sto.trk) r2 s2⟩
  · exact fun as2 H2 C dx X2 s2 ec xr => q as2 H2 C dx (X1.trans X2 ee.sto.trk) s2 ec xr
theorem de_make (M : Mk X.K C f) (G : FG X.prog X.w X.K X.mg X.base k f fd (n + 1) F) (hr : Room (k + 1) X.A) (hgd : X.A.guards = some []) (hc : PySem.W.nsIn X.K mainGlobals x = some (some (.ref C))) (hg : Gl X x) (hm : X.mg x = some (.ref C))
    (ha : PA X (e :: es) (tFA X.K fs)) (hdb : (x == ("__debug__" : Str)) = false := by decide) (he : starEach (e :: es) X.env = (false, eval e X.env) :: starEach es X.env := by rfl) (hpl : (backTo pos (starEach es X.env)).any (·.1) = false := by rfl) :
    PE X (.Call (.Name x p) (e :: es) [] pos) (tF X.K (fNox (fMake x F (fLen n fs)))) :=
  ⟨fun pins s σ H Q I ⟨as, S, d, μ', E, ed, q⟩ => make_any M G hr hgd hc hg hm ha hdb he hpl I E (fNox_out ed) passF q⟩
theorem de_makeX (tk : Takes X W) (M : Mk X.K C f) (G : FG X.prog X.w X.K X.mg X.base k f fd (n + 1) F) (hr : Room (k + 1) X.A) (hgd : X.A.guards = some []) (hc : PySem.W.nsIn X.K mainGlobals x = some (some (.ref C))) (hg : Gl X x) (hm : X.mg x = some (.ref C))
    (ha : PA X (e :: es) (tFA X.K fs)) (hdb : (x == ("__debug__" : Str)) = false := by decide) (he : starEach (e :: es) X.env = (false, eval e X.env) :: starEach es X.env := by rfl) (hpl : (backTo pos (starEach es X.env)).any (·.1) = false := by rfl) :
    PE X (.Call (.Name x p) (e :: es) [] pos) (tFX X.K X.mg W (fMake x F (fLen n fs))) :=
  ⟨fun pins s σ H Q I ⟨as, S, o, μ', E, ed, q⟩ => make_any (E := L2.WE W σ) M G hr hgd hc hg hm ha hdb he hpl I E ed (passAt tk σ) (by
    cases o with
    | v d => exact q
    | x m pp => exact q)⟩
/-! o.m(e, ..) -/
/-- the object of a call of a method -/
def isObjD (n : Str) (m : Str) (o : D) (μ : List Cell) : Bool := match o with
  | .h k => match μ[k]? with
    | some (.obj n' fs) => decide (n' = n) && (fs.lookup m).isNone
    | _ => false
  | _ => false
theorem isObjD_ok {K : PySem.W.Frag} {as : Ar} {H : Hp} {μ : List Cell} {v : V} {d : D} {nm : Str} {C : Addr} (hc : PySem.W.nsIn K mainGlobals nm = some (some (.ref C))) (r : Rep K as H v d) (s : StoR K as H μ) (e : isObjD nm m d μ = true) : ∃ a dx fv, v = .ref a ∧ H a = some (.ins C dx fv) ∧ fv.lookup m = none := by
  unfold isObjD at e
  split at e
  · split at e
    · rename_i n' fs ec
      rw [Bool.and_eq_true, decide_eq_true_eq] at e
      obtain ⟨rfl, e⟩ := e
      obtain ⟨a, C', dx, fv, rfl, _, hn, ha, hl, rs⟩ := h_obj r s ec
      have z := hc.symm.trans hn
      injection z with z
      injection z with z
      injection z with z
      subst z
      refine ⟨a, dx, fv, rfl, ha, ?_⟩
      have key : ∀ {fv : List (Str × V)} {fs : List (Str × D)}, fv.map (·.1) = fs.map (·.1) → (fs.lookup m).isNone = true → fv.lookup m = none := by
        intro fv
        induction fv with
        | nil => intro fs _ _; rfl
        | cons q fv ih =>
          intro fs h e
          cases fs with
          | nil => simp at h
          | cons q' fs =>
            obtain ⟨g, v⟩ := q
            obtain ⟨g', d⟩ := q'
            simp only [List.map_cons, List.cons.injEq] at h
            obtain ⟨rfl, h⟩ := h
            rw [List.lookup_cons] at e ⊢
            split at e
            · cases e
            · exact ih h e
      exact key hl e
    · cases e
  · cases e
def fMethX (nm m : Str) (F : FnF) (fo : EvE) (fs : EvA) : EvX := fun S => match fo S with
  | some (ob, μ1) => if isObjD nm m ob μ1 = true then match fs { S with μ := μ1 } with
    | some (ds, μ2) => F (ob :: ds) μ2
    | none => none
    else none
  | none => none
theorem fMethX_out {S : Sg} {r : Ov} {μ' : List Cell} {nm : Str} (e : fMethX nm m F fa (fLen n fs) S = some (r, μ')) : ∃ ob μ1 ds μ2, fa S = some (ob, μ1) ∧ isObjD nm m ob μ1 = true ∧ fs { S with μ := μ1 } = some (ds, μ2) ∧ ds.length = n ∧ F (ob :: ds) μ2 = some (r, μ') := by
  unfold fMethX at e
  split at e
  · rename_i ob μ1 e1
    split at e
    · rename_i ho
      split at e
      · rename_i ds μ2 e2
        unfold fLen at e2
        split at e2
        · rename_i ds' μ2' e3
          split at e2
          · rename_i hn
            obtain ⟨rfl, rfl⟩ := pr_inj e2
            exact ⟨ob, μ1, _, _, e1, ho, e3, hn, e⟩
          · cases e2
        · cases e2
      · cases e
    · cases e
  · cases e
theorem meth_any {pl : Sem Bool} {nm : Str} {pins : List (Addr × Obj)} {s : Shared} {σ : L2.St} {H : Hp} {Q : VK} {E : XK} {as : Ar} {S : Sg} {r : Ov} {μ' : List Cell} (c : Cls X.K C) (hm : Meth X.K C m f) (G : FG X.prog X.w X.K X.mg X.base k f fd (n + 1) F) (hr : Room k X.A) (hgd : X.A.guards = some []) (hc : PySem.W.nsIn X.K mainGlobals nm = some (some (.ref C)))
    (ho : PE X o (tF X.K fa)) (ha : PA X (e :: es) (tFA X.K fs)) (hst : starEach (e :: es) X.env = (false, eval e X.env) :: starEach es X.env) (hpl : (backTo pos (starEach es X.env)).any (·.1) = false)
    (ht : eval (.Call (.Attribute o m apos) (e :: es) [] pos) X.env = (do
      let ov ← eval o X.env
      standAt apos.atName
      let (f, first) ← holding [ov] (getMethod ov m pl)
      callWith pos f first (backTo pos (starEach (e :: es) X.env)) (backToKw pos (keywordEach [] X.env))))
    (I : Inv X pins σ H s) (ee : ER X.K as σ H S) (ed : fMethX nm m F fa (fLen n fs) S = some (r, μ')) (hx : PassesAt (L2.CX X.prog X.w) X σ E) (q : outD X.K X.mg as H Q E r μ') :
    wpAny (model X.prog X.w) X.A (eval (.Call (.Attribute o m apos) (e :: es) [] pos) X.env) (EP X pins σ Q) X.xe s := by
  obtain ⟨ob, μ1, ds, μ2, e1, hob, e2, hn, ef⟩ := fMethX_out ed
  refine PySem.W.methodCall_KW (pl := pl) (thn (ho.run pins s σ H (fun v H1 => ∃ as1, Ext as H as1 H1 ∧ Rep X.K as1 H1 v ob ∧ StoR X.K as1 H1 μ1) I ⟨as, S, ob, μ1, ee, e1, fun v as1 H1 X1 r1 s1 => ⟨as1, X1, r1, s1⟩⟩) fun u s1 ⟨v, H1, I1, rv, as1, X1, ro, st1⟩ => ?_) ht
  obtain ⟨a, dx, fv, rfl, haH, hl⟩ := isObjD_ok hc ro st1 hob
  obtain rfl : u = Value.ref a := rv
  refine getmeth_ok I1 haH c hm hl ?_
  refine PySem.W.callWith_K (first := [.ref a]) (h₀ := X.base) I.ok.mod.kin hm.kp (thn (ha.run pos pins s1 σ H1 (fun vs H2 => ∃ as2, Ext as1 H1 as2 H2 ∧ Reps X.K as2 H2 vs ds ∧ StoR X.K as2 H2 μ2) I1 ⟨as1, _, ds, μ2, ee.mvE X1 st1, e2, fun vs as2 H2 X2 r2 s2 => ⟨as2, X2, r2, s2⟩⟩) fun us s2 ⟨vs, H2, I2, r2, as2, X2, rs, st2⟩ => ⟨I2.kIn, ?_⟩) hst hpl
  have X12 := X1.trans X2 ee.sto.trk
  refine (run_fg (us := .ref a :: us) (vs := .ref a :: vs) G hr hgd I2 (.cons rfl r2) hx ⟨as2, μ2, ob :: ds, r, μ', by rw [List.length_cons, rs.length, hn], .cons (ro.mv X2) rs, st2, ef, ?_⟩).2
  cases r with
  | v d => exact fun v as3 H3 X3 r3 s3 => q v as3 H3 (X12.trans X3 ee.sto.trk) r3 s3
  | x m pp => exact fun as3 H3 C dx X3 s3 ec xr => q as3 H3 C dx (X12.trans X3 ee.sto.trk) s3 ec xr
theorem de_meth {pl : Sem Bool} {nm : Str} (c : Cls X.K C) (hm : Meth X.K C m f) (G : FG X.prog X.w X.K X.mg X.base k f fd (n + 1) F) (hr : Room k X.A) (hgd : X.A.guards = some []) (hc : PySem.W.nsIn X.K mainGlobals nm = some (some (.ref C))) (ho : PE X o (tF X.K fa)) (ha : PA X (e :: es) (tFA X.K fs))
    (hst : starEach (e :: es) X.env = (false, eval e X.env) :: starEach es X.env := by rfl) (hpl : (backTo pos (starEach es X.env)).any (·.1) = false := by rfl) (ht : eval (.Call (.Attribute o m apos) (e :: es) [] pos) X.env = (do
      let ov ← eval o X.env
      standAt apos.atName
      let (f, first) ← holding [ov] (getMethod ov m pl)
      callWith pos f first (backTo pos (starEach (e :: es) X.env)) (backToKw pos (keywordEach [] X.env))) := by rfl) : PE X (.Call (.Attribute o m apos) (e :: es) [] pos) (tF X.K (fNox (fMethX nm m F fa (fLen n fs)))) :=
  ⟨fun pins s σ H Q I ⟨as, S, d, μ', E, ed, q⟩ => meth_any c hm G hr hgd hc ho ha hst hpl ht I E (fNox_out ed) passF q⟩
theorem de_methX {pl : Sem Bool} {nm : Str} (tk : Takes X W) (c : Cls X.K C) (hm : Meth X.K C m f) (G : FG X.prog X.w X.K X.mg X.base k f fd (n + 1) F) (hr : Room k X.A) (hgd : X.A.guards = some []) (hc : PySem.W.nsIn X.K mainGlobals nm = some (some (.ref C))) (ho : PE X o (tF X.K fa)) (ha : PA X (e :: es) (tFA X.K fs))
    (hst : starEach (e :: es) X.env = (false, eval e X.env) :: starEach es X.env := by rfl) (hpl : (backTo pos (starEach es X.env)).any (·.1) = false := by rfl) (ht : eval (.Call (.Attribute o m apos) (e :: es) [] pos) X.env = (do
      let ov ← eval o X.env
      standAt apos.atName
      let (f, first) ← holding [ov] (getMethod ov m pl)
      callWith pos f first (backTo pos (starEach (e :: es) X.env)) (backToKw pos (keywordEach [] X.env))) := by rfl) : PE X (.Call (.Attribute o m apos) (e :: es) [] pos) (tFX X.K X.mg W (fMethX nm m F fa (fLen n fs))) :=
  ⟨fun pins s σ H Q I ⟨as, S, o, μ', E, ed, q⟩ => meth_any (E := L2.WE W σ) c hm G hr hgd hc ho ha hst hpl ht I E ed (passAt tk σ) (by
    cases o with
    | v d => exact q
    | x m pp => exact q)⟩
theorem meth_any0 {pl : Sem Bool} {nm : Str} {pins : List (Addr × Obj)} {s : Shared} {σ : L2.St} {H : Hp} {Q : VK} {E : XK} {as : Ar} {S : Sg} {r : Ov} {μ' : List Cell} (c : Cls X.K C) (hm : Meth X.K C m f) (G : FG X.prog X.w X.K X.mg X.base k f fd 1 F) (hr : Room k X.A) (hgd : X.A.guards = some []) (hc : PySem.W.nsIn X.K mainGlobals nm = some (some (.ref C)))
    (ho : PE X o (tF X.K fa)) (ht : eval (.Call (.Attribute o m apos) [] [] pos) X.env = (do
      let ov ← eval o X.env
      standAt apos.atName
      let (f, first) ← holding [ov] (getMethod ov m pl)
      callWith pos f first (backTo pos (starEach [] X.env)) (backToKw pos (keywordEach [] X.env))))
    (I : Inv X pins σ H s) (ee : ER X.K as σ H S) (ed : fMethX nm m F fa (fLen 0 fNil) S = some (r, μ')) (hx : PassesAt (L2.CX X.prog X.w) X σ E) (q : outD X.K X.mg as H Q E r μ') :
    wpAny (model X.prog X.w) X.A (eval (.Call (.Attribute o m apos) [] [] pos) X.env) (EP X pins σ Q) X.xe s := by
  obtain ⟨ob, μ1, ds, μ2, e1, hob, e2, hn, ef⟩ := fMethX_out ed
  obtain ⟨rfl, rfl⟩ := pr_inj e2
  refine PySem.W.methodCall_KW (pl := pl) (thn (ho.run pins s σ H (fun v H1 => ∃ as1, Ext as H as1 H1 ∧ Rep X.K as1 H1 v ob ∧ StoR X.K as1 H1 μ1) I ⟨as, S, ob, μ1, ee, e1, fun v as1 H1 X1 r1 s1 => ⟨as1, X1, r1, s1⟩⟩) fun u s1 ⟨v, H1, I1, rv, as1, X1, ro, st1⟩ => ?_) ht
  obtain ⟨a, dx, fv, rfl, haH, hl⟩ := isObjD_ok hc ro st1 hob
  obtain rfl : u = Value.ref a := rv
  refine getmeth_ok I1 haH c hm hl ?_
  refine PySem.W.callWith_K0 (first := [.ref a]) I1.kIn hm.kp (run_fg (us := [.ref a]) (vs := [.ref a]) G hr hgd I1 (.cons rfl .nil) hx ⟨as1, μ1, [ob], r, μ', rfl, .cons ro .nil, st1, ef, ?_⟩).2
  cases r with
  | v d => exact fun v as3 H3 X3 r3 s3 => q v as3 H3 (X1.trans X3 ee.sto.trk) r3 s3
  | x m pp => exact fun as3 H3 C dx X3 s3 ec xr => q as3 H3 C dx (X1.trans X3 ee.sto.trk) s3 ec xr
/-! e.f, a property of the class -/
def fProp (nm : Str) (F : FnF) (fo : EvE) : EvE := fun S => match fo S with
  | some (.h k, μ1) => match μ1[k]? with
    | some (.obj n' _) => if n' = nm then match F [.h k] μ1 with
      | some (.v d, μ2) => some (d, μ2)
      | _ => none
      else none
    | _ => none
  | _ => none
theorem de_prop {nm fl : Str} {pp g : Addr} (c : Cls X.K C) (hp : PropOf X.K C fl pp g) (G : FG X.prog X.w X.K X.mg X.base k g fd 1 F) (hr : Room (k + 1) X.A) (hgd : X.A.guards = some []) (hc : PySem.W.nsIn X.K mainGlobals nm = some (some (.ref C))) (ho : PE X o (tF X.K fa)) (hab : attributeBase o fl X.env (eval o X.env) = eval o X.env := by rfl) :
    PE X (.Attribute o fl pos) (tF X.K (fProp nm F fa)) := by
  refine ⟨fun pins s σ H Q I ⟨as, S, d, μ', E, ed, q⟩ => ?_⟩
  unfold fProp at ed
  split at ed
  · rename_i kk μ1 e1
    split at ed
    · rename_i n' flds ec
      split at ed
      · rename_i hn
        subst hn
        split at ed
        · rename_i d2 μ2 ef
          obtain ⟨rfl, rfl⟩ := pr_inj ed
          refine attr_of hab (thn (ho.run pins s σ H (fun v H1 => ∃ as1, Ext as H as1 H1 ∧ Rep X.K as1 H1 v (.h kk) ∧ StoR X.K as1 H1 μ1) I ⟨as, S, _, μ1, E, e1, fun v as1 H1 X1 r1 s1 => ⟨as1, X1, r1, s1⟩⟩) fun u s1 ⟨v, H1, I1, rv, as1, X1, ro, st1⟩ => ?_)
          obtain ⟨a, C', dx, fv, rfl, _, hn', haH, _, _⟩ := h_obj ro st1 ec
          have z := hc.symm.trans hn'
          injection z with z
          injection z with z
          injection z with z
          subst z
          obtain rfl : u = Value.ref a := rv
          obtain ⟨mA, O, _, _, _, _⟩ := ins_get I1.hok haH
          obtain ⟨od, J, _⟩ := O.look
          obtain ⟨rest, hrec⟩ := hp.rec_
          have I2 := I1.tok (s1.toks + 1)
          have hcl : (PySem.W.clsIn X.K C).isSome = true := by
            obtain ⟨cd, hcd, _⟩ := PySem.W.any_some c.hd
            rw [hcd]; rfl
          obtain ⟨ps, hps, hb, hk, run⟩ := G.ps
          refine PySem.W.get_bind I1.kIn J (PySem.W.plainGet_of (c.get fl)).1 (PySem.W.findObj_data hcl hp.at_ hp.get hp.tak) (PySem.W.plainGet_of (c.get fl)).2 (wpAny_call (PySem.W.prop_get (s := { s1 with toks := s1.toks + 1 }) I1.kIn hrec ?_))
          refine codeAny_mono (run X.A.in1 X.stack { s1 with toks := s1.toks + 1 } H1 ⟨[.ref a], []⟩ [.ref a] [.ref a] Q (fun _ _ _ => False) hr.in1 hgd I2.env0.in1 (hb _ [.ref a] I2.kIn (by rw [List.append_nil]; exact hps.symm)) (.cons rfl .nil) ⟨as1, μ1, [.h kk], .v d2, μ2, rfl, .cons ro .nil, st1, ef, fun v as2 H2 X2 r2 s2 => q v as2 H2 (X1.trans X2 E.sto.trk) r2 s2⟩) fun r s' hq => ?_
          cases r with
          | error er =>
            obtain ⟨_, _, _, _, _, _, _, _, _, _, _, _, z⟩ := hq
            exact z.elim
          | ok fl =>
            cases fl with
            | ret u =>
              obtain ⟨v, H', I3, rv, q3⟩ := I2.after hq
              show wpAny _ _ (handedOut u) _ _ _
              rw [PySem.W.handedOut_of (handed_of rv)]
              exact wpAny_pure ⟨v, H', I3, rv, q3⟩
            | _ => exact False.elim hq
        · cases ed
      · cases ed
    · cases ed
  · cases ed
end
end DL
/-! A lambda without parameters, handed to a def that calls it in a try. -/
namespace DL
open PySem PySem.Spec PyProof.Rows L2
section
variable {H : Hp}
/-- the heap behind the making of a lambda: the table has its code object, c' -/
def LamAt (H : Hp) (P : Addr) (q : Str) (ps : Array Value) (c' : Addr) (H1 : Hp) : Prop :=
  (H1 = H ∧ H c' = some (LamX.CodeO c' q)) ∨ ∃ i j : Value, H c' = none ∧ TriplesOk (ps ++ #[i, j, .ref c']).toList ∧ (∀ (p : Pos) (cv : Value), codeAmong p (ps ++ #[i, j, .ref c']).toList = some cv → codeAmong p ps.toList = some cv ∨ cv = .ref c') ∧
    H1 = upd (upd H P (.tbl (ps ++ #[i, j, .ref c']))) c' (LamX.CodeO c' q)
theorem codeO_tbl {c : Addr} {q : Str} {ps : Array Value} (e : some (HO.tbl ps) = some (LamX.CodeO c q)) : False := by
  unfold LamX.CodeO at e
  cases e
theorem LamAt.sto {K : PySem.W.Frag} {as : Ar} {μ : List Cell} {x q : Str} {k : Nat} {P c' : Addr} {ps : Array Value} {H1 : Hp} (L : LamAt H P q ps c' H1) (s0 : StoR K as H μ) (ek : as.c[k]? = some P) (em : μ[k]? = some (.tab x q)) (hP : H P = some (.tbl ps)) :
    Ext as H as H1 ∧ StoR K as H1 μ ∧ H1 c' = some (LamX.CodeO c' q) := by
  rcases L with ⟨rfl, e⟩ | ⟨i, j, n, tr, am, rfl⟩
  · exact ⟨.refl, s0, e⟩
  · have hPc : P ∈ as.c := List.mem_of_getElem? ek
    have ne : P ≠ c' := ne_of_none hP n
    have nc : c' ∉ as.c := (s0.out n).1
    have X1 : Ext as H as (upd (upd H P (.tbl (ps ++ #[i, j, .ref c']))) c' (LamX.CodeO c' q)) := ⟨⟨[], by simp, by simp⟩, ⟨[], by simp, by simp⟩, fun b o hb e => by
        rw [upd_ne (ne_of_none e n), upd_ne fun z => hb (by rw [z]; exact hPc)]
        exact e, fun b hb e => by
        by_cases z : b = c'
        · rw [z, upd_same]; simp
        · by_cases w : b = P
          · rw [upd_ne z, w, upd_same]; simp
          · rw [upd_ne z, upd_ne w]; exact e⟩
    refine ⟨X1, ⟨s0.len, fun m b c ej ec => ?_, s0.nd, fun b hb => ?_⟩, upd_same⟩
    · have hb : b ∈ as.c := List.mem_of_getElem? ej
      have zb : b ≠ c' := fun z => nc (z ▸ hb)
      by_cases w : b = P
      · subst w
        obtain rfl := nodup_ix s0.nd ek ej
        rw [em] at ec
        cases ec
        obtain ⟨c, ps', t1, t2, t3, t4⟩ := s0.at_ k b _ ek em
        rw [hP] at t2
        cases t2
        refine ⟨c, _, t1, by rw [upd_ne zb, upd_same], tr, fun p' cv hcv => ?_⟩
        rcases am p' cv hcv with z | z
        · obtain ⟨e, e1, e2, e3⟩ := t4 p' cv z
          refine ⟨e, e1, ?_, e3⟩
          rw [upd_ne (ne_of_none e2 n), upd_ne fun z => e3 (by rw [z]; exact hPc)]
          exact e2
        · exact ⟨c', z, upd_same, nc⟩
      · exact (s0.at_ m b c ej ec).mv X1 (by rw [upd_ne zb, upd_ne w])
    · by_cases z : b = c'
      · rw [z, upd_same]; simp
      · by_cases w : b = P
        · rw [upd_ne z, w, upd_same]; simp
        · rw [upd_ne z, upd_ne w]; exact s0.bl b hb
end
section
variable {X : Cx} {pins : List (Addr × Obj)} {σ : L2.St} {H : Hp} {s : Shared}
theorem lam_new {c P : Addr} {q : Str} {ps : Array Value} {params : Arguments} {body : Expr} {scope : Scope} {pos : Pos} {E Q : Value → Shared → Prop} (I : Inv X pins σ H s) (TB : LamX.TabB X.base X.mg c P) (hcode : X.env.code = .ref c) (hq : X.env.qual ++ "<lambda>" = q)
    (hP : H P = some (.tbl ps)) (tr : TriplesOk ps.toList) (known : ∀ (p : Pos) (cv : Value), codeAmong p ps.toList = some cv → ∃ e, cv = .ref e ∧ H e = some (LamX.CodeO e q)) (nd : defaultsOf params X.env = ([], [])) (fr : ∀ y ∈ scope.names, y.2 = .free → ∃ c, X.env.cells.lookup y.1 = some c)
    (go : ∀ (f c' : Addr) (pm ctv : Value) (H1 : Hp) (s' : Shared), Inv X pins σ H1 s' → LamAt H P q ps c' H1 → s'.heap.get? f = some (PySem.W.kla_obj "<lambda>" q params body scope (cloFrom X.env.cells scope.names []) pm c' ctv) → H1 f = none → f ∉ frs X.stack → Q (.ref f) s') :
    wpAny (model X.prog X.w) X.A (eval (.Lambda params body scope pos) X.env) Q E s := by
  subst hq
  have out : ∀ f, s.heap.objs.size ≤ f → f ∉ frs X.stack := fun f hf z => (List.mem_cons.mp (I.stkSub _ z)).elim (fun e => Nat.lt_irrefl _ (Nat.lt_of_lt_of_le (e ▸ I.lt) hf)) (I.nofs hf)
  have B := TB.bm.keeps I.bk
  have at_ := I.hok P _ hP
  have hc := TB.code.keeps I.bk
  refine PySem.W.kla_eval nd ?_
  cases look : codeAmong pos ps.toList with
  | some cv =>
    obtain ⟨c', rfl, hco⟩ := known pos cv look
    refine PySem.W.kla_makeFunctionHit (c := c) (P := P) (ps := ps) (closure_ok fr) I.ok.glob (I.mod.glob.keeps I.bk) hcode hc at_ tr look B fun ctv h' tk ext sz => ?_
    exact go _ c' _ ctv H _ (I.kept (t' := tk) fun b o e => Heap.get?_push_of_some _ (ext b o e)) (.inl ⟨rfl, hco⟩) (Heap.get?_push_size _ rfl) (I.hok.fresh sz) (out _ sz)
  | none =>
    refine PySem.W.kla_makeFunction (c := c) (P := P) (ps := ps) (closure_ok fr) I.ok.glob (I.mod.glob.keeps I.bk) hcode hc at_ tr look TB.gP B fun c' ctv h' tk ext ge lt hrec tb => ?_
    obtain ⟨c2, oc, vs, t, e2, ho, hd, hv⟩ := hrec
    cases e2
    have n : H c' = none := I.hok.fresh ge
    have big : s.heap.objs.size ≤ h'.objs.size := Nat.le_trans ge (Nat.le_of_lt lt)
    have up := fun {b : Addr} {o : Obj} (e : h'.get? b = some o) => Heap.get?_push_of_some (PySem.W.kla_obj "<lambda>" (X.env.qual ++ "<lambda>") params body scope (cloFrom X.env.cells scope.names []) ((X.mg "__name__").getD .none) c' ctv) e
    refine go h'.objs.size c' ((X.mg "__name__").getD .none) ctv _ _ (LamX.inv_table (t' := tk) (more := #[rawInt pos.line, rawInt pos.col, .ref c']) I hP (fun b o hb e => up (ext b o hb e)) (up tb) ge ⟨oc, vs, t, up ho, hd, hv⟩)
      (.inr ⟨rawInt pos.line, rawInt pos.col, n, ?_, fun p cv z => LamX.among_app ps.toList tr (by simpa using z), rfl⟩) (Heap.get?_push_size _ rfl) ?_ (out _ big)
    · have z := PySem.TriplesOk_snoc pos.line pos.col (.ref c') ps.toList tr
      simpa [rawInt] using z
    · rw [upd_ne (Nat.ne_of_gt lt), upd_ne (Nat.ne_of_gt (Nat.lt_of_lt_of_le (Heap.lt_size at_) big))]
      exact I.hok.fresh big
end

section
open LamX
variable {X : Cx} {pins : List (Addr × Obj)} {σ : L2.St} {H : Hp} {s : Shared}
/-- the def that got a lambda calls it by its parameter's name, at slot 0 -/
theorem act_any {Ng : List Str} {qg q a : Str} {sg scope : Scope} {g f c' : Addr} {cdg pm ctv : Value} {params : Arguments} {body : Expr} {k : Nat} {pn : List (Addr × Obj)} {xe : Value → Shared → Prop} {W : WX} {E : XK} {tb : TE} {p1 p2 : Pos}
    (I : Inv X pins σ H s) (L : LamS X.env.scope scope) (hq : X.env.qual ++ "<lambda>" = q) (hf : s.heap.get? f = some (PySem.W.kla_obj "<lambda>" q params body scope (cloFrom X.env.cells scope.names []) pm c' ctv)) (nf : H f = none) (of : f ∉ frs X.stack)
    (nob : ∀ (cl : List (Str × Addr)) (pm cv ctv : Value), bindArgs (PySem.W.kla_fn "<lambda>" q params body scope cl pm cv ctv) ⟨[], []⟩ = pure []) (tk : Takes ((cxOf C8.CX0 X.prog X.w X.K X.mg X.base Ng qg sg g cdg X.A X.stack s H C8.E0).tr pn xe) W) (hW : ∀ cls d σ' H', E cls d H' → W cls d σ' H')
    (hr : Room (k + 1) (X.A.deeper (envOfC qg sg s.heap.objs.size g cdg))) (hgd : X.A.guards = some []) (hN : Ng[0]? = some a) (hv : Vis sg a) (hd : (a == ("__debug__" : Str)) = false) (hcd : (a == ("__classdict__" : Str)) = false)
    (hbody : ∀ (A : Around) (outer : List Env) (s1 : Shared) (H1 : Hp), Room k (A.deeper (lamEnv X scope s1.heap.objs.size f c')) → A.guards = some [] → PE (lamCx X A outer s1 H1 E scope f c') body tb) :
    PE ((cxOf C8.CX0 X.prog X.w X.K X.mg X.base Ng qg sg g cdg X.A X.stack s H C8.E0).tr pn xe) (.Call (.Name a p1) [] [] p2) (fun σZ HZ Q => σZ[0]? = some (some (.ref f)) ∧ HZ c' = some (CodeO c' q) ∧ tb σ HZ Q) := by
  subst hq
  refine ⟨fun pinsZ sZ σZ HZ Q IZ ⟨h0, hc, ht⟩ => ?_⟩
  refine wpAny_Call_Name_kw (thn ((pe_var (pos := p1) (i := 0) hN hv hd hcd).run pinsZ sZ σZ HZ (fun v H1 => v = .ref f ∧ H1 = HZ) IZ ⟨.ref f, h0, rfl, rfl⟩) ?_)
  rintro u s1 ⟨v, H1, I1, r1, rfl, rfl⟩
  obtain rfl : u = Value.ref f := r1
  have there : s1.heap.get? f = some (PySem.W.kla_obj "<lambda>" (X.env.qual ++ "<lambda>") params body scope (cloFrom X.env.cells scope.names []) pm c' ctv) := I1.base.keep f _ hf nf of fun z => List.not_mem_nil (show f ∈ ([] : List Addr) from z)
  have un : Un (frs X.stack) [] H H1 s.heap s1.heap := I1.base
  obtain ⟨⟨oc, vs, t, k1, k2, k3⟩, _, _⟩ := I1.hok c' _ hc
  have go : codeAny (model X.prog X.w) (X.A.deeper (envOfC qg sg s.heap.objs.size g cdg)) (.call (.ref f) ⟨[], []⟩) (CR (L2.CX X.prog X.w) (envOfC qg sg s.heap.objs.size g cdg :: X.stack) X.prog X.w H1 s1 Q E) s1 := by
    refine PySem.W.kla_callFunE hr.depth there rfl L.co L.gen rfl ⟨c', oc, vs, t, rfl, k1, k2, k3⟩ ?_
    rw [nob]
    refine wpAny_pure (wpAny_newFunctionEnv (fun y hy => (L.own y hy).2) (fun y hy => (List.not_mem_nil hy).elim) (fun h1 hns hsb => ⟨I1.nolimit.fresh _ hsb, ?_⟩) L.kind)
    have kp : ∀ b o, s1.heap.get? b = some o → h1.get? b = some o := fun b o e => hsb.extBut b o (Nat.ne_of_lt (Heap.lt_size e)) (Heap.get?_push_of_some _ e)
    have J := lam_start2 (A := X.A.deeper (envOfC qg sg s.heap.objs.size g cdg)) (outer := envOfC qg sg s.heap.objs.size g cdg :: X.stack) (E := E) (f := f) (c' := c') (tk := s1.toks + ([] : List (Str × Value)).length) I L I1.env0 hr.hd un hns kp
    refine PySem.W.kla_codeExpr (thn ((hbody _ _ s1 H1 (hr.deeper _) (guards_deeper hgd)).run [] _ _ H1 Q J ht) ?_)
    rintro v s' ⟨w', H', J', rv, q⟩
    exact ⟨w', H', J'.os, J'.bare, J'.base, J'.hok, rv, q⟩
  refine PySem.W.callWith_F0 ⟨_, _, _, _, there⟩ (wpAny_call (codeAny_mono go fun r s' z => ?_))
  cases r with
  | error e => exact passes_call tk hW pinsZ σZ H1 s1 e s' I1 z
  | ok fl => cases fl with
    | ret u => exact I1.after z
    | _ => exact False.elim z
/-- y(lambda: body), y's body: try: return a() / except e: return r -/
def fMet (j : Nat) (x q : Str) (h : Str → Option Bool) (d : D) (f : EvX) : EvE := fun S => match S.μ[j]? with
  | some (.tab x' q') => if x' = x ∧ q' = q then match f S with
    | some (.v y, μ1) => some (y, μ1)
    | some (.x n none, μ1) => if h n = some true then some (d, μ1) else none
    | _ => none
    else none
  | _ => none
theorem de_met {st : Stmt} {g c P CS : Addr} {fd : FuncData} {Ng : List Str} {y a x q en : Str} {params : Arguments} {body er : Expr} {scope : Scope} {lpos pos p p1 p2 p3 p4 p6 p7 p8 : Pos} {j k : Nat} {h : Str → Option Bool} {w : V} {d : D} {f : EvX}
    (Fu : Fun X.K y y st g fd) (Sg : FnScope Ng [a] (defScope st)) (hB : ∀ (kV doc pm : Value) (an : Option Addr) (cdv ct : Value) (us : List Value), us.length = [a].length → bindArgs (PySem.W.fnOf y y (defArgs st) (defBody st) (defScope st) .none kV doc pm an cdv ct) ⟨us, []⟩ = pure ([a].zip us))
    (hbd : defBody st = [.Try [.Return (some (.Call (.Name a p1) [] [] p2)) p3] [.ExceptHandler (some (.Name en p4)) none [.Return (some er) p6] p7] [] [] p8]) (hN : Ng[0]? = some a) (hv : Vis (defScope st) a) (hge : (defScope st).names.lookup en = some .globalImplicit) (hme : X.mg en = some (.ref CS))
    (hh : ∀ n C, h n = some true → X.mg n = some C → PySem.W.exmOne X.K C (.ref CS) = some true) (her : ∀ Z : Cx, PE Z er (tC w)) (rw' : ∀ as H, Rep X.K as H w d)
    (hg : Gl X y) (hm : X.mg y = some (.ref g)) (TB : TabB X.base X.mg c P) (ht : PySem.W.tabIn X.K x = some (c, P)) (hcode : X.env.code = .ref c) (hq : X.env.qual ++ "<lambda>" = q) (hr : Room (k + 2) X.A) (hgd : X.A.guards = some []) (L : LamS X.env.scope scope) (nd : defaultsOf params X.env = ([], []))
    (nob : ∀ (cl : List (Str × Addr)) (pm cv ctv : Value), bindArgs (PySem.W.kla_fn "<lambda>" q params body scope cl pm cv ctv) ⟨[], []⟩ = pure [])
    (hbody : ∀ (A : Around) (outer : List Env) (s1 : Shared) (H1 : Hp) (E : XK) (f1 c' : Addr), Room k (A.deeper (lamEnv X scope s1.heap.objs.size f1 c')) → A.guards = some [] → PE (lamCx X A outer s1 H1 E scope f1 c') body (tFX X.K X.mg (fun cls d _ H => E cls d H) f))
    (hdb : (y == ("__debug__" : Str)) = false := by decide) (hd : (a == ("__debug__" : Str)) = false := by decide) (hcd : (a == ("__classdict__" : Str)) = false := by decide) (hde : (en == ("__debug__" : Str)) = false := by decide) :
    PE X (.Call (.Name y p) [.Lambda params body scope lpos] [] pos) (tF X.K (fMet j x q h d f)) := by
  refine ⟨fun pins s σ H Q I ⟨as, S, z, μ', E, ed, qq⟩ => ?_⟩
  unfold fMet at ed
  split at ed
  rotate_left
  · cases ed
  rename_i x' q' em
  split at ed
  rotate_left
  · cases ed
  rename_i hx
  obtain ⟨rfl, rfl⟩ := hx
  have hj : j < as.c.length := by rw [E.sto.len]; exact (List.getElem?_eq_some_iff.mp em).1
  obtain ⟨P', hP'⟩ : ∃ P', as.c[j]? = some P' := ⟨_, List.getElem?_eq_getElem hj⟩
  obtain ⟨c0, ps, t1, t2, t3, t4⟩ := E.sto.at_ j P' _ hP' em
  obtain ⟨rfl, rfl⟩ := pr_inj (t1.symm.trans ht)
  obtain ⟨oc, od, kV, doc, pm, an, cdv, ct, osl, rfl, lk, hcg⟩ := Fu.ex
  refine wpAny_Call_Name_kw (ld_glob I hg hm ?_ hdb)
  refine PySem.W.callWith_K (h₀ := X.base) I.ok.mod.kin Fu.kp ?_ (by rfl) (by rfl)
  show wpAny _ _ (spliced ((false, eval (.Lambda params body scope lpos) X.env) :: backTo pos (starEach [] X.env))) _ _ s
  refine Calls.spliced_cons (lam_new I TB hcode hq t2 t3 (fun pp cv w => let ⟨e, e1, e2, _⟩ := t4 pp cv w; ⟨e, e1, e2⟩) nd (L.has I.ok) fun f1 c' pm' ctv H1 s' I1 LA hf nf of => ?_)
  obtain ⟨X1, s1, hco⟩ := LA.sto E.sto hP' em t2
  have E1 : ER X.K as σ H1 S := ⟨E.env.mv X1, s1⟩
  refine Calls.spliced_nil ⟨I1.kIn, ?_⟩
  refine wpAny_call (codeAny_mono (run_ofS (CX := C8.CX0) (E := C8.E0) (N := Ng) (ps := [a]) (us := [.ref f1]) (vs := [.ref f1]) (Q := Q) lk hcg Sg hr I1.env0 ((Fu.binds hB) s' [.ref f1] I1.kIn rfl) (.cons rfl .nil) rfl fun hr' => ?_) fun r s2 rr => ?_)
  · rw [hbd]
    refine ⟨_, (pss_one (ps_try_only (X := (cxOf C8.CX0 X.prog X.w X.K X.mg X.base Ng y (defScope st) g cdv X.A X.stack s' H1 C8.E0).nox) (c := .ref CS)
      (tb := fun W D σ2 H2 => ∃ Ech : XK, (∀ cls d σ' H', Ech cls d H' → W cls d σ' H') ∧ σ2[0]? = some (some (.ref f1)) ∧ H2 c' = some (CodeO c' (X.env.qual ++ "<lambda>")) ∧ tFX X.K X.mg (fun cls d _ H => Ech cls d H) f σ H2 D.rt)
      rfl rfl ⟨hge, hde, .inl hme⟩ takes0 (fun W pn xe tk _ => ?_) (fun a oe cls d pn _ _ => pss_one (ps_ret (her _))))).nox, ?_⟩
    · refine ⟨fun pins2 s2 σ2 H2 D I2 ⟨Ech, hW, h1, h2, h3⟩ => ?_⟩
      exact (pss_one (ps_ret (pos := p3) (act_any (k := k) (tb := tFX X.K X.mg (fun cls d _ H => Ech cls d H) f) (p1 := p1) (p2 := p2) I1 L rfl (hq ▸ hf) nf of (by rw [hq]; exact nob) tk hW hr' hgd hN hv hd hcd fun A outer s3 H3 r3 g3 => hbody A outer s3 H3 Ech f1 c' r3 g3))).run pins2 s2 σ2 H2 D I2 ⟨h1, h2, h3⟩
    · have h0 : (L2.start Ng [V.ref f1])[0]? = some (some (V.ref f1)) := rfl
      split at ed
      · rename_i y0 μ1 ef
        obtain ⟨rfl, rfl⟩ := pr_inj ed
        exact ⟨fun _ _ _ => False, fun cls d σ' H' z => z.elim, h0, by rw [hq]; exact hco, as, S, .v y0, μ1, E1, ef, fun v as2 H2 X2 r2 s2 => qq v as2 H2 (X1.trans X2 E.sto.trk) r2 s2⟩
      · rename_i n μ1 ef
        split at ed
        · rename_i hn
          obtain ⟨rfl, rfl⟩ := pr_inj ed
          exact ⟨fun cls _ H' => PySem.W.exmOne X.K cls (.ref CS) = some true ∧ Q w H', fun cls d σ' H' ⟨e1, e2⟩ => ⟨true, e1, fun _ _ _ => e2, fun z => nomatch z⟩, h0, by rw [hq]; exact hco, as, S, .x n none, μ1, E1, ef,
            fun as2 H2 C dx X2 s2 ec _ => ⟨hh n C hn ec, qq w as2 H2 (X1.trans X2 E.sto.trk) (rw' _ _) s2⟩⟩
        · cases ed
      · cases ed
  · cases r with
    | error e => exact (show False from rr).elim
    | ok fl => cases fl with
      | ret u => exact I1.after rr
      | _ => exact False.elim rr
end
end DL
/-! Defs called with any number of arguments (def f(a, *b) among them), classes as values, ==, len, str of the program's own. -/
namespace DL
open PySem PySem.Spec PyProof.Rows L2
/-- what a def promises, whatever the number of arguments -/
def spR (K : PySem.W.Frag) (mg : Str → Option Value) (F : FnF) : Sp := fun vs H Q E => ∃ as μ ds o μ', Reps K as H vs ds ∧ StoR K as H μ ∧ F ds μ = some (o, μ') ∧ outD K mg as H Q E o μ'
structure FR (P : Program) (w : World) (K : PySem.W.Frag) (mg : Str → Option Value) (base : Heap) (k : Nat) (f : Addr) (F : FnF) : Prop where
  kp : PySem.W.keepIn K (.ref f) = true
  run : ∀ (A : Around) (stk : List Env) (st : Shared) (H : Hp) (us : List Value) (vs : List V) (Q : VK) (E : XK), Room k A → A.guards = some [] → Env0 P w K mg base A stk st H → Vals vs us → spR K mg F vs H Q E →
    codeAny (model P w) A (.call (.ref f) ⟨us, []⟩) (CR (CX P w) stk P w H st Q E) st
/-- .. of so many -/
def only (n : Nat) (F : FnF) : FnF := fun ds μ => if ds.length = n then F ds μ else none
theorem only_out {n : Nat} {F : FnF} {ds : List D} {μ : List Cell} {r : Ov × List Cell} (e : only n F ds μ = some r) : ds.length = n ∧ F ds μ = some r := by
  unfold only at e
  split at e
  · rename_i h; exact ⟨h, e⟩
  · cases e
section
variable {P : Program} {w : World} {K : PySem.W.Frag} {mg : Str → Option Value} {base : Heap}
theorem FG.fr {k n : Nat} {f : Addr} {fd : FuncData} {F : FnF} (G : FG P w K mg base k f fd n F) : FR P w K mg base k f (only n F) := by
  obtain ⟨ps, hn, hb, hk, run⟩ := G.ps
  refine ⟨hk, fun A stk st H us vs Q E hr hgd e0 r ⟨as, μ, ds, o, μ', rs, sto, ef, q⟩ => ?_⟩
  obtain ⟨hl, ef⟩ := only_out ef
  have hv : vs.length = n := rs.length.trans hl
  have kin : K.In st.heap := e0.mod.kin.keeps fun b o e => (e0.bs b o e).1
  have z := run A stk st H ⟨us, []⟩ (us ++ []) vs Q E hr hgd e0 (hb st us kin (by rw [List.append_nil, ← r.length, hv, hn])) (by rw [List.append_nil]; exact r) ⟨as, μ, ds, o, μ', hv, rs, sto, ef, q⟩
  exact z
theorem FR.mono {j k : Nat} {f : Addr} {F : FnF} (h : FR P w K mg base j f F) (hk : j ≤ k) : FR P w K mg base k f F := ⟨h.kp, fun A stk st H us vs Q E hr => h.run A stk st H us vs Q E (hr.mono hk)⟩
/-- the entry of a def: its parameters' data -/
theorem start_env {as : Ar} {H : Hp} {N : List Str} {vs : List V} {ds : List D} (rs : Reps K as H vs ds) (hl : ds.length ≤ N.length) : EnvR K as H (L2.start N vs) (ds.map some ++ List.replicate (N.length - ds.length) none) := by
  have e := rs.length
  refine ⟨by unfold L2.start; simp [e], fun i d h => ?_⟩
  unfold L2.start
  by_cases hi : i < ds.length
  · rw [List.getElem?_append_left (by simpa using hi), List.getElem?_map] at h
    obtain ⟨d2, e2, e3⟩ := Option.map_eq_some_iff.mp h
    cases e3
    obtain ⟨v, hv, rv⟩ := rs.get e2
    exact ⟨v, by rw [List.getElem?_append_left (by rw [List.length_map, e]; exact hi), List.getElem?_map, hv]; rfl, rv⟩
  · rw [List.getElem?_append_right (by simpa using hi), List.getElem?_replicate] at h
    split at h <;> cases h
/-- how a body's end is a def's -/
theorem fnF_out {n m : Nat} {g : EvS} {ds : List D} {μ μ' : List Cell} {o : Ov} {as : Ar} {H : Hp} {Q : VK} {E : XK} (ef : fnF n m g ds μ = some (o, μ')) (q : outD K mg as H Q E o μ') :
    ∃ fl S', g ⟨ds.map some ++ List.replicate (m - n) none, μ⟩ = some (fl, S') ∧ endS K mg (WfD E) as H { nx := fun _ H' => Q .non H', rt := Q } fl S' := by
  unfold fnF at ef
  split at ef
  · rename_i d2 S2 e2
    obtain ⟨rfl, rfl⟩ := pr_inj ef
    exact ⟨.rt d2, S2, e2, fun as' v H' X' rv s' => q v as' H' X' rv s'⟩
  · rename_i S2 e2
    obtain ⟨rfl, rfl⟩ := pr_inj ef
    exact ⟨.nx, S2, e2, fun as' σ' H' X' E' => q .non as' H' X' .non E'.sto⟩
  · rename_i n2 p2 S2 e2
    obtain ⟨rfl, rfl⟩ := pr_inj ef
    exact ⟨.ex n2 p2, S2, e2, fun as' σ' H' C dx X' E' ec xr => q as' H' C dx X' E'.sto ec xr⟩
  · cases ef
/-- def f(a, .., *b): what is left over is a tuple -/
def starF (n m : Nat) (g : EvS) : FnF := fun ds μ => if n ≤ ds.length ∧ ds.length - n ≤ sizeLine then fnF (n + 1) m g (ds.take n ++ [.tup (ds.drop n)]) μ else none
theorem fr_star {x qual : Str} {st : Stmt} {f : Addr} {fd : FuncData} {N ps : List Str} {pv : Str} {k : Nat} {g : EvS} (Fu : Fun K x qual st f fd) (S : FnScope N (ps ++ [pv]) (defScope st))
    (hB : ∀ (kV doc pm : Value) (an : Option Addr) (cdv ct : Value) (us rest : List Value), us.length = ps.length → bindArgs (PySem.W.fnOf x qual (defArgs st) (defBody st) (defScope st) .none kV doc pm an cdv ct) ⟨us ++ rest, []⟩ = (newTuple rest >>= fun t => pure (ps.zip us ++ [(pv, t)])))
    (hbody : ∀ (cdv : Value) (A : Around) (stk : List Env) (s : Shared) (H : Hp) (E : XK), Room k (cxB P w K mg base N qual st f cdv A stk s H E).A → (cxB P w K mg base N qual st f cdv A stk s H E).A.guards = some [] → PSs (cxB P w K mg base N qual st f cdv A stk s H E) (defBody st) (tFS K mg (WfD E) g)) :
    FR P w K mg base (k + 1) f (starF ps.length N.length g) := by
  refine ⟨Fu.kp, fun A stk s H us vs Q E hr hgd e0 r ⟨as, μ, ds, o, μ', rs, sto, ef, q⟩ => ?_⟩
  obtain ⟨oc, od, kV, doc, pm, an, cdv, ct, osl, rfl, lk, hcd⟩ := Fu.ex
  unfold starF at ef
  split at ef
  rotate_left
  · cases ef
  rename_i hn
  have fresh : H s.heap.objs.size = none := e0.hok.fresh (Nat.le_refl _)
  have lv := rs.length
  have e1 : vs.take ps.length ++ vs.drop ps.length = vs := List.take_append_drop _ _
  obtain ⟨u1, u2, eu, r1, r2⟩ := StX.vals_split (ws := vs.take ps.length) (rest := vs.drop ps.length) (us := us) (by rw [e1]; exact r)
  subst eu
  have l1 : (vs.take ps.length).length = ps.length := by rw [List.length_take, lv]; omega
  have l1' : u1.length = ps.length := by rw [← r1.length]; exact l1
  have l2 : (vs.drop ps.length).length ≤ sizeLine := by rw [List.length_drop, lv]; exact hn.2
  have l2' : u2.length ≤ sizeLine := by rw [← r2.length]; exact l2
  refine StX.run_bnd lk hcd S hr e0 (G := fun xs H2 => ∃ p, H p = none ∧ xs = vs.take ps.length ++ [V.ref p] ∧ H2 = upd H p (.tup (vs.drop ps.length))) (fun A' Ex Q' h => ?_) fun s2 H2 xs ⟨p, hp, ex, eH⟩ hr' => ?_
  · rw [hB kV doc pm an cdv ct u1 u2 l1']
    refine wpAny_bind (wpAny_newTuple (wpAny_pure ?_) l2')
    have lay : ObjOk P w (upd H s.heap.objs.size (HO.tup (vs.drop ps.length))) (s.heap.push ({ cls := .type "tuple", data := .seq u2.toArray } : Obj)) s.heap.objs.size (HO.tup (vs.drop ps.length)) := ⟨l2, u2, r2, ⟨_, Heap.get?_push_size _ rfl, rfl, _, rfl⟩⟩
    have un := StX.un_laid (fs := frs stk) (s := s) (o := ({ cls := .type "tuple", data := .seq u2.toArray } : Obj)) (u := .tup (vs.drop ps.length)) fresh
    have z := h _ _ (vs.take ps.length ++ [V.ref s.heap.objs.size]) (u1 ++ [Value.ref s.heap.objs.size]) (StX.env0_laid e0 lay) un rfl (fun e s' => StX.cxUp stk s H _ _ E e s' un (fun b o q => Heap.get?_push_of_some _ q) rfl) (r1.append (.cons rfl .nil)) (by simp [l1]) ⟨_, fresh, rfl, rfl⟩
    rw [List.zip_append l1'.symm] at z
    exact z
  · subst ex eH
    have X1 : Ext as H as (upd H p (.tup (vs.drop ps.length))) := Ext.new hp (sto.out hp)
    have rs2 : Reps K as (upd H p (.tup (vs.drop ps.length))) (vs.take ps.length ++ [V.ref p]) (ds.take ps.length ++ [.tup (ds.drop ps.length)]) :=
      ((rs.take _).mv X1).append (.cons (.tup (.inl ⟨.inl upd_same, sto.out hp⟩) ((rs.drop _).mv X1)) .nil)
    obtain ⟨fl, S', eg, hq⟩ := fnF_out ef q
    have hlen : (ds.take ps.length ++ [D.tup (ds.drop ps.length)]).length = ps.length + 1 := by
      rw [List.length_append, List.length_take, List.length_singleton]; omega
    have hN : ps.length + 1 ≤ N.length := by
      have c := congrArg List.length S.pre
      rw [List.length_take, List.length_append, List.length_singleton] at c
      omega
    have en := start_env (N := N) rs2 (by rw [hlen]; exact hN)
    rw [hlen] at en
    exact ⟨_, hbody cdv A stk s2 _ E hr' (guards_deeper hgd), ⟨as, ⟨_, μ⟩, fl, S', ⟨en, sto.new hp⟩, eg, endS_mv hq X1 sto.trk⟩⟩
end
section
variable {X : Cx} {k : Nat} {f C : Addr} {F : FnF} {pins : List (Addr × Obj)} {σ : L2.St} {H : Hp} {s : Shared} {Q : VK} {E : XK} {us : List Value} {vs : List V}
theorem code_fr (G : FR X.prog X.w X.K X.mg X.base k f F) (hr : Room k X.A) (hgd : X.A.guards = some []) (I : Inv X pins σ H s) (r : Vals vs us) (hx : PassesAt (L2.CX X.prog X.w) X σ E) (h : spR X.K X.mg F vs H Q E) :
    codeAny (model X.prog X.w) X.A (.call (.ref f) ⟨us, []⟩) (wants (EP X pins σ Q) X.xe) s := by
  refine codeAny_mono (G.run X.A X.stack s H us vs Q E hr hgd I.env0 r h) fun res s' hq => ?_
  cases res with
  | error e => exact hx pins H s e s' I hq
  | ok fl => cases fl with
    | ret u => exact I.after hq
    | _ => exact False.elim hq
theorem run_fr (G : FR X.prog X.w X.K X.mg X.base k f F) (hr : Room k X.A) (hgd : X.A.guards = some []) (I : Inv X pins σ H s) (r : Vals vs us) (hx : PassesAt (L2.CX X.prog X.w) X σ E) (h : spR X.K X.mg F vs H Q E) :
    wpAny (model X.prog X.w) X.A (call (.ref f) us) (EP X pins σ Q) X.xe s := wpAny_call (code_fr G hr hgd I r hx h)
/-- a class called -/
theorem run_mkR {x : Str} {as : Ar} {ds : List D} {μ μ' : List Cell} {o : Ov} (M : Mk X.K C f) (G : FR X.prog X.w X.K X.mg X.base k f F) (hr : Room (k + 1) X.A) (hgd : X.A.guards = some []) (hc : PySem.W.nsIn X.K mainGlobals x = some (some (.ref C))) (I : Inv X pins σ H s) (r : Vals vs us) (hx : PassesAt (L2.CX X.prog X.w) X σ E)
    (rs : Reps X.K as H vs ds) (sto : StoR X.K as H μ) (ef : F (.h μ.length :: ds) (μ ++ [.obj x []]) = some (o, μ'))
    (q : match o with
      | .v d => d = .non ∧ ∀ v as' H', Ext as H as' H' → Rep X.K as' H' v (.h μ.length) → StoR X.K as' H' μ' → Q v H'
      | .x m pp => ∀ as' H' C dx, Ext as H as' H' → StoR X.K as' H' μ' → X.mg m = some C → XR dx pp → E C dx H') :
    wpAny (model X.prog X.w) X.A (call (.ref C) us) (EP X pins σ Q) X.xe s := by
  have x0 : H s.heap.objs.size = none := I.hok.fresh (Nat.le_refl _)
  have x1 : H (s.heap.objs.size + 1) = none := I.hok.fresh (Nat.le_succ _)
  have I2 := Inv.made (C := C) I
  have X1 := Ext.new (o := HO.own (s.heap.objs.size + 1)) x0 (sto.out x0)
  have s1 := sto.new (o := HO.own (s.heap.objs.size + 1)) x0
  have x2 : upd H s.heap.objs.size (HO.own (s.heap.objs.size + 1)) (s.heap.objs.size + 1) = none := by rw [upd_ne (Nat.succ_ne_self _)]; exact x1
  obtain ⟨X2, s2⟩ := s1.grow1 (o := .ins C s.heap.objs.size []) (c' := .obj x []) x2 ⟨C, s.heap.objs.size, [], hc, upd_same, rfl, .nil⟩
  have X12 := X1.trans X2 sto.trk
  have me : Rep X.K ⟨as.c ++ [s.heap.objs.size + 1], as.b⟩ (upd (upd H s.heap.objs.size (HO.own (s.heap.objs.size + 1))) (s.heap.objs.size + 1) (.ins C s.heap.objs.size [])) (.ref (s.heap.objs.size + 1)) (.h μ.length) := .h (by
    rw [List.getElem?_append_right (by rw [sto.len]; exact Nat.le_refl _), sto.len]
    simp)
  refine wpAny_call (make_map (f := f) I.kIn M.makes M.init (beq_iff_eq.mp M.fn) (codeAny_mono (G.run _ X.stack _ _ (Value.ref (s.heap.objs.size + 1) :: us) (.ref (s.heap.objs.size + 1) :: vs) (fun v H2 => v = .non ∧ Q (.ref (s.heap.objs.size + 1)) H2) E (hr.make C us []) (under_guards hgd)
    (I2.env0.make C us []) (.cons rfl r) ⟨_, _, .h μ.length :: ds, o, μ', .cons me (rs.mv X12), s2, ef, ?_⟩) fun r s' hq' => ?_))
  · cases o with
    | v d =>
      obtain ⟨rfl, q⟩ := q
      intro v as' H' Z rv sv
      cases rv
      exact ⟨rfl, q _ as' H' (X12.trans Z sto.trk) (me.mv Z) sv⟩
    | x m pp => exact fun as' H' C dx Z sv em xr => q as' H' C dx (X12.trans Z sto.trk) sv em xr
  · cases r with
    | error e => exact hx pins _ _ e s' I2 hq'
    | ok fl =>
      cases fl with
      | ret u =>
        obtain ⟨v, H', I3, rv, ev, q3⟩ := I2.after hq'
        subst ev
        exact ⟨rv, ⟨V.ref (s.heap.objs.size + 1), H', I3, rfl, q3⟩⟩
      | _ => exact False.elim hq'
end
/-- what is made, behind its __init__ -/
def mkOv (k : Nat) : Ov × List Cell → Option (Ov × List Cell)
  | (.v .non, μ) => some (.v (.h k), μ)
  | (.x n q, μ) => some (.x n q, μ)
  | _ => none
/-- C called: C by its name -/
def mkF (x : Str) (F : FnF) : FnF := fun ds μ => (F (.h μ.length :: ds) (μ ++ [.obj x []])).bind (mkOv μ.length)
theorem mkF_out {x : Str} {F : FnF} {ds : List D} {μ μ' : List Cell} {r : Ov} (e : mkF x F ds μ = some (r, μ')) : ∃ o, F (.h μ.length :: ds) (μ ++ [.obj x []]) = some (o, μ') ∧ ((o = .v .non ∧ r = .v (.h μ.length)) ∨ ∃ m q, o = .x m q ∧ r = .x m q) := by
  unfold mkF at e
  obtain ⟨⟨o, μ1⟩, e1, e2⟩ := Option.bind_eq_some_iff.mp e
  unfold mkOv at e2
  split at e2
  · rename_i μ2 eo
    cases eo
    obtain ⟨rfl, rfl⟩ := pr_inj e2
    exact ⟨_, e1, .inl ⟨rfl, rfl⟩⟩
  · rename_i n q μ2 eo
    cases eo
    obtain ⟨rfl, rfl⟩ := pr_inj e2
    exact ⟨_, e1, .inr ⟨_, _, rfl, rfl⟩⟩
  · cases e2
theorem outD_mv {K : PySem.W.Frag} {mg : Str → Option Value} {as as1 : Ar} {H H1 : Hp} {Q : VK} {E : XK} {o : Ov} {μ' : List Cell} (q : outD K mg as H Q E o μ') (X1 : Ext as H as1 H1) (tr : ∀ a, a ∈ as.c → H a ≠ none) : outD K mg as1 H1 Q E o μ' := by
  cases o with
  | v d => exact fun v as2 H2 X2 r2 s2 => q v as2 H2 (X1.trans X2 tr) r2 s2
  | x m pp => exact fun as2 H2 C dx X2 s2 ec xr => q as2 H2 C dx (X1.trans X2 tr) s2 ec xr
section
variable {X : Cx} {o e : Expr} {es : List Expr} {x m : Str} {p apos pos : Pos} {fa : EvE} {fs : EvA} {W : WX} {k : Nat} {f C : Addr} {F : FnF} {pins : List (Addr × Obj)} {σ : L2.St} {H : Hp} {s : Shared} {Q : VK} {E : XK} {as : Ar} {S : Sg} {r : Ov} {μ' : List Cell}
/-- a call: its arguments' data first -/
def fCallR (F : FnF) (fs : EvA) : EvX := fun S => (fs S).bind fun z => F z.1 z.2
theorem fCallR_out (e : fCallR F fs S = some (r, μ')) : ∃ ds μ1, fs S = some (ds, μ1) ∧ F ds μ1 = some (r, μ') := by
  obtain ⟨⟨ds, μ1⟩, e1, e2⟩ := Option.bind_eq_some_iff.mp e
  exact ⟨ds, μ1, e1, e2⟩
theorem mk_run {us : List Value} {vs : List V} {ds : List D} {μ1 : List Cell} (M : Mk X.K C f) (G : FR X.prog X.w X.K X.mg X.base k f F) (hr : Room (k + 1) X.A) (hgd : X.A.guards = some []) (hc : PySem.W.nsIn X.K mainGlobals x = some (some (.ref C))) (I : Inv X pins σ H s) (rv : Vals vs us) (hx : PassesAt (L2.CX X.prog X.w) X σ E)
    (rs : Reps X.K as H vs ds) (sto : StoR X.K as H μ1) (ef : mkF x F ds μ1 = some (r, μ')) (q : outD X.K X.mg as H Q E r μ') : wpAny (model X.prog X.w) X.A (call (.ref C) us) (EP X pins σ Q) X.xe s := by
  obtain ⟨ov, e1, ho⟩ := mkF_out ef
  refine run_mkR M G hr hgd hc I rv hx rs sto e1 ?_
  rcases ho with ⟨rfl, rfl⟩ | ⟨m, pp, rfl, rfl⟩
  · exact ⟨rfl, q⟩
  · exact q
/-- C(e, ..), C a class of the module -/
theorem cnew_any (M : Mk X.K C f) (G : FR X.prog X.w X.K X.mg X.base k f F) (hr : Room (k + 1) X.A) (hgd : X.A.guards = some []) (hc : PySem.W.nsIn X.K mainGlobals x = some (some (.ref C))) (hg : Gl X x) (hm : X.mg x = some (.ref C)) (ha : PA X (e :: es) (tFA X.K fs)) (hdb : (x == ("__debug__" : Str)) = false)
    (he : starEach (e :: es) X.env = (false, eval e X.env) :: starEach es X.env) (hpl : (backTo pos (starEach es X.env)).any (·.1) = false) (I : Inv X pins σ H s) (ee : ER X.K as σ H S) (ed : fCallR (mkF x F) fs S = some (r, μ')) (hx : PassesAt (L2.CX X.prog X.w) X σ E) (q : outD X.K X.mg as H Q E r μ') :
    wpAny (model X.prog X.w) X.A (eval (.Call (.Name x p) (e :: es) [] pos) X.env) (EP X pins σ Q) X.xe s := by
  obtain ⟨ds, μ1, ea, ef⟩ := fCallR_out ed
  refine wpAny_Call_Name_kw (ld_glob I hg hm ?_ hdb)
  exact PySem.W.callWith_K (h₀ := X.base) I.ok.mod.kin M.kp (thn (ha.run pos pins s σ H (fun vs H1 => ∃ as1, Ext as H as1 H1 ∧ Reps X.K as1 H1 vs ds ∧ StoR X.K as1 H1 μ1) I ⟨as, S, _, _, ee, ea, fun vs as1 H1 X1 r1 s1 => ⟨as1, X1, r1, s1⟩⟩) fun us s1 ⟨vs, H1, I1, r1, as1, X1, rs, st⟩ => ⟨I1.kIn, mk_run M G hr hgd hc I1 r1 hx rs st ef (outD_mv q X1 ee.sto.trk)⟩) he hpl
theorem de_new (M : Mk X.K C f) (G : FR X.prog X.w X.K X.mg X.base k f F) (hr : Room (k + 1) X.A) (hgd : X.A.guards = some []) (hc : PySem.W.nsIn X.K mainGlobals x = some (some (.ref C))) (hg : Gl X x) (hm : X.mg x = some (.ref C)) (ha : PA X (e :: es) (tFA X.K fs)) (hdb : (x == ("__debug__" : Str)) = false := by decide)
    (he : starEach (e :: es) X.env = (false, eval e X.env) :: starEach es X.env := by rfl) (hpl : (backTo pos (starEach es X.env)).any (·.1) = false := by rfl) : PE X (.Call (.Name x p) (e :: es) [] pos) (tF X.K (fNox (fCallR (mkF x F) fs))) :=
  ⟨fun pins s σ H Q I ⟨as, S, d, μ', E, ed, q⟩ => cnew_any M G hr hgd hc hg hm ha hdb he hpl I E (fNox_out ed) passF q⟩
theorem outD_of {o : Ov} (q : match o with
    | .v d => ∀ v as' H', Ext as H as' H' → Rep X.K as' H' v d → StoR X.K as' H' μ' → Q v H'
    | .x n p => ∀ as' H' C dx, Ext as H as' H' → StoR X.K as' H' μ' → X.mg n = some C → XR dx p → W C dx σ H') : outD X.K X.mg as H Q (L2.WE W σ) o μ' := by
  cases o with
  | v d => exact q
  | x m pp => exact q
theorem de_newX (tk : Takes X W) (M : Mk X.K C f) (G : FR X.prog X.w X.K X.mg X.base k f F) (hr : Room (k + 1) X.A) (hgd : X.A.guards = some []) (hc : PySem.W.nsIn X.K mainGlobals x = some (some (.ref C))) (hg : Gl X x) (hm : X.mg x = some (.ref C)) (ha : PA X (e :: es) (tFA X.K fs)) (hdb : (x == ("__debug__" : Str)) = false := by decide)
    (he : starEach (e :: es) X.env = (false, eval e X.env) :: starEach es X.env := by rfl) (hpl : (backTo pos (starEach es X.env)).any (·.1) = false := by rfl) : PE X (.Call (.Name x p) (e :: es) [] pos) (tFX X.K X.mg W (fCallR (mkF x F) fs)) :=
  ⟨fun pins s σ H Q I ⟨as, S, o, μ', E, ed, q⟩ => cnew_any (E := L2.WE W σ) M G hr hgd hc hg hm ha hdb he hpl I E ed (passAt tk σ) (outD_of q)⟩
/-- c(e, .., *y), c a name in slot i that holds the class x -/
def fLocNew (i : Nat) (x : Str) (F : FnF) (fs : EvA) : EvX := fun S => match S.ρ[i]? with
  | some (some (.cls y)) => if y = x then fCallR (mkF x F) fs S else none
  | _ => none
theorem de_locNewX {c : Str} {i : Nat} (tk : Takes X W) (hN : X.N[i]? = some c) (hv : Vis X.env.scope c) (M : Mk X.K C f) (G : FR X.prog X.w X.K X.mg X.base k f F) (hr : Room (k + 1) X.A) (hgd : X.A.guards = some []) (hc : PySem.W.nsIn X.K mainGlobals x = some (some (.ref C))) (ha : PA X (e :: es) (tFA X.K fs))
    (he : starEach (e :: es) X.env = (false, eval e X.env) :: starEach es X.env := by rfl) (hst : (backTo pos (starEach es X.env)).any (·.1) = true := by rfl) (hd : (c == ("__debug__" : Str)) = false := by decide) (hcd : (c == ("__classdict__" : Str)) = false := by decide) :
    PE X (.Call (.Name c p) (e :: es) [] pos) (tFX X.K X.mg W (fLocNew i x F fs)) := by
  refine ⟨fun pins s σ H Q I ⟨as, S, o, μ', E, ed, q⟩ => ?_⟩
  unfold fLocNew at ed
  split at ed
  · rename_i y ei
    split at ed
    · rename_i hy
      subst hy
      obtain ⟨ds, μ1, ea, ef⟩ := fCallR_out ed
      obtain ⟨v, hvv, rv⟩ := E.env.2 i _ ei
      cases rv with
      | @cls C' _ hc' =>
        have z := hc.symm.trans hc'
        injection z with z
        injection z with z
        injection z with z
        subst z
        refine wpAny_Call_Name_kw (thn ((pe_var (pos := p) (i := i) hN hv hd hcd).run pins s σ H (fun v H1 => v = .ref C ∧ H1 = H) I ⟨.ref C, hvv, rfl, rfl⟩) fun u s1 ⟨v, H1, I1, r1, q1⟩ => ?_)
        obtain ⟨rfl, rfl⟩ := q1
        obtain rfl : u = Value.ref C := r1
        exact PySem.W.callWith_S2 (h₀ := X.base) I1.ok.mod.kin M.kp (thn (ha.run pos pins s1 σ H1 (fun vs H2 => ∃ as1, Ext as H1 as1 H2 ∧ Reps X.K as1 H2 vs ds ∧ StoR X.K as1 H2 μ1) I1 ⟨as, S, _, _, E, ea, fun vs as1 H1 X1 r1 s1 => ⟨as1, X1, r1, s1⟩⟩) fun us s2 ⟨vs, H2, I2, r2, as2, X2, rs, st⟩ => ⟨I2.kIn, mk_run M G hr hgd hc I2 r2 (passAt tk σ) rs st ef (outD_mv (outD_of q) X2 E.sto.trk)⟩) he hst
    · cases ed
  · cases ed
/-- x.m(e, ..), x a class of the module, m its classmethod -/
def clsF (x : Str) (F : FnF) : FnF := fun ds μ => F (.cls x :: ds) μ
theorem cmeth_any {pl : Sem Bool} {mc : Value} {pr : Addr} (r0 : ClX.CRead X.K C mc) (c : ClX.CMet X.K C mc m pr f) (G : FR X.prog X.w X.K X.mg X.base k f F) (hr : Room k X.A) (hgd : X.A.guards = some []) (hc : PySem.W.nsIn X.K mainGlobals x = some (some (.ref C))) (hg : Gl X x) (hm : X.mg x = some (.ref C)) (ha : PA X (e :: es) (tFA X.K fs))
    (hst : starEach (e :: es) X.env = (false, eval e X.env) :: starEach es X.env) (hpl : (backTo pos (starEach es X.env)).any (·.1) = false) (hdb : (x == ("__debug__" : Str)) = false)
    (ht : eval (.Call (.Attribute (.Name x p) m apos) (e :: es) [] pos) X.env = (do
      let ov ← eval (.Name x p) X.env
      standAt apos.atName
      let (f, first) ← holding [ov] (getMethod ov m pl)
      callWith pos f first (backTo pos (starEach (e :: es) X.env)) (backToKw pos (keywordEach [] X.env))))
    (I : Inv X pins σ H s) (ee : ER X.K as σ H S) (ed : fCallR (clsF x F) fs S = some (r, μ')) (hx : PassesAt (L2.CX X.prog X.w) X σ E) (q : outD X.K X.mg as H Q E r μ') : wpAny (model X.prog X.w) X.A (eval (.Call (.Attribute (.Name x p) m apos) (e :: es) [] pos) X.env) (EP X pins σ Q) X.xe s := by
  obtain ⟨ds, μ1, ea, ef⟩ := fCallR_out ed
  refine PySem.W.methodCall_KW (pl := pl) (ld_glob I hg hm ?_ hdb) ht
  refine ClX.getmethcm_ok I r0 c fun s2 I2 => ?_
  refine ClX.callwith_cm I2 (ClX.base_none I (Nat.le_refl _)) c.fi (thn (ha.run pos _ s2 σ H (fun vs H2 => ∃ as1, Ext as H as1 H2 ∧ Reps X.K as1 H2 vs ds ∧ StoR X.K as1 H2 μ1) I2 ⟨as, S, _, _, ee, ea, fun vs as1 H1 X1 r1 s1 => ⟨as1, X1, r1, s1⟩⟩) fun us s3 ⟨vs, H2, I3, rv, as1, X1, rs, st⟩ => ⟨⟨ClX.pin_at I3, I3.kIn⟩, ?_⟩) hst hpl
  have z := code_fr (us := .ref C :: us) (vs := .ref C :: vs) G hr hgd I3 (.cons rfl rv) hx ⟨as1, μ1, .cls x :: ds, r, μ', .cons (.cls hc) rs, st, ef, outD_mv q X1 ee.sto.trk⟩
  exact thn (wpAny_call (PySem.W.method_call (ClX.pin_at I3) z)) fun _ _ y => ClX.unpinE y
theorem de_cmeth {pl : Sem Bool} {mc : Value} {pr : Addr} (r0 : ClX.CRead X.K C mc) (c : ClX.CMet X.K C mc m pr f) (G : FR X.prog X.w X.K X.mg X.base k f F) (hr : Room k X.A) (hgd : X.A.guards = some []) (hc : PySem.W.nsIn X.K mainGlobals x = some (some (.ref C))) (hg : Gl X x) (hm : X.mg x = some (.ref C)) (ha : PA X (e :: es) (tFA X.K fs))
    (hst : starEach (e :: es) X.env = (false, eval e X.env) :: starEach es X.env := by rfl) (hpl : (backTo pos (starEach es X.env)).any (·.1) = false := by rfl) (hdb : (x == ("__debug__" : Str)) = false := by decide)
    (ht : eval (.Call (.Attribute (.Name x p) m apos) (e :: es) [] pos) X.env = (do
      let ov ← eval (.Name x p) X.env
      standAt apos.atName
      let (f, first) ← holding [ov] (getMethod ov m pl)
      callWith pos f first (backTo pos (starEach (e :: es) X.env)) (backToKw pos (keywordEach [] X.env))) := by rfl) : PE X (.Call (.Attribute (.Name x p) m apos) (e :: es) [] pos) (tF X.K (fNox (fCallR (clsF x F) fs))) :=
  ⟨fun pins s σ H Q I ⟨as, S, d, μ', E, ed, q⟩ => cmeth_any r0 c G hr hgd hc hg hm ha hst hpl hdb ht I E (fNox_out ed) passF q⟩
theorem de_cmethX {pl : Sem Bool} {mc : Value} {pr : Addr} (tk : Takes X W) (r0 : ClX.CRead X.K C mc) (c : ClX.CMet X.K C mc m pr f) (G : FR X.prog X.w X.K X.mg X.base k f F) (hr : Room k X.A) (hgd : X.A.guards = some []) (hc : PySem.W.nsIn X.K mainGlobals x = some (some (.ref C))) (hg : Gl X x) (hm : X.mg x = some (.ref C)) (ha : PA X (e :: es) (tFA X.K fs))
    (hst : starEach (e :: es) X.env = (false, eval e X.env) :: starEach es X.env := by rfl) (hpl : (backTo pos (starEach es X.env)).any (·.1) = false := by rfl) (hdb : (x == ("__debug__" : Str)) = false := by decide)
    (ht : eval (.Call (.Attribute (.Name x p) m apos) (e :: es) [] pos) X.env = (do
      let ov ← eval (.Name x p) X.env
      standAt apos.atName
      let (f, first) ← holding [ov] (getMethod ov m pl)
      callWith pos f first (backTo pos (starEach (e :: es) X.env)) (backToKw pos (keywordEach [] X.env))) := by rfl) : PE X (.Call (.Attribute (.Name x p) m apos) (e :: es) [] pos) (tFX X.K X.mg W (fCallR (clsF x F) fs)) :=
  ⟨fun pins s σ H Q I ⟨as, S, o, μ', E, ed, q⟩ => cmeth_any (E := L2.WE W σ) r0 c G hr hgd hc hg hm ha hst hpl hdb ht I E ed (passAt tk σ) (outD_of q)⟩
end
end DL
/-! ==, !=, len, str by the program's own methods. -/
namespace DL
open PySem PySem.Spec PyProof.Rows L2
/-- a comparison that may make things -/
abbrev GX := D → D → List Cell → Option (D × List Cell)
def rDM (K : PySem.W.Frag) (G : GX) : R2 := fun x y H Q => ∃ as d e μ z μ', Rep K as H x d ∧ Rep K as H y e ∧ StoR K as H μ ∧ G d e μ = some (z, μ') ∧ ∀ v as' H', Ext as H as' H' → Rep K as' H' v z → StoR K as' H' μ' → Q v H'
def fBM (G : GX) (fa fb : EvE) : EvE := fun S => (fa S).bind fun a => (fb { S with μ := a.2 }).bind fun b => G a.1 b.1 b.2
theorem tF_bm {K : PySem.W.Frag} {G : GX} {fa fb : EvE} : ∀ σ H Q, tF K (fBM G fa fb) σ H Q → tOp (rDM K G) (tF K fa) (tF K fb) σ H Q := fun σ H Q ⟨as, S, d, μ', E, e, q⟩ => by
  obtain ⟨⟨x, μ1⟩, e1, e⟩ := Option.bind_eq_some_iff.mp e
  obtain ⟨⟨y, μ2⟩, e2, e⟩ := Option.bind_eq_some_iff.mp e
  refine ⟨as, S, x, μ1, E, e1, fun v as1 H1 X1 r1 s1 => ⟨as1, _, y, μ2, E.mvE X1 s1, e2, fun u as2 H2 X2 r2 s2 => ⟨as2, x, y, μ2, d, μ', r1.mv X2, r2, s2, e, fun w as3 H3 X3 r3 s3 => ?_⟩⟩⟩
  exact q w as3 H3 (X1.trans (X2.trans X3 s1.trk) E.sto.trk) r3 s3
section
variable {X : Cx}
theorem de_cmpM {a b : Expr} {fa fb : EvE} {pos : Pos} {op : CmpOp} {G : GX} (ho : OpR X (compareOp op) (rDM X.K G)) (ha : PE X a (tF X.K fa)) (hb : PE X b (tF X.K fb)) (hm : behindInMarks op b = false) : PE X (.Compare a [op] [b] pos) (tF X.K (fBM G fa fb)) :=
  (pe_cmpR ho ha hb hm).imp tF_bm
/-- an object of this class -/
def isO (nm : Str) (x : D) (μ : List Cell) : Bool := match x with
  | .h k => match μ[k]? with
    | some (.obj n _) => decide (n = nm)
    | _ => false
  | _ => false
theorem isO_ok {K : PySem.W.Frag} {as : Ar} {H : Hp} {μ : List Cell} {v : V} {d : D} {nm : Str} {C : Addr} (hc : PySem.W.nsIn K mainGlobals nm = some (some (.ref C))) (r : Rep K as H v d) (s : StoR K as H μ) (e : isO nm d μ = true) : ∃ a dx fv, v = .ref a ∧ H a = some (.ins C dx fv) := by
  unfold isO at e
  split at e
  · split at e
    · rename_i n' fs ec
      obtain rfl := of_decide_eq_true e
      obtain ⟨a, C', dx, fv, rfl, _, hn, ha, _⟩ := h_obj r s ec
      have z := hc.symm.trans hn
      injection z with z
      injection z with z
      injection z with z
      subst z
      exact ⟨a, dx, fv, rfl, ha⟩
    · cases e
  · cases e
/-- what may stand at the right of such a == -/
def isR (nm : Str) (y : D) (μ : List Cell) : Bool := match y with
  | .non | .str _ | .tup _ => true
  | y => isO nm y μ
theorem sub_bt {K : PySem.W.Frag} {T : String} {C : Addr} {l : List String} (e : fastBuiltinMro T = some (l.map .type)) : PySem.W.subIn K (.type T) (.ref C) = some false := by
  show (fastBuiltinMro T).map (·.contains (.ref C)) = some false
  rw [e]
  simp
theorem typ_ok {pins : List (Addr × Obj)} {σ : L2.St} {H : Hp} {s : Shared} {as : Ar} {μ : List Cell} {y : V} {u : Value} {e : D} {nm : Str} {C : Addr} (hc : PySem.W.nsIn X.K mainGlobals nm = some (some (.ref C))) (I : Inv X pins σ H s) (ry : RelV y u) (re : Rep X.K as H y e) (sto : StoR X.K as H μ) (h : isR nm e μ = true) :
    ∃ tb, PySem.W.Looks (model X.prog X.w) s.heap (typeOf u) tb ∧ PySem.W.notFirst X.K C tb = true := by
  have built : ∀ {T : String} {l : List String}, (∀ s' : Shared, (∀ b o, s.heap.get? b = some o → s'.heap.get? b = some o) → s'.TypeIs u T) → fastBuiltinMro T = some (l.map .type) → ∃ tb, PySem.W.Looks (model X.prog X.w) s.heap (typeOf u) tb ∧ PySem.W.notFirst X.K C tb = true := fun {T l} ht e =>
    ⟨.type T, fun A Q E s' k q => wpAny_typeOf (ht s' k) q, by unfold PySem.W.notFirst; rw [sub_bt e]; simp⟩
  unfold isR at h
  split at h
  · cases re
    cases ry
    exact built (T := "NoneType") (l := ["NoneType", "object"]) (fun _ _ => rfl) (by decide +kernel)
  · cases re
    obtain ⟨t, rfl⟩ := ry
    exact built (T := "str") (l := ["str", "object"]) (fun _ _ => rfl) (by decide +kernel)
  · cases re with
    | tup t rs =>
      obtain ⟨its, r, e, z⟩ := I.tuple t.sq
      obtain rfl := ry
      obtain ⟨o, ho, hcl, _⟩ := e
      exact built (T := "tuple") (l := ["tuple", "object"]) (fun s' k => ⟨o, k _ _ ho, hcl⟩) (by decide +kernel)
  · obtain ⟨a, dx, fv, rfl, ha⟩ := isO_ok hc re sto h
    obtain rfl : u = Value.ref a := ry
    obtain ⟨mA, J, _⟩ := ins_get I.hok ha
    obtain ⟨od, J, _⟩ := J.look
    exact ⟨.ref C, J.type, by simp [PySem.W.notFirst]⟩
variable {k : Nat} {f C : Addr} {F : FnF} {pins : List (Addr × Obj)} {σ : L2.St} {H : Hp} {s : Shared} {Q : VK} {us : List Value} {vs : List V}
theorem run_frA {A : Around} (fr : A.frames = X.A.frames) (G : FR X.prog X.w X.K X.mg X.base k f F) (hr : Room k A) (hgd : A.guards = some []) (I : Inv X pins σ H s) (r : Vals vs us) (h : spR X.K X.mg F vs H Q (fun _ _ _ => False)) :
    wpAny (model X.prog X.w) A (call (.ref f) us) (EP X pins σ Q) X.xe s := by
  have e := I.env0
  refine wpAny_call (codeAny_mono (G.run A X.stack s H us vs Q _ hr hgd ⟨by rw [fr]; exact e.frames, e.mod, e.bs, e.bsz, e.funs, e.frf, e.hok, e.bare⟩ r h) fun res s' hq => ?_)
  cases res with
  | error e => exact passF pins H s e s' I hq
  | ok fl => cases fl with
    | ret u => exact I.after hq
    | _ => exact False.elim hq
def gOwn (nm : Str) (F : FnF) (g : Bool → Bool) : GX := fun x y μ => if isO nm x μ && isR nm y μ then match F [x, y] μ with
  | some (.v (.bl b), μ') => some (.bl (g b), μ')
  | _ => none
  else none
theorem gOwn_out {nm : Str} {g : Bool → Bool} {x y z : D} {μ μ' : List Cell} (e : gOwn nm F g x y μ = some (z, μ')) : isO nm x μ = true ∧ isR nm y μ = true ∧ ∃ b, F [x, y] μ = some (.v (.bl b), μ') ∧ z = .bl (g b) := by
  unfold gOwn at e
  split at e
  · rename_i h
    rw [Bool.and_eq_true] at h
    split at e
    · rename_i b μ1 ef
      obtain ⟨rfl, rfl⟩ := pr_inj e
      exact ⟨h.1, h.2, b, ef, rfl⟩
    · cases e
  · cases e
/-- x == y by an own __eq__ -/
theorem op_eqO {nm : Str} (hc : PySem.W.nsIn X.K mainGlobals nm = some (some (.ref C))) (hs : PySem.W.findIn X.K (.ref C) "__eq__" = some (some (.ref f))) (hf : PySem.W.isFn X.K (.ref f) = true) (G : FR X.prog X.w X.K X.mg X.base k f F) (hr : Room k X.A) (hgd : X.A.guards = some []) :
    OpR X (compareOp .Eq) (rDM X.K (gOwn nm F id)) := by
  intro pins s σ H x y v u Q I rx ry ⟨as, d, e, μ, z, μ', rd, re, sto, ez, q⟩
  obtain ⟨h1, h2, b, ef, rfl⟩ := gOwn_out ez
  obtain ⟨a, dx, fv, rfl, ha⟩ := isO_ok hc rd sto h1
  obtain rfl : v = Value.ref a := rx
  obtain ⟨tb, htb, hnf⟩ := typ_ok hc I ry re sto h2
  obtain ⟨mA, J, _⟩ := ins_get I.hok ha
  obtain ⟨od, J, _⟩ := J.look
  obtain ⟨m, hF⟩ := I.fr
  show wpAny (model X.prog X.w) X.A (richCompare .Eq (.ref a) u) (EP X pins σ Q) X.xe s
  refine PySem.W.cmp_K (op := .Eq) (tb := tb) hr.units0 hF I.ok.mod.kin J htb hnf hs hf ?_
  refine wpAny_mono (run_frA (us := [.ref a, u]) (vs := [.ref a, y]) (Q := fun v H' => v = .bl b ∧ Q (.bl b) H') rfl G hr hgd I (.cons rfl (.cons ry .nil)) ⟨as, μ, [d, e], .v (.bl b), μ', .cons rd (.cons re .nil), sto, ef, fun v as' H' X' r' s' => by cases r'; exact ⟨rfl, q _ as' H' X' (.bl _) s'⟩⟩) (fun r s' hq => ?_) fun _ _ x => x
  obtain ⟨w, H', I', rw', ew, hq⟩ := hq
  subst ew
  cases rw'
  exact ⟨.bl b, H', I', rfl, hq⟩
theorem bound_ne {M : Model} {A : Around} {E : Value → Shared → Prop} {K : PySem.W.Frag} {x : Addr} {ox : Obj} {od : Option Obj} {args : List Value} {R : Option Value → Shared → Prop} (X0 : K.In s.heap) (J : PySem.W.InstAt s.heap x ox C od) (hs : PySem.W.findIn K (.ref C) "__ne__" = some (some (.builtin "object.__ne__")))
    (h : wpAny M A (call (.builtin "object.__ne__") (.ref x :: args)) (fun v => R (some v)) E s) : wpAny M A (callSpecialIfBound? (.ref x) "__ne__" args) R E s := by
  have last : wpAny M A (call (.builtin "object.__ne__") ([.ref x] ++ args) >>= fun v => pure (some v)) R E s := wpAny_bind (thn h fun v s' z => wpAny_pure z)
  unfold callSpecialIfBound? bindSpecialIfBound?
  refine wpAny_holding (wpAny_bind (wpAny_bind (wpAny_bind (J.type.here ((PySem.W.looks_findIn X0 hs).here ?_)))))
  refine wpAny_bind (wpAny_askSetting (wpAny_ite ?_))
  split
  · exact wpAny_bind (wpAny_of_eq (F.cmp_object.ne.bind _) (wpAny_pure (by exact last)))
  · exact wpAny_tryCatch (wpAny_bind (wpAny_of_eq (F.cmp_object.ne.bind _) (wpAny_pure (by exact last))))
open Builtin in
theorem call_ne {prog : Program} {w : World} {A : Around} {E : Value → Shared → Prop} {K : PySem.W.Frag} {x : Addr} {ox : Obj} {od : Option Obj} {b : Value} {R : Value → Shared → Prop} (hu : A.in1.units < cLine) (X0 : K.In s.heap) (J : PySem.W.InstAt s.heap x ox C od) (hm : PySem.W.mroIn K C (.type "object") = some true)
    (hs : PySem.W.findIn K (.ref C) "__eq__" = some (some (.ref f))) (hf : PySem.W.isFn K (.ref f) = true) (h : wpAny (model prog w) A.in1 (call (.ref f) [.ref x, b]) (fun v s' => ∃ k, v = .bool k ∧ R (.bool !k) s') E s) :
    wpAny (model prog w) A (call (.builtin "object.__ne__") [.ref x, b]) R E s := by
  refine wpAny_call (codeAny_call_builtin F.cmp_object.ne.plain F.cmpEntry_ne (PySem.W.check_slot F.cmpKind_ne F.cmpSplit_ne (J.type.andThen (PySem.W.looks_mroIn X0 hm)) (F.cmpArgs_ne _ _) ?_))
  unfold Builtin.«object.__ne__»
  refine wpAny_bind (m := slotArgs "__ne__" 1 _) (wpAny_pure ?_)
  refine wpAny_bind (m := cRoomFor _ _) (wpAny_cRoomFor hu ?_)
  refine wpAny_bind (m := callSpecialIfBound? (.ref x) (Str.ofString "__eq__") _) (PySem.W.ifBound_K X0 J hs hf (thn h fun r s' ⟨k, er, z⟩ => ?_))
  subst er
  exact wpAny_bind (wpAny_truthy_bool (wpAny_pure z))
/-- x != y by an own __eq__ -/
theorem op_neO {nm : Str} (hc : PySem.W.nsIn X.K mainGlobals nm = some (some (.ref C))) (hs : PySem.W.findIn X.K (.ref C) "__eq__" = some (some (.ref f))) (hf : PySem.W.isFn X.K (.ref f) = true) (hne : PySem.W.findIn X.K (.ref C) "__ne__" = some (some (.builtin "object.__ne__"))) (hmr : PySem.W.mroIn X.K C (.type "object") = some true)
    (G : FR X.prog X.w X.K X.mg X.base k f F) (hr : Room (k + 1) X.A) (hgd : X.A.guards = some []) : OpR X (compareOp .NotEq) (rDM X.K (gOwn nm F not)) := by
  intro pins s σ H x y v u Q I rx ry ⟨as, d, e, μ, z, μ', rd, re, sto, ez, q⟩
  obtain ⟨h1, h2, b, ef, rfl⟩ := gOwn_out ez
  obtain ⟨a, dx, fv, rfl, ha⟩ := isO_ok hc rd sto h1
  obtain rfl : v = Value.ref a := rx
  obtain ⟨tb, htb, hnf⟩ := typ_ok hc I ry re sto h2
  obtain ⟨mA, J, _⟩ := ins_get I.hok ha
  obtain ⟨od, J, _⟩ := J.look
  have one : wpAny (model X.prog X.w) X.A (tryCompare (.ref a) "__ne__" u) (fun r s' => ∃ w, r = some w ∧ EP X pins σ Q w s') X.xe s := by
    unfold tryCompare
    refine wpAny_bind (bound_ne I.kIn J hne (call_ne hr.in1.units0 I.kIn J hmr hs hf (thn (run_frA (A := X.A.in1) (us := [.ref a, u]) (vs := [.ref a, y]) (Q := fun v H' => v = .bl b ∧ Q (.bl !b) H') rfl G hr.in1 hgd I (.cons rfl (.cons ry .nil)) ⟨as, μ, [d, e], .v (.bl b), μ', .cons rd (.cons re .nil), sto, ef, fun v as' H' X' r' s' => by cases r'; exact ⟨rfl, q _ as' H' X' (.bl _) s'⟩⟩) fun r s' hq => ?_)))
    obtain ⟨w, H', I', rw', ew, hq⟩ := hq
    subst ew
    cases rw'
    exact ⟨b, rfl, wpAny_pure ⟨_, rfl, .bl !b, H', I', rfl, hq⟩⟩
  show wpAny (model X.prog X.w) X.A (richCompare .NotEq (.ref a) u) (EP X pins σ Q) X.xe s
  unfold richCompare
  simp only [oneThing_ref]
  refine wpAny_holding (wpAny_bind (wpAny_cRoomFor hr.units0 ?_))
  refine wpAny_bind (J.type.here (wpAny_bind (htb.here ?_)))
  split
  · rename_i hq
    have e : PySem.W.subIn X.K tb (.ref C) = some false := (Bool.or_eq_true_iff.mp hnf).elim (fun e => by rw [beq_iff_eq.mp e] at hq; simp at hq) fun e => beq_iff_eq.mp e
    refine wpAny_bind ((PySem.W.looks_subIn I.kIn e).here ?_)
    rw [if_neg Bool.false_ne_true]
    refine wpAny_bind (thn one fun r s' ⟨w, er, hq⟩ => ?_)
    subst er
    exact wpAny_pure hq
  · refine wpAny_bind (wpAny_pure ?_)
    rw [if_neg Bool.false_ne_true]
    refine wpAny_bind (thn one fun r s' ⟨w, er, hq⟩ => ?_)
    subst er
    exact wpAny_pure hq
/-! len(x), str(x) -/
abbrev GC := List D → List Cell → Option (D × List Cell)
def rCM (K : PySem.W.Frag) (G : GC) : List V → Hp → VK → Prop := fun xs H Q => ∃ as ds μ z μ', Reps K as H xs ds ∧ StoR K as H μ ∧ G ds μ = some (z, μ') ∧ ∀ v as' H', Ext as H as' H' → Rep K as' H' v z → StoR K as' H' μ' → Q v H'
def fAppM (G : GC) (fs : EvA) : EvE := fun S => (fs S).bind fun z => G z.1 z.2
theorem tF_appM {K : PySem.W.Frag} {G : GC} {fs : EvA} : ∀ σ H Q, tF K (fAppM G fs) σ H Q → tCB (rCM K G) (tFA K fs) σ H Q := fun σ H Q ⟨as, S, d, μ', E, e, q⟩ => by
  obtain ⟨⟨ds, μ1⟩, e1, e⟩ := Option.bind_eq_some_iff.mp e
  exact ⟨as, S, ds, μ1, E, e1, fun vs as1 H1 X1 r1 s1 => ⟨as1, ds, μ1, d, μ', r1, s1, e, fun v as2 H2 X2 r2 s2 => q v as2 H2 (X1.trans X2 E.sto.trk) r2 s2⟩⟩
theorem de_callBM {x : Str} {p pos : Pos} {id : String} {G : GC} {a : Expr} {es : List Expr} {fs : EvA} (hc : CallR X (.builtin id) (rCM X.K G)) (hg : Gl X x) (hm : X.mg x = none) (hv : bootBuiltins x = some (.builtin id)) (ha : PA X (a :: es) (tFA X.K fs)) (hn : x ≠ "__name__" := by decide)
    (hdb : (x == ("__debug__" : Str)) = false := by decide) (he : starEach (a :: es) X.env = (false, eval a X.env) :: starEach es X.env := by rfl) (hpl : (backTo pos (starEach es X.env)).any (·.1) = false := by rfl) :
    PE X (.Call (.Name x p) (a :: es) [] pos) (tF X.K (fAppM G fs)) := (pe_callB hc hg hm hv ha hn hdb he hpl).imp tF_appM
theorem de_callTyM {x : Str} {p pos : Pos} {T : String} {G : GC} {a : Expr} {es : List Expr} {fs : EvA} (hc : CallR X (.type T) (rCM X.K G)) (hg : Gl X x) (hm : X.mg x = none) (hv : bootBuiltins x = some (.type T)) (ha : PA X (a :: es) (tFA X.K fs)) (hn : x ≠ "__name__" := by decide)
    (hdb : (x == ("__debug__" : Str)) = false := by decide) (he : starEach (a :: es) X.env = (false, eval a X.env) :: starEach es X.env := by rfl) (hpl : (backTo pos (starEach es X.env)).any (·.1) = false := by rfl) :
    PE X (.Call (.Name x p) (a :: es) [] pos) (tF X.K (fAppM G fs)) := (pe_callTy hc hg hm hv ha hn hdb he hpl).imp tF_appM
def okLen : D → Bool
  | .int n => decide (0 ≤ n ∧ n < 2 ^ 63)
  | _ => false
def okStr : D → Bool
  | .str _ => true
  | _ => false
/-- one object's own method, whose answer is of a kind -/
def gOwn1 (nm : Str) (F : FnF) (ok : D → Bool) : GC := fun ds μ => match ds with
  | [x] => if isO nm x μ then match F [x] μ with
    | some (.v z, μ') => if ok z then some (z, μ') else none
    | _ => none
    else none
  | _ => none
theorem gOwn1_out {nm : Str} {ok : D → Bool} {ds : List D} {z : D} {μ μ' : List Cell} (e : gOwn1 nm F ok ds μ = some (z, μ')) : ∃ x, ds = [x] ∧ isO nm x μ = true ∧ F [x] μ = some (.v z, μ') ∧ ok z = true := by
  unfold gOwn1 at e
  split at e
  · split at e
    · rename_i x ho
      split at e
      · split at e
        · rename_i h
          obtain ⟨rfl, rfl⟩ := pr_inj e
          exact ⟨x, rfl, ho, by assumption, h⟩
        · cases e
      · cases e
    · cases e
  · cases e
theorem call_lenO {nm : Str} (hc : PySem.W.nsIn X.K mainGlobals nm = some (some (.ref C))) (hs : PySem.W.findIn X.K (.ref C) "__len__" = some (some (.ref f))) (hf : PySem.W.isFn X.K (.ref f) = true) (G : FR X.prog X.w X.K X.mg X.base k f F) (hr : Room (k + 1) X.A) (hgd : X.A.guards = some []) :
    CallR X (.builtin "len") (rCM X.K (gOwn1 nm F okLen)) := by
  intro pins s σ H xs us Q I rv ⟨as, ds, μ, z, μ', rs, sto, ez, q⟩
  obtain ⟨x, rfl, ho, ef, hz⟩ := gOwn1_out ez
  cases rs with
  | cons rd rn =>
  cases rn
  cases rv with
  | cons r1 rn =>
  cases rn
  obtain ⟨a, dx, fv, rfl, ha⟩ := isO_ok hc rd sto ho
  obtain rfl := r1
  obtain ⟨mA, J, _⟩ := ins_get I.hok ha
  obtain ⟨od, J, _⟩ := J.look
  unfold okLen at hz
  split at hz
  rotate_left
  · cases hz
  rename_i n
  obtain ⟨h0, h1⟩ := of_decide_eq_true hz
  refine Calls.call_function_entry kind_len plain_len entry_len (args_len1 _) ?_
  unfold Builtin.«len»
  refine wpAny_bind (m := oneArg "len" _) (wpAny_pure ?_)
  refine wpAny_bind (m := callSpecial? (.ref a) (Str.ofString "__len__")) (PySem.W.special_fn I.kIn J hs (beq_iff_eq.mp hf) (thn (run_frA (A := X.A.in1) (us := [.ref a]) (vs := [.ref a]) (Q := fun v H' => v = .int n ∧ Q (.int n) H') rfl G hr.in1 hgd I (.cons rfl .nil) ⟨as, μ, [x], .v (.int n), μ', .cons rd .nil, sto, ef, fun v as' H' X' r' s' => by cases r'; exact ⟨rfl, q _ as' H' X' (.int _) s'⟩⟩) fun r s' ⟨w, H', I', rw', ew, hq⟩ => ?_))
  subst ew
  obtain ⟨t, rfl⟩ := rw'
  refine wpAny_bind (wpAny_holding (wpAny_pure ?_))
  refine wpAny_bind (wpAny_letGo ?_)
  show wpAny _ _ (if n < 0 then _ else _) _ _ _
  rw [if_neg (Int.not_lt.mpr h0)]
  show wpAny _ _ (if n ≥ 2 ^ 63 then _ else _) _ _ _
  rw [if_neg (Int.not_le.mpr h1)]
  exact wpAny_bind (wpAny_mkInt (wpAny_pure ⟨_, rfl, .int n, H', I'.tok _, ⟨_, rfl⟩, hq⟩))
open Builtin Builtin.Str in
theorem call_strO {nm : Str} (hc : PySem.W.nsIn X.K mainGlobals nm = some (some (.ref C))) (hs : PySem.W.findIn X.K (.ref C) "__str__" = some (some (.ref f))) (hf : PySem.W.isFn X.K (.ref f) = true) (G : FR X.prog X.w X.K X.mg X.base k f F) (hr : Room (k + 2) X.A) (hgd : X.A.guards = some []) :
    CallR X (.type "str") (rCM X.K (gOwn1 nm F okStr)) := by
  intro pins s σ H xs us Q I rv ⟨as, ds, μ, z, μ', rs, sto, ez, q⟩
  obtain ⟨x, rfl, ho, ef, hz⟩ := gOwn1_out ez
  cases rs with
  | cons rd rn =>
  cases rn
  cases rv with
  | cons r1 rn =>
  cases rn
  obtain ⟨a, dx, fv, rfl, ha⟩ := isO_ok hc rd sto ho
  obtain rfl := r1
  obtain ⟨mA, J, _⟩ := ins_get I.hok ha
  obtain ⟨od, J, _⟩ := J.look
  unfold okStr at hz
  split at hz
  rotate_left
  · cases hz
  rename_i tx
  have own : wpAny (model X.prog X.w) X.A.in1.in1 (PySem.Builtin.Str.strOf (.ref a)) (fun r s₁ => ∃ y u, r = .str y u ∧ EP X pins σ Q r s₁) X.xe s := by
    unfold PySem.Builtin.Str.strOf
    rw [show isExactStr (.ref a) = false from rfl]
    refine wpAny_bind (m := cRoomFor _ _) (wpAny_cRoomFor hr.in1.in1.units0 ?_)
    refine wpAny_bind (m := callSpecial? (.ref a) (Str.ofString "__str__")) (PySem.W.special_fn I.kIn J hs (beq_iff_eq.mp hf) (thn (run_frA (A := X.A.in1.in1) (us := [.ref a]) (vs := [.ref a]) (Q := fun v H' => v = .str tx ∧ Q (.str tx) H') rfl G hr.in1.in1 hgd I (.cons rfl .nil) ⟨as, μ, [x], .v (.str tx), μ', .cons rd .nil, sto, ef, fun v as' H' X' r' s' => by cases r'; exact ⟨rfl, q _ as' H' X' (.str _) s'⟩⟩) fun r s' ⟨w, H', I', rw', ew, hq⟩ => ?_))
    subst ew
    obtain ⟨t, rfl⟩ := rw'
    exact wpAny_pure ⟨_, _, rfl, .str tx, H', I', ⟨t, rfl⟩, hq⟩
  refine callType_codes (T := "str") (Bi := Builtin.«object.__init__») (Q₁ := fun r s₁ => ∃ y u, r = .str y u ∧ EP X pins σ Q r s₁) PySem.F.called_str (PySem.F.typeCall_str_1 _) PySem.F.entry_object_init (codeAny_of_tree ?_) ?_
  · show wpAny _ X.A.in1.in1 (do checkBuiltinCall "str.__new__" ⟨[.type "str", .ref a], []⟩; again (.builtin "str.__new__" ⟨[.type "str", .ref a], []⟩)) _ _ s
    refine wpAny_bind (wpAny_of_eq (PySem.F.newCall_str_1 _) (wpAny_pure ⟨plainId_quiet (by decide +kernel) _, codeAny_builtin PySem.F.entry_str_new ?_⟩))
    rw [Around.under_plainId (by decide +kernel) _, PySem.str_new_tree]
    exact wpAny_bind (wpAny_pure (wpAny_bind (wpAny_of_eq isSubtype_str_str (wpAny_bind (thn own fun r s₁ z => wpAny_pure z)))))
  · rintro obj s₁ ⟨y, u, rfl, hq⟩
    exact ⟨typeIs_str _ _ _, PySem.F.args_object_init_2 _ _, object_init_meets PySem.F.called_str.init.lookup PySem.F.called_str.made (by decide) X.prog X.w X.A.in1 _ s₁ ⟨typeIs_str _ _ _, rfl, hq⟩⟩
end
end DL
set_option maxHeartbeats 2000000
/-! A class of the program over any built-in exception, called: B gives it its __new__. -/
namespace DL
open PySem PySem.Spec PyProof.Rows L2 Builtin Builtin.ObjectAttr
abbrev keMro : List Value := [.type "KeyError", .type "LookupError", .type "Exception", .type "BaseException", .type "object"]
theorem keStore : StoreFacts "KeyError" keMro "object.__setattr__" "object" :=
  { mro := by kernel_rfl, slot := .of (owner := "object") (n := "__setattr__") (by rw [typeLookup_type, builtinLookup_eq_fast]; kernel_rfl) (by decide +kernel) (by decide +kernel) (by decide +kernel) (by first | exact .inl (by decide +kernel) | exact .inr (by decide +kernel)) (by rw [isSubtype_type]; kernel_rfl),
    entry := PySem.F.entry_object_sa, kind := by decide +kernel, split := by decide +kernel, hasOwner := by decide +kernel, args := fun a b c => by (unfold argsOk; kernel_rfl), passes := fun _ => by kernel_rfl }
end DL
namespace PySem
namespace DLX
open Builtin Builtin.ObjectAttr
/-- the mro of the class behind itself, so far as it matters -/
structure Bm (B : String) (bm : List Value) : Prop where
  b : bm.contains (.type B) = true
  a : bm.contains (.type "AttributeError") = false
  n : bm.contains (.type "NameError") = false
section
variable {prog : Program} {w : World} {A : Around} {E : Value → Shared → Prop} {R : Result → Shared → Prop} {h0 : Heap} {gs : Array GenState} {dr : Drawn} {tk : Nat} {os : OsState}
variable {nm qn : Str} {C N : Addr} {bs bm bmB : List Value} {hdct : Bool} {sn : List Str} {sub : List Value} {ab : Bool} {col : Option Bool} {dd : Option Addr} {k0 k1 k2 k3 k5 : Option Value} {B newId initId : String} {args : List Value} {fI : Addr}
theorem cons_has (T : Bm B bm) : (Value.ref C :: bm).contains (.type B) = true ∧ (Value.ref C :: bm).contains (.type "AttributeError") = false ∧ (Value.ref C :: bm).contains (.type "NameError") = false ∧ (Value.ref C :: bm).contains (.ref C) = true :=
  ⟨by rw [List.contains_cons, T.b, Bool.or_true], by rw [List.contains_cons, T.a]; rfl, by rw [List.contains_cons, T.n]; rfl, by simp⟩
theorem own_check {M : Model} {Q : Unit → Shared → Prop} (F : ExcBaseFacts B newId initId bmB) (T : Bm B bm) (cl : h0.get? C = some (excClassObj nm qn C N bs bm hdct sn sub ab col dd k0 k1 k2 k3 k5 newId)) (fin : Q () ⟨h0, gs, dr, tk, os⟩) :
    wpAny M A (checkBuiltinCall newId ⟨.ref C :: args, []⟩) Q E ⟨h0, gs, dr, tk, os⟩ := by
  have y1 := (cons_has (C := C) T).1
  have y2 := F.noStar
  simp only [checkBuiltinCall, F.newSplit, F.newRow, F.newKind]
  repeat (first
    | refine wpAny_loadPart_at cl ?_ | refine wpAny_staticBase_exc cl ?_ | refine wpAny_madeBy_exc cl ?_
    | (refine wpAny_isSubtype_exc cl ?_; rw [y1]) | simp only [bne_self_eq_false, Bool.false_eq_true, if_false]
    | wp_step)
  exact fin
theorem own_new (F : ExcBaseFacts B newId initId bmB) (T : Bm B bm) (cl : h0.get? C = some (excClassObj nm qn C N bs bm hdct sn sub ab col dd k0 k1 k2 k3 k5 newId)) (few : args.length ≤ sizeLine)
    (fin : R (.ok (.ret (.ref (h0.objs.size + 1)))) ⟨(h0.push (PySem.W.kdv_tup args)).push (PySem.HandSPX.excO C h0.objs.size), gs, dr, tk, os⟩) :
    codeAny (model prog w) A (.builtin newId ⟨.ref C :: args, []⟩) R ⟨h0, gs, dr, tk, os⟩ := by
  have y0 := F.ends
  obtain ⟨y1, y2, y3, _⟩ := cons_has (C := C) T
  refine codeAny_builtinAt F.entry ?_
  unfold Builtin.«BaseException.__new__»
  refine wpAt_bind (show wpAt _ _ _ (stack >>= _) _ _ _ from wpAt_bind (wpAt_stack fun p below => wpAt_of_wpAny ?_))
  wp_walk
  refine wpAt_of_wpAny ?_
  rw [F.owner]
  repeat (first
    | with_reducible refine wpAny_madeHere_exc F.canon cl ?_ | with_reducible refine wpAny_loadPart_at cl ?_
    | (with_reducible refine wpAny_isSubtype_exc cl ?_; first | rw [y1] | rw [y2] | rw [y3])
    | wp_step)
  show R _ _
  rw [Heap.size_push]
  exact fin
theorem own_typeCall {Q : Fin → Shared → Prop} (F : ExcBaseFacts B newId initId bmB) (T : Bm B bm) (cl : h0.get? C = some (excClassObj nm qn C N bs bm hdct sn sub ab col dd k0 k1 k2 k3 k5 newId)) (few : args.length ≤ sizeLine)
    (li : PySem.W.Looks (model prog w) h0 (typeLookup (.ref C) "__init__") (some (.ref fI))) (lb : ∀ self, PySem.W.Looks (model prog w) h0 (bindSpecial (.ref fI) self) (.ref fI, [self]))
    (fin : codeAny (model prog w) A (.call (.ref fI) ⟨.ref (h0.objs.size + 1) :: args, []⟩) (fun r s' => match r with
      | .ok (.ret v) => v = .none ∧ Q (.done (.ret (.ref (h0.objs.size + 1)))) s'
      | .ok _ => False
      | .error e => E e s') ⟨(h0.push (PySem.W.kdv_tup args)).push (PySem.HandSPX.excO C h0.objs.size), gs, dr, tk, os⟩) :
    wpAny (model prog w) A (Builtin.«type.__call__» ⟨.ref C :: args, []⟩) Q E ⟨h0, gs, dr, tk, os⟩ := by
  repeat (first
    | with_reducible refine wpAny_loadPart_at cl ?_ | with_reducible refine wpAny_madeBy_exc cl ?_
    | wp_step)
  refine codeAny_call_builtin_code (Code.quiet_builtin _ F.quiet) (own_check F T cl (own_new F T cl few ?_))
  show wpAny _ _ _ _ _ _
  have more : ∀ b o, h0.get? b = some o → ((h0.push (PySem.W.kdv_tup args)).push (PySem.HandSPX.excO C h0.objs.size)).get? b = some o := fun b o e => Heap.get?_push_of_some _ (Heap.get?_push_of_some _ e)
  have cl2 := more _ _ cl
  have at2 : ((h0.push (PySem.W.kdv_tup args)).push (PySem.HandSPX.excO C h0.objs.size)).get? (h0.objs.size + 1) = some (PySem.HandSPX.excO C h0.objs.size) := by heap_get
  have y4 := (cons_has (C := C) T).2.2.2
  have li2 := li.keeps more
  have lb2 := (lb (.ref (h0.objs.size + 1))).keeps more
  unfold isInstance
  repeat (first
    | with_reducible refine wpAny_loadPart_at at2 ?_
    | (with_reducible refine wpAny_isSubtype_exc cl2 ?_; rw [y4])
    | wp_step)
  refine (show wpAny _ _ (typeLookup (.ref C) _) _ _ _ from li2.at (wpAny_holding (wpAny_bind (lb2.at (wpAny_bind (wpAny_call (codeAny_mono fin fun r s' zz => ?_)))))))
  rcases r with er | (vv | _ | _ | _) <;> first
    | exact zz | exact zz.elim
    | skip
  obtain ⟨rfl, zz⟩ := zz
  first
    | exact wpAny_pure (wpAny_pure zz) | (wp_walk
                                          exact zz)
    | (wp_walk
       done)
theorem own_call (F : ExcBaseFacts B newId initId bmB) (T : Bm B bm) (cl : h0.get? C = some (excClassObj nm qn C N bs bm hdct sn sub ab col dd k0 k1 k2 k3 k5 newId)) (few : args.length ≤ sizeLine)
    (li : PySem.W.Looks (model prog w) h0 (typeLookup (.ref C) "__init__") (some (.ref fI))) (lb : ∀ self, PySem.W.Looks (model prog w) h0 (bindSpecial (.ref fI) self) (.ref fI, [self]))
    (fin : codeAny (model prog w) (A.under (.builtin "type.__call__" ⟨.ref C :: args, []⟩)) (.call (.ref fI) ⟨.ref (h0.objs.size + 1) :: args, []⟩) (PySem.W.InitBack (h0.objs.size + 1) R) ⟨(h0.push (PySem.W.kdv_tup args)).push (PySem.HandSPX.excO C h0.objs.size), gs, dr, tk, os⟩) :
    codeAny (model prog w) A (.call (.ref C) ⟨args, []⟩) R ⟨h0, gs, dr, tk, os⟩ := by
  have z1 := tc_lookup
  have z2 := tc_bind (.ref C)
  have z3 : (⟨h0, gs, dr, tk, os⟩ : Shared).TypeIs (.ref C) "type" := ⟨_, cl, rfl⟩
  refine codeAny_of_tree (show wpAny _ _ (callAny (.ref C) _) _ _ _ from ?_)
  repeat (any_goals (first
    | assumption | with_reducible refine wpAny_loadPart_at cl ?_
    | wp_step))
  refine ⟨rfl, codeAny_call_builtin_at (Code.quiet_builtin _ (by decide +kernel)) entry_typeCall (wpAny_check_type_call_sub cl (own_typeCall F T cl few li lb (codeAny_mono fin fun r s' z => ?_)))⟩
  rcases r with e | (v | _ | _ | _)
  all_goals exact z
end
end DLX
end PySem
set_option maxHeartbeats 2000000
/-! Exceptions of any base, held as values. -/
namespace DL
open PySem PySem.Spec PyProof.Rows L2 Builtin Builtin.ObjectAttr
section
variable {prog : Program} {w : World} {A : Around} {E : Value → Shared → Prop} {R : Result → Shared → Prop} {hp : Heap} {g : Array GenState} {d : Drawn} {t : Nat} {os : OsState} {K : PySem.W.Frag} {x C : Addr} {fv : Array Value} {name : Str} {tk : Tok} {v : Value} {cd : ClassData} {B newId : String} {bmB : List Value}
/-- the first field of an exception without a dict -/
theorem osa_first (SF : StoreFacts B bmB "object.__setattr__" "object") (X : K.In hp) (hx : hp.get? x = some { cls := .ref C, data := .fields fv }) (hcd : PySem.W.clsIn K C = some cd) (ov : PySem.W.excOver K C bmB = true) (hh : cd.hasDict = true) (ht : PySem.W.takerIn K C name = some none)
    (hq : ∀ (h' : Heap) (tk' : Nat) (dx : Addr), (∀ b o, b ≠ x → hp.get? b = some o → h'.get? b = some o) → hp.objs.size ≤ dx → dx ≠ x → h'.get? x = some { cls := .ref C, dict := some dx, data := .fields fv } → h'.Ns1 dx (fun y => if y = name then some v else none) → R (.ok (.ret .none)) ⟨h', g, d, tk', os⟩) :
    codeAny (model prog w) A (.call (.builtin "object.__setattr__") ⟨[.ref x, .str name tk, v], []⟩) R ⟨hp, g, d, t, os⟩ := by
  have ne : x ≠ hp.objs.size := Nat.ne_of_lt (Heap.lt_size hx)
  have cl : PySem.W.Looks (model prog w) hp (classData C) cd := PySem.W.looks_clsIn X hcd
  refine PySem.W.osa_openX (s := ⟨hp, g, d, t, os⟩) SF X (ox := { cls := .ref C, data := .fields fv }) (od := none) ⟨hx, rfl, rfl, trivial⟩ ov ht fun b => ?_
  dsimp only
  obtain ⟨a1, a2, a3, a4, a5, hd, a7, a8, a9, a10, a11⟩ := cd
  dsimp only at hh; subst hh
  unfold storeInOwnDict ownDictForStores
  cases b <;> (repeat (first | with_reducible refine PySem.HandSPX.store_in_new ?_ ?_ | with_reducible refine wpAny_loadPart_at hx ?_ | with_reducible refine cl.at ?_ | wp_step)) <;> first
    | (exact ⟨_, #[], _, (Heap.get?_update_ne _ _ _ _ ne.symm).trans (Heap.get?_push_at rfl rfl), rfl, fun e he => absurd he (by simp), fun _ => rfl⟩)
    | (intro h' tk' hn' hs
       refine hq h' tk' hp.objs.size (fun b o hb ho => (hs.2 b (Nat.ne_of_lt (Heap.lt_size ho))).trans ((Heap.get?_update_ne _ _ _ _ hb).trans (Heap.get?_push_of_some _ ho))) (Nat.le_refl _) ne.symm ((hs.2 x ne).trans (Heap.get?_update_self _ (Heap.get?_push_of_some _ hx) rfl)) hn')
end

/-- what is asked of a class whose __init__ stores one field -/
structure XCls (K : PySem.W.Frag) (C : Addr) (bmB : List Value) (newId : String) : Prop where
  ini : PySem.W.excInitIn K C bmB newId = true
  over : PySem.W.excOver K C bmB = true
  dct : PySem.W.hasDictIn K C = true
  sa : PySem.W.findIn K (.ref C) "__setattr__" = some (some (.builtin "object.__setattr__"))
  kp : PySem.W.keepIn K (.ref C) = true
section
variable {X : Cx} {pins : List (Addr × Obj)} {σ : L2.St} {H : Hp} {s : Shared} {a C dx : Addr} {f : Str} {y : V} {u : Value} {Q : Unit → Shared → Prop} {E : Value → Shared → Prop} {A : Around} {B newId initId : String} {bmB : List Value}
theorem ost_first (SF : StoreFacts B bmB "object.__setattr__" "object") (T : XCls X.K C bmB newId) (I : Inv X pins σ H s) (e : H a = some (exo a C none)) (hno : PySem.W.takerIn X.K C f = some none) (ry : RelV y u)
    (h : ∀ dx s', H dx = none → dx ≠ a → Inv X pins σ (upd (upd H dx (exd dx [(f, y)])) a (exo a C (some dx))) s' → Q () s') : wpAny (model X.prog X.w) A (setAttr (.ref a) f u) Q E s := by
  obtain ⟨cd, hc, hd⟩ := PySem.W.any_some T.dct
  obtain ⟨t1, ho⟩ := exo_at I.hok e
  obtain ⟨hp, g, dr, t, os⟩ := s
  refine PySem.W.set_plain I.kIn (ox := { cls := .ref C, dict := none, data := .fields #[.ref t1, .none, .none, .none, .bool false, .none] }) (od := none) ⟨ho, rfl, rfl, trivial⟩ T.sa (osa_first SF I.kIn ho hc T.over hd hno fun h' tk' dx k dn dne hx hn => ?_)
  have fr : H dx = none := I.hok.fresh dn
  have ndx : ∀ {b : Addr} {o : Obj}, hp.get? b = some o → b ≠ dx := fun q z => absurd (Heap.lt_size q) (by rw [z]; exact Nat.not_lt.mpr dn)
  have nax : ∀ {b : Addr}, H b = none → b ≠ a := fun n z => by rw [z, e] at n; cases n
  refine h dx _ fr dne (I.un (t' := tk') ⟨fun b o q n _ _ => k b o (nax n) q, fun b o q n _ _ => ⟨o.slots, k b o (nax n) q⟩, fun b o q n _ => ?_, fun b o q _ => ?_, fun b xs q => ?_, fun b o v q => ?_, fun b ps q => ⟨#[], ?_⟩⟩ fun b o q => ?_)
  · rw [upd_ne (nax n), upd_ne (ndx q), n]
  · by_cases hb : b = a
    · subst hb; exact ⟨_, hx⟩
    · exact ⟨o, k b o hb q⟩
  · rw [upd_ne (at_ne e q exo_tup), upd_ne (ne_of_none q fr), q]
  · rw [upd_ne (at_ne e q exo_frz), upd_ne (ne_of_none q fr), q]
  · rw [upd_ne (at_ne e q exo_tbl), upd_ne (ne_of_none q fr), q]; simp
  · by_cases hb : b = a
    · subst hb
      rw [upd_same] at q
      cases q
      exact exo_ok hx
    · rw [upd_ne hb] at q
      by_cases hd : b = dx
      · subst hd
        rw [upd_same] at q
        cases q
        exact exd_ok hn (relO_put (fs := []) ry fun _ => trivial)
      · rw [upd_ne hd] at q
        refine (I.hok b o q).stay (fun c v hc z => k c v ?_ z) (fun c hc => ?_) fun c xs hc => ?_
        · rcases hc with hc | hc
          · rw [hc]; exact hb
          · exact at_ne e hc exo_own
        · rw [upd_ne (at_ne e hc exo_own), upd_ne (ne_of_none hc fr), hc]
        · rw [upd_ne (at_ne e hc exo_tup), upd_ne (ne_of_none hc fr), hc]
/-- the def __init__(self, x): self.f = x -/
def spF (K : PySem.W.Frag) (C : Addr) (f : Str) : Sp := fun vs H Q _ => ∃ (self : Addr) (y : V), vs = [.ref self, y] ∧ H self = some (exo self C none) ∧ ∀ dx, H dx = none → dx ≠ self → Q .non (upd (upd H dx (exd dx [(f, y)])) self (exo self C (some dx)))
def tF1 (K : PySem.W.Frag) (C : Addr) (f : Str) : TS := fun D σ H => ∃ (self : Addr) (y : V), σ[0]? = some (some (.ref self)) ∧ σ[1]? = some (some y) ∧ H self = some (exo self C none) ∧ ∀ dx, H dx = none → dx ≠ self → D.nx σ (upd (upd H dx (exd dx [(f, y)])) self (exo self C (some dx)))
theorem ps_first {p1 p2 p3 pos : Pos} {ns nx : Str} (SF : StoreFacts B bmB "object.__setattr__" "object") (T : XCls X.K C bmB newId) (hno : PySem.W.takerIn X.K C f = some none) (p0 : PE X (.Name ns p2) (tVar 0)) (pn1 : PE X (.Name nx p1) (tVar 1))
    (hs : swapsWith (.Name nx p1) (some (.Attribute (.Name ns p2) f p3)) pos.line X.env = pure false := by rfl) : PS X (.Assign [.Attribute (.Name ns p2) f p3] (.Name nx p1) pos) (tF1 X.K C f) := by
  refine ⟨fun pins s σ H D I ⟨self, y, e0, e1, hH, q⟩ => ?_⟩
  refine plainObj_wpAny_Assign_Attribute (thn (pn1.run pins s σ H (fun v H1 => v = y ∧ H = H1) I ⟨y, e1, rfl, rfl⟩) fun v s1 ⟨x, H1, I1, r1, ex, eH⟩ => ?_) hs
  subst ex eH
  refine thn (p0.run pins s1 σ H (fun v H1 => v = .ref self ∧ H = H1) I1 ⟨.ref self, e0, rfl, rfl⟩) fun u s2 ⟨x, H1, I2, r2, ex, eH⟩ => ?_
  subst ex eH
  obtain rfl : u = Value.ref self := r2
  exact ost_first SF T I2 hH hno r1 fun dx s' n ne J => ⟨σ, _, J, q dx n ne⟩
end

section
variable {P : Program} {w : World} {K : PySem.W.Frag} {mg : Str → Option Value} {base : Heap} {CX : CXT} {k : Nat} {B newId initId : String} {bmB : List Value}
/-- __init__(self, x): self.f = x keeps spF -/
theorem fn_first {qual nx fl : Str} {st : Stmt} {f C : Addr} {fd : FuncData} {p1 p2 p3 pos : Pos} (SF : StoreFacts B bmB "object.__setattr__" "object") (T : XCls K C bmB newId) (hno : PySem.W.takerIn K C fl = some none) (Fu : Fun K "__init__" qual st f fd) (S : FnScope ["self", nx] ["self", nx] (defScope st))
    (hb : defBody st = [.Assign [.Attribute (.Name "self" p2) fl p3] (.Name nx p1) pos])
    (h0 : ∀ (cdv : Value) (A : Around) (stk : List Env) (s : Shared) (H : Hp) (E : XK), PE (cxOf CX P w K mg base ["self", nx] qual (defScope st) f cdv A stk s H E) (.Name "self" p2) (tVar 0))
    (h1 : ∀ (cdv : Value) (A : Around) (stk : List Env) (s : Shared) (H : Hp) (E : XK), PE (cxOf CX P w K mg base ["self", nx] qual (defScope st) f cdv A stk s H E) (.Name nx p1) (tVar 1))
    (hs : ∀ env : Env, swapsWith (.Name nx p1) (some (.Attribute (.Name "self" p2) fl p3)) pos.line env = pure false) :
    FnOk P w K mg base CX (k + 1) f fd ["self", nx] (spF K C fl) := by
  obtain ⟨oc, od, kV, doc, pm, an, cdv, ct, osl, rfl, lk, hcd⟩ := Fu.ex
  refine fn_of lk hcd S (fun vs H Q E ⟨self, y, ev, _⟩ => by subst ev; rfl) fun A outer s H vs Q E hr ⟨self, y, ev, hH, q⟩ => ?_
  subst ev
  rw [hb]
  exact ⟨_, pss_one (ps_first SF T hno (h0 cdv A outer s H E) (h1 cdv A outer s H E) (hs _)), self, y, rfl, rfl, hH, fun dx n ne => q dx n ne⟩
end
section
variable {X : Cx} {CX : CXT} {k : Nat} {B newId initId : String} {bmB : List Value} {C fI : Addr} {fd : FuncData} {ps : List Str} {x fl : Str} {e : Expr} {te : TE} {p pos : Pos}
/-- C(e): a new exception with its field, as a value -/
theorem pe_mkF {bmN : List Value} (FB : ExcBaseFacts B newId initId bmN) (hB : PySem.DLX.Bm B bmB) (T : XCls X.K C bmB newId) (iC : PySem.W.findIn X.K (.ref C) "__init__" = some (some (.ref fI))) (tI : PySem.W.typeIn X.K (.ref fI) = some (.type "function"))
    (F1 : FnOk X.prog X.w X.K X.mg X.base CX k fI fd ps (spF X.K C fl)) (hr : Room (k + 1) X.A) (hb : Binds X.K fd ps []) (hx : Passes CX X (fun _ _ _ => False)) (hg : Gl X x) (hm : X.mg x = some (.ref C)) (he : PE X e te)
    (hdb : (x == ("__debug__" : Str)) = false := by decide) (hs : starEach [e] X.env = (false, eval e X.env) :: starEach [] X.env := by rfl) (hpl : (backTo pos (starEach [] X.env)).any (·.1) = false := by rfl) :
    PE X (.Call (.Name x p) [e] [] pos) (fun σ H Q => te σ H fun y H1 => ∀ a dx, H1 a = none → H1 dx = none → dx ≠ a → Q (.ref a) (upd (upd (upd H1 a (exo a C none)) dx (exd dx [(fl, y)])) a (exo a C (some dx)))) := by
  refine ⟨fun pins s σ H Q I h => ?_⟩
  refine wpAny_Call_Name_kw (ld_glob I hg hm ?_ hdb)
  refine PySem.W.callWith_K (h₀ := X.base) I.ok.mod.kin T.kp (thn ((pa_cons he pa_nil hs).run pos pins s σ H (fun vs H1 => match vs with
    | [y] => ∀ a dx, H1 a = none → H1 dx = none → dx ≠ a → Q (.ref a) (upd (upd (upd H1 a (exo a C none)) dx (exd dx [(fl, y)])) a (exo a C (some dx)))
    | _ => False) I h) fun us s1 ⟨vs, H1, I1, r1, q1⟩ => ⟨I1.kIn, ?_⟩) hs hpl
  · obtain ⟨y, ev⟩ : ∃ y, vs = [y] := by
      match vs, q1 with
      | [y], _ => exact ⟨y, rfl⟩
    show wpAny _ _ (call (.ref C) us) _ _ _
    subst ev
    have hl1 : us.length = 1 := (Paired.length r1).symm
    obtain ⟨nm, N, qn, bs, bm, hdct, sn, sub, ab, col, dd, k0, k1, k2, k3, k5, hC, hT⟩ := PySem.W.excInit_of I1.kIn T.ini
    obtain ⟨hp, g, dr, tk, os⟩ := s1
    have hsz : hp.objs.size ≤ hp.objs.size + 1 := Nat.le_succ _
    have hn : H1 (hp.objs.size + 1) = none := I1.hok.fresh hsz
    have I2 : Inv X pins σ (upd H1 (hp.objs.size + 1) (exo (hp.objs.size + 1) C none)) ⟨(hp.push (PySem.W.kdv_tup us)).push (PySem.HandSPX.excO C hp.objs.size), g, dr, tk, os⟩ :=
      I1.laid (t' := tk) (fun b o z => Heap.get?_push_of_some _ (Heap.get?_push_of_some _ z)) hsz (exo_ok (by heap_get))
    have r2 : Vals [V.ref (hp.objs.size + 1), y] (Value.ref (hp.objs.size + 1) :: us) := .cons rfl r1
    have hl : (Value.ref (hp.objs.size + 1) :: us ++ []).length = ps.length := by
      have z := F1.len [V.ref (hp.objs.size + 1), y] (upd H1 (hp.objs.size + 1) (exo (hp.objs.size + 1) C none)) (fun _ _ => True) (fun _ _ _ => False) ⟨_, y, rfl, upd_same, fun _ _ _ => trivial⟩
      rw [← z, List.append_nil, List.length_cons, hl1]; rfl
    refine wpAny_call (PySem.DLX.own_call FB ⟨by rw [hT]; exact hB.b, by rw [hT]; exact hB.a, by rw [hT]; exact hB.n⟩ hC (by rw [hl1, sizeLine_eq]; omega) (PySem.W.looks_findIn I1.kIn iC) (fun self => PySem.W.bind_fn I1.kIn self tI)
      (codeAny_mono (F1.run _ X.stack _ _ ⟨Value.ref (hp.objs.size + 1) :: us, []⟩ (Value.ref (hp.objs.size + 1) :: us ++ []) _ (fun v H2 => v = .non ∧ Q (.ref (hp.objs.size + 1)) H2) (fun _ _ _ => False) (hr.make C us []) (I2.env0.make C us []) (hb _ (Value.ref (hp.objs.size + 1) :: us) I2.kIn hl) (by rw [List.append_nil]; exact r2)
        ⟨_, y, rfl, upd_same, fun dx n ne => ⟨rfl, q1 _ dx hn (by rw [upd_ne ne] at n; exact n) ne⟩⟩) fun r s' hq' => ?_))
    cases r with
    | error er => exact hx pins σ _ _ er s' I2 hq'
    | ok fl =>
      cases fl with
      | ret u =>
        obtain ⟨v, H2, J, rv, ev, q2⟩ := I2.after hq'
        subst ev
        exact ⟨rv, .ref (hp.objs.size + 1), H2, J, rfl, q2⟩
      | next => exact False.elim hq'
      | brk => exact False.elim hq'
      | cont => exact False.elim hq'
end

/-! ### isinstance, fields of such values -/
structure XQ (K : PySem.W.Frag) (C : Addr) : Prop extends ExcC K C where
  cl : (PySem.W.clsIn K C).isSome = true
def xqB (K : PySem.W.Frag) (C : Addr) : Bool := decide (PySem.W.findIn K (.ref C) "__getattribute__" = some (some (.builtin "BaseException.__getattribute__"))) && (decide (PySem.W.findIn K (.ref C) "__getattr__" = some none) && (decide (PySem.W.subIn K (.ref C) (.type "BaseException") = some true) &&
  (PySem.W.hasDictIn K C && (decide (PySem.W.findIn K (.ref C) "__class__" = some (some (.builtin "object.__class__"))) && (decide (PySem.W.specialIn K (.builtin "object.__class__") "__get__" = some (some (.builtin "getset_descriptor.__get__"))) && (decide (PySem.W.takesIn K (.builtin "object.__class__") = some true) && (decide (PySem.W.mroIn K C (.type "object") = some true) && (PySem.W.clsIn K C).isSome)))))))
theorem xqB_ok {K : PySem.W.Frag} {C : Addr} (h : xqB K C = true) : XQ K C := by
  unfold xqB at h
  simp only [Bool.and_eq_true, decide_eq_true_eq] at h
  obtain ⟨h1, h2, h3, h4, h5, h6, h7, h8, h9⟩ := h
  exact ⟨⟨h1, h2, h3, h4, h5, h6, h7, h8⟩, h9⟩
/-- an exception of the class at C lies at a -/
def AtX (H : Hp) (a C : Addr) : Prop := H a = some (ExO (.ref C) a) ∨ ∃ dx fs, H a = some (exo a C (some dx)) ∧ H dx = some (exd dx fs)
section
variable {X : Cx} {pins : List (Addr × Obj)} {σ : L2.St} {H : Hp} {s : Shared} {a C : Addr}
theorem atx_inst (I : Inv X pins σ H s) (h : AtX H a C) : ∃ oe od, PySem.W.InstAt s.heap a oe C od := by
  rcases h with h | ⟨dx, fs, h, hd⟩
  · obtain ⟨⟨oe, vs, ho, ⟨hz1, hz2⟩, hdt, _⟩, _⟩ := I.hok a _ h
    obtain ⟨oc, od, oda, osl⟩ := oe
    dsimp only at hz1 hz2 hdt
    subst hz1 hz2 hdt
    exact ⟨_, none, ho, rfl, rfl, trivial⟩
  · obtain ⟨t1, ho⟩ := exo_at I.hok h
    obtain ⟨mA, hns, _⟩ := exd_at I.hok hd
    obtain ⟨od, hod, _⟩ := lookIn_ns hns
    exact ⟨_, some od, ho, rfl, rfl, hod⟩
def rIsX (K : PySem.W.Frag) : List V → Hp → VK → Prop := fun xs H Q => ∃ (a C : Addr) (c : V) (cv : Value) (b : Bool), xs = [.ref a, c] ∧ AtX H a C ∧ XQ K C ∧ (∀ u, RelV c u → u = cv) ∧ PySem.W.kitOne K (.ref C) cv = some b ∧ Q (.bl b) H
theorem call_isX : CallR X (.builtin "isinstance") (rIsX X.K) := by
  intro pins s σ H xs us Q I r ⟨a, C, c, cv, b, ev, hat, xq, hcv, e, q⟩
  subst ev
  cases r with
  | cons rx rr =>
  cases rr with
  | cons rt rr =>
  cases rr
  cases rx
  have ec := hcv _ rt
  subst ec
  obtain ⟨oe, od, J⟩ := atx_inst I hat
  exact PySem.W.kia_one (PySem.W.kitx_exc xq.cl xq.hg xq.hk xq.hs xq.ha xq.hn xq.ht xq.hm) I.kIn J e (fun z => nomatch z) fun tk => ⟨.bl b, H, I.kept (t' := tk) fun _ _ z => z, rfl, q⟩
/-- e.f -/
def tGetF (K : PySem.W.Frag) (fl : Str) (te : TE) : TE := fun σ H Q => te σ H fun x H1 => ∃ (a C dx : Addr) (v : V), x = .ref a ∧ H1 a = some (exo a C (some dx)) ∧ H1 dx = some (exd dx [(fl, v)]) ∧ XQ K C ∧ PySem.W.findIn K (.ref C) fl = some none ∧ Q v H1
theorem pe_getF {e : Expr} {te : TE} {fl : Str} {pos : Pos} (he : PE X e te) (hb : attributeBase e fl X.env (eval e X.env) = eval e X.env := by rfl) : PE X (.Attribute e fl pos) (tGetF X.K fl te) := by
  refine ⟨fun pins s σ H Q I h => attr_of hb (thn (he.run pins s σ H _ I h) fun u s1 ⟨x, H1, I1, rx, a, C, dx, v, ex, ea, ed, xq, hno, q⟩ => ?_)⟩
  subst ex
  obtain rfl : u = Value.ref a := rx
  obtain ⟨t1, ho⟩ := exo_at I1.hok ea
  obtain ⟨mA, hns, hr⟩ := exd_at I1.hok ed
  obtain ⟨od, hod, hl⟩ := lookIn_ns hns
  obtain ⟨u, hu, ru⟩ := RelO.some_of (v := v) (o := mA fl) (by have z := hr fl; rw [lookup_put, if_pos rfl] at z; exact z)
  exact HandSPX.exc_get I1.kIn (⟨ho, rfl, rfl, hod⟩ : PySem.W.InstAt s1.heap a _ C (some od)) xq.hg xq.hk xq.hs (PySem.W.findObj_own xq.hd hno rfl (by rw [hl, hu])) (handed_of ru) ⟨v, H1, I1.tok _, ru, q⟩
end
/-! ### on data -/
section
variable {X : Cx} {e : Expr} {fa : EvE} {p p1 p2 pos : Pos} {x fl : Str}
theorem Rep.atx {K : PySem.W.Frag} {as : Ar} {H : Hp} {v : V} {d : D} {n : Str} (r : Rep K as H v d) (h : d = .exc n ∨ ∃ f x, d = .exf n f x) : ∃ a C, v = .ref a ∧ PySem.W.nsIn K mainGlobals n = some (some (.ref C)) ∧ AtX H a C := by
  rcases h with rfl | ⟨f, x, rfl⟩
  · cases r with
    | exc e t n => exact ⟨_, _, rfl, e, .inl t⟩
  · cases r with
    | exf e t n t2 n2 r => exact ⟨_, _, rfl, e, .inr ⟨_, _, t, t2⟩⟩
/-- C(e) without an own __init__ -/
def dExc (x : Str) : D → List Cell → Option D := fun _ _ => some (.exc x)
theorem de_exc {C : Addr} {bmB : List Value} {B newId initId : String} (F : ExcBaseFacts B newId initId bmB) (q : PySem.W.excIn X.K C bmB newId = true) (gC : X.mg x = some (.ref C)) (hn : PySem.W.nsIn X.K mainGlobals x = some (some (.ref C))) (kC : PySem.W.keepIn X.K (.ref C) = true) (hg : Gl X x)
    (he : PE X e (tF X.K fa)) (hs : starEach [e] X.env = (false, eval e X.env) :: starEach [] X.env := by rfl) (hdb : (x == ("__debug__" : Str)) = false := by decide) : PE X (.Call (.Name x p) [e] [] pos) (tF X.K (fU (dExc x) fa)) :=
  (pe_exc1 F q gC kC hg he hs hdb).imp fun σ H Q ⟨as, S, d, μ', E, ed, k⟩ => by
    obtain ⟨y, ey, ez⟩ := fU_out ed
    cases Option.some.inj ez
    exact ⟨as, S, y, μ', E, ey, fun v as1 H1 X1 r1 s1 a ha => k _ as1 _ (X1.trans (Ext.new ha (s1.out ha)) E.sto.trk) (.exc hn upd_same (s1.out ha)) (s1.new ha)⟩
/-- .. with one that stores its argument -/
def dExf (x fl : Str) : D → List Cell → Option D := fun d _ => some (.exf x fl d)
theorem de_exf {CX : CXT} {k : Nat} {fI C : Addr} {fd : FuncData} {ps : List Str} {bmB bmN : List Value} {B newId initId : String} (FB : ExcBaseFacts B newId initId bmN) (hB : PySem.DLX.Bm B bmB) (T : XCls X.K C bmB newId) (iC : PySem.W.findIn X.K (.ref C) "__init__" = some (some (.ref fI))) (tI : PySem.W.typeIn X.K (.ref fI) = some (.type "function"))
    (F1 : FnOk X.prog X.w X.K X.mg X.base CX k fI fd ps (spF X.K C fl)) (hr : Room (k + 1) X.A) (hb : Binds X.K fd ps []) (hx : Passes CX X (fun _ _ _ => False)) (hg : Gl X x) (hm : X.mg x = some (.ref C)) (hn : PySem.W.nsIn X.K mainGlobals x = some (some (.ref C)))
    (he : PE X e (tF X.K fa)) (hdb : (x == ("__debug__" : Str)) = false := by decide) (hs : starEach [e] X.env = (false, eval e X.env) :: starEach [] X.env := by rfl) (hpl : (backTo pos (starEach [] X.env)).any (·.1) = false := by rfl) : PE X (.Call (.Name x p) [e] [] pos) (tF X.K (fU (dExf x fl) fa)) :=
  (pe_mkF FB hB T iC tI F1 hr hb hx hg hm he hdb hs hpl).imp fun σ H Q ⟨as, S, d, μ', E, ed, kq⟩ => by
    obtain ⟨y, ey, ez⟩ := fU_out ed
    cases Option.some.inj ez
    refine ⟨as, S, y, μ', E, ey, fun v as1 H1 X1 r1 s1 a dx ha hd hne => ?_⟩
    have X2 := Ext.new (o := exo a C none) ha (s1.out ha)
    have s2 := s1.new (o := exo a C none) ha
    have hd2 : upd H1 a (exo a C none) dx = none := by rw [upd_ne hne]; exact hd
    have X3 := Ext.new (o := exd dx [(fl, v)]) hd2 (s2.out hd2)
    have s3 := s2.new (o := exd dx [(fl, v)]) hd2
    -- the object's second look
    have eq : upd (upd (upd H1 a (exo a C none)) dx (exd dx [(fl, v)])) a (exo a C (some dx)) = upd (upd H1 a (exo a C (some dx))) dx (exd dx [(fl, v)]) := by
      funext b
      by_cases h1 : b = a
      · subst h1; rw [upd_same, upd_ne (Ne.symm hne), upd_same]
      · rw [upd_ne h1]
        by_cases h2 : b = dx
        · subst h2; rw [upd_same, upd_same]
        · rw [upd_ne h2, upd_ne h2, upd_ne h1, upd_ne h1]
    rw [eq]
    have Y2 := Ext.new (o := exo a C (some dx)) ha (s1.out ha)
    have t2 := s1.new (o := exo a C (some dx)) ha
    have hd3 : upd H1 a (exo a C (some dx)) dx = none := by rw [upd_ne hne]; exact hd
    have Y3 := Ext.new (o := exd dx [(fl, v)]) hd3 (t2.out hd3)
    have t3 := t2.new (o := exd dx [(fl, v)]) hd3
    have Y := Y2.trans Y3 s1.trk
    exact kq _ as1 _ (X1.trans Y E.sto.trk) (.exf hn (by rw [upd_ne (Ne.symm hne), upd_same]) (s1.out ha) upd_same (t2.out hd3) (r1.mv Y)) t3
/-- isinstance(e, c) of such a value -/
def dIsx (tab : Str → Option Bool) : D → List Cell → Option D
  | .exc n, _ => (tab n).map .bl
  | .exf n _ _, _ => (tab n).map .bl
  | _, _ => none
theorem de_isx {c : V} {cv : Value} {x2 : Expr} {tab : Str → Option Bool} (hg : Gl X "isinstance") (hm : X.mg "isinstance" = none) (he : PE X e (tF X.K fa)) (hc : PE X x2 (tC c)) (hcv : ∀ u, RelV c u → u = cv)
    (hk : ∀ n C b, tab n = some b → PySem.W.nsIn X.K mainGlobals n = some (some (.ref C)) → XQ X.K C ∧ PySem.W.kitOne X.K (.ref C) cv = some b)
    (hs : starEach [e, x2] X.env = (false, eval e X.env) :: starEach [x2] X.env := by rfl) (hs2 : starEach [x2] X.env = (false, eval x2 X.env) :: starEach [] X.env := by rfl) (hpl : (backTo pos (starEach [x2] X.env)).any (·.1) = false := by rfl) :
    PE X (.Call (.Name "isinstance" p) [e, x2] [] pos) (tF X.K (fU (dIsx tab) fa)) :=
  (pe_callB call_isX hg hm (by decide +kernel) (pa_cons he (pa_cons hc pa_nil hs2) hs) (by decide) (by decide) hs hpl).imp fun σ H Q ⟨as, S, d, μ', E, ed, q⟩ => by
    obtain ⟨y, ey, ez⟩ := fU_out ed
    have ⟨n, b, hy, ht, eb⟩ : ∃ n b, (y = .exc n ∨ ∃ f z, y = .exf n f z) ∧ tab n = some b ∧ d = .bl b := by
      unfold dIsx at ez
      split at ez
      · obtain ⟨b, hb, rfl⟩ := Option.map_eq_some_iff.mp ez
        exact ⟨_, b, .inl rfl, hb, rfl⟩
      · obtain ⟨b, hb, rfl⟩ := Option.map_eq_some_iff.mp ez
        exact ⟨_, b, .inr ⟨_, _, rfl⟩, hb, rfl⟩
      · cases ez
    subst eb
    refine ⟨as, S, y, μ', E, ey, fun v as1 H1 X1 r1 s1 => ?_⟩
    obtain ⟨a, C, rfl, hn, hat⟩ := r1.atx hy
    obtain ⟨xq, hkk⟩ := hk n C b ht hn
    exact ⟨a, C, c, cv, b, rfl, hat, xq, hcv, hkk, q _ as1 H1 X1 (.bl b) s1⟩
/-- e.f of such a value -/
def dGetF (ns : List Str) (fl : Str) : D → List Cell → Option D
  | .exf n f x, _ => if n ∈ ns ∧ f = fl then some x else none
  | _, _ => none
theorem de_getF (he : PE X e (tF X.K fa)) {ns : List Str} (hk : ∀ n C, n ∈ ns → PySem.W.nsIn X.K mainGlobals n = some (some (.ref C)) → XQ X.K C ∧ PySem.W.findIn X.K (.ref C) fl = some none) (hb : attributeBase e fl X.env (eval e X.env) = eval e X.env := by rfl) :
    PE X (.Attribute e fl pos) (tF X.K (fU (dGetF ns fl) fa)) := (pe_getF he hb).imp fun σ H Q ⟨as, S, d, μ', E, ed, q⟩ => by
  obtain ⟨y, ey, ez⟩ := fU_out ed
  unfold dGetF at ez
  split at ez
  · split at ez
    · rename_i hf
      obtain ⟨hf1, hf⟩ := hf
      subst hf
      cases Option.some.inj ez
      refine ⟨as, S, _, μ', E, ey, fun v as1 H1 X1 r1 s1 => ?_⟩
      cases r1 with
      | exf e t n1 t2 n2 r =>
        obtain ⟨xq, hno⟩ := hk _ _ hf1 e
        exact ⟨_, _, _, _, rfl, t, t2, xq, hno, q _ as1 H1 X1 r s1⟩
    · cases ez
  · cases ez
end
end DL
set_option maxHeartbeats 2000000
/-! == where a dict stands against something else. -/
namespace PySem
namespace DLQ
open SeqAt MeetsSeq
open AutoSeq1 (wpAny_loadPart')
abbrev dob (dd : Option Addr) (es : Array DictEntry) (n : Nat) (sl : Array (Option Value)) : Obj := { cls := .type "dict", dict := dd, data := .dict es n, slots := sl }
abbrev sob (c : Value) (dd : Option Addr) (es : Array Value) (n : Nat) (sl : Array (Option Value)) : Obj := { cls := c, dict := dd, data := .seq es n, slots := sl }
section
variable (l k : Addr) (es : Array DictEntry) (n m : Nat) (dd dk : Option Addr) (sl sk : Array (Option Value)) (vs : Array Value)
theorem d_none : Meets (Builtin.«dict.__eq__» ⟨[.ref l, .none], []⟩) (fun _ R s => s.heap.get? l = some (dob dd es n sl) ∧ R (.ok (.ret .notImplemented)) s) :=
  .of_wp fun prog w A R s h => by (obtain ⟨hp, g, d, tk, os⟩ := s; obtain ⟨hl, h⟩ := h; have f1 := F.sub_NoneType_dict; wp_walk using wpAny_loadPart' hl; exact ⟨_, rfl, h⟩)
theorem d_bool (b : Bool) : Meets (Builtin.«dict.__eq__» ⟨[.ref l, .bool b], []⟩) (fun _ R s => s.heap.get? l = some (dob dd es n sl) ∧ R (.ok (.ret .notImplemented)) s) :=
  .of_wp fun prog w A R s h => by (obtain ⟨hp, g, d, tk, os⟩ := s; obtain ⟨hl, h⟩ := h; have f1 := F.sub_bool_dict; wp_walk using wpAny_loadPart' hl; exact ⟨_, rfl, h⟩)
theorem d_int (b : Int) (u : Tok) : Meets (Builtin.«dict.__eq__» ⟨[.ref l, .int b u], []⟩) (fun _ R s => s.heap.get? l = some (dob dd es n sl) ∧ R (.ok (.ret .notImplemented)) s) :=
  .of_wp fun prog w A R s h => by (obtain ⟨hp, g, d, tk, os⟩ := s; obtain ⟨hl, h⟩ := h; have f1 := F.sub_int_dict; wp_walk using wpAny_loadPart' hl; exact ⟨_, rfl, h⟩)
theorem d_str (b : Str) (u : Tok) : Meets (Builtin.«dict.__eq__» ⟨[.ref l, .str b u], []⟩) (fun _ R s => s.heap.get? l = some (dob dd es n sl) ∧ R (.ok (.ret .notImplemented)) s) :=
  .of_wp fun prog w A R s h => by (obtain ⟨hp, g, d, tk, os⟩ := s; obtain ⟨hl, h⟩ := h; have f1 := F.sub_str_dict; wp_walk using wpAny_loadPart' hl; exact ⟨_, rfl, h⟩)
theorem d_list : Meets (Builtin.«dict.__eq__» ⟨[.ref l, .ref k], []⟩) (fun _ R s => s.heap.get? l = some (dob dd es n sl) ∧ s.heap.get? k = some (sob (.type "list") dk vs m sk) ∧ R (.ok (.ret .notImplemented)) s) :=
  .of_wp fun prog w A R s h => by (obtain ⟨hp, g, d, tk, os⟩ := s; obtain ⟨hl, hk, h⟩ := h; have f1 := F.sub_list_dict; wp_walk using wpAny_loadPart' hl, wpAny_loadPart' hk; exact ⟨_, rfl, h⟩)
theorem list_d : Meets (Builtin.«list.__eq__» ⟨[.ref k, .ref l], []⟩) (fun _ R s => s.heap.get? k = some (sob (.type "list") dk vs m sk) ∧ s.heap.get? l = some (dob dd es n sl) ∧ R (.ok (.ret .notImplemented)) s) :=
  .of_wp fun prog w A R s h => by (obtain ⟨hp, g, d, tk, os⟩ := s; obtain ⟨hk, hl, h⟩ := h; have f1 := F.sub_dict_list; wp_walk using wpAny_loadPart' hl, wpAny_loadPart' hk; exact ⟨_, rfl, h⟩)
theorem d_tuple : Meets (Builtin.«dict.__eq__» ⟨[.ref l, .ref k], []⟩) (fun _ R s => s.heap.get? l = some (dob dd es n sl) ∧ s.heap.get? k = some (sob (.type "tuple") dk vs m sk) ∧ R (.ok (.ret .notImplemented)) s) :=
  .of_wp fun prog w A R s h => by (obtain ⟨hp, g, d, tk, os⟩ := s; obtain ⟨hl, hk, h⟩ := h; have f1 := F.sub_tuple_dict; wp_walk using wpAny_loadPart' hl, wpAny_loadPart' hk; exact ⟨_, rfl, h⟩)
theorem tuple_d : Meets (Builtin.«tuple.__eq__» ⟨[.ref k, .ref l], []⟩) (fun _ R s => s.heap.get? k = some (sob (.type "tuple") dk vs m sk) ∧ s.heap.get? l = some (dob dd es n sl) ∧ R (.ok (.ret .notImplemented)) s) :=
  .of_wp fun prog w A R s h => by (obtain ⟨hp, g, d, tk, os⟩ := s; obtain ⟨hk, hl, h⟩ := h; have f1 := F.sub_dict_tuple; wp_walk using wpAny_loadPart' hl, wpAny_loadPart' hk; exact ⟨_, rfl, h⟩)
theorem bool_d (b : Bool) : Meets (Builtin.«int.__eq__» ⟨[.bool b, .ref l], []⟩) (fun _ R s => s.heap.get? l = some (dob dd es n sl) ∧ R (.ok (.ret .notImplemented)) s) :=
  .of_wp fun prog w A R s h => by (obtain ⟨hp, g, d, tk, os⟩ := s; obtain ⟨hl, h⟩ := h; wp_walk using wpAny_loadPart' hl, wpAny_load hl; exact ⟨_, rfl, h⟩)
theorem int_d (b : Int) (u : Tok) : Meets (Builtin.«int.__eq__» ⟨[.int b u, .ref l], []⟩) (fun _ R s => s.heap.get? l = some (dob dd es n sl) ∧ R (.ok (.ret .notImplemented)) s) :=
  .of_wp fun prog w A R s h => by (obtain ⟨hp, g, d, tk, os⟩ := s; obtain ⟨hl, h⟩ := h; wp_walk using wpAny_loadPart' hl, wpAny_load hl; exact ⟨_, rfl, h⟩)
theorem str_d (b : Str) (u : Tok) : Meets (Builtin.«str.__eq__» ⟨[.str b u, .ref l], []⟩) (fun _ R s => s.heap.get? l = some (dob dd es n sl) ∧ R (.ok (.ret .notImplemented)) s) :=
  .of_wp fun prog w A R s h => by (obtain ⟨hp, g, d, tk, os⟩ := s; obtain ⟨hl, h⟩ := h; wp_walk using wpAny_loadPart' hl, wpAny_load hl; exact ⟨_, rfl, h⟩)
end
section
variable {A : Around} {s : Shared} {l k : Addr} {od : Obj}
/-- two objects that are not the same, where not both are tuples -/
theorem same_refs {M : Model} {E : Value → Shared → Prop} {x y : Addr} {ox oy : Obj} {R : Bool → Shared → Prop} (hxy : x ≠ y) (hx : s.heap.get? x = some ox) (hy : s.heap.get? y = some oy) (hnt : ox.cls ≠ .type "tuple" ∨ oy.cls ≠ .type "tuple") (h : R false s) : wpAny M A (isSame (.ref x) (.ref y)) R E s := by
  show wpAny M A (if (x == y) = true then pure true else _) R E s
  rw [if_neg (by simpa using hxy)]
  refine wpAny_bind (wpAny_load hx (wpAny_bind (wpAny_load hy ?_)))
  split
  · rename_i h1 h2 _ _
    rcases hnt with z | z
    · first | exact absurd h1 z | exact absurd h2 z
    · first | exact absurd h2 z | exact absurd h1 z
  · exact wpAny_pure h
/-- an exact dict lies at l -/
def IsD (s : Shared) (l : Addr) : Prop := ∃ dd es n sl, s.heap.get? l = some (dob dd es n sl)
theorem EqAt.of_rcL {b : Value} {q : Bool} (hne : (Value.ref l) ≠ b) (h : RcAt A s (.ref l) b q) : EqAt A s (.ref l) b q := fun prog w E Q hq => by
  unfold eqBool
  exact wpAny_holding (wpAny_ite_split (fun hab => absurd (eq_of_beq hab) hne) fun _ => wpAny_bind (h prog w E _ (wpAny_truthy_bool hq)))
theorem EqAt.of_rcR {a : Value} {q : Bool} (hf : ∀ x t, a ≠ .float x t) (hne : a ≠ .ref l) (h : RcAt A s a (.ref l) q) : EqAt A s a (.ref l) q := fun prog w E Q hq => by
  unfold eqBool
  cases a with
  | float x t => exact absurd rfl (hf x t)
  | _ => exact wpAny_holding (wpAny_ite_split (fun hab => absurd (eq_of_beq hab) hne) fun _ => wpAny_bind (h prog w E _ (wpAny_truthy_bool hq)))
theorem r_d_none (hl : IsD s l) (hu : A.units < cLine) : RcAt A s (.ref l) (.none) false := by
  obtain ⟨dd, es, n, sl, ho⟩ := hl
  exact fun prog w E Q h => rc_eq_decline_or (k := false) ⟨_, ho, rfl⟩ rfl (by decide) F.sub_NoneType_dict F.slot_dict_eq F.slot_NoneType_eq_refl (fun _ hq => call_meets F.slot_dict_eq ⟨_, ho, rfl⟩ F.entry_dict_eq (F.args_dict_eq_2 _ _) (d_none l es n dd sl) ⟨ho, hq⟩) (fun _ hq => call_gives F.slot_NoneType_eq_refl rfl F.entry_NoneType_eq (F.args_NoneType_eq_2 _ _) (NoneType___eq___none_ref_0 l) hq) (fun _ hq => wpAny_of_eq (rfl : isSame (.ref l) (.none) = pure false) hq) (.inr hu) h
theorem e_d_none (hl : IsD s l) (hu : A.units < cLine) : EqAt A s (.ref l) (.none) false := EqAt.of_rcL nofun (r_d_none hl hu)
theorem r_none_d (hl : IsD s l) (hu : A.units < cLine) : RcAt A s (.none) (.ref l) false := by
  obtain ⟨dd, es, n, sl, ho⟩ := hl
  exact fun prog w E Q h => rc_eq_decline_or (k := false) rfl ⟨_, ho, rfl⟩ (by decide) F.sub_dict_NoneType F.slot_NoneType_eq F.slot_dict_eq_refl (fun _ hq => call_gives F.slot_NoneType_eq rfl F.entry_NoneType_eq (F.args_NoneType_eq_2 _ _) (NoneType___eq___none_ref_0 l) hq) (fun _ hq => call_meets F.slot_dict_eq_refl ⟨_, ho, rfl⟩ F.entry_dict_eq (F.args_dict_eq_2 _ _) (d_none l es n dd sl) ⟨ho, hq⟩) (fun _ hq => wpAny_of_eq (rfl : isSame (.none) (.ref l) = pure false) hq) (.inr hu) h
theorem e_none_d (hl : IsD s l) (hu : A.units < cLine) : EqAt A s (.none) (.ref l) false := EqAt.of_rcR nofun nofun (r_none_d hl hu)
theorem r_d_bool (b : Bool) (hl : IsD s l) (hu : A.units < cLine) : RcAt A s (.ref l) (.bool b) false := by
  obtain ⟨dd, es, n, sl, ho⟩ := hl
  exact fun prog w E Q h => rc_eq_decline_or (k := false) ⟨_, ho, rfl⟩ rfl (by decide) F.sub_bool_dict F.slot_dict_eq F.slot_bool_eq_refl (fun _ hq => call_meets F.slot_dict_eq ⟨_, ho, rfl⟩ F.entry_dict_eq (F.args_dict_eq_2 _ _) (d_bool l es n dd sl b) ⟨ho, hq⟩) (fun _ hq => call_meets F.slot_bool_eq_refl rfl F.entry_int_eq (F.args_int_eq_2 _ _) (bool_d l es n dd sl b) ⟨ho, hq⟩) (fun _ hq => wpAny_of_eq (rfl : isSame (.ref l) (.bool b) = pure false) hq) (.inr hu) h
theorem e_d_bool (b : Bool) (hl : IsD s l) (hu : A.units < cLine) : EqAt A s (.ref l) (.bool b) false := EqAt.of_rcL nofun (r_d_bool b hl hu)
theorem r_bool_d (b : Bool) (hl : IsD s l) (hu : A.units < cLine) : RcAt A s (.bool b) (.ref l) false := by
  obtain ⟨dd, es, n, sl, ho⟩ := hl
  exact fun prog w E Q h => rc_eq_decline_or (k := false) rfl ⟨_, ho, rfl⟩ (by decide) F.sub_dict_bool F.slot_bool_eq F.slot_dict_eq_refl (fun _ hq => call_meets F.slot_bool_eq rfl F.entry_int_eq (F.args_int_eq_2 _ _) (bool_d l es n dd sl b) ⟨ho, hq⟩) (fun _ hq => call_meets F.slot_dict_eq_refl ⟨_, ho, rfl⟩ F.entry_dict_eq (F.args_dict_eq_2 _ _) (d_bool l es n dd sl b) ⟨ho, hq⟩) (fun _ hq => wpAny_of_eq (rfl : isSame (.bool b) (.ref l) = pure false) hq) (.inr hu) h
theorem e_bool_d (b : Bool) (hl : IsD s l) (hu : A.units < cLine) : EqAt A s (.bool b) (.ref l) false := EqAt.of_rcR nofun nofun (r_bool_d b hl hu)
theorem r_d_int (b : Int) (u : Tok) (hl : IsD s l) (hu : A.units < cLine) : RcAt A s (.ref l) (.int b u) false := by
  obtain ⟨dd, es, n, sl, ho⟩ := hl
  exact fun prog w E Q h => rc_eq_decline_or (k := false) ⟨_, ho, rfl⟩ rfl (by decide) F.sub_int_dict F.slot_dict_eq F.slot_int_eq_refl (fun _ hq => call_meets F.slot_dict_eq ⟨_, ho, rfl⟩ F.entry_dict_eq (F.args_dict_eq_2 _ _) (d_int l es n dd sl b u) ⟨ho, hq⟩) (fun _ hq => call_meets F.slot_int_eq_refl rfl F.entry_int_eq (F.args_int_eq_2 _ _) (int_d l es n dd sl b u) ⟨ho, hq⟩) (fun _ hq => wpAny_of_eq (rfl : isSame (.ref l) (.int b u) = pure false) hq) (.inr hu) h
theorem e_d_int (b : Int) (u : Tok) (hl : IsD s l) (hu : A.units < cLine) : EqAt A s (.ref l) (.int b u) false := EqAt.of_rcL nofun (r_d_int b u hl hu)
theorem r_int_d (b : Int) (u : Tok) (hl : IsD s l) (hu : A.units < cLine) : RcAt A s (.int b u) (.ref l) false := by
  obtain ⟨dd, es, n, sl, ho⟩ := hl
  exact fun prog w E Q h => rc_eq_decline_or (k := false) rfl ⟨_, ho, rfl⟩ (by decide) F.sub_dict_int F.slot_int_eq F.slot_dict_eq_refl (fun _ hq => call_meets F.slot_int_eq rfl F.entry_int_eq (F.args_int_eq_2 _ _) (int_d l es n dd sl b u) ⟨ho, hq⟩) (fun _ hq => call_meets F.slot_dict_eq_refl ⟨_, ho, rfl⟩ F.entry_dict_eq (F.args_dict_eq_2 _ _) (d_int l es n dd sl b u) ⟨ho, hq⟩) (fun _ hq => wpAny_of_eq (rfl : isSame (.int b u) (.ref l) = pure false) hq) (.inr hu) h
theorem e_int_d (b : Int) (u : Tok) (hl : IsD s l) (hu : A.units < cLine) : EqAt A s (.int b u) (.ref l) false := EqAt.of_rcR nofun nofun (r_int_d b u hl hu)
theorem r_d_str (b : Str) (u : Tok) (hl : IsD s l) (hu : A.units < cLine) : RcAt A s (.ref l) (.str b u) false := by
  obtain ⟨dd, es, n, sl, ho⟩ := hl
  exact fun prog w E Q h => rc_eq_decline_or (k := false) ⟨_, ho, rfl⟩ (typeIs_str s b u) (by decide) F.sub_str_dict F.slot_dict_eq F.slot_str_eq_refl (fun _ hq => call_meets F.slot_dict_eq ⟨_, ho, rfl⟩ F.entry_dict_eq (F.args_dict_eq_2 _ _) (d_str l es n dd sl b u) ⟨ho, hq⟩) (fun _ hq => call_meets F.slot_str_eq_refl (typeIs_str s b u) F.entry_str_eq (F.args_str_eq_2 _ _) (str_d l es n dd sl b u) ⟨ho, hq⟩) (fun _ hq => wpAny_of_eq (rfl : isSame (.ref l) (.str b u) = pure false) hq) (.inr hu) h
theorem e_d_str (b : Str) (u : Tok) (hl : IsD s l) (hu : A.units < cLine) : EqAt A s (.ref l) (.str b u) false := EqAt.of_rcL nofun (r_d_str b u hl hu)
theorem r_str_d (b : Str) (u : Tok) (hl : IsD s l) (hu : A.units < cLine) : RcAt A s (.str b u) (.ref l) false := by
  obtain ⟨dd, es, n, sl, ho⟩ := hl
  exact fun prog w E Q h => rc_eq_decline_or (k := false) (typeIs_str s b u) ⟨_, ho, rfl⟩ (by decide) F.sub_dict_str F.slot_str_eq F.slot_dict_eq_refl (fun _ hq => call_meets F.slot_str_eq (typeIs_str s b u) F.entry_str_eq (F.args_str_eq_2 _ _) (str_d l es n dd sl b u) ⟨ho, hq⟩) (fun _ hq => call_meets F.slot_dict_eq_refl ⟨_, ho, rfl⟩ F.entry_dict_eq (F.args_dict_eq_2 _ _) (d_str l es n dd sl b u) ⟨ho, hq⟩) (fun _ hq => wpAny_of_eq (rfl : isSame (.str b u) (.ref l) = pure false) hq) (.inr hu) h
theorem e_str_d (b : Str) (u : Tok) (hl : IsD s l) (hu : A.units < cLine) : EqAt A s (.str b u) (.ref l) false := EqAt.of_rcR nofun nofun (r_str_d b u hl hu)
theorem r_d_list {items : Array Value} (hl : IsD s l) (hk : s.heap.IsList k items) (hu : A.units < cLine) : RcAt A s (.ref l) (.ref k) false := by
  obtain ⟨dd, es, n, sl, ho⟩ := hl
  obtain ⟨⟨c2, dk, data2, sk⟩, ho2, hc2, m, hd2⟩ := id hk
  simp only at hc2 hd2
  subst hc2 hd2
  have hne : l ≠ k := fun z => by rw [z, ho2] at ho; injection ho with ho; injection ho with ho; injection ho with ho; exact absurd ho (by decide)
  exact fun prog w E Q h => rc_eq_decline_or (k := false) ⟨_, ho, rfl⟩ ⟨_, ho2, rfl⟩ (by decide) F.sub_list_dict F.slot_dict_eq F.slot_list_eq_refl (fun _ hq => call_meets F.slot_dict_eq ⟨_, ho, rfl⟩ F.entry_dict_eq (F.args_dict_eq_2 _ _) (d_list l k es n m dd dk sl sk items) ⟨ho, ho2, hq⟩) (fun _ hq => call_meets F.slot_list_eq_refl ⟨_, ho2, rfl⟩ F.entry_list_eq (F.args_list_eq_2 _ _) (list_d l k es n m dd dk sl sk items) ⟨ho2, ho, hq⟩) (fun _ hq => same_refs hne ho ho2 (.inl (by show Value.type "dict" ≠ Value.type "tuple"; decide)) hq) (.inr hu) h
theorem e_d_list {items : Array Value} (hl : IsD s l) (hk : s.heap.IsList k items) (hu : A.units < cLine) : EqAt A s (.ref l) (.ref k) false := by
  have z := r_d_list hl hk hu
  obtain ⟨dd, es, n, sl, ho⟩ := hl
  obtain ⟨⟨c2, dk, data2, sk⟩, ho2, hc2, m, hd2⟩ := id hk
  simp only at hc2 hd2
  subst hc2 hd2
  have hne : l ≠ k := fun z => by rw [z, ho2] at ho; injection ho with ho; injection ho with ho; injection ho with ho; exact absurd ho (by decide)
  exact EqAt.of_refs hne z
theorem r_list_d {items : Array Value} (hl : IsD s l) (hk : s.heap.IsList k items) (hu : A.units < cLine) : RcAt A s (.ref k) (.ref l) false := by
  obtain ⟨dd, es, n, sl, ho⟩ := hl
  obtain ⟨⟨c2, dk, data2, sk⟩, ho2, hc2, m, hd2⟩ := id hk
  simp only at hc2 hd2
  subst hc2 hd2
  have hne : l ≠ k := fun z => by rw [z, ho2] at ho; injection ho with ho; injection ho with ho; injection ho with ho; exact absurd ho (by decide)
  exact fun prog w E Q h => rc_eq_decline_or (k := false) ⟨_, ho2, rfl⟩ ⟨_, ho, rfl⟩ (by decide) F.sub_dict_list F.slot_list_eq F.slot_dict_eq_refl (fun _ hq => call_meets F.slot_list_eq ⟨_, ho2, rfl⟩ F.entry_list_eq (F.args_list_eq_2 _ _) (list_d l k es n m dd dk sl sk items) ⟨ho2, ho, hq⟩) (fun _ hq => call_meets F.slot_dict_eq_refl ⟨_, ho, rfl⟩ F.entry_dict_eq (F.args_dict_eq_2 _ _) (d_list l k es n m dd dk sl sk items) ⟨ho, ho2, hq⟩) (fun _ hq => same_refs (Ne.symm hne) ho2 ho (.inr (by show Value.type "dict" ≠ Value.type "tuple"; decide)) hq) (.inr hu) h
theorem e_list_d {items : Array Value} (hl : IsD s l) (hk : s.heap.IsList k items) (hu : A.units < cLine) : EqAt A s (.ref k) (.ref l) false := by
  have z := r_list_d hl hk hu
  obtain ⟨dd, es, n, sl, ho⟩ := hl
  obtain ⟨⟨c2, dk, data2, sk⟩, ho2, hc2, m, hd2⟩ := id hk
  simp only at hc2 hd2
  subst hc2 hd2
  have hne : l ≠ k := fun z => by rw [z, ho2] at ho; injection ho with ho; injection ho with ho; injection ho with ho; exact absurd ho (by decide)
  exact EqAt.of_refs (Ne.symm hne) z
theorem r_d_tuple {items : Array Value} (hl : IsD s l) (hk : s.heap.IsTuple k items) (hu : A.units < cLine) : RcAt A s (.ref l) (.ref k) false := by
  obtain ⟨dd, es, n, sl, ho⟩ := hl
  obtain ⟨⟨c2, dk, data2, sk⟩, ho2, hc2, m, hd2⟩ := id hk
  simp only at hc2 hd2
  subst hc2 hd2
  have hne : l ≠ k := fun z => by rw [z, ho2] at ho; injection ho with ho; injection ho with ho; injection ho with ho; exact absurd ho (by decide)
  exact fun prog w E Q h => rc_eq_decline_or (k := false) ⟨_, ho, rfl⟩ ⟨_, ho2, rfl⟩ (by decide) F.sub_tuple_dict F.slot_dict_eq F.slot_tuple_eq_refl (fun _ hq => call_meets F.slot_dict_eq ⟨_, ho, rfl⟩ F.entry_dict_eq (F.args_dict_eq_2 _ _) (d_tuple l k es n m dd dk sl sk items) ⟨ho, ho2, hq⟩) (fun _ hq => call_meets F.slot_tuple_eq_refl ⟨_, ho2, rfl⟩ F.entry_tuple_eq (F.args_tuple_eq_2 _ _) (tuple_d l k es n m dd dk sl sk items) ⟨ho2, ho, hq⟩) (fun _ hq => same_refs hne ho ho2 (.inl (by show Value.type "dict" ≠ Value.type "tuple"; decide)) hq) (.inr hu) h
theorem e_d_tuple {items : Array Value} (hl : IsD s l) (hk : s.heap.IsTuple k items) (hu : A.units < cLine) : EqAt A s (.ref l) (.ref k) false := by
  have z := r_d_tuple hl hk hu
  obtain ⟨dd, es, n, sl, ho⟩ := hl
  obtain ⟨⟨c2, dk, data2, sk⟩, ho2, hc2, m, hd2⟩ := id hk
  simp only at hc2 hd2
  subst hc2 hd2
  have hne : l ≠ k := fun z => by rw [z, ho2] at ho; injection ho with ho; injection ho with ho; injection ho with ho; exact absurd ho (by decide)
  exact EqAt.of_refs hne z
theorem r_tuple_d {items : Array Value} (hl : IsD s l) (hk : s.heap.IsTuple k items) (hu : A.units < cLine) : RcAt A s (.ref k) (.ref l) false := by
  obtain ⟨dd, es, n, sl, ho⟩ := hl
  obtain ⟨⟨c2, dk, data2, sk⟩, ho2, hc2, m, hd2⟩ := id hk
  simp only at hc2 hd2
  subst hc2 hd2
  have hne : l ≠ k := fun z => by rw [z, ho2] at ho; injection ho with ho; injection ho with ho; injection ho with ho; exact absurd ho (by decide)
  exact fun prog w E Q h => rc_eq_decline_or (k := false) ⟨_, ho2, rfl⟩ ⟨_, ho, rfl⟩ (by decide) F.sub_dict_tuple F.slot_tuple_eq F.slot_dict_eq_refl (fun _ hq => call_meets F.slot_tuple_eq ⟨_, ho2, rfl⟩ F.entry_tuple_eq (F.args_tuple_eq_2 _ _) (tuple_d l k es n m dd dk sl sk items) ⟨ho2, ho, hq⟩) (fun _ hq => call_meets F.slot_dict_eq_refl ⟨_, ho, rfl⟩ F.entry_dict_eq (F.args_dict_eq_2 _ _) (d_tuple l k es n m dd dk sl sk items) ⟨ho, ho2, hq⟩) (fun _ hq => same_refs (Ne.symm hne) ho2 ho (.inr (by show Value.type "dict" ≠ Value.type "tuple"; decide)) hq) (.inr hu) h
theorem e_tuple_d {items : Array Value} (hl : IsD s l) (hk : s.heap.IsTuple k items) (hu : A.units < cLine) : EqAt A s (.ref k) (.ref l) false := by
  have z := r_tuple_d hl hk hu
  obtain ⟨dd, es, n, sl, ho⟩ := hl
  obtain ⟨⟨c2, dk, data2, sk⟩, ho2, hc2, m, hd2⟩ := id hk
  simp only at hc2 hd2
  subst hc2 hd2
  have hne : l ≠ k := fun z => by rw [z, ho2] at ho; injection ho with ho; injection ho with ho; injection ho with ho; exact absurd ho (by decide)
  exact EqAt.of_refs (Ne.symm hne) z
end
end DLQ
end PySem
set_option maxHeartbeats 2000000
/-! == of data with empty dicts in one side. -/
namespace PySem
namespace DLQ
open SeqAt MeetsSeq
mutual
def okX : PyData → Bool
  | .none | .bool _ | .int _ => true
  | .str x => PyData.strOk x
  | .list xs | .tuple xs => okXs xs
  | .dict [] => true
  | .dict _ => false
def okXs : List PyData → Bool
  | [] => true
  | x :: xs => okX x && okXs xs
end
theorem min_swap {u a b : Nat} (h : u + min a b < cLine) : u + min b a < cLine := by rw [Nat.min_comm]; exact h
theorem isD_of {s : Shared} {a : Addr} {o : Obj} {es : Array DictEntry} {n : Nat} (h1 : s.heap.get? a = some o) (h2 : o.cls = .type "dict") (h3 : o.data = .dict es n) : IsD s a := by
  obtain ⟨c, d, dt, sl⟩ := o
  dsimp only at h2 h3
  subst h2 h3
  exact ⟨d, es, n, sl, h1⟩
mutual
theorem eqX : ∀ (da db : PyData) (A : Around) (s : Shared) (a b : Value) (as bs : List Addr), Reads s.heap a da as → Reads s.heap b db bs → okX da = true → db.canLay0 = true → A.units + min da.depth db.depth < cLine → EqAt A s a b (PyData.eqv da db) ∧ EqAt A s b a (PyData.eqv db da)
  | .none, db, A, s, a, b, as, bs, ra, rb, _, hb, hu => ⟨eqAt_reads _ _ A s _ _ _ _ ra rb rfl hb hu, eqAt_reads _ _ A s _ _ _ _ rb ra hb rfl (min_swap hu)⟩
  | .bool x, db, A, s, a, b, as, bs, ra, rb, _, hb, hu => ⟨eqAt_reads _ _ A s _ _ _ _ ra rb rfl hb hu, eqAt_reads _ _ A s _ _ _ _ rb ra hb rfl (min_swap hu)⟩
  | .int x, db, A, s, a, b, as, bs, ra, rb, _, hb, hu => ⟨eqAt_reads _ _ A s _ _ _ _ ra rb rfl hb hu, eqAt_reads _ _ A s _ _ _ _ rb ra hb rfl (min_swap hu)⟩
  | .str x, db, A, s, a, b, as, bs, ra, rb, ha, hb, hu =>
    have hx : (PyData.str x).canLay0 = true := by simpa [okX, PyData.canLay0] using ha
    ⟨eqAt_reads _ _ A s _ _ _ _ ra rb hx hb hu, eqAt_reads _ _ A s _ _ _ _ rb ra hb hx (min_swap hu)⟩
  | .dict kvs, db, A, s, a, b, as, bs, ra, rb, ha, hb, hu => by
    have hr := room_here hu
    cases ra with
    | dict h1 h2 h3 h4 h5 =>
      have hd := isD_of h1 h2 h3
      cases rb with
      | none => exact ⟨e_d_none hd hr, e_none_d hd hr⟩
      | bool y => exact ⟨e_d_bool y hd hr, e_bool_d y hd hr⟩
      | int y u => exact ⟨e_d_int y u hd hr, e_int_d y u hd hr⟩
      | str y u => exact ⟨e_d_str y u hd hr, e_str_d y u hd hr⟩
      | list k1 k2 k3 k4 => exact ⟨e_d_list hd ⟨_, k1, k2, _, k3⟩ hr, e_list_d hd ⟨_, k1, k2, _, k3⟩ hr⟩
      | tuple k1 k2 k3 k4 => exact ⟨e_d_tuple hd ⟨_, k1, k2, _, k3⟩ hr, e_tuple_d hd ⟨_, k1, k2, _, k3⟩ hr⟩
      | dict => exact nomatch hb
  | .list xs, db, A, s, a, b, as, bs, ra, rb, ha, hb, hu => by
    by_cases hc : (PyData.list xs).canLay0 = true
    · exact ⟨eqAt_reads _ _ A s _ _ _ _ ra rb hc hb hu, eqAt_reads _ _ A s _ _ _ _ rb ra hb hc (min_swap hu)⟩
    have hr := room_here hu
    cases ra with
    | @list l o vs n _ as1 h1 h2 h3 h4 =>
      have hl : s.heap.IsList l vs := ⟨_, h1, h2, _, h3⟩
      cases rb with
      | none => exact ⟨EqAt.list_none hl hr, EqAt.none_list hl hr⟩
      | bool y => exact ⟨EqAt.list_bool y hl hr, EqAt.bool_list y hl hr⟩
      | int y u => exact ⟨EqAt.list_int y u hl hr, EqAt.int_list y u hl hr⟩
      | str y u => exact ⟨EqAt.list_str y u hl hr, EqAt.str_list y u hl hr⟩
      | tuple k1 k2 k3 k4 => exact ⟨EqAt.list_tuple hl ⟨_, k1, k2, _, k3⟩ hr, EqAt.tuple_list ⟨_, k1, k2, _, k3⟩ hl hr⟩
      | dict => exact nomatch hb
      | @list l' o' vs' n' ys bs1 k1 k2 k3 k4 =>
        have hl' : s.heap.IsList l' vs' := ⟨_, k1, k2, _, k3⟩
        have n1 : vs.size = xs.length := by simpa using ReadsAll.length _ _ _ h4
        have n2 : vs'.size = ys.length := by simpa using ReadsAll.length _ _ _ k4
        have hne : l ≠ l' := fun z => by
          subst z
          have e := SeqAt.Reads.unique (PyData.list ys) (PyData.list xs) _ _ _ hb (.list k1 k2 k3 k4) (.list h1 h2 h3 h4)
          rw [← e] at hc
          exact hc hb
        show EqAt A s (.ref l) (.ref l') (PyData.eqvAll xs ys) ∧ EqAt A s (.ref l') (.ref l) (PyData.eqvAll ys xs)
        by_cases hsz : vs.size = vs'.size
        · have it := eqXs xs ys A.in1 s vs.toList vs'.toList _ _ h4 k4 ha hb (room_in hu)
          rw [← eqvAll_same_length (by omega : xs.length = ys.length), ← eqvAll_same_length (by omega : ys.length = xs.length), ← n1, ← n2]
          exact ⟨EqAt.of_refs hne (RcAt.lists hl hl' hsz hr fun j j1 j2 => by
              have z := (it j (by simpa using j1) (by simpa using j2)).1
              simpa using z),
            EqAt.of_refs (Ne.symm hne) (RcAt.lists hl' hl hsz.symm hr fun j j1 j2 => by
              have z := (it j (by simpa using j2) (by simpa using j1)).2
              simpa using z)⟩
        · rw [eqvAll_other_length (by omega : xs.length ≠ ys.length), eqvAll_other_length (by omega : ys.length ≠ xs.length)]
          exact ⟨EqAt.of_refs hne (RcAt.lists_lengths hl hl' (by simpa using hsz) hr), EqAt.of_refs (Ne.symm hne) (RcAt.lists_lengths hl' hl (by simpa using Ne.symm hsz) hr)⟩
  | .tuple xs, db, A, s, a, b, as, bs, ra, rb, ha, hb, hu => by
    by_cases hc : (PyData.tuple xs).canLay0 = true
    · exact ⟨eqAt_reads _ _ A s _ _ _ _ ra rb hc hb hu, eqAt_reads _ _ A s _ _ _ _ rb ra hb hc (min_swap hu)⟩
    have hr := room_here hu
    cases ra with
    | @tuple l o vs n _ as1 h1 h2 h3 h4 =>
      have hl : s.heap.IsTuple l vs := ⟨_, h1, h2, _, h3⟩
      cases rb with
      | none => exact ⟨EqAt.tuple_none hl hr, EqAt.none_tuple hl hr⟩
      | bool y => exact ⟨EqAt.tuple_bool y hl hr, EqAt.bool_tuple y hl hr⟩
      | int y u => exact ⟨EqAt.tuple_int y u hl hr, EqAt.int_tuple y u hl hr⟩
      | str y u => exact ⟨EqAt.tuple_str y u hl hr, EqAt.str_tuple y u hl hr⟩
      | list k1 k2 k3 k4 => exact ⟨EqAt.tuple_list hl ⟨_, k1, k2, _, k3⟩ hr, EqAt.list_tuple ⟨_, k1, k2, _, k3⟩ hl hr⟩
      | dict => exact nomatch hb
      | @tuple l' o' vs' n' ys bs1 k1 k2 k3 k4 =>
        have hl' : s.heap.IsTuple l' vs' := ⟨_, k1, k2, _, k3⟩
        have n1 : vs.size = xs.length := by simpa using ReadsAll.length _ _ _ h4
        have n2 : vs'.size = ys.length := by simpa using ReadsAll.length _ _ _ k4
        have hne : l ≠ l' := fun z => by
          subst z
          have e := SeqAt.Reads.unique (PyData.tuple ys) (PyData.tuple xs) _ _ _ hb (.tuple k1 k2 k3 k4) (.tuple h1 h2 h3 h4)
          rw [← e] at hc
          exact hc hb
        show EqAt A s (.ref l) (.ref l') (PyData.eqvAll xs ys) ∧ EqAt A s (.ref l') (.ref l) (PyData.eqvAll ys xs)
        have it := eqXs xs ys A.in1 s vs.toList vs'.toList _ _ h4 k4 ha hb (room_in hu)
        rw [← eqvAll_eq xs ys, ← eqvAll_eq ys xs, ← n1, ← n2]
        exact ⟨EqAt.of_refs hne (RcAt.tuples hl hl' hr fun j j1 j2 => by
              have z := (it j (by simpa using j1) (by simpa using j2)).1
              simpa using z),
          EqAt.of_refs (Ne.symm hne) (RcAt.tuples hl' hl hr fun j j1 j2 => by
              have z := (it j (by simpa using j2) (by simpa using j1)).2
              simpa using z)⟩
theorem eqXs : ∀ (xs ys : List PyData) (A : Around) (s : Shared) (vs ws : List Value) (as bs : List Addr), ReadsAll s.heap vs xs as → ReadsAll s.heap ws ys bs → okXs xs = true → PyData.canLayAll0 ys = true → A.units + min (PyData.depthAll xs) (PyData.depthAll ys) < cLine →
    ∀ j (h1 : j < vs.length) (h2 : j < ws.length), EqAt A s vs[j] ws[j] (pairEq xs ys j) ∧ EqAt A s ws[j] vs[j] (pairEq ys xs j)
  | [], _, _, _, _, _, _, _, ra, _, _, _, _, j, h1, _ => by cases ra; exact absurd h1 (Nat.not_lt_zero _)
  | _ :: _, [], _, _, _, _, _, _, _, rb, _, _, _, j, _, h2 => by cases rb; exact absurd h2 (Nat.not_lt_zero _)
  | x :: xs, y :: ys, A, s, _, _, _, _, ra, rb, ha, hb, hu, j, h1, h2 => by
    have ha' : okX x = true ∧ okXs xs = true := by simpa [okXs] using ha
    have hb' : y.canLay0 = true ∧ PyData.canLayAll0 ys = true := by simpa [PyData.canLayAll0] using hb
    cases ra with
    | cons r rs =>
    cases rb with
    | cons r' rs' =>
    cases j with
    | zero => exact eqX x y A s _ _ _ _ r r' ha'.1 hb'.1 (room_head hu)
    | succ j => exact eqXs xs ys A s _ _ _ _ rs rs' ha'.2 hb'.2 (room_tail hu) j (Nat.lt_of_succ_lt_succ h1) (Nat.lt_of_succ_lt_succ h2)
end
end DLQ
end PySem
namespace DL
open PySem L2
/-! ### what is wanted of data functions, from the left -/
def WE (f : EvE) (S : Sg) (P : D → List Cell → Prop) : Prop := ∃ d μ', f S = some (d, μ') ∧ P d μ'
def WT (f : EvT) (S : Sg) (P : Bool → List Cell → Prop) : Prop := ∃ b μ', f S = some (b, μ') ∧ P b μ'
def WA (f : EvA) (S : Sg) (P : List D → List Cell → Prop) : Prop := ∃ ds μ', f S = some (ds, μ') ∧ P ds μ'
def WS (g : EvS) (S : Sg) (P : Fl → Sg → Prop) : Prop := ∃ fl S', g S = some (fl, S') ∧ P fl S'
def WB (b : Bd) (d : D) (S : Sg) (P : Sg → Prop) : Prop := ∃ S', b d S = some S' ∧ P S'
def WBs (b : Bds) (d : List D) (S : Sg) (P : Sg → Prop) : Prop := ∃ S', b d S = some S' ∧ P S'
def W2 (g : D → D → List Cell → Option D) (x y : D) (μ : List Cell) (P : D → Prop) : Prop := ∃ z, g x y μ = some z ∧ P z
def W1 (g : D → List Cell → Option D) (x : D) (μ : List Cell) (P : D → Prop) : Prop := ∃ z, g x μ = some z ∧ P z
def WL (g : List D → List Cell → Option D) (x : List D) (μ : List Cell) (P : D → Prop) : Prop := ∃ z, g x μ = some z ∧ P z
def WF (F : FnF) (ds : List D) (μ : List Cell) (P : D → List Cell → Prop) : Prop := ∃ d μ', F ds μ = some (.v d, μ') ∧ P d μ'
/-- .. of any end -/
def WFX (F : FnF) (ds : List D) (μ : List Cell) (P : Ov → List Cell → Prop) : Prop := ∃ o μ', F ds μ = some (o, μ') ∧ P o μ'
def WEX (f : EvX) (S : Sg) (P : Ov → List Cell → Prop) : Prop := ∃ o μ', f S = some (o, μ') ∧ P o μ'
def WI (f : EvI) (S : Sg) (P : List D → List Cell → Prop) : Prop := ∃ ds μ', f S = some (ds, μ') ∧ P ds μ'
def WTr (d : D) (μ : List Cell) (P : Bool → Prop) : Prop := ∃ b, dTru d μ = some b ∧ P b
section
variable {S : Sg} {P : D → List Cell → Prop} {Q : Bool → List Cell → Prop} {R : List D → List Cell → Prop} {U : Fl → Sg → Prop} {V : D → Prop} {B : Sg → Prop} {fa fb fc : EvE} {fs : EvA} {t u : EvT} {g g' : EvS} {b : Bd} {bs : Bds} {μ : List Cell} {ρ : List (Option D)} {d x y : D} {ds : List D} {i j k : Nat}
theorem W1.of {f : D → List Cell → Option D} {z : D} (e : f x μ = some z) (p : V z) : W1 f x μ V := ⟨z, e, p⟩
theorem WF.mono {F : FnF} {P' : D → List Cell → Prop} (h : WF F ds μ P) (q : ∀ d μ', P d μ' → P' d μ') : WF F ds μ P' := let ⟨d, μ', e, p⟩ := h; ⟨d, μ', e, q d μ' p⟩
theorem WS.mono {U' : Fl → Sg → Prop} (h : WS g S U) (q : ∀ d μ', U d μ' → U' d μ') : WS g S U' := let ⟨d, μ', e, p⟩ := h; ⟨d, μ', e, q d μ' p⟩
theorem we_V : WE (fV i) ⟨ρ, μ⟩ P ↔ ∃ d, ρ[i]? = some (some d) ∧ P d μ := by
  constructor
  · rintro ⟨d, μ', e, p⟩
    unfold fV at e
    split at e
    · rename_i d' he
      obtain ⟨rfl, rfl⟩ := pr_inj e
      exact ⟨d', he, p⟩
    · cases e
  · rintro ⟨d, e, p⟩
    have e' : (⟨ρ, μ⟩ : Sg).ρ[i]? = some (some d) := e
    exact ⟨d, μ, by unfold fV; rw [e'], p⟩
theorem we_C : WE (fC d) ⟨ρ, μ⟩ P ↔ P d μ := ⟨fun ⟨d', μ', e, p⟩ => by obtain ⟨rfl, rfl⟩ := pr_inj e; exact p, fun p => ⟨d, μ, rfl, p⟩⟩
theorem we_B {f : D → D → List Cell → Option D} : WE (fB f fa fb) ⟨ρ, μ⟩ P ↔ WE fa ⟨ρ, μ⟩ fun x μ1 => WE fb ⟨ρ, μ1⟩ fun y μ2 => W2 f x y μ2 fun z => P z μ2 := by
  constructor
  · rintro ⟨d, μ', e, p⟩
    obtain ⟨x, μ1, y, ea, eb, ez⟩ := fB_out e
    exact ⟨x, μ1, ea, y, μ', eb, d, ez, p⟩
  · rintro ⟨x, μ1, ea, y, μ2, eb, z, ez, p⟩
    exact ⟨z, μ2, by unfold fB; rw [ea]; simp only; rw [eb]; simp only; rw [ez], p⟩
theorem we_U {f : D → List Cell → Option D} : WE (fU f fa) ⟨ρ, μ⟩ P ↔ WE fa ⟨ρ, μ⟩ fun x μ1 => W1 f x μ1 fun z => P z μ1 := by
  constructor
  · rintro ⟨d, μ', e, p⟩
    obtain ⟨x, ea, ez⟩ := fU_out e
    exact ⟨x, μ', ea, d, ez, p⟩
  · rintro ⟨x, μ1, ea, z, ez, p⟩
    exact ⟨z, μ1, by unfold fU; rw [ea]; simp only; rw [ez], p⟩
theorem we_App {f : List D → List Cell → Option D} : WE (fApp f fs) ⟨ρ, μ⟩ P ↔ WA fs ⟨ρ, μ⟩ fun xs μ1 => WL f xs μ1 fun z => P z μ1 := by
  constructor
  · rintro ⟨d, μ', e, p⟩
    obtain ⟨x, ea, ez⟩ := fApp_out e
    exact ⟨x, μ', ea, d, ez, p⟩
  · rintro ⟨x, μ1, ea, z, ez, p⟩
    exact ⟨z, μ1, by unfold fApp; rw [ea]; simp only; rw [ez], p⟩
theorem wa_nil : WA fNil ⟨ρ, μ⟩ R ↔ R [] μ := ⟨fun ⟨d', μ', e, p⟩ => by obtain ⟨rfl, rfl⟩ := pr_inj e; exact p, fun p => ⟨[], μ, rfl, p⟩⟩
theorem wa_cons : WA (fCons fa fs) ⟨ρ, μ⟩ R ↔ WE fa ⟨ρ, μ⟩ fun x μ1 => WA fs ⟨ρ, μ1⟩ fun xs μ2 => R (x :: xs) μ2 := by
  constructor
  · rintro ⟨d, μ', e, p⟩
    unfold fCons at e
    split at e
    · rename_i x μ1 ea
      split at e
      · rename_i xs μ2 eb
        obtain ⟨rfl, rfl⟩ := pr_inj e
        exact ⟨x, μ1, ea, xs, μ2, eb, p⟩
      · cases e
    · cases e
  · rintro ⟨x, μ1, ea, xs, μ2, eb, p⟩
    exact ⟨x :: xs, μ2, by unfold fCons; rw [ea]; simp only; rw [eb], p⟩
theorem wl_1 {f : D → List Cell → Option D} : WL (g1 f) [x] μ V ↔ W1 f x μ V := Iff.rfl
theorem wl_2 {f : D → D → List Cell → Option D} : WL (g2 f) [x, y] μ V ↔ W2 f x y μ V := Iff.rfl
theorem wl_lst : WL gLst ds μ V ↔ ds.length ≤ sizeLine ∧ V (.lst ds) := by
  constructor
  · rintro ⟨z, e, p⟩
    unfold gLst at e
    split at e
    · rename_i h; cases e; exact ⟨h, p⟩
    · cases e
  · rintro ⟨h, p⟩
    exact ⟨_, by unfold gLst; rw [if_pos h], p⟩
theorem wl_tup : WL gTup ds μ V ↔ ds.length ≤ sizeLine ∧ V (.tup ds) := by
  constructor
  · rintro ⟨z, e, p⟩
    unfold gTup at e
    split at e
    · rename_i h; cases e; exact ⟨h, p⟩
    · cases e
  · rintro ⟨h, p⟩
    exact ⟨_, by unfold gTup; rw [if_pos h], p⟩
theorem we_newC : WE (fNewC fs) ⟨ρ, μ⟩ P ↔ WA fs ⟨ρ, μ⟩ fun xs μ1 => xs.length ≤ sizeLine ∧ P (.h μ1.length) (μ1 ++ [.lst xs]) := by
  constructor
  · rintro ⟨d, μ', e, p⟩
    unfold fNewC at e
    split at e
    · rename_i xs μ1 ea
      split at e
      · rename_i h
        obtain ⟨rfl, rfl⟩ := pr_inj e
        exact ⟨xs, μ1, ea, h, p⟩
      · cases e
    · cases e
  · rintro ⟨xs, μ1, ea, h, p⟩
    exact ⟨_, _, by unfold fNewC; rw [ea]; simp only; rw [if_pos h], p⟩
theorem we_call {F : FnF} : WE (fCall F fs) ⟨ρ, μ⟩ P ↔ WA fs ⟨ρ, μ⟩ fun ds μ1 => WF F ds μ1 P := by
  constructor
  · rintro ⟨d, μ', e, p⟩
    have e := fNox_out e
    unfold fCallX at e
    split at e
    · rename_i ds μ1 ea
      exact ⟨ds, μ1, ea, d, μ', e, p⟩
    · cases e
  · rintro ⟨ds, μ1, ea, d, μ', e, p⟩
    exact ⟨d, μ', by unfold fCall fNox fCallX; rw [ea]; simp only; rw [e], p⟩
theorem wx_call {F : FnF} {Y : Ov → List Cell → Prop} : WEX (fCallX F fs) ⟨ρ, μ⟩ Y ↔ WA fs ⟨ρ, μ⟩ fun ds μ1 => WFX F ds μ1 Y := by
  constructor
  · rintro ⟨d, μ', e, p⟩
    unfold fCallX at e
    split at e
    · rename_i ds μ1 ea
      exact ⟨ds, μ1, ea, d, μ', e, p⟩
    · cases e
  · rintro ⟨ds, μ1, ea, d, μ', e, p⟩
    exact ⟨d, μ', by unfold fCallX; rw [ea]; exact e, p⟩
theorem wf_x {F : FnF} : WF F ds μ P ↔ WFX F ds μ fun o μ' => match o with
    | .v d => P d μ'
    | .x _ _ => False := by
  constructor
  · rintro ⟨d, μ', e, p⟩
    exact ⟨.v d, μ', e, p⟩
  · rintro ⟨o, μ', e, p⟩
    cases o with
    | v d => exact ⟨d, μ', e, p⟩
    | x n q => exact p.elim
theorem we_nox {fx : EvX} : WE (fNox fx) S P ↔ WEX fx S fun o μ' => match o with
    | .v d => P d μ'
    | .x _ _ => False := by
  constructor
  · rintro ⟨d, μ', e, p⟩
    exact ⟨.v d, μ', fNox_out e, p⟩
  · rintro ⟨o, μ', e, p⟩
    cases o with
    | v d => exact ⟨d, μ', by unfold fNox; rw [e], p⟩
    | x n q => exact p.elim
theorem wa_len {n : Nat} : WA (fLen n fs) ⟨ρ, μ⟩ R ↔ WA fs ⟨ρ, μ⟩ fun ds μ1 => ds.length = n ∧ R ds μ1 := by
  constructor
  · rintro ⟨d, μ', e, p⟩
    unfold fLen at e
    split at e
    · rename_i ds μ1 ea
      split at e
      · rename_i h
        obtain ⟨rfl, rfl⟩ := pr_inj e
        exact ⟨ds, μ1, ea, h, p⟩
      · cases e
    · cases e
  · rintro ⟨ds, μ1, ea, h, p⟩
    exact ⟨_, _, by unfold fLen; rw [ea]; simp only; rw [if_pos h], p⟩
/-! tests -/
theorem wt_Tru : WT (fTru fa) ⟨ρ, μ⟩ Q ↔ WE fa ⟨ρ, μ⟩ fun x μ1 => WTr x μ1 fun k => Q k μ1 := by
  constructor
  · rintro ⟨d, μ', e, p⟩
    unfold fTru at e
    split at e
    · rename_i x μ1 ea
      split at e
      · rename_i k ek
        obtain ⟨rfl, rfl⟩ := pr_inj e
        exact ⟨x, μ1, ea, k, ek, p⟩
      · cases e
    · cases e
  · rintro ⟨x, μ1, ea, k, ek, p⟩
    exact ⟨k, μ1, by unfold fTru; rw [ea]; simp only; rw [ek], p⟩
theorem wt_Not : WT (fNot t) ⟨ρ, μ⟩ Q ↔ WT t ⟨ρ, μ⟩ fun k μ1 => Q (!k) μ1 := by
  constructor
  · rintro ⟨d, μ', e, p⟩
    unfold fNot at e
    split at e
    · rename_i k μ1 ea
      obtain ⟨rfl, rfl⟩ := pr_inj e
      exact ⟨k, μ1, ea, p⟩
    · cases e
  · rintro ⟨k, μ1, ea, p⟩
    exact ⟨!k, μ1, by unfold fNot; rw [ea], p⟩
theorem wt_And : WT (fAnd t u) ⟨ρ, μ⟩ Q ↔ WT t ⟨ρ, μ⟩ fun k μ1 => if k = true then WT u ⟨ρ, μ1⟩ Q else Q false μ1 := by
  constructor
  · rintro ⟨d, μ', e, p⟩
    unfold fAnd at e
    split at e
    · rename_i μ1 ea; exact ⟨true, μ1, ea, iteT ⟨d, μ', e, p⟩⟩
    · rename_i μ1 ea
      obtain ⟨rfl, rfl⟩ := pr_inj e
      exact ⟨false, μ1, ea, iteF p⟩
    · cases e
  · rintro ⟨k, μ1, ea, p⟩
    cases k with
    | true =>
      obtain ⟨d, μ', e, p⟩ := (if_pos rfl : (if true = true then WT u ⟨ρ, μ1⟩ Q else Q false μ1) = _) ▸ p
      exact ⟨d, μ', by unfold fAnd; rw [ea]; exact e, p⟩
    | false => exact ⟨false, μ1, by unfold fAnd; rw [ea], by simpa using p⟩
theorem wt_Or : WT (fOr t u) ⟨ρ, μ⟩ Q ↔ WT t ⟨ρ, μ⟩ fun k μ1 => if k = true then Q true μ1 else WT u ⟨ρ, μ1⟩ Q := by
  constructor
  · rintro ⟨d, μ', e, p⟩
    unfold fOr at e
    split at e
    · rename_i μ1 ea
      obtain ⟨rfl, rfl⟩ := pr_inj e
      exact ⟨true, μ1, ea, iteT p⟩
    · rename_i μ1 ea; exact ⟨false, μ1, ea, iteF ⟨d, μ', e, p⟩⟩
    · cases e
  · rintro ⟨k, μ1, ea, p⟩
    cases k with
    | true => exact ⟨true, μ1, by unfold fOr; rw [ea], by simpa using p⟩
    | false =>
      obtain ⟨d, μ', e, p⟩ := (if_neg Bool.false_ne_true : (if false = true then Q true μ1 else WT u ⟨ρ, μ1⟩ Q) = _) ▸ p
      exact ⟨d, μ', by unfold fOr; rw [ea]; exact e, p⟩
theorem wt_true : WT (fun S => some (true, S.μ)) ⟨ρ, μ⟩ Q ↔ Q true μ := ⟨fun ⟨d', μ', e, p⟩ => by obtain ⟨rfl, rfl⟩ := pr_inj e; exact p, fun p => ⟨true, μ, rfl, p⟩⟩
theorem we_AndV : WE (fAndV fa fb) ⟨ρ, μ⟩ P ↔ WE fa ⟨ρ, μ⟩ fun x μ1 => WTr x μ1 fun k => if k = true then WE fb ⟨ρ, μ1⟩ P else P x μ1 := by
  constructor
  · rintro ⟨d, μ', e, p⟩
    unfold fAndV at e
    split at e
    · rename_i x μ1 ea
      split at e
      · rename_i ek; exact ⟨x, μ1, ea, true, ek, iteT ⟨d, μ', e, p⟩⟩
      · rename_i ek
        obtain ⟨rfl, rfl⟩ := pr_inj e
        exact ⟨x, μ1, ea, false, ek, iteF p⟩
      · cases e
    · cases e
  · rintro ⟨x, μ1, ea, k, ek, p⟩
    cases k with
    | true =>
      obtain ⟨d, μ', e, p⟩ := (if_pos rfl : (if true = true then WE fb ⟨ρ, μ1⟩ P else P x μ1) = _) ▸ p
      exact ⟨d, μ', by unfold fAndV; rw [ea]; simp only; rw [ek]; exact e, p⟩
    | false => exact ⟨x, μ1, by unfold fAndV; rw [ea]; simp only; rw [ek], by simpa using p⟩
theorem we_OrV : WE (fOrV fa fb) ⟨ρ, μ⟩ P ↔ WE fa ⟨ρ, μ⟩ fun x μ1 => WTr x μ1 fun k => if k = true then P x μ1 else WE fb ⟨ρ, μ1⟩ P := by
  constructor
  · rintro ⟨d, μ', e, p⟩
    unfold fOrV at e
    split at e
    · rename_i x μ1 ea
      split at e
      · rename_i ek
        obtain ⟨rfl, rfl⟩ := pr_inj e
        exact ⟨x, μ1, ea, true, ek, iteT p⟩
      · rename_i ek; exact ⟨x, μ1, ea, false, ek, iteF ⟨d, μ', e, p⟩⟩
      · cases e
    · cases e
  · rintro ⟨x, μ1, ea, k, ek, p⟩
    cases k with
    | true => exact ⟨x, μ1, by unfold fOrV; rw [ea]; simp only; rw [ek], by simpa using p⟩
    | false =>
      obtain ⟨d, μ', e, p⟩ := (if_neg Bool.false_ne_true : (if false = true then P x μ1 else WE fb ⟨ρ, μ1⟩ P) = _) ▸ p
      exact ⟨d, μ', by unfold fOrV; rw [ea]; simp only; rw [ek]; exact e, p⟩
theorem we_IfE : WE (fIfE t fa fb) ⟨ρ, μ⟩ P ↔ WT t ⟨ρ, μ⟩ fun k μ1 => if k = true then WE fa ⟨ρ, μ1⟩ P else WE fb ⟨ρ, μ1⟩ P := by
  constructor
  · rintro ⟨d, μ', e, p⟩
    unfold fIfE at e
    split at e
    · rename_i μ1 ea; exact ⟨true, μ1, ea, iteT ⟨d, μ', e, p⟩⟩
    · rename_i μ1 ea; exact ⟨false, μ1, ea, iteF ⟨d, μ', e, p⟩⟩
    · cases e
  · rintro ⟨k, μ1, ea, p⟩
    cases k with
    | true =>
      obtain ⟨d, μ', e, p⟩ := (if_pos rfl : (if true = true then WE fa ⟨ρ, μ1⟩ P else WE fb ⟨ρ, μ1⟩ P) = _) ▸ p
      exact ⟨d, μ', by unfold fIfE; rw [ea]; exact e, p⟩
    | false =>
      obtain ⟨d, μ', e, p⟩ := (if_neg Bool.false_ne_true : (if false = true then WE fa ⟨ρ, μ1⟩ P else WE fb ⟨ρ, μ1⟩ P) = _) ▸ p
      exact ⟨d, μ', by unfold fIfE; rw [ea]; exact e, p⟩
theorem we_Ch {f f' : D → D → List Cell → Option D} : WE (fCh f f' fa fb fc) ⟨ρ, μ⟩ P ↔ WE fa ⟨ρ, μ⟩ fun x μ1 => WE fb ⟨ρ, μ1⟩ fun y μ2 => W2 f x y μ2 fun z => (z = .bl true ∧ WE fc ⟨ρ, μ2⟩ fun w μ3 => W2 f' y w μ3 fun z => P z μ3) ∨ (z = .bl false ∧ P (.bl false) μ2) := by
  constructor
  · rintro ⟨d, μ', e, p⟩
    unfold fCh at e
    split at e
    · rename_i x μ1 ea
      split at e
      · rename_i y μ2 eb
        split at e
        · rename_i ez
          split at e
          · rename_i w μ3 ec
            split at e
            · rename_i z ew
              obtain ⟨rfl, rfl⟩ := pr_inj e
              exact ⟨x, μ1, ea, y, μ2, eb, _, ez, .inl ⟨rfl, w, μ3, ec, z, ew, p⟩⟩
            · cases e
          · cases e
        · rename_i ez
          obtain ⟨rfl, rfl⟩ := pr_inj e
          exact ⟨x, μ1, ea, y, μ2, eb, _, ez, .inr ⟨rfl, p⟩⟩
        · cases e
      · cases e
    · cases e
  · rintro ⟨x, μ1, ea, y, μ2, eb, z, ez, h⟩
    rcases h with ⟨rfl, w, μ3, ec, z, ew, p⟩ | ⟨rfl, p⟩
    · exact ⟨z, μ3, by unfold fCh; rw [ea]; simp only; rw [eb]; simp only; rw [ez]; simp only; rw [ec]; simp only; rw [ew], p⟩
    · exact ⟨_, μ2, by unfold fCh; rw [ea]; simp only; rw [eb]; simp only; rw [ez], p⟩
/-! statements -/
theorem ws_then : WS (bThen b fa) ⟨ρ, μ⟩ U ↔ WE fa ⟨ρ, μ⟩ fun d μ1 => WB b d ⟨ρ, μ1⟩ fun S' => U .nx S' := by
  constructor
  · rintro ⟨fl, S', e, p⟩
    unfold bThen at e
    split at e
    · rename_i d μ1 ea
      split at e
      · rename_i S1 eb
        obtain ⟨rfl, rfl⟩ := pr_inj e
        exact ⟨d, μ1, ea, S1, eb, p⟩
      · cases e
    · cases e
  · rintro ⟨d, μ1, ea, S1, eb, p⟩
    exact ⟨.nx, S1, by unfold bThen; rw [ea]; simp only; rw [eb], p⟩
theorem wb_name : WB (bName i) d ⟨ρ, μ⟩ B ↔ i < ρ.length ∧ B ⟨ρ.set i (some d), μ⟩ := by
  constructor
  · rintro ⟨S', e, p⟩
    obtain ⟨h, rfl⟩ := bName_out e
    exact ⟨h, p⟩
  · rintro ⟨h, p⟩
    exact ⟨_, by unfold bName; rw [if_pos h], p⟩
theorem wb_sub : WB (bSub fa fb) d ⟨ρ, μ⟩ B ↔ WE fa ⟨ρ, μ⟩ fun o μ1 => WE fb ⟨ρ, μ1⟩ fun i μ2 => ∃ μ3, cSet o i d μ2 = some μ3 ∧ B ⟨ρ, μ3⟩ := by
  constructor
  · rintro ⟨S', e, p⟩
    unfold bSub at e
    split at e
    · rename_i o μ1 ea
      split at e
      · rename_i i μ2 eb
        split at e
        · rename_i μ3 ec
          cases Option.some.inj e
          exact ⟨o, μ1, ea, i, μ2, eb, μ3, ec, p⟩
        · cases e
      · cases e
    · cases e
  · rintro ⟨o, μ1, ea, i, μ2, eb, μ3, ec, p⟩
    exact ⟨_, by unfold bSub; rw [ea]; simp only; rw [eb]; simp only; rw [ec], p⟩
theorem cSet_iff {z : Int} {C : List Cell → Prop} : (∃ μ3, cSet (.h k) (.int z) d μ = some μ3 ∧ C μ3) ↔ ∃ xs n, μ[k]? = some (.lst xs) ∧ ixN xs.length z = some n ∧ C (μ.set k (.lst (xs.set n d))) := by
  constructor
  · rintro ⟨μ3, e, p⟩
    obtain ⟨k', j, xs, n, e1, e2, ex, en, rfl⟩ := cSet_out e
    cases e1
    cases e2
    exact ⟨xs, n, ex, en, p⟩
  · rintro ⟨xs, n, ex, en, p⟩
    exact ⟨_, by unfold cSet; simp only; rw [ex]; simp only; rw [en], p⟩
theorem wb_tup {n : Nat} : WB (bTup n bs) (.tup ds) ⟨ρ, μ⟩ B ↔ ds.length = n ∧ WBs bs ds ⟨ρ, μ⟩ B := by
  constructor
  · rintro ⟨S', e, p⟩
    unfold bTup at e
    simp only at e
    split at e
    · rename_i h; exact ⟨h, S', e, p⟩
    · cases e
  · rintro ⟨h, S', e, p⟩
    exact ⟨S', by unfold bTup; simp only; rw [if_pos h]; exact e, p⟩
theorem wbs_nil : WBs bsNil [] ⟨ρ, μ⟩ B ↔ B ⟨ρ, μ⟩ := ⟨fun ⟨S', e, p⟩ => by cases Option.some.inj e; exact p, fun p => ⟨_, rfl, p⟩⟩
theorem wbs_cons : WBs (bsCons b bs) (d :: ds) S B ↔ WB b d S fun S1 => WBs bs ds S1 B := by
  constructor
  · rintro ⟨S', e, p⟩
    unfold bsCons at e
    simp only at e
    split at e
    · rename_i S1 e1; exact ⟨S1, e1, S', e, p⟩
    · cases e
  · rintro ⟨S1, e1, S', e, p⟩
    exact ⟨S', by unfold bsCons; simp only; rw [e1]; exact e, p⟩
theorem ws_drop : WS (sDrop fa) ⟨ρ, μ⟩ U ↔ WE fa ⟨ρ, μ⟩ fun _ μ1 => U .nx ⟨ρ, μ1⟩ := by
  constructor
  · rintro ⟨fl, S', e, p⟩
    unfold sDrop at e
    split at e
    · rename_i d μ1 ea
      obtain ⟨rfl, rfl⟩ := pr_inj e
      exact ⟨d, μ1, ea, p⟩
    · cases e
  · rintro ⟨d, μ1, ea, p⟩
    exact ⟨_, _, by unfold sDrop; rw [ea], p⟩
theorem ws_nx : WS sNx S U ↔ U .nx S := ⟨fun ⟨fl, S', e, p⟩ => by obtain ⟨rfl, rfl⟩ := pr_inj e; exact p, fun p => ⟨_, _, rfl, p⟩⟩
theorem ws_bk : WS sBk S U ↔ U .bk S := ⟨fun ⟨fl, S', e, p⟩ => by obtain ⟨rfl, rfl⟩ := pr_inj e; exact p, fun p => ⟨_, _, rfl, p⟩⟩
theorem ws_ct : WS sCt S U ↔ U .ct S := ⟨fun ⟨fl, S', e, p⟩ => by obtain ⟨rfl, rfl⟩ := pr_inj e; exact p, fun p => ⟨_, _, rfl, p⟩⟩
theorem ws_ret : WS (sRet fa) ⟨ρ, μ⟩ U ↔ WE fa ⟨ρ, μ⟩ fun d μ1 => U (.rt d) ⟨ρ, μ1⟩ := by
  constructor
  · rintro ⟨fl, S', e, p⟩
    unfold sRet at e
    split at e
    · rename_i d μ1 ea
      obtain ⟨rfl, rfl⟩ := pr_inj e
      exact ⟨d, μ1, ea, p⟩
    · cases e
  · rintro ⟨d, μ1, ea, p⟩
    exact ⟨_, _, by unfold sRet; rw [ea], p⟩
def Ox (U : Fl → Sg → Prop) (k : D → List Cell → Prop) (ρ : List (Option D)) (o : Ov) (μ' : List Cell) : Prop := match o with
  | .v d => k d μ'
  | .x n p => U (.ex n p) ⟨ρ, μ'⟩
theorem Ox_v {k : D → List Cell → Prop} : Ox U k ρ (.v d) μ ↔ k d μ := Iff.rfl
theorem Ox_x {k : D → List Cell → Prop} {n : Str} {p : Option D} : Ox U k ρ (.x n p) μ ↔ U (.ex n p) ⟨ρ, μ⟩ := Iff.rfl
theorem ws_retX {fx : EvX} : WS (sRetX fx) ⟨ρ, μ⟩ U ↔ WEX fx ⟨ρ, μ⟩ (Ox U (fun d μ1 => U (.rt d) ⟨ρ, μ1⟩) ρ) := by
  constructor
  · rintro ⟨fl, S', e, p⟩
    unfold sRetX at e
    split at e
    · rename_i d μ1 ea
      obtain ⟨rfl, rfl⟩ := pr_inj e
      exact ⟨_, _, ea, p⟩
    · rename_i n q μ1 ea
      obtain ⟨rfl, rfl⟩ := pr_inj e
      exact ⟨_, _, ea, p⟩
    · cases e
  · rintro ⟨o, μ1, ea, p⟩
    cases o with
    | v d => exact ⟨_, _, by unfold sRetX; rw [ea], p⟩
    | x n q => exact ⟨_, _, by unfold sRetX; rw [ea], p⟩
theorem ws_dropX {fx : EvX} : WS (sDropX fx) ⟨ρ, μ⟩ U ↔ WEX fx ⟨ρ, μ⟩ (Ox U (fun _ μ1 => U .nx ⟨ρ, μ1⟩) ρ) := by
  constructor
  · rintro ⟨fl, S', e, p⟩
    unfold sDropX at e
    split at e
    · rename_i d μ1 ea
      obtain ⟨rfl, rfl⟩ := pr_inj e
      exact ⟨_, _, ea, p⟩
    · rename_i n q μ1 ea
      obtain ⟨rfl, rfl⟩ := pr_inj e
      exact ⟨_, _, ea, p⟩
    · cases e
  · rintro ⟨o, μ1, ea, p⟩
    cases o with
    | v d => exact ⟨_, _, by unfold sDropX; rw [ea], p⟩
    | x n q => exact ⟨_, _, by unfold sDropX; rw [ea], p⟩
theorem ws_thenX {fx : EvX} : WS (bThenX b fx) ⟨ρ, μ⟩ U ↔ WEX fx ⟨ρ, μ⟩ (Ox U (fun d μ1 => WB b d ⟨ρ, μ1⟩ fun S' => U .nx S') ρ) := by
  constructor
  · rintro ⟨fl, S', e, p⟩
    unfold bThenX at e
    split at e
    · rename_i d μ1 ea
      split at e
      · rename_i S1 eb
        obtain ⟨rfl, rfl⟩ := pr_inj e
        exact ⟨_, _, ea, _, eb, p⟩
      · cases e
    · rename_i n q μ1 ea
      obtain ⟨rfl, rfl⟩ := pr_inj e
      exact ⟨_, _, ea, p⟩
    · cases e
  · rintro ⟨o, μ1, ea, p⟩
    cases o with
    | v d =>
      obtain ⟨S1, eb, p⟩ := p
      exact ⟨_, _, by unfold bThenX; rw [ea]; simp only; rw [eb], p⟩
    | x n q => exact ⟨_, _, by unfold bThenX; rw [ea], p⟩
theorem ws_raise {n : Str} : WS (sRaise n) S U ↔ U (.ex n none) S := ⟨fun ⟨fl, S', e, p⟩ => by obtain ⟨rfl, rfl⟩ := pr_inj e; exact p, fun p => ⟨_, _, rfl, p⟩⟩
theorem ws_try {h : Str → Option Bool} {gs : EvS} (p : WS g S fun fl S1 => match fl with
    | .ex n x => (h n = some true ∧ WS gs S1 fun fl' S' => (∀ n p, fl' ≠ .ex n p) ∧ U fl' S') ∨ (h n = some false ∧ U (.ex n x) S1)
    | fl => U fl S1) : WS (sTry h g gs) S U := by
  obtain ⟨fl, S1, e, q⟩ := p
  cases fl with
  | ex n x =>
    rcases q with ⟨eh, fl', S', e', hn, u⟩ | ⟨eh, u⟩
    · refine ⟨fl', S', ?_, u⟩
      unfold sTry
      rw [e]
      simp only
      rw [eh]
      simp only
      rw [e']
      cases fl' with
      | ex n p => exact (hn n p rfl).elim
      | _ => rfl
    · refine ⟨_, _, ?_, u⟩
      unfold sTry
      rw [e]
      simp only
      rw [eh]
  | _ => exact ⟨_, _, by unfold sTry; rw [e], q⟩
theorem ws_if : WS (sIf t g g') ⟨ρ, μ⟩ U ↔ WT t ⟨ρ, μ⟩ fun k μ1 => if k = true then WS g ⟨ρ, μ1⟩ U else WS g' ⟨ρ, μ1⟩ U := by
  constructor
  · rintro ⟨fl, S', e, p⟩
    unfold sIf at e
    split at e
    · rename_i μ1 ea; exact ⟨true, μ1, ea, iteT ⟨fl, S', e, p⟩⟩
    · rename_i μ1 ea; exact ⟨false, μ1, ea, iteF ⟨fl, S', e, p⟩⟩
    · cases e
  · rintro ⟨k, μ1, ea, p⟩
    cases k with
    | true =>
      obtain ⟨d, μ', e, p⟩ := (if_pos rfl : (if true = true then WS g ⟨ρ, μ1⟩ U else WS g' ⟨ρ, μ1⟩ U) = _) ▸ p
      exact ⟨d, μ', by unfold sIf; rw [ea]; exact e, p⟩
    | false =>
      obtain ⟨d, μ', e, p⟩ := (if_neg Bool.false_ne_true : (if false = true then WS g ⟨ρ, μ1⟩ U else WS g' ⟨ρ, μ1⟩ U) = _) ▸ p
      exact ⟨d, μ', by unfold sIf; rw [ea]; exact e, p⟩
/-- what is wanted behind the first of two -/
def Nx (U : Fl → Sg → Prop) (g' : EvS) (fl : Fl) (S1 : Sg) : Prop := match fl with
  | .nx => WS g' S1 U
  | fl => U fl S1
theorem ws_seq : WS (sSeq g g') S U ↔ WS g S (Nx U g') := by
  constructor
  · rintro ⟨fl, S', e, p⟩
    unfold sSeq at e
    split at e
    · rename_i S1 e1
      exact ⟨.nx, S1, e1, fl, S', e, p⟩
    · rename_i hn
      refine ⟨fl, S', e, ?_⟩
      cases fl with
      | nx => exact (hn S' e).elim
      | _ => exact p
  · rintro ⟨fl, S1, e1, h⟩
    cases fl with
    | nx =>
      obtain ⟨fl', S', e, p⟩ := h
      exact ⟨fl', S', by unfold sSeq; rw [e1]; exact e, p⟩
    | _ => exact ⟨_, S1, by unfold sSeq; rw [e1], h⟩
theorem Nx_nx : Nx U g' .nx S ↔ WS g' S U := Iff.rfl
theorem Nx_rt : Nx U g' (.rt d) S ↔ U (.rt d) S := Iff.rfl
theorem Nx_bk : Nx U g' .bk S ↔ U .bk S := Iff.rfl
theorem Nx_ct : Nx U g' .ct S ↔ U .ct S := Iff.rfl
theorem Nx_ex {n : Str} {p : Option D} : Nx U g' (.ex n p) S ↔ U (.ex n p) S := Iff.rfl
/-- a def's end -/
def Fe (P : D → List Cell → Prop) (fl : Fl) (S' : Sg) : Prop := match fl with
  | .rt d => P d S'.μ
  | .nx => P .non S'.μ
  | _ => False
theorem wf_fn {n N : Nat} : WF (fnF n N g) ds μ P ↔ WS g ⟨ds.map some ++ List.replicate (N - n) none, μ⟩ (Fe P) := by
  constructor
  · rintro ⟨d, μ', e, p⟩
    unfold fnF at e
    split at e
    · rename_i d S' e1
      obtain ⟨e0, rfl⟩ := pr_inj e
      cases e0
      exact ⟨_, S', e1, p⟩
    · rename_i S' e1
      obtain ⟨e0, rfl⟩ := pr_inj e
      cases e0
      exact ⟨_, S', e1, p⟩
    · cases (pr_inj e).1
    · cases e
  · rintro ⟨fl, S', e1, h⟩
    cases fl with
    | rt d => exact ⟨d, S'.μ, by unfold fnF; rw [e1], h⟩
    | nx => exact ⟨.non, S'.μ, by unfold fnF; rw [e1], h⟩
    | _ => exact h.elim
/-- .. of any end -/
def FeX (Y : Ov → List Cell → Prop) (fl : Fl) (S' : Sg) : Prop := match fl with
  | .rt d => Y (.v d) S'.μ
  | .nx => Y (.v .non) S'.μ
  | .ex n p => Y (.x n p) S'.μ
  | _ => False
theorem wfx_fn {n N : Nat} {Y : Ov → List Cell → Prop} : WFX (fnF n N g) ds μ Y ↔ WS g ⟨ds.map some ++ List.replicate (N - n) none, μ⟩ (FeX Y) := by
  constructor
  · rintro ⟨d, μ', e, p⟩
    unfold fnF at e
    split at e
    · rename_i d S' e1
      obtain ⟨rfl, rfl⟩ := pr_inj e
      exact ⟨_, S', e1, p⟩
    · rename_i S' e1
      obtain ⟨rfl, rfl⟩ := pr_inj e
      exact ⟨_, S', e1, p⟩
    · rename_i n2 p2 S' e1
      obtain ⟨rfl, rfl⟩ := pr_inj e
      exact ⟨_, S', e1, p⟩
    · cases e
  · rintro ⟨fl, S', e1, h⟩
    cases fl with
    | rt d => exact ⟨.v d, S'.μ, by unfold fnF; rw [e1], h⟩
    | nx => exact ⟨.v .non, S'.μ, by unfold fnF; rw [e1], h⟩
    | ex n p => exact ⟨.x n p, S'.μ, by unfold fnF; rw [e1], h⟩
    | _ => exact h.elim
theorem FeX_rt {Y : Ov → List Cell → Prop} : FeX Y (.rt d) ⟨ρ, μ⟩ ↔ Y (.v d) μ := Iff.rfl
theorem FeX_nx {Y : Ov → List Cell → Prop} : FeX Y .nx ⟨ρ, μ⟩ ↔ Y (.v .non) μ := Iff.rfl
theorem FeX_ex {Y : Ov → List Cell → Prop} {n : Str} {p : Option D} : FeX Y (.ex n p) ⟨ρ, μ⟩ ↔ Y (.x n p) μ := Iff.rfl
theorem Fe_rt : Fe P (.rt d) ⟨ρ, μ⟩ ↔ P d μ := Iff.rfl
theorem Fe_nx : Fe P .nx ⟨ρ, μ⟩ ↔ P .non μ := Iff.rfl
/-! loops -/
theorem wi_seq {gs : D → Option (List D)} : WI (itOf gs fa) ⟨ρ, μ⟩ R ↔ WE fa ⟨ρ, μ⟩ fun d μ1 => ∃ ds, gs d = some ds ∧ R ds μ1 := by
  constructor
  · rintro ⟨ds, μ', e, p⟩
    obtain ⟨d, ef, ed⟩ := itOf_out e
    exact ⟨d, μ', ef, ds, ed, p⟩
  · rintro ⟨d, μ', ef, ds, ed, p⟩
    exact ⟨ds, μ', by unfold itOf; rw [ef]; simp only; rw [ed], p⟩
theorem wi_rng1 : WI (gRng1 fs) ⟨ρ, μ⟩ R ↔ WA fs ⟨ρ, μ⟩ fun ds μ1 => ∃ j, ds = [.int j] ∧ -(2 ^ 62) ≤ j ∧ j < 2 ^ 62 ∧ R (rngD 0 j.toNat) μ1 := by
  constructor
  · rintro ⟨ds, μ', e, p⟩
    unfold gRng1 at e
    split at e
    · rename_i j μ1 ef
      split at e
      · rename_i hj
        obtain ⟨rfl, rfl⟩ := pr_inj e
        exact ⟨_, _, ef, j, rfl, hj.1, hj.2, p⟩
      · cases e
    · cases e
  · rintro ⟨ds, μ1, ef, j, rfl, h1, h2, p⟩
    exact ⟨_, _, by unfold gRng1; rw [ef]; simp only; rw [if_pos ⟨h1, h2⟩], p⟩
theorem ws_for {it : EvI} : WS (sFor it b g) ⟨ρ, μ⟩ U ↔ WI it ⟨ρ, μ⟩ fun ds μ1 => WS (forL b g ds) ⟨ρ, μ1⟩ U := by
  constructor
  · rintro ⟨fl, S', e, p⟩
    unfold sFor at e
    split at e
    · rename_i ds μ1 ei; exact ⟨ds, μ1, ei, fl, S', e, p⟩
    · cases e
  · rintro ⟨ds, μ1, ei, fl, S', e, p⟩
    exact ⟨fl, S', by unfold sFor; rw [ei]; exact e, p⟩
/-- what is wanted behind a turn -/
def Tn (U : Fl → Sg → Prop) (again : Sg → Prop) (fl : Fl) (S' : Sg) : Prop := match fl with
  | .nx => again S'
  | .ct => again S'
  | .bk => U .nx S'
  | .rt d => U (.rt d) S'
  | .ex n p => U (.ex n p) S'
theorem ws_forNil : WS (forL b g []) S U ↔ U .nx S := ws_nx
theorem ws_forCons : WS (forL b g (d :: ds)) S U ↔ WB b d S fun S1 => WS g S1 (Tn U fun S2 => WS (forL b g ds) S2 U) := by
  constructor
  · rintro ⟨fl, S', e, p⟩
    unfold forL at e
    split at e
    · rename_i S1 eb
      split at e
      · rename_i S2 eg; exact ⟨S1, eb, .nx, S2, eg, fl, S', e, p⟩
      · rename_i S2 eg; exact ⟨S1, eb, .ct, S2, eg, fl, S', e, p⟩
      · rename_i S2 eg
        obtain ⟨rfl, rfl⟩ := pr_inj e
        exact ⟨S1, eb, .bk, S2, eg, p⟩
      · rename_i x S2 eg
        obtain ⟨rfl, rfl⟩ := pr_inj e
        exact ⟨S1, eb, .rt x, S2, eg, p⟩
      · rename_i n x S2 eg
        obtain ⟨rfl, rfl⟩ := pr_inj e
        exact ⟨S1, eb, .ex n x, S2, eg, p⟩
      · cases e
    · cases e
  · rintro ⟨S1, eb, fl, S2, eg, h⟩
    cases fl with
    | nx => obtain ⟨fl, S', e, p⟩ := h; exact ⟨fl, S', by unfold forL; rw [eb]; simp only; rw [eg]; exact e, p⟩
    | ct => obtain ⟨fl, S', e, p⟩ := h; exact ⟨fl, S', by unfold forL; rw [eb]; simp only; rw [eg]; exact e, p⟩
    | bk => exact ⟨.nx, S2, by unfold forL; rw [eb]; simp only; rw [eg], h⟩
    | rt x => exact ⟨.rt x, S2, by unfold forL; rw [eb]; simp only; rw [eg], h⟩
    | ex n x => exact ⟨.ex n x, S2, by unfold forL; rw [eb]; simp only; rw [eg], h⟩
/-- a loop by its invariant, over the items that are left -/
theorem ws_forInv (I : List D → Sg → Prop) (h : ∀ d r S, I (d :: r) S → WB b d S fun S1 => WS g S1 (Tn U (I r))) (h0 : ∀ S, I [] S → U .nx S) : ∀ (ds : List D) (S : Sg), I ds S → WS (forL b g ds) S U
  | [], S, p => ws_forNil.mpr (h0 S p)
  | d :: ds, S, p => by
    refine ws_forCons.mpr ?_
    obtain ⟨S1, e1, fl, S2, e2, q⟩ := h d ds S p
    refine ⟨S1, e1, fl, S2, e2, ?_⟩
    cases fl with
    | nx => exact ws_forInv I h h0 ds S2 q
    | ct => exact ws_forInv I h h0 ds S2 q
    | bk => exact q
    | rt d => exact q
    | ex n p => exact q
theorem Tn_nx {A : Sg → Prop} : Tn U A .nx S ↔ A S := Iff.rfl
theorem Tn_ct {A : Sg → Prop} : Tn U A .ct S ↔ A S := Iff.rfl
theorem Tn_bk {A : Sg → Prop} : Tn U A .bk S ↔ U .nx S := Iff.rfl
theorem Tn_rt {A : Sg → Prop} : Tn U A (.rt d) S ↔ U (.rt d) S := Iff.rfl
/-! comprehensions -/
def WLc (b : Bd) (t : EvT) (f : EvE) (ρ : List (Option D)) (ds : List D) (μ : List Cell) (R : List D → List Cell → Prop) : Prop := ∃ xs μ', lcL b t f ρ ds μ = some (xs, μ') ∧ R xs μ'
theorem we_Lc {it : EvI} {ws : List Nat} : WE (fLc it b t fa ws) ⟨ρ, μ⟩ P ↔ WI it ⟨ρ, μ⟩ fun ds μ1 => WLc b t fa (wipeR ρ ws) ds μ1 fun xs μ2 => xs.length ≤ sizeLine ∧ P (.lst xs) μ2 := by
  constructor
  · rintro ⟨d, μ', e, p⟩
    unfold fLc at e
    split at e
    · rename_i ds μ1 ei
      split at e
      · rename_i xs μ2 el
        split at e
        · rename_i h
          obtain ⟨rfl, rfl⟩ := pr_inj e
          exact ⟨ds, μ1, ei, xs, μ2, el, h, p⟩
        · cases e
      · cases e
    · cases e
  · rintro ⟨ds, μ1, ei, xs, μ2, el, h, p⟩
    exact ⟨_, _, by unfold fLc; rw [ei]; simp only; rw [el]; simp only; rw [if_pos h], p⟩
theorem wlc_nil : WLc b t fa ρ [] μ R ↔ R [] μ := ⟨fun ⟨d', μ', e, p⟩ => by obtain ⟨rfl, rfl⟩ := pr_inj e; exact p, fun p => ⟨[], μ, rfl, p⟩⟩
theorem wlc_cons : WLc b t fa ρ (d :: ds) μ R ↔ WB b d ⟨ρ, μ⟩ fun S1 => WT t S1 fun k μ1 => if k = true then WE fa ⟨S1.ρ, μ1⟩ fun x μ2 => WLc b t fa ρ ds μ2 fun xs μ3 => R (x :: xs) μ3 else WLc b t fa ρ ds μ1 R := by
  constructor
  · rintro ⟨xs, μ', e, p⟩
    unfold lcL at e
    split at e
    · rename_i S1 eb
      split at e
      · rename_i μ1 et
        split at e
        · rename_i x μ2 ef
          split at e
          · rename_i ys μ3 er
            obtain ⟨rfl, rfl⟩ := pr_inj e
            exact ⟨S1, eb, true, μ1, et, iteT ⟨x, μ2, ef, ys, μ3, er, p⟩⟩
          · cases e
        · cases e
      · rename_i μ1 et
        exact ⟨S1, eb, false, μ1, et, iteF ⟨xs, μ', e, p⟩⟩
      · cases e
    · cases e
  · rintro ⟨S1, eb, k, μ1, et, h⟩
    cases k with
    | true =>
      obtain ⟨x, μ2, ef, ys, μ3, er, p⟩ : WE fa ⟨S1.ρ, μ1⟩ fun x μ2 => WLc b t fa ρ ds μ2 fun xs μ3 => R (x :: xs) μ3 := by simpa using h
      exact ⟨x :: ys, μ3, by unfold lcL; rw [eb]; simp only; rw [et]; simp only; rw [ef]; simp only; rw [er], p⟩
    | false =>
      obtain ⟨xs, μ', e, p⟩ : WLc b t fa ρ ds μ1 R := by simpa using h
      exact ⟨xs, μ', by unfold lcL; rw [eb]; simp only; rw [et]; exact e, p⟩
/-- a comprehension by its invariant: the items left, those made -/
theorem wlc_inv (I : List D → List D → List Cell → Prop) (h : ∀ d r xs μ, I (d :: r) xs μ → WB b d ⟨ρ, μ⟩ fun S1 => WT t S1 fun k μ1 => if k = true then WE fa ⟨S1.ρ, μ1⟩ fun x μ2 => I r (xs ++ [x]) μ2 else I r xs μ1) :
    ∀ (ds xs : List D) (μ : List Cell), I ds xs μ → WLc b t fa ρ ds μ fun ys μ' => I [] (xs ++ ys) μ'
  | [], xs, μ, p => wlc_nil.mpr (by rw [List.append_nil]; exact p)
  | d :: ds, xs, μ, p => by
    refine wlc_cons.mpr ?_
    obtain ⟨S1, e1, k, μ1, e2, q⟩ := h d ds xs μ p
    refine ⟨S1, e1, k, μ1, e2, ?_⟩
    cases k with
    | true =>
      obtain ⟨x, μ2, e3, q⟩ : WE fa ⟨S1.ρ, μ1⟩ fun x μ2 => I ds (xs ++ [x]) μ2 := by simpa using q
      obtain ⟨ys, μ3, e4, q⟩ := wlc_inv I h ds (xs ++ [x]) μ2 q
      exact iteT ⟨x, μ2, e3, ys, μ3, e4, by rw [List.append_assoc] at q; exact q⟩
    | false =>
      have q : I ds xs μ1 := by simpa using q
      exact iteF (wlc_inv I h ds xs μ1 q)
end
/-! ### operations on plain values -/
section
variable {V : D → Prop} {μ : List Cell} {i j : Int} {s z : Str} {x y : D} {xs ys : List D} {k : Nat} {p q : Bool} {T : String}
theorem w2_addI : W2 dAdd (.int i) (.int j) μ V ↔ V (.int (i + j)) := ⟨fun ⟨z, e, p⟩ => by cases e; exact p, fun p => ⟨_, rfl, p⟩⟩
theorem w2_addS : W2 dAdd (.str s) (.str z) μ V ↔ s.length + z.length ≤ sizeLine ∧ V (.str (s ++ z)) := by
  constructor
  · rintro ⟨w, e, p⟩
    unfold dAdd at e
    simp only at e
    split at e
    · rename_i h; cases e; exact ⟨h, p⟩
    · cases e
  · rintro ⟨h, p⟩
    exact ⟨_, by unfold dAdd; simp only; rw [if_pos h], p⟩
theorem w2_addL : W2 dAdd (.lst xs) (.lst ys) μ V ↔ xs.length + ys.length ≤ sizeLine ∧ V (.lst (xs ++ ys)) := by
  constructor
  · rintro ⟨w, e, p⟩
    unfold dAdd asL at e
    simp only at e
    split at e
    · rename_i h; cases e; exact ⟨h, p⟩
    · cases e
  · rintro ⟨h, p⟩
    exact ⟨_, by unfold dAdd asL; simp only; rw [if_pos h], p⟩
theorem w2_II {g : Int → Int → Option D} : W2 (dII g) (.int i) (.int j) μ V ↔ ∃ z, g i j = some z ∧ V z := Iff.rfl
theorem gSub_iff : (∃ z, gSub i j = some z ∧ V z) ↔ V (.int (i - j)) := ⟨fun ⟨z, e, p⟩ => by cases e; exact p, fun p => ⟨_, rfl, p⟩⟩
theorem gMod_iff : (∃ z, gMod i j = some z ∧ V z) ↔ j ≠ 0 ∧ V (.int (i.fmod j)) := by
  constructor
  · rintro ⟨z, e, p⟩
    unfold gMod at e
    split at e
    · rename_i h; cases e; exact ⟨h, p⟩
    · cases e
  · rintro ⟨h, p⟩
    exact ⟨_, by unfold gMod; rw [if_pos h], p⟩
theorem gFdiv_iff : (∃ z, gFdiv i j = some z ∧ V z) ↔ (j ≠ 0 ∧ j.natAbs < 1073741824) ∧ V (.int (i.fdiv j)) := by
  constructor
  · rintro ⟨z, e, p⟩
    unfold gFdiv at e
    split at e
    · rename_i h; cases e; exact ⟨h, p⟩
    · cases e
  · rintro ⟨h, p⟩
    exact ⟨_, by unfold gFdiv; rw [if_pos h], p⟩
theorem gPow_iff : (∃ z, gPow i j = some z ∧ V z) ↔ (0 ≤ j ∧ (Builtin.Int.intBits i : Int) * j ≤ 2 ^ 27) ∧ V (.int (i ^ j.toNat)) := by
  constructor
  · rintro ⟨z, e, p⟩
    unfold gPow at e
    split at e
    · rename_i h; cases e; exact ⟨h, p⟩
    · cases e
  · rintro ⟨h, p⟩
    exact ⟨_, by unfold gPow; rw [if_pos h], p⟩
theorem w2_mulI : W2 dMul (.int i) (.int j) μ V ↔ ((-(2 ^ 64) < i ∧ i < 2 ^ 64) ∨ (-(2 ^ 64) < j ∧ j < 2 ^ 64)) ∧ V (.int (i * j)) := by
  constructor
  · rintro ⟨z, e, p⟩
    unfold dMul at e
    simp only at e
    split at e
    · rename_i h; cases e; exact ⟨h, p⟩
    · cases e
  · rintro ⟨h, p⟩
    exact ⟨_, by unfold dMul; simp only; rw [if_pos h], p⟩
theorem w1_neg : W1 dNeg (.int i) μ V ↔ V (.int (-i)) := ⟨fun ⟨z, e, p⟩ => by cases e; exact p, fun p => ⟨_, rfl, p⟩⟩
theorem w2_ordI {gi : Int → Int → Bool} {gs : Str → Str → Bool} : W2 (dOrd gi gs) (.int i) (.int j) μ V ↔ V (.bl (gi i j)) := ⟨fun ⟨z, e, p⟩ => by cases e; exact p, fun p => ⟨_, rfl, p⟩⟩
theorem w2_ordS {gi : Int → Int → Bool} {gs : Str → Str → Bool} : W2 (dOrd gi gs) (.str s) (.str z) μ V ↔ V (.bl (gs s z)) := ⟨fun ⟨z, e, p⟩ => by cases e; exact p, fun p => ⟨_, rfl, p⟩⟩
theorem w2_is : W2 dIs x y μ V ↔ ∃ k, isB x y μ = some k ∧ V (.bl k) := by
  constructor
  · rintro ⟨z, e, p⟩
    obtain ⟨k, ek, rfl⟩ := Option.map_eq_some_iff.mp e
    exact ⟨k, ek, p⟩
  · rintro ⟨k, ek, p⟩
    exact ⟨_, by unfold dIs; rw [ek]; rfl, p⟩
theorem w2_isNot : W2 dIsNot x y μ V ↔ ∃ k, isB x y μ = some k ∧ V (.bl !k) := by
  constructor
  · rintro ⟨z, e, p⟩
    obtain ⟨k, ek, rfl⟩ := Option.map_eq_some_iff.mp e
    exact ⟨k, ek, p⟩
  · rintro ⟨k, ek, p⟩
    exact ⟨_, by unfold dIsNot; rw [ek]; rfl, p⟩
theorem w2_eq : W2 dEq x y μ V ↔ ∃ k, eqB x y μ = some k ∧ V (.bl k) := by
  constructor
  · rintro ⟨z, e, p⟩
    obtain ⟨k, ek, rfl⟩ := Option.map_eq_some_iff.mp e
    exact ⟨k, ek, p⟩
  · rintro ⟨k, ek, p⟩
    exact ⟨_, by unfold dEq; rw [ek]; rfl, p⟩
theorem w2_ne : W2 dNe x y μ V ↔ ∃ k, eqB x y μ = some k ∧ V (.bl !k) := by
  constructor
  · rintro ⟨z, e, p⟩
    obtain ⟨k, ek, rfl⟩ := Option.map_eq_some_iff.mp e
    exact ⟨k, ek, p⟩
  · rintro ⟨k, ek, p⟩
    exact ⟨_, by unfold dNe; rw [ek]; rfl, p⟩
theorem w2_ixL : W2 dIx (.lst xs) (.int i) μ V ↔ ∃ d, atI xs i = some d ∧ V d := Iff.rfl
theorem w2_ixR : W2 dIx (.rl xs) (.int i) μ V ↔ ∃ d, atI xs i = some d ∧ V d := Iff.rfl
theorem w2_ixT : W2 dIx (.tup xs) (.int i) μ V ↔ ∃ d, atI xs i = some d ∧ V d := Iff.rfl
theorem w2_ixS : W2 dIx (.str s) (.int i) μ V ↔ s.length ≤ sizeLine ∧ ∃ c, atI s.cps.toList i = some c ∧ V (.str ⟨#[c]⟩) := by
  constructor
  · rintro ⟨z, e, p⟩
    unfold dIx at e
    simp only at e
    split at e
    · rename_i h
      obtain ⟨c, ec, rfl⟩ := Option.map_eq_some_iff.mp e
      exact ⟨h, c, ec, p⟩
    · cases e
  · rintro ⟨h, c, ec, p⟩
    exact ⟨_, by unfold dIx; simp only; rw [if_pos h, ec]; rfl, p⟩
theorem w2_ixH : W2 dIx (.h k) (.int i) μ V ↔ ∃ xs, μ[k]? = some (.lst xs) ∧ ∃ d, atI xs i = some d ∧ V d := by
  constructor
  · rintro ⟨z, e, p⟩
    unfold dIx asSL asL at e
    simp only at e
    split at e
    · rename_i xs ex
      split at ex
      · rename_i ys ey
        cases ex
        exact ⟨_, ey, z, e, p⟩
      · cases ex
    · cases e
  · rintro ⟨xs, ex, d, ed, p⟩
    exact ⟨d, by unfold dIx asSL asL; simp only; rw [ex]; exact ed, p⟩
theorem w1_abs : W1 dAbs (.int i) μ V ↔ V (.int (if i < 0 then -i else i)) := ⟨fun ⟨z, e, p⟩ => by cases e; exact p, fun p => ⟨_, rfl, p⟩⟩
theorem w1_intI : W1 dInt1 (.int i) μ V ↔ V (.int i) := ⟨fun ⟨z, e, p⟩ => by cases e; exact p, fun p => ⟨_, rfl, p⟩⟩
theorem w1_intB : W1 dInt1 (.bl p) μ V ↔ V (.int (if p then 1 else 0)) := ⟨fun ⟨z, e, p⟩ => by cases e; exact p, fun p => ⟨_, rfl, p⟩⟩
theorem w2_max : W2 dMax2 (.int i) (.int j) μ V ↔ V (.int (if j > i then j else i)) := ⟨fun ⟨z, e, p⟩ => by cases e; exact p, fun p => ⟨_, rfl, p⟩⟩
theorem w2_min : W2 dMin2 (.int i) (.int j) μ V ↔ V (.int (if j < i then j else i)) := ⟨fun ⟨z, e, p⟩ => by cases e; exact p, fun p => ⟨_, rfl, p⟩⟩
theorem w1_str : W1 dStr1 (.int i) μ V ↔ i.natAbs.log2 < 1920 ∧ V (.str (toString i)) := by
  constructor
  · rintro ⟨z, e, p⟩
    unfold dStr1 at e
    simp only at e
    split at e
    · rename_i h; cases e; exact ⟨h, p⟩
    · cases e
  · rintro ⟨h, p⟩
    exact ⟨_, by unfold dStr1; simp only; rw [if_pos h], p⟩
theorem w1_lenS : W1 dLen (.str s) μ V ↔ s.length ≤ sizeLine ∧ V (.int s.length) := by
  constructor
  · rintro ⟨z, e, p⟩
    unfold dLen at e
    simp only at e
    split at e
    · rename_i h; cases e; exact ⟨h, p⟩
    · cases e
  · rintro ⟨h, p⟩
    exact ⟨_, by unfold dLen; simp only; rw [if_pos h], p⟩
theorem w1_lenL : W1 dLen (.lst xs) μ V ↔ V (.int xs.length) := ⟨fun ⟨z, e, p⟩ => by cases e; exact p, fun p => ⟨_, rfl, p⟩⟩
theorem w1_lenR : W1 dLen (.rl xs) μ V ↔ V (.int xs.length) := ⟨fun ⟨z, e, p⟩ => by cases e; exact p, fun p => ⟨_, rfl, p⟩⟩
theorem w1_lenT : W1 dLen (.tup xs) μ V ↔ V (.int xs.length) := ⟨fun ⟨z, e, p⟩ => by cases e; exact p, fun p => ⟨_, rfl, p⟩⟩
theorem w1_type : W1 dType x μ V ↔ ∃ T, tyOf x μ = some T ∧ V (.ty T) := by
  constructor
  · rintro ⟨z, e, p⟩
    obtain ⟨k, ek, rfl⟩ := Option.map_eq_some_iff.mp e
    exact ⟨k, ek, p⟩
  · rintro ⟨k, ek, p⟩
    exact ⟨_, by unfold dType; rw [ek]; rfl, p⟩
theorem w2_isi : W2 dIsi x (.ty T) μ V ↔ ∃ U, tyOf x μ = some U ∧ ∃ b, kitB U T = some b ∧ V (.bl b) := by
  constructor
  · rintro ⟨z, e, p⟩
    unfold dIsi at e
    simp only at e
    split at e
    · rename_i U eU
      obtain ⟨b, eb, rfl⟩ := Option.map_eq_some_iff.mp e
      exact ⟨U, eU, b, eb, p⟩
    · cases e
  · rintro ⟨U, eU, b, eb, p⟩
    exact ⟨_, by unfold dIsi; simp only; rw [eU]; simp only; rw [eb]; rfl, p⟩
theorem w1_repr0 : W1 dRepr0 (.bl p) μ V ↔ V (.str (reprB p)) := ⟨fun ⟨z, e, p⟩ => by cases e; exact p, fun p => ⟨_, rfl, p⟩⟩
theorem w1_not : W1 dNot x μ V ↔ WTr x μ fun k => V (.bl !k) := by
  constructor
  · rintro ⟨z, e, p⟩
    obtain ⟨k, ek, rfl⟩ := Option.map_eq_some_iff.mp e
    exact ⟨k, ek, p⟩
  · rintro ⟨k, ek, p⟩
    exact ⟨_, by unfold dNot; rw [ek]; rfl, p⟩
theorem w1_S0 {Pz : Str → Bool} {g : Str → D} : W1 (dS0 Pz g) (.str s) μ V ↔ Pz s = true ∧ V (g s) := by
  constructor
  · rintro ⟨z, e, p⟩
    obtain ⟨y, e1, e2, rfl⟩ := dS0_out e
    cases e1
    exact ⟨e2, p⟩
  · rintro ⟨h, p⟩
    exact ⟨_, by unfold dS0; simp only; rw [if_pos h], p⟩
theorem w2_join : W2 dJoin (.str s) (.lst xs) μ V ↔ ∃ zs, strsOf xs = some zs ∧ (zs.map (·.length)).sum + zs.length * s.length ≤ 16777216 ∧ V (.str (Txt.join s zs)) := by
  constructor
  · rintro ⟨z, e, p⟩
    obtain ⟨t, ys, zs, e1, h1, h2, h3, rfl⟩ := dJoin_out e
    cases e1
    cases h1
    exact ⟨zs, h2, h3, p⟩
  · rintro ⟨zs, h2, h3, p⟩
    exact ⟨_, by unfold dJoin asSq asSL asL; simp only; rw [h2]; simp only; rw [if_pos h3], p⟩
variable {Q : Bool → Prop}
theorem wtr_bl : WTr (.bl p) μ Q ↔ Q p := ⟨fun ⟨z, e, p⟩ => by cases e; exact p, fun p => ⟨_, rfl, p⟩⟩
end
end DL
set_option maxHeartbeats 2000000
/-! repr of data in which empty dicts may stand. -/
namespace DL
open PySem L2
section
variable {P : Program} {w : World} {h : Heap} {a : Addr} {o : Obj} {vs : Array Value} {n : Nat} {ps : List PyData}
/-- read, and shown -/
def Shd (P : Program) (w : World) (h : Heap) (u : Value) (p : PyData) : Prop := (∃ as, Reads h u p as) ∧ ∃ bs, ReadAtMost h p.depth bs ∧ ReprK P w bs h p.depth u p.shown
def ShdAll (P : Program) (w : World) (h : Heap) (us : List Value) (ps : List PyData) : Prop := (∃ as, ReadsAll h us ps as) ∧ ∃ bs, ReadAtMost h (PyData.depthAll ps) bs ∧ ReprAllK P w bs h (PyData.depthAll ps) us (PyData.shownAll ps)
theorem shd_list (h1 : h.get? a = some o) (h2 : o.cls = .type "list") (h3 : o.data = .seq vs n) (k : ShdAll P w h vs.toList ps) : Shd P w h (.ref a) (.list ps) := by
  obtain ⟨⟨as, r⟩, bs, hb, hk⟩ := k
  have rr : Reads h (.ref a) (.list ps) _ := .list h1 h2 h3 r
  have out := not_mem_of_deeper rr (by simp only [PyData.depth]; omega) hb
  refine ⟨⟨_, rr⟩, a :: bs, ReadAtMost.cons rr (by simp only [PyData.depth]; omega) hb, ?_⟩
  simp only [PyData.depth, PyData.shown]
  obtain ⟨l⟩ := vs
  cases l with
  | nil =>
    have r' : ReadsAll h [] ps as := r
    cases r'
    simp only [PyData.shownAll, listText_nil]
    exact ReprK.listEmpty h1 h2 h3
  | cons x l => exact ReprK.list h1 h2 h3 out (by simpa using hk.length_eq) fun i y e => hk.item i y (by simpa using e)
theorem shd_tuple (h1 : h.get? a = some o) (h2 : o.cls = .type "tuple") (h3 : o.data = .seq vs n) (k : ShdAll P w h vs.toList ps) : Shd P w h (.ref a) (.tuple ps) := by
  obtain ⟨⟨as, r⟩, bs, hb, hk⟩ := k
  have rr : Reads h (.ref a) (.tuple ps) _ := .tuple h1 h2 h3 r
  have out := not_mem_of_deeper rr (by simp only [PyData.depth]; omega) hb
  refine ⟨⟨_, rr⟩, a :: bs, ReadAtMost.cons rr (by simp only [PyData.depth]; omega) hb, ?_⟩
  simp only [PyData.depth, PyData.shown]
  exact ReprK.tuple h1 h2 h3 out hk
theorem shd_cons {u : Value} {us : List Value} {p : PyData} (x : Shd P w h u p) (y : ShdAll P w h us ps) : ShdAll P w h (u :: us) (p :: ps) := by
  obtain ⟨⟨as, r⟩, b1, hb1, k1⟩ := x
  obtain ⟨⟨bs, rs⟩, b2, hb2, k2⟩ := y
  refine ⟨⟨_, .cons r rs⟩, b1 ++ b2, ?_, ?_⟩
  · simp only [PyData.depthAll]
    exact (hb1.mono (Nat.le_max_left _ _)).append (hb2.mono (Nat.le_max_right _ _))
  · simp only [PyData.depthAll, PyData.shownAll]
    exact .cons ((k1.more fun b hb => List.mem_append_left _ hb).level_le (Nat.le_max_left _ _)) (k2.more_le (fun b hb => List.mem_append_right _ hb) (Nat.le_max_right _ _))
theorem shd_nil : ShdAll P w h [] [] := ⟨⟨_, .nil⟩, [], fun _ z => (nomatch z), .nil⟩
theorem shd_dict0 {ep : Nat} {es : Array DictEntry} (h1 : h.get? a = some o) (h2 : o.cls = .type "dict") (h3 : o.data = .dict es ep) (he : es.toList = []) (hs : (a == sysModules) = false) : Shd P w h (.ref a) (.dict []) := by
  have rr : Reads h (.ref a) (.dict []) _ := .dict (kvs := []) h1 h2 h3 (by rw [he]; exact .nil) (by rw [he]; exact .nil)
  refine ⟨⟨_, rr⟩, [a], ReadAtMost.cons (n := 0) rr (Nat.zero_le _) (fun _ z => nomatch z), ?_⟩
  simp only [PyData.depth, PyData.depthKv, PyData.shown, PyData.shownKv]
  exact ReprK.dict h1 h2 h3 hs (fun z => nomatch z) (by rw [he]; exact .nil)
theorem shd_of_is {u : Value} {p : PyData} {as : List Addr} (r : Reads h u p as) (k : ReprIs P w u p.shown) : Shd P w h u p := ⟨⟨_, r⟩, [], fun _ z => (nomatch z), .of_is k _ _ _⟩
end
mutual
def toR : D → Option PyData
  | .non => some .none
  | .bl b => some (.bool b)
  | .int i => some (.int i)
  | .str s => some (.str s)
  | .lst xs | .rl xs => (toRs xs).map .list
  | .tup xs => (toRs xs).map .tuple
  | .dct [] => some (.dict [])
  | _ => none
def toRs : List D → Option (List PyData)
  | [] => some []
  | d :: ds => match toR d, toRs ds with
    | some p, some ps => some (p :: ps)
    | _, _ => none
end
section
variable {X : Cx} {pins : List (Addr × Obj)} {σ : L2.St} {H : Hp} {s : Shared} {as : Ar}
mutual
theorem Rep.shd (I : Inv X pins σ H s) : ∀ {v : V} {d : D} {p : PyData} {u : Value}, Rep X.K as H v d → toR d = some p → RelV v u → p.showable = true → p.shown.length ≤ sizeLine → Shd X.prog X.w s.heap u p
  | _, _, _, u, .non, e, r, hs, hz => by simp only [toR] at e; cases e; cases r; exact shd_of_is .none (by simp only [PyData.shown]; exact ReprIs.none)
  | _, _, _, u, .bl b, e, r, hs, hz => by simp only [toR] at e; cases e; cases r; exact shd_of_is (.bool b) (by simp only [PyData.shown]; exact ReprIs.bool b)
  | _, _, _, u, .int i, e, r, hs, hz => by
    simp only [toR] at e; cases e
    obtain ⟨t, rfl⟩ := r
    exact shd_of_is (.int i t) (by simp only [PyData.shown]; exact ReprIs.int t (by simpa [PyData.showable] using hs))
  | _, _, _, u, .str x, e, r, hs, hz => by
    simp only [toR] at e; cases e
    obtain ⟨t, rfl⟩ := r
    exact shd_of_is (.str x t) (by simp only [PyData.shown]; exact ReprIs.str x t (by simpa only [PyData.shown] using hz))
  | _, _, _, u, .ty n, e, _, _, _ => by simp only [toR] at e; cases e
  | _, _, _, u, .h _, e, _, _, _ => by simp only [toR] at e; cases e
  | _, _, _, u, .exc _ _ _, e, _, _, _ => by simp only [toR] at e; cases e
  | _, _, _, u, .exf _ _ _ _ _ _, e, _, _, _ => by simp only [toR] at e; cases e
  | _, _, _, u, .cls _, e, _, _, _ => by simp only [toR] at e; cases e
  | _, _, _, u, .lst t n rs, e, r, hs, hz => by
    simp only [toR] at e
    obtain ⟨ps, e1, rfl⟩ := Option.map_eq_some_iff.mp e
    cases r
    obtain ⟨its, rv, ⟨o, n, ho, hc, _, hd⟩, _⟩ := I.list (SqL.of t)
    exact shd_list ho hc hd (Reps.shd I rs e1 rv (by simpa [PyData.showable] using hs) fun t ht => Nat.le_trans (listText_mem_le ht) (by simpa only [PyData.shown] using hz))
  | _, _, _, u, .rl t rs, e, r, hs, hz => by
    simp only [toR] at e
    obtain ⟨ps, e1, rfl⟩ := Option.map_eq_some_iff.mp e
    cases r
    obtain ⟨its, rv, ⟨o, n, ho, hc, _, hd⟩, _⟩ := I.list t.sq
    exact shd_list ho hc hd (Reps.shd I rs e1 rv (by simpa [PyData.showable] using hs) fun t ht => Nat.le_trans (listText_mem_le ht) (by simpa only [PyData.shown] using hz))
  | _, _, _, u, .tup t rs, e, r, hs, hz => by
    simp only [toR] at e
    obtain ⟨ps, e1, rfl⟩ := Option.map_eq_some_iff.mp e
    cases r
    obtain ⟨its, rv, ⟨o, ho, hc, n, hd⟩, _⟩ := I.tuple t.sq
    exact shd_tuple ho hc hd (Reps.shd I rs e1 rv (by simpa [PyData.showable] using hs) fun t ht => Nat.le_trans (tupleText_mem_le ht) (by simpa only [PyData.shown] using hz))
  | _, .dct ds, _, u, .dct (kvs := kvs) t n ek rs, e, r, hs, hz => by
    cases ds with
    | cons _ _ => simp only [toR] at e; cases e
    | nil =>
      simp only [toR] at e
      cases e
      cases r
      have ek' : kvs = [] := by simpa using ek
      subst ek'
      obtain ⟨_, hsys, vs, rel, o, es, ep, h1, hx, h3, _, pr, _⟩ := dk_of I.hok t
      cases rel
      have he : es.toList = [] := by
        generalize es.toList = l at pr
        cases pr
        rfl
      exact shd_dict0 h1 hx.1 h3 he hsys
theorem Reps.shd (I : Inv X pins σ H s) : ∀ {vs : List V} {ds : List D} {ps : List PyData} {us : List Value}, Reps X.K as H vs ds → toRs ds = some ps → Vals vs us → PyData.showableAll ps = true → (∀ t ∈ PyData.shownAll ps, t.length ≤ sizeLine) → ShdAll X.prog X.w s.heap us ps
  | _, _, _, _, .nil, e, r, _, _ => by simp only [toRs] at e; cases e; cases r; exact shd_nil
  | _, _, _, _, .cons h t, e, r, hs, hz => by
    simp only [toRs] at e
    split at e
    · rename_i p ps e1 e2
      cases e
      cases r with
      | cons r1 r2 =>
        have hs' : p.showable = true ∧ PyData.showableAll ps = true := by simpa [PyData.showableAll] using hs
        exact shd_cons (Rep.shd I h e1 r1 hs'.1 (hz _ (by simp only [PyData.shownAll]; exact List.mem_cons_self))) (Reps.shd I t e2 r2 hs'.2 fun z hm => hz z (by simp only [PyData.shownAll]; exact List.mem_cons_of_mem _ hm))
    · cases e
end
end

section
variable {P : Program} {w : World} {h : Heap} {a : Addr} {o : Obj} {vs : Array Value} {n : Nat} {ps : List PyData}
theorem shows_list (h1 : h.get? a = some o) (h2 : o.cls = .type "list") (h3 : o.data = .seq vs n) (k : ShdAll P w h vs.toList ps) (hz : (PyData.list ps).shown.length ≤ sizeLine) : ShowsBy P w h a (.list ps) "list" "list.__repr__" := by
  obtain ⟨⟨as, r⟩, bs, hb, hk⟩ := k
  have rr : Reads h (.ref a) (.list ps) _ := .list h1 h2 h3 r
  have out := not_mem_of_deeper rr (by simp only [PyData.depth]; omega) hb
  refine ⟨F.slot_list_repr.toG, F.slot_list_str, F.slot_list_format, fun s hk0 => ⟨o, hk0 _ _ h1, h2⟩, fun A E s Q hg hu hk0 hQ => ?_⟩
  simp only [PyData.depth] at hu
  simp only [PyData.shown] at hQ hz
  obtain ⟨l⟩ := vs
  cases l with
  | nil =>
    have r' : ReadsAll h [] ps as := r
    cases r'
    simp only [PyData.shownAll, listText_nil] at hQ
    exact call_list_repr_empty ⟨o, hk0 _ _ h1, h2⟩ (hk0 _ _ h1) h3 (hQ s.heap _ _ fun _ _ e => e)
  | cons x l => exact call_list_reprK h1 h2 h3 out (by simpa using hk.length_eq) (fun i y e => hk.item i y (by simpa using e)) hg (fun b _ => Clear.nil b) hu hk0 hQ hz
theorem shows_tuple (h1 : h.get? a = some o) (h2 : o.cls = .type "tuple") (h3 : o.data = .seq vs n) (k : ShdAll P w h vs.toList ps) (hz : (PyData.tuple ps).shown.length ≤ sizeLine) : ShowsBy P w h a (.tuple ps) "tuple" "tuple.__repr__" := by
  obtain ⟨⟨as, r⟩, bs, hb, hk⟩ := k
  have rr : Reads h (.ref a) (.tuple ps) _ := .tuple h1 h2 h3 r
  have out := not_mem_of_deeper rr (by simp only [PyData.depth]; omega) hb
  refine ⟨F.slot_tuple_repr, F.slot_tuple_str, F.slot_tuple_format, fun s hk0 => ⟨o, hk0 _ _ h1, h2⟩, fun A E s Q hg hu hk0 hQ => ?_⟩
  simp only [PyData.depth] at hu
  simp only [PyData.shown] at hQ hz
  exact call_tuple_reprK h1 h2 h3 out hk hg (fun b _ => Clear.nil b) hu hk0 hQ hz
end
section
variable {X : Cx}
def dReprR : D → List Cell → Option D
  | .bl b, _ => some (.str (reprB b))
  | .lst xs, _ => match toRs xs with
    | some ps => if PyData.showableAll ps = true ∧ (PyData.list ps).depth ≤ 62 ∧ (PyData.list ps).shown.length ≤ sizeLine then some (.str (PyData.list ps).shown) else none
    | none => none
  | .tup xs, _ => match toRs xs with
    | some ps => if PyData.showableAll ps = true ∧ (PyData.tuple ps).depth ≤ 62 ∧ (PyData.tuple ps).shown.length ≤ sizeLine then some (.str (PyData.tuple ps).shown) else none
    | none => none
  | _, _ => none
theorem call_reprRD (hgd : X.A.guards = some []) (hu : X.A.units + 64 < cLine) : CallR X (.builtin "repr") (rCD X.K (g1 dReprR)) := call1 fun pins s σ H x us Q as d μ z I r rd sto ez q => by
  unfold dReprR at ez
  obtain ⟨u, rfl, ru⟩ := Vals.one r
  split at ez
  · cases Option.some.inj ez
    cases rd
    cases ru
    exact PySem.P.repr_of_bool ⟨.str _, H, I.tok _, ⟨_, rfl⟩, q _ H .refl (.str _) sto⟩
  · split at ez
    · rename_i ps e1
      split at ez
      · rename_i hs
        cases Option.some.inj ez
        cases rd with
        | @lst a vs ds t n rs =>
          cases ru
          obtain ⟨its, rv, ⟨o, m, ho, hc, _, hd⟩, _⟩ := I.list (SqL.of t)
          have S := shows_list (P := X.prog) (w := X.w) ho hc hd (Reps.shd I rs e1 rv hs.1 fun t ht => Nat.le_trans (listText_mem_le ht) (by simpa only [PyData.shown] using hs.2.2)) hs.2.2
          exact call_repr_slot (by omega) (S.typeIs s fun _ _ e => e) S.slotRepr (S.call X.A.in1 _ s _ hgd (by show X.A.units + 1 + (PyData.list ps).depth < cLine; omega) (fun _ _ e => e) fun h' u' tk hk => ⟨_, _, rfl, .str _, H, I.kept hk, ⟨_, rfl⟩, q _ H .refl (.str _) sto⟩)
      · cases ez
    · cases ez
  · split at ez
    · rename_i ps e1
      split at ez
      · rename_i hs
        cases Option.some.inj ez
        cases rd with
        | @tup a vs ds t rs =>
          cases ru
          obtain ⟨its, rv, ⟨o, ho, hc, m, hd⟩, _⟩ := I.tuple t.sq
          have S := shows_tuple (P := X.prog) (w := X.w) ho hc hd (Reps.shd I rs e1 rv hs.1 fun t ht => Nat.le_trans (tupleText_mem_le ht) (by simpa only [PyData.shown] using hs.2.2)) hs.2.2
          exact call_repr_slot (by omega) (S.typeIs s fun _ _ e => e) S.slotRepr (S.call X.A.in1 _ s _ hgd (by show X.A.units + 1 + (PyData.tuple ps).depth < cLine; omega) (fun _ _ e => e) fun h' u' tk hk => ⟨_, _, rfl, .str _, H, I.kept hk, ⟨_, rfl⟩, q _ H .refl (.str _) sto⟩)
      · cases ez
    · cases ez
  · cases ez
end

section
variable {X : Cx} {W : WX} {fs : EvA}
/-- a, b = x, y -/
def sPar (i j : Nat) (fs : EvA) : EvS := fun S => match fs S with
  | some ([d, e], μ1) => if i < S.ρ.length ∧ j < S.ρ.length then some (.nx, ⟨(S.ρ.set i (some d)).set j (some e), μ1⟩) else none
  | _ => none
theorem ds_par {i j : Nat} {x y : Str} {a b : Expr} {px py pt pos : Pos} {kt k2 pt2} (hc : X.calm = true) (hN : X.N.Nodup) (hi : X.N[i]? = some x) (hj : X.N[j]? = some y) (hij : i ≠ j) (hx : X.env.scope.names.lookup x = some .local) (hy : X.env.scope.names.lookup y = some .local) (ha : PA X [a, b] (tFA X.K fs))
    (hw : swappedStores [.Tuple [.Name x px, .Name y py] kt pt] (.Tuple [a, b] k2 pt2) X.env = pure (some [x, y])) (hs : swapsWithSole [.Tuple [.Name x px, .Name y py] kt pt] (.Tuple [a, b] k2 pt2) pos.line X.env = pure false := by rfl) :
    PS X (.Assign [.Tuple [.Name x px, .Name y py] kt pt] (.Tuple [a, b] k2 pt2) pos) (tFS X.K X.mg W (sPar i j fs)) := (ps_par hc hN hi hj hij hx hy ha hw hs).imp fun D σ H ⟨as, S, fl, S', E, e, q⟩ => by
  unfold sPar at e
  split at e
  · rename_i d1 d2 μ1 ef
    split at e
    · rename_i hl
      obtain ⟨rfl, rfl⟩ := pr_inj e
      refine ⟨as, S, _, μ1, E, ef, fun vs as1 H1 X1 r1 s1 => ?_⟩
      cases r1 with
      | cons r1 rt =>
      cases rt with
      | cons r2 rt =>
      cases rt
      exact ⟨_, _, rfl, q as1 _ H1 X1 ⟨((E.env.mv X1).set r1 hl.1).set r2 (by rw [List.length_set]; exact hl.2), s1⟩⟩
    · cases e
  · cases e
theorem ws_par {i j : Nat} {ρ : List (Option D)} {μ : List Cell} {U : Fl → Sg → Prop} : WS (sPar i j fs) ⟨ρ, μ⟩ U ↔ WA fs ⟨ρ, μ⟩ fun ds μ1 => ∃ d e, ds = [d, e] ∧ (i < ρ.length ∧ j < ρ.length) ∧ U .nx ⟨(ρ.set i (some d)).set j (some e), μ1⟩ := by
  constructor
  · rintro ⟨fl, S', e, p⟩
    unfold sPar at e
    split at e
    · rename_i d1 d2 μ1 ef
      split at e
      · rename_i hl
        obtain ⟨rfl, rfl⟩ := pr_inj e
        exact ⟨_, μ1, ef, d1, d2, rfl, hl, p⟩
      · cases e
    · cases e
  · rintro ⟨ds, μ1, ef, d1, d2, rfl, hl, p⟩
    exact ⟨_, _, by unfold sPar; rw [ef]; simp only; rw [if_pos hl], p⟩
end
end DL
set_option maxHeartbeats 2000000
/-! ==, != and in where empty dicts stand in the left. -/
namespace PySem
namespace DLQ
open SeqAt MeetsSeq
open AutoSeq1 (wpAny_loadPart')
section
variable (l : Addr) (es : Array DictEntry) (n : Nat) (dd : Option Addr) (sl : Array (Option Value))
theorem dn_str (b : Str) (u : Tok) : Meets (Builtin.«dict.__ne__» ⟨[.ref l, .str b u], []⟩) (fun _ R s => s.heap.get? l = some (dob dd es n sl) ∧ R (.ok (.ret .notImplemented)) s) :=
  .of_wp fun prog w A R s h => by (obtain ⟨hp, g, d, tk, os⟩ := s; obtain ⟨hl, h⟩ := h; have f1 := F.sub_str_dict; wp_walk using wpAny_loadPart' hl; exact ⟨_, rfl, h⟩)
theorem strn_d (b : Str) (u : Tok) : Meets (Builtin.«str.__ne__» ⟨[.str b u, .ref l], []⟩) (fun _ R s => s.heap.get? l = some (dob dd es n sl) ∧ R (.ok (.ret .notImplemented)) s) :=
  .of_wp fun prog w A R s h => by (obtain ⟨hp, g, d, tk, os⟩ := s; obtain ⟨hl, h⟩ := h; wp_walk using wpAny_loadPart' hl, wpAny_load hl; exact ⟨_, rfl, h⟩)
end
section
variable {A : Around} {s : Shared} {l k : Addr}
theorem rn_d_str (b : Str) (u : Tok) (hl : IsD s l) (hu : A.units < cLine) : RcNeAt A s (.ref l) (.str b u) true := by
  obtain ⟨dd, es, n, sl, ho⟩ := hl
  exact fun prog w E Q h => rc_ne_decline_or (k := false) ⟨_, ho, rfl⟩ (typeIs_str s b u) (by decide) F.sub_str_dict F.slot_dict_ne F.slot_str_ne_refl (fun _ hq => call_meets F.slot_dict_ne ⟨_, ho, rfl⟩ F.entry_dict_ne (F.args_dict_ne_2 _ _) (dn_str l es n dd sl b u) ⟨ho, hq⟩) (fun _ hq => call_meets F.slot_str_ne_refl (typeIs_str s b u) F.entry_str_ne (F.args_str_ne_2 _ _) (strn_d l es n dd sl b u) ⟨ho, hq⟩) (fun _ hq => wpAny_of_eq (rfl : isSame (.ref l) (.str b u) = pure false) hq) (.inr hu) h
theorem size_all {h : Heap} {vs : Array Value} {xs : List PyData} {as : List Addr} (r : ReadsAll h vs.toList xs as) : vs.size = xs.length := by simpa using ReadsAll.length _ _ _ r
theorem rcX : ∀ (da db : PyData) {a b : Value} {as bs : List Addr}, Reads s.heap a da as → Reads s.heap b db bs → okX da = true → da.canLay0 = false → db.canLay0 = true → A.units + min da.depth db.depth < cLine → RcAt A s a b (PyData.eqv da db)
  | .none, _, _, _, _, _, _, _, _, h, _, _ => nomatch h
  | .bool _, _, _, _, _, _, _, _, _, h, _, _ => nomatch h
  | .int _, _, _, _, _, _, _, _, _, h, _, _ => nomatch h
  | .str x, _, _, _, _, _, _, _, ho, h, _, _ => by
    have z : (PyData.str x).canLay0 = true := by simpa [okX, PyData.canLay0] using ho
    rw [z] at h
    cases h
  | .dict kvs, db, a, b, as, bs, ra, rb, _, _, hb, hu => by
    have hr := room_here hu
    cases ra with
    | dict h1 h2 h3 h4 h5 =>
      have hd := isD_of h1 h2 h3
      cases rb with
      | none => exact r_d_none hd hr
      | bool y => exact r_d_bool y hd hr
      | int y u => exact r_d_int y u hd hr
      | str y u => exact r_d_str y u hd hr
      | list k1 k2 k3 k4 => exact r_d_list hd ⟨_, k1, k2, _, k3⟩ hr
      | tuple k1 k2 k3 k4 => exact r_d_tuple hd ⟨_, k1, k2, _, k3⟩ hr
      | dict => exact nomatch hb
  | .list xs, db, a, b, as, bs, ra, rb, ho, _, hb, hu => by
    have hr := room_here hu
    cases ra with
    | @list l o vs n _ as1 h1 h2 h3 h4 =>
      have hl : s.heap.IsList l vs := ⟨_, h1, h2, _, h3⟩
      cases rb with
      | none => exact RcAt.list_none hl hr
      | bool y => exact RcAt.list_bool y hl hr
      | int y u => exact RcAt.list_int y u hl hr
      | str y u => exact RcAt.list_str y u hl hr
      | tuple k1 k2 k3 k4 => exact RcAt.list_tuple hl ⟨_, k1, k2, _, k3⟩ hr
      | dict => exact nomatch hb
      | @list l' o' vs' n' ys bs1 k1 k2 k3 k4 =>
        have hl' : s.heap.IsList l' vs' := ⟨_, k1, k2, _, k3⟩
        have n1 := size_all h4
        have n2 := size_all k4
        show RcAt A s (.ref l) (.ref l') (PyData.eqvAll xs ys)
        by_cases hsz : vs.size = vs'.size
        · have it := eqXs xs ys A.in1 s vs.toList vs'.toList _ _ h4 k4 ho hb (room_in hu)
          rw [← eqvAll_same_length (by omega : xs.length = ys.length), ← n1]
          exact RcAt.lists hl hl' hsz hr fun j j1 j2 => by
            have z := (it j (by simpa using j1) (by simpa using j2)).1
            simpa using z
        · rw [eqvAll_other_length (by omega : xs.length ≠ ys.length)]
          exact RcAt.lists_lengths hl hl' (by simpa using hsz) hr
  | .tuple xs, db, a, b, as, bs, ra, rb, ho, _, hb, hu => by
    have hr := room_here hu
    cases ra with
    | @tuple l o vs n _ as1 h1 h2 h3 h4 =>
      have hl : s.heap.IsTuple l vs := ⟨_, h1, h2, _, h3⟩
      cases rb with
      | none => exact RcAt.tuple_none hl hr
      | bool y => exact RcAt.tuple_bool y hl hr
      | int y u => exact RcAt.tuple_int y u hl hr
      | str y u => exact RcAt.tuple_str y u hl hr
      | list k1 k2 k3 k4 => exact RcAt.tuple_list hl ⟨_, k1, k2, _, k3⟩ hr
      | dict => exact nomatch hb
      | @tuple l' o' vs' n' ys bs1 k1 k2 k3 k4 =>
        have hl' : s.heap.IsTuple l' vs' := ⟨_, k1, k2, _, k3⟩
        have it := eqXs xs ys A.in1 s vs.toList vs'.toList _ _ h4 k4 ho hb (room_in hu)
        show RcAt A s (.ref l) (.ref l') (PyData.eqvAll xs ys)
        rw [← eqvAll_eq xs ys, ← size_all h4, ← size_all k4]
        exact RcAt.tuples hl hl' hr fun j j1 j2 => by
            have z := (it j (by simpa using j1) (by simpa using j2)).1
            simpa using z
def isDictD : PyData → Bool
  | .dict _ => true
  | _ => false
def isStrD : PyData → Bool
  | .str _ => true
  | _ => false
theorem rcNeX : ∀ (da db : PyData) {a b : Value} {as bs : List Addr}, Reads s.heap a da as → Reads s.heap b db bs → okX da = true → da.canLay0 = false → db.canLay0 = true → (isDictD da = true → isStrD db = true) → A.units + min da.depth db.depth < cLine → RcNeAt A s a b (!PyData.eqv da db)
  | .none, _, _, _, _, _, _, _, _, h, _, _, _ => nomatch h
  | .bool _, _, _, _, _, _, _, _, _, h, _, _, _ => nomatch h
  | .int _, _, _, _, _, _, _, _, _, h, _, _, _ => nomatch h
  | .str x, _, _, _, _, _, _, _, ho, h, _, _, _ => by
    have z : (PyData.str x).canLay0 = true := by simpa [okX, PyData.canLay0] using ho
    rw [z] at h
    cases h
  | .dict kvs, db, a, b, as, bs, ra, rb, _, _, hb, hs, hu => by
    have hr := room_here hu
    cases ra with
    | dict h1 h2 h3 h4 h5 =>
      have hd := isD_of h1 h2 h3
      cases rb with
      | str y u => exact rn_d_str y u hd hr
      | _ => exact nomatch hs rfl
  | .list xs, db, a, b, as, bs, ra, rb, ho, _, hb, _, hu => by
    have hr := room_here hu
    cases ra with
    | @list l o vs n _ as1 h1 h2 h3 h4 =>
      have hl : s.heap.IsList l vs := ⟨_, h1, h2, _, h3⟩
      cases rb with
      | none => exact RcNeAt.list_none hl hr
      | bool y => exact RcNeAt.list_bool y hl hr
      | int y u => exact RcNeAt.list_int y u hl hr
      | str y u => exact RcNeAt.list_str y u hl hr
      | tuple k1 k2 k3 k4 => exact RcNeAt.list_tuple hl ⟨_, k1, k2, _, k3⟩ hr
      | dict => exact nomatch hb
      | @list l' o' vs' n' ys bs1 k1 k2 k3 k4 =>
        have hl' : s.heap.IsList l' vs' := ⟨_, k1, k2, _, k3⟩
        have n1 := size_all h4
        have n2 := size_all k4
        show RcNeAt A s (.ref l) (.ref l') (!PyData.eqvAll xs ys)
        by_cases hsz : vs.size = vs'.size
        · have it := eqXs xs ys A.in1 s vs.toList vs'.toList _ _ h4 k4 ho hb (room_in hu)
          rw [← eqvAll_same_length (by omega : xs.length = ys.length), ← n1]
          exact RcNeAt.lists hl hl' hsz hr fun j j1 j2 => by
            have z := (it j (by simpa using j1) (by simpa using j2)).1
            simpa using z
        · rw [eqvAll_other_length (by omega : xs.length ≠ ys.length)]
          exact RcNeAt.lists_lengths hl hl' (by simpa using hsz) hr
  | .tuple xs, db, a, b, as, bs, ra, rb, ho, _, hb, _, hu => by
    have hr := room_here hu
    cases ra with
    | @tuple l o vs n _ as1 h1 h2 h3 h4 =>
      have hl : s.heap.IsTuple l vs := ⟨_, h1, h2, _, h3⟩
      cases rb with
      | none => exact RcNeAt.tuple_none hl hr
      | bool y => exact RcNeAt.tuple_bool y hl hr
      | int y u => exact RcNeAt.tuple_int y u hl hr
      | str y u => exact RcNeAt.tuple_str y u hl hr
      | list k1 k2 k3 k4 => exact RcNeAt.tuple_list hl ⟨_, k1, k2, _, k3⟩ hr
      | dict => exact nomatch hb
      | @tuple l' o' vs' n' ys bs1 k1 k2 k3 k4 =>
        have hl' : s.heap.IsTuple l' vs' := ⟨_, k1, k2, _, k3⟩
        have it := eqXs xs ys A.in1 s vs.toList vs'.toList _ _ h4 k4 ho hb (room_in hu)
        show RcNeAt A s (.ref l) (.ref l') (!PyData.eqvAll xs ys)
        rw [← eqvAll_eq xs ys, ← size_all h4, ← size_all k4]
        exact RcNeAt.tuples hl hl' hr fun j j1 j2 => by
            have z := (it j (by simpa using j1) (by simpa using j2)).1
            simpa using z
/-- x in a tuple: x with empty dicts -/
theorem itemsX {vs : Array Value} {xs : List PyData} {as bs : List Addr} {x : Value} {d : PyData} (rs : ReadsAll s.heap vs.toList xs as) (rx : Reads s.heap x d bs) (hxs : PyData.canLayAll0 xs = true) (hd : okX d = true) (hu : A.units + 1 + min (PyData.depthAll xs) d.depth < cLine) :
    ∀ y, y ∈ vs → EqAt A.in1 s y x (PyData.eqv (readOf s.heap y) d) := fun y hy => by
  obtain ⟨dy, cs, ry, hcy, hle⟩ := readsAll_mem xs _ _ hxs rs y (by simpa using hy)
  rw [readOf_eq hcy ry]
  refine (eqX d dy A.in1 s x y _ _ rx ry hd hcy ?_).2
  have h1 : min d.depth dy.depth ≤ min (PyData.depthAll xs) d.depth := Nat.le_min.mpr ⟨Nat.le_trans (Nat.min_le_right _ _) hle, Nat.min_le_left _ _⟩
  show A.units + 1 + min d.depth dy.depth < cLine
  omega
end
end DLQ
end PySem
namespace DL
open PySem L2 PySem.DLQ
section
variable {X : Cx} {pins : List (Addr × Obj)} {σ : L2.St} {H : Hp} {s : Shared} {as : Ar}
mutual
theorem Rep.rds (I : Inv X pins σ H s) : ∀ {v : V} {d : D} {p : PyData} {u : Value}, Rep X.K as H v d → toR d = some p → RelV v u → ∃ bs, Reads s.heap u p bs
  | _, _, _, u, .non, e, r => by simp only [toR] at e; cases e; cases r; exact ⟨_, .none⟩
  | _, _, _, u, .bl b, e, r => by simp only [toR] at e; cases e; cases r; exact ⟨_, .bool b⟩
  | _, _, _, u, .int i, e, r => by
    simp only [toR] at e; cases e
    obtain ⟨t, rfl⟩ := r
    exact ⟨_, .int i t⟩
  | _, _, _, u, .str x, e, r => by
    simp only [toR] at e; cases e
    obtain ⟨t, rfl⟩ := r
    exact ⟨_, .str x t⟩
  | _, _, _, u, .ty n, e, _ => by simp only [toR] at e; cases e
  | _, _, _, u, .h _, e, _ => by simp only [toR] at e; cases e
  | _, _, _, u, .exc _ _ _, e, _ => by simp only [toR] at e; cases e
  | _, _, _, u, .exf _ _ _ _ _ _, e, _ => by simp only [toR] at e; cases e
  | _, _, _, u, .cls _, e, _ => by simp only [toR] at e; cases e
  | _, _, _, u, .lst t n rs, e, r => by
    simp only [toR] at e
    obtain ⟨ps, e1, rfl⟩ := Option.map_eq_some_iff.mp e
    cases r
    obtain ⟨its, rv, ⟨o, n, ho, hc, _, hd⟩, _⟩ := I.list (SqL.of t)
    obtain ⟨bs, q⟩ := Reps.rds I rs e1 rv
    exact ⟨_, .list ho hc hd q⟩
  | _, _, _, u, .rl t rs, e, r => by
    simp only [toR] at e
    obtain ⟨ps, e1, rfl⟩ := Option.map_eq_some_iff.mp e
    cases r
    obtain ⟨its, rv, ⟨o, n, ho, hc, _, hd⟩, _⟩ := I.list t.sq
    obtain ⟨bs, q⟩ := Reps.rds I rs e1 rv
    exact ⟨_, .list ho hc hd q⟩
  | _, _, _, u, .tup t rs, e, r => by
    simp only [toR] at e
    obtain ⟨ps, e1, rfl⟩ := Option.map_eq_some_iff.mp e
    cases r
    obtain ⟨its, rv, ⟨o, ho, hc, n, hd⟩, _⟩ := I.tuple t.sq
    obtain ⟨bs, q⟩ := Reps.rds I rs e1 rv
    exact ⟨_, .tuple ho hc hd q⟩
  | _, .dct ds, _, u, .dct (kvs := kvs) t n ek rs, e, r => by
    cases ds with
    | cons _ _ => simp only [toR] at e; cases e
    | nil =>
      simp only [toR] at e
      cases e
      cases r
      have ek' : kvs = [] := by simpa using ek
      subst ek'
      obtain ⟨_, hsys, vs, rel, o, es, ep, h1, hx, h3, _, pr, _⟩ := dk_of I.hok t
      cases rel
      have he : es.toList = [] := by
        generalize es.toList = l at pr
        cases pr
        rfl
      exact ⟨_, .dict (kvs := []) h1 hx.1 h3 (by rw [he]; exact .nil) (by rw [he]; exact .nil)⟩
theorem Reps.rds (I : Inv X pins σ H s) : ∀ {vs : List V} {ds : List D} {ps : List PyData} {us : List Value}, Reps X.K as H vs ds → toRs ds = some ps → Vals vs us → ∃ bs, ReadsAll s.heap us ps bs
  | _, _, _, _, .nil, e, r => by simp only [toRs] at e; cases e; cases r; exact ⟨_, .nil⟩
  | _, _, _, _, .cons h t, e, r => by
    simp only [toRs] at e
    split at e
    · rename_i p ps e1 e2
      cases e
      cases r with
      | cons r1 r2 =>
        obtain ⟨b1, q1⟩ := Rep.rds I h e1 r1
        obtain ⟨b2, q2⟩ := Reps.rds I t e2 r2
        exact ⟨_, .cons q1 q2⟩
    · cases e
end
end
/-- == where the plain one says nothing -/
def eqR (x y : D) : Option Bool := match toR x, toR y with
  | some p, some q => if okX p = true ∧ p.canLay0 = false ∧ q.canLay0 = true ∧ q.depth ≤ 60 then some (PyData.eqv p q) else none
  | _, _ => none
def neR (x y : D) : Option Bool := match toR x, toR y with
  | some p, some q => if okX p = true ∧ p.canLay0 = false ∧ q.canLay0 = true ∧ q.depth ≤ 60 ∧ (isDictD p = true → isStrD q = true) then some (!PyData.eqv p q) else none
  | _, _ => none
def eqW (x y : D) (μ : List Cell) : Option Bool := (eqB x y μ).or (eqR x y)
def neW (x y : D) (μ : List Cell) : Option Bool := ((eqB x y μ).map (!·)).or (neR x y)
def dEqW : D → D → List Cell → Option D := fun x y μ => (eqW x y μ).map .bl
def dNeW : D → D → List Cell → Option D := fun x y μ => (neW x y μ).map .bl
theorem dEqW_bl : ∀ x y μ z, dEqW x y μ = some z → ∃ k, z = .bl k := fun _ _ _ _ e => map_bl (f := fun k => k) e
theorem dNeW_bl : ∀ x y μ z, dNeW x y μ = some z → ∃ k, z = .bl k := fun _ _ _ _ e => map_bl (f := fun k => k) e
def inR (x y : D) : Option Bool := match toR x, toR y with
  | some p, some (.tuple ps) => if okX p = true ∧ PyData.canLayAll0 ps = true ∧ PyData.depthAll ps ≤ 60 then some (ps.any fun q => PyData.eqv q p) else none
  | _, _ => none
def dInR : D → D → List Cell → Option D := fun x y μ => (inR x y).map .bl
theorem dInR_bl : ∀ x y μ z, dInR x y μ = some z → ∃ k, z = .bl k := fun _ _ _ _ e => map_bl (f := fun k => k) e
section
variable {X : Cx}
theorem or_out {α : Type} {a b : Option α} {k : α} (e : a.or b = some k) : a = some k ∨ b = some k := by
  cases a with
  | none => exact .inr (by simpa using e)
  | some x => exact .inl (by simpa using e)
theorem op_eqW (hu : X.A.units + 64 < cLine) : OpR X (compareOp .Eq) (rD X.K dEqW) := by
  intro pins s σ H x y v u Q I rx ry ⟨as, d, e, μ, z, rd, re, sto, ez, q⟩
  obtain ⟨k, ek, rfl⟩ := Option.map_eq_some_iff.mp ez
  rcases or_out ek with ek | ek
  · exact op_eqDD hu pins s σ H x y v u Q I rx ry ⟨as, d, e, μ, .bl k, rd, re, sto, by unfold dEq; rw [ek]; rfl, q⟩
  · unfold eqR at ek
    split at ek
    · rename_i p r e1 e2
      split at ek
      · rename_i hs
        cases Option.some.inj ek
        obtain ⟨b1, r1⟩ := rd.rds I e1 rx
        obtain ⟨b2, r2⟩ := re.rds I e2 ry
        have hm : min p.depth r.depth ≤ 60 := Nat.le_trans (Nat.min_le_right _ _) hs.2.2.2
        exact rcX p r r1 r2 hs.1 hs.2.1 hs.2.2.1 (by omega) X.prog X.w X.xe _ ⟨.bl _, H, I, rfl, q _ H .refl (.bl _) sto⟩
      · cases ek
    · cases ek
theorem op_neW (hu : X.A.units + 64 < cLine) : OpR X (compareOp .NotEq) (rD X.K dNeW) := by
  intro pins s σ H x y v u Q I rx ry ⟨as, d, e, μ, z, rd, re, sto, ez, q⟩
  obtain ⟨k, ek, rfl⟩ := Option.map_eq_some_iff.mp ez
  rcases or_out ek with ek | ek
  · obtain ⟨b, eb, rfl⟩ := Option.map_eq_some_iff.mp ek
    exact op_neDD hu pins s σ H x y v u Q I rx ry ⟨as, d, e, μ, .bl (!b), rd, re, sto, by unfold dNe; rw [eb]; rfl, q⟩
  · unfold neR at ek
    split at ek
    · rename_i p r e1 e2
      split at ek
      · rename_i hs
        cases Option.some.inj ek
        obtain ⟨b1, r1⟩ := rd.rds I e1 rx
        obtain ⟨b2, r2⟩ := re.rds I e2 ry
        have hm : min p.depth r.depth ≤ 60 := Nat.le_trans (Nat.min_le_right _ _) hs.2.2.2.1
        exact rcNeX p r r1 r2 hs.1 hs.2.1 hs.2.2.1 hs.2.2.2.2 (by omega) X.prog X.w X.xe _ ⟨.bl _, H, I, rfl, q _ H .refl (.bl _) sto⟩
      · cases ek
    · cases ek
theorem op_inR (hu : X.A.units + 64 < cLine) : OpR X (compareOp .In) (rD X.K dInR) := by
  intro pins s σ H x y v u Q I rx ry ⟨as, d, e, μ, z, rd, re, sto, ez, q⟩
  obtain ⟨k, ek, rfl⟩ := Option.map_eq_some_iff.mp ez
  unfold inR at ek
  split at ek
  · rename_i p ps e1 e2
    split at ek
    · rename_i hs
      cases Option.some.inj ek
      obtain ⟨b1, r1⟩ := rd.rds I e1 rx
      obtain ⟨b2, r2⟩ := re.rds I e2 ry
      cases r2 with
      | tuple h1 h2 h3 h4 =>
        have hm : min (PyData.depthAll ps) p.depth ≤ 60 := Nat.le_trans (Nat.min_le_left _ _) hs.2.2
        exact SeqAt.in_tupleAt _ ⟨_, h1, h2, _, h3⟩ (itemsX h4 r1 hs.2.1 hs.1 (by omega)) (by rw [SeqAt.any_by_data h4 hs.2.1]; exact ⟨.bl _, H, I, rfl, q _ H .refl (.bl _) sto⟩)
    · cases ek
  · cases ek
end
end DL
set_option maxHeartbeats 2000000
namespace DL
open PySem L2
/-! ### in ascending order, each once -/
def ins (x : Int) : List Int → List Int
  | [] => [x]
  | y :: r => if x < y then x :: y :: r else if x = y then y :: r else y :: ins x r
def sortU : List Int → List Int
  | [] => []
  | x :: r => ins x (sortU r)
theorem mem_ins {x k : Int} : ∀ {l : List Int}, k ∈ ins x l ↔ k = x ∨ k ∈ l
  | [] => by simp [ins]
  | y :: r => by
    unfold ins
    split
    · simp
    · split
      · rename_i h; subst h; simp
      · rw [List.mem_cons, mem_ins, List.mem_cons]
        constructor
        · rintro (h | h | h)
          · exact .inr (.inl h)
          · exact .inl h
          · exact .inr (.inr h)
        · rintro (h | h | h)
          · exact .inr (.inl h)
          · exact .inl h
          · exact .inr (.inr h)
theorem mem_sortU {k : Int} : ∀ {l : List Int}, k ∈ sortU l ↔ k ∈ l
  | [] => by simp [sortU]
  | x :: r => by unfold sortU; rw [mem_ins, mem_sortU, List.mem_cons]
theorem pw_ins {x : Int} : ∀ {l : List Int}, l.Pairwise (· < ·) → (ins x l).Pairwise (· < ·)
  | [], _ => by simp [ins]
  | y :: r, h => by
    have h' := List.pairwise_cons.mp h
    unfold ins
    split
    · rename_i hx
      refine List.pairwise_cons.mpr ⟨fun z hz => ?_, h⟩
      rcases List.mem_cons.mp hz with rfl | hz
      · exact hx
      · exact Int.lt_trans hx (h'.1 z hz)
    · split
      · exact h
      · refine List.pairwise_cons.mpr ⟨fun z hz => ?_, pw_ins h'.2⟩
        rcases mem_ins.mp hz with rfl | hz
        · omega
        · exact h'.1 z hz
theorem pw_sortU : ∀ l : List Int, (sortU l).Pairwise (· < ·)
  | [] => .nil
  | x :: r => pw_ins (pw_sortU r)
theorem pw_eq : ∀ {l1 l2 : List Int}, l1.Pairwise (· < ·) → l2.Pairwise (· < ·) → (∀ k, k ∈ l1 ↔ k ∈ l2) → l1 = l2
  | [], [], _, _, _ => rfl
  | [], b :: r, _, _, h => absurd ((h b).mpr List.mem_cons_self) (by simp)
  | a :: r, [], _, _, h => absurd ((h a).mp List.mem_cons_self) (by simp)
  | a :: r1, b :: r2, h1, h2, h => by
    have g1 := List.pairwise_cons.mp h1
    have g2 := List.pairwise_cons.mp h2
    have e : a = b := by
      rcases List.mem_cons.mp ((h a).mp List.mem_cons_self) with e | m
      · exact e
      · rcases List.mem_cons.mp ((h b).mpr List.mem_cons_self) with e | m'
        · exact e.symm
        · have := g2.1 a m
          have := g1.1 b m'
          omega
    subst e
    congr 1
    refine pw_eq g1.2 g2.2 fun k => ⟨fun m => ?_, fun m => ?_⟩
    · rcases List.mem_cons.mp ((h k).mp (List.mem_cons_of_mem _ m)) with e | m'
      · have := g1.1 k m; omega
      · exact m'
    · rcases List.mem_cons.mp ((h k).mpr (List.mem_cons_of_mem _ m)) with e | m'
      · have := g2.1 k m; omega
      · exact m'
section
variable {X : Cx} {a : Expr} {fa : EvE} {p p2 pos q2 : Pos}
/-- set(a tuple of ints) -/
def rSetTI (K : PySem.W.Frag) (w : World) : List V → Hp → VK → Prop := fun vs H Q => ∃ (l : Addr) (ns : List Int), vs = [V.ref l] ∧ SqT K H l (ns.map V.int) ∧ ns.length < 64 ∧ ∀ (b : Addr) (c : Nat), H b = none → c ≤ ns.length → Q (.ref b) (upd H b (SetO w b (fun j => decide (j ∈ ns)) c))
theorem cr_setTI (hc : X.calm = true) : CallR X (.type "set") (rSetTI X.K X.w) := by
  intro pins s σ H vs us Q I r ⟨l, ns, ev, hq, h64, q⟩
  subst ev
  rw [Vals.ref1 r]
  obtain ⟨its, rv, pl, _⟩ := I.tuple hq
  refine call_set_tupI ns (I.ok.hd hc) pl (intsAre_of (by simpa using rv)) (Nat.lt_trans (show ns.length + 1 < 100 by omega) (by decide +kernel)) fun h' tk c R hcl k => ?_
  have hn : H s.heap.objs.size = none := I.hok.fresh (Nat.le_refl _)
  exact ⟨.ref s.heap.objs.size, _, I.laid (t' := tk) k (Nat.le_refl _) (setO_new R), rfl, q _ c hn hcl⟩
/-- sorted(set(a tuple of ints)) -/
def fSortSet (fa : EvE) : EvE := fun S => match fa S with
  | some (.tup xs, μ1) => match intsOf xs with
    | some ns => if ns.length < 64 then some (.lst ((sortU ns).map D.int), μ1) else none
    | none => none
  | _ => none
theorem de_sortSet (hc : X.calm = true) (hg : Gl X "sorted") (hm : X.mg "sorted" = none) (hg2 : Gl X "set") (hm2 : X.mg "set" = none) (ha : PE X a (tF X.K fa)) (he : starEach [a] X.env = (false, eval a X.env) :: starEach [] X.env := by rfl)
    (he2 : starEach [.Call (.Name "set" p2) [a] [] q2] X.env = (false, eval (.Call (.Name "set" p2) [a] [] q2) X.env) :: starEach [] X.env := by rfl) (hpl : (backTo q2 (starEach [] X.env)).any (·.1) = false := by rfl) (hpl2 : (backTo pos (starEach [] X.env)).any (·.1) = false := by rfl) :
    PE X (.Call (.Name "sorted" p) [.Call (.Name "set" p2) [a] [] q2] [] pos) (tF X.K (fSortSet fa)) :=
  (pe_callB (cr_sortedSet hc) hg hm (by decide +kernel) (pa_cons (pe_callTy (cr_setTI hc) hg2 hm2 (by decide +kernel) (pa_cons ha pa_nil he) (by decide) (by decide) he hpl) pa_nil he2) (by decide) (by decide) he2 hpl2).imp fun σ H Q ⟨as, S, d, μ', E, ed, q⟩ => by
    unfold fSortSet at ed
    split at ed
    · rename_i xs μ1 e1
      split at ed
      · rename_i ns e2
        split at ed
        · rename_i hl
          obtain ⟨rfl, rfl⟩ := pr_inj ed
          refine ⟨as, S, _, μ1, E, e1, fun v as1 H1 X1 r1 s1 => ?_⟩
          cases r1 with
          | @tup b vs ds t rs =>
            have ev := intsOf_ok rs e2
            subst ev
            refine ⟨b, ns, rfl, t.sq, hl, fun sa c hsa hcl => ⟨sa, _, c, rfl, upd_same, Nat.lt_of_le_of_lt hcl hl, fun ns' pp hs hmem _ hpp => ?_⟩⟩
            have e3 : ns' = sortU ns := pw_eq hs (pw_sortU ns) fun k => by rw [hmem k, mem_sortU, decide_eq_true_eq]
            subst e3
            have Y1 := Ext.new (o := SetO X.w sa (fun j => decide (j ∈ ns)) c) hsa (s1.out hsa)
            have t1 := s1.new (o := SetO X.w sa (fun j => decide (j ∈ ns)) c) hsa
            exact q _ as1 _ (X1.trans (Y1.trans (Ext.new hpp (t1.out hpp)) s1.trk) E.sto.trk) (.newL t1 hpp Reps.ints) (t1.new hpp)
        · cases ed
      · cases ed
    · cases ed
end

/-! ### unpacking any list or tuple -/
theorem PG.or {X : Cx} {e : Expr} {t u : TG} (h1 : PG X e t) (h2 : PG X e u) : PG X e (fun v σ H Q => t v σ H Q ∨ u v σ H Q) := ⟨fun pins s σ H v w Q I r z => z.elim (h1.run pins s σ H v w Q I r) (h2.run pins s σ H v w Q I r)⟩
def bSeq (n : Nat) (bs : Bds) : Bd := fun d S => match asQ d S.μ with
  | some xs => if xs.length = n then bs xs S else none
  | none => none
theorem dg_seq {X : Cx} {es : List Expr} {k : Nat} {pos : Pos} {bs : Bds} {ix : List Nat} {n : Nat} (hc : X.calm = true) (h : PGs X es (tGs X.K bs ix)) (hn : (assignEach es X.env).length = n := by rfl) (hst : (assignEach es X.env).findIdx? (·.1) = none := by rfl) :
    PG X (.Tuple es k pos) (tG X.K (bSeq n bs) ix) := PG.imp (PG.or (pg_tup hc h hn hst) (pg_lst hc h hn hst)) fun v σ H Q ⟨as, S, d, S', E, r, e, q⟩ => by
  unfold bSeq at e
  split at e
  · rename_i xs ex
    split at e
    · rename_i hl
      obtain ⟨a, vs, rfl, hq, rs⟩ := asQ_ok r E.sto ex
      rcases hq with hq | hq
      · exact .inr ⟨a, vs, rfl, hq, rs.length.trans hl, as, S, _, S', E, rs, e, q⟩
      · exact .inl ⟨a, vs, rfl, hq, rs.length.trans hl, as, S, _, S', E, rs, e, q⟩
    · cases e
  · cases e
end DL
set_option maxHeartbeats 3200000
/-! sorted(set(..)) of a list or tuple of pairs. -/
namespace L2
open PySem PySem.Spec PyProof.Rows
section
variable {P : Program} {w : World} {A : Around} {E : Value → Shared → Prop} {s : Shared}
/-- a set as it is made -/
abbrev set0 (w : World) : Obj := { cls := .type "set", dict := none, data := .set #[] 0 (.fresh 0 0 (!w.params.followText "set-order")) }
/-- set(a tuple of tuples) -/
theorem set_of_tup {l : Addr} {its : Array Value} (ks : List (Addr × List Int)) {Q : Value → Shared → Prop} (hh : A.handled = none) (hl : s.heap.IsTuple l its) (hit : its.toList = ks.map fun p => Value.ref p.1) (hk : ∀ p ∈ ks, IsT P w s.heap p.2 p.1) (few : ks.length < 64) (hu : A.units + 3 < cLine)
    (h : ∀ (h' : Heap) (tk : Nat) L es ep t, SetTR P w h' s.heap.objs.size L es ep t → Got ks ks.length L → (∀ b o, s.heap.get? b = some o → h'.get? b = some o) → Q (.ref s.heap.objs.size) { s with heap := h', toks := tk }) : wpAny (model P w) A (call (.type "set") [.ref l]) Q E s := by
  have sz : its.size = ks.length := by
    have q := congrArg List.length hit
    simpa using q
  obtain ⟨c, tl, mro⟩ := F.called_set.mro
  have made_ := F.called_set.made
  have sub_ := F.called_set.sub
  refine wpAny_call (codeAny_of_tree (show wpAny _ _ (callAny (.type "set") _) _ _ _ from ?_))
  refine wpAny_pure ⟨Code.quiet_builtin _ (by decide +kernel), codeAny_builtin F.entry_type_call ?_⟩
  rw [Around.under_plain (weight_type_call_type "set" [.ref l] []) rfl]
  have n1 := F.called_set.notType
  have n2 := F.called_set.canCreate
  have n3 := F.typeCall_set_1 (.ref l)
  repeat (any_goals (first | assumption | wp_step))

  refine codeAny_mono (code_set_led1 (.ref l) (E := E) (Q₁ := fun obj s₁ => obj = .ref s.heap.objs.size ∧ s₁ = { s with heap := s.heap.push (set0 w) }) ⟨rfl, rfl⟩) fun r s₁ hr => ?_
  cases r with
  | error e => exact hr
  | ok fl =>
    cases fl with
    | ret obj =>
      obtain ⟨rfl, rfl⟩ := hr
      have hS : (s.heap.push (set0 w)).get? s.heap.objs.size = some (set0 w) := Heap.get?_push_size _ rfl
      have hT : Shared.TypeIs { s with heap := s.heap.push (set0 w) } (.ref s.heap.objs.size) "set" := ⟨_, hS, rfl⟩
      have i1 := F.called_set.init.lookup
      have i2 := F.called_set.init.bind (.ref s.heap.objs.size)
      repeat (any_goals (first | assumption | wp_step))

      refine codeAny_mono (codeAny_call_builtin (R := wants (fun r s₂ => r = .none ∧ ∃ h' tk L es ep t, s₂ = { s with heap := h', toks := tk } ∧ SetTR P w h' s.heap.objs.size L es ep t ∧ Got ks ks.length L ∧ (∀ b o, s.heap.get? b = some o → h'.get? b = some o)) E) F.called_set.init.plain F.entry_set_init (check_set_init_1 hT ?_)) fun r₂ s₂ hr₂ => ?_
      · obtain ⟨⟨c0, d0, dt, sl⟩, hol, hcl, nl, hdl⟩ := hl
        simp only at hcl hdl
        subst hcl hdl
        have at1 : (s.heap.push (set0 w)).get? l = some { cls := .type "tuple", dict := d0, data := .seq its nl, slots := sl } := Heap.get?_push_of_some _ hol
        have s1 := F.sub_tuple_set
        have s2 := F.sub_tuple_frozenset
        have s3 : (Value.type "tuple" == Value.type "dict") = false := by decide
        have isT : (s.heap.push (set0 w)).IsTuple l its := ⟨_, at1, rfl, nl, rfl⟩
        unfold Builtin.«set.__init__» noKeywords Builtin.Frozenset.updateFrom
        generalize hPI : pyIter = PI
        wp_walk
        subst hPI

        refine wpAny_pyIter_tuple isT (wpAny_bind (wpAny_runValue ?_))
        have hlS : l < s.heap.objs.size := Heap.lt_size hol
        have hd3 : A.in1.in1.in1.handled = none := by simp [hh]
        have neI : l ≠ (s.heap.push (set0 w)).objs.size := by
          rw [Heap.size_push]
          exact fun z => Nat.lt_irrefl _ (Nat.lt_of_le_of_lt (Nat.le_of_eq z.symm) (Nat.lt_succ_of_lt hlS))
        have out : s.heap.objs.size ∉ [(s.heap.push (set0 w)).objs.size, l] := by
          rw [Heap.size_push]; simp only [List.mem_cons, List.not_mem_nil, or_false, not_or]
          exact ⟨fun z => Nat.lt_irrefl _ (Nat.lt_of_lt_of_le (Nat.lt_succ_self _) (Nat.le_of_eq z.symm)), fun z => Nat.lt_irrefl _ (Nat.lt_of_lt_of_le hlS (Nat.le_of_eq z))⟩
        have val : ∀ (i : Nat) (v : Value), its[i]? = some v → ∃ p, ks[i]? = some p ∧ v = .ref p.1 := fun i v hv => by
          have q : its.toList[i]? = some v := (Array.getElem?_toList ..).trans hv
          rw [hit, List.getElem?_map] at q
          obtain ⟨p, e1, e2⟩ := Option.map_eq_some_iff.mp q
          exact ⟨p, e1, e2.symm⟩
        have fresh : ∀ b, s.heap.objs.size ≤ b → s.heap.get? b = none := fun b hb => by
          cases q : s.heap.get? b with
          | none => rfl
          | some o => exact absurd (Heap.lt_size q) (Nat.not_lt.mpr hb)
        refine set_update_tups ((Walks.tuple hd3 _ l neI its).toS) s.heap.objs.size out ks sz few val s.heap hk (fresh _ (Nat.le_refl _)) (fun b hb => fresh b (by rw [List.mem_singleton.mp hb, Heap.size_push]; omega)) hu (its.size - 0) 0 _ (by omega) (Nat.zero_le _)
          ⟨⟨_, Heap.get?_push_size _ rfl, rfl, rfl⟩, (isT.push _)⟩ (fun b o e => Heap.get?_push_of_some _ (Heap.get?_push_of_some _ e)) ?first ?last
        case first => exact ⟨[], #[], 0, _, setTR_fresh (Heap.get?_push_of_some _ hS), Got.zero ks⟩
        case last =>
          intro s' L es ep t hm hS' got keep
          obtain ⟨h', g2, d', tk', os'⟩ := s'
          have z1 : g2 = s.gens := hm.gens
          have z2 : d' = s.drawn := hm.drawn
          have z3 : os' = s.os := hm.os
          subst z1 z2 z3
          refine wpAny_pure (show wpAny _ _ (ret Value.none) _ _ _ from ?_)
          rw [sz] at got
          exact wpAny_pure ⟨rfl, h', tk', L, es, ep, t, rfl, hS', got, keep⟩

      · cases r₂ with
        | error e => exact hr₂
        | ok fl₂ =>
          cases fl₂ with
          | ret r =>
            obtain ⟨rfl, h', tk, L, es, ep, t, rfl, hS', got, keep⟩ := hr₂
            repeat (any_goals (first | assumption | wp_step))
            exact h _ _ _ _ _ _ hS' got keep
          | _ => exact hr₂.elim
    | _ => exact hr.elim
end
section
variable {X : Cx}
/-- set(a tuple, or a list, of tuples of ints) -/
def rSetTT (K : PySem.W.Frag) (P : Program) (w : World) : List V → Hp → VK → Prop := fun xs H Q => ∃ (l : Addr) (ks : List (Addr × List Int)), xs = [V.ref l] ∧ (SqL K H l (ks.map fun p => V.ref p.1) ∨ SqT K H l (ks.map fun p => V.ref p.1)) ∧ (∀ p ∈ ks, SqT K H p.1 (p.2.map V.int)) ∧ ks.length < 64 ∧
  ∀ a L, H a = none → (∀ p ∈ L, p ∈ ks) → (∀ p ∈ ks, p.2 ∈ L.map (·.2)) → Q (.ref a) (upd H a (SetTO P w a L))
theorem cr_setTT (hc : X.calm = true) (hu : X.A.units + 64 < cLine) : CallR X (.type "set") (rSetTT X.K X.prog X.w) := by
  intro pins s σ H xs us Q I r ⟨l, ks, e, hl, hk, few, q⟩
  subst e
  rcases hl with hl | hl
  · exact cr_setOfT hc hu pins s σ H _ us Q I r ⟨l, ks, rfl, hl, hk, few, q⟩
  · rw [Vals.ref1 r]
    obtain ⟨its, rv, pl, hz⟩ := I.tuple hl
    have hn : H s.heap.objs.size = none := I.hok.fresh (Nat.le_refl _)
    refine set_of_tup (P := X.prog) (w := X.w) ks (I.ok.hd hc) pl (by simpa using refs_of_vals rv) (fun p hp => I.isT (hk p hp)) few (by omega) fun h' tk L es ep t R g k => ?_
    exact ⟨.ref s.heap.objs.size, _, I.laid (t' := tk) k (Nat.le_refl _) (setTO_new R.t0), rfl, q _ L hn (fun p hp => List.mem_of_mem_take (g.sub p hp)) fun p hp => g.all p (by rw [List.take_length]; exact hp)⟩
end
end L2
namespace DL
open PySem L2
theorem intsOf_map : ∀ l : List Int, intsOf (l.map D.int) = some l
  | [] => rfl
  | x :: l => by
    show (intsOf (l.map D.int)).map (x :: ·) = some (x :: l)
    rw [intsOf_map l]
    rfl
/-- pairs of numbers below 64 -/
def pairOf : D → Option (Int × Int)
  | .tup [.int a, .int b] => if 0 ≤ a ∧ a < 64 ∧ 0 ≤ b ∧ b < 64 then some (a, b) else none
  | _ => none
def pairsOf : List D → Option (List (Int × Int))
  | [] => some []
  | d :: ds => match pairOf d, pairsOf ds with
    | some p, some ps => some (p :: ps)
    | _, _ => none
def pD (p : Int × Int) : D := .tup [.int p.1, .int p.2]
def cdP (p : Int × Int) : Int := p.1 * 64 + p.2
def unP (c : Int) : Int × Int := (c / 64, c % 64)
def okP (p : Int × Int) : Prop := 0 ≤ p.1 ∧ p.1 < 64 ∧ 0 ≤ p.2 ∧ p.2 < 64
theorem un_cd {p : Int × Int} (h : okP p) : unP (cdP p) = p := by
  obtain ⟨a, b⟩ := p
  obtain ⟨h1, h2, h3, h4⟩ := h
  simp only at h1 h2 h3 h4
  unfold unP cdP
  ext <;> simp only <;> omega
/-- in ascending order, each once -/
def sortP (ps : List (Int × Int)) : List (Int × Int) := (sortU (ps.map cdP)).map unP
theorem pairOf_out {d : D} {p : Int × Int} (e : pairOf d = some p) : d = pD p ∧ okP p := by
  unfold pairOf at e
  split at e
  · split at e
    · rename_i h
      cases e
      exact ⟨rfl, h⟩
    · cases e
  · cases e
theorem pairsOf_out : ∀ {ds : List D} {ps : List (Int × Int)}, pairsOf ds = some ps → ds = ps.map pD ∧ ∀ p ∈ ps, okP p
  | [], ps, e => by cases e; exact ⟨rfl, by simp⟩
  | d :: ds, ps, e => by
    unfold pairsOf at e
    split at e
    · rename_i p qs e1 e2
      cases e
      obtain ⟨rfl, h1⟩ := pairOf_out e1
      obtain ⟨rfl, h2⟩ := pairsOf_out e2
      exact ⟨rfl, fun x hx => (List.mem_cons.mp hx).elim (fun z => z ▸ h1) (h2 x)⟩
    · cases e
theorem reps_pairs {K : PySem.W.Frag} {as : Ar} {H : Hp} : ∀ {ps : List (Int × Int)} {vs : List V}, Reps K as H vs (ps.map pD) → ∃ ks : List (Addr × List Int), vs = ks.map (fun p => V.ref p.1) ∧ ks.map (·.2) = ps.map (fun p => [p.1, p.2]) ∧ ∀ p ∈ ks, SqT K H p.1 (p.2.map V.int) ∧ Rep K as H (.ref p.1) (.tup (p.2.map D.int))
  | [], _, r => by cases r; exact ⟨[], rfl, rfl, by simp⟩
  | p :: ps, _, r => by
    cases r with
    | cons r1 r2 =>
    obtain ⟨ks, e1, e2, e3⟩ := reps_pairs r2
    cases r1 with
    | @tup a vs ds t rs =>
      have ev : vs = [p.1, p.2].map V.int := by
        cases rs with
        | cons a1 a2 =>
        cases a2 with
        | cons b1 b2 =>
        cases b2
        cases a1
        cases b1
        rfl
      subst ev
      refine ⟨(a, [p.1, p.2]) :: ks, by rw [e1]; rfl, by rw [List.map_cons, e2]; rfl, fun x hx => ?_⟩
      rcases List.mem_cons.mp hx with rfl | hx
      · exact ⟨t.sq, .tup t rs⟩
      · exact e3 x hx
section
variable {X : Cx} {a : Expr} {fa : EvE} {p p2 pos q2 : Pos}
def fSortSetP (fa : EvE) : EvE := fun S => match fa S with
  | some (x, μ1) => match asQ x μ1 with
    | some xs => match pairsOf xs with
      | some ps => if ps.length < 64 then some (.lst ((sortP ps).map pD), μ1) else none
      | none => none
    | none => none
  | _ => none
/-- the sorted set's items, by the kit's words of them -/
theorem sorted_items {ps : List (Int × Int)} {ks L L' : List (Addr × List Int)} (hp : ∀ p ∈ ps, okP p) (e : ks.map (·.2) = ps.map fun p => [p.1, p.2]) (s1 : ∀ p ∈ L, p ∈ ks) (s2 : ∀ p ∈ ks, p.2 ∈ L.map (·.2)) (pm : L'.Perm L) (nd : (L'.map (·.2)).Nodup) (pw : L'.Pairwise fun q r => TS.code 64 q.2 ≤ TS.code 64 r.2) :
    L'.map (fun q => D.tup (q.2.map D.int)) = (sortP ps).map pD := by
  have shape : ∀ q ∈ ks, ∃ p ∈ ps, q.2 = [p.1, p.2] := fun q hq => by
    have z : q.2 ∈ ks.map (·.2) := List.mem_map.mpr ⟨q, hq, rfl⟩
    rw [e] at z
    obtain ⟨p, h1, h2⟩ := List.mem_map.mp z
    exact ⟨p, h1, h2.symm⟩
  have shape' : ∀ q ∈ L', ∃ p ∈ ps, q.2 = [p.1, p.2] := fun q hq => shape q (s1 q (pm.mem_iff.mp hq))
  have cd : ∀ p : Int × Int, TS.code 64 [p.1, p.2] = cdP p := fun p => code_pair p.1 p.2
  have key : L'.map (fun q => TS.code 64 q.2) = sortU (ps.map cdP) := by
    refine pw_eq ?_ (pw_sortU _) fun k => ?_
    · rw [List.pairwise_map]
      have nd' : L'.Pairwise fun q r => q.2 ≠ r.2 := by
        have z := nd
        rw [List.Nodup, List.pairwise_map] at z
        exact z
      refine (pw.and nd').imp_of_mem fun {q r} hq hr ⟨h1, h2⟩ => ?_
      obtain ⟨p1, m1, e1⟩ := shape' q hq
      obtain ⟨p3, m2, e2⟩ := shape' r hr
      rw [e1, e2] at h1 h2 ⊢
      rw [cd, cd] at h1 ⊢
      refine Int.lt_iff_le_and_ne.mpr ⟨h1, fun z => h2 ?_⟩
      have z2 := congrArg unP z
      rw [un_cd (hp _ m1), un_cd (hp _ m2)] at z2
      rw [z2]
    · rw [mem_sortU, List.mem_map, List.mem_map]
      constructor
      · rintro ⟨q, hq, rfl⟩
        obtain ⟨p, m, ep⟩ := shape' q hq
        exact ⟨p, m, by rw [ep, cd]⟩
      · rintro ⟨p, m, rfl⟩
        have z : [p.1, p.2] ∈ ks.map (·.2) := by rw [e]; exact List.mem_map.mpr ⟨p, m, rfl⟩
        obtain ⟨q, hq, eq⟩ := List.mem_map.mp z
        obtain ⟨q', hq', eq'⟩ := List.mem_map.mp (s2 q hq)
        exact ⟨q', pm.mem_iff.mpr hq', by rw [eq', eq, cd]⟩
  unfold sortP
  rw [← key, List.map_map, List.map_map]
  refine List.map_congr_left fun q hq => ?_
  obtain ⟨p, m, ep⟩ := shape' q hq
  show D.tup (q.2.map D.int) = pD (unP (TS.code 64 q.2))
  rw [ep, cd, un_cd (hp p m)]
  rfl
theorem de_sortSetP (hc : X.calm = true) (hu : X.A.units + 64 < cLine) (hg : Gl X "sorted") (hm : X.mg "sorted" = none) (hg2 : Gl X "set") (hm2 : X.mg "set" = none) (ha : PE X a (tF X.K fa)) (he : starEach [a] X.env = (false, eval a X.env) :: starEach [] X.env := by rfl)
    (he2 : starEach [.Call (.Name "set" p2) [a] [] q2] X.env = (false, eval (.Call (.Name "set" p2) [a] [] q2) X.env) :: starEach [] X.env := by rfl) (hpl : (backTo q2 (starEach [] X.env)).any (·.1) = false := by rfl) (hpl2 : (backTo pos (starEach [] X.env)).any (·.1) = false := by rfl) :
    PE X (.Call (.Name "sorted" p) [.Call (.Name "set" p2) [a] [] q2] [] pos) (tF X.K (fSortSetP fa)) :=
  (pe_callB (cr_sortedT hc) hg hm (by decide +kernel) (pa_cons (pe_callTy (cr_setTT hc hu) hg2 hm2 (by decide +kernel) (pa_cons ha pa_nil he) (by decide) (by decide) he hpl) pa_nil he2) (by decide) (by decide) he2 hpl2).imp fun σ H Q ⟨as, S, d, μ', E, ed, q⟩ => by
    unfold fSortSetP at ed
    split at ed
    · rename_i x μ1 e1
      split at ed
      · rename_i xs ex
        split at ed
        · rename_i ps e2
          split at ed
          · rename_i hl
            obtain ⟨rfl, rfl⟩ := pr_inj ed
            obtain ⟨rfl, hp⟩ := pairsOf_out e2
            refine ⟨as, S, _, μ1, E, e1, fun v as1 H1 X1 r1 s1 => ?_⟩
            obtain ⟨b, vs, rfl, hq, rs⟩ := asQ_ok r1 s1 ex
            obtain ⟨ks, rfl, k2, k3⟩ := reps_pairs rs
            have hlen : ks.length < 64 := by
              have z := congrArg List.length k2
              simp only [List.length_map] at z
              omega
            refine ⟨b, ks, rfl, hq, fun p hp => (k3 p hp).1, hlen, fun sa L hsa sub all => ?_⟩
            have Y1 := Ext.new (o := SetTO X.prog X.w sa L) hsa (s1.out hsa)
            have t1 := s1.new (o := SetTO X.prog X.w sa L) hsa
            have el : ∀ p ∈ L, p.2.length = 2 ∧ TS.Bd 64 p.2 := fun p hpL => by
              have z : p.2 ∈ ks.map (·.2) := List.mem_map.mpr ⟨p, sub p hpL, rfl⟩
              rw [k2] at z
              obtain ⟨pp, m, e⟩ := List.mem_map.mp z
              rw [← e]
              obtain ⟨g1, g2, g3, g4⟩ := hp pp m
              refine ⟨rfl, fun n hn => ?_⟩
              rcases List.mem_cons.mp hn with rfl | hn
              · exact ⟨g1, g2⟩
              · rw [List.mem_singleton.mp hn]
                exact ⟨g3, g4⟩
            refine ⟨sa, L, 2, 64, rfl, upd_same, fun p hpL => ?_, by decide, el, fun L' pp pm nd few pw hpp => ?_⟩
            · have r := ((k3 p (sub p hpL)).2).mv Y1
              cases r with
              | @tup _ vs2 _ t rs2 =>
                have ev := intsOf_ok (bs := p.2) rs2 (intsOf_map _)
                subst ev
                exact t.sq
            · have rl : Reps X.K as1 (upd (upd H1 sa (SetTO X.prog X.w sa L)) pp (.lst (L'.map fun q => V.ref q.1))) (L'.map fun q => V.ref q.1) (L'.map fun q => D.tup (q.2.map D.int)) := by
                have Z := Ext.new (o := .lst (L'.map fun q => V.ref q.1)) hpp (t1.out hpp)
                have all' : ∀ q ∈ L', Rep X.K as1 (upd (upd H1 sa (SetTO X.prog X.w sa L)) pp (.lst (L'.map fun q => V.ref q.1))) (.ref q.1) (.tup (q.2.map D.int)) := fun q hq => (((k3 q (sub q (pm.mem_iff.mp hq))).2).mv Y1).mv Z
                have go : ∀ M : List (Addr × List Int), (∀ q ∈ M, q ∈ L') → Reps X.K as1 (upd (upd H1 sa (SetTO X.prog X.w sa L)) pp (.lst (L'.map fun q => V.ref q.1))) (M.map fun q => V.ref q.1) (M.map fun q => D.tup (q.2.map D.int)) := by
                  intro M
                  induction M with
                  | nil => intro _; exact .nil
                  | cons q M ih => intro h; exact .cons (all' q (h q List.mem_cons_self)) (ih fun z hz => h z (List.mem_cons_of_mem _ hz))
                exact go L' fun _ h => h
              rw [← sorted_items hp k2 sub all pm nd pw] at q
              have W := t1.new (o := .lst (L'.map fun q => V.ref q.1)) hpp
              exact q _ as1 _ (X1.trans (Y1.trans (Ext.new hpp (t1.out hpp)) s1.trk) E.sto.trk) (.lst upd_same (t1.out hpp) rl) W
          · cases ed
        · cases ed
      · cases ed
    · cases ed
end
end DL
set_option maxHeartbeats 2000000
/-! Tuples: max, order, +, *; get of a written table; classes by name. -/
namespace DL
open PySem PySem.Spec PyProof.Rows L2
section
variable {X : Cx}
/-! ### max of a tuple -/
def dMaxA : D → List Cell → Option D := fun x μ => match x with
  | .tup xs => match intsOf xs with
    | some (n :: ns) => some (.int (ns.foldl max n))
    | _ => none
  | x => dMaxL x μ
theorem reads_ints {h : Heap} : ∀ {us : List Value} {ns : List Int}, Vals (ns.map V.int) us → ∃ as, ReadsAll h us (ns.map PyData.int) as
  | _, [], r => by cases r; exact ⟨_, .nil⟩
  | _, n :: ns, r => by
    cases r with
    | cons r1 r2 =>
    obtain ⟨t, rfl⟩ := r1
    obtain ⟨as, q⟩ := reads_ints (h := h) r2
    exact ⟨_, .cons (.int n t) q⟩
theorem alike_ints (ns : List Int) : PySem.W.AlikeAll (ns.map PyData.int) := by
  refine ⟨fun x hx y hy => ?_, fun x hx => ?_⟩
  · obtain ⟨i, _, rfl⟩ := List.mem_map.mp hx
    obtain ⟨j, _, rfl⟩ := List.mem_map.mp hy
    rfl
  · obtain ⟨i, _, rfl⟩ := List.mem_map.mp hx
    exact nofun
theorem depth_ints : ∀ ns : List Int, PyData.depthAll (ns.map PyData.int) = 0
  | [] => rfl
  | n :: ns => by
    show max (PyData.int n).depth (PyData.depthAll (ns.map PyData.int)) = 0
    rw [depth_ints ns]
    rfl
theorem call_maxAD (hc : X.calm = true) (hu : X.A.units + 64 < cLine) : CallR X (.builtin "max") (rCD X.K (g1 dMaxA)) := call1 fun pins s σ H x us Q as d μ z I r rd sto ez q => by
  unfold dMaxA at ez
  split at ez
  · split at ez
    · rename_i n ns e1
      cases Option.some.inj ez
      obtain ⟨u, rfl, ru⟩ := Vals.one r
      cases rd with
      | @tup a vs _ t rs =>
        have ev := intsOf_ok rs e1
        subst ev
        cases ru
        obtain ⟨its, rv, pl, _⟩ := I.tuple t.sq
        obtain ⟨bs, rr⟩ := reads_ints (h := s.heap) (ns := n :: ns) rv
        refine PySem.W.max_tuple_data (x := .int n) (xs := ns.map PyData.int) (I.ok.hd hc) pl (by simpa using rr) (alike_ints (n :: ns)) (by rw [show PyData.int n :: ns.map PyData.int = (n :: ns).map PyData.int from rfl, depth_ints]; omega) fun i v h' tk cs hv rd' k => ?_
        rw [PySem.W.maxD_ints] at rd'
        cases rd' with
        | int _ t' => exact ⟨.int _, H, I.kept k, ⟨t', rfl⟩, q _ H .refl (.int _) sto⟩
    · cases ez
  · exact call_maxLD hc pins s σ H _ us Q I r ⟨as, [d], μ, z, .cons rd .nil, sto, ez, q⟩
/-! ### the order of tuples of ints -/
def ltT (x y : D) : Option Bool := match x, y with
  | .tup xs, .tup ys => match intsOf xs, intsOf ys with
    | some ns, some ms => some (HT.lexLt ns ms)
    | _, _ => none
  | _, _ => none
def dLtA : D → D → List Cell → Option D := fun x y μ => (dLt x y μ).or ((ltT x y).map .bl)
theorem dLtA_bl : ∀ x y μ z, dLtA x y μ = some z → ∃ k, z = .bl k := fun x y μ z e => by
  rcases or_out e with e | e
  · exact dOrd_bl x y μ z e
  · exact map_bl (f := fun k => k) e
theorem op_ltAD (hu : X.A.units < cLine) : OpR X (compareOp .Lt) (rD X.K dLtA) := by
  intro pins s σ H x y v u Q I rx ry ⟨as, d, e, μ, z, rd, re, sto, ez, q⟩
  rcases or_out ez with ez | ez
  · exact op_ltD pins s σ H x y v u Q I rx ry ⟨as, d, e, μ, z, rd, re, sto, ez, q⟩
  · obtain ⟨k, ek, rfl⟩ := Option.map_eq_some_iff.mp ez
    unfold ltT at ek
    split at ek
    · split at ek
      · rename_i ns ms e1 e2
        cases Option.some.inj ek
        cases rd with
        | tup t1 r1 =>
        cases re with
        | tup t2 r2 =>
        have z1 := intsOf_ok r1 e1
        have z2 := intsOf_ok r2 e2
        subst z1 z2
        exact op_ltT hu pins s σ H _ _ v u Q I rx ry ⟨_, _, ns, ms, rfl, rfl, t1.sq, t2.sq, q _ H .refl (.bl _) sto⟩
      · cases ek
    · cases ek
/-! ### + -/
def dAddA : D → D → List Cell → Option D := fun x y μ => match x, y with
  | .tup xs, .tup ys => if xs.length + ys.length ≤ sizeLine then some (.tup (xs ++ ys)) else none
  | x, y => dAdd x y μ
theorem op_addAD : OpR X (binaryOp .Add) (rD X.K dAddA) := by
  intro pins s σ H x y v u Q I rx ry ⟨as, d, e, μ, z, rd, re, sto, ez, q⟩
  unfold dAddA at ez
  split at ez
  · rename_i xs ys
    split at ez
    · rename_i hl
      cases Option.some.inj ez
      cases rd with
      | @tup a vs _ t1 r1 =>
      cases re with
      | @tup b ws _ t2 r2 =>
      have l1 := r1.length
      have l2 := r2.length
      refine op_catA pins s σ H _ _ v u Q I rx ry ⟨a, b, vs, ws, rfl, rfl, t1.sq, t2.sq, by omega, fun h1 => ?_, fun h1 h2 => ?_, fun h1 h2 p hp => ?_⟩
      · subst h1
        cases r1
        exact q _ H .refl (.tup t2 r2) sto
      · subst h2
        cases r2
        rw [List.append_nil] at q
        exact q _ H .refl (.tup t1 r1) sto
      · have X1 := Ext.new (o := .tup (vs ++ ws)) hp (sto.out hp)
        exact q _ _ X1 (.tup (.inl ⟨.inl upd_same, sto.out hp⟩) ((r1.append r2).mv X1)) (sto.new hp)
    · cases ez
  · exact op_addD pins s σ H x y v u Q I rx ry ⟨as, d, e, μ, z, rd, re, sto, ez, q⟩
/-! ### a class by its name -/
theorem de_gcls {x : Str} {C : Addr} {pos : Pos} (hc : PySem.W.nsIn X.K mainGlobals x = some (some (.ref C))) (hg : Gl X x) (hm : X.mg x = some (.ref C)) (hdb : (x == ("__debug__" : Str)) = false := by decide) : PE X (.Name x pos) (tF X.K (fC (.cls x))) :=
  (pe_glob (v := .ref C) hg hm rfl (hd := hdb)).imp (tF_c fun _ _ => .cls hc)
/-- isinstance(x, C): by the table, for values of built-in types -/
def dIsC (nm : Str) (tab : String → Option Bool) : D → D → List Cell → Option D
  | d, .cls n, μ => if n = nm then (if isO nm d μ then some (.bl true) else match tyOf d μ with
    | some T => (tab T).map .bl
    | none => none) else none
  | _, _, _ => none
end
/-! ### d.get(x), d a written table from texts to ints -/
def KEnt (P : Params) : List DictEntry → List (Str × Int) → Prop
  | [], [] => True
  | e :: es, (x, i) :: l => (∃ t, e.key = .str x t ∧ e.hash = PyData.keyHash P x) ∧ (∃ t, e.val = .int i t) ∧ KEnt P es l
  | _, _ => False
theorem KEnt.lit {P : Params} : ∀ {es : List DictEntry} {l : List (Str × Int)}, KEnt P es l → PySem.W.KeysLit P es
  | [], [], _ => trivial
  | _ :: _, [], h => h.elim
  | [], _ :: _, h => h.elim
  | e :: es, (x, i) :: l, h => ⟨⟨x, h.1⟩, KEnt.lit h.2.2⟩
theorem KEnt.find {P : Params} (z : Str) : ∀ {es : List DictEntry} {l : List (Str × Int)}, KEnt P es l → (∀ i, l.lookup z = some i → ∃ e t, es.find? (·.key.isStr z) = some e ∧ e.val = .int i t) ∧ (l.lookup z = none → es.find? (·.key.isStr z) = none ∧ es.any (·.refKey) = false)
  | [], [], _ => ⟨fun i e => by simp at e, fun _ => ⟨rfl, rfl⟩⟩
  | _ :: _, [], h => h.elim
  | [], _ :: _, h => h.elim
  | e :: es, (x, i) :: l, h => by
    obtain ⟨⟨t, ek, _⟩, ⟨u, ev⟩, hr⟩ := h
    obtain ⟨ih1, ih2⟩ := KEnt.find z hr
    have hk : e.key.isStr z = (x == z) := by rw [ek]; rfl
    have hrk : e.refKey = false := by unfold DictEntry.refKey; rw [ek]
    by_cases hz : x = z
    · subst hz
      have e1 : (x == x) = true := beq_self_eq_true x
      refine ⟨fun j hj => ?_, fun hj => ?_⟩
      · rw [List.lookup_cons, e1] at hj
        cases hj
        exact ⟨e, u, by rw [List.find?_cons, hk, e1], ev⟩
      · rw [List.lookup_cons, e1] at hj
        cases hj
    · have e1 : (x == z) = false := beq_eq_false_iff_ne.mpr hz
      have e2 : (z == x) = false := beq_eq_false_iff_ne.mpr (Ne.symm hz)
      refine ⟨fun j hj => ?_, fun hj => ?_⟩
      · rw [List.lookup_cons, e2] at hj
        obtain ⟨e', t', a, b⟩ := ih1 j hj
        exact ⟨e', t', by rw [List.find?_cons, hk, e1]; exact a, b⟩
      · rw [List.lookup_cons, e2] at hj
        obtain ⟨a, b⟩ := ih2 hj
        exact ⟨by rw [List.find?_cons, hk, e1]; exact a, by rw [List.any_cons, hrk, b]; rfl⟩
structure KTab (K : PySem.W.Frag) (P : Params) (a : Addr) (l : List (Str × Int)) : Prop where
  ex : ∃ es n, K.lookup a = some ⟨.type "dict", none, .dict es n, #[]⟩ ∧ KEnt P es.toList l
  low : (a == sysModules) = false
section
variable {X : Cx} {a : Expr} {fa : EvE} {p apos cpos : Pos} {x : Str} {l : List (Str × Int)} {d : Addr}
def dKGet (l : List (Str × Int)) : D → List Cell → Option D
  | .str z, _ => some (match l.lookup z with
    | some i => .int i
    | none => .non)
  | _, _ => none
theorem de_kget (hg : Gl X x) (hm : X.mg x = some (.ref d)) (T : KTab X.K X.w.params d l) (he : PE X a (tF X.K fa)) (hdb : (x == ("__debug__" : Str)) = false := by decide) (base : attributeBase (.Name x p) "get" X.env (eval (.Name x p) X.env) = eval (.Name x p) X.env := by rfl)
    (few : ((backTo cpos (starEach [a] X.env)).all (fun x => !x.1) && (backToKw cpos (keywordEach [] X.env)).all (fun x => x.1.isSome) && decide (([a] : List Expr).length + ([] : List Keyword).length + (if ([] : List Keyword).isEmpty then 0 else 1) < 30)) = true := by rfl)
    (line : (apos.endLine == cpos.line) = true := by rfl) (trees : backTo cpos (starEach [a] X.env) = [(false, eval a X.env)] := by rfl) : PE X (.Call (.Attribute (.Name x p) "get" apos) [a] [] cpos) (tF X.K (fU (dKGet l) fa)) := by
  refine ⟨fun pins s σ H Q I ⟨as, S, r, μ', E, ed, q⟩ => ?_⟩
  obtain ⟨y, ey, ez⟩ := fU_out ed
  obtain ⟨⟨es, n, hl, ke⟩, low⟩ := T
  have hmap := PySem.W.mapOf_K (prog := X.prog) (w := X.w) I.kIn hl ke.lit
  refine wpAny_Call_method base few line PySem.F.plainAttrs_dict PySem.F.slot_dict_get PySem.F.type_dict_get (ld_glob I hg hm ⟨hmap.typeIs, fun b e => ?_, ?_⟩ hdb)
  · cases e
    exact ⟨_, I.kIn _ _ hl, rfl⟩
  · rw [trees]
    refine Calls.callWith_builtin rfl (Calls.evalArgs_plain (Calls.spliced_cons (thn (he.run pins s σ H (fun v H1 => ∃ as1, Ext as H as1 H1 ∧ Rep X.K as1 H1 v y ∧ StoR X.K as1 H1 μ') I ⟨as, S, y, μ', E, ey, fun v as1 H1 X1 r1 s1 => ⟨as1, X1, r1, s1⟩⟩) fun iv s2 ⟨v, H2, I2, rv, as1, X1, r1, s1⟩ => Calls.spliced_nil ?_)))
    unfold dKGet at ez
    split at ez
    · rename_i zz _
      cases Option.some.inj ez
      cases r1
      obtain ⟨t, rfl⟩ := rv
      have hmap2 := PySem.W.mapOf_K (prog := X.prog) (w := X.w) I2.kIn hl ke.lit
      refine call_meetsIn PySem.F.slot_dict_get hmap2.typeIs PySem.F.entry_dict_get (PySem.F.args_dict_get_2 _ _) (meets_dict_get (strKind X.prog X.w) d (strKind_is X.prog X.w zz t) low) ⟨_, hmap2, ?_⟩
      obtain ⟨k1, k2⟩ := KEnt.find zz ke
      cases e : l.lookup zz with
      | some i =>
        obtain ⟨en, t', f1, f2⟩ := k1 i e
        have hn : PySem.W.nsIn X.K d zz = some (some en.val) := by unfold PySem.W.nsIn; rw [hl]; dsimp only; rw [f1]
        rw [PySem.W.find_K hl hn, f2]
        exact ⟨.int i, H2, I2.tok _, ⟨t', rfl⟩, by rw [e] at q; exact q _ as1 H2 X1 (.int i) s1⟩
      | none =>
        obtain ⟨f1, f2⟩ := k2 e
        have hn : PySem.W.nsIn X.K d zz = some none := by unfold PySem.W.nsIn; rw [hl]; dsimp only; rw [f1]; dsimp only; rw [f2]; rfl
        rw [PySem.W.find_K hl hn]
        exact ⟨.non, H2, I2.tok _, rfl, by rw [e] at q; exact q _ as1 H2 X1 .non s1⟩
    · cases ez
end
end DL
set_option maxHeartbeats 4000000
namespace DL
open PySem PySem.Spec PyProof.Rows L2
open AutoSeq1 (wpAny_loadPart')
section
variable (l : Addr) (its : Array Value) (n : Nat) (dd : Option Addr) (sl : Array (Option Value)) (u : Tok)
theorem tuple_mul1 : Meets (Builtin.«tuple.__mul__» ⟨[.ref l, .int 1 u], []⟩) (fun _ R s => s.heap.get? l = some { cls := .type "tuple", dict := dd, data := .seq its n, slots := sl } ∧ R (.ok (.ret (Value.ref l))) s) :=
  .of_wp fun prog w A R s h => by
    obtain ⟨hp, g, d, tk, os⟩ := s
    obtain ⟨hl, h⟩ := h
    have f1 := AutoSeq1.idx_int
    have c0 : (decide ((1 : Int) < -(2 ^ 63)) || decide ((1 : Int) ≥ 2 ^ 63)) = false := by decide
    have c1 : (its.isEmpty || (1 : Int) == 1) = true := by simp
    wp_walk using wpAny_loadPart' hl
    repeat (first
      | (refine wpAny_ite_false (decide_eq_false (by rw [c0]; exact Bool.false_ne_true)) ?_; wp_walk using wpAny_loadPart' hl)
      | (refine wpAny_ite_true (decide_eq_true (by rw [c1])) ?_; wp_walk using wpAny_loadPart' hl))
    exact ⟨_, rfl, h⟩
theorem tuple_mul0 (c1 : its.isEmpty = false) : Meets (Builtin.«tuple.__mul__» ⟨[.ref l, .int 0 u], []⟩) (fun _ R s => s.heap.get? l = some { cls := .type "tuple", dict := dd, data := .seq its n, slots := sl } ∧ R (.ok (.ret (Value.ref s.heap.objs.size))) { s with heap := s.heap.push { cls := Value.type "tuple", data := Data.seq #[] }, toks := s.toks }) :=
  .of_wp fun prog w A R s h => by
    obtain ⟨hp, g, d, tk, os⟩ := s
    obtain ⟨hl, h⟩ := h
    have f1 := AutoSeq1.idx_int
    have c0 : (decide ((0 : Int) < -(2 ^ 63)) || decide ((0 : Int) ≥ 2 ^ 63)) = false := by decide
    have c2 : (its.isEmpty || (0 : Int) == 1) = false := by rw [c1]; rfl
    have c3 : (decide ((0 : Int) ≤ 0) || its.isEmpty) = true := by rw [c1]; rfl
    wp_walk using wpAny_loadPart' hl
    repeat (first
      | (refine wpAny_ite_false (decide_eq_false (by rw [c0]; exact Bool.false_ne_true)) ?_; wp_walk using wpAny_loadPart' hl)
      | (refine wpAny_ite_false (decide_eq_false (by rw [c2]; exact Bool.false_ne_true)) ?_; wp_walk using wpAny_loadPart' hl)
      | (refine wpAny_ite_true (decide_eq_true (by rw [c3])) ?_; wp_walk using wpAny_loadPart' hl))
    exact ⟨_, rfl, h⟩
end
section
variable {X : Cx}
def dMulA : D → D → List Cell → Option D := fun x y μ => match x, y with
  | .tup xs, .int k => if xs ≠ [] ∧ 0 ≤ k ∧ k ≤ 1000 ∧ xs.length ≤ 1000 then some (.tup (List.replicate k.toNat xs).flatten) else none
  | x, y => dMul x y μ
theorem op_mulAD : OpR X (binaryOp .Mult) (rD X.K dMulA) := by
  intro pins s σ H x y v u Q I rx ry ⟨as, d, e, μ, z, rd, re, sto, ez, q⟩
  unfold dMulA at ez
  split at ez
  · rename_i xs k
    split at ez
    · rename_i hk
      obtain ⟨hne, h0, h1, hz⟩ := hk
      cases Option.some.inj ez
      cases re
      cases rd with
      | @tup a vs _ t rs =>
      have lv := rs.length
      have vne : vs ≠ [] := fun z => by subst z; cases rs; exact hne rfl
      by_cases k2 : 2 ≤ k
      · refine op_repT pins s σ H _ _ v u Q I rx ry ⟨a, k, vs, rfl, rfl, t.sq, vne, k2, h1, by omega, fun p hp => ?_⟩
        have X1 := Ext.new (o := .tup (List.replicate k.toNat vs).flatten) hp (sto.out hp)
        exact q _ _ X1 (.tup (.inl ⟨.inl upd_same, sto.out hp⟩) ((rs.reps k.toNat).mv X1)) (sto.new hp)
      · cases rx
        obtain ⟨tk, rfl⟩ := ry
        obtain ⟨its, r, ⟨⟨cls, dd, data, sl⟩, ho, hc, n, hd⟩, hs⟩ := I.tuple t.sq
        simp only at hc hd
        subst hc hd
        have hi : its.toArray.isEmpty = false := by
          cases its with
          | nil => cases r; exact absurd rfl vne
          | cons a b => rfl
        have hk : k = 0 ∨ k = 1 := by omega
        rcases hk with rfl | rfl
        · refine wpAny_binaryOp_repeat_ref (T := "tuple") (U := "int") (by decide) ⟨_, ho, rfl⟩ (fun s' => typeIs_int s' 0 tk) noFill_tuple_mul F.fills_int_mul F.slot_int_rmul repeat_tuple F.slot_int_index.lookup (call_meets F.slot_int_rmul (typeIs_int s 0 tk) F.entry_int_rmul (F.args_int_rmul_2 _ _) (int_rmul_tuple 0 tk a its.toArray n dd sl)
            ⟨ho, rfl, ⟨_, ho, rfl⟩, call_meets F.slot_tuple_mul ⟨_, ho, rfl⟩ F.entry_tuple_mul (F.args_tuple_mul_2 _ _) (tuple_mul0 a its.toArray n dd sl tk hi) ⟨ho, ?_⟩⟩)
          have hp := I.hok.fresh (Nat.le_refl s.heap.objs.size)
          refine ⟨.ref s.heap.objs.size, _, I.laid (t' := s.toks) (o := .tup []) (fun b ob q => Heap.get?_push_of_some _ q) (Nat.le_refl _) ⟨Nat.zero_le _, [], .nil, IsTup.new _ _⟩, rfl, ?_⟩
          exact q _ _ (Ext.new hp (sto.out hp)) (.tup (.inl ⟨.inl upd_same, sto.out hp⟩) .nil) (sto.new hp)
        · refine wpAny_binaryOp_repeat_ref (T := "tuple") (U := "int") (by decide) ⟨_, ho, rfl⟩ (fun s' => typeIs_int s' 1 tk) noFill_tuple_mul F.fills_int_mul F.slot_int_rmul repeat_tuple F.slot_int_index.lookup (call_meets F.slot_int_rmul (typeIs_int s 1 tk) F.entry_int_rmul (F.args_int_rmul_2 _ _) (int_rmul_tuple 1 tk a its.toArray n dd sl)
            ⟨ho, rfl, ⟨_, ho, rfl⟩, call_meets F.slot_tuple_mul ⟨_, ho, rfl⟩ F.entry_tuple_mul (F.args_tuple_mul_2 _ _) (tuple_mul1 a its.toArray n dd sl tk) ⟨ho, ?_⟩⟩)
          refine ⟨.ref a, H, I, rfl, ?_⟩
          have e1 : (List.replicate (1 : Int).toNat xs).flatten = xs := by simp
          rw [e1] at q
          exact q _ H .refl (.tup t rs) sto
    · cases ez
  · exact op_mulD pins s σ H x y v u Q I rx ry ⟨as, d, e, μ, z, rd, re, sto, ez, q⟩
theorem call_isCD {nm : Str} {tab : String → Option Bool} {C : Addr} (hc : PySem.W.nsIn X.K mainGlobals nm = some (some (.ref C))) (c : C8.InsC X.K C) (ht : ∀ T b, tab T = some b → PySem.W.kitOne X.K (.type T) (.ref C) = some b) : CallR X (.builtin "isinstance") (rCD X.K (g2 (dIsC nm tab))) := call2 fun pins s σ H x y us Q as d e μ z I r rd re sto ez q => by
  unfold dIsC at ez
  split at ez
  · rename_i n
    split at ez
    · rename_i hn
      subst hn
      cases re with
      | @cls C' _ hc' =>
        have zz := hc.symm.trans hc'
        injection zz with zz
        injection zz with zz
        injection zz with zz
        subst zz
        split at ez
        · rename_i ho
          cases Option.some.inj ez
          obtain ⟨a, dx, fv, rfl, ha⟩ := isO_ok hc rd sto ho
          exact C8.call_isC c pins s σ H _ us Q I r ⟨a, dx, fv, rfl, ha, q _ H .refl (.bl _) sto⟩
        · split at ez
          · rename_i T eT
            obtain ⟨b, eb, rfl⟩ := Option.map_eq_some_iff.mp ez
            exact call_isi pins s σ H _ us Q I r ⟨x, _, _, _, b, rfl, .own C, (tyOf_ok rd sto eT).2, ht T b eb, q _ H .refl (.bl b) sto⟩
          · cases ez
    · cases ez
  · cases ez
end
end DL
set_option maxHeartbeats 2000000
/-! t[::-1] -/
namespace DL
open PySem PySem.Spec PyProof.Rows L2 HT
section
variable {prog : Program} {w : World} {A : Around} {E : Value → Shared → Prop} {s : Shared}
theorem adjust_rev (n : Nat) : Builtin.Slice.sliceAdjust none none (-1) (n : Int) = ((n : Int) - 1, -1) := by
  unfold Builtin.Slice.sliceAdjust
  simp
theorem places_rev (n : Nat) : Builtin.Slice.slicePlaces ((n : Int) - 1) (-1) (-1) = n := by
  unfold Builtin.Slice.slicePlaces
  simp
  all_goals omega
theorem applied_rev {sl : Addr} {vl vu vs : Value} {n : Nat} {Q : Int × Int × Nat → Shared → Prop} (hs : s.heap.IsSliceOf sl vl vu vs) (pl : IsPart vl none) (pu : IsPart vu none) (ps : IsPart vs (some (-1))) (h : Q ((n : Int) - 1, -1, n) s) :
    wpAny (model prog w) A (Builtin.Slice.sliceApplied (.ref sl) (pure (n : Int))) Q E s := by
  obtain ⟨os, o1, o2, o3⟩ := id hs
  unfold Builtin.Slice.sliceApplied Builtin.Slice.sliceFields
  refine wpAny_bind (wpAny_bind (wpAny_field o1 o3 (x := vl) rfl (wpAny_bind (wpAny_field o1 o3 (x := vu) rfl (wpAny_bind (wpAny_field o1 o3 (x := vs) rfl (wpAny_pure ?_)))))))
  refine wpAny_bind (slicePart_ ps ?_)
  show wpAny _ _ (if ((-1 : Int) == 0) = true then _ else _) _ _ s
  rw [if_neg (by decide)]
  refine wpAny_bind (slicePart_ pl (wpAny_bind (slicePart_ pu (wpAny_bind (wpAny_pure ?_)))))
  show wpAny _ _ (match Builtin.Slice.sliceAdjust none none (-1) (n : Int) with | (lo, hi) => pure (lo, (-1 : Int), Builtin.Slice.slicePlaces lo hi (-1))) _ _ s
  rw [adjust_rev n]
  show wpAny _ _ (pure ((n : Int) - 1, (-1 : Int), Builtin.Slice.slicePlaces ((n : Int) - 1) (-1) (-1))) _ _ s
  rw [places_rev]
  exact wpAny_pure h
theorem fm_congr {α β : Type} {f g : α → Option β} : ∀ {l : List α}, (∀ k ∈ l, f k = g k) → l.filterMap f = l.filterMap g
  | [], _ => rfl
  | x :: l, h => by
    rw [List.filterMap_cons, List.filterMap_cons, h x List.mem_cons_self, fm_congr fun k hk => h k (List.mem_cons_of_mem _ hk)]
theorem pick_rev (xs : Array Value) : ((List.range xs.size).filterMap fun (k : Nat) => xs[((xs.size : Int) - 1 + (k : Int) * (-1)).toNat]?).toArray = xs.toList.reverse.toArray := by
  have z := PySem.pick_run xs.toList.reverse.toArray 0 xs.size
  rw [List.filterMap_map] at z
  have e : (List.range xs.size).filterMap (fun (k : Nat) => xs[((xs.size : Int) - 1 + (k : Int) * (-1)).toNat]?) = (List.range xs.size).filterMap ((fun k => xs.toList.reverse.toArray[k]?) ∘ fun k => 0 + k) := by
    refine fm_congr fun k hk => ?_
    have hk' : k < xs.size := List.mem_range.mp hk
    have i : ((xs.size : Int) - 1 + (k : Int) * (-1)).toNat = xs.size - 1 - k := by omega
    rw [i]
    show xs[xs.size - 1 - k]? = xs.toList.reverse.toArray[0 + k]?
    have e1 : xs.toList.reverse.toArray[0 + k]? = xs.toList.reverse[k]? := by rw [Nat.zero_add]; simp
    rw [e1, List.getElem?_reverse (show k < xs.toList.length by rw [Array.length_toList]; exact hk'), Array.length_toList, Array.getElem?_toList]
  rw [e, z]
  congr 1
  rw [List.drop_zero]
  show List.take xs.size xs.toList.reverse = xs.toList.reverse
  exact List.take_of_length_le (by rw [List.length_reverse, Array.length_toList]; exact Nat.le_refl _)
theorem item_rev {t sl : Addr} {its : Array Value} {vl vu vs : Value} {Q : Value → Shared → Prop} (ht : IsTup s.heap t its) (hs : s.heap.IsSliceOf sl vl vu vs) (pl : IsPart vl none) (pu : IsPart vu none) (ps : IsPart vs (some (-1)))
    (h : Q (.ref s.heap.objs.size) { s with heap := s.heap.push { cls := .type "tuple", data := .seq its.toList.reverse.toArray } }) (hz : its.size ≤ sizeLine) : wpAny (model prog w) A (getItem (.ref t) (.ref sl)) Q E s := by
  have okz : sizeOk (.seq its.toList.reverse.toArray) := by
    show its.toList.reverse.toArray.size ≤ sizeLine
    simpa using hz
  obtain ⟨os, o1, o2, o3⟩ := id hs
  have tS : s.TypeIs (.ref sl) "slice" := ⟨os, o1, o2⟩
  unfold getItem
  try with_reducible refine wpAny_holding ?_
  first | refine wpAny_bind (wpAny_pure ?_) | skip
  refine wpAny_bind (wpAny_sequenceKey ht.typeIs (by decide) (wpAny_bind (wpAny_callSpecial?_slot (name := Str.ofString "__getitem__") ht.typeIs PyProof.Rows.slot_tuple_getitem (wpAny_call_entry PyProof.Rows.slot_tuple_getitem ht.typeIs entry_tuple_getitem ?_ (args_tuple_getitem _ _)))))
  show wpAny _ _ (Builtin.Tuple.tupleItemsOf (.ref t) >>= _) _ _ s
  refine wpAny_bind (tupleItemsOf_ ht (wpAny_bind (wpAny_typeOf tS ?_)))
  rw [if_pos (by decide)]
  refine wpAny_bind (applied_rev hs pl pu ps ?_)
  have no : ¬ ((((its.size : Int) - 1) == 0 && (-1 : Int) == 1 && its.size == its.size) = true) := by simp
  show wpAny _ _ (if (((its.size : Int) - 1) == 0 && (-1 : Int) == 1 && its.size == its.size) = true then _ else _) _ _ s
  rw [if_neg no, pick_rev]
  first
    | exact wpAny_bind (m := Builtin.Tuple.tupleExact _) (wpAny_newObj_type (wpAny_pure ⟨_, rfl, wpAny_pure h⟩) okz)
    | exact wpAny_bind (m := Builtin.Tuple.tupleExact _) (wpAny_newObj_type (wpAny_bind (wpAny_pure (wpAny_pure ⟨_, rfl, wpAny_pure h⟩))) okz)
    | exact wpAny_bind (wpAny_bind (m := Builtin.Tuple.tupleExact _) (wpAny_newObj_type (wpAny_pure (wpAny_pure ⟨_, rfl, wpAny_pure h⟩)) okz))
    | exact wpAny_bind (wpAny_bind (m := Builtin.Tuple.tupleExact _) (wpAny_newObj_type (wpAny_pure ⟨_, rfl, wpAny_pure h⟩) okz))
end
section
variable {X : Cx}
def dRev : D → List Cell → Option D
  | .tup xs, _ => some (.tup xs.reverse)
  | _, _ => none
theorem Reps.rev {K : PySem.W.Frag} {as : Ar} {H : Hp} : ∀ {vs : List V} {ds : List D}, Reps K as H vs ds → Reps K as H vs.reverse ds.reverse
  | _, _, .nil => .nil
  | _, _, .cons h t => by
    rw [List.reverse_cons, List.reverse_cons]
    exact t.rev.append (.cons h .nil)
theorem de_rev {e : Expr} {fa : EvE} {k : Nat} {p1 p2 p3 pos : Pos} (he : PE X e (tF X.K fa)) : PE X (.Subscript e (.Slice none none (some (.UnaryOp .USub (.Constant (.int 1) k p1) p2)) p3) pos) (tF X.K (fU dRev fa)) := by
  refine ⟨fun pins s σ H Q I ⟨as, S, d, μ', E, ed, q⟩ => ?_⟩
  obtain ⟨y, ey, ez⟩ := fU_out ed
  unfold dRev at ez
  split at ez
  rotate_left
  · cases ez
  rename_i xs
  cases Option.some.inj ez
  refine Subscript_ (thn (he.run pins s σ H (fun v H1 => ∃ as1, Ext as H as1 H1 ∧ Rep X.K as1 H1 v (.tup xs) ∧ StoR X.K as1 H1 μ') I ⟨as, S, _, μ', E, ey, fun v as1 H1 X1 r1 s1 => ⟨as1, X1, r1, s1⟩⟩) fun u s1 ⟨v, H1, I1, rv, as1, X1, r1, st1⟩ => ?_)
  cases r1 with
  | @tup a vs _ t rs =>
  cases rv
  have part : PO X (some (.UnaryOp .USub (.Constant (.int 1) k p1) p2)) (tPart (tUn (rU fun i => .int (-i)) (tC (.int 1)))) := po_some (pe_un un_neg pe_int)
  refine wpAny_Slice (thn (po_none.run pins s1 σ H1 (fun o H2 => o = none ∧ H2 = H1) I1 ⟨rfl, rfl⟩) fun vl s2 ⟨l, H2, I2, pl, el, e2⟩ => ?_)
  subst el e2
  refine thn (po_none.run pins s2 σ H2 (fun o H3 => o = none ∧ H3 = H2) I2 ⟨rfl, rfl⟩) fun vu s3 ⟨u, H3, I3, pu, eu, e3⟩ => ?_
  subst eu e3
  refine thn (part.run pins s3 σ H3 (fun o H4 => o = some (-1) ∧ H4 = H3) I3 ⟨1, rfl, -1, rfl, rfl, rfl⟩) fun vs4 s4 ⟨o, H4, I4, ps, eo, e4⟩ => ?_
  subst eo e4
  have I5 : Inv X pins σ H4 { s4 with heap := s4.heap.push { cls := .type "slice", data := .fields #[vl, vu, vs4] } } := I4.kept (t' := s4.toks) fun b ob q => Heap.get?_push_of_some _ q
  obtain ⟨its, r, ht, hz⟩ := I5.tuple t.sq
  have hlen := r.length
  show wpAny (model X.prog X.w) X.A (subscriptTail e (.Slice none none (some (.UnaryOp .USub (.Constant (.int 1) k p1) p2)) p3) (.ref a) (.ref s4.heap.objs.size)) (EP X pins σ Q) X.xe { s4 with heap := s4.heap.push { cls := .type "slice", data := .fields #[vl, vu, vs4] } }
  refine tail_any (ops := [.ref a, .ref s4.heap.objs.size]) ht.typeIs (PyProof.Rows.slot_tuple_getitem.lookup) ?_ (by with_unfolding_all rfl)
  refine item_rev ht (Heap.IsSliceOf.new _ vl vu vs4) pl pu ps ?_ (by rw [List.size_toArray]; omega)
  have hp := I5.hok.fresh (Nat.le_refl _)
  refine ⟨.ref _, _, I5.laid (t' := s4.toks) (o := .tup vs.reverse) (fun b ob q => Heap.get?_push_of_some _ q) (Nat.le_refl _) ⟨by rw [List.length_reverse]; exact hz, _, r.reverse, IsTup.new _ _⟩, rfl, ?_⟩
  exact q _ as1 _ (X1.trans (Ext.new hp (st1.out hp)) E.sto.trk) (.tup (.inl ⟨.inl upd_same, st1.out hp⟩) (rs.rev.mv (Ext.new hp (st1.out hp)))) (st1.new hp)
end
end DL
set_option maxHeartbeats 2000000
/-! Defs that make lambdas; the law's own call with the tables of their code objects. -/
namespace DL
open PySem PySem.Spec PyProof.Rows L2
/-- the name that a lambda of the def x bears -/
def qL (x : Str) : Str := x ++ ".<locals>." ++ "<lambda>"
theorem code_is {K : PySem.W.Frag} {x : Str} {f c P : Addr} {oc cd' : Value} {od : Option Addr} {fd : FuncData} {osl : Array (Option Value)} (hn : PySem.W.nsIn K mainGlobals x = some (some (.ref f))) (lk : K.lookup f = some ⟨oc, od, .func fd, osl⟩) (ht : PySem.W.tabIn K x = some (c, P)) : fd.code = .ref c := by
  unfold PySem.W.tabIn at ht
  rw [hn] at ht
  dsimp only at ht
  rw [lk] at ht
  dsimp only at ht
  split at ht
  · rename_i c2 hc
    split at ht
    · split at ht
      · cases ht
        exact hc
      · cases ht
    · cases ht
  · cases ht
section
variable {P : Program} {w : World} {K : PySem.W.Frag} {mg : Str → Option Value} {base : Heap}
/-- fg_def where the code object is known -/
theorem fg_defT {x qual : Str} {st : Stmt} {f c Pt : Addr} {fd : FuncData} {N ps : List Str} {k : Nat} {g : EvS} (Fu : Fun K x qual st f fd) (S : FnScope N ps (defScope st)) (hn : PySem.W.nsIn K mainGlobals x = some (some (.ref f))) (ht : PySem.W.tabIn K x = some (c, Pt))
    (hB : ∀ (kV doc pm : Value) (an : Option Addr) (cdv ct : Value) (us : List Value), us.length = ps.length → bindArgs (PySem.W.fnOf x qual (defArgs st) (defBody st) (defScope st) .none kV doc pm an cdv ct) ⟨us, []⟩ = pure (ps.zip us))
    (hbody : ∀ (A : Around) (stk : List Env) (s : Shared) (H : Hp) (E : XK), Room k (cxB P w K mg base N qual st f (.ref c) A stk s H E).A → (cxB P w K mg base N qual st f (.ref c) A stk s H E).A.guards = some [] → PSs (cxB P w K mg base N qual st f (.ref c) A stk s H E) (defBody st) (tFS K mg (WfD E) g)) :
    FG P w K mg base (k + 1) f fd ps.length (fnF ps.length N.length g) := by
  refine ⟨⟨ps, rfl, Fu.binds hB, Fu.kp, fun A stk st' H ar us vs Q E hr hgd e0 hbind r ⟨as, μ, ds, o, μ', hl, rs, sto, ef, q⟩ => ?_⟩⟩
  obtain ⟨oc, od, kV, doc, pm, an, cdv, ct, osl, rfl, lk, hcd⟩ := Fu.ex
  have ec : cdv = .ref c := code_is (cd' := cdv) hn lk ht
  subst ec
  have KX : K.In st'.heap := e0.mod.kin.keeps fun b o e => (e0.bs b o e).1
  have lim : st'.heap.NoLimit := e0.mod.nolimit.keeps fun b o e => (e0.bs b o e).1
  have seen : ∀ y ∈ ps.zip us, (defScope st).names.lookup y.1 = some .local ∨ ((defScope st).names.lookup y.1 = some .cell ∧ ((cellsFrom (st'.heap.objs.size + 1) (defScope st).names []).lookup y.1).isSome = true) := fun ⟨n, v⟩ hy =>
    (S.par n (List.of_mem_zip hy).1).elim .inl fun z => .inr ⟨z, PySem.W.cellsFrom_some _ _ _ (.inl z)⟩
  refine codeAny_call_function hr.depth (KX _ _ lk) rfl S.co S.gen rfl (PySem.W.codeRec_of KX hcd) (hbind _ _ _ _ (wpAny_newFunctionEnv_cells S.kind seen fun env he s1 ic => ?_))
  subst he
  refine ⟨lim.keeps ic.toInCall.keep, codeAny_func ?_⟩
  have I0 : Inv (cxB P w K mg base N qual st f (.ref c) A stk st' H E) [] (L2.start N vs) H s1 := inv_start S hr.hd e0 hl r ic
  have hN : ps.length ≤ N.length := by
    have c := congrArg List.length S.pre
    rw [List.length_take] at c
    omega
  have hlen : ds.length = ps.length := rs.length.symm.trans hl
  have en : EnvR K as H (L2.start N vs) (ds.map some ++ List.replicate (N.length - ps.length) none) := by
    have e := rs.length
    refine ⟨by unfold L2.start; simp [e, hlen], fun i d h => ?_⟩
    unfold L2.start
    by_cases hi : i < ds.length
    · rw [List.getElem?_append_left (by simpa using hi), List.getElem?_map] at h
      obtain ⟨d2, e2, e3⟩ := Option.map_eq_some_iff.mp h
      cases e3
      obtain ⟨v, hv, rv⟩ := rs.get e2
      exact ⟨v, by rw [List.getElem?_append_left (by rw [List.length_map, e]; exact hi), List.getElem?_map, hv]; rfl, rv⟩
    · rw [List.getElem?_append_right (by simpa using hi), List.getElem?_replicate] at h
      split at h <;> cases h
  obtain ⟨fl, S', eg, hq⟩ : ∃ fl S', g ⟨ds.map some ++ List.replicate (N.length - ps.length) none, μ⟩ = some (fl, S') ∧ endS K mg (WfD E) as H { nx := fun _ H' => Q .non H', rt := Q } fl S' := by
    unfold fnF at ef
    split at ef
    · rename_i d2 S2 e2
      obtain ⟨rfl, rfl⟩ := pr_inj ef
      exact ⟨.rt d2, S2, e2, fun as' v H' X' rv s' => q v as' H' X' rv s'⟩
    · rename_i S2 e2
      obtain ⟨rfl, rfl⟩ := pr_inj ef
      exact ⟨.nx, S2, e2, fun as' σ' H' X' E' => q .non as' H' X' .non E'.sto⟩
    · rename_i n2 p2 S2 e2
      obtain ⟨rfl, rfl⟩ := pr_inj ef
      exact ⟨.ex n2 p2, S2, e2, fun as' σ' H' C dx X' E' ec xr => q as' H' C dx X' E'.sto ec xr⟩
    · cases ef
  refine wpAny_mono ((hbody A stk st' H E (hr.deeper _) (guards_deeper hgd)).run [] s1 (L2.start N vs) H { nx := fun _ H' => Q .non H', rt := Q } I0 ⟨as, ⟨_, μ⟩, fl, S', ⟨en, sto⟩, eg, hq⟩) (fun fl' s' z => ?_) fun e s' z => z
  cases fl' with
  | ret u =>
    obtain ⟨v, σ', H', J, rv, y⟩ := z
    exact ⟨v, H', J.os, J.bare, J.base, J.hok, rv, y⟩
  | next =>
    obtain ⟨σ', H', J, y⟩ := z
    exact ⟨.non, H', J.os, J.bare, J.base, J.hok, rfl, y⟩
  | brk => obtain ⟨_, _, _, y⟩ := z; exact y.elim
  | cont => obtain ⟨_, _, _, y⟩ := z; exact y.elim
end
/-- what is known of the makers of lambdas: their names, code objects, tables -/
structure Mkrs (K : PySem.W.Frag) (h : Heap) (cs : List (Str × Addr × Addr)) : Prop where
  tb : ∀ t ∈ cs, h.get? t.2.2 = some (PySem.W.tabObj #[])
  nk : ∀ t ∈ cs, K.lookup t.2.2 = none
  hd : ∀ t ∈ cs, PySem.W.CodeHd h t.2.1 t.2.2
  ti : ∀ t ∈ cs, PySem.W.tabIn K t.1 = some t.2
  nd : (cs.map (·.2.2)).Nodup
def mu0 (xs : List Str) : List Cell := xs.map fun x => .tab x (qL x)
theorem law_dataT {P : Program} {w : World} {K : PySem.W.Frag} {mg mb : Str → Option Value} {k : Nat} {fa a : Addr} {fd : FuncData} {F : FnF} {s : Shared} {us : List Value} {ns : List Int} {cs : List (Str × Addr × Addr)}
    (kin : K.In s.heap) (gl : s.heap.Ns mainGlobals mg) (bl : s.heap.Ns builtinsNs mb) (bb : ∀ x : Str, x ≠ "__name__" → mb x = bootBuiltins x) (nl : s.heap.NoLimit) (gens : s.gens = #[]) (M : Mkrs K s.heap cs)
    (hbm : ∃ (bm : Addr) (ob : Obj), mg "__builtins__" = some (.ref bm) ∧ bm ≠ builtinsNs ∧ s.heap.get? bm = some ob ∧ ob.cls = .type "module" ∧ ob.dict = some builtinsNs ∧ ob.data = .plain)
    (hobj : s.heap.get? a = some { cls := .type "list", data := .seq us.toArray }) (hints : IntsAre us ns) (few : ns.length ≤ sizeLine) (hr : Room k callerA)
    (G : ∀ base : Heap, K.In base → base.Ns mainGlobals mg → (∀ t ∈ cs, LamX.TabB base mg t.2.1 t.2.2) → FG P w K mg base k fa fd 1 F)
    (val : ∃ μ', F [.rl (ns.map D.int)] (mu0 (cs.map (·.1))) = some (.v (.bl true), μ')) :
    codeAny (model P w) callerA (.call (.ref fa) ⟨[.ref a], []⟩) (fun r s' => r = .ok (.ret (.bool true)) ∧ OldK s.heap s'.heap ∧ s'.os = s.os ∧ AllBare s'.gens) s := by
  have rv := vals_ints hints
  obtain ⟨μ', val⟩ := val
  have tabAt : ∀ b, b ∈ cs.map (·.2.2) → s.heap.get? b = some (PySem.W.tabObj #[]) := fun b hb => by
    obtain ⟨t, ht, rfl⟩ := List.mem_map.mp hb
    exact M.tb t ht
  have aOut : a ∉ cs.map (·.2.2) := fun z => by
    have q := tabAt a z
    rw [hobj] at q
    cases q
  have core : ∀ H : Hp, (∀ b ∈ cs.map (·.2.2), H b = some (.tbl #[])) → (∀ b u, H b = some u → b ∈ cs.map (·.2.2) ∨ (b = a ∧ ∃ o vs, u = .frz o (.lst vs))) → TrL K ⟨cs.map (·.2.2), []⟩ H a (ns.map V.int) → HOk P w H s.heap → (H a ≠ none → K.lookup a = none) →
      codeAny (model P w) callerA (.call (.ref fa) ⟨[.ref a], []⟩) (fun r s' => r = .ok (.ret (.bool true)) ∧ OldK s.heap s'.heap ∧ s'.os = s.os ∧ AllBare s'.gens) s := by
    intro H isT only tr hok hK
    have hid : ∀ {b : Addr} {o : Obj}, s.heap.get? b = some o → H b = none → (hidT s.heap H).get? b = some o := fun e n => hidT_get e n
    have free : ∀ {b : Addr} {o : Obj}, s.heap.get? b = some o → (∀ vs n, o.data ≠ .seq vs n) → o.data ≠ .fields #[] → H b = none := fun {b o} e h1 h2 => by
      cases q : H b with
      | none => rfl
      | some u =>
        rcases only b u q with z | ⟨rfl, _⟩
        · rw [tabAt b z] at e
          cases e
          exact (h2 rfl).elim
        · rw [hobj] at e
          cases e
          exact (h1 _ _ rfl).elim
    have freeD : ∀ {b : Addr} {o : Obj} {es : Array DictEntry} {ep : Nat}, s.heap.get? b = some o → o.data = .dict es ep → H b = none := fun {b o es ep} e d => free e (fun vs n z => by rw [d] at z; cases z) fun z => by rw [d] at z; cases z
    have ns1 : ∀ {b : Addr} {m : Str → Option Value}, s.heap.Ns b m → (hidT s.heap H).Ns b m := fun {b m} ⟨o, es, ep, e, d, r⟩ => ⟨o, es, ep, hid e (freeD e d), d, r⟩
    have kin1 : K.In (hidT s.heap H) := fun b o e => hid (kin b o e) (by
      cases q : H b with
      | none => rfl
      | some u =>
        rcases only b u q with z | ⟨rfl, _⟩
        · obtain ⟨t, ht, rfl⟩ := List.mem_map.mp z
          rw [M.nk t ht] at e
          cases e
        · rw [hK (by rw [q]; simp)] at e
          cases e)
    have md : Mod K mg (hidT s.heap H) := ⟨kin1, ns1 gl, ⟨mb, ns1 bl, bb⟩, nl.elim fun mc z => ⟨mc, ns1 z.1, z.2⟩⟩
    have TB : ∀ t ∈ cs, LamX.TabB (hidT s.heap H) mg t.2.1 t.2.2 := fun t ht => by
      have at1 := M.tb t ht
      have nG : mainGlobals ≠ t.2.2 := fun z => by
        obtain ⟨o, es, ep, e, d, _⟩ := gl
        rw [z, at1] at e
        cases e
        cases d
      refine ⟨?_, ?_, nG⟩
      · obtain ⟨o, vs, file, tf, flags, tg, inF, text, tt, e1, r1, r2, r3, r⟩ := M.hd t ht
        exact ⟨o, vs, file, tf, flags, tg, inF, text, tt, hid e1 (free e1 (fun vs n z => by rw [r2] at z; cases z) fun z => by rw [r2] at z; cases z; simp at r3), r1, r2, r3, r⟩
      · obtain ⟨bm, ob, b1, b2, b3, b4, b5, b6⟩ := hbm
        refine ⟨bm, ob, b1, b2, fun q => ?_, fun q => ?_, hid b3 (free b3 (fun vs n z => by rw [b6] at z; cases z) fun z => by rw [b6] at z; cases z), b4, b5, b6⟩
        · obtain ⟨o, es, ep, e, d, _⟩ := gl
          rw [q, e] at b3
          cases b3
          rw [d] at b6
          cases b6
        · rw [q, at1] at b3
          cases b3
          cases b6
    have en : Env0 P w K mg (hidT s.heap H) callerA [] s H := ⟨rfl, md, fun b o e => of_hidT e, by rw [hidT_size]; exact Nat.le_refl _, trivial, fun b hb => (List.not_mem_nil hb).elim, hok, .of_eq gens⟩
    obtain ⟨ps, hn, hb, hk, run⟩ := (G _ kin1 (ns1 gl) TB).ps
    have hbd : BindsTo s fd ⟨[.ref a], []⟩ (ps.zip [.ref a]) := by
      have z := hb s [.ref a] kin (by simp [hn])
      simpa using z
    have st0 : StoR K ⟨cs.map (·.2.2), []⟩ H (mu0 (cs.map (·.1))) := by
      refine ⟨by simp [mu0], fun j b c ej ec => ?_, M.nd, fun b hb => (List.not_mem_nil hb).elim⟩
      have ej' : (cs.map (·.2.2))[j]? = some b := ej
      unfold mu0 at ec
      rw [List.getElem?_map] at ej'
      rw [List.getElem?_map, List.getElem?_map] at ec
      obtain ⟨t, e1, rfl⟩ := Option.map_eq_some_iff.mp ej'
      rw [e1] at ec
      cases ec
      have ht := List.mem_of_getElem? e1
      exact ⟨t.2.1, #[], M.ti t ht, isT _ (List.mem_map.mpr ⟨t, ht, rfl⟩), trivial, fun pos cv z => by
        have z' : codeAmong pos [] = some cv := z
        simp [codeAmong] at z'⟩
    refine codeAny_mono (run callerA [] s H ⟨[.ref a], []⟩ [.ref a] [.ref a] (fun v _ => v = .bl true) (fun _ _ _ => False) hr room_caller en hbd (.cons rfl .nil)
      ⟨⟨cs.map (·.2.2), []⟩, _, [.rl (ns.map D.int)], .v (.bl true), μ', rfl, .cons (.rl tr Reps.ints) .nil, st0, val, fun v as' H' X' r s' => by cases r; rfl⟩) fun r s' h => ?_
    cases r with
    | error e =>
      obtain ⟨_, _, _, _, _, _, _, _, _, _, _, _, z⟩ := h
      exact z.elim
    | ok fl => cases fl with
      | ret u =>
        obtain ⟨v, H', eos, bare, un, hok', ru, q⟩ := h
        subst q
        cases ru
        have stay : ∀ b o, b ∉ cs.map (·.2.2) → s.heap.get? b = some o → s'.heap.get? b = some o := fun b o nb e => by
          cases z : H b with
          | none => exact un.keep b o e z (fun y => (List.not_mem_nil y).elim) (by simp)
          | some u =>
            rcases only b u z with y | ⟨rfl, ob, vs, rfl⟩
            · exact (nb y).elim
            · obtain ⟨e1, _⟩ := hok b _ z
              obtain ⟨e2, _⟩ := hok' b _ (un.frzs b ob _ z)
              rw [e] at e1
              cases e1
              exact e2
        have grown : ∀ t ∈ cs, ∃ more : Array Value, s'.heap.get? t.2.2 = some { cls := .none, data := .fields more } := fun t ht => by
          obtain ⟨more, z⟩ := un.tbls t.2.2 #[] (isT _ (List.mem_map.mpr ⟨t, ht, rfl⟩))
          exact ⟨_, hok' t.2.2 _ z⟩
        refine ⟨rfl, ⟨fun b o e => ?_, fun b o e => ?_⟩, eos, bare⟩
        · by_cases hb : b ∈ cs.map (·.2.2)
          · obtain ⟨t, ht, rfl⟩ := List.mem_map.mp hb
            obtain ⟨more, hm⟩ := grown t ht
            rw [M.tb t ht] at e
            cases e
            exact .inr (.inl ⟨((M.hd t ht).tab (M.tb t ht)).isCodeTable, rfl, #[], more, rfl, by rw [Array.empty_append]; exact hm⟩)
          · exact .inl (stay b o hb e)
        · by_cases hb : b ∈ cs.map (·.2.2)
          · obtain ⟨t, ht, rfl⟩ := List.mem_map.mp hb
            obtain ⟨more, hm⟩ := grown t ht
            exact ⟨_, hm⟩
          · exact ⟨o, stay b o hb e⟩
      | _ => exact False.elim h
  have lenV : ns.length = us.length := by
    have z := rv.length
    rw [List.length_map] at z
    exact z
  have tabs : ∀ {b : Addr}, b ∈ cs.map (·.2.2) → ObjOk P w (fun b => if b ∈ cs.map (·.2.2) then some (HO.tbl #[]) else none) s.heap b (.tbl #[]) := fun hb => tabAt _ hb
  cases hk : K.lookup a with
  | some o =>
    have e := kin a o hk
    rw [hobj] at e
    cases e
    refine core (fun b => if b ∈ cs.map (·.2.2) then some (.tbl #[]) else none) (fun b hb => if_pos hb) (fun b u z => ?_) (.inr fun H' => .inr ⟨_, us.toArray, _, hk, rfl, rfl, rfl, by rw [List.size_toArray, ← lenV]; exact few, by simpa using rv⟩) (fun b u z => ?_) fun z => absurd (if_neg aOut) z
    · by_cases hb : b ∈ cs.map (·.2.2)
      · exact .inl hb
      · cases (if_neg hb).symm.trans z
    · by_cases hb : b ∈ cs.map (·.2.2)
      · cases (if_pos hb).symm.trans z
        exact tabAt b hb
      · cases (if_neg hb).symm.trans z
  | none =>
    refine core (fun b => if b = a then some (.frz { cls := .type "list", data := .seq us.toArray } (.lst (ns.map V.int))) else if b ∈ cs.map (·.2.2) then some (.tbl #[]) else none) (fun b hb => (if_neg (show ¬ b = a from fun z => aOut (by rw [← z]; exact hb))).trans (if_pos hb)) (fun b u z => ?_) (.inl ⟨.inr ⟨_, if_pos rfl⟩, aOut, List.not_mem_nil⟩) (fun b u z => ?_) fun _ => hk
    · by_cases hb : b = a
      · exact .inr ⟨hb, _, _, (Option.some.inj ((if_pos hb).symm.trans z)).symm⟩
      · by_cases hc : b ∈ cs.map (·.2.2)
        · exact .inl hc
        · cases (if_neg hb).symm.trans z |>.symm.trans (if_neg hc) |>.symm
    · by_cases hb : b = a
      · subst hb
        cases (if_pos rfl).symm.trans z
        exact ⟨hobj, by rw [List.length_map]; exact few, us, _, rv, hobj⟩
      · by_cases hc : b ∈ cs.map (·.2.2)
        · have z2 := ((if_neg hb).symm.trans z)
          cases (if_pos hc).symm.trans z2
          exact tabAt b hc
        · have z2 := ((if_neg hb).symm.trans z)
          cases (if_neg hc).symm.trans z2
theorem walkT {l : PySem.W.OpenLaw} {n k : Nat} {q : Program} {loose : List Str} {XP : (Str → Option Value) → Heap → Prop} {YP : World → Heap → Prop} {d : DefRec} {K : Params → PySem.W.Frag} {F : FnF} {xs : List Str}
    (hn : l.most = some n) (hn2 : n ≤ sizeLine) (hdf : d.params.defaults = []) (hr : Room k callerA) (hY : ∀ (w : World) (h : Heap), YP w h → (K w.params).In h)
    (G : ∀ (w : World) (mg : Str → Option Value) (fa : Addr) (h : Heap), YP w h → (K w.params).In h → h.Ns mainGlobals mg → mg d.name = some (.ref fa) →
      ∃ (fd : FuncData) (cs : List (Str × Addr × Addr)), cs.map (·.1) = xs ∧ Mkrs (K w.params) h cs ∧ ∀ base : Heap, (K w.params).In base → base.Ns mainGlobals mg → (∀ t ∈ cs, LamX.TabB base mg t.2.1 t.2.2) → FG l.prog w (K w.params) mg base k fa fd 1 F)
    (val : ∀ ns : List Int, ns.length ≤ n → ∃ μ', F [.rl (ns.map D.int)] (mu0 xs) = some (.v (.bl true), μ')) :
    PySem.W.WalkO q loose XP YP l.row.toRowW d [] (fun f vs => PySem.call f vs) :=
  Att.attach_call hn hdf fun w s₀ s₁ mg mb fa o pm cd doc a vs ns T Y ho hd hcd hmg hobj hints hlen gens => by
    have kin := hY w _ Y
    obtain ⟨fd, cs, rfl, M, hF⟩ := G w mg fa _ Y kin T.T.g hmg
    exact law_dataT kin T.T.g T.T.b T.T.builtins T.T.nolimit gens M T.T.bmain hobj hints (Nat.le_trans hlen hn2) hr hF (val ns hlen)
end DL
namespace DL
open PySem L2
theorem tab_ok {K : PySem.W.Frag} {cv : Value} : ∀ {names : List Str} {cs : List Addr} {bs : List Bool}, (names.map fun n => PySem.W.nsIn K mainGlobals n) = (cs.map fun C => some (some (Value.ref C))) → cs.all (xqB K) = true → (cs.map fun C => PySem.W.kitOne K (.ref C) cv) = bs.map some →
    ∀ n C b, List.lookup n (names.zip bs) = some b → PySem.W.nsIn K mainGlobals n = some (some (.ref C)) → XQ K C ∧ PySem.W.kitOne K (.ref C) cv = some b
  | [], cs, bs, _, _, _, n, C, b, e, _ => by simp at e
  | m :: names, [], bs, h1, _, _, n, C, b, e, _ => by simp at h1
  | m :: names, c :: cs, [], _, _, h3, n, C, b, e, _ => by simp at h3
  | m :: names, c :: cs, q :: bs, h1, h2, h3, n, C, b, e, hn => by
    simp only [List.map_cons, List.cons.injEq] at h1 h3
    rw [List.all_cons, Bool.and_eq_true] at h2
    rw [List.zip_cons_cons, List.lookup_cons] at e
    split at e
    · rename_i hm
      have hm' : n = m := by simpa using hm
      subst hm'
      have hb : q = b := Option.some.inj e
      subst hb
      have z := h1.1.symm.trans hn
      injection z with z
      injection z with z
      injection z with z
      subst z
      exact ⟨xqB_ok h2.1, h3.1⟩
    · exact tab_ok h1.2 h2.2 h3.2 n C b e hn
/-- what is asked of a class with a field at once -/
def clB (K : PySem.W.Frag) (C : Addr) (bm : List Value) (newId : String) (fl : Str) : Bool := PySem.W.excInitIn K C bm newId && (PySem.W.excOver K C bm && (PySem.W.hasDictIn K C && (decide (PySem.W.findIn K (.ref C) "__setattr__" = some (some (.builtin "object.__setattr__"))) && (PySem.W.keepIn K (.ref C) && (decide (PySem.W.takerIn K C fl = some none) && (decide (PySem.W.findIn K (.ref C) fl = some none) && xqB K C))))))
theorem clB_ok {K : PySem.W.Frag} {C : Addr} {bm : List Value} {newId : String} {fl : Str} (h : clB K C bm newId fl = true) : XCls K C bm newId ∧ PySem.W.takerIn K C fl = some none ∧ PySem.W.findIn K (.ref C) fl = some none ∧ XQ K C := by
  unfold clB at h
  simp only [Bool.and_eq_true, decide_eq_true_eq] at h
  obtain ⟨h1, h2, h3, h4, h5, h6, h7, h8⟩ := h
  exact ⟨⟨h1, h2, h3, h4, h5⟩, h6, h7, xqB_ok h8⟩
theorem gf_ok {K : PySem.W.Frag} {c : Addr} {bm : List Value} {newId : String} {fl m : Str} (a : PySem.W.nsIn K mainGlobals m = some (some (.ref c))) (h : clB K c bm newId fl = true) : ∀ n C, n ∈ [m] → PySem.W.nsIn K mainGlobals n = some (some (.ref C)) → XQ K C ∧ PySem.W.findIn K (.ref C) fl = some none := by
  intro n C hn hns
  have hn' : n = m := by simpa using hn
  subst hn'
  have z := a.symm.trans hns
  injection z with z
  injection z with z
  injection z with z
  subst z
  exact ⟨(clB_ok h).2.2.2, (clB_ok h).2.2.1⟩
end DL
namespace G
open PySem L2 DL
def topS (i : Nat) : Stmt := PySem.Challenge.pw_deepenough_k10_procedures_by_form.main.body.getD i (.Pass ⟨0, 0, 0, 0⟩)
def tab_PARTS : List (Str × Int) := [("go", 4), ("call", 6), ("leave", 3), ("fail", 3)]
def tabP : String → Option Bool := fun T => if T = "NoneType" ∨ T = "str" ∨ T = "tuple" then some false else none
def hInv : Str → Option Bool := fun n => if n = "InvalidProgram" then some true else none
structure Txt (mg : Str → Option Value) : Prop where
  n_abs : mg "abs" = none
  n_all : mg "all" = none
  n_bool : mg "bool" = none
  n_int : mg "int" = none
  n_isinstance : mg "isinstance" = none
  n_len : mg "len" = none
  n_list : mg "list" = none
  n_max : mg "max" = none
  n_min : mg "min" = none
  n_range : mg "range" = none
  n_repr : mg "repr" = none
  n_set : mg "set" = none
  n_sorted : mg "sorted" = none
  n_str : mg "str" = none
  n_tuple : mg "tuple" = none
  n_type : mg "type" = none
  n_zip : mg "zip" = none
  c_LONGEST_NAME : ∃ t, mg "LONGEST_NAME" = some (.int 8 t)
  c_MOST_MODES : ∃ t, mg "MOST_MODES" = some (.int 6 t)
  c_MOST_POINTS : ∃ t, mg "MOST_POINTS" = some (.int 8 t)
  c_MOST_MOVES : ∃ t, mg "MOST_MOVES" = some (.int 16 t)
/-! _law_met -/
abbrev s__law_met : Stmt := topS 38
abbrev N__law_met : List Str := ["call"]
theorem sc__law_met : FnScope N__law_met ["call"] (defScope s__law_met) := ⟨rfl, rfl, rfl, by decide +kernel, rfl, by decide +kernel, by decide +kernel⟩
theorem hB__law_met : ∀ (kV doc pm : Value) (an : Option Addr) (cdv ct : Value) (us : List Value), us.length = (["call"] : List Str).length → bindArgs (PySem.W.fnOf "_law_met" "_law_met" (defArgs s__law_met) (defBody s__law_met) (defScope s__law_met) .none kV doc pm an cdv ct) ⟨us, []⟩ = pure ((["call"] : List Str).zip us) := fun _ _ _ _ _ _ us hl => match us, hl with | [_], _ => rfl
structure TC (P : Program) (w : World) (K : PySem.W.Frag) (mg : Str → Option Value) (base : Heap) (c_Procedure c_InvalidProgram f_Procedure_init f_Procedure_of f_Procedure_called f_Procedure_points f_Procedure_moves f_Procedure_eq f_Procedure_len f_Procedure_str p_Procedure_of p_Procedure_called p_Procedure_points p_Procedure_moves p_PARTS f_met : Addr) (d_Procedure_init d_Procedure_of d_Procedure_called d_Procedure_points d_Procedure_moves d_Procedure_eq d_Procedure_len d_Procedure_str d_met : FuncData) (mc_Procedure : Value) : Prop where
  ns_Procedure : PySem.W.nsIn K mainGlobals "Procedure" = some (some (.ref c_Procedure))
  m_Procedure : mg "Procedure" = some (.ref c_Procedure)
  mk_Procedure : Mk K c_Procedure f_Procedure_init
  cl_Procedure : Cls K c_Procedure
  cr_Procedure : ClX.CRead K c_Procedure mc_Procedure
  cm_Procedure_of : ClX.CMet K c_Procedure mc_Procedure "of" p_Procedure_of f_Procedure_of
  p_Procedure_called : PropOf K c_Procedure "called" p_Procedure_called f_Procedure_called
  p_Procedure_points : PropOf K c_Procedure "points" p_Procedure_points f_Procedure_points
  p_Procedure_moves : PropOf K c_Procedure "moves" p_Procedure_moves f_Procedure_moves
  s_Procedure_eq : PySem.W.findIn K (.ref c_Procedure) "__eq__" = some (some (.ref f_Procedure_eq))
  i_Procedure_eq : PySem.W.isFn K (.ref f_Procedure_eq) = true
  s_Procedure_len : PySem.W.findIn K (.ref c_Procedure) "__len__" = some (some (.ref f_Procedure_len))
  i_Procedure_len : PySem.W.isFn K (.ref f_Procedure_len) = true
  s_Procedure_str : PySem.W.findIn K (.ref c_Procedure) "__str__" = some (some (.ref f_Procedure_str))
  i_Procedure_str : PySem.W.isFn K (.ref f_Procedure_str) = true
  ne_Procedure : PySem.W.findIn K (.ref c_Procedure) "__ne__" = some (some (.builtin "object.__ne__"))
  mr_Procedure : PySem.W.mroIn K c_Procedure (.type "object") = some true
  ic_Procedure : C8.InsC K c_Procedure
  kt_Procedure : ∀ T b, tabP T = some b → PySem.W.kitOne K (.type T) (.ref c_Procedure) = some b
  fld__called : FldOk K ["Procedure"] "_called"
  fld__points : FldOk K ["Procedure"] "_points"
  fld__moves : FldOk K ["Procedure"] "_moves"
  fld__highest : FldOk K ["Procedure"] "_highest"
  fld__callees : FldOk K ["Procedure"] "_callees"
  m_InvalidProgram : mg "InvalidProgram" = some (.ref c_InvalidProgram)
  q_InvalidProgram : PySem.W.excIn K c_InvalidProgram [.type "ValueError", .type "Exception", .type "BaseException", .type "object"] "ValueError.__new__" = true
  k_InvalidProgram : PySem.W.keepIn K (.ref c_InvalidProgram) = true
  b_InvalidProgram : PySem.W.subIn K (.ref c_InvalidProgram) (.type "BaseException") = some true
  y_InvalidProgram : PySem.W.typeIn K (.ref c_InvalidProgram) = some (.type "type")
  hh : ∀ (n : Str) (C : Value), hInv n = some true → mg n = some C → PySem.W.exmOne K C (.ref c_InvalidProgram) = some true
  m_PARTS : mg "PARTS" = some (.ref p_PARTS)
  t_PARTS : KTab K w.params p_PARTS tab_PARTS
  mm : mg "_law_met" = some (.ref f_met)
  fu_met : Fun K "_law_met" "_law_met" s__law_met f_met d_met
section
variable {P : Program} {w : World} {K : PySem.W.Frag} {mg : Str → Option Value} {base : Heap} {c_Procedure c_InvalidProgram f_Procedure_init f_Procedure_of f_Procedure_called f_Procedure_points f_Procedure_moves f_Procedure_eq f_Procedure_len f_Procedure_str p_Procedure_of p_Procedure_called p_Procedure_points p_Procedure_moves p_PARTS f_met : Addr} {d_Procedure_init d_Procedure_of d_Procedure_called d_Procedure_points d_Procedure_moves d_Procedure_eq d_Procedure_len d_Procedure_str d_met : FuncData} {mc_Procedure : Value}
/-! _law_cast -/
abbrev s__law_cast : Stmt := topS 24
abbrev N__law_cast : List Str := ["die", "total", "found", "one", "two"]
theorem sc__law_cast : FnScope N__law_cast ((["die", "total"] : List Str)) (defScope s__law_cast) := ⟨rfl, rfl, rfl, by decide +kernel, rfl, by decide +kernel, by decide +kernel⟩
def g__law_cast : EvS :=
  (sSeq (sIf (fTru (fB dGt (fB dIx (fV 0) (fC (.int 0))) (fC (.int 0)))) (sSeq (bThen (bName 2) (fB (dII gMod) (fApp (g1 dInt1) (fCons (fB dIx (fV 0) (fC (.int 0))) fNil)) (fV 1)))
  (sSeq (bThen (bSub (fV 0) (fC (.int 0))) (fB (dII gFdiv) (fB dIx (fV 0) (fC (.int 0))) (fV 1)))
  (sRet (fV 2)))) sNx)
  (sSeq (bThen (bSub (fV 0) (fC (.int 2))) (fB dAddA (fB dIx (fV 0) (fC (.int 2))) (fC (.int 1))))
  (sSeq (bThen (bName 3) (fB (dII gMod) (fApp (g1 dInt1) (fCons (fB dAddA (fB dIx (fV 0) (fC (.int 1))) (fB dMulA (fC (.int 776531491)) (fB dIx (fV 0) (fC (.int 2))))) fNil)) (fC (.int 2305843009213693907))))
  (sSeq (bThen (bName 4) (fB dAddA (fB dMulA (fB (dII gMod) (fApp (g1 dInt1) (fCons (fB dMulA (fV 3) (fV 3)) fNil)) (fC (.int 1152921504606846619))) (fV 3)) (fB dMulA (fC (.int 7057)) (fB dIx (fV 0) (fC (.int 2))))))
  (sRet (fB (dII gMod) (fApp (g1 dInt1) (fCons (fB (dII gFdiv) (fB (dII gMod) (fApp (g1 dInt1) (fCons (fB dAddA (fV 4) (fB dIx (fV 0) (fC (.int 1)))) fNil)) (fC (.int 8796093022091))) (fC (.int 32))) fNil)) (fV 1)))))))
def F__law_cast : FnF := fnF 2 5 g__law_cast
theorem ok__law_cast {f : Addr} {fd : FuncData} (Fu : Fun K "_law_cast" "_law_cast" s__law_cast f fd) (T : Txt mg) (CF : TC P w K mg base c_Procedure c_InvalidProgram f_Procedure_init f_Procedure_of f_Procedure_called f_Procedure_points f_Procedure_moves f_Procedure_eq f_Procedure_len f_Procedure_str p_Procedure_of p_Procedure_called p_Procedure_points p_Procedure_moves p_PARTS f_met d_Procedure_init d_Procedure_of d_Procedure_called d_Procedure_points d_Procedure_moves d_Procedure_eq d_Procedure_len d_Procedure_str d_met mc_Procedure) : FG P w K mg base 1 f fd 2 F__law_cast :=
  fg_def (k := 0) Fu sc__law_cast (fun _ _ _ _ _ _ us hl => match us, hl with | [_, _], _ => rfl) fun cdv A stk s H E hr hgd =>
      (dss_cons (ds_if (dt_cmp op_gtD (de_ix ix_D (de_var 0) de_int) de_int (nomark _) dOrd_bl) (dss_cons (ds_set (i := 2) sc__law_cast.nd rfl (by first | exact .inl rfl | exact .inr rfl) (de_bin op_modD (de_callTy call_intD rfl T.n_int (by decide +kernel) (da_cons (de_ix ix_D (de_var 0) de_int) da_nil)) (de_var 1)))
      (dss_cons (ds_asg (de_bin op_fdivD (de_ix ix_D (de_var 0) de_int) (de_var 1)) (dg_sub (de_var 0) de_int))
      (dss_one (ds_ret (de_var 2))))) dss_nil)
      (dss_cons (ds_asg (de_bin op_addAD (de_ix ix_D (de_var 0) de_int) de_int) (dg_sub (de_var 0) de_int))
      (dss_cons (ds_set (i := 3) sc__law_cast.nd rfl (by first | exact .inl rfl | exact .inr rfl) (de_bin op_modD (de_callTy call_intD rfl T.n_int (by decide +kernel) (da_cons (de_bin op_addAD (de_ix ix_D (de_var 0) de_int) (de_bin op_mulAD de_int (de_ix ix_D (de_var 0) de_int))) da_nil)) de_int))
      (dss_cons (ds_set (i := 4) sc__law_cast.nd rfl (by first | exact .inl rfl | exact .inr rfl) (de_bin op_addAD (de_bin op_mulAD (de_bin op_modD (de_callTy call_intD rfl T.n_int (by decide +kernel) (da_cons (de_bin op_mulAD (de_var 3) (de_var 3)) da_nil)) de_int) (de_var 3)) (de_bin op_mulAD de_int (de_ix ix_D (de_var 0) de_int))))
      (dss_one (ds_ret (de_bin op_modD (de_callTy call_intD rfl T.n_int (by decide +kernel) (da_cons (de_bin op_fdivD (de_bin op_modD (de_callTy call_intD rfl T.n_int (by decide +kernel) (da_cons (de_bin op_addAD (de_var 4) (de_ix ix_D (de_var 0) de_int)) da_nil)) de_int) de_int) da_nil)) (de_var 1))))))))
/-! _law_pick -/
abbrev s__law_pick : Stmt := topS 25
abbrev N__law_pick : List Str := ["die", "items"]
theorem sc__law_pick : FnScope N__law_pick ((["die", "items"] : List Str)) (defScope s__law_pick) := ⟨rfl, rfl, rfl, by decide +kernel, rfl, by decide +kernel, by decide +kernel⟩
def g__law_pick : EvS :=
  (sRet (fB dIx (fV 1) (fCall F__law_cast (fLen 2 (fCons (fV 0) (fCons (fApp (g1 dLen) (fCons (fV 1) fNil)) fNil))))))
def F__law_pick : FnF := fnF 2 2 g__law_pick
theorem ok__law_pick {f : Addr} {fd : FuncData} (Fu : Fun K "_law_pick" "_law_pick" s__law_pick f fd) (T : Txt mg) (CF : TC P w K mg base c_Procedure c_InvalidProgram f_Procedure_init f_Procedure_of f_Procedure_called f_Procedure_points f_Procedure_moves f_Procedure_eq f_Procedure_len f_Procedure_str p_Procedure_of p_Procedure_called p_Procedure_points p_Procedure_moves p_PARTS f_met d_Procedure_init d_Procedure_of d_Procedure_called d_Procedure_points d_Procedure_moves d_Procedure_eq d_Procedure_len d_Procedure_str d_met mc_Procedure) (h__law_cast : Has P w K mg base "_law_cast" 1 2 F__law_cast) : FG P w K mg base 2 f fd 2 F__law_pick :=
  fg_def (k := 1) Fu sc__law_pick (fun _ _ _ _ _ _ us hl => match us, hl with | [_, _], _ => rfl) fun cdv A stk s H E hr hgd =>
      (dss_one (ds_ret (de_ix ix_D (de_var 1) (de_callH h__law_cast hr hgd (by decide) rfl (da_cons (de_var 0) (da_cons (de_callB call_lenD rfl T.n_len (by decide +kernel) (da_cons (de_var 1) da_nil)) da_nil))))))
/-! _law_is_word -/
abbrev s__law_is_word : Stmt := topS 29
abbrev N__law_is_word : List Str := ["value", "one"]
theorem sc__law_is_word : FnScope N__law_is_word ((["value"] : List Str)) (defScope s__law_is_word) := ⟨rfl, rfl, rfl, by decide +kernel, rfl, by decide +kernel, by decide +kernel⟩
def g__law_is_word : EvS :=
  (sSeq (sIf (fOr (fNot (fTru (fApp (g2 dIsi) (fCons (fV 0) (fCons (fC (.ty "str")) fNil))))) (fNot (fTru (fCh dLe dLe (fC (.int 1)) (fApp (g1 dLen) (fCons (fV 0) fNil)) (fC (.int 8)))))) (sRet (fC (.bl false))) sNx)
  (sRet (fB dEqW (fLc (itOf gSeq (fV 0)) (bName 1) (fNot (fTru (fCh dLe dLe (fC (.str "a")) (fV 1) (fC (.str "z"))))) (fV 1) [1]) (fApp gLst fNil))))
def F__law_is_word : FnF := fnF 1 2 g__law_is_word
theorem ok__law_is_word {f : Addr} {fd : FuncData} (Fu : Fun K "_law_is_word" "_law_is_word" s__law_is_word f fd) (T : Txt mg) (CF : TC P w K mg base c_Procedure c_InvalidProgram f_Procedure_init f_Procedure_of f_Procedure_called f_Procedure_points f_Procedure_moves f_Procedure_eq f_Procedure_len f_Procedure_str p_Procedure_of p_Procedure_called p_Procedure_points p_Procedure_moves p_PARTS f_met d_Procedure_init d_Procedure_of d_Procedure_called d_Procedure_points d_Procedure_moves d_Procedure_eq d_Procedure_len d_Procedure_str d_met mc_Procedure) : FG P w K mg base 1 f fd 1 F__law_is_word :=
  fg_def (k := 0) Fu sc__law_is_word (fun _ _ _ _ _ _ us hl => match us, hl with | [_], _ => rfl) fun cdv A stk s H E hr hgd =>
      (dss_cons (ds_if (PW.pt (dw_or (dt_not (dt_truth (de_callB call_isiD rfl T.n_isinstance (by decide +kernel) (da_cons (de_var 0) (da_cons (de_gty rfl T.n_str (by decide +kernel)) da_nil))))) (dw_or1 (dt_not (dt_chain op_leD op_leD de_int (de_callB call_lenD rfl T.n_len (by decide +kernel) (da_cons (de_var 0) da_nil)) de_int dOrd_bl))))) (dss_one (ds_ret de_bl)) dss_nil)
      (dss_one (ds_ret (de_cmp (op_eqW hr.units) (de_lc rfl sc__law_is_word.nd (own := [("one", 1)]) (di_seq (de_var 0)) (blkOk_by (N := N__law_is_word) (sc := defScope s__law_is_word) (by decide +kernel)) (fun _ _ _ _ _ => (dg_name (i := 1) sc__law_is_word.nd rfl (by first | exact .inl rfl | exact .inr rfl))) (fun _ _ _ _ _ => dts_one (dt_not (dt_chain op_leD op_leD de_str (de_var 1) de_str dOrd_bl))) (fun _ _ _ _ _ => (de_var 1))) (de_lst da_nil) (nomark _)))))
/-! _law_is_number -/
abbrev s__law_is_number : Stmt := topS 28
abbrev N__law_is_number : List Str := ["value", "total"]
theorem sc__law_is_number : FnScope N__law_is_number ((["value", "total"] : List Str)) (defScope s__law_is_number) := ⟨rfl, rfl, rfl, by decide +kernel, rfl, by decide +kernel, by decide +kernel⟩
def g__law_is_number : EvS :=
  (sRet (fAndV (fApp (g2 dIsi) (fCons (fV 0) (fCons (fC (.ty "int")) fNil))) (fAndV (fU dNot (fApp (g2 dIsi) (fCons (fV 0) (fCons (fC (.ty "bool")) fNil)))) (fCh dLe dLtA (fC (.int 0)) (fV 0) (fV 1)))))
def F__law_is_number : FnF := fnF 2 2 g__law_is_number
theorem ok__law_is_number {f : Addr} {fd : FuncData} (Fu : Fun K "_law_is_number" "_law_is_number" s__law_is_number f fd) (T : Txt mg) (CF : TC P w K mg base c_Procedure c_InvalidProgram f_Procedure_init f_Procedure_of f_Procedure_called f_Procedure_points f_Procedure_moves f_Procedure_eq f_Procedure_len f_Procedure_str p_Procedure_of p_Procedure_called p_Procedure_points p_Procedure_moves p_PARTS f_met d_Procedure_init d_Procedure_of d_Procedure_called d_Procedure_points d_Procedure_moves d_Procedure_eq d_Procedure_len d_Procedure_str d_met mc_Procedure) : FG P w K mg base 1 f fd 2 F__law_is_number :=
  fg_def (k := 0) Fu sc__law_is_number (fun _ _ _ _ _ _ us hl => match us, hl with | [_, _], _ => rfl) fun cdv A stk s H E hr hgd =>
      (dss_one (ds_ret (de_and (de_callB call_isiD rfl T.n_isinstance (by decide +kernel) (da_cons (de_var 0) (da_cons (de_gty rfl T.n_int (by decide +kernel)) da_nil))) (de_and (de_not (de_callB call_isiD rfl T.n_isinstance (by decide +kernel) (da_cons (de_var 0) (da_cons (de_gty rfl T.n_bool (by decide +kernel)) da_nil)))) (de_one (de_chain op_leD (op_ltAD hr.units0) de_int (de_var 0) (de_var 1)))))))
/-! _law_is_set -/
abbrev s__law_is_set : Stmt := topS 30
abbrev N__law_is_set : List Str := ["value", "total", "one"]
theorem sc__law_is_set : FnScope N__law_is_set ((["value", "total"] : List Str)) (defScope s__law_is_set) := ⟨rfl, rfl, rfl, by decide +kernel, rfl, by decide +kernel, by decide +kernel⟩
def g__law_is_set : EvS :=
  (sSeq (sIf (fOr (fNot (fTru (fApp (g2 dIsi) (fCons (fV 0) (fCons (fC (.ty "tuple")) fNil))))) (fTru (fB dEqW (fV 0) (fApp gTup fNil)))) (sRet (fC (.bl false))) sNx)
  (sSeq (sIf (fTru (fB dNeW (fLc (itOf gSeq (fV 0)) (bName 2) (fNot (fTru (fCall F__law_is_number (fLen 2 (fCons (fV 2) (fCons (fV 1) fNil)))))) (fV 2) [2]) (fApp gLst fNil))) (sRet (fC (.bl false))) sNx)
  (sRet (fB dEqW (fApp (g1 dList) (fCons (fV 0) fNil)) (fSortSet (fV 0))))))
def F__law_is_set : FnF := fnF 2 3 g__law_is_set
theorem ok__law_is_set {f : Addr} {fd : FuncData} (Fu : Fun K "_law_is_set" "_law_is_set" s__law_is_set f fd) (T : Txt mg) (CF : TC P w K mg base c_Procedure c_InvalidProgram f_Procedure_init f_Procedure_of f_Procedure_called f_Procedure_points f_Procedure_moves f_Procedure_eq f_Procedure_len f_Procedure_str p_Procedure_of p_Procedure_called p_Procedure_points p_Procedure_moves p_PARTS f_met d_Procedure_init d_Procedure_of d_Procedure_called d_Procedure_points d_Procedure_moves d_Procedure_eq d_Procedure_len d_Procedure_str d_met mc_Procedure) (h__law_is_number : Has P w K mg base "_law_is_number" 1 2 F__law_is_number) : FG P w K mg base 2 f fd 2 F__law_is_set :=
  fg_def (k := 1) Fu sc__law_is_set (fun _ _ _ _ _ _ us hl => match us, hl with | [_, _], _ => rfl) fun cdv A stk s H E hr hgd =>
      (dss_cons (ds_if (PW.pt (dw_or (dt_not (dt_truth (de_callB call_isiD rfl T.n_isinstance (by decide +kernel) (da_cons (de_var 0) (da_cons (de_gty rfl T.n_tuple (by decide +kernel)) da_nil))))) (dw_or1 (dt_cmp (op_eqW hr.units) (de_var 0) (de_tup da_nil) (nomark _) dEqW_bl)))) (dss_one (ds_ret de_bl)) dss_nil)
      (dss_cons (ds_if (dt_cmp (op_neW hr.units) (de_lc rfl sc__law_is_set.nd (own := [("one", 2)]) (di_seq (de_var 0)) (blkOk_by (N := N__law_is_set) (sc := defScope s__law_is_set) (by decide +kernel)) (fun _ _ _ _ _ => (dg_name (i := 2) sc__law_is_set.nd rfl (by first | exact .inl rfl | exact .inr rfl))) (fun _ _ _ _ _ => dts_one (dt_not (dt_truth (de_callH h__law_is_number hr hgd (by decide) rfl (da_cons (de_var 2) (da_cons (de_var 1) da_nil)))))) (fun _ _ _ _ _ => (de_var 2))) (de_lst da_nil) (nomark _) dNeW_bl) (dss_one (ds_ret de_bl)) dss_nil)
      (dss_one (ds_ret (de_cmp (op_eqW hr.units) (de_callTy call_listD rfl T.n_list (by decide +kernel) (da_cons (de_var 0) da_nil)) (de_sortSet rfl rfl T.n_sorted rfl T.n_set (de_var 0)) (nomark _))))))
/-! _law_is_pairs -/
abbrev s__law_is_pairs : Stmt := topS 31
abbrev N__law_is_pairs : List Str := ["value", "total", "pair"]
theorem sc__law_is_pairs : FnScope N__law_is_pairs ((["value", "total"] : List Str)) (defScope s__law_is_pairs) := ⟨rfl, rfl, rfl, by decide +kernel, rfl, by decide +kernel, by decide +kernel⟩
def g__law_is_pairs : EvS :=
  (sSeq (sIf (fOr (fNot (fTru (fApp (g2 dIsi) (fCons (fV 0) (fCons (fC (.ty "tuple")) fNil))))) (fTru (fB dEqW (fV 0) (fApp gTup fNil)))) (sRet (fC (.bl false))) sNx)
  (sSeq (sFor (itOf gSeq (fV 0)) (bName 2) (sSeq (sIf (fOr (fNot (fTru (fApp (g2 dIsi) (fCons (fV 2) (fCons (fC (.ty "tuple")) fNil))))) (fTru (fB dNeW (fApp (g1 dLen) (fCons (fV 2) fNil)) (fC (.int 2))))) (sRet (fC (.bl false))) sNx)
  (sIf (fOr (fNot (fTru (fCall F__law_is_number (fLen 2 (fCons (fB dIx (fV 2) (fC (.int 0))) (fCons (fV 1) fNil)))))) (fNot (fTru (fCall F__law_is_number (fLen 2 (fCons (fB dIx (fV 2) (fC (.int 1))) (fCons (fV 1) fNil))))))) (sRet (fC (.bl false))) sNx)))
  (sRet (fB dEqW (fApp (g1 dList) (fCons (fV 0) fNil)) (fSortSetP (fV 0))))))
def F__law_is_pairs : FnF := fnF 2 3 g__law_is_pairs
theorem ok__law_is_pairs {f : Addr} {fd : FuncData} (Fu : Fun K "_law_is_pairs" "_law_is_pairs" s__law_is_pairs f fd) (T : Txt mg) (CF : TC P w K mg base c_Procedure c_InvalidProgram f_Procedure_init f_Procedure_of f_Procedure_called f_Procedure_points f_Procedure_moves f_Procedure_eq f_Procedure_len f_Procedure_str p_Procedure_of p_Procedure_called p_Procedure_points p_Procedure_moves p_PARTS f_met d_Procedure_init d_Procedure_of d_Procedure_called d_Procedure_points d_Procedure_moves d_Procedure_eq d_Procedure_len d_Procedure_str d_met mc_Procedure) (h__law_is_number : Has P w K mg base "_law_is_number" 1 2 F__law_is_number) : FG P w K mg base 2 f fd 2 F__law_is_pairs :=
  fg_def (k := 1) Fu sc__law_is_pairs (fun _ _ _ _ _ _ us hl => match us, hl with | [_, _], _ => rfl) fun cdv A stk s H E hr hgd =>
      (dss_cons (ds_if (PW.pt (dw_or (dt_not (dt_truth (de_callB call_isiD rfl T.n_isinstance (by decide +kernel) (da_cons (de_var 0) (da_cons (de_gty rfl T.n_tuple (by decide +kernel)) da_nil))))) (dw_or1 (dt_cmp (op_eqW hr.units) (de_var 0) (de_tup da_nil) (nomark _) dEqW_bl)))) (dss_one (ds_ret de_bl)) dss_nil)
      (dss_cons (ds_for passB rfl (di_seq (de_var 0)) (dg_name (i := 2) sc__law_is_pairs.nd rfl (by first | exact .inl rfl | exact .inr rfl)) (dss_cons (ds_if (PW.pt (dw_or (dt_not (dt_truth (de_callB call_isiD rfl T.n_isinstance (by decide +kernel) (da_cons (de_var 2) (da_cons (de_gty rfl T.n_tuple (by decide +kernel)) da_nil))))) (dw_or1 (dt_cmp (op_neW hr.units) (de_callB call_lenD rfl T.n_len (by decide +kernel) (da_cons (de_var 2) da_nil)) de_int (nomark _) dNeW_bl)))) (dss_one (ds_ret de_bl)) dss_nil)
      (dss_one (ds_if (PW.pt (dw_or (dt_not (dt_truth (de_callH h__law_is_number hr hgd (by decide) rfl (da_cons (de_ix ix_D (de_var 2) de_int) (da_cons (de_var 1) da_nil))))) (dw_or1 (dt_not (dt_truth (de_callH h__law_is_number hr hgd (by decide) rfl (da_cons (de_ix ix_D (de_var 2) de_int) (da_cons (de_var 1) da_nil)))))))) (dss_one (ds_ret de_bl)) dss_nil))))
      (dss_one (ds_ret (de_cmp (op_eqW hr.units) (de_callTy call_listD rfl T.n_list (by decide +kernel) (da_cons (de_var 0) da_nil)) (de_sortSetP rfl hr.units rfl T.n_sorted rfl T.n_set (de_var 0)) (nomark _))))))
/-! _law_is_step -/
abbrev s__law_is_step : Stmt := topS 34
abbrev N__law_is_step : List Str := ["value", "points", "total", "is_there", "is_point"]
theorem sc__law_is_step : FnScope N__law_is_step ((["value", "points", "total"] : List Str)) (defScope s__law_is_step) := ⟨rfl, rfl, rfl, by decide +kernel, rfl, by decide +kernel, by decide +kernel⟩
def g__law_is_step : EvS :=
  (sSeq (sIf (fOr (fNot (fTru (fApp (g2 dIsi) (fCons (fV 0) (fCons (fC (.ty "tuple")) fNil))))) (fOr (fTru (fB dLtA (fApp (g1 dLen) (fCons (fV 0) fNil)) (fC (.int 3)))) (fNot (fTru (fCall F__law_is_number (fLen 2 (fCons (fB dIx (fV 0) (fC (.int 1))) (fCons (fV 1) fNil)))))))) (sRet (fC (.bl false))) sNx)
  (sSeq (sIf (fTru (fB dEqW (fB dIx (fV 0) (fC (.int 0))) (fC (.str "go")))) (sSeq (bThen (bName 3) (fAndV (fB dEqW (fApp (g1 dLen) (fCons (fV 0) fNil)) (fC (.int 4))) (fCall F__law_is_number (fLen 2 (fCons (fB dIx (fV 0) (fC (.int 2))) (fCons (fV 1) fNil))))))
  (sRet (fAndV (fV 3) (fCall F__law_is_pairs (fLen 2 (fCons (fB dIx (fV 0) (fC (.int 3))) (fCons (fV 2) fNil))))))) sNx)
  (sSeq (sIf (fTru (fB dInR (fB dIx (fV 0) (fC (.int 0))) (fApp gTup (fCons (fC (.str "leave")) (fCons (fC (.str "fail")) fNil))))) (sRet (fAndV (fB dEqW (fApp (g1 dLen) (fCons (fV 0) fNil)) (fC (.int 3))) (fCall F__law_is_set (fLen 2 (fCons (fB dIx (fV 0) (fC (.int 2))) (fCons (fV 2) fNil)))))) sNx)
  (sSeq (sIf (fOr (fTru (fB dNeW (fB dIx (fV 0) (fC (.int 0))) (fC (.str "call")))) (fOr (fTru (fB dNeW (fApp (g1 dLen) (fCons (fV 0) fNil)) (fC (.int 6)))) (fNot (fTru (fCall F__law_is_number (fLen 2 (fCons (fB dIx (fV 0) (fC (.int 2))) (fCons (fV 1) fNil)))))))) (sRet (fC (.bl false))) sNx)
  (sSeq (bThen (bName 4) (fOrV (fB dIs (fB dIx (fV 0) (fC (.int 5))) (fC .non)) (fCall F__law_is_number (fLen 2 (fCons (fB dIx (fV 0) (fC (.int 5))) (fCons (fV 1) fNil))))))
  (sRet (fAndV (fV 4) (fAndV (fCall F__law_is_word (fLen 1 (fCons (fB dIx (fV 0) (fC (.int 3))) fNil))) (fCall F__law_is_set (fLen 2 (fCons (fB dIx (fV 0) (fC (.int 4))) (fCons (fV 2) fNil))))))))))))
def F__law_is_step : FnF := fnF 3 5 g__law_is_step
theorem ok__law_is_step {f : Addr} {fd : FuncData} (Fu : Fun K "_law_is_step" "_law_is_step" s__law_is_step f fd) (T : Txt mg) (CF : TC P w K mg base c_Procedure c_InvalidProgram f_Procedure_init f_Procedure_of f_Procedure_called f_Procedure_points f_Procedure_moves f_Procedure_eq f_Procedure_len f_Procedure_str p_Procedure_of p_Procedure_called p_Procedure_points p_Procedure_moves p_PARTS f_met d_Procedure_init d_Procedure_of d_Procedure_called d_Procedure_points d_Procedure_moves d_Procedure_eq d_Procedure_len d_Procedure_str d_met mc_Procedure) (h__law_is_number : Has P w K mg base "_law_is_number" 1 2 F__law_is_number) (h__law_is_pairs : Has P w K mg base "_law_is_pairs" 2 2 F__law_is_pairs) (h__law_is_set : Has P w K mg base "_law_is_set" 2 2 F__law_is_set) (h__law_is_word : Has P w K mg base "_law_is_word" 1 1 F__law_is_word) : FG P w K mg base 3 f fd 3 F__law_is_step :=
  fg_def (k := 2) Fu sc__law_is_step (fun _ _ _ _ _ _ us hl => match us, hl with | [_, _, _], _ => rfl) fun cdv A stk s H E hr hgd =>
      (dss_cons (ds_if (PW.pt (dw_or (dt_not (dt_truth (de_callB call_isiD rfl T.n_isinstance (by decide +kernel) (da_cons (de_var 0) (da_cons (de_gty rfl T.n_tuple (by decide +kernel)) da_nil))))) (dw_or (dt_cmp (op_ltAD hr.units0) (de_callB call_lenD rfl T.n_len (by decide +kernel) (da_cons (de_var 0) da_nil)) de_int (nomark _) dLtA_bl) (dw_or1 (dt_not (dt_truth (de_callH h__law_is_number hr hgd (by decide) rfl (da_cons (de_ix ix_D (de_var 0) de_int) (da_cons (de_var 1) da_nil))))))))) (dss_one (ds_ret de_bl)) dss_nil)
      (dss_cons (ds_if (dt_cmp (op_eqW hr.units) (de_ix ix_D (de_var 0) de_int) de_str (nomark _) dEqW_bl) (dss_cons (ds_set (i := 3) sc__law_is_step.nd rfl (by first | exact .inl rfl | exact .inr rfl) (de_and (de_cmp (op_eqW hr.units) (de_callB call_lenD rfl T.n_len (by decide +kernel) (da_cons (de_var 0) da_nil)) de_int (nomark _)) (de_one (de_callH h__law_is_number hr hgd (by decide) rfl (da_cons (de_ix ix_D (de_var 0) de_int) (da_cons (de_var 1) da_nil))))))
      (dss_one (ds_ret (de_and (de_var 3) (de_one (de_callH h__law_is_pairs hr hgd (by decide) rfl (da_cons (de_ix ix_D (de_var 0) de_int) (da_cons (de_var 2) da_nil)))))))) dss_nil)
      (dss_cons (ds_if (dt_cmp (op_inR hr.units) (de_ix ix_D (de_var 0) de_int) (de_tup (da_cons de_str (da_cons de_str da_nil))) rfl dInR_bl) (dss_one (ds_ret (de_and (de_cmp (op_eqW hr.units) (de_callB call_lenD rfl T.n_len (by decide +kernel) (da_cons (de_var 0) da_nil)) de_int (nomark _)) (de_one (de_callH h__law_is_set hr hgd (by decide) rfl (da_cons (de_ix ix_D (de_var 0) de_int) (da_cons (de_var 2) da_nil))))))) dss_nil)
      (dss_cons (ds_if (PW.pt (dw_or (dt_cmp (op_neW hr.units) (de_ix ix_D (de_var 0) de_int) de_str (nomark _) dNeW_bl) (dw_or (dt_cmp (op_neW hr.units) (de_callB call_lenD rfl T.n_len (by decide +kernel) (da_cons (de_var 0) da_nil)) de_int (nomark _) dNeW_bl) (dw_or1 (dt_not (dt_truth (de_callH h__law_is_number hr hgd (by decide) rfl (da_cons (de_ix ix_D (de_var 0) de_int) (da_cons (de_var 1) da_nil))))))))) (dss_one (ds_ret de_bl)) dss_nil)
      (dss_cons (ds_set (i := 4) sc__law_is_step.nd rfl (by first | exact .inl rfl | exact .inr rfl) (de_or (de_cmp op_isD (de_ix ix_D (de_var 0) de_int) de_non (nomark _)) (de_one (de_callH h__law_is_number hr hgd (by decide) rfl (da_cons (de_ix ix_D (de_var 0) de_int) (da_cons (de_var 1) da_nil))))))
      (dss_one (ds_ret (de_and (de_var 4) (de_and (de_callH h__law_is_word hr hgd (by decide) rfl (da_cons (de_ix ix_D (de_var 0) de_int) da_nil)) (de_one (de_callH h__law_is_set hr hgd (by decide) rfl (da_cons (de_ix ix_D (de_var 0) de_int) (da_cons (de_var 2) da_nil)))))))))))))
/-! _law_is_due -/
abbrev s__law_is_due : Stmt := topS 39
abbrev N__law_is_due : List Str := ["called", "points", "moves", "move"]
theorem sc__law_is_due : FnScope N__law_is_due ((["called", "points", "moves"] : List Str)) (defScope s__law_is_due) := ⟨rfl, rfl, rfl, by decide +kernel, rfl, by decide +kernel, by decide +kernel⟩
def g__law_is_due : EvS :=
  (sSeq (sIf (fOr (fNot (fTru (fCall F__law_is_word (fLen 1 (fCons (fV 0) fNil))))) (fOr (fNot (fTru (fCall F__law_is_number (fLen 2 (fCons (fV 1) (fCons (fC (.int 9)) fNil)))))) (fTru (fB dEqW (fV 1) (fC (.int 0)))))) (sRet (fC (.bl false))) sNx)
  (sSeq (sIf (fOr (fNot (fTru (fApp (g2 dIsi) (fCons (fV 2) (fCons (fC (.ty "tuple")) fNil))))) (fTru (fB dGt (fApp (g1 dLen) (fCons (fV 2) fNil)) (fC (.int 16))))) (sRet (fC (.bl false))) sNx)
  (sRet (fB dEqW (fLc (itOf gSeq (fV 2)) (bName 3) (fNot (fTru (fCall F__law_is_step (fLen 3 (fCons (fV 3) (fCons (fV 1) (fCons (fC (.int 6)) fNil))))))) (fV 3) [3]) (fApp gLst fNil)))))
def F__law_is_due : FnF := fnF 3 4 g__law_is_due
theorem ok__law_is_due {f : Addr} {fd : FuncData} (Fu : Fun K "_law_is_due" "_law_is_due" s__law_is_due f fd) (T : Txt mg) (CF : TC P w K mg base c_Procedure c_InvalidProgram f_Procedure_init f_Procedure_of f_Procedure_called f_Procedure_points f_Procedure_moves f_Procedure_eq f_Procedure_len f_Procedure_str p_Procedure_of p_Procedure_called p_Procedure_points p_Procedure_moves p_PARTS f_met d_Procedure_init d_Procedure_of d_Procedure_called d_Procedure_points d_Procedure_moves d_Procedure_eq d_Procedure_len d_Procedure_str d_met mc_Procedure) (h__law_is_number : Has P w K mg base "_law_is_number" 1 2 F__law_is_number) (h__law_is_step : Has P w K mg base "_law_is_step" 3 3 F__law_is_step) (h__law_is_word : Has P w K mg base "_law_is_word" 1 1 F__law_is_word) : FG P w K mg base 4 f fd 3 F__law_is_due :=
  fg_def (k := 3) Fu sc__law_is_due (fun _ _ _ _ _ _ us hl => match us, hl with | [_, _, _], _ => rfl) fun cdv A stk s H E hr hgd =>
      (dss_cons (ds_if (PW.pt (dw_or (dt_not (dt_truth (de_callH h__law_is_word hr hgd (by decide) rfl (da_cons (de_var 0) da_nil)))) (dw_or (dt_not (dt_truth (de_callH h__law_is_number hr hgd (by decide) rfl (da_cons (de_var 1) (da_cons de_int da_nil))))) (dw_or1 (dt_cmp (op_eqW hr.units) (de_var 1) de_int (nomark _) dEqW_bl))))) (dss_one (ds_ret de_bl)) dss_nil)
      (dss_cons (ds_if (PW.pt (dw_or (dt_not (dt_truth (de_callB call_isiD rfl T.n_isinstance (by decide +kernel) (da_cons (de_var 2) (da_cons (de_gty rfl T.n_tuple (by decide +kernel)) da_nil))))) (dw_or1 (dt_cmp op_gtD (de_callB call_lenD rfl T.n_len (by decide +kernel) (da_cons (de_var 2) da_nil)) de_int (nomark _) dOrd_bl)))) (dss_one (ds_ret de_bl)) dss_nil)
      (dss_one (ds_ret (de_cmp (op_eqW hr.units) (de_lc rfl sc__law_is_due.nd (own := [("move", 3)]) (di_seq (de_var 2)) (blkOk_by (N := N__law_is_due) (sc := defScope s__law_is_due) (by decide +kernel)) (fun _ _ _ _ _ => (dg_name (i := 3) sc__law_is_due.nd rfl (by first | exact .inl rfl | exact .inr rfl))) (fun _ _ _ _ _ => dts_one (dt_not (dt_truth (de_callH h__law_is_step hr hgd (by decide) rfl (da_cons (de_var 3) (da_cons (de_var 1) (da_cons de_int da_nil))))))) (fun _ _ _ _ _ => (de_var 3))) (de_lst da_nil) (nomark _))))))
/-! _law_shuffle -/
abbrev s__law_shuffle : Stmt := topS 26
abbrev N__law_shuffle : List Str := ["die", "items", "pool", "turn"]
theorem sc__law_shuffle : FnScope N__law_shuffle ((["die", "items"] : List Str)) (defScope s__law_shuffle) := ⟨rfl, rfl, rfl, by decide +kernel, rfl, by decide +kernel, by decide +kernel⟩
def g__law_shuffle : EvS :=
  (sSeq (bThen (bName 2) (fListC (fV 1)))
  (sRet (fLc (gRng1 (fCons (fApp (g1 dLen) (fCons (fV 1) fNil)) fNil)) (bName 3) (fun S => some (true, S.μ)) (fPop (fV 2) (fCall F__law_cast (fLen 2 (fCons (fV 0) (fCons (fApp (g1 dLen) (fCons (fV 2) fNil)) fNil))))) [3])))
def F__law_shuffle : FnF := fnF 2 4 g__law_shuffle
theorem ok__law_shuffle {f : Addr} {fd : FuncData} (Fu : Fun K "_law_shuffle" "_law_shuffle" s__law_shuffle f fd) (T : Txt mg) (CF : TC P w K mg base c_Procedure c_InvalidProgram f_Procedure_init f_Procedure_of f_Procedure_called f_Procedure_points f_Procedure_moves f_Procedure_eq f_Procedure_len f_Procedure_str p_Procedure_of p_Procedure_called p_Procedure_points p_Procedure_moves p_PARTS f_met d_Procedure_init d_Procedure_of d_Procedure_called d_Procedure_points d_Procedure_moves d_Procedure_eq d_Procedure_len d_Procedure_str d_met mc_Procedure) (h__law_cast : Has P w K mg base "_law_cast" 1 2 F__law_cast) : FG P w K mg base 2 f fd 2 F__law_shuffle :=
  fg_def (k := 1) Fu sc__law_shuffle (fun _ _ _ _ _ _ us hl => match us, hl with | [_, _], _ => rfl) fun cdv A stk s H E hr hgd =>
      (dss_cons (ds_set (i := 2) sc__law_shuffle.nd rfl (by first | exact .inl rfl | exact .inr rfl) (de_listC rfl T.n_list (de_var 1)))
      (dss_one (ds_ret (de_lc rfl sc__law_shuffle.nd (own := [("turn", 3)]) (di_range1 rfl T.n_range (da_cons (de_callB call_lenD rfl T.n_len (by decide +kernel) (da_cons (de_var 1) da_nil)) da_nil)) (blkOk_by (N := N__law_shuffle) (sc := defScope s__law_shuffle) (by decide +kernel)) (fun _ _ _ _ _ => (dg_name (i := 3) sc__law_shuffle.nd rfl (by first | exact .inl rfl | exact .inr rfl))) (fun _ _ _ _ _ => dts_nil) (fun _ _ _ _ _ => (de_pop (de_var 2) (de_callH h__law_cast hr hgd (by decide) rfl (da_cons (de_var 0) (da_cons (de_callB call_lenD rfl T.n_len (by decide +kernel) (da_cons (de_var 2) da_nil)) da_nil)))))))))
/-! _law_subset -/
abbrev s__law_subset : Stmt := topS 27
abbrev N__law_subset : List Str := ["die", "total", "found", "mode"]
theorem sc__law_subset : FnScope N__law_subset ((["die", "total"] : List Str)) (defScope s__law_subset) := ⟨rfl, rfl, rfl, by decide +kernel, rfl, by decide +kernel, by decide +kernel⟩
def g__law_subset : EvS :=
  (sSeq (bThen (bName 2) (fU dTuple (fLc (gRng1 (fCons (fV 1) fNil)) (bName 3) (fTru (fB dGt (fCall F__law_cast (fLen 2 (fCons (fV 0) (fCons (fC (.int 3)) fNil)))) (fC (.int 0)))) (fV 3) [3])))
  (sRet (fIfE (fTru (fB dNeW (fV 2) (fApp gTup fNil))) (fV 2) (fApp gTup (fCons (fCall F__law_cast (fLen 2 (fCons (fV 0) (fCons (fV 1) fNil)))) fNil)))))
def F__law_subset : FnF := fnF 2 4 g__law_subset
theorem ok__law_subset {f : Addr} {fd : FuncData} (Fu : Fun K "_law_subset" "_law_subset" s__law_subset f fd) (T : Txt mg) (CF : TC P w K mg base c_Procedure c_InvalidProgram f_Procedure_init f_Procedure_of f_Procedure_called f_Procedure_points f_Procedure_moves f_Procedure_eq f_Procedure_len f_Procedure_str p_Procedure_of p_Procedure_called p_Procedure_points p_Procedure_moves p_PARTS f_met d_Procedure_init d_Procedure_of d_Procedure_called d_Procedure_points d_Procedure_moves d_Procedure_eq d_Procedure_len d_Procedure_str d_met mc_Procedure) (h__law_cast : Has P w K mg base "_law_cast" 1 2 F__law_cast) : FG P w K mg base 2 f fd 2 F__law_subset :=
  fg_def (k := 1) Fu sc__law_subset (fun _ _ _ _ _ _ us hl => match us, hl with | [_, _], _ => rfl) fun cdv A stk s H E hr hgd =>
      (dss_cons (ds_set (i := 2) sc__law_subset.nd rfl (by first | exact .inl rfl | exact .inr rfl) (de_tuple rfl T.n_tuple (de_lc rfl sc__law_subset.nd (own := [("mode", 3)]) (di_range1 rfl T.n_range (da_cons (de_var 1) da_nil)) (blkOk_by (N := N__law_subset) (sc := defScope s__law_subset) (by decide +kernel)) (fun _ _ _ _ _ => (dg_name (i := 3) sc__law_subset.nd rfl (by first | exact .inl rfl | exact .inr rfl))) (fun _ _ _ _ _ => dts_one (dt_cmp op_gtD (de_callH h__law_cast hr hgd (by decide) rfl (da_cons (de_var 0) (da_cons de_int da_nil))) de_int (nomark _) dOrd_bl)) (fun _ _ _ _ _ => (de_var 3)))))
      (dss_one (ds_ret (de_ifE (dt_cmp (op_neW hr.units) (de_var 2) (de_tup da_nil) (nomark _) dNeW_bl) (de_var 2) (de_tup (da_cons (de_callH h__law_cast hr hgd (by decide) rfl (da_cons (de_var 0) (da_cons (de_var 1) da_nil))) da_nil))))))
/-! _law_a_move -/
abbrev s__law_a_move : Stmt := topS 32
abbrev N__law_a_move : List Str := ["die", "total", "points", "names", "here", "there", "way", "some", "caught", "pairs", "turn"]
theorem sc__law_a_move : FnScope N__law_a_move ((["die", "total", "points", "names"] : List Str)) (defScope s__law_a_move) := ⟨rfl, rfl, rfl, by decide +kernel, rfl, by decide +kernel, by decide +kernel⟩
def g__law_a_move : EvS :=
  (sSeq (sPar 4 5 (fCons (fCall F__law_pick (fLen 2 (fCons (fV 0) (fCons (fApp gLst (fCons (fC (.int 0)) (fCons (fCall F__law_cast (fLen 2 (fCons (fV 0) (fCons (fV 2) fNil)))) fNil))) fNil)))) (fCons (fCall F__law_cast (fLen 2 (fCons (fV 0) (fCons (fV 2) fNil)))) fNil)))
  (sSeq (sPar 6 7 (fCons (fCall F__law_cast (fLen 2 (fCons (fV 0) (fCons (fC (.int 10)) fNil)))) (fCons (fCall F__law_subset (fLen 2 (fCons (fV 0) (fCons (fV 1) fNil)))) fNil)))
  (sSeq (sIf (fTru (fB dLtA (fV 6) (fC (.int 4)))) (sSeq (bThen (bName 8) (fCall F__law_pick (fLen 2 (fCons (fV 0) (fCons (fApp gLst (fCons (fC .non) (fCons (fCall F__law_cast (fLen 2 (fCons (fV 0) (fCons (fV 2) fNil)))) fNil))) fNil)))))
  (sRet (fApp gTup (fCons (fC (.str "call")) (fCons (fV 4) (fCons (fV 5) (fCons (fCall F__law_pick (fLen 2 (fCons (fV 0) (fCons (fV 3) fNil)))) (fCons (fV 7) (fCons (fV 8) fNil))))))))) sNx)
  (sSeq (sIf (fTru (fB dLtA (fV 6) (fC (.int 7)))) (sRet (fApp gTup (fCons (fCall F__law_pick (fLen 2 (fCons (fV 0) (fCons (fApp gLst (fCons (fC (.str "leave")) (fCons (fC (.str "leave")) (fCons (fC (.str "fail")) fNil)))) fNil)))) (fCons (fV 4) (fCons (fV 7) fNil))))) sNx)
  (sSeq (bThen (bName 9) (fNewC fNil))
  (sSeq (sFor (gRng1 (fCons (fB dAddA (fC (.int 1)) (fCall F__law_cast (fLen 2 (fCons (fV 0) (fCons (fC (.int 3)) fNil))))) fNil)) (bName 10) (sDrop (fApn (fV 9) (fApp gTup (fCons (fCall F__law_cast (fLen 2 (fCons (fV 0) (fCons (fV 1) fNil)))) (fCons (fCall F__law_cast (fLen 2 (fCons (fV 0) (fCons (fV 1) fNil)))) fNil))))))
  (sRet (fApp gTup (fCons (fC (.str "go")) (fCons (fV 4) (fCons (fV 5) (fCons (fU dTuple (fSortSetP (fV 9))) fNil))))))))))))
def F__law_a_move : FnF := fnF 4 11 g__law_a_move
theorem ok__law_a_move {f : Addr} {fd : FuncData} (Fu : Fun K "_law_a_move" "_law_a_move" s__law_a_move f fd) (T : Txt mg) (CF : TC P w K mg base c_Procedure c_InvalidProgram f_Procedure_init f_Procedure_of f_Procedure_called f_Procedure_points f_Procedure_moves f_Procedure_eq f_Procedure_len f_Procedure_str p_Procedure_of p_Procedure_called p_Procedure_points p_Procedure_moves p_PARTS f_met d_Procedure_init d_Procedure_of d_Procedure_called d_Procedure_points d_Procedure_moves d_Procedure_eq d_Procedure_len d_Procedure_str d_met mc_Procedure) (h__law_cast : Has P w K mg base "_law_cast" 1 2 F__law_cast) (h__law_pick : Has P w K mg base "_law_pick" 2 2 F__law_pick) (h__law_subset : Has P w K mg base "_law_subset" 2 2 F__law_subset) : FG P w K mg base 3 f fd 4 F__law_a_move :=
  fg_def (k := 2) Fu sc__law_a_move (fun _ _ _ _ _ _ us hl => match us, hl with | [_, _, _, _], _ => rfl) fun cdv A stk s H E hr hgd =>
      (dss_cons (ds_par (i := 4) (j := 5) rfl sc__law_a_move.nd rfl rfl (by decide) rfl rfl (da_cons (de_callH h__law_pick hr hgd (by decide) rfl (da_cons (de_var 0) (da_cons (de_lst (da_cons de_int (da_cons (de_callH h__law_cast hr hgd (by decide) rfl (da_cons (de_var 0) (da_cons (de_var 2) da_nil))) da_nil))) da_nil))) (da_cons (de_callH h__law_cast hr hgd (by decide) rfl (da_cons (de_var 0) (da_cons (de_var 2) da_nil))) da_nil)) rfl)
      (dss_cons (ds_par (i := 6) (j := 7) rfl sc__law_a_move.nd rfl rfl (by decide) rfl rfl (da_cons (de_callH h__law_cast hr hgd (by decide) rfl (da_cons (de_var 0) (da_cons de_int da_nil))) (da_cons (de_callH h__law_subset hr hgd (by decide) rfl (da_cons (de_var 0) (da_cons (de_var 1) da_nil))) da_nil)) rfl)
      (dss_cons (ds_if (dt_cmp (op_ltAD hr.units0) (de_var 6) de_int (nomark _) dLtA_bl) (dss_cons (ds_set (i := 8) sc__law_a_move.nd rfl (by first | exact .inl rfl | exact .inr rfl) (de_callH h__law_pick hr hgd (by decide) rfl (da_cons (de_var 0) (da_cons (de_lst (da_cons de_non (da_cons (de_callH h__law_cast hr hgd (by decide) rfl (da_cons (de_var 0) (da_cons (de_var 2) da_nil))) da_nil))) da_nil))))
      (dss_one (ds_ret (de_tup (da_cons de_str (da_cons (de_var 4) (da_cons (de_var 5) (da_cons (de_callH h__law_pick hr hgd (by decide) rfl (da_cons (de_var 0) (da_cons (de_var 3) da_nil))) (da_cons (de_var 7) (da_cons (de_var 8) da_nil)))))))))) dss_nil)
      (dss_cons (ds_if (dt_cmp (op_ltAD hr.units0) (de_var 6) de_int (nomark _) dLtA_bl) (dss_one (ds_ret (de_tup (da_cons (de_callH h__law_pick hr hgd (by decide) rfl (da_cons (de_var 0) (da_cons (de_lst (da_cons de_str (da_cons de_str (da_cons de_str da_nil)))) da_nil))) (da_cons (de_var 4) (da_cons (de_var 7) da_nil)))))) dss_nil)
      (dss_cons (ds_set (i := 9) sc__law_a_move.nd rfl (by first | exact .inl rfl | exact .inr rfl) (de_lstC da_nil))
      (dss_cons (ds_for passB rfl (di_range1 rfl T.n_range (da_cons (de_bin op_addAD de_int (de_callH h__law_cast hr hgd (by decide) rfl (da_cons (de_var 0) (da_cons de_int da_nil)))) da_nil)) (dg_name (i := 10) sc__law_a_move.nd rfl (by first | exact .inl rfl | exact .inr rfl)) (dss_one (ds_expr (de_append (de_var 9) (de_tup (da_cons (de_callH h__law_cast hr hgd (by decide) rfl (da_cons (de_var 0) (da_cons (de_var 1) da_nil))) (da_cons (de_callH h__law_cast hr hgd (by decide) rfl (da_cons (de_var 0) (da_cons (de_var 1) da_nil))) da_nil)))))))
      (dss_one (ds_ret (de_tup (da_cons de_str (da_cons (de_var 4) (da_cons (de_var 5) (da_cons (de_tuple rfl T.n_tuple (de_sortSetP rfl hr.units rfl T.n_sorted rfl T.n_set (de_var 9))) da_nil)))))))))))))
/-! _law_any_plain -/
abbrev s__law_any_plain : Stmt := topS 33
abbrev N__law_any_plain : List Str := ["die", "total", "rows", "names", "name", "points", "moves", "turn"]
theorem sc__law_any_plain : FnScope N__law_any_plain ((["die"] : List Str)) (defScope s__law_any_plain) := ⟨rfl, rfl, rfl, by decide +kernel, rfl, by decide +kernel, by decide +kernel⟩
def g__law_any_plain : EvS :=
  (sSeq (sPar 1 2 (fCons (fCall F__law_pick (fLen 2 (fCons (fV 0) (fCons (fApp gLst (fCons (fC (.int 2)) (fCons (fC (.int 3)) (fCons (fC (.int 2)) (fCons (fC (.int 1)) fNil))))) fNil)))) (fCons (fNewC fNil) fNil)))
  (sSeq (bThen (bName 3) (fSl (fCall F__law_shuffle (fLen 2 (fCons (fV 0) (fCons (fApp gLst (fCons (fC (.str "main")) (fCons (fC (.str "p")) (fCons (fC (.str "q")) fNil)))) fNil)))) fNo (fPart (fCall F__law_pick (fLen 2 (fCons (fV 0) (fCons (fApp gLst (fCons (fC (.int 2)) (fCons (fC (.int 3)) (fCons (fC (.int 1)) (fCons (fC (.int 2)) fNil))))) fNil)))))))
  (sSeq (sFor (itOf gSeq (fV 3)) (bName 4) (sSeq (sPar 5 6 (fCons (fCall F__law_pick (fLen 2 (fCons (fV 0) (fCons (fApp gLst (fCons (fC (.int 2)) (fCons (fC (.int 1)) (fCons (fC (.int 3)) (fCons (fC (.int 2)) fNil))))) fNil)))) (fCons (fNewC fNil) fNil)))
  (sSeq (sFor (gRng1 (fCons (fB dAddA (fC (.int 2)) (fCall F__law_cast (fLen 2 (fCons (fV 0) (fCons (fC (.int 4)) fNil))))) fNil)) (bName 7) (sDrop (fApn (fV 6) (fCall F__law_a_move (fLen 4 (fCons (fV 0) (fCons (fV 1) (fCons (fV 5) (fCons (fV 3) fNil)))))))))
  (sDrop (fApn (fV 2) (fApp gLst (fCons (fV 4) (fCons (fV 5) (fCons (fU dTuple (fV 6)) fNil)))))))))
  (sRet (fApp gLst (fCons (fV 1) (fCons (fCall F__law_subset (fLen 2 (fCons (fV 0) (fCons (fV 1) fNil)))) (fCons (fV 2) fNil))))))))
def F__law_any_plain : FnF := fnF 1 8 g__law_any_plain
theorem ok__law_any_plain {f : Addr} {fd : FuncData} (Fu : Fun K "_law_any_plain" "_law_any_plain" s__law_any_plain f fd) (T : Txt mg) (CF : TC P w K mg base c_Procedure c_InvalidProgram f_Procedure_init f_Procedure_of f_Procedure_called f_Procedure_points f_Procedure_moves f_Procedure_eq f_Procedure_len f_Procedure_str p_Procedure_of p_Procedure_called p_Procedure_points p_Procedure_moves p_PARTS f_met d_Procedure_init d_Procedure_of d_Procedure_called d_Procedure_points d_Procedure_moves d_Procedure_eq d_Procedure_len d_Procedure_str d_met mc_Procedure) (h__law_a_move : Has P w K mg base "_law_a_move" 3 4 F__law_a_move) (h__law_cast : Has P w K mg base "_law_cast" 1 2 F__law_cast) (h__law_pick : Has P w K mg base "_law_pick" 2 2 F__law_pick) (h__law_shuffle : Has P w K mg base "_law_shuffle" 2 2 F__law_shuffle) (h__law_subset : Has P w K mg base "_law_subset" 2 2 F__law_subset) : FG P w K mg base 4 f fd 1 F__law_any_plain :=
  fg_def (k := 3) Fu sc__law_any_plain (fun _ _ _ _ _ _ us hl => match us, hl with | [_], _ => rfl) fun cdv A stk s H E hr hgd =>
      (dss_cons (ds_par (i := 1) (j := 2) rfl sc__law_any_plain.nd rfl rfl (by decide) rfl rfl (da_cons (de_callH h__law_pick hr hgd (by decide) rfl (da_cons (de_var 0) (da_cons (de_lst (da_cons de_int (da_cons de_int (da_cons de_int (da_cons de_int da_nil))))) da_nil))) (da_cons (de_lstC da_nil) da_nil)) rfl)
      (dss_cons (ds_set (i := 3) sc__law_any_plain.nd rfl (by first | exact .inl rfl | exact .inr rfl) (de_slice (de_callH h__law_shuffle hr hgd (by decide) rfl (da_cons (de_var 0) (da_cons (de_lst (da_cons de_str (da_cons de_str (da_cons de_str da_nil)))) da_nil))) do_none (do_some (de_callH h__law_pick hr hgd (by decide) rfl (da_cons (de_var 0) (da_cons (de_lst (da_cons de_int (da_cons de_int (da_cons de_int (da_cons de_int da_nil))))) da_nil))))))
      (dss_cons (ds_for passB rfl (di_seq (de_var 3)) (dg_name (i := 4) sc__law_any_plain.nd rfl (by first | exact .inl rfl | exact .inr rfl)) (dss_cons (ds_par (i := 5) (j := 6) rfl sc__law_any_plain.nd rfl rfl (by decide) rfl rfl (da_cons (de_callH h__law_pick hr hgd (by decide) rfl (da_cons (de_var 0) (da_cons (de_lst (da_cons de_int (da_cons de_int (da_cons de_int (da_cons de_int da_nil))))) da_nil))) (da_cons (de_lstC da_nil) da_nil)) rfl)
      (dss_cons (ds_for passB rfl (di_range1 rfl T.n_range (da_cons (de_bin op_addAD de_int (de_callH h__law_cast hr hgd (by decide) rfl (da_cons (de_var 0) (da_cons de_int da_nil)))) da_nil)) (dg_name (i := 7) sc__law_any_plain.nd rfl (by first | exact .inl rfl | exact .inr rfl)) (dss_one (ds_expr (de_append (de_var 6) (de_callH h__law_a_move hr hgd (by decide) rfl (da_cons (de_var 0) (da_cons (de_var 1) (da_cons (de_var 5) (da_cons (de_var 3) da_nil)))))))))
      (dss_one (ds_expr (de_append (de_var 2) (de_lst (da_cons (de_var 4) (da_cons (de_var 5) (da_cons (de_tuple rfl T.n_tuple (de_var 6)) da_nil))))))))))
      (dss_one (ds_ret (de_lst (da_cons (de_var 1) (da_cons (de_callH h__law_subset hr hgd (by decide) rfl (da_cons (de_var 0) (da_cons (de_var 1) da_nil))) (da_cons (de_var 2) da_nil)))))))))
/-! _law_odd_one -/
abbrev s__law_odd_one : Stmt := topS 37
abbrev N__law_odd_one : List Str := ["die", "some"]
theorem sc__law_odd_one : FnScope N__law_odd_one ((["die"] : List Str)) (defScope s__law_odd_one) := ⟨rfl, rfl, rfl, by decide +kernel, rfl, by decide +kernel, by decide +kernel⟩
def g__law_odd_one : EvS :=
  (sSeq (bThen (bName 1) (fApp gLst (fCons (fC .non) (fCons (fC (.int 0)) (fCons (fC (.int 1)) (fCons (fC (.int 7)) (fCons (fC (.int 99)) (fCons (fU dNeg (fC (.int 1))) (fCons (fC (.bl true)) (fCons (fC (.bl false)) (fCons (fC (.str "")) (fCons (fC (.str "a")) (fCons (fC (.str "B")) (fCons (fC (.str "abcdefghi")) (fCons (fApp gTup fNil) (fCons (fApp gTup (fCons (fC (.int 0)) fNil)) (fCons (fApp gTup (fCons (fC (.int 1)) (fCons (fC (.int 0)) fNil))) (fCons (fApp gTup (fCons (fC (.int 0)) (fCons (fC (.int 0)) fNil))) (fCons (fApp gLst (fCons (fC (.int 0)) fNil)) (fCons (fC (.dct [])) (fCons (fC (.str "p")) fNil)))))))))))))))))))))
  (sSeq (bThen (bName 1) (fB dAddA (fV 1) (fApp gLst (fCons (fB (dII gPow) (fC (.int 10)) (fC (.int 39))) (fCons (fApp gTup (fCons (fC .non) fNil)) (fCons (fApp gTup (fCons (fApp gTup (fCons (fC (.int 0)) (fCons (fC (.int 0)) fNil))) fNil)) (fCons (fApp gTup (fCons (fApp gTup (fCons (fC (.int 0)) (fCons (fC (.int 0)) fNil))) (fCons (fApp gTup (fCons (fC (.int 0)) (fCons (fC (.int 0)) fNil))) fNil))) (fCons (fApp gTup (fCons (fC (.str "a")) fNil)) (fCons (fApp gTup (fCons (fC (.str "p")) (fCons (fC (.int 0)) fNil))) (fCons (fC (.str "go")) (fCons (fC (.str "fail")) (fCons (fC (.str "left")) fNil))))))))))))
  (sRet (fCall F__law_pick (fLen 2 (fCons (fV 0) (fCons (fV 1) fNil)))))))
def F__law_odd_one : FnF := fnF 1 2 g__law_odd_one
theorem ok__law_odd_one {f : Addr} {fd : FuncData} (Fu : Fun K "_law_odd_one" "_law_odd_one" s__law_odd_one f fd) (T : Txt mg) (CF : TC P w K mg base c_Procedure c_InvalidProgram f_Procedure_init f_Procedure_of f_Procedure_called f_Procedure_points f_Procedure_moves f_Procedure_eq f_Procedure_len f_Procedure_str p_Procedure_of p_Procedure_called p_Procedure_points p_Procedure_moves p_PARTS f_met d_Procedure_init d_Procedure_of d_Procedure_called d_Procedure_points d_Procedure_moves d_Procedure_eq d_Procedure_len d_Procedure_str d_met mc_Procedure) (h__law_pick : Has P w K mg base "_law_pick" 2 2 F__law_pick) : FG P w K mg base 3 f fd 1 F__law_odd_one :=
  fg_def (k := 2) Fu sc__law_odd_one (fun _ _ _ _ _ _ us hl => match us, hl with | [_], _ => rfl) fun cdv A stk s H E hr hgd =>
      (dss_cons (ds_set (i := 1) sc__law_odd_one.nd rfl (by first | exact .inl rfl | exact .inr rfl) (de_lst (da_cons de_non (da_cons de_int (da_cons de_int (da_cons de_int (da_cons de_int (da_cons (de_un un_negD de_int) (da_cons de_bl (da_cons de_bl (da_cons de_str (da_cons de_str (da_cons de_str (da_cons de_str (da_cons (de_tup da_nil) (da_cons (de_tup (da_cons de_int da_nil)) (da_cons (de_tup (da_cons de_int (da_cons de_int da_nil))) (da_cons (de_tup (da_cons de_int (da_cons de_int da_nil))) (da_cons (de_lst (da_cons de_int da_nil)) (da_cons de_dct0 (da_cons de_str da_nil)))))))))))))))))))))
      (dss_cons (ds_set (i := 1) sc__law_odd_one.nd rfl (by first | exact .inl rfl | exact .inr rfl) (de_bin op_addAD (de_var 1) (de_lst (da_cons (de_bin op_powD de_int de_int) (da_cons (de_tup (da_cons de_non da_nil)) (da_cons (de_tup (da_cons (de_tup (da_cons de_int (da_cons de_int da_nil))) da_nil)) (da_cons (de_tup (da_cons (de_tup (da_cons de_int (da_cons de_int da_nil))) (da_cons (de_tup (da_cons de_int (da_cons de_int da_nil))) da_nil))) (da_cons (de_tup (da_cons de_str da_nil)) (da_cons (de_tup (da_cons de_str (da_cons de_int da_nil))) (da_cons de_str (da_cons de_str (da_cons de_str da_nil))))))))))))
      (dss_one (ds_ret (de_callH h__law_pick hr hgd (by decide) rfl (da_cons (de_var 0) (da_cons (de_var 1) da_nil)))))))
/-! highest_mode -/
abbrev s_highest_mode : Stmt := topS 13
abbrev N_highest_mode : List Str := ["moves", "highest", "move", "modes", "pair"]
theorem sc_highest_mode : FnScope N_highest_mode ((["moves"] : List Str)) (defScope s_highest_mode) := ⟨rfl, rfl, rfl, by decide +kernel, rfl, by decide +kernel, by decide +kernel⟩
def g_highest_mode : EvS :=
  (sSeq (bThen (bName 1) (fU dNeg (fC (.int 1))))
  (sSeq (sFor (itOf gSeq (fV 0)) (bName 2) (sIf (fTru (fB dEqW (fB dIx (fV 2) (fC (.int 0))) (fC (.str "go")))) (bThen (bName 1) (fApp (g1 dMaxA) (fCons (fApp gLst (fCons (fV 1) (fStar (fLc (itOf gSeq (fB dIx (fV 2) (fC (.int 3)))) (bName 4) (fun S => some (true, S.μ)) (fApp (g1 dMaxA) (fCons (fV 4) fNil)) [4]) fNil))) fNil))) (sSeq (bThen (bName 3) (fIfE (fTru (fB dEqW (fB dIx (fV 2) (fC (.int 0))) (fC (.str "call")))) (fB dIx (fV 2) (fC (.int 4))) (fB dIx (fV 2) (fC (.int 2)))))
  (bThen (bName 1) (fApp (g2 dMax2) (fCons (fV 1) (fCons (fB dIx (fV 3) (fU dNeg (fC (.int 1)))) fNil)))))))
  (sRet (fV 1))))
def F_highest_mode : FnF := fnF 1 5 g_highest_mode
theorem ok_highest_mode {f : Addr} {fd : FuncData} (Fu : Fun K "highest_mode" "highest_mode" s_highest_mode f fd) (T : Txt mg) (CF : TC P w K mg base c_Procedure c_InvalidProgram f_Procedure_init f_Procedure_of f_Procedure_called f_Procedure_points f_Procedure_moves f_Procedure_eq f_Procedure_len f_Procedure_str p_Procedure_of p_Procedure_called p_Procedure_points p_Procedure_moves p_PARTS f_met d_Procedure_init d_Procedure_of d_Procedure_called d_Procedure_points d_Procedure_moves d_Procedure_eq d_Procedure_len d_Procedure_str d_met mc_Procedure) : FG P w K mg base 1 f fd 1 F_highest_mode :=
  fg_def (k := 0) Fu sc_highest_mode (fun _ _ _ _ _ _ us hl => match us, hl with | [_], _ => rfl) fun cdv A stk s H E hr hgd =>
      (dss_cons (ds_set (i := 1) sc_highest_mode.nd rfl (by first | exact .inl rfl | exact .inr rfl) (de_un un_negD de_int))
      (dss_cons (ds_for passB rfl (di_seq (de_var 0)) (dg_name (i := 2) sc_highest_mode.nd rfl (by first | exact .inl rfl | exact .inr rfl)) (dss_one (ds_if (dt_cmp (op_eqW hr.units) (de_ix ix_D (de_var 2) de_int) de_str (nomark _) dEqW_bl) (dss_one (ds_set (i := 1) sc_highest_mode.nd rfl (by first | exact .inl rfl | exact .inr rfl) (de_callB (call_maxAD rfl hr.units) rfl T.n_max (by decide +kernel) (da_cons (de_lst (da_cons (de_var 1) (da_star (de_lc rfl sc_highest_mode.nd (own := [("pair", 4)]) (di_seq (de_ix ix_D (de_var 2) de_int)) (blkOk_by (N := N_highest_mode) (sc := defScope s_highest_mode) (by decide +kernel)) (fun _ _ _ _ _ => (dg_name (i := 4) sc_highest_mode.nd rfl (by first | exact .inl rfl | exact .inr rfl))) (fun _ _ _ _ _ => dts_nil) (fun _ _ _ _ _ => (de_callB (call_maxAD rfl hr.units) rfl T.n_max (by decide +kernel) (da_cons (de_var 4) da_nil)))) da_nil))) da_nil)))) (dss_cons (ds_set (i := 3) sc_highest_mode.nd rfl (by first | exact .inl rfl | exact .inr rfl) (de_ifE (dt_cmp (op_eqW hr.units) (de_ix ix_D (de_var 2) de_int) de_str (nomark _) dEqW_bl) (de_ix ix_D (de_var 2) de_int) (de_ix ix_D (de_var 2) de_int)))
      (dss_one (ds_set (i := 1) sc_highest_mode.nd rfl (by first | exact .inl rfl | exact .inr rfl) (de_callB (call_max2D rfl) rfl T.n_max (by decide +kernel) (da_cons (de_var 1) (da_cons (de_ix ix_D (de_var 3) (de_un un_negD de_int)) da_nil)))))))))
      (dss_one (ds_ret (de_var 1)))))
/-! is_name -/
abbrev s_is_name : Stmt := topS 5
abbrev N_is_name : List Str := ["value"]
theorem sc_is_name : FnScope N_is_name ((["value"] : List Str)) (defScope s_is_name) := ⟨rfl, rfl, rfl, by decide +kernel, rfl, by decide +kernel, by decide +kernel⟩
def g_is_name : EvS :=
  (sSeq (sIf (fOr (fNot (fTru (fApp (g2 dIsi) (fCons (fV 0) (fCons (fC (.ty "str")) fNil))))) (fNot (fTru (fCh dLe dLe (fC (.int 1)) (fApp (g1 dLen) (fCons (fV 0) fNil)) (fC (.int 8)))))) (sRet (fC (.bl false))) sNx)
  (sRet (fAndV (fU dIsascii (fV 0)) (fAndV (fU dIsalpha (fV 0)) (fU dIslower (fV 0))))))
def F_is_name : FnF := fnF 1 1 g_is_name
theorem ok_is_name {f : Addr} {fd : FuncData} (Fu : Fun K "is_name" "is_name" s_is_name f fd) (T : Txt mg) (CF : TC P w K mg base c_Procedure c_InvalidProgram f_Procedure_init f_Procedure_of f_Procedure_called f_Procedure_points f_Procedure_moves f_Procedure_eq f_Procedure_len f_Procedure_str p_Procedure_of p_Procedure_called p_Procedure_points p_Procedure_moves p_PARTS f_met d_Procedure_init d_Procedure_of d_Procedure_called d_Procedure_points d_Procedure_moves d_Procedure_eq d_Procedure_len d_Procedure_str d_met mc_Procedure) : FG P w K mg base 1 f fd 1 F_is_name :=
  fg_def (k := 0) Fu sc_is_name (fun _ _ _ _ _ _ us hl => match us, hl with | [_], _ => rfl) fun cdv A stk s H E hr hgd =>
      (dss_cons (ds_if (PW.pt (dw_or (dt_not (dt_truth (de_callB call_isiD rfl T.n_isinstance (by decide +kernel) (da_cons (de_var 0) (da_cons (de_gty rfl T.n_str (by decide +kernel)) da_nil))))) (dw_or1 (dt_not (dt_chain op_leD op_leD de_int (de_callB call_lenD rfl T.n_len (by decide +kernel) (da_cons (de_var 0) da_nil)) (de_gint rfl T.c_LONGEST_NAME) dOrd_bl))))) (dss_one (ds_ret de_bl)) dss_nil)
      (dss_one (ds_ret (de_and (de_isascii (de_var 0)) (de_and (de_isalpha (de_var 0)) (de_one (de_islower (de_var 0))))))))
/-! is_whole_within -/
abbrev s_is_whole_within : Stmt := topS 3
abbrev N_is_whole_within : List Str := ["value", "low", "high"]
theorem sc_is_whole_within : FnScope N_is_whole_within ((["value", "low", "high"] : List Str)) (defScope s_is_whole_within) := ⟨rfl, rfl, rfl, by decide +kernel, rfl, by decide +kernel, by decide +kernel⟩
def g_is_whole_within : EvS :=
  (sRet (fAndV (fB dIs (fApp (g1 dType) (fCons (fV 0) fNil)) (fC (.ty "int"))) (fCh dLe dLe (fV 1) (fV 0) (fV 2))))
def F_is_whole_within : FnF := fnF 3 3 g_is_whole_within
theorem ok_is_whole_within {f : Addr} {fd : FuncData} (Fu : Fun K "is_whole_within" "is_whole_within" s_is_whole_within f fd) (T : Txt mg) (CF : TC P w K mg base c_Procedure c_InvalidProgram f_Procedure_init f_Procedure_of f_Procedure_called f_Procedure_points f_Procedure_moves f_Procedure_eq f_Procedure_len f_Procedure_str p_Procedure_of p_Procedure_called p_Procedure_points p_Procedure_moves p_PARTS f_met d_Procedure_init d_Procedure_of d_Procedure_called d_Procedure_points d_Procedure_moves d_Procedure_eq d_Procedure_len d_Procedure_str d_met mc_Procedure) : FG P w K mg base 1 f fd 3 F_is_whole_within :=
  fg_def (k := 0) Fu sc_is_whole_within (fun _ _ _ _ _ _ us hl => match us, hl with | [_, _, _], _ => rfl) fun cdv A stk s H E hr hgd =>
      (dss_one (ds_ret (de_and (de_cmp op_isD (de_callTy call_typeD rfl T.n_type (by decide +kernel) (da_cons (de_var 0) da_nil)) (de_gty rfl T.n_int (by decide +kernel)) (nomark _)) (de_one (de_chain op_leD op_leD (de_var 1) (de_var 0) (de_var 2))))))
/-! is_ascending_below -/
abbrev s_is_ascending_below : Stmt := topS 4
abbrev N_is_ascending_below : List Str := ["value", "bound", "last", "item"]
theorem sc_is_ascending_below : FnScope N_is_ascending_below ((["value", "bound"] : List Str)) (defScope s_is_ascending_below) := ⟨rfl, rfl, rfl, by decide +kernel, rfl, by decide +kernel, by decide +kernel⟩
def g_is_ascending_below : EvS :=
  (sSeq (sIf (fNot (fTru (fApp (g2 dIsi) (fCons (fV 0) (fCons (fC (.ty "tuple")) fNil))))) (sRet (fC (.bl false))) sNx)
  (sSeq (bThen (bName 2) (fU dNeg (fC (.int 1))))
  (sSeq (sFor (itOf gSeq (fV 0)) (bName 3) (sSeq (sIf (fOr (fTru (fB dIsNot (fApp (g1 dType) (fCons (fV 3) fNil)) (fC (.ty "int")))) (fTru (fB dLe (fV 3) (fV 2)))) (sRet (fC (.bl false))) sNx)
  (bThen (bName 2) (fV 3))))
  (sRet (fB dLtA (fV 2) (fV 1))))))
def F_is_ascending_below : FnF := fnF 2 4 g_is_ascending_below
theorem ok_is_ascending_below {f : Addr} {fd : FuncData} (Fu : Fun K "is_ascending_below" "is_ascending_below" s_is_ascending_below f fd) (T : Txt mg) (CF : TC P w K mg base c_Procedure c_InvalidProgram f_Procedure_init f_Procedure_of f_Procedure_called f_Procedure_points f_Procedure_moves f_Procedure_eq f_Procedure_len f_Procedure_str p_Procedure_of p_Procedure_called p_Procedure_points p_Procedure_moves p_PARTS f_met d_Procedure_init d_Procedure_of d_Procedure_called d_Procedure_points d_Procedure_moves d_Procedure_eq d_Procedure_len d_Procedure_str d_met mc_Procedure) : FG P w K mg base 1 f fd 2 F_is_ascending_below :=
  fg_def (k := 0) Fu sc_is_ascending_below (fun _ _ _ _ _ _ us hl => match us, hl with | [_, _], _ => rfl) fun cdv A stk s H E hr hgd =>
      (dss_cons (ds_if (dt_not (dt_truth (de_callB call_isiD rfl T.n_isinstance (by decide +kernel) (da_cons (de_var 0) (da_cons (de_gty rfl T.n_tuple (by decide +kernel)) da_nil))))) (dss_one (ds_ret de_bl)) dss_nil)
      (dss_cons (ds_set (i := 2) sc_is_ascending_below.nd rfl (by first | exact .inl rfl | exact .inr rfl) (de_un un_negD de_int))
      (dss_cons (ds_for passB rfl (di_seq (de_var 0)) (dg_name (i := 3) sc_is_ascending_below.nd rfl (by first | exact .inl rfl | exact .inr rfl)) (dss_cons (ds_if (PW.pt (dw_or (dt_cmp op_isNotD (de_callTy call_typeD rfl T.n_type (by decide +kernel) (da_cons (de_var 3) da_nil)) (de_gty rfl T.n_int (by decide +kernel)) (nomark _) dIsNot_bl) (dw_or1 (dt_cmp op_leD (de_var 3) (de_var 2) (nomark _) dOrd_bl)))) (dss_one (ds_ret de_bl)) dss_nil)
      (dss_one (ds_set (i := 2) sc_is_ascending_below.nd rfl (by first | exact .inl rfl | exact .inr rfl) (de_var 3)))))
      (dss_one (ds_ret (de_cmp (op_ltAD hr.units0) (de_var 2) (de_var 1) (nomark _)))))))
/-! is_mode_set -/
abbrev s_is_mode_set : Stmt := topS 11
abbrev N_is_mode_set : List Str := ["value", "modes"]
theorem sc_is_mode_set : FnScope N_is_mode_set ((["value", "modes"] : List Str)) (defScope s_is_mode_set) := ⟨rfl, rfl, rfl, by decide +kernel, rfl, by decide +kernel, by decide +kernel⟩
def g_is_mode_set : EvS :=
  (sRet (fAndV (fCall F_is_ascending_below (fLen 2 (fCons (fV 0) (fCons (fV 1) fNil)))) (fB dGt (fApp (g1 dLen) (fCons (fV 0) fNil)) (fC (.int 0)))))
def F_is_mode_set : FnF := fnF 2 2 g_is_mode_set
theorem ok_is_mode_set {f : Addr} {fd : FuncData} (Fu : Fun K "is_mode_set" "is_mode_set" s_is_mode_set f fd) (T : Txt mg) (CF : TC P w K mg base c_Procedure c_InvalidProgram f_Procedure_init f_Procedure_of f_Procedure_called f_Procedure_points f_Procedure_moves f_Procedure_eq f_Procedure_len f_Procedure_str p_Procedure_of p_Procedure_called p_Procedure_points p_Procedure_moves p_PARTS f_met d_Procedure_init d_Procedure_of d_Procedure_called d_Procedure_points d_Procedure_moves d_Procedure_eq d_Procedure_len d_Procedure_str d_met mc_Procedure) (h_is_ascending_below : Has P w K mg base "is_ascending_below" 1 2 F_is_ascending_below) : FG P w K mg base 2 f fd 2 F_is_mode_set :=
  fg_def (k := 1) Fu sc_is_mode_set (fun _ _ _ _ _ _ us hl => match us, hl with | [_, _], _ => rfl) fun cdv A stk s H E hr hgd =>
      (dss_one (ds_ret (de_and (de_callH h_is_ascending_below hr hgd (by decide) rfl (da_cons (de_var 0) (da_cons (de_var 1) da_nil))) (de_one (de_cmp op_gtD (de_callB call_lenD rfl T.n_len (by decide +kernel) (da_cons (de_var 0) da_nil)) de_int (nomark _))))))
/-! _is_pair -/
abbrev s__is_pair : Stmt := topS 16
abbrev N__is_pair : List Str := ["value"]
theorem sc__is_pair : FnScope N__is_pair ((["value"] : List Str)) (defScope s__is_pair) := ⟨rfl, rfl, rfl, by decide +kernel, rfl, by decide +kernel, by decide +kernel⟩
def g__is_pair : EvS :=
  (sSeq (sIf (fOr (fNot (fTru (fApp (g2 dIsi) (fCons (fV 0) (fCons (fC (.ty "tuple")) fNil))))) (fTru (fB dNeW (fApp (g1 dLen) (fCons (fV 0) fNil)) (fC (.int 2))))) (sRet (fC (.bl false))) sNx)
  (sRet (fAndV (fCall F_is_whole_within (fLen 3 (fCons (fB dIx (fV 0) (fC (.int 0))) (fCons (fC (.int 0)) (fCons (fB (dII gSub) (fC (.int 6)) (fC (.int 1))) fNil))))) (fCall F_is_whole_within (fLen 3 (fCons (fB dIx (fV 0) (fC (.int 1))) (fCons (fC (.int 0)) (fCons (fB (dII gSub) (fC (.int 6)) (fC (.int 1))) fNil))))))))
def F__is_pair : FnF := fnF 1 1 g__is_pair
theorem ok__is_pair {f : Addr} {fd : FuncData} (Fu : Fun K "_is_pair" "_is_pair" s__is_pair f fd) (T : Txt mg) (CF : TC P w K mg base c_Procedure c_InvalidProgram f_Procedure_init f_Procedure_of f_Procedure_called f_Procedure_points f_Procedure_moves f_Procedure_eq f_Procedure_len f_Procedure_str p_Procedure_of p_Procedure_called p_Procedure_points p_Procedure_moves p_PARTS f_met d_Procedure_init d_Procedure_of d_Procedure_called d_Procedure_points d_Procedure_moves d_Procedure_eq d_Procedure_len d_Procedure_str d_met mc_Procedure) (h_is_whole_within : Has P w K mg base "is_whole_within" 1 3 F_is_whole_within) : FG P w K mg base 2 f fd 1 F__is_pair :=
  fg_def (k := 1) Fu sc__is_pair (fun _ _ _ _ _ _ us hl => match us, hl with | [_], _ => rfl) fun cdv A stk s H E hr hgd =>
      (dss_cons (ds_if (PW.pt (dw_or (dt_not (dt_truth (de_callB call_isiD rfl T.n_isinstance (by decide +kernel) (da_cons (de_var 0) (da_cons (de_gty rfl T.n_tuple (by decide +kernel)) da_nil))))) (dw_or1 (dt_cmp (op_neW hr.units) (de_callB call_lenD rfl T.n_len (by decide +kernel) (da_cons (de_var 0) da_nil)) de_int (nomark _) dNeW_bl)))) (dss_one (ds_ret de_bl)) dss_nil)
      (dss_one (ds_ret (de_and (de_callH h_is_whole_within hr hgd (by decide) rfl (da_cons (de_ix ix_D (de_var 0) de_int) (da_cons de_int (da_cons (de_bin op_subD (de_gint rfl T.c_MOST_MODES) de_int) da_nil)))) (de_one (de_callH h_is_whole_within hr hgd (by decide) rfl (da_cons (de_ix ix_D (de_var 0) de_int) (da_cons de_int (da_cons (de_bin op_subD (de_gint rfl T.c_MOST_MODES) de_int) da_nil)))))))))
/-! _is_pairs -/
abbrev s__is_pairs : Stmt := topS 15
abbrev N__is_pairs : List Str := ["value", "one", "other", "pair"]
theorem sc__is_pairs : FnScope N__is_pairs ((["value"] : List Str)) (defScope s__is_pairs) := ⟨rfl, rfl, rfl, by decide +kernel, rfl, by decide +kernel, by decide +kernel⟩
def g__is_pairs : EvS :=
  (sSeq (sIf (fOr (fNot (fTru (fApp (g2 dIsi) (fCons (fV 0) (fCons (fC (.ty "tuple")) fNil))))) (fTru (fB dEqW (fApp (g1 dLen) (fCons (fV 0) fNil)) (fC (.int 0))))) (sRet (fC (.bl false))) sNx)
  (sSeq (sIf (fNot (fTru (fApp (g1 dAll) (fCons (fLc (itOf gSeq (fV 0)) (bName 3) (fun S => some (true, S.μ)) (fCall F__is_pair (fLen 1 (fCons (fV 3) fNil))) [3]) fNil)))) (sRet (fC (.bl false))) sNx)
  (sRet (fApp (g1 dAll) (fCons (fLc (gZip (fCons (fV 0) (fCons (fSl (fV 0) (fPart (fC (.int 1))) fNo) fNil))) (bSeq 2 (bsCons (bName 1) (bsCons (bName 2) bsNil))) (fun S => some (true, S.μ)) (fB dLtA (fV 1) (fV 2)) [1, 2]) fNil)))))
def F__is_pairs : FnF := fnF 1 4 g__is_pairs
theorem ok__is_pairs {f : Addr} {fd : FuncData} (Fu : Fun K "_is_pairs" "_is_pairs" s__is_pairs f fd) (T : Txt mg) (CF : TC P w K mg base c_Procedure c_InvalidProgram f_Procedure_init f_Procedure_of f_Procedure_called f_Procedure_points f_Procedure_moves f_Procedure_eq f_Procedure_len f_Procedure_str p_Procedure_of p_Procedure_called p_Procedure_points p_Procedure_moves p_PARTS f_met d_Procedure_init d_Procedure_of d_Procedure_called d_Procedure_points d_Procedure_moves d_Procedure_eq d_Procedure_len d_Procedure_str d_met mc_Procedure) (h__is_pair : Has P w K mg base "_is_pair" 2 1 F__is_pair) : FG P w K mg base 3 f fd 1 F__is_pairs :=
  fg_def (k := 2) Fu sc__is_pairs (fun _ _ _ _ _ _ us hl => match us, hl with | [_], _ => rfl) fun cdv A stk s H E hr hgd =>
      (dss_cons (ds_if (PW.pt (dw_or (dt_not (dt_truth (de_callB call_isiD rfl T.n_isinstance (by decide +kernel) (da_cons (de_var 0) (da_cons (de_gty rfl T.n_tuple (by decide +kernel)) da_nil))))) (dw_or1 (dt_cmp (op_eqW hr.units) (de_callB call_lenD rfl T.n_len (by decide +kernel) (da_cons (de_var 0) da_nil)) de_int (nomark _) dEqW_bl)))) (dss_one (ds_ret de_bl)) dss_nil)
      (dss_cons (ds_if (dt_not (dt_truth (de_callB (call_allD rfl) rfl T.n_all (by decide +kernel) (da_cons (de_lc rfl sc__is_pairs.nd (own := [("pair", 3)]) (di_seq (de_var 0)) (blkOk_by (N := N__is_pairs) (sc := defScope s__is_pairs) (by decide +kernel)) (fun _ _ _ _ _ => (dg_name (i := 3) sc__is_pairs.nd rfl (by first | exact .inl rfl | exact .inr rfl))) (fun _ _ _ _ _ => dts_nil) (fun _ _ _ _ _ => (de_callH h__is_pair hr hgd (by decide) rfl (da_cons (de_var 3) da_nil)))) da_nil)))) (dss_one (ds_ret de_bl)) dss_nil)
      (dss_one (ds_ret (de_callB (call_allD rfl) rfl T.n_all (by decide +kernel) (da_cons (de_lc rfl sc__is_pairs.nd (own := [("one", 1), ("other", 2)]) (di_zip rfl T.n_zip (da_cons (de_var 0) (da_cons (de_slice (de_var 0) (do_some de_int) do_none) da_nil))) (blkOk_by (N := N__is_pairs) (sc := defScope s__is_pairs) (by decide +kernel)) (fun _ _ _ _ _ => (dg_seq rfl (dgs_cons (dg_name (i := 1) sc__is_pairs.nd rfl (by first | exact .inl rfl | exact .inr rfl)) (dgs_cons (dg_name (i := 2) sc__is_pairs.nd rfl (by first | exact .inl rfl | exact .inr rfl)) dgs_nil)))) (fun _ _ _ _ _ => dts_nil) (fun _ _ _ _ _ => (de_cmp (op_ltAD hr.units0) (de_var 1) (de_var 2) (nomark _)))) da_nil))))))
/-! _is_move -/
abbrev s__is_move : Stmt := topS 14
abbrev N__is_move : List Str := ["value", "points", "word"]
theorem sc__is_move : FnScope N__is_move ((["value", "points"] : List Str)) (defScope s__is_move) := ⟨rfl, rfl, rfl, by decide +kernel, rfl, by decide +kernel, by decide +kernel⟩
def g__is_move : EvS :=
  (sSeq (sIf (fOr (fNot (fTru (fApp (g2 dIsi) (fCons (fV 0) (fCons (fC (.ty "tuple")) fNil))))) (fOr (fTru (fB dEqW (fApp (g1 dLen) (fCons (fV 0) fNil)) (fC (.int 0)))) (fNot (fTru (fApp (g2 dIsi) (fCons (fB dIx (fV 0) (fC (.int 0))) (fCons (fC (.ty "str")) fNil))))))) (sRet (fC (.bl false))) sNx)
  (sSeq (bThen (bName 2) (fB dIx (fV 0) (fC (.int 0))))
  (sSeq (sIf (fOr (fTru (fB dNeW (fU (dKGet tab_PARTS) (fV 2)) (fApp (g1 dLen) (fCons (fV 0) fNil)))) (fNot (fTru (fCall F_is_whole_within (fLen 3 (fCons (fB dIx (fV 0) (fC (.int 1))) (fCons (fC (.int 0)) (fCons (fB (dII gSub) (fV 1) (fC (.int 1))) fNil)))))))) (sRet (fC (.bl false))) sNx)
  (sSeq (sIf (fOr (fTru (fB dEqW (fV 2) (fC (.str "leave")))) (fTru (fB dEqW (fV 2) (fC (.str "fail"))))) (sRet (fCall F_is_mode_set (fLen 2 (fCons (fB dIx (fV 0) (fC (.int 2))) (fCons (fC (.int 6)) fNil))))) sNx)
  (sSeq (sIf (fNot (fTru (fCall F_is_whole_within (fLen 3 (fCons (fB dIx (fV 0) (fC (.int 2))) (fCons (fC (.int 0)) (fCons (fB (dII gSub) (fV 1) (fC (.int 1))) fNil))))))) (sRet (fC (.bl false))) sNx)
  (sSeq (sIf (fTru (fB dEqW (fV 2) (fC (.str "go")))) (sRet (fCall F__is_pairs (fLen 1 (fCons (fB dIx (fV 0) (fC (.int 3))) fNil)))) sNx)
  (sSeq (sIf (fOr (fNot (fTru (fCall F_is_name (fLen 1 (fCons (fB dIx (fV 0) (fC (.int 3))) fNil))))) (fNot (fTru (fCall F_is_mode_set (fLen 2 (fCons (fB dIx (fV 0) (fC (.int 4))) (fCons (fC (.int 6)) fNil))))))) (sRet (fC (.bl false))) sNx)
  (sRet (fOrV (fB dIs (fB dIx (fV 0) (fC (.int 5))) (fC .non)) (fCall F_is_whole_within (fLen 3 (fCons (fB dIx (fV 0) (fC (.int 5))) (fCons (fC (.int 0)) (fCons (fB (dII gSub) (fV 1) (fC (.int 1))) fNil))))))))))))))
def F__is_move : FnF := fnF 2 3 g__is_move
theorem ok__is_move {f : Addr} {fd : FuncData} (Fu : Fun K "_is_move" "_is_move" s__is_move f fd) (T : Txt mg) (CF : TC P w K mg base c_Procedure c_InvalidProgram f_Procedure_init f_Procedure_of f_Procedure_called f_Procedure_points f_Procedure_moves f_Procedure_eq f_Procedure_len f_Procedure_str p_Procedure_of p_Procedure_called p_Procedure_points p_Procedure_moves p_PARTS f_met d_Procedure_init d_Procedure_of d_Procedure_called d_Procedure_points d_Procedure_moves d_Procedure_eq d_Procedure_len d_Procedure_str d_met mc_Procedure) (h__is_pairs : Has P w K mg base "_is_pairs" 3 1 F__is_pairs) (h_is_mode_set : Has P w K mg base "is_mode_set" 2 2 F_is_mode_set) (h_is_name : Has P w K mg base "is_name" 1 1 F_is_name) (h_is_whole_within : Has P w K mg base "is_whole_within" 1 3 F_is_whole_within) : FG P w K mg base 4 f fd 2 F__is_move :=
  fg_def (k := 3) Fu sc__is_move (fun _ _ _ _ _ _ us hl => match us, hl with | [_, _], _ => rfl) fun cdv A stk s H E hr hgd =>
      (dss_cons (ds_if (PW.pt (dw_or (dt_not (dt_truth (de_callB call_isiD rfl T.n_isinstance (by decide +kernel) (da_cons (de_var 0) (da_cons (de_gty rfl T.n_tuple (by decide +kernel)) da_nil))))) (dw_or (dt_cmp (op_eqW hr.units) (de_callB call_lenD rfl T.n_len (by decide +kernel) (da_cons (de_var 0) da_nil)) de_int (nomark _) dEqW_bl) (dw_or1 (dt_not (dt_truth (de_callB call_isiD rfl T.n_isinstance (by decide +kernel) (da_cons (de_ix ix_D (de_var 0) de_int) (da_cons (de_gty rfl T.n_str (by decide +kernel)) da_nil))))))))) (dss_one (ds_ret de_bl)) dss_nil)
      (dss_cons (ds_set (i := 2) sc__is_move.nd rfl (by first | exact .inl rfl | exact .inr rfl) (de_ix ix_D (de_var 0) de_int))
      (dss_cons (ds_if (PW.pt (dw_or (dt_cmp (op_neW hr.units) (de_kget rfl CF.m_PARTS CF.t_PARTS (de_var 2)) (de_callB call_lenD rfl T.n_len (by decide +kernel) (da_cons (de_var 0) da_nil)) (nomark _) dNeW_bl) (dw_or1 (dt_not (dt_truth (de_callH h_is_whole_within hr hgd (by decide) rfl (da_cons (de_ix ix_D (de_var 0) de_int) (da_cons de_int (da_cons (de_bin op_subD (de_var 1) de_int) da_nil))))))))) (dss_one (ds_ret de_bl)) dss_nil)
      (dss_cons (ds_if (PW.pt (dw_or (dt_cmp (op_eqW hr.units) (de_var 2) de_str (nomark _) dEqW_bl) (dw_or1 (dt_cmp (op_eqW hr.units) (de_var 2) de_str (nomark _) dEqW_bl)))) (dss_one (ds_ret (de_callH h_is_mode_set hr hgd (by decide) rfl (da_cons (de_ix ix_D (de_var 0) de_int) (da_cons (de_gint rfl T.c_MOST_MODES) da_nil))))) dss_nil)
      (dss_cons (ds_if (dt_not (dt_truth (de_callH h_is_whole_within hr hgd (by decide) rfl (da_cons (de_ix ix_D (de_var 0) de_int) (da_cons de_int (da_cons (de_bin op_subD (de_var 1) de_int) da_nil)))))) (dss_one (ds_ret de_bl)) dss_nil)
      (dss_cons (ds_if (dt_cmp (op_eqW hr.units) (de_var 2) de_str (nomark _) dEqW_bl) (dss_one (ds_ret (de_callH h__is_pairs hr hgd (by decide) rfl (da_cons (de_ix ix_D (de_var 0) de_int) da_nil)))) dss_nil)
      (dss_cons (ds_if (PW.pt (dw_or (dt_not (dt_truth (de_callH h_is_name hr hgd (by decide) rfl (da_cons (de_ix ix_D (de_var 0) de_int) da_nil)))) (dw_or1 (dt_not (dt_truth (de_callH h_is_mode_set hr hgd (by decide) rfl (da_cons (de_ix ix_D (de_var 0) de_int) (da_cons (de_gint rfl T.c_MOST_MODES) da_nil)))))))) (dss_one (ds_ret de_bl)) dss_nil)
      (dss_one (ds_ret (de_or (de_cmp op_isD (de_ix ix_D (de_var 0) de_int) de_non (nomark _)) (de_one (de_callH h_is_whole_within hr hgd (by decide) rfl (da_cons (de_ix ix_D (de_var 0) de_int) (da_cons de_int (da_cons (de_bin op_subD (de_var 1) de_int) da_nil)))))))))))))))
/-! is_moves -/
abbrev s_is_moves : Stmt := topS 12
abbrev N_is_moves : List Str := ["value", "points", "move"]
theorem sc_is_moves : FnScope N_is_moves ((["value", "points"] : List Str)) (defScope s_is_moves) := ⟨rfl, rfl, rfl, by decide +kernel, rfl, by decide +kernel, by decide +kernel⟩
def g_is_moves : EvS :=
  (sSeq (sIf (fOr (fNot (fTru (fApp (g2 dIsi) (fCons (fV 0) (fCons (fC (.ty "tuple")) fNil))))) (fTru (fB dGt (fApp (g1 dLen) (fCons (fV 0) fNil)) (fC (.int 16))))) (sRet (fC (.bl false))) sNx)
  (sRet (fApp (g1 dAll) (fCons (fLc (itOf gSeq (fV 0)) (bName 2) (fun S => some (true, S.μ)) (fCall F__is_move (fLen 2 (fCons (fV 2) (fCons (fV 1) fNil)))) [2]) fNil))))
def F_is_moves : FnF := fnF 2 3 g_is_moves
theorem ok_is_moves {f : Addr} {fd : FuncData} (Fu : Fun K "is_moves" "is_moves" s_is_moves f fd) (T : Txt mg) (CF : TC P w K mg base c_Procedure c_InvalidProgram f_Procedure_init f_Procedure_of f_Procedure_called f_Procedure_points f_Procedure_moves f_Procedure_eq f_Procedure_len f_Procedure_str p_Procedure_of p_Procedure_called p_Procedure_points p_Procedure_moves p_PARTS f_met d_Procedure_init d_Procedure_of d_Procedure_called d_Procedure_points d_Procedure_moves d_Procedure_eq d_Procedure_len d_Procedure_str d_met mc_Procedure) (h__is_move : Has P w K mg base "_is_move" 4 2 F__is_move) : FG P w K mg base 5 f fd 2 F_is_moves :=
  fg_def (k := 4) Fu sc_is_moves (fun _ _ _ _ _ _ us hl => match us, hl with | [_, _], _ => rfl) fun cdv A stk s H E hr hgd =>
      (dss_cons (ds_if (PW.pt (dw_or (dt_not (dt_truth (de_callB call_isiD rfl T.n_isinstance (by decide +kernel) (da_cons (de_var 0) (da_cons (de_gty rfl T.n_tuple (by decide +kernel)) da_nil))))) (dw_or1 (dt_cmp op_gtD (de_callB call_lenD rfl T.n_len (by decide +kernel) (da_cons (de_var 0) da_nil)) (de_gint rfl T.c_MOST_MOVES) (nomark _) dOrd_bl)))) (dss_one (ds_ret de_bl)) dss_nil)
      (dss_one (ds_ret (de_callB (call_allD rfl) rfl T.n_all (by decide +kernel) (da_cons (de_lc rfl sc_is_moves.nd (own := [("move", 2)]) (di_seq (de_var 0)) (blkOk_by (N := N_is_moves) (sc := defScope s_is_moves) (by decide +kernel)) (fun _ _ _ _ _ => (dg_name (i := 2) sc_is_moves.nd rfl (by first | exact .inl rfl | exact .inr rfl))) (fun _ _ _ _ _ => dts_nil) (fun _ _ _ _ _ => (de_callH h__is_move hr hgd (by decide) rfl (da_cons (de_var 2) (da_cons (de_var 1) da_nil))))) da_nil)))))
/-! Procedure_init -/
abbrev s_Procedure_init : Stmt := inClass (topS 21) 0
abbrev N_Procedure_init : List Str := ["self", "called", "points", "moves", "move"]
theorem sc_Procedure_init : FnScope N_Procedure_init ((["self", "called", "points"] : List Str) ++ (["moves"] : List Str)) (defScope s_Procedure_init) := ⟨rfl, rfl, rfl, by decide +kernel, rfl, by decide +kernel, by decide +kernel⟩
def g_Procedure_init : EvS :=
  (sSeq (sIf (fOr (fNot (fTru (fCall F_is_name (fLen 1 (fCons (fV 1) fNil))))) (fOr (fNot (fTru (fCall F_is_whole_within (fLen 3 (fCons (fV 2) (fCons (fC (.int 1)) (fCons (fC (.int 8)) fNil))))))) (fNot (fTru (fCall F_is_moves (fLen 2 (fCons (fV 3) (fCons (fV 2) fNil)))))))) (sRaise "InvalidProgram") sNx)
  (sSeq (sFldD ["Procedure"] "_called" (fV 0) (fV 1))
  (sSeq (sFldD ["Procedure"] "_points" (fV 0) (fV 2))
  (sSeq (sFldD ["Procedure"] "_moves" (fV 0) (fV 3))
  (sSeq (sFldD ["Procedure"] "_highest" (fV 0) (fCall F_highest_mode (fLen 1 (fCons (fV 3) fNil))))
  (sFldD ["Procedure"] "_callees" (fV 0) (fU dTuple (fLc (itOf gSeq (fV 3)) (bName 4) (fTru (fB dEqW (fB dIx (fV 4) (fC (.int 0))) (fC (.str "call")))) (fB dIx (fV 4) (fC (.int 3))) [4]))))))))
def F_Procedure_init : FnF := starF 3 5 g_Procedure_init
theorem ok_Procedure_init {f : Addr} {fd : FuncData} (Fu : Fun K "__init__" "Procedure.__init__" s_Procedure_init f fd) (T : Txt mg) (CF : TC P w K mg base c_Procedure c_InvalidProgram f_Procedure_init f_Procedure_of f_Procedure_called f_Procedure_points f_Procedure_moves f_Procedure_eq f_Procedure_len f_Procedure_str p_Procedure_of p_Procedure_called p_Procedure_points p_Procedure_moves p_PARTS f_met d_Procedure_init d_Procedure_of d_Procedure_called d_Procedure_points d_Procedure_moves d_Procedure_eq d_Procedure_len d_Procedure_str d_met mc_Procedure) (h_highest_mode : Has P w K mg base "highest_mode" 1 1 F_highest_mode) (h_is_moves : Has P w K mg base "is_moves" 5 2 F_is_moves) (h_is_name : Has P w K mg base "is_name" 1 1 F_is_name) (h_is_whole_within : Has P w K mg base "is_whole_within" 1 3 F_is_whole_within) : FR P w K mg base 6 f F_Procedure_init :=
  fr_star (ps := ["self", "called", "points"]) (pv := "moves") (N := N_Procedure_init) (k := 5) Fu sc_Procedure_init (fun _ _ _ _ _ _ us rest hl => match us, hl, rest with | [_, _, _], _, [] => rfl | [_, _, _], _, _ :: _ => rfl) fun cdv A stk s H E hr hgd =>
      (dss_cons (ds_if (PW.pt (dw_or (dt_not (dt_truth (de_callH h_is_name hr hgd (by decide) rfl (da_cons (de_var 1) da_nil)))) (dw_or (dt_not (dt_truth (de_callH h_is_whole_within hr hgd (by decide) rfl (da_cons (de_var 2) (da_cons de_int (da_cons (de_gint rfl T.c_MOST_POINTS) da_nil)))))) (dw_or1 (dt_not (dt_truth (de_callH h_is_moves hr hgd (by decide) rfl (da_cons (de_var 3) (da_cons (de_var 2) da_nil))))))))) (dss_one (ds_raise rfl takesB PySem.F.excBase_ValueError CF.q_InvalidProgram CF.m_InvalidProgram CF.k_InvalidProgram (raises_own CF.b_InvalidProgram CF.y_InvalidProgram) rfl)) dss_nil)
      (dss_cons (ds_fld CF.fld__called (de_var 0) (de_var 1))
      (dss_cons (ds_fld CF.fld__points (de_var 0) (de_var 2))
      (dss_cons (ds_fld CF.fld__moves (de_var 0) (de_var 3))
      (dss_cons (ds_fld CF.fld__highest (de_var 0) (de_callH h_highest_mode hr hgd (by decide) rfl (da_cons (de_var 3) da_nil)))
      (dss_one (ds_fld CF.fld__callees (de_var 0) (de_tuple rfl T.n_tuple (de_lc rfl sc_Procedure_init.nd (own := [("move", 4)]) (di_seq (de_var 3)) (blkOk_by (N := N_Procedure_init) (sc := defScope s_Procedure_init) (by decide +kernel)) (fun _ _ _ _ _ => (dg_name (i := 4) sc_Procedure_init.nd rfl (by first | exact .inl rfl | exact .inr rfl))) (fun _ _ _ _ _ => dts_one (dt_cmp (op_eqW hr.units) (de_ix ix_D (de_var 4) de_int) de_str (nomark _) dEqW_bl)) (fun _ _ _ _ _ => (de_ix ix_D (de_var 4) de_int)))))))))))
/-! Procedure_of -/
abbrev s_Procedure_of : Stmt := inClass (topS 21) 1
abbrev N_Procedure_of : List Str := ["cls", "called", "points", "moves"]
theorem sc_Procedure_of : FnScope N_Procedure_of ((["cls", "called", "points", "moves"] : List Str)) (defScope s_Procedure_of) := ⟨rfl, rfl, rfl, by decide +kernel, rfl, by decide +kernel, by decide +kernel⟩
def g_Procedure_of : EvS :=
  (sSeq (sIf (fNot (fTru (fApp (g2 dIsi) (fCons (fV 3) (fCons (fC (.ty "tuple")) fNil))))) (sRaise "InvalidProgram") sNx)
  (sRetX (fLocNew 0 "Procedure" F_Procedure_init (fCons (fV 1) (fCons (fV 2) (fStar (fV 3) fNil))))))
def F_Procedure_of : FnF := fnF 4 4 g_Procedure_of
theorem ok_Procedure_of {f : Addr} {fd : FuncData} (Fu : Fun K "of" "Procedure.of" s_Procedure_of f fd) (T : Txt mg) (CF : TC P w K mg base c_Procedure c_InvalidProgram f_Procedure_init f_Procedure_of f_Procedure_called f_Procedure_points f_Procedure_moves f_Procedure_eq f_Procedure_len f_Procedure_str p_Procedure_of p_Procedure_called p_Procedure_points p_Procedure_moves p_PARTS f_met d_Procedure_init d_Procedure_of d_Procedure_called d_Procedure_points d_Procedure_moves d_Procedure_eq d_Procedure_len d_Procedure_str d_met mc_Procedure) (h_Procedure_init : FR P w K mg base 6 f_Procedure_init F_Procedure_init) : FG P w K mg base 8 f fd 4 F_Procedure_of :=
  fg_def (k := 7) Fu sc_Procedure_of (fun _ _ _ _ _ _ us hl => match us, hl with | [_, _, _, _], _ => rfl) fun cdv A stk s H E hr hgd =>
      (dss_cons (ds_if (dt_not (dt_truth (de_callB call_isiD rfl T.n_isinstance (by decide +kernel) (da_cons (de_var 3) (da_cons (de_gty rfl T.n_tuple (by decide +kernel)) da_nil))))) (dss_one (ds_raise rfl takesB PySem.F.excBase_ValueError CF.q_InvalidProgram CF.m_InvalidProgram CF.k_InvalidProgram (raises_own CF.b_InvalidProgram CF.y_InvalidProgram) rfl)) dss_nil)
      (dss_one (ds_retX (de_locNewX (i := 0) takesB rfl (.inl rfl) CF.mk_Procedure h_Procedure_init (hr.mono (by decide)) hgd CF.ns_Procedure (da_cons (de_var 1) (da_cons (de_var 2) (da_star (de_var 3) da_nil)))))))
/-! Procedure_called -/
abbrev s_Procedure_called : Stmt := inClass (topS 21) 2
abbrev N_Procedure_called : List Str := ["self"]
theorem sc_Procedure_called : FnScope N_Procedure_called ((["self"] : List Str)) (defScope s_Procedure_called) := ⟨rfl, rfl, rfl, by decide +kernel, rfl, by decide +kernel, by decide +kernel⟩
def g_Procedure_called : EvS :=
  (sRet (fU (dFld ["Procedure"] "_called") (fV 0)))
def F_Procedure_called : FnF := fnF 1 1 g_Procedure_called
theorem ok_Procedure_called {f : Addr} {fd : FuncData} (Fu : Fun K "called" "Procedure.called" s_Procedure_called f fd) (T : Txt mg) (CF : TC P w K mg base c_Procedure c_InvalidProgram f_Procedure_init f_Procedure_of f_Procedure_called f_Procedure_points f_Procedure_moves f_Procedure_eq f_Procedure_len f_Procedure_str p_Procedure_of p_Procedure_called p_Procedure_points p_Procedure_moves p_PARTS f_met d_Procedure_init d_Procedure_of d_Procedure_called d_Procedure_points d_Procedure_moves d_Procedure_eq d_Procedure_len d_Procedure_str d_met mc_Procedure) : FG P w K mg base 1 f fd 1 F_Procedure_called :=
  fg_def (k := 0) Fu sc_Procedure_called (fun _ _ _ _ _ _ us hl => match us, hl with | [_], _ => rfl) fun cdv A stk s H E hr hgd =>
      (dss_one (ds_ret (de_fld CF.fld__called (de_var 0))))
/-! Procedure_points -/
abbrev s_Procedure_points : Stmt := inClass (topS 21) 3
abbrev N_Procedure_points : List Str := ["self"]
theorem sc_Procedure_points : FnScope N_Procedure_points ((["self"] : List Str)) (defScope s_Procedure_points) := ⟨rfl, rfl, rfl, by decide +kernel, rfl, by decide +kernel, by decide +kernel⟩
def g_Procedure_points : EvS :=
  (sRet (fU (dFld ["Procedure"] "_points") (fV 0)))
def F_Procedure_points : FnF := fnF 1 1 g_Procedure_points
theorem ok_Procedure_points {f : Addr} {fd : FuncData} (Fu : Fun K "points" "Procedure.points" s_Procedure_points f fd) (T : Txt mg) (CF : TC P w K mg base c_Procedure c_InvalidProgram f_Procedure_init f_Procedure_of f_Procedure_called f_Procedure_points f_Procedure_moves f_Procedure_eq f_Procedure_len f_Procedure_str p_Procedure_of p_Procedure_called p_Procedure_points p_Procedure_moves p_PARTS f_met d_Procedure_init d_Procedure_of d_Procedure_called d_Procedure_points d_Procedure_moves d_Procedure_eq d_Procedure_len d_Procedure_str d_met mc_Procedure) : FG P w K mg base 1 f fd 1 F_Procedure_points :=
  fg_def (k := 0) Fu sc_Procedure_points (fun _ _ _ _ _ _ us hl => match us, hl with | [_], _ => rfl) fun cdv A stk s H E hr hgd =>
      (dss_one (ds_ret (de_fld CF.fld__points (de_var 0))))
/-! Procedure_moves -/
abbrev s_Procedure_moves : Stmt := inClass (topS 21) 4
abbrev N_Procedure_moves : List Str := ["self"]
theorem sc_Procedure_moves : FnScope N_Procedure_moves ((["self"] : List Str)) (defScope s_Procedure_moves) := ⟨rfl, rfl, rfl, by decide +kernel, rfl, by decide +kernel, by decide +kernel⟩
def g_Procedure_moves : EvS :=
  (sRet (fU (dFld ["Procedure"] "_moves") (fV 0)))
def F_Procedure_moves : FnF := fnF 1 1 g_Procedure_moves
theorem ok_Procedure_moves {f : Addr} {fd : FuncData} (Fu : Fun K "moves" "Procedure.moves" s_Procedure_moves f fd) (T : Txt mg) (CF : TC P w K mg base c_Procedure c_InvalidProgram f_Procedure_init f_Procedure_of f_Procedure_called f_Procedure_points f_Procedure_moves f_Procedure_eq f_Procedure_len f_Procedure_str p_Procedure_of p_Procedure_called p_Procedure_points p_Procedure_moves p_PARTS f_met d_Procedure_init d_Procedure_of d_Procedure_called d_Procedure_points d_Procedure_moves d_Procedure_eq d_Procedure_len d_Procedure_str d_met mc_Procedure) : FG P w K mg base 1 f fd 1 F_Procedure_moves :=
  fg_def (k := 0) Fu sc_Procedure_moves (fun _ _ _ _ _ _ us hl => match us, hl with | [_], _ => rfl) fun cdv A stk s H E hr hgd =>
      (dss_one (ds_ret (de_fld CF.fld__moves (de_var 0))))
/-! Procedure_eq -/
abbrev s_Procedure_eq : Stmt := inClass (topS 21) 8
abbrev N_Procedure_eq : List Str := ["self", "other"]
theorem sc_Procedure_eq : FnScope N_Procedure_eq ((["self", "other"] : List Str)) (defScope s_Procedure_eq) := ⟨rfl, rfl, rfl, by decide +kernel, rfl, by decide +kernel, by decide +kernel⟩
def g_Procedure_eq : EvS :=
  (sSeq (sIf (fOr (fNot (fTru (fApp (g2 (dIsC "Procedure" tabP)) (fCons (fV 1) (fCons (fC (.cls "Procedure")) fNil))))) (fOr (fTru (fB dNeW (fU (dFld ["Procedure"] "_called") (fV 0)) (fU (dFld ["Procedure"] "_called") (fV 1)))) (fTru (fB dNeW (fU (dFld ["Procedure"] "_points") (fV 0)) (fU (dFld ["Procedure"] "_points") (fV 1)))))) (sRet (fC (.bl false))) sNx)
  (sRet (fB dEqW (fU (dFld ["Procedure"] "_moves") (fV 0)) (fU (dFld ["Procedure"] "_moves") (fV 1)))))
def F_Procedure_eq : FnF := fnF 2 2 g_Procedure_eq
theorem ok_Procedure_eq {f : Addr} {fd : FuncData} (Fu : Fun K "__eq__" "Procedure.__eq__" s_Procedure_eq f fd) (T : Txt mg) (CF : TC P w K mg base c_Procedure c_InvalidProgram f_Procedure_init f_Procedure_of f_Procedure_called f_Procedure_points f_Procedure_moves f_Procedure_eq f_Procedure_len f_Procedure_str p_Procedure_of p_Procedure_called p_Procedure_points p_Procedure_moves p_PARTS f_met d_Procedure_init d_Procedure_of d_Procedure_called d_Procedure_points d_Procedure_moves d_Procedure_eq d_Procedure_len d_Procedure_str d_met mc_Procedure) : FG P w K mg base 1 f fd 2 F_Procedure_eq :=
  fg_def (k := 0) Fu sc_Procedure_eq (fun _ _ _ _ _ _ us hl => match us, hl with | [_, _], _ => rfl) fun cdv A stk s H E hr hgd =>
      (dss_cons (ds_if (PW.pt (dw_or (dt_not (dt_truth (de_callB (call_isCD CF.ns_Procedure CF.ic_Procedure CF.kt_Procedure) rfl T.n_isinstance (by decide +kernel) (da_cons (de_var 1) (da_cons (de_gcls CF.ns_Procedure rfl CF.m_Procedure) da_nil))))) (dw_or (dt_cmp (op_neW hr.units) (de_fld CF.fld__called (de_var 0)) (de_fld CF.fld__called (de_var 1)) (nomark _) dNeW_bl) (dw_or1 (dt_cmp (op_neW hr.units) (de_fld CF.fld__points (de_var 0)) (de_fld CF.fld__points (de_var 1)) (nomark _) dNeW_bl))))) (dss_one (ds_ret de_bl)) dss_nil)
      (dss_one (ds_ret (de_cmp (op_eqW hr.units) (de_fld CF.fld__moves (de_var 0)) (de_fld CF.fld__moves (de_var 1)) (nomark _)))))
/-! Procedure_len -/
abbrev s_Procedure_len : Stmt := inClass (topS 21) 9
abbrev N_Procedure_len : List Str := ["self"]
theorem sc_Procedure_len : FnScope N_Procedure_len ((["self"] : List Str)) (defScope s_Procedure_len) := ⟨rfl, rfl, rfl, by decide +kernel, rfl, by decide +kernel, by decide +kernel⟩
def g_Procedure_len : EvS :=
  (sRet (fApp (g1 dLen) (fCons (fU (dFld ["Procedure"] "_moves") (fV 0)) fNil)))
def F_Procedure_len : FnF := fnF 1 1 g_Procedure_len
theorem ok_Procedure_len {f : Addr} {fd : FuncData} (Fu : Fun K "__len__" "Procedure.__len__" s_Procedure_len f fd) (T : Txt mg) (CF : TC P w K mg base c_Procedure c_InvalidProgram f_Procedure_init f_Procedure_of f_Procedure_called f_Procedure_points f_Procedure_moves f_Procedure_eq f_Procedure_len f_Procedure_str p_Procedure_of p_Procedure_called p_Procedure_points p_Procedure_moves p_PARTS f_met d_Procedure_init d_Procedure_of d_Procedure_called d_Procedure_points d_Procedure_moves d_Procedure_eq d_Procedure_len d_Procedure_str d_met mc_Procedure) : FG P w K mg base 1 f fd 1 F_Procedure_len :=
  fg_def (k := 0) Fu sc_Procedure_len (fun _ _ _ _ _ _ us hl => match us, hl with | [_], _ => rfl) fun cdv A stk s H E hr hgd =>
      (dss_one (ds_ret (de_callB call_lenD rfl T.n_len (by decide +kernel) (da_cons (de_fld CF.fld__moves (de_var 0)) da_nil))))
/-! Procedure_str -/
abbrev s_Procedure_str : Stmt := inClass (topS 21) 10
abbrev N_Procedure_str : List Str := ["self"]
theorem sc_Procedure_str : FnScope N_Procedure_str ((["self"] : List Str)) (defScope s_Procedure_str) := ⟨rfl, rfl, rfl, by decide +kernel, rfl, by decide +kernel, by decide +kernel⟩
def g_Procedure_str : EvS :=
  (sRet (fJs [(fC (.str "procedure ")), (fU dFmt (fU (dFld ["Procedure"] "_called") (fV 0))), (fC (.str ", ")), (fU dFmt (fU (dFld ["Procedure"] "_points") (fV 0))), (fC (.str " points, ")), (fU dFmt (fApp (g1 dLen) (fCons (fU (dFld ["Procedure"] "_moves") (fV 0)) fNil))), (fC (.str " moves"))]))
def F_Procedure_str : FnF := fnF 1 1 g_Procedure_str
theorem ok_Procedure_str {f : Addr} {fd : FuncData} (Fu : Fun K "__str__" "Procedure.__str__" s_Procedure_str f fd) (T : Txt mg) (CF : TC P w K mg base c_Procedure c_InvalidProgram f_Procedure_init f_Procedure_of f_Procedure_called f_Procedure_points f_Procedure_moves f_Procedure_eq f_Procedure_len f_Procedure_str p_Procedure_of p_Procedure_called p_Procedure_points p_Procedure_moves p_PARTS f_met d_Procedure_init d_Procedure_of d_Procedure_called d_Procedure_points d_Procedure_moves d_Procedure_eq d_Procedure_len d_Procedure_str d_met mc_Procedure) : FG P w K mg base 1 f fd 1 F_Procedure_str :=
  fg_def (k := 0) Fu sc_Procedure_str (fun _ _ _ _ _ _ us hl => match us, hl with | [_], _ => rfl) fun cdv A stk s H E hr hgd =>
      (dss_one (ds_ret (de_joined (.cons de_str (.cons (de_fmt (de_fld CF.fld__called (de_var 0))) (.cons de_str (.cons (de_fmt (de_fld CF.fld__points (de_var 0))) (.cons de_str (.cons (de_fmt (de_callB call_lenD rfl T.n_len (by decide +kernel) (da_cons (de_fld CF.fld__moves (de_var 0)) da_nil))) (.cons de_str .nil))))))))))
/-! _law_is_as -/
abbrev s__law_is_as : Stmt := topS 40
abbrev N__law_is_as : List Str := ["made", "band"]
theorem sc__law_is_as : FnScope N__law_is_as ((["made", "band"] : List Str)) (defScope s__law_is_as) := ⟨rfl, rfl, rfl, by decide +kernel, rfl, by decide +kernel, by decide +kernel⟩
def g__law_is_as : EvS :=
  (sRet (fB dEqW (fApp (g1 dReprR) (fCons (fApp gLst (fCons (fProp "Procedure" F_Procedure_called (fV 0)) (fCons (fProp "Procedure" F_Procedure_points (fV 0)) (fCons (fProp "Procedure" F_Procedure_moves (fV 0)) fNil)))) fNil)) (fApp (g1 dReprR) (fCons (fV 1) fNil))))
def F__law_is_as : FnF := fnF 2 2 g__law_is_as
theorem ok__law_is_as {f : Addr} {fd : FuncData} (Fu : Fun K "_law_is_as" "_law_is_as" s__law_is_as f fd) (T : Txt mg) (CF : TC P w K mg base c_Procedure c_InvalidProgram f_Procedure_init f_Procedure_of f_Procedure_called f_Procedure_points f_Procedure_moves f_Procedure_eq f_Procedure_len f_Procedure_str p_Procedure_of p_Procedure_called p_Procedure_points p_Procedure_moves p_PARTS f_met d_Procedure_init d_Procedure_of d_Procedure_called d_Procedure_points d_Procedure_moves d_Procedure_eq d_Procedure_len d_Procedure_str d_met mc_Procedure) (h_Procedure_called : FG P w K mg base 1 f_Procedure_called d_Procedure_called 1 F_Procedure_called) (h_Procedure_moves : FG P w K mg base 1 f_Procedure_moves d_Procedure_moves 1 F_Procedure_moves) (h_Procedure_points : FG P w K mg base 1 f_Procedure_points d_Procedure_points 1 F_Procedure_points) : FG P w K mg base 3 f fd 2 F__law_is_as :=
  fg_def (k := 2) Fu sc__law_is_as (fun _ _ _ _ _ _ us hl => match us, hl with | [_, _], _ => rfl) fun cdv A stk s H E hr hgd =>
      (dss_one (ds_ret (de_cmp (op_eqW hr.units) (de_callB (call_reprRD hgd hr.units) rfl T.n_repr (by decide +kernel) (da_cons (de_lst (da_cons (de_prop CF.cl_Procedure CF.p_Procedure_called h_Procedure_called (hr.mono (by decide)) hgd CF.ns_Procedure (de_var 0)) (da_cons (de_prop CF.cl_Procedure CF.p_Procedure_points h_Procedure_points (hr.mono (by decide)) hgd CF.ns_Procedure (de_var 0)) (da_cons (de_prop CF.cl_Procedure CF.p_Procedure_moves h_Procedure_moves (hr.mono (by decide)) hgd CF.ns_Procedure (de_var 0)) da_nil)))) da_nil)) (de_callB (call_reprRD hgd hr.units) rfl T.n_repr (by decide +kernel) (da_cons (de_var 1) da_nil)) (nomark _))))
/-! _law_bent_tuple -/
abbrev s__law_bent_tuple : Stmt := topS 35
abbrev N__law_bent_tuple : List Str := ["die", "items", "odd", "at", "some"]
theorem sc__law_bent_tuple : FnScope N__law_bent_tuple ((["die", "items", "odd"] : List Str)) (defScope s__law_bent_tuple) := ⟨rfl, rfl, rfl, by decide +kernel, rfl, by decide +kernel, by decide +kernel⟩
def g__law_bent_tuple : EvS :=
  (sSeq (bThen (bName 3) (fIfE (fTru (fB dNeW (fV 1) (fApp gTup fNil))) (fCall F__law_cast (fLen 2 (fCons (fV 0) (fCons (fApp (g1 dLen) (fCons (fV 1) fNil)) fNil)))) (fC (.int 0))))
  (sSeq (bThen (bName 4) (fNewC (fCons (fB dAddA (fB dAddA (fSl (fV 1) fNo (fPart (fV 3))) (fApp gTup (fCons (fV 2) fNil))) (fSl (fV 1) (fPart (fB dAddA (fV 3) (fC (.int 1)))) fNo)) fNil)))
  (sSeq (sDrop (fApn (fV 4) (fB dAddA (fSl (fV 1) fNo (fPart (fV 3))) (fSl (fV 1) (fPart (fB dAddA (fV 3) (fC (.int 1)))) fNo))))
  (sSeq (bThen (bName 4) (fB dAddA (fV 4) (fApp gLst (fCons (fB dAddA (fSl (fV 1) fNo (fPart (fB dAddA (fV 3) (fC (.int 1))))) (fSl (fV 1) (fPart (fV 3)) fNo)) (fCons (fU dRev (fV 1)) (fCons (fApp (g1 dList) (fCons (fV 1) fNil)) fNil))))))
  (sSeq (bThen (bName 4) (fB dAddA (fV 4) (fApp gLst (fCons (fB dAddA (fV 1) (fApp gTup (fCons (fV 2) fNil))) (fCons (fB dAddA (fApp gTup (fCons (fV 2) fNil)) (fV 1)) (fCons (fV 2) fNil))))))
  (sRet (fCall F__law_pick (fLen 2 (fCons (fV 0) (fCons (fV 4) fNil))))))))))
def F__law_bent_tuple : FnF := fnF 3 5 g__law_bent_tuple
theorem ok__law_bent_tuple {f : Addr} {fd : FuncData} (Fu : Fun K "_law_bent_tuple" "_law_bent_tuple" s__law_bent_tuple f fd) (T : Txt mg) (CF : TC P w K mg base c_Procedure c_InvalidProgram f_Procedure_init f_Procedure_of f_Procedure_called f_Procedure_points f_Procedure_moves f_Procedure_eq f_Procedure_len f_Procedure_str p_Procedure_of p_Procedure_called p_Procedure_points p_Procedure_moves p_PARTS f_met d_Procedure_init d_Procedure_of d_Procedure_called d_Procedure_points d_Procedure_moves d_Procedure_eq d_Procedure_len d_Procedure_str d_met mc_Procedure) (h__law_cast : Has P w K mg base "_law_cast" 1 2 F__law_cast) (h__law_pick : Has P w K mg base "_law_pick" 2 2 F__law_pick) : FG P w K mg base 3 f fd 3 F__law_bent_tuple :=
  fg_def (k := 2) Fu sc__law_bent_tuple (fun _ _ _ _ _ _ us hl => match us, hl with | [_, _, _], _ => rfl) fun cdv A stk s H E hr hgd =>
      (dss_cons (ds_set (i := 3) sc__law_bent_tuple.nd rfl (by first | exact .inl rfl | exact .inr rfl) (de_ifE (dt_cmp (op_neW hr.units) (de_var 1) (de_tup da_nil) (nomark _) dNeW_bl) (de_callH h__law_cast hr hgd (by decide) rfl (da_cons (de_var 0) (da_cons (de_callB call_lenD rfl T.n_len (by decide +kernel) (da_cons (de_var 1) da_nil)) da_nil))) de_int))
      (dss_cons (ds_set (i := 4) sc__law_bent_tuple.nd rfl (by first | exact .inl rfl | exact .inr rfl) (de_lstC (da_cons (de_bin op_addAD (de_bin op_addAD (de_slice (de_var 1) do_none (do_some (de_var 3))) (de_tup (da_cons (de_var 2) da_nil))) (de_slice (de_var 1) (do_some (de_bin op_addAD (de_var 3) de_int)) do_none)) da_nil)))
      (dss_cons (ds_expr (de_append (de_var 4) (de_bin op_addAD (de_slice (de_var 1) do_none (do_some (de_var 3))) (de_slice (de_var 1) (do_some (de_bin op_addAD (de_var 3) de_int)) do_none))))
      (dss_cons (ds_set (i := 4) sc__law_bent_tuple.nd rfl (by first | exact .inl rfl | exact .inr rfl) (de_bin op_addAD (de_var 4) (de_lst (da_cons (de_bin op_addAD (de_slice (de_var 1) do_none (do_some (de_bin op_addAD (de_var 3) de_int))) (de_slice (de_var 1) (do_some (de_var 3)) do_none)) (da_cons (de_rev (de_var 1)) (da_cons (de_callTy call_listD rfl T.n_list (by decide +kernel) (da_cons (de_var 1) da_nil)) da_nil))))))
      (dss_cons (ds_set (i := 4) sc__law_bent_tuple.nd rfl (by first | exact .inl rfl | exact .inr rfl) (de_bin op_addAD (de_var 4) (de_lst (da_cons (de_bin op_addAD (de_var 1) (de_tup (da_cons (de_var 2) da_nil))) (da_cons (de_bin op_addAD (de_tup (da_cons (de_var 2) da_nil)) (de_var 1)) (da_cons (de_var 2) da_nil))))))
      (dss_one (ds_ret (de_callH h__law_pick hr hgd (by decide) rfl (da_cons (de_var 0) (da_cons (de_var 4) da_nil))))))))))
/-! _law_bent_move -/
abbrev s__law_bent_move : Stmt := topS 36
abbrev N__law_bent_move : List Str := ["die", "move", "at", "odd", "bent"]
theorem sc__law_bent_move : FnScope N__law_bent_move ((["die", "move"] : List Str)) (defScope s__law_bent_move) := ⟨rfl, rfl, rfl, by decide +kernel, rfl, by decide +kernel, by decide +kernel⟩
def g__law_bent_move : EvS :=
  (sSeq (sPar 2 3 (fCons (fCall F__law_cast (fLen 2 (fCons (fV 0) (fCons (fApp (g1 dLen) (fCons (fV 1) fNil)) fNil)))) (fCons (fCall F__law_odd_one (fLen 1 (fCons (fV 0) fNil))) fNil)))
  (sSeq (sIf (fAnd (fTru (fApp (g2 dIsi) (fCons (fB dIx (fV 1) (fV 2)) (fCons (fC (.ty "tuple")) fNil)))) (fTru (fB dEqW (fCall F__law_cast (fLen 2 (fCons (fV 0) (fCons (fC (.int 2)) fNil)))) (fC (.int 0))))) (sSeq (bThen (bName 4) (fCall F__law_bent_tuple (fLen 3 (fCons (fV 0) (fCons (fB dIx (fV 1) (fV 2)) (fCons (fV 3) fNil))))))
  (sRet (fB dAddA (fB dAddA (fSl (fV 1) fNo (fPart (fV 2))) (fApp gTup (fCons (fV 4) fNil))) (fSl (fV 1) (fPart (fB dAddA (fV 2) (fC (.int 1)))) fNo)))) sNx)
  (sRet (fCall F__law_bent_tuple (fLen 3 (fCons (fV 0) (fCons (fV 1) (fCons (fV 3) fNil))))))))
def F__law_bent_move : FnF := fnF 2 5 g__law_bent_move
theorem ok__law_bent_move {f : Addr} {fd : FuncData} (Fu : Fun K "_law_bent_move" "_law_bent_move" s__law_bent_move f fd) (T : Txt mg) (CF : TC P w K mg base c_Procedure c_InvalidProgram f_Procedure_init f_Procedure_of f_Procedure_called f_Procedure_points f_Procedure_moves f_Procedure_eq f_Procedure_len f_Procedure_str p_Procedure_of p_Procedure_called p_Procedure_points p_Procedure_moves p_PARTS f_met d_Procedure_init d_Procedure_of d_Procedure_called d_Procedure_points d_Procedure_moves d_Procedure_eq d_Procedure_len d_Procedure_str d_met mc_Procedure) (h__law_bent_tuple : Has P w K mg base "_law_bent_tuple" 3 3 F__law_bent_tuple) (h__law_cast : Has P w K mg base "_law_cast" 1 2 F__law_cast) (h__law_odd_one : Has P w K mg base "_law_odd_one" 3 1 F__law_odd_one) : FG P w K mg base 4 f fd 2 F__law_bent_move :=
  fg_def (k := 3) Fu sc__law_bent_move (fun _ _ _ _ _ _ us hl => match us, hl with | [_, _], _ => rfl) fun cdv A stk s H E hr hgd =>
      (dss_cons (ds_par (i := 2) (j := 3) rfl sc__law_bent_move.nd rfl rfl (by decide) rfl rfl (da_cons (de_callH h__law_cast hr hgd (by decide) rfl (da_cons (de_var 0) (da_cons (de_callB call_lenD rfl T.n_len (by decide +kernel) (da_cons (de_var 1) da_nil)) da_nil))) (da_cons (de_callH h__law_odd_one hr hgd (by decide) rfl (da_cons (de_var 0) da_nil)) da_nil)) rfl)
      (dss_cons (ds_if (PW.pt (dw_and (dt_truth (de_callB call_isiD rfl T.n_isinstance (by decide +kernel) (da_cons (de_ix ix_D (de_var 1) (de_var 2)) (da_cons (de_gty rfl T.n_tuple (by decide +kernel)) da_nil)))) (dw_and1 (dt_cmp (op_eqW hr.units) (de_callH h__law_cast hr hgd (by decide) rfl (da_cons (de_var 0) (da_cons de_int da_nil))) de_int (nomark _) dEqW_bl)))) (dss_cons (ds_set (i := 4) sc__law_bent_move.nd rfl (by first | exact .inl rfl | exact .inr rfl) (de_callH h__law_bent_tuple hr hgd (by decide) rfl (da_cons (de_var 0) (da_cons (de_ix ix_D (de_var 1) (de_var 2)) (da_cons (de_var 3) da_nil)))))
      (dss_one (ds_ret (de_bin op_addAD (de_bin op_addAD (de_slice (de_var 1) do_none (do_some (de_var 2))) (de_tup (da_cons (de_var 4) da_nil))) (de_slice (de_var 1) (do_some (de_bin op_addAD (de_var 2) de_int)) do_none))))) dss_nil)
      (dss_one (ds_ret (de_callH h__law_bent_tuple hr hgd (by decide) rfl (da_cons (de_var 0) (da_cons (de_var 1) (da_cons (de_var 3) da_nil))))))))
/-! _law_right -/
abbrev s__law_right : Stmt := topS 41
abbrev N__law_right : List Str := ["die", "name", "points", "moves", "one", "told", "text", "turn", "odd", "at", "bent", "some", "due", "made", "is_same", "called", "other", "size"]
theorem sc__law_right : FnScope N__law_right ((["die"] : List Str)) (defScope s__law_right) := ⟨rfl, rfl, rfl, by decide +kernel, rfl, by decide +kernel, by decide +kernel⟩
def g__law_right : EvS :=
  (sSeq (bThen (bSeq 3 (bsCons (bName 1) (bsCons (bName 2) (bsCons (bName 3) bsNil)))) (fCall F__law_pick (fLen 2 (fCons (fV 0) (fCons (fB dIx (fCall F__law_any_plain (fLen 1 (fCons (fV 0) fNil))) (fC (.int 2))) fNil)))))
  (sSeq (bThen (bName 4) (fNox (fCallR (clsF "Procedure" (only 4 F_Procedure_of)) (fCons (fV 1) (fCons (fV 2) (fCons (fV 3) fNil))))))
  (sSeq (bThen (bName 5) (fApp gLst (fCons (fProp "Procedure" F_Procedure_called (fV 4)) (fCons (fProp "Procedure" F_Procedure_points (fV 4)) (fCons (fProp "Procedure" F_Procedure_moves (fV 4)) (fCons (fAppM (gOwn1 "Procedure" (only 1 F_Procedure_len) okLen) (fCons (fV 4) fNil)) (fCons (fBM (gOwn "Procedure" (only 2 F_Procedure_eq) id) (fV 4) (fNox (fCallR (clsF "Procedure" (only 4 F_Procedure_of)) (fCons (fV 1) (fCons (fV 2) (fCons (fV 3) fNil)))))) fNil)))))))
  (sSeq (sIf (fTru (fB dNeW (fApp (g1 dReprR) (fCons (fV 5) fNil)) (fApp (g1 dReprR) (fCons (fApp gLst (fCons (fV 1) (fCons (fV 2) (fCons (fV 3) (fCons (fApp (g1 dLen) (fCons (fV 3) fNil)) (fCons (fC (.bl true)) fNil)))))) fNil)))) (sRet (fC (.bl false))) sNx)
  (sSeq (bThen (bName 6) (fB dAddA (fB dAddA (fB dAddA (fB dAddA (fC (.str "procedure ")) (fV 1)) (fC (.str ", "))) (fApp (g1 dStr1) (fCons (fV 2) fNil))) (fC (.str " points, "))))
  (sSeq (sIf (fTru (fB dNeW (fAppM (gOwn1 "Procedure" (only 1 F_Procedure_str) okStr) (fCons (fV 4) fNil)) (fB dAddA (fB dAddA (fV 6) (fApp (g1 dStr1) (fCons (fApp (g1 dLen) (fCons (fV 3) fNil)) fNil))) (fC (.str " moves"))))) (sRet (fC (.bl false))) sNx)
  (sSeq (sFor (gRng1 (fCons (fC (.int 8)) fNil)) (bName 7) (sSeq (sPar 8 9 (fCons (fCall F__law_odd_one (fLen 1 (fCons (fV 0) fNil))) (fCons (fCall F__law_cast (fLen 2 (fCons (fV 0) (fCons (fApp (g1 dLen) (fCons (fV 3) fNil)) fNil)))) fNil)))
  (sSeq (bThen (bName 10) (fB dAddA (fB dAddA (fSl (fV 3) fNo (fPart (fV 9))) (fApp gTup (fCons (fCall F__law_bent_move (fLen 2 (fCons (fV 0) (fCons (fB dIx (fV 3) (fV 9)) fNil)))) fNil))) (fSl (fV 3) (fPart (fB dAddA (fV 9) (fC (.int 1)))) fNo)))
  (sSeq (bThen (bName 11) (fB dAddA (fB dMulA (fApp gLst (fCons (fApp gLst (fCons (fV 1) (fCons (fV 2) (fCons (fV 10) fNil)))) fNil)) (fC (.int 5))) (fApp gLst (fCons (fApp gLst (fCons (fV 8) (fCons (fV 2) (fCons (fV 3) fNil)))) (fCons (fApp gLst (fCons (fV 1) (fCons (fV 8) (fCons (fV 3) fNil)))) fNil)))))
  (sSeq (bThen (bName 11) (fB dAddA (fV 11) (fApp gLst (fCons (fApp gLst (fCons (fV 1) (fCons (fV 2) (fCons (fCall F__law_bent_tuple (fLen 3 (fCons (fV 0) (fCons (fV 3) (fCons (fV 8) fNil))))) fNil)))) (fCons (fApp gLst (fCons (fV 1) (fCons (fV 2) (fCons (fB dMulA (fV 3) (fCall F__law_cast (fLen 2 (fCons (fV 0) (fCons (fC (.int 9)) fNil))))) fNil)))) fNil)))))
  (sSeq (bThen (bSeq 3 (bsCons (bName 15) (bsCons (bName 17) (bsCons (bName 16) bsNil)))) (fCall F__law_pick (fLen 2 (fCons (fV 0) (fCons (fV 11) fNil)))))
  (sSeq (bThen (bName 12) (fCall F__law_is_due (fLen 3 (fCons (fV 15) (fCons (fV 17) (fCons (fV 16) fNil))))))
  (sSeq (bThen (bName 13) (fMet 0 "_law_right" (qL "_law_right") hInv .non (fCallR (clsF "Procedure" (only 4 F_Procedure_of)) (fCons (fV 15) (fCons (fV 17) (fCons (fV 16) fNil))))))
  (sSeq (sIf (fTru (fB dNeW (fB dIsNot (fV 13) (fC .non)) (fV 12))) (sRet (fC (.bl false))) sNx)
  (sSeq (sIf (fAnd (fTru (fV 12)) (fNot (fTru (fCall F__law_is_as (fLen 2 (fCons (fV 13) (fCons (fApp gLst (fCons (fV 15) (fCons (fV 17) (fCons (fV 16) fNil)))) fNil))))))) (sRet (fC (.bl false))) sNx)
  (sSeq (bThen (bName 14) (fB dEqW (fApp gLst (fCons (fV 15) (fCons (fV 17) (fCons (fV 16) fNil)))) (fApp gLst (fCons (fV 1) (fCons (fV 2) (fCons (fV 3) fNil))))))
  (sIf (fAnd (fTru (fV 12)) (fTru (fB dNeW (fBM (gOwn "Procedure" (only 2 F_Procedure_eq) id) (fV 13) (fV 4)) (fV 14)))) (sRet (fC (.bl false))) sNx))))))))))))
  (sRet (fAndV (fU dNot (fBM (gOwn "Procedure" (only 2 F_Procedure_eq) id) (fV 4) (fC .non))) (fAndV (fBM (gOwn "Procedure" (only 2 F_Procedure_eq) not) (fV 4) (fV 1)) (fBM (gOwn "Procedure" (only 2 F_Procedure_eq) not) (fV 4) (fV 3))))))))))))
def F__law_right : FnF := fnF 1 18 g__law_right
theorem ok__law_right {f : Addr} {fd : FuncData} (Fu : Fun K "_law_right" "_law_right" s__law_right f fd) (T : Txt mg) (CF : TC P w K mg base c_Procedure c_InvalidProgram f_Procedure_init f_Procedure_of f_Procedure_called f_Procedure_points f_Procedure_moves f_Procedure_eq f_Procedure_len f_Procedure_str p_Procedure_of p_Procedure_called p_Procedure_points p_Procedure_moves p_PARTS f_met d_Procedure_init d_Procedure_of d_Procedure_called d_Procedure_points d_Procedure_moves d_Procedure_eq d_Procedure_len d_Procedure_str d_met mc_Procedure) (h__law_any_plain : Has P w K mg base "_law_any_plain" 4 1 F__law_any_plain) (h__law_bent_move : Has P w K mg base "_law_bent_move" 4 2 F__law_bent_move) (h__law_bent_tuple : Has P w K mg base "_law_bent_tuple" 3 3 F__law_bent_tuple) (h__law_cast : Has P w K mg base "_law_cast" 1 2 F__law_cast) (h__law_is_as : Has P w K mg base "_law_is_as" 3 2 F__law_is_as) (h__law_is_due : Has P w K mg base "_law_is_due" 4 3 F__law_is_due) (h__law_odd_one : Has P w K mg base "_law_odd_one" 3 1 F__law_odd_one) (h__law_pick : Has P w K mg base "_law_pick" 2 2 F__law_pick) (h_Procedure_called : FG P w K mg base 1 f_Procedure_called d_Procedure_called 1 F_Procedure_called) (h_Procedure_eq : FG P w K mg base 1 f_Procedure_eq d_Procedure_eq 2 F_Procedure_eq) (h_Procedure_len : FG P w K mg base 1 f_Procedure_len d_Procedure_len 1 F_Procedure_len) (h_Procedure_moves : FG P w K mg base 1 f_Procedure_moves d_Procedure_moves 1 F_Procedure_moves) (h_Procedure_of : FG P w K mg base 8 f_Procedure_of d_Procedure_of 4 F_Procedure_of) (h_Procedure_points : FG P w K mg base 1 f_Procedure_points d_Procedure_points 1 F_Procedure_points) (h_Procedure_str : FG P w K mg base 1 f_Procedure_str d_Procedure_str 1 F_Procedure_str) {cL PL : Addr} (TB : LamX.TabB base mg cL PL) (tt : PySem.W.tabIn K "_law_right" = some (cL, PL)) (an : PySem.W.nsIn K mainGlobals "_law_right" = some (some (.ref f))) : FG P w K mg base 11 f fd 1 F__law_right :=
  fg_defT (k := 10) Fu sc__law_right an tt (fun _ _ _ _ _ _ us hl => match us, hl with | [_], _ => rfl) fun A stk s H E hr hgd =>
      (dss_cons (ds_asg (de_callH h__law_pick hr hgd (by decide) rfl (da_cons (de_var 0) (da_cons (de_ix ix_D (de_callH h__law_any_plain hr hgd (by decide) rfl (da_cons (de_var 0) da_nil)) de_int) da_nil))) (dg_seq rfl (dgs_cons (dg_name (i := 1) sc__law_right.nd rfl (by first | exact .inl rfl | exact .inr rfl)) (dgs_cons (dg_name (i := 2) sc__law_right.nd rfl (by first | exact .inl rfl | exact .inr rfl)) (dgs_cons (dg_name (i := 3) sc__law_right.nd rfl (by first | exact .inl rfl | exact .inr rfl)) dgs_nil)))))
      (dss_cons (ds_set (i := 4) sc__law_right.nd rfl (by first | exact .inl rfl | exact .inr rfl) (de_cmeth CF.cr_Procedure CF.cm_Procedure_of h_Procedure_of.fr (hr.mono (by decide)) hgd CF.ns_Procedure rfl CF.m_Procedure (da_cons (de_var 1) (da_cons (de_var 2) (da_cons (de_var 3) da_nil)))))
      (dss_cons (ds_set (i := 5) sc__law_right.nd rfl (by first | exact .inl rfl | exact .inr rfl) (de_lst (da_cons (de_prop CF.cl_Procedure CF.p_Procedure_called h_Procedure_called (hr.mono (by decide)) hgd CF.ns_Procedure (de_var 4)) (da_cons (de_prop CF.cl_Procedure CF.p_Procedure_points h_Procedure_points (hr.mono (by decide)) hgd CF.ns_Procedure (de_var 4)) (da_cons (de_prop CF.cl_Procedure CF.p_Procedure_moves h_Procedure_moves (hr.mono (by decide)) hgd CF.ns_Procedure (de_var 4)) (da_cons (de_callBM (call_lenO CF.ns_Procedure CF.s_Procedure_len CF.i_Procedure_len h_Procedure_len.fr (hr.mono (by decide)) hgd) rfl T.n_len (by decide +kernel) (da_cons (de_var 4) da_nil)) (da_cons (de_cmpM (op_eqO CF.ns_Procedure CF.s_Procedure_eq CF.i_Procedure_eq h_Procedure_eq.fr (hr.mono (by decide)) hgd) (de_var 4) (de_cmeth CF.cr_Procedure CF.cm_Procedure_of h_Procedure_of.fr (hr.mono (by decide)) hgd CF.ns_Procedure rfl CF.m_Procedure (da_cons (de_var 1) (da_cons (de_var 2) (da_cons (de_var 3) da_nil)))) (nomark _)) da_nil)))))))
      (dss_cons (ds_if (dt_cmp (op_neW hr.units) (de_callB (call_reprRD hgd hr.units) rfl T.n_repr (by decide +kernel) (da_cons (de_var 5) da_nil)) (de_callB (call_reprRD hgd hr.units) rfl T.n_repr (by decide +kernel) (da_cons (de_lst (da_cons (de_var 1) (da_cons (de_var 2) (da_cons (de_var 3) (da_cons (de_callB call_lenD rfl T.n_len (by decide +kernel) (da_cons (de_var 3) da_nil)) (da_cons de_bl da_nil)))))) da_nil)) (nomark _) dNeW_bl) (dss_one (ds_ret de_bl)) dss_nil)
      (dss_cons (ds_set (i := 6) sc__law_right.nd rfl (by first | exact .inl rfl | exact .inr rfl) (de_bin op_addAD (de_bin op_addAD (de_bin op_addAD (de_bin op_addAD de_str (de_var 1)) de_str) (de_callTy call_strD rfl T.n_str (by decide +kernel) (da_cons (de_var 2) da_nil))) de_str))
      (dss_cons (ds_if (dt_cmp (op_neW hr.units) (de_callTyM (call_strO CF.ns_Procedure CF.s_Procedure_str CF.i_Procedure_str h_Procedure_str.fr (hr.mono (by decide)) hgd) rfl T.n_str (by decide +kernel) (da_cons (de_var 4) da_nil)) (de_bin op_addAD (de_bin op_addAD (de_var 6) (de_callTy call_strD rfl T.n_str (by decide +kernel) (da_cons (de_callB call_lenD rfl T.n_len (by decide +kernel) (da_cons (de_var 3) da_nil)) da_nil))) de_str) (nomark _) dNeW_bl) (dss_one (ds_ret de_bl)) dss_nil)
      (dss_cons (ds_for passB rfl (di_range1 rfl T.n_range (da_cons de_int da_nil)) (dg_name (i := 7) sc__law_right.nd rfl (by first | exact .inl rfl | exact .inr rfl)) (dss_cons (ds_par (i := 8) (j := 9) rfl sc__law_right.nd rfl rfl (by decide) rfl rfl (da_cons (de_callH h__law_odd_one hr hgd (by decide) rfl (da_cons (de_var 0) da_nil)) (da_cons (de_callH h__law_cast hr hgd (by decide) rfl (da_cons (de_var 0) (da_cons (de_callB call_lenD rfl T.n_len (by decide +kernel) (da_cons (de_var 3) da_nil)) da_nil))) da_nil)) rfl)
      (dss_cons (ds_set (i := 10) sc__law_right.nd rfl (by first | exact .inl rfl | exact .inr rfl) (de_bin op_addAD (de_bin op_addAD (de_slice (de_var 3) do_none (do_some (de_var 9))) (de_tup (da_cons (de_callH h__law_bent_move hr hgd (by decide) rfl (da_cons (de_var 0) (da_cons (de_ix ix_D (de_var 3) (de_var 9)) da_nil))) da_nil))) (de_slice (de_var 3) (do_some (de_bin op_addAD (de_var 9) de_int)) do_none)))
      (dss_cons (ds_set (i := 11) sc__law_right.nd rfl (by first | exact .inl rfl | exact .inr rfl) (de_bin op_addAD (de_bin op_mulAD (de_lst (da_cons (de_lst (da_cons (de_var 1) (da_cons (de_var 2) (da_cons (de_var 10) da_nil)))) da_nil)) de_int) (de_lst (da_cons (de_lst (da_cons (de_var 8) (da_cons (de_var 2) (da_cons (de_var 3) da_nil)))) (da_cons (de_lst (da_cons (de_var 1) (da_cons (de_var 8) (da_cons (de_var 3) da_nil)))) da_nil)))))
      (dss_cons (ds_set (i := 11) sc__law_right.nd rfl (by first | exact .inl rfl | exact .inr rfl) (de_bin op_addAD (de_var 11) (de_lst (da_cons (de_lst (da_cons (de_var 1) (da_cons (de_var 2) (da_cons (de_callH h__law_bent_tuple hr hgd (by decide) rfl (da_cons (de_var 0) (da_cons (de_var 3) (da_cons (de_var 8) da_nil)))) da_nil)))) (da_cons (de_lst (da_cons (de_var 1) (da_cons (de_var 2) (da_cons (de_bin op_mulAD (de_var 3) (de_callH h__law_cast hr hgd (by decide) rfl (da_cons (de_var 0) (da_cons de_int da_nil)))) da_nil)))) da_nil)))))
      (dss_cons (ds_asg (de_callH h__law_pick hr hgd (by decide) rfl (da_cons (de_var 0) (da_cons (de_var 11) da_nil))) (dg_seq rfl (dgs_cons (dg_name (i := 15) sc__law_right.nd rfl (by first | exact .inl rfl | exact .inr rfl)) (dgs_cons (dg_name (i := 17) sc__law_right.nd rfl (by first | exact .inl rfl | exact .inr rfl)) (dgs_cons (dg_name (i := 16) sc__law_right.nd rfl (by first | exact .inl rfl | exact .inr rfl)) dgs_nil)))))
      (dss_cons (ds_set (i := 12) sc__law_right.nd rfl (by first | exact .inl rfl | exact .inr rfl) (de_callH h__law_is_due hr hgd (by decide) rfl (da_cons (de_var 15) (da_cons (de_var 17) (da_cons (de_var 16) da_nil)))))
      (dss_cons (ds_set (i := 13) sc__law_right.nd rfl (by first | exact .inl rfl | exact .inr rfl) (de_met (k := 8) (j := 0) (h := hInv) (w := .non) (d := .non) CF.fu_met sc__law_met hB__law_met rfl rfl (.inl rfl) rfl CF.m_InvalidProgram CF.hh (fun _ => pe_non) (fun _ _ => .non) rfl CF.mm TB tt rfl rfl (hr.mono (by decide)) hgd (LamX.lamS_by (sc := defScope s__law_right) (by decide +kernel)) rfl (fun _ _ _ _ => rfl) (fun _ _ _ _ _ _ _ hr hgd => de_cmethX (takes_of rfl rfl rfl rfl) CF.cr_Procedure CF.cm_Procedure_of h_Procedure_of.fr (hr.mono (by decide)) hgd CF.ns_Procedure rfl CF.m_Procedure (da_cons (de_var 15) (da_cons (de_var 17) (da_cons (de_var 16) da_nil))))))
      (dss_cons (ds_if (dt_cmp (op_neW hr.units) (de_cmp op_isNotD (de_var 13) de_non (nomark _)) (de_var 12) (nomark _) dNeW_bl) (dss_one (ds_ret de_bl)) dss_nil)
      (dss_cons (ds_if (PW.pt (dw_and (dt_truth (de_var 12)) (dw_and1 (dt_not (dt_truth (de_callH h__law_is_as hr hgd (by decide) rfl (da_cons (de_var 13) (da_cons (de_lst (da_cons (de_var 15) (da_cons (de_var 17) (da_cons (de_var 16) da_nil)))) da_nil)))))))) (dss_one (ds_ret de_bl)) dss_nil)
      (dss_cons (ds_set (i := 14) sc__law_right.nd rfl (by first | exact .inl rfl | exact .inr rfl) (de_cmp (op_eqW hr.units) (de_lst (da_cons (de_var 15) (da_cons (de_var 17) (da_cons (de_var 16) da_nil)))) (de_lst (da_cons (de_var 1) (da_cons (de_var 2) (da_cons (de_var 3) da_nil)))) (nomark _)))
      (dss_one (ds_if (PW.pt (dw_and (dt_truth (de_var 12)) (dw_and1 (dt_cmp (op_neW hr.units) (de_cmpM (op_eqO CF.ns_Procedure CF.s_Procedure_eq CF.i_Procedure_eq h_Procedure_eq.fr (hr.mono (by decide)) hgd) (de_var 13) (de_var 4) (nomark _)) (de_var 14) (nomark _) dNeW_bl)))) (dss_one (ds_ret de_bl)) dss_nil)))))))))))))
      (dss_one (ds_ret (de_and (de_not (de_cmpM (op_eqO CF.ns_Procedure CF.s_Procedure_eq CF.i_Procedure_eq h_Procedure_eq.fr (hr.mono (by decide)) hgd) (de_var 4) de_non (nomark _))) (de_and (de_cmpM (op_neO CF.ns_Procedure CF.s_Procedure_eq CF.i_Procedure_eq CF.ne_Procedure CF.mr_Procedure h_Procedure_eq.fr (hr.mono (by decide)) hgd) (de_var 4) (de_var 1) (nomark _)) (de_one (de_cmpM (op_neO CF.ns_Procedure CF.s_Procedure_eq CF.i_Procedure_eq CF.ne_Procedure CF.mr_Procedure h_Procedure_eq.fr (hr.mono (by decide)) hgd) (de_var 4) (de_var 3) (nomark _))))))))))))))
/-! _law_numbers -/
abbrev s__law_numbers : Stmt := topS 23
abbrev N__law_numbers : List Str := ["script", "at", "cell", "whole", "mixed"]
theorem sc__law_numbers : FnScope N__law_numbers ((["script", "at"] : List Str)) (defScope s__law_numbers) := ⟨rfl, rfl, rfl, by decide +kernel, rfl, by decide +kernel, by decide +kernel⟩
def g__law_numbers : EvS :=
  (sSeq (bThen (bName 2) (fIfE (fTru (fB dLtA (fV 1) (fApp (g1 dLen) (fCons (fV 0) fNil)))) (fB dIx (fV 0) (fV 1)) (fB dAddA (fB dMulA (fC (.int 59)) (fV 1)) (fC (.int 17)))))
  (sSeq (bThen (bName 3) (fB (dII gMod) (fApp (g1 dInt1) (fCons (fApp (g1 dAbs) (fCons (fV 2) fNil)) fNil)) (fB (dII gPow) (fB (dII gPow) (fC (.int 10)) (fC (.int 59))) (fC (.int 11)))))
  (sSeq (bThen (bName 4) (fB dAddA (fB dAddA (fB dAddA (fB dMulA (fV 3) (fC (.int 1000121))) (fB dMulA (fC (.int 8219)) (fV 1))) (fB dMulA (fC (.int 31)) (fApp (g1 dInt1) (fCons (fB dLtA (fV 2) (fC (.int 0))) fNil)))) (fC (.int 7))))
  (sRet (fNewC (fCons (fApp (g2 dMax2) (fCons (fC (.int 0)) (fCons (fB (dII gSub) (fV 3) (fB (dII gPow) (fC (.int 10)) (fC (.int 16)))) fNil))) (fCons (fB (dII gMod) (fApp (g1 dInt1) (fCons (fV 4) fNil)) (fC (.int 1152921504606846817))) (fCons (fC (.int 0)) fNil))))))))
def F__law_numbers : FnF := fnF 2 5 g__law_numbers
theorem ok__law_numbers {f : Addr} {fd : FuncData} (Fu : Fun K "_law_numbers" "_law_numbers" s__law_numbers f fd) (T : Txt mg) (CF : TC P w K mg base c_Procedure c_InvalidProgram f_Procedure_init f_Procedure_of f_Procedure_called f_Procedure_points f_Procedure_moves f_Procedure_eq f_Procedure_len f_Procedure_str p_Procedure_of p_Procedure_called p_Procedure_points p_Procedure_moves p_PARTS f_met d_Procedure_init d_Procedure_of d_Procedure_called d_Procedure_points d_Procedure_moves d_Procedure_eq d_Procedure_len d_Procedure_str d_met mc_Procedure) : FG P w K mg base 1 f fd 2 F__law_numbers :=
  fg_def (k := 0) Fu sc__law_numbers (fun _ _ _ _ _ _ us hl => match us, hl with | [_, _], _ => rfl) fun cdv A stk s H E hr hgd =>
      (dss_cons (ds_set (i := 2) sc__law_numbers.nd rfl (by first | exact .inl rfl | exact .inr rfl) (de_ifE (dt_cmp (op_ltAD hr.units0) (de_var 1) (de_callB call_lenD rfl T.n_len (by decide +kernel) (da_cons (de_var 0) da_nil)) (nomark _) dLtA_bl) (de_ix ix_D (de_var 0) (de_var 1)) (de_bin op_addAD (de_bin op_mulAD de_int (de_var 1)) de_int)))
      (dss_cons (ds_set (i := 3) sc__law_numbers.nd rfl (by first | exact .inl rfl | exact .inr rfl) (de_bin op_modD (de_callTy call_intD rfl T.n_int (by decide +kernel) (da_cons (de_callB call_absD rfl T.n_abs (by decide +kernel) (da_cons (de_var 2) da_nil)) da_nil)) (de_bin op_powD (de_bin op_powD de_int de_int) de_int)))
      (dss_cons (ds_set (i := 4) sc__law_numbers.nd rfl (by first | exact .inl rfl | exact .inr rfl) (de_bin op_addAD (de_bin op_addAD (de_bin op_addAD (de_bin op_mulAD (de_var 3) de_int) (de_bin op_mulAD de_int (de_var 1))) (de_bin op_mulAD de_int (de_callTy call_intD rfl T.n_int (by decide +kernel) (da_cons (de_cmp (op_ltAD hr.units0) (de_var 2) de_int (nomark _)) da_nil)))) de_int))
      (dss_one (ds_ret (de_lstC (da_cons (de_callB (call_max2D rfl) rfl T.n_max (by decide +kernel) (da_cons de_int (da_cons (de_bin op_subD (de_var 3) (de_bin op_powD de_int de_int)) da_nil))) (da_cons (de_bin op_modD (de_callTy call_intD rfl T.n_int (by decide +kernel) (da_cons (de_var 4) da_nil)) de_int) (da_cons de_int da_nil)))))))))
/-! law -/
abbrev s_law : Stmt := topS 42
abbrev N_law : List Str := ["script", "at", "told", "some", "move", "wide"]
theorem sc_law : FnScope N_law ((["script"] : List Str)) (defScope s_law) := ⟨rfl, rfl, rfl, by decide +kernel, rfl, by decide +kernel, by decide +kernel⟩
def g_law : EvS :=
  (sSeq (sFor (gRng1 (fCons (fApp (g2 dMax2) (fCons (fC (.int 1)) (fCons (fApp (g2 dMin2) (fCons (fC (.int 8)) (fCons (fApp (g1 dLen) (fCons (fV 0) fNil)) fNil))) fNil))) fNil)) (bName 1) (sIf (fNot (fTru (fCall F__law_right (fLen 1 (fCons (fCall F__law_numbers (fLen 2 (fCons (fV 0) (fCons (fV 1) fNil)))) fNil))))) (sRet (fC (.bl false))) sNx))
  (sSeq (bThen (bName 5) (fB dMulA (fApp gTup (fCons (fApp gTup (fCons (fC (.str "go")) (fCons (fC (.int 0)) (fCons (fC (.int 7)) (fCons (fU dTuple (fLc (gRng1 (fCons (fC (.int 36)) fNil)) (bName 1) (fun S => some (true, S.μ)) (fApp gTup (fCons (fB (dII gFdiv) (fV 1) (fC (.int 6))) (fCons (fB (dII gMod) (fV 1) (fC (.int 6))) fNil))) [1])) fNil))))) fNil)) (fC (.int 16))))
  (sSeq (bThen (bName 2) (fNewC (fCons (fB dIsNot (fMet 1 "law" (qL "law") hInv .non (fCallR (clsF "Procedure" (only 4 F_Procedure_of)) (fCons (fC (.str "p")) (fCons (fC (.int 8)) (fCons (fV 5) fNil))))) (fC .non)) fNil)))
  (sSeq (sDrop (fApn (fV 2) (fB dIs (fMet 1 "law" (qL "law") hInv .non (fCallR (clsF "Procedure" (only 4 F_Procedure_of)) (fCons (fC (.str "p")) (fCons (fC (.int 8)) (fCons (fB dAddA (fV 5) (fSl (fV 5) fNo (fPart (fC (.int 1))))) fNil))))) (fC .non))))
  (sSeq (sDrop (fApn (fV 2) (fB dIs (fMet 1 "law" (qL "law") hInv .non (fCallR (clsF "Procedure" (only 4 F_Procedure_of)) (fCons (fC (.str "p")) (fCons (fC (.int 9)) (fCons (fApp gTup fNil) fNil))))) (fC .non))))
  (sSeq (sDrop (fApn (fV 2) (fBM (gOwn "Procedure" (only 2 F_Procedure_eq) id) (fMet 1 "law" (qL "law") hInv .non (fCallR (mkF "Procedure" F_Procedure_init) (fCons (fC (.str "p")) (fCons (fC (.int 1)) fNil)))) (fNox (fCallR (clsF "Procedure" (only 4 F_Procedure_of)) (fCons (fC (.str "p")) (fCons (fC (.int 1)) (fCons (fApp gTup fNil) fNil))))))))
  (sSeq (sDrop (fApn (fV 2) (fB dIsNot (fMet 1 "law" (qL "law") hInv .non (fCallR (mkF "Procedure" F_Procedure_init) (fCons (fC (.str "p")) (fCons (fC (.int 1)) (fCons (fApp gTup (fCons (fC (.str "leave")) (fCons (fC (.int 0)) (fCons (fApp gTup (fCons (fC (.int 5)) fNil)) fNil)))) fNil))))) (fC .non))))
  (sSeq (sDrop (fApn (fV 2) (fB dIs (fMet 1 "law" (qL "law") hInv .non (fCallR (mkF "Procedure" F_Procedure_init) (fCons (fC (.str "p")) (fCons (fC (.int 1)) (fCons (fApp gTup (fCons (fC (.str "leave")) (fCons (fC (.int 0)) (fCons (fApp gTup (fCons (fC (.int 6)) fNil)) fNil)))) fNil))))) (fC .non))))
  (sSeq (bThen (bName 3) (fApp gLst (fCons (fApp gTup (fCons (fC (.str "go")) (fCons (fC (.int 0)) (fCons (fC (.int 0)) (fCons (fApp gTup (fCons (fApp gTup (fCons (fC (.int 0)) (fCons (fC (.int 0)) fNil))) (fCons (fApp gTup (fCons (fC (.int 0)) (fCons (fC (.int 0)) fNil))) fNil))) fNil))))) (fCons (fApp gTup (fCons (fC (.str "go")) (fCons (fC (.int 0)) (fCons (fC (.int 0)) (fCons (fApp gTup (fCons (fApp gTup (fCons (fC (.int 1)) (fCons (fC (.int 0)) fNil))) (fCons (fApp gTup (fCons (fC (.int 0)) (fCons (fC (.int 1)) fNil))) fNil))) fNil))))) (fCons (fApp gTup (fCons (fC (.str "fail")) (fCons (fC (.int 0)) (fCons (fApp gTup fNil) fNil)))) fNil)))))
  (sSeq (sFor (itOf gSeq (fB dAddA (fV 3) (fApp gLst (fCons (fApp gTup (fCons (fC (.str "call")) (fCons (fC (.int 0)) (fCons (fC (.int 0)) (fCons (fC (.str "p")) (fCons (fApp gTup (fCons (fC (.int 0)) fNil)) (fCons (fC (.int 1)) fNil))))))) (fCons (fApp gTup (fCons (fC (.str "call")) (fCons (fC (.int 0)) (fCons (fC (.int 0)) (fCons (fC (.str "p")) (fCons (fApp gTup (fCons (fC (.int 0)) fNil)) fNil)))))) (fCons (fApp gTup (fCons (fC (.str "call")) (fCons (fC (.int 0)) (fCons (fC (.int 0)) (fCons (fC (.str "p")) (fCons (fApp gTup (fCons (fC (.int 0)) fNil)) (fCons (fC (.str "a")) fNil))))))) fNil)))))) (bName 4) (sDrop (fApn (fV 2) (fB dIs (fMet 1 "law" (qL "law") hInv .non (fCallR (clsF "Procedure" (only 4 F_Procedure_of)) (fCons (fC (.str "p")) (fCons (fC (.int 1)) (fCons (fApp gTup (fCons (fV 4) fNil)) fNil))))) (fC .non)))))
  (sSeq (sDrop (fApn (fV 2) (fB dIsNot (fMet 1 "law" (qL "law") hInv .non (fCallR (mkF "Procedure" F_Procedure_init) (fCons (fC (.str "p")) (fCons (fC (.int 2)) (fCons (fApp gTup (fCons (fC (.str "call")) (fCons (fC (.int 0)) (fCons (fC (.int 0)) (fCons (fC (.str "p")) (fCons (fApp gTup (fCons (fC (.int 0)) fNil)) (fCons (fC (.int 1)) fNil))))))) (fCons (fApp gTup (fCons (fC (.str "fail")) (fCons (fC (.int 1)) (fCons (fApp gTup (fCons (fC (.int 5)) fNil)) fNil)))) fNil)))))) (fC .non))))
  (sRet (fB dEqW (fV 2) (fB dMulA (fApp gLst (fCons (fC (.bl true)) fNil)) (fC (.int 13))))))))))))))))
def F_law : FnF := fnF 1 6 g_law
theorem ok_law {f : Addr} {fd : FuncData} (Fu : Fun K "law" "law" s_law f fd) (T : Txt mg) (CF : TC P w K mg base c_Procedure c_InvalidProgram f_Procedure_init f_Procedure_of f_Procedure_called f_Procedure_points f_Procedure_moves f_Procedure_eq f_Procedure_len f_Procedure_str p_Procedure_of p_Procedure_called p_Procedure_points p_Procedure_moves p_PARTS f_met d_Procedure_init d_Procedure_of d_Procedure_called d_Procedure_points d_Procedure_moves d_Procedure_eq d_Procedure_len d_Procedure_str d_met mc_Procedure) (h__law_numbers : Has P w K mg base "_law_numbers" 1 2 F__law_numbers) (h__law_right : Has P w K mg base "_law_right" 11 1 F__law_right) (h_Procedure_eq : FG P w K mg base 1 f_Procedure_eq d_Procedure_eq 2 F_Procedure_eq) (h_Procedure_init : FR P w K mg base 6 f_Procedure_init F_Procedure_init) (h_Procedure_of : FG P w K mg base 8 f_Procedure_of d_Procedure_of 4 F_Procedure_of) {cL PL : Addr} (TB : LamX.TabB base mg cL PL) (tt : PySem.W.tabIn K "law" = some (cL, PL)) (an : PySem.W.nsIn K mainGlobals "law" = some (some (.ref f))) : FG P w K mg base 12 f fd 1 F_law :=
  fg_defT (k := 11) Fu sc_law an tt (fun _ _ _ _ _ _ us hl => match us, hl with | [_], _ => rfl) fun A stk s H E hr hgd =>
      (dss_cons (ds_for passB rfl (di_range1 rfl T.n_range (da_cons (de_callB (call_max2D rfl) rfl T.n_max (by decide +kernel) (da_cons de_int (da_cons (de_callB (call_min2D rfl) rfl T.n_min (by decide +kernel) (da_cons de_int (da_cons (de_callB call_lenD rfl T.n_len (by decide +kernel) (da_cons (de_var 0) da_nil)) da_nil))) da_nil))) da_nil)) (dg_name (i := 1) sc_law.nd rfl (by first | exact .inl rfl | exact .inr rfl)) (dss_one (ds_if (dt_not (dt_truth (de_callH h__law_right hr hgd (by decide) rfl (da_cons (de_callH h__law_numbers hr hgd (by decide) rfl (da_cons (de_var 0) (da_cons (de_var 1) da_nil))) da_nil)))) (dss_one (ds_ret de_bl)) dss_nil)))
      (dss_cons (ds_set (i := 5) sc_law.nd rfl (by first | exact .inl rfl | exact .inr rfl) (de_bin op_mulAD (de_tup (da_cons (de_tup (da_cons de_str (da_cons de_int (da_cons de_int (da_cons (de_tuple rfl T.n_tuple (de_lc rfl sc_law.nd (own := [("at", 1)]) (di_range1 rfl T.n_range (da_cons de_int da_nil)) (blkOk_by (N := N_law) (sc := defScope s_law) (by decide +kernel)) (fun _ _ _ _ _ => (dg_name (i := 1) sc_law.nd rfl (by first | exact .inl rfl | exact .inr rfl))) (fun _ _ _ _ _ => dts_nil) (fun _ _ _ _ _ => (de_tup (da_cons (de_bin op_fdivD (de_var 1) de_int) (da_cons (de_bin op_modD (de_var 1) de_int) da_nil)))))) da_nil))))) da_nil)) de_int))
      (dss_cons (ds_set (i := 2) sc_law.nd rfl (by first | exact .inl rfl | exact .inr rfl) (de_lstC (da_cons (de_cmp op_isNotD (de_met (k := 8) (j := 1) (h := hInv) (w := .non) (d := .non) CF.fu_met sc__law_met hB__law_met rfl rfl (.inl rfl) rfl CF.m_InvalidProgram CF.hh (fun _ => pe_non) (fun _ _ => .non) rfl CF.mm TB tt rfl rfl (hr.mono (by decide)) hgd (LamX.lamS_by (sc := defScope s_law) (by decide +kernel)) rfl (fun _ _ _ _ => rfl) (fun _ _ _ _ _ _ _ hr hgd => de_cmethX (takes_of rfl rfl rfl rfl) CF.cr_Procedure CF.cm_Procedure_of h_Procedure_of.fr (hr.mono (by decide)) hgd CF.ns_Procedure rfl CF.m_Procedure (da_cons de_str (da_cons de_int (da_cons (de_var 5) da_nil))))) de_non (nomark _)) da_nil)))
      (dss_cons (ds_expr (de_append (de_var 2) (de_cmp op_isD (de_met (k := 8) (j := 1) (h := hInv) (w := .non) (d := .non) CF.fu_met sc__law_met hB__law_met rfl rfl (.inl rfl) rfl CF.m_InvalidProgram CF.hh (fun _ => pe_non) (fun _ _ => .non) rfl CF.mm TB tt rfl rfl (hr.mono (by decide)) hgd (LamX.lamS_by (sc := defScope s_law) (by decide +kernel)) rfl (fun _ _ _ _ => rfl) (fun _ _ _ _ _ _ _ hr hgd => de_cmethX (takes_of rfl rfl rfl rfl) CF.cr_Procedure CF.cm_Procedure_of h_Procedure_of.fr (hr.mono (by decide)) hgd CF.ns_Procedure rfl CF.m_Procedure (da_cons de_str (da_cons de_int (da_cons (de_bin op_addAD (de_var 5) (de_slice (de_var 5) do_none (do_some de_int))) da_nil))))) de_non (nomark _))))
      (dss_cons (ds_expr (de_append (de_var 2) (de_cmp op_isD (de_met (k := 8) (j := 1) (h := hInv) (w := .non) (d := .non) CF.fu_met sc__law_met hB__law_met rfl rfl (.inl rfl) rfl CF.m_InvalidProgram CF.hh (fun _ => pe_non) (fun _ _ => .non) rfl CF.mm TB tt rfl rfl (hr.mono (by decide)) hgd (LamX.lamS_by (sc := defScope s_law) (by decide +kernel)) rfl (fun _ _ _ _ => rfl) (fun _ _ _ _ _ _ _ hr hgd => de_cmethX (takes_of rfl rfl rfl rfl) CF.cr_Procedure CF.cm_Procedure_of h_Procedure_of.fr (hr.mono (by decide)) hgd CF.ns_Procedure rfl CF.m_Procedure (da_cons de_str (da_cons de_int (da_cons (de_tup da_nil) da_nil))))) de_non (nomark _))))
      (dss_cons (ds_expr (de_append (de_var 2) (de_cmpM (op_eqO CF.ns_Procedure CF.s_Procedure_eq CF.i_Procedure_eq h_Procedure_eq.fr (hr.mono (by decide)) hgd) (de_met (k := 7) (j := 1) (h := hInv) (w := .non) (d := .non) CF.fu_met sc__law_met hB__law_met rfl rfl (.inl rfl) rfl CF.m_InvalidProgram CF.hh (fun _ => pe_non) (fun _ _ => .non) rfl CF.mm TB tt rfl rfl (hr.mono (by decide)) hgd (LamX.lamS_by (sc := defScope s_law) (by decide +kernel)) rfl (fun _ _ _ _ => rfl) (fun _ _ _ _ _ _ _ hr hgd => de_newX (takes_of rfl rfl rfl rfl) CF.mk_Procedure h_Procedure_init (hr.mono (by decide)) hgd CF.ns_Procedure rfl CF.m_Procedure (da_cons de_str (da_cons de_int da_nil)))) (de_cmeth CF.cr_Procedure CF.cm_Procedure_of h_Procedure_of.fr (hr.mono (by decide)) hgd CF.ns_Procedure rfl CF.m_Procedure (da_cons de_str (da_cons de_int (da_cons (de_tup da_nil) da_nil)))) (nomark _))))
      (dss_cons (ds_expr (de_append (de_var 2) (de_cmp op_isNotD (de_met (k := 7) (j := 1) (h := hInv) (w := .non) (d := .non) CF.fu_met sc__law_met hB__law_met rfl rfl (.inl rfl) rfl CF.m_InvalidProgram CF.hh (fun _ => pe_non) (fun _ _ => .non) rfl CF.mm TB tt rfl rfl (hr.mono (by decide)) hgd (LamX.lamS_by (sc := defScope s_law) (by decide +kernel)) rfl (fun _ _ _ _ => rfl) (fun _ _ _ _ _ _ _ hr hgd => de_newX (takes_of rfl rfl rfl rfl) CF.mk_Procedure h_Procedure_init (hr.mono (by decide)) hgd CF.ns_Procedure rfl CF.m_Procedure (da_cons de_str (da_cons de_int (da_cons (de_tup (da_cons de_str (da_cons de_int (da_cons (de_tup (da_cons de_int da_nil)) da_nil)))) da_nil))))) de_non (nomark _))))
      (dss_cons (ds_expr (de_append (de_var 2) (de_cmp op_isD (de_met (k := 7) (j := 1) (h := hInv) (w := .non) (d := .non) CF.fu_met sc__law_met hB__law_met rfl rfl (.inl rfl) rfl CF.m_InvalidProgram CF.hh (fun _ => pe_non) (fun _ _ => .non) rfl CF.mm TB tt rfl rfl (hr.mono (by decide)) hgd (LamX.lamS_by (sc := defScope s_law) (by decide +kernel)) rfl (fun _ _ _ _ => rfl) (fun _ _ _ _ _ _ _ hr hgd => de_newX (takes_of rfl rfl rfl rfl) CF.mk_Procedure h_Procedure_init (hr.mono (by decide)) hgd CF.ns_Procedure rfl CF.m_Procedure (da_cons de_str (da_cons de_int (da_cons (de_tup (da_cons de_str (da_cons de_int (da_cons (de_tup (da_cons de_int da_nil)) da_nil)))) da_nil))))) de_non (nomark _))))
      (dss_cons (ds_set (i := 3) sc_law.nd rfl (by first | exact .inl rfl | exact .inr rfl) (de_lst (da_cons (de_tup (da_cons de_str (da_cons de_int (da_cons de_int (da_cons (de_tup (da_cons (de_tup (da_cons de_int (da_cons de_int da_nil))) (da_cons (de_tup (da_cons de_int (da_cons de_int da_nil))) da_nil))) da_nil))))) (da_cons (de_tup (da_cons de_str (da_cons de_int (da_cons de_int (da_cons (de_tup (da_cons (de_tup (da_cons de_int (da_cons de_int da_nil))) (da_cons (de_tup (da_cons de_int (da_cons de_int da_nil))) da_nil))) da_nil))))) (da_cons (de_tup (da_cons de_str (da_cons de_int (da_cons (de_tup da_nil) da_nil)))) da_nil)))))
      (dss_cons (ds_for passB rfl (di_seq (de_bin op_addAD (de_var 3) (de_lst (da_cons (de_tup (da_cons de_str (da_cons de_int (da_cons de_int (da_cons de_str (da_cons (de_tup (da_cons de_int da_nil)) (da_cons de_int da_nil))))))) (da_cons (de_tup (da_cons de_str (da_cons de_int (da_cons de_int (da_cons de_str (da_cons (de_tup (da_cons de_int da_nil)) da_nil)))))) (da_cons (de_tup (da_cons de_str (da_cons de_int (da_cons de_int (da_cons de_str (da_cons (de_tup (da_cons de_int da_nil)) (da_cons de_str da_nil))))))) da_nil)))))) (dg_name (i := 4) sc_law.nd rfl (by first | exact .inl rfl | exact .inr rfl)) (dss_one (ds_expr (de_append (de_var 2) (de_cmp op_isD (de_met (k := 8) (j := 1) (h := hInv) (w := .non) (d := .non) CF.fu_met sc__law_met hB__law_met rfl rfl (.inl rfl) rfl CF.m_InvalidProgram CF.hh (fun _ => pe_non) (fun _ _ => .non) rfl CF.mm TB tt rfl rfl (hr.mono (by decide)) hgd (LamX.lamS_by (sc := defScope s_law) (by decide +kernel)) rfl (fun _ _ _ _ => rfl) (fun _ _ _ _ _ _ _ hr hgd => de_cmethX (takes_of rfl rfl rfl rfl) CF.cr_Procedure CF.cm_Procedure_of h_Procedure_of.fr (hr.mono (by decide)) hgd CF.ns_Procedure rfl CF.m_Procedure (da_cons de_str (da_cons de_int (da_cons (de_tup (da_cons (de_var 4) da_nil)) da_nil))))) de_non (nomark _))))))
      (dss_cons (ds_expr (de_append (de_var 2) (de_cmp op_isNotD (de_met (k := 7) (j := 1) (h := hInv) (w := .non) (d := .non) CF.fu_met sc__law_met hB__law_met rfl rfl (.inl rfl) rfl CF.m_InvalidProgram CF.hh (fun _ => pe_non) (fun _ _ => .non) rfl CF.mm TB tt rfl rfl (hr.mono (by decide)) hgd (LamX.lamS_by (sc := defScope s_law) (by decide +kernel)) rfl (fun _ _ _ _ => rfl) (fun _ _ _ _ _ _ _ hr hgd => de_newX (takes_of rfl rfl rfl rfl) CF.mk_Procedure h_Procedure_init (hr.mono (by decide)) hgd CF.ns_Procedure rfl CF.m_Procedure (da_cons de_str (da_cons de_int (da_cons (de_tup (da_cons de_str (da_cons de_int (da_cons de_int (da_cons de_str (da_cons (de_tup (da_cons de_int da_nil)) (da_cons de_int da_nil))))))) (da_cons (de_tup (da_cons de_str (da_cons de_int (da_cons (de_tup (da_cons de_int da_nil)) da_nil)))) da_nil)))))) de_non (nomark _))))
      (dss_one (ds_ret (de_cmp (op_eqW hr.units) (de_var 2) (de_bin op_mulAD (de_lst (da_cons de_bl da_nil)) de_int) (nomark _)))))))))))))))
end
end G
namespace G
open PySem L2 DL PySem.DLQ
/-! plain data, of some depth -/
def fl : D → Bool
  | .non | .bl _ => true
  | .int i => decide (i.natAbs < 10 ^ 40)
  | .str s => PyData.strOk s && decide (s.length ≤ 12)
  | .dct [] => true
  | _ => false
def gs : Nat → D → Bool
  | k + 1, .tup xs => decide (xs.length ≤ 40) && xs.all (gs k)
  | k + 1, .lst xs => decide (xs.length ≤ 40) && xs.all (gs k)
  | _, d => fl d
def wd : Nat → D → Nat
  | k + 1, .tup xs => 1 + (xs.map fun x => wd k x + 1).sum
  | k + 1, .lst xs => 1 + (xs.map fun x => wd k x + 1).sum
  | _, _ => 150
/-- what is known of a datum's image -/
structure Im (k n : Nat) (d : D) (p : PyData) : Prop where
  r : toR d = some p
  x : okX p = true
  s : p.showable = true
  d : p.depth ≤ k
  l : p.leavesShort 50 = true
  w : p.weight ≤ n
structure Ims (k n : Nat) (ds : List D) (ps : List PyData) : Prop where
  r : toRs ds = some ps
  x : okXs ps = true
  s : PyData.showableAll ps = true
  d : PyData.depthAll ps ≤ k
  l : PyData.leavesShortAll 50 ps = true
  w : PyData.weightAll ps ≤ n
theorem ims_of {k : Nat} {g : D → Nat} : ∀ {ds : List D}, (∀ d ∈ ds, ∃ p, Im k (g d) d p) → ∃ ps, Ims k ((ds.map fun x => g x + 1).sum) ds ps
  | [], _ => ⟨[], by simp only [toRs], by simp only [okXs], by simp only [PyData.showableAll], by simp only [PyData.depthAll]; omega, by simp only [PyData.leavesShortAll], by simp only [PyData.weightAll]; omega⟩
  | d :: ds, h => by
    obtain ⟨p, a⟩ := h d List.mem_cons_self
    obtain ⟨ps, b⟩ := ims_of fun x hx => h x (List.mem_cons_of_mem _ hx)
    refine ⟨p :: ps, by simp only [toRs, a.r, b.r], by simp only [okXs, a.x, b.x, Bool.and_self], by simp only [PyData.showableAll, a.s, b.s, Bool.and_self], ?_, by simp only [PyData.leavesShortAll, a.l, b.l, Bool.and_self], ?_⟩
    · simp only [PyData.depthAll]
      have := a.d
      have := b.d
      omega
    · simp only [PyData.weightAll, List.map_cons, List.sum_cons]
      have := a.w
      have := b.w
      omega
theorem fl_im {d : D} (h : fl d = true) : ∃ p, Im 1 150 d p := by
  unfold fl at h
  split at h
  · exact ⟨.none, by simp only [toR], rfl, rfl, by simp only [PyData.depth]; omega, rfl, by simp only [PyData.weight]; omega⟩
  · rename_i b
    exact ⟨.bool b, by simp only [toR], rfl, rfl, by simp only [PyData.depth]; omega, rfl, by simp only [PyData.weight]; omega⟩
  · rename_i i
    have h := of_decide_eq_true h
    have lg : i.natAbs.log2 < 133 := by
      by_cases z : i.natAbs = 0
      · rw [z]; decide
      · exact (Nat.log2_lt z).mpr (Nat.lt_of_lt_of_le h (by decide))
    refine ⟨.int i, by simp only [toR], rfl, ?_, by simp only [PyData.depth]; omega, ?_, ?_⟩
    · simp only [PyData.showable]
      exact decide_eq_true (by omega)
    · simp only [PyData.leavesShort]
      have z := int_text_length_le10 (k := 40) (by decide) h
      refine decide_eq_true ?_
      rw [PyData.shown_int]
      show (Str.ofString (toString i)).length ≤ 50
      rw [ofString_length]
      omega
    · simp only [PyData.weight]
      split <;> omega
  · rename_i s
    rw [Bool.and_eq_true] at h
    have h2 := of_decide_eq_true h.2
    refine ⟨.str s, by simp only [toR], by simp only [okX]; exact h.1, rfl, by simp only [PyData.depth]; omega, ?_, ?_⟩
    · simp only [PyData.leavesShort, List.all_eq_true, decide_eq_true_eq]
      intro c hc
      have h1 : s.cps.all (· < 0x110000) = true := h.1
      have := (Array.all_eq_true_iff_forall_mem.mp h1) c (Array.mem_toList_iff.mp hc)
      have e : (16 : Nat) ^ 8 = 4294967296 := by decide
      simp only [decide_eq_true_eq] at this
      omega
    · simp only [PyData.weight]
      have : s.cps.size ≤ 12 := h2
      omega
  · exact ⟨.dict [], by simp only [toR], rfl, rfl, by simp only [PyData.depth, PyData.depthKv]; omega, rfl, by simp only [PyData.weight, PyData.weightKv]; omega⟩
  · cases h
theorem Im.up {k n m : Nat} {d : D} {p : PyData} (h : Im 1 n d p) (hn : n ≤ m) : Im (k + 1) m d p := ⟨h.r, h.x, h.s, Nat.le_trans h.d (by omega), h.l, Nat.le_trans h.w hn⟩
theorem gs_im : ∀ (k : Nat) {d : D}, gs k d = true → ∃ p, Im (k + 1) (wd k d) d p
  | 0, d, h => by
    have h' : fl d = true := by cases d <;> exact h
    obtain ⟨p, a⟩ := fl_im h'
    exact ⟨p, by have e : wd 0 d = 150 := by cases d <;> rfl
                 rw [e]; exact a⟩
  | k + 1, d, h => by
    have flat : fl d = true → wd (k + 1) d = 150 → ∃ p, Im (k + 2) (wd (k + 1) d) d p := fun h' e => by
      obtain ⟨p, a⟩ := fl_im h'
      exact ⟨p, by rw [e]; exact a.up (Nat.le_refl _)⟩
    cases d with
    | tup xs =>
      have h' : ∀ x ∈ xs, gs k x = true := by
        simp only [gs, Bool.and_eq_true, List.all_eq_true] at h
        exact h.2
      obtain ⟨ps, b⟩ := ims_of (k := k + 1) (g := wd k) fun x hx => gs_im k (h' x hx)
      refine ⟨.tuple ps, by simp only [toR, b.r, Option.map_some], by simp only [okX]; exact b.x, by simp only [PyData.showable]; exact b.s, ?_, by simp only [PyData.leavesShort]; exact b.l, ?_⟩
      · simp only [PyData.depth]; have := b.d; omega
      · simp only [PyData.weight, wd]; have := b.w; omega
    | lst xs =>
      have h' : ∀ x ∈ xs, gs k x = true := by
        simp only [gs, Bool.and_eq_true, List.all_eq_true] at h
        exact h.2
      obtain ⟨ps, b⟩ := ims_of (k := k + 1) (g := wd k) fun x hx => gs_im k (h' x hx)
      refine ⟨.list ps, by simp only [toR, b.r, Option.map_some], by simp only [okX]; exact b.x, by simp only [PyData.showable]; exact b.s, ?_, by simp only [PyData.leavesShort]; exact b.l, ?_⟩
      · simp only [PyData.depth]; have := b.d; omega
      · simp only [PyData.weight, wd]; have := b.w; omega
    | non => exact flat h rfl
    | bl _ => exact flat h rfl
    | int _ => exact flat h rfl
    | str _ => exact flat h rfl
    | dct _ => exact flat h rfl
    | ty _ => cases h
    | h _ => cases h
    | rl _ => cases h
    | exc _ => cases h
    | exf _ _ _ => cases h
    | cls _ => cases h
/-! == of plain data -/
mutual
theorem toP_of {μ : List Cell} : ∀ {d : D} {p : PyData}, toR d = some p → p.canLay0 = true → toP d μ = some p
  | .non, p, e, _ => by simp only [toR] at e; cases e; rfl
  | .bl b, p, e, _ => by simp only [toR] at e; cases e; rfl
  | .int i, p, e, _ => by simp only [toR] at e; cases e; rfl
  | .str s, p, e, _ => by simp only [toR] at e; cases e; rfl
  | .lst xs, p, e, c => by
    simp only [toR] at e
    obtain ⟨ps, e1, rfl⟩ := Option.map_eq_some_iff.mp e
    simp only [toP, toPs_of e1 (by simpa only [PyData.canLay0] using c), Option.map_some]
  | .rl xs, p, e, c => by
    simp only [toR] at e
    obtain ⟨ps, e1, rfl⟩ := Option.map_eq_some_iff.mp e
    simp only [toP, toPs_of e1 (by simpa only [PyData.canLay0] using c), Option.map_some]
  | .tup xs, p, e, c => by
    simp only [toR] at e
    obtain ⟨ps, e1, rfl⟩ := Option.map_eq_some_iff.mp e
    simp only [toP, toPs_of e1 (by simpa only [PyData.canLay0] using c), Option.map_some]
  | .dct [], p, e, c => by simp only [toR] at e; cases e; cases c
  | .dct (_ :: _), p, e, _ => by simp only [toR] at e; cases e
  | .ty _, _, e, _ => by simp only [toR] at e; cases e
  | .h _, _, e, _ => by simp only [toR] at e; cases e
  | .exc _, _, e, _ => by simp only [toR] at e; cases e
  | .exf _ _ _, _, e, _ => by simp only [toR] at e; cases e
  | .cls _, _, e, _ => by simp only [toR] at e; cases e
theorem toPs_of {μ : List Cell} : ∀ {ds : List D} {ps : List PyData}, toRs ds = some ps → PyData.canLayAll0 ps = true → toPs ds μ = some ps
  | [], _, e, _ => by simp only [toRs] at e; cases e; simp only [toPs]
  | d :: ds, _, e, c => by
    simp only [toRs] at e
    split at e
    · rename_i p ps e1 e2
      cases e
      have c' : p.canLay0 = true ∧ PyData.canLayAll0 ps = true := by simpa [PyData.canLayAll0] using c
      simp only [toPs, toP_of e1 c'.1, toPs_of e2 c'.2]
    · cases e
end
theorem toQ_of {μ : List Cell} {d : D} {p : PyData} (e : toR d = some p) (c : p.canLay0 = true) : toQ d μ = some p := by
  unfold toQ
  split
  · simp only [toR] at e; cases e
  · exact toP_of e c
theorem eqP_of {μ : List Cell} {d e : D} {p q : PyData} (e1 : toR d = some p) (e2 : toR e = some q) (c1 : p.canLay0 = true) (c2 : q.canLay0 = true) (h1 : p.depth ≤ 60) (h2 : q.depth ≤ 60) : eqB d e μ = some (PyData.eqv p q) := by
  have key : eqP d e μ = some (PyData.eqv p q) := by
    unfold eqP
    rw [toQ_of e1 c1, toQ_of e2 c2]
    simp only
    rw [if_pos ⟨by unfold SeqAt.shaped; rw [c1, decide_eq_true (by omega)]; rfl, by unfold SeqAt.shaped; rw [c2, decide_eq_true (by omega)]; rfl⟩]
  unfold eqB
  split
  · simp only [toR] at e1 e2
    cases e1
    cases e2
    simp only [PyData.eqv]
    congr 1
  · exact key
mutual
theorem toP_no {μ : List Cell} : ∀ {d : D} {p : PyData}, toR d = some p → okX p = true → p.canLay0 = false → toP d μ = none
  | .non, p, e, _, c => by simp only [toR] at e; cases e; cases c
  | .bl b, p, e, _, c => by simp only [toR] at e; cases e; cases c
  | .int i, p, e, _, c => by simp only [toR] at e; cases e; cases c
  | .str s, p, e, o, c => by
    simp only [toR] at e
    cases e
    have z : (PyData.str s).canLay0 = true := by simpa [okX, PyData.canLay0] using o
    rw [z] at c
    cases c
  | .lst xs, p, e, o, c => by
    simp only [toR] at e
    obtain ⟨ps, e1, rfl⟩ := Option.map_eq_some_iff.mp e
    simp only [toP, toPs_no e1 (by simpa only [okX] using o) (by simpa only [PyData.canLay0] using c), Option.map_none]
  | .rl xs, p, e, o, c => by
    simp only [toR] at e
    obtain ⟨ps, e1, rfl⟩ := Option.map_eq_some_iff.mp e
    simp only [toP, toPs_no e1 (by simpa only [okX] using o) (by simpa only [PyData.canLay0] using c), Option.map_none]
  | .tup xs, p, e, o, c => by
    simp only [toR] at e
    obtain ⟨ps, e1, rfl⟩ := Option.map_eq_some_iff.mp e
    simp only [toP, toPs_no e1 (by simpa only [okX] using o) (by simpa only [PyData.canLay0] using c), Option.map_none]
  | .dct _, p, e, _, c => by simp only [toP]
  | .ty _, _, e, _, _ => by simp only [toR] at e; cases e
  | .h _, _, e, _, _ => by simp only [toR] at e; cases e
  | .exc _, _, e, _, _ => by simp only [toR] at e; cases e
  | .exf _ _ _, _, e, _, _ => by simp only [toR] at e; cases e
  | .cls _, _, e, _, _ => by simp only [toR] at e; cases e
theorem toPs_no {μ : List Cell} : ∀ {ds : List D} {ps : List PyData}, toRs ds = some ps → okXs ps = true → PyData.canLayAll0 ps = false → toPs ds μ = none
  | [], _, e, _, c => by simp only [toRs] at e; cases e; cases c
  | d :: ds, _, e, o, c => by
    simp only [toRs] at e
    split at e
    · rename_i p ps e1 e2
      cases e
      have o' : okX p = true ∧ okXs ps = true := by simpa [okXs] using o
      by_cases hp : p.canLay0 = true
      · have hps : PyData.canLayAll0 ps = false := by
          simp only [PyData.canLayAll0, hp, Bool.true_and] at c
          exact c
        simp only [toPs, toP_of e1 hp, toPs_no e2 o'.2 hps]
      · simp only [toPs, toP_no e1 o'.1 (Bool.eq_false_iff.mpr hp)]
    · cases e
end
theorem eqB_no {x y : D} {μ : List Cell} {p : PyData} (e : toR x = some p) (o : okX p = true) (c : p.canLay0 = false) : eqB x y μ = none := by
  have hq : toQ x μ = none := by
    unfold toQ
    split
    · simp only [toR] at e; cases e
    · exact toP_no e o c
  unfold eqB
  split
  · simp only [toR] at e
    cases e
    rename_i s _
    have z : (PyData.str s).canLay0 = true := by simpa [okX, PyData.canLay0] using o
    rw [z] at c
    cases c
  · unfold eqP
    rw [hq]
/-- ==, the right side without dicts -/
theorem eqW_of {μ : List Cell} {d e : D} {k n m l : Nat} {p q : PyData} (a : Im k n d p) (b : Im m l e q) (c : q.canLay0 = true) (hk : k ≤ 60) (hm : m ≤ 60) : eqW d e μ = some (PyData.eqv p q) := by
  have h1 := a.d
  have h2 := b.d
  unfold eqW
  by_cases hp : p.canLay0 = true
  · rw [eqP_of a.r b.r hp c (by omega) (by omega)]
    rfl
  · have hp' : p.canLay0 = false := Bool.eq_false_iff.mpr hp
    rw [eqB_no a.r a.x hp']
    show eqR d e = _
    unfold eqR
    rw [a.r, b.r]
    simp only
    rw [if_pos ⟨a.x, hp', c, by omega⟩]
theorem neW_of {μ : List Cell} {d e : D} {k n m l : Nat} {p q : PyData} (a : Im k n d p) (b : Im m l e q) (c : q.canLay0 = true) (hk : k ≤ 60) (hm : m ≤ 60) (hd : isDictD p = true → isStrD q = true) : neW d e μ = some (!PyData.eqv p q) := by
  have h1 := a.d
  have h2 := b.d
  unfold neW
  by_cases hp : p.canLay0 = true
  · rw [eqP_of a.r b.r hp c (by omega) (by omega)]
    rfl
  · have hp' : p.canLay0 = false := Bool.eq_false_iff.mpr hp
    rw [eqB_no a.r a.x hp']
    show neR d e = _
    unfold neR
    rw [a.r, b.r]
    simp only
    rw [if_pos ⟨a.x, hp', c, by omega, hd⟩]
/-- repr of a list of plain data -/
theorem repr_of {μ : List Cell} {k : Nat} {xs : List D} (h : ∀ x ∈ xs, gs k x = true) (hk : k ≤ 50) (hw : (xs.map fun x => wd k x + 1).sum ≤ 320000) : ∃ z, dReprR (.lst xs) μ = some (.str z) := by
  obtain ⟨ps, b⟩ := ims_of (k := k + 1) (g := wd k) fun x hx => gs_im k (h x hx)
  have hd := b.d
  have hw' := b.w
  have sh := PyData.shown_le 50 (by decide) (.list ps) (by simp only [PyData.leavesShort]; exact b.l)
  refine ⟨(PyData.list ps).shown, ?_⟩
  have hx : (PyData.list ps).showable = true ∧ (PyData.list ps).depth ≤ 62 ∧ (PyData.list ps).shown.length ≤ sizeLine := by
    refine ⟨by simp only [PyData.showable]; exact b.s, by simp only [PyData.depth]; omega, ?_⟩
    simp only [PyData.weight] at sh
    rw [sizeLine_eq]
    omega
  unfold dReprR
  simp only [b.r]
  exact if_pos (show PyData.showableAll ps = true ∧ _ from ⟨b.s, hx.2⟩)
end G
namespace G
open PySem L2 DL PySem.DLQ
section
variable {S : Sg} {P : D → List Cell → Prop} {Q : Bool → List Cell → Prop} {R : List D → List Cell → Prop} {U : Fl → Sg → Prop} {V : D → Prop} {B : Sg → Prop} {Y : Ov → List Cell → Prop} {fa fb fc : EvE} {fs : EvA} {t u : EvT} {g g' : EvS} {b : Bd} {bs : Bds} {μ : List Cell} {ρ : List (Option D)} {d x y : D} {ds xs ys : List D} {i j : Int} {k n : Nat} {s z : Str} {p q : Bool}
theorem wf_eq {F : FnF} {r : D} (h : F ds μ = some (.v r, μ)) : WF F ds μ P ↔ P r μ := ⟨fun ⟨d, μ', e, p⟩ => by rw [h] at e; cases e; exact p, fun p => ⟨r, μ, h, p⟩⟩
theorem to_eq {F : FnF} {r : D} (h : WF F ds μ fun d μ' => d = r ∧ μ' = μ) : F ds μ = some (.v r, μ) := by
  obtain ⟨d, μ', e, rfl, rfl⟩ := h
  exact e
theorem w2_of {f : D → D → List Cell → Option D} {r : D} (h : f x y μ = some r) : W2 f x y μ V ↔ V r := ⟨fun ⟨z, e, p⟩ => by rw [h] at e; cases e; exact p, fun p => ⟨_, h, p⟩⟩
theorem w1_of {f : D → List Cell → Option D} {r : D} (h : f x μ = some r) : W1 f x μ V ↔ V r := ⟨fun ⟨z, e, p⟩ => by rw [h] at e; cases e; exact p, fun p => ⟨_, h, p⟩⟩
theorem w2_if {f : D → D → List Cell → Option D} {r : D} {c : Prop} [Decidable c] (h : f x y μ = if c then some r else none) : W2 f x y μ V ↔ c ∧ V r := by
  constructor
  · rintro ⟨z, e, p⟩
    rw [h] at e
    split at e
    · rename_i h; cases e; exact ⟨h, p⟩
    · cases e
  · rintro ⟨h', p⟩
    exact ⟨_, by rw [h, if_pos h'], p⟩
theorem w2_addAI : W2 dAddA (.int i) (.int j) μ V ↔ V (.int (i + j)) := w2_of rfl
theorem w2_addAS : W2 dAddA (.str s) (.str z) μ V ↔ s.length + z.length ≤ sizeLine ∧ V (.str (s ++ z)) := w2_if rfl
theorem w2_addAT : W2 dAddA (.tup xs) (.tup ys) μ V ↔ xs.length + ys.length ≤ sizeLine ∧ V (.tup (xs ++ ys)) := w2_if rfl
theorem w2_addAL : W2 dAddA (.lst xs) (.lst ys) μ V ↔ xs.length + ys.length ≤ sizeLine ∧ V (.lst (xs ++ ys)) := w2_if rfl
theorem w2_addAH : W2 dAddA (.h k) (.lst ys) μ V ↔ ∃ xs, μ[k]? = some (.lst xs) ∧ xs.length + ys.length ≤ sizeLine ∧ V (.lst (xs ++ ys)) := by
  constructor
  · rintro ⟨z, e, p⟩
    unfold dAddA dAdd asL at e
    simp only at e
    split at e
    · rename_i a c e1 e2
      cases e2
      split at e1
      · rename_i xs ex
        cases e1
        split at e
        · rename_i h; cases e; exact ⟨_, ex, h, p⟩
        · cases e
      · cases e1
    · cases e
  · rintro ⟨xs, ex, h, p⟩
    exact ⟨_, by unfold dAddA dAdd asL; simp only [ex]; rw [if_pos h], p⟩
theorem w2_mulAI : W2 dMulA (.int i) (.int j) μ V ↔ ((-(2 ^ 64) < i ∧ i < 2 ^ 64) ∨ (-(2 ^ 64) < j ∧ j < 2 ^ 64)) ∧ V (.int (i * j)) := w2_if rfl
theorem w2_mulAT : W2 dMulA (.tup xs) (.int j) μ V ↔ (xs ≠ [] ∧ 0 ≤ j ∧ j ≤ 1000 ∧ xs.length ≤ 1000) ∧ V (.tup (List.replicate j.toNat xs).flatten) := w2_if rfl
theorem w2_mulAL : W2 dMulA (.lst xs) (.int j) μ V ↔ (-(2 ^ 63) ≤ j ∧ j < 2 ^ 63 ∧ xs.length * j.toNat ≤ sizeLine) ∧ V (.lst (List.replicate j.toNat xs).flatten) := w2_if rfl
theorem w2_ltAI : W2 dLtA (.int i) (.int j) μ V ↔ V (.bl (decide (i < j))) := w2_of rfl
theorem eqW_int : eqW (.int i) (.int j) μ = some (decide (i = j)) := by
  have e : eqB (.int i) (.int j) μ = some (PyData.eqv (.int i) (.int j)) := eqP_of (d := .int i) (e := .int j) rfl rfl rfl rfl (by simp only [PyData.depth]; omega) (by simp only [PyData.depth]; omega)
  unfold eqW
  rw [e, PyData.eqv.eq_5]
  rfl
theorem w2_eqWI : W2 dEqW (.int i) (.int j) μ V ↔ V (.bl (decide (i = j))) := w2_of (by unfold dEqW; rw [eqW_int]; rfl)
theorem neW_int : neW (.int i) (.int j) μ = some (!decide (i = j)) := by
  have e : eqB (.int i) (.int j) μ = some (PyData.eqv (.int i) (.int j)) := eqP_of (d := .int i) (e := .int j) rfl rfl rfl rfl (by simp only [PyData.depth]; omega) (by simp only [PyData.depth]; omega)
  unfold neW
  rw [e, PyData.eqv.eq_5]
  rfl
theorem w2_neWI : W2 dNeW (.int i) (.int j) μ V ↔ V (.bl (!decide (i = j))) := w2_of (by unfold dNeW; rw [neW_int]; rfl)
theorem neW_non : neW .non (.int j) μ = some true := by
  have e : eqB .non (.int j) μ = some (PyData.eqv .none (.int j)) := eqP_of (d := .non) (e := .int j) rfl rfl rfl rfl (by simp only [PyData.depth]; omega) (by simp only [PyData.depth]; omega)
  unfold neW
  rw [e]
  rfl
theorem w2_neWN : W2 dNeW .non (.int j) μ V ↔ V (.bl true) := w2_of (by unfold dNeW; rw [neW_non]; rfl)
theorem neW_bl : neW (.bl p) (.bl q) μ = some (p != q) := by
  have e : eqB (.bl p) (.bl q) μ = some (PyData.eqv (.bool p) (.bool q)) := eqP_of (d := .bl p) (e := .bl q) rfl rfl rfl rfl (by cases p <;> decide) (by cases q <;> decide)
  unfold neW
  rw [e]
  rfl
theorem w2_neWB : W2 dNeW (.bl p) (.bl q) μ V ↔ V (.bl (p != q)) := w2_of (by unfold dNeW; rw [neW_bl]; rfl)
theorem eqW_str : eqW (.str s) (.str z) μ = some (decide (s = z)) := rfl
theorem neW_str : neW (.str s) (.str z) μ = some (!decide (s = z)) := rfl
theorem w2_eqWS : W2 dEqW (.str s) (.str z) μ V ↔ V (.bl (decide (s = z))) := w2_of rfl
theorem w2_neWS : W2 dNeW (.str s) (.str z) μ V ↔ V (.bl (!decide (s = z))) := w2_of rfl
theorem w2_eqW : W2 dEqW x y μ V ↔ ∃ k, eqW x y μ = some k ∧ V (.bl k) := by
  constructor
  · rintro ⟨z, e, p⟩
    obtain ⟨k, ek, rfl⟩ := Option.map_eq_some_iff.mp e
    exact ⟨k, ek, p⟩
  · rintro ⟨k, ek, p⟩
    exact ⟨_, by unfold dEqW; rw [ek]; rfl, p⟩
theorem w2_neW : W2 dNeW x y μ V ↔ ∃ k, neW x y μ = some k ∧ V (.bl k) := by
  constructor
  · rintro ⟨z, e, p⟩
    obtain ⟨k, ek, rfl⟩ := Option.map_eq_some_iff.mp e
    exact ⟨k, ek, p⟩
  · rintro ⟨k, ek, p⟩
    exact ⟨_, by unfold dNeW; rw [ek]; rfl, p⟩
theorem w1_all {xs : List D} : W1 dAll (.lst xs) μ V ↔ ∃ bs, blsOf xs = some bs ∧ V (.bl (bs.all id)) := by
  constructor
  · rintro ⟨z, e, p⟩
    obtain ⟨bs, eb, rfl⟩ := Option.map_eq_some_iff.mp (show (blsOf xs).map (fun bs => D.bl (bs.all id)) = some z from e)
    exact ⟨bs, eb, p⟩
  · rintro ⟨bs, eb, p⟩
    exact ⟨_, show (blsOf xs).map (fun bs => D.bl (bs.all id)) = some _ by rw [eb]; rfl, p⟩
theorem w1_listT : W1 dList (.tup xs) μ V ↔ V (.lst xs) := w1_of rfl
theorem w1_tupL : W1 dTuple (.lst xs) μ V ↔ V (.tup xs) := w1_of rfl
theorem w1_tupH : W1 dTuple (.h k) μ V ↔ ∃ xs, μ[k]? = some (.lst xs) ∧ V (.tup xs) := by
  constructor
  · rintro ⟨z, e, p⟩
    unfold dTuple asSL asL at e
    simp only at e
    split at e
    · rename_i xs ex; cases e; exact ⟨xs, ex, p⟩
    · cases e
  · rintro ⟨xs, ex, p⟩
    exact ⟨_, by unfold dTuple asSL asL; simp only [ex]; rfl, p⟩
theorem w1_lenH : W1 dLen (.h k) μ V ↔ ∃ xs, μ[k]? = some (.lst xs) ∧ V (.int xs.length) := by
  constructor
  · rintro ⟨z, e, p⟩
    unfold dLen asSL asL at e
    simp only at e
    split at e
    · rename_i xs ex; cases e; exact ⟨xs, ex, p⟩
    · cases e
  · rintro ⟨xs, ex, p⟩
    exact ⟨_, by unfold dLen asSL asL; simp only [ex]; rfl, p⟩
theorem w1_rev : W1 dRev (.tup xs) μ V ↔ V (.tup xs.reverse) := w1_of rfl
/-! slices -/
def WO (f : EvO) (S : Sg) (P : Option Int → List Cell → Prop) : Prop := ∃ d μ', f S = some (d, μ') ∧ P d μ'
theorem wo_no {Z : Option Int → List Cell → Prop} : WO fNo ⟨ρ, μ⟩ Z ↔ Z none μ := ⟨fun ⟨d', μ', e, p⟩ => by obtain ⟨rfl, rfl⟩ := pr_inj e; exact p, fun p => ⟨none, μ, rfl, p⟩⟩
def isI (Z : Option Int → List Cell → Prop) (d : D) (μ : List Cell) : Prop := ∃ i, d = .int i ∧ Z (some i) μ
theorem isI_i {Z : Option Int → List Cell → Prop} : isI Z (.int i) μ ↔ Z (some i) μ := ⟨fun ⟨j, e, p⟩ => by cases e; exact p, fun p => ⟨i, rfl, p⟩⟩
theorem wo_part {Z : Option Int → List Cell → Prop} : WO (fPart fa) ⟨ρ, μ⟩ Z ↔ WE fa ⟨ρ, μ⟩ (isI Z) := by
  constructor
  · rintro ⟨d, μ', e, p⟩
    unfold fPart at e
    split at e
    · rename_i i μ1 ea
      obtain ⟨rfl, rfl⟩ := pr_inj e
      exact ⟨_, _, ea, i, rfl, p⟩
    · cases e
  · rintro ⟨d, μ', ea, i, rfl, p⟩
    exact ⟨_, _, by unfold fPart; rw [ea], p⟩
theorem we_Sl {fl fh : EvO} : WE (fSl fa fl fh) ⟨ρ, μ⟩ P ↔ WE fa ⟨ρ, μ⟩ fun x μ1 => WO fl ⟨ρ, μ1⟩ fun lo μ2 => WO fh ⟨ρ, μ2⟩ fun hi μ3 => ∃ z, dSl x lo hi μ3 = some z ∧ P z μ3 := by
  constructor
  · rintro ⟨d, μ', e, p⟩
    unfold fSl at e
    split at e
    · rename_i x μ1 ea
      split at e
      · rename_i lo μ2 eb
        split at e
        · rename_i hi μ3 ec
          obtain ⟨z, ez, e⟩ := Option.map_eq_some_iff.mp e
          cases e
          exact ⟨x, μ1, ea, lo, μ2, eb, hi, _, ec, _, ez, p⟩
        · cases e
      · cases e
    · cases e
  · rintro ⟨x, μ1, ea, lo, μ2, eb, hi, μ3, ec, z, ez, p⟩
    exact ⟨z, μ3, by unfold fSl; rw [ea]; simp only; rw [eb]; simp only; rw [ec]; simp only; rw [ez]; rfl, p⟩
theorem sl_tup {lo hi : Option Int} : (∃ w, dSl (.tup xs) lo hi μ = some w ∧ V w) ↔ V (.tup (cutD xs lo hi)) := ⟨fun ⟨w, e, p⟩ => by cases e; exact p, fun p => ⟨_, rfl, p⟩⟩
theorem sl_lst {lo hi : Option Int} : (∃ w, dSl (.lst xs) lo hi μ = some w ∧ V w) ↔ V (.lst (cutD xs lo hi)) := ⟨fun ⟨w, e, p⟩ => by cases e; exact p, fun p => ⟨_, rfl, p⟩⟩
/-! lists that change -/
theorem we_Apn : WE (fApn fa fb) ⟨ρ, μ⟩ P ↔ WE fa ⟨ρ, μ⟩ fun o μ1 => isLst o μ1 = true ∧ WE fb ⟨ρ, μ1⟩ fun d μ2 => ∃ μ3, cApp o d μ2 = some μ3 ∧ P .non μ3 := by
  constructor
  · rintro ⟨d, μ', e, p⟩
    unfold fApn at e
    split at e
    · rename_i o μ1 ea
      split at e
      · rename_i h
        split at e
        · rename_i d μ2 eb
          obtain ⟨z, ez, e⟩ := Option.map_eq_some_iff.mp e
          cases e
          exact ⟨o, μ1, ea, h, d, μ2, eb, _, ez, p⟩
        · cases e
      · cases e
    · cases e
  · rintro ⟨o, μ1, ea, h, d, μ2, eb, μ3, ec, p⟩
    exact ⟨_, μ3, by unfold fApn; rw [ea]; simp only; rw [if_pos h, eb]; simp only; rw [ec]; rfl, p⟩
theorem isLst_of {xs : List D} (h : μ[k]? = some (.lst xs)) : isLst (.h k) μ = true := by unfold isLst; simp only [h]
theorem cApp_of {xs : List D} {Z : List Cell → Prop} (h : μ[k]? = some (.lst xs)) (hl : xs.length < sizeLine) : (∃ μ3, cApp (.h k) d μ = some μ3 ∧ Z μ3) ↔ Z (μ.set k (.lst (xs ++ [d]))) := by
  have e : cApp (.h k) d μ = some (μ.set k (.lst (xs ++ [d]))) := by
    unfold cApp
    simp only [h]
    rw [if_pos hl]
  rw [e]
  exact ⟨fun ⟨z, e, p⟩ => by cases e; exact p, fun p => ⟨_, rfl, p⟩⟩
theorem we_Pop : WE (fPop fa fb) ⟨ρ, μ⟩ P ↔ WE fa ⟨ρ, μ⟩ fun o μ1 => isLst o μ1 = true ∧ WE fb ⟨ρ, μ1⟩ fun i μ2 => ∃ z, cPop o i μ2 = some z ∧ P z.1 z.2 := by
  constructor
  · rintro ⟨d, μ', e, p⟩
    unfold fPop at e
    split at e
    · rename_i o μ1 ea
      split at e
      · rename_i h
        split at e
        · rename_i d μ2 eb
          exact ⟨o, μ1, ea, h, _, μ2, eb, _, e, p⟩
        · cases e
      · cases e
    · cases e
  · rintro ⟨o, μ1, ea, h, d, μ2, eb, z, ec, p⟩
    exact ⟨_, _, by unfold fPop; rw [ea]; simp only; rw [if_pos h, eb]; simp only; rw [ec], p⟩
theorem we_ListC : WE (fListC fa) ⟨ρ, μ⟩ P ↔ WE fa ⟨ρ, μ⟩ fun x μ1 => ∃ xs, asQ x μ1 = some xs ∧ P (.h μ1.length) (μ1 ++ [.lst xs]) := by
  constructor
  · rintro ⟨d, μ', e, p⟩
    unfold fListC at e
    split at e
    · rename_i x μ1 ea
      split at e
      · rename_i xs h
        obtain ⟨rfl, rfl⟩ := pr_inj e
        exact ⟨x, μ1, ea, xs, h, p⟩
      · cases e
    · cases e
  · rintro ⟨x, μ1, ea, xs, h, p⟩
    exact ⟨_, _, by unfold fListC; rw [ea]; simp only; rw [h], p⟩
theorem wa_star : WA (fStar fa fs) ⟨ρ, μ⟩ R ↔ WE fa ⟨ρ, μ⟩ fun x μ1 => ∃ xs, asQ x μ1 = some xs ∧ WA fs ⟨ρ, μ1⟩ fun ys μ2 => R (xs ++ ys) μ2 := by
  constructor
  · rintro ⟨d, μ', e, p⟩
    unfold fStar at e
    split at e
    · rename_i x μ1 ea
      split at e
      · rename_i xs h
        split at e
        · rename_i ys μ2 eb
          obtain ⟨rfl, rfl⟩ := pr_inj e
          exact ⟨x, μ1, ea, xs, h, ys, _, eb, p⟩
        · cases e
      · cases e
    · cases e
  · rintro ⟨x, μ1, ea, xs, h, ys, μ2, eb, p⟩
    exact ⟨_, μ2, by unfold fStar; rw [ea]; simp only; rw [h]; simp only; rw [eb], p⟩
theorem asQ_tup : (∃ zs, asQ (.tup xs) μ = some zs ∧ R zs μ) ↔ R xs μ := ⟨fun ⟨z, e, p⟩ => by cases e; exact p, fun p => ⟨_, rfl, p⟩⟩
theorem asQ_lst : (∃ zs, asQ (.lst xs) μ = some zs ∧ R zs μ) ↔ R xs μ := ⟨fun ⟨z, e, p⟩ => by cases e; exact p, fun p => ⟨_, rfl, p⟩⟩
theorem wi_zip : WI (gZip fs) ⟨ρ, μ⟩ R ↔ WA fs ⟨ρ, μ⟩ fun ds μ1 => ∃ xs ys, (ds = [.tup xs, .tup ys] ∨ ds = [.lst xs, .lst ys]) ∧ R (zipD xs ys) μ1 := by
  constructor
  · rintro ⟨d, μ', e, p⟩
    unfold gZip at e
    split at e
    · rename_i xs ys μ1 ea
      obtain ⟨rfl, rfl⟩ := pr_inj e
      exact ⟨_, _, ea, xs, ys, .inl rfl, p⟩
    · rename_i xs ys μ1 ea
      obtain ⟨rfl, rfl⟩ := pr_inj e
      exact ⟨_, _, ea, xs, ys, .inr rfl, p⟩
    · cases e
  · rintro ⟨ds, μ1, ea, xs, ys, rfl | rfl, p⟩
    · exact ⟨_, μ1, by unfold gZip; rw [ea], p⟩
    · exact ⟨_, μ1, by unfold gZip; rw [ea], p⟩
theorem wb_seq {n : Nat} : WB (bSeq n bs) d ⟨ρ, μ⟩ B ↔ ∃ xs, asQ d μ = some xs ∧ xs.length = n ∧ WBs bs xs ⟨ρ, μ⟩ B := by
  constructor
  · rintro ⟨S', e, p⟩
    unfold bSeq at e
    split at e
    · rename_i xs h
      split at e
      · rename_i hl; exact ⟨xs, h, hl, S', e, p⟩
      · cases e
    · cases e
  · rintro ⟨xs, h, hl, S', e, p⟩
    exact ⟨S', by unfold bSeq; simp only [h]; rw [if_pos hl]; exact e, p⟩
theorem Tn_ex {A : Sg → Prop} {nm : Str} {o : Option D} : Tn U A (.ex nm o) S ↔ U (.ex nm o) S := Iff.rfl
end
/-! letters of the walk -/
theorem at0 {α : Type} {a : α} {r : List α} : atI (a :: r) 0 = some a := by simp [atI, ixN]
theorem ixN_lt {n : Nat} {i : Int} (h : 0 ≤ i) (h2 : i < n) : ixN n i = some i.toNat := by
  unfold ixN
  rw [if_pos h, if_pos h2]
theorem at1 {α : Type} {a b : α} {r : List α} : atI (a :: b :: r) 1 = some b := by
  unfold atI
  rw [ixN_lt (by decide) (by simp only [List.length_cons]; omega)]
  rfl
theorem at2 {α : Type} {a b c : α} {r : List α} : atI (a :: b :: c :: r) 2 = some c := by
  unfold atI
  rw [ixN_lt (by decide) (by simp only [List.length_cons]; omega)]
  rfl
theorem at3 {α : Type} {a b c d : α} {r : List α} : atI (a :: b :: c :: d :: r) 3 = some d := by
  unfold atI
  rw [ixN_lt (by decide) (by simp only [List.length_cons]; omega)]
  rfl
theorem at4 {α : Type} {a b c d e : α} {r : List α} : atI (a :: b :: c :: d :: e :: r) 4 = some e := by
  unfold atI
  rw [ixN_lt (by decide) (by simp only [List.length_cons]; omega)]
  rfl
theorem at5 {α : Type} {a b c d e f : α} {r : List α} : atI (a :: b :: c :: d :: e :: f :: r) 5 = some f := by
  unfold atI
  rw [ixN_lt (by decide) (by simp only [List.length_cons]; omega)]
  rfl
theorem atI_lt {α : Type} {xs : List α} {i : Int} (h : 0 ≤ i) (h2 : i < xs.length) : ∃ x, atI xs i = some x ∧ x ∈ xs ∧ xs[i.toNat]? = some x := by
  have hl : i.toNat < xs.length := by omega
  refine ⟨xs[i.toNat], ?_, List.getElem_mem hl, List.getElem?_eq_getElem hl⟩
  unfold atI
  rw [ixN_lt h h2]
  exact List.getElem?_eq_getElem hl
theorem fmod_pos {a b : Int} (h : 0 < b) : 0 ≤ a.fmod b ∧ a.fmod b < b := ⟨Int.fmod_nonneg_of_pos a h, Int.fmod_lt_of_pos a h⟩
theorem ix3 : ixN 3 0 = some 0 ∧ ixN 3 2 = some 2 ∧ ixN 3 1 = some 1 := by decide
theorem set3a {a b c d : D} : [a, b, c].set 0 d = [d, b, c] := rfl
theorem set3c {a b c d : D} : [a, b, c].set 2 d = [a, b, d] := rfl
theorem cell_set {μ : List Cell} {k : Nat} {c d : Cell} (h : μ[k]? = some c) : (μ.set k d)[k]? = some d := List.getElem?_set_self (List.getElem?_eq_some_iff.mp h).1
theorem set_same {μ : List Cell} {k : Nat} {c : Cell} (h : μ[k]? = some c) : μ.set k c = μ := by
  refine List.ext_getElem? fun j => ?_
  by_cases e : k = j
  · subst e
    rw [cell_set h, h]
  · rw [List.getElem?_set_ne e]
theorem set_set {μ : List Cell} {k : Nat} {c d : Cell} : (μ.set k c).set k d = μ.set k d := List.set_set ..
/-- the numbers that are drawn from -/
def Die (k : Nat) (μ : List Cell) : Prop := ∃ x y z : Int, μ[k]? = some (.lst [.int x, .int y, .int z])
/-- the cells behind a draw: those before are as they were, new ones may stand behind -/
structure Dr (k : Nat) (μ μ' : List Cell) : Prop where
  die : Die k μ'
  len : μ.length ≤ μ'.length
  old : ∀ j, j ≠ k → j < μ.length → μ'[j]? = μ[j]?
theorem Dr.trans {k : Nat} {μ μ' μ'' : List Cell} (d : Dr k μ μ') (e : Dr k μ' μ'') : Dr k μ μ'' := ⟨e.die, Nat.le_trans d.len e.len, fun j h l => (e.old j h (Nat.lt_of_lt_of_le l d.len)).trans (d.old j h l)⟩
theorem Dr.self {k : Nat} {μ : List Cell} (d : Die k μ) : Dr k μ μ := ⟨d, Nat.le_refl _, fun _ _ _ => rfl⟩
theorem Dr.at_ {k : Nat} {μ μ' : List Cell} (d : Dr k μ μ') {j : Nat} {c : Cell} (h : j ≠ k) (e : μ[j]? = some c) : μ'[j]? = some c := (d.old j h (List.getElem?_eq_some_iff.mp e).1).trans e
theorem Dr.lt {k : Nat} {μ : List Cell} (d : Die k μ) : k < μ.length := let ⟨_, _, _, e⟩ := d; (List.getElem?_eq_some_iff.mp e).1
theorem Dr.app {k : Nat} {μ : List Cell} (d : Die k μ) (c : Cell) : Dr k μ (μ ++ [c]) := by
  refine ⟨?_, by simp, fun j _ l => List.getElem?_append_left l⟩
  obtain ⟨x, y, z, e⟩ := d
  exact ⟨x, y, z, by rw [List.getElem?_append_left (List.getElem?_eq_some_iff.mp e).1]; exact e⟩
/-- a new cell is changed -/
theorem Dr.set {k j : Nat} {μ μ' : List Cell} (d : Dr k μ μ') (hd : Die k μ) (h : μ.length ≤ j) (c : Cell) : Dr k μ (μ'.set j c) := by
  have hk := Dr.lt hd
  refine ⟨?_, by rw [List.length_set]; exact d.len, fun i hi hl => ?_⟩
  · obtain ⟨x, y, z, e⟩ := d.die
    exact ⟨x, y, z, by rw [List.getElem?_set_ne (by omega)]; exact e⟩
  · rw [List.getElem?_set_ne (by omega)]
    exact d.old i hi hl
end G
namespace G
open PySem L2 DL PySem.DLQ
local macro_rules | `(tactic| walk_at "dl") => `(tactic| simp only [wf_fn, ws_seq, ws_then, ws_drop, ws_nx, ws_bk, ws_ct, ws_ret, ws_if, ws_for, wb_name, wb_sub, wb_tup, wb_seq, wbs_nil, wbs_cons, cSet_iff, we_V, we_C, we_B, we_U, we_App, we_newC, we_call, we_AndV, we_OrV, we_IfE, we_Ch, we_Lc, we_Sl, we_Apn, we_Pop, we_ListC, wa_nil, wa_cons, wa_len, wa_star, wo_no, wo_part, isI_i, sl_tup, sl_lst,
  wl_1, wl_2, wl_lst, wl_tup, wt_Tru, wt_Not, wt_And, wt_Or, wt_true, wi_seq, wi_rng1, wi_zip, Nx_nx, Nx_rt, Nx_bk, Nx_ct, Nx_ex, Fe_rt, Fe_nx, Tn_nx, Tn_ct, Tn_bk, Tn_rt, Tn_ex,
  w2_addAI, w2_addAS, w2_addAT, w2_addAL, w2_addAH, w2_mulAI, w2_mulAT, w2_mulAL, w2_ltAI, w2_eqWI, w2_neWI, w2_neWN, w2_neWB, w2_eqWS, w2_neWS, w1_listT, w1_tupL, w1_lenH, w1_rev, w2_II, gSub_iff, gMod_iff, gFdiv_iff, gPow_iff, w1_neg, w2_ordI, w2_ordS, w2_is, w2_isNot, w2_ixL, w2_ixR, w2_ixT, w2_ixS, w2_ixH, w1_abs, w1_intI, w1_intB, w2_max, w2_min, w1_str, w1_lenS, w1_lenL, w1_lenR, w1_lenT, w1_type, w1_all, w1_not, w1_S0, w2_join, wtr_bl, asQ_tup, asQ_lst,
  List.map_cons, List.map_nil, List.cons_append, List.nil_append, List.replicate_succ, List.replicate_zero, List.getElem?_cons_zero, List.getElem?_cons_succ, List.set_cons_zero, List.set_cons_succ, List.length_cons, List.length_nil, Option.some.injEq, exists_eq_left', exists_eq_left, D.int.injEq, and_true, true_and, Nat.reduceAdd, Nat.reduceSub, Nat.reduceLT, Nat.lt_add_left_iff_pos, Nat.zero_lt_succ, List.length_replicate, List.length_append, List.length_map, List.cons.injEq, List.length_set, gSeq, decide_true, if_true, D.bl.injEq, Bool.not_true, Bool.not_false, Bool.false_eq_true, if_false, reduceCtorEq, false_and, or_false, false_or])
/-! numbers -/
def numD (t : Int) : D → Bool
  | .int i => decide (0 ≤ i ∧ i < t)
  | _ => false
theorem kit_sts : kitB "str" "str" = some true ∧ kitB "int" "str" = some false ∧ kitB "bool" "str" = some false ∧ kitB "NoneType" "str" = some false ∧ kitB "list" "str" = some false ∧ kitB "tuple" "str" = some false ∧ kitB "dict" "str" = some false := by decide +kernel
theorem kit_ints : kitB "str" "int" = some false ∧ kitB "int" "int" = some true ∧ kitB "bool" "int" = some true ∧ kitB "NoneType" "int" = some false ∧ kitB "list" "int" = some false ∧ kitB "tuple" "int" = some false ∧ kitB "dict" "int" = some false := by decide +kernel
theorem kit_bools : kitB "int" "bool" = some false ∧ kitB "bool" "bool" = some true := by decide +kernel
theorem kit_tups : kitB "str" "tuple" = some false ∧ kitB "int" "tuple" = some false ∧ kitB "bool" "tuple" = some false ∧ kitB "NoneType" "tuple" = some false ∧ kitB "list" "tuple" = some false ∧ kitB "tuple" "tuple" = some true ∧ kitB "dict" "tuple" = some false := by decide +kernel
def isPl : D → Bool
  | .non | .bl _ | .int _ | .str _ | .lst _ | .tup _ | .dct _ => true
  | _ => false
theorem gs_pl {k : Nat} {d : D} (h : gs k d = true) : isPl d = true := by
  cases d <;> first | rfl | (cases k <;> cases h)
def isTupD : D → Bool
  | .tup _ => true
  | _ => false
def isStD : D → Bool
  | .str _ => true
  | _ => false
def whB (i j : Int) : D → Bool
  | .int x => decide (i ≤ x ∧ x ≤ j)
  | _ => false
section
variable {V : D → Prop} {μ : List Cell} {d : D} {t : Int} {P : D → List Cell → Prop} {i j : Int}
theorem isiT (h : isPl d = true) : W2 dIsi d (.ty "tuple") μ V ↔ V (.bl (isTupD d)) := by
  cases d <;> first | (cases h; done) | (refine w2_of ?_; unfold dIsi tyOf; simp only [kit_tups, Option.map_some, isTupD])
theorem isiS (h : isPl d = true) : W2 dIsi d (.ty "str") μ V ↔ V (.bl (isStD d)) := by
  cases d <;> first | (cases h; done) | (refine w2_of ?_; unfold dIsi tyOf; simp only [kit_sts, Option.map_some, isStD])
theorem lawnum (h : isPl d = true) : F__law_is_number [d, .int t] μ = some (.v (.bl (numD t d)), μ) := by
  apply to_eq
  unfold F__law_is_number g__law_is_number
  cases d <;> first | (cases h; done) | skip
  all_goals (walk_at "dl"; simp only [w2_isi, tyOf, Option.some.injEq, exists_eq_left', kit_ints, kit_bools]; (try walk_at "dl"); (try simp only [w2_isi, tyOf, Option.some.injEq, exists_eq_left', kit_ints, kit_bools]); (try walk_at "dl"); simp only [numD])
  rename_i i
  by_cases h0 : 0 ≤ i
  · simp [h0]
  · simp [h0]
theorem whole (h : isPl d = true) : F_is_whole_within [d, .int i, .int j] μ = some (.v (.bl (whB i j d)), μ) := by
  apply to_eq
  unfold F_is_whole_within g_is_whole_within
  cases d <;> first | (cases h; done) | skip
  all_goals (walk_at "dl"; simp only [tyOf, Option.some.injEq, exists_eq_left', isB]; (try walk_at "dl"); simp only [whB])
  all_goals first | (simp; done) | skip
  rename_i x
  by_cases h0 : i ≤ x
  · simp [h0]
  · simp [h0]
theorem wholeN (h : isPl d = true) : F_is_whole_within [d, .int 0, .int (t - 1)] μ = some (.v (.bl (numD t d)), μ) := by
  rw [whole h]
  cases d <;> first | rfl | skip
  rename_i x
  have : (0 ≤ x ∧ x ≤ t - 1) ↔ (0 ≤ x ∧ x < t) := by omega
  simp [whB, numD, this]
end
/-! words -/
def az (c : Nat) : Bool := decide (97 ≤ c) && decide (c ≤ 122)
def nameS (z : Str) : Bool := decide (1 ≤ z.length) && decide (z.length ≤ 8) && z.cps.toList.all az
def nameB : D → Bool
  | .str z => nameS z
  | _ => false
theorem cls_a : ∀ c, c < 128 → Unicode.isAlpha c = (decide (65 ≤ c ∧ c ≤ 90) || az c) := by decide +kernel
theorem cls_l : ∀ c, c < 128 → Unicode.isLower c = az c := by decide +kernel
theorem cls_u : ∀ c, c < 128 → (Unicode.isUpper c || Unicode.isTitle c) = decide (65 ≤ c ∧ c ≤ 90) := by decide +kernel
theorem az_lt {c : Nat} (h : az c = true) : c < 128 ∧ 97 ≤ c ∧ c ≤ 122 := by
  unfold az at h
  simp only [Bool.and_eq_true, decide_eq_true_eq] at h
  omega
theorem chars {z : Str} (h : 1 ≤ z.length) : (Txt.isascii z && (Txt.isalpha z && Txt.islower z)) = z.cps.toList.all az := by
  have hl : z.cps.toList.length = z.length := Array.length_toList
  unfold Txt.isascii Txt.isalpha Txt.islower
  rw [← Array.all_toList, ← Array.all_toList, ← Array.any_toList, ← Array.any_toList]
  have h0 : (decide (z.length > 0)) = true := decide_eq_true h
  rw [h0, Bool.true_and]
  generalize z.cps.toList = l at hl
  rw [Bool.eq_iff_iff]
  simp only [Bool.and_eq_true, List.all_eq_true, List.any_eq_true, decide_eq_true_eq, Bool.not_eq_true', List.any_eq_false]
  constructor
  · rintro ⟨h1, h2, h3, h4⟩ c hc
    have q := h2 c hc
    rw [cls_a c (h1 c hc)] at q
    have r := h4 c hc
    rw [cls_u c (h1 c hc)] at r
    simp only [Bool.or_eq_true, decide_eq_true_eq] at q r
    rcases q with q | q
    · exact absurd q r
    · exact q
  · intro q
    refine ⟨fun c hc => (az_lt (q c hc)).1, fun c hc => ?_, ?_, fun c hc => ?_⟩
    · rw [cls_a c (az_lt (q c hc)).1, q c hc, Bool.or_true]
    · cases l with
      | nil => simp at hl; omega
      | cons c r => exact ⟨c, List.mem_cons_self, by rw [cls_l c (az_lt (q c List.mem_cons_self)).1]; exact q c List.mem_cons_self⟩
    · have b := az_lt (q c hc)
      rw [cls_u c b.1, decide_eq_true_eq]
      omega
/-- a text that is short enough to be asked -/
def sh12 : D → Bool
  | .str s => PyData.strOk s && decide (s.length ≤ 12)
  | _ => true
theorem gs_sh {k : Nat} {d : D} (h : gs k d = true) : sh12 d = true := by
  cases d <;> first | rfl | (cases k <;> exact h)
theorem isname {d : D} (h : isPl d = true) (h2 : sh12 d = true) (μ : List Cell) : F_is_name [d] μ = some (.v (.bl (nameB d)), μ) := by
  apply to_eq
  unfold F_is_name g_is_name
  walk_at "dl"
  simp only [isiS h]
  cases d <;> first | (cases h; done) | skip
  all_goals (simp only [isStD]; walk_at "dl")
  all_goals first | (simp [nameB]; done) | skip
  rename_i z
  have hz : z.length ≤ sizeLine := by
    simp only [sh12, Bool.and_eq_true, decide_eq_true_eq] at h2
    exact Nat.le_trans h2.2 (by decide)
  refine ⟨hz, ?_⟩
  by_cases h1 : 1 ≤ z.length
  · by_cases h8 : z.length ≤ 8
    · have e1 : decide ((1 : Int) ≤ (z.length : Int)) = true := decide_eq_true (by omega)
      have e2 : decide ((z.length : Int) ≤ 8) = true := decide_eq_true (by omega)
      simp only [e1, e2]
      walk_at "dl"
      have ec := chars h1
      have en : nameB (.str z) = z.cps.toList.all az := by
        show nameS z = _
        unfold nameS
        rw [decide_eq_true h1, decide_eq_true h8, Bool.true_and, Bool.true_and]
      rw [en, ← ec]
      unfold dIsascii dIsalpha dIslower
      walk_at "dl"
      cases Txt.isascii z <;> cases Txt.isalpha z <;> (walk_at "dl" <;> simp)
    · have e1 : decide ((1 : Int) ≤ (z.length : Int)) = true := decide_eq_true (by omega)
      have e2 : decide ((z.length : Int) ≤ 8) = false := decide_eq_false (by omega)
      simp only [e1, e2]
      walk_at "dl"
      simp [nameB, nameS, h8]
  · have e1 : decide ((1 : Int) ≤ (z.length : Int)) = false := decide_eq_false (by omega)
    simp only [e1]
    walk_at "dl"
    simp [nameB, nameS, h1]
/-- a list against the empty one -/
theorem eqv_nil {k : Nat} {xs : List D} (h : ∀ x ∈ xs, gs k x = true) (hk : k ≤ 50) (μ : List Cell) : eqW (.lst xs) (.lst []) μ = some xs.isEmpty ∧ neW (.lst xs) (.lst []) μ = some (!xs.isEmpty) := by
  obtain ⟨ps, b⟩ := ims_of (k := k + 1) (g := wd k) fun x hx => gs_im k (h x hx)
  have hd := b.d
  have a : Im (k + 2) (1 + (xs.map fun x => wd k x + 1).sum) (.lst xs) (.list ps) := ⟨by simp only [toR, b.r, Option.map_some], by simp only [okX]; exact b.x, by simp only [PyData.showable]; exact b.s, by simp only [PyData.depth]; omega, by simp only [PyData.leavesShort]; exact b.l, by simp only [PyData.weight]; have := b.w; omega⟩
  have c : Im 1 1 (.lst []) (.list []) := ⟨by simp only [toR, toRs, Option.map_some], rfl, rfl, by simp only [PyData.depth, PyData.depthAll]; omega, rfl, by simp only [PyData.weight, PyData.weightAll]; omega⟩
  have e : PyData.eqv (.list ps) (.list []) = xs.isEmpty := by
    rw [PyData.eqv.eq_7]
    have r := b.r
    cases xs with
    | nil =>
      simp only [toRs, Option.some.injEq] at r
      subst r
      rfl
    | cons x xs =>
      simp only [toRs] at r
      split at r
      · cases r; rfl
      · cases r
  rw [← e]
  exact ⟨eqW_of a c rfl (by omega) (by omega), neW_of a c rfl (by omega) (by omega) fun h => by cases h⟩
theorem sLt1 (a b : Nat) : sLt ⟨#[a]⟩ ⟨#[b]⟩ = decide (a < b) := by
  unfold sLt
  simp [List.cons_lt_cons_iff]
theorem str_a : Str.ofString "a" = ⟨#[97]⟩ := by decide
theorem str_z : Str.ofString "z" = ⟨#[122]⟩ := by decide
abbrev sg (c : Nat) : D := .str ⟨#[c]⟩
theorem signs_filter (l : List Nat) (ρ : List (Option D)) (μ : List Cell) (hρ : ρ.length = 2) : WLc (bName 1) (fNot (fTru (fCh dLe dLe (fC (D.str ⟨#[97]⟩)) (fV 1) (fC (D.str ⟨#[122]⟩))))) (fV 1) ρ (l.map sg) μ fun xs μ' => xs = (l.filter fun c => !az c).map sg ∧ μ' = μ := by
  induction l with
  | nil => exact wlc_nil.mpr ⟨rfl, rfl⟩
  | cons c l ih =>
    obtain ⟨a, b, rfl⟩ : ∃ a b, ρ = [a, b] := by
      match ρ, hρ with
      | [a, b], _ => exact ⟨a, b, rfl⟩
    rw [List.map_cons, wlc_cons]
    walk_at "dl"
    simp only [sLt1]
    obtain ⟨xs, μ', e, rfl, rfl⟩ := ih
    cases h1 : decide (c < 97) with
    | true =>
      have hc : az c = false := by
        have := of_decide_eq_true h1
        unfold az
        rw [decide_eq_false (by omega), Bool.false_and]
      walk_at "dl"
      exact ⟨_, _, e, by simp [hc]⟩
    | false =>
      cases h2 : decide (122 < c) with
      | true =>
        have hc : az c = false := by
          have := of_decide_eq_true h2
          unfold az
          rw [decide_eq_false (show ¬ c ≤ 122 by omega), Bool.and_false]
        walk_at "dl"
        exact ⟨_, _, e, by simp [hc]⟩
      | false =>
        have hc : az c = true := by
          have a1 := of_decide_eq_false h1
          have a2 := of_decide_eq_false h2
          unfold az
          rw [decide_eq_true (by omega), decide_eq_true (by omega)]
          rfl
        walk_at "dl"
        exact ⟨_, _, e, by simp [hc]⟩
theorem all_filter (l : List Nat) : (l.filter fun c => !az c).isEmpty = l.all az := by
  rw [Bool.eq_iff_iff]
  simp
theorem strOk1 {c : Nat} (h : c < 0x110000) : PyData.strOk ⟨#[c]⟩ = true := by simp [PyData.strOk, h]
theorem lawword {d : D} (h : isPl d = true) (h2 : sh12 d = true) (μ : List Cell) : F__law_is_word [d] μ = some (.v (.bl (nameB d)), μ) := by
  apply to_eq
  unfold F__law_is_word g__law_is_word
  simp only [str_a, str_z]
  walk_at "dl"
  simp only [isiS h]
  cases d <;> first | (cases h; done) | skip
  all_goals (simp only [isStD]; walk_at "dl")
  all_goals first | (simp [nameB]; done) | skip
  rename_i z
  simp only [sh12, Bool.and_eq_true, decide_eq_true_eq] at h2
  have hz : z.length ≤ sizeLine := Nat.le_trans h2.2 (by decide)
  refine ⟨hz, ?_⟩
  by_cases h1 : 1 ≤ z.length
  · have e1 : decide ((1 : Int) ≤ (z.length : Int)) = true := decide_eq_true (by omega)
    by_cases h8 : z.length ≤ 8
    · have e2 : decide ((z.length : Int) ≤ 8) = true := decide_eq_true (by omega)
      simp only [e1, e2]
      walk_at "dl"
      obtain ⟨xs, μ', e, rfl, rfl⟩ := signs_filter z.cps.toList (wipeR [some (D.str z), none] [1]) μ rfl
      refine ⟨_, _, e, ?_, ?_⟩
      · rw [List.length_map]
        refine Nat.le_trans (List.length_filter_le _ _) ?_
        rw [Array.length_toList]
        exact hz
      refine ⟨by decide, ?_⟩
      have hg : ∀ x ∈ (z.cps.toList.filter fun c => !az c).map sg, gs 0 x = true := fun x hx => by
        obtain ⟨c, hc, rfl⟩ := List.mem_map.mp hx
        have h3 := (Array.all_eq_true_iff_forall_mem.mp h2.1) c (Array.mem_toList_iff.mp (List.mem_filter.mp hc).1)
        show (PyData.strOk ⟨#[c]⟩ && _) = true
        rw [strOk1 (by simpa using h3)]
        rfl
      rw [w2_of (by unfold dEqW; rw [(eqv_nil hg (by decide) _).1]; rfl)]
      rw [List.isEmpty_map, all_filter]
      simp [nameB, nameS, h1, h8]
    · have e2 : decide ((z.length : Int) ≤ 8) = false := decide_eq_false (by omega)
      simp only [e1, e2]
      walk_at "dl"
      simp [nameB, nameS, h8]
  · have e1 : decide ((1 : Int) ≤ (z.length : Int)) = false := decide_eq_false (by omega)
    simp only [e1]
    walk_at "dl"
    simp [nameB, nameS, h1]
end G
namespace G
open PySem L2 DL PySem.DLQ
local macro_rules | `(tactic| walk_at "dl") => `(tactic| simp only [wf_fn, ws_seq, ws_then, ws_drop, ws_nx, ws_bk, ws_ct, ws_ret, ws_if, ws_for, wb_name, wb_sub, wb_tup, wb_seq, wbs_nil, wbs_cons, cSet_iff, we_V, we_C, we_B, we_U, we_App, we_newC, we_call, we_AndV, we_OrV, we_IfE, we_Ch, we_Lc, we_Sl, we_Apn, we_Pop, we_ListC, wa_nil, wa_cons, wa_len, wa_star, wo_no, wo_part, isI_i, sl_tup, sl_lst,
  wl_1, wl_2, wl_lst, wl_tup, wt_Tru, wt_Not, wt_And, wt_Or, wt_true, wi_seq, wi_rng1, wi_zip, Nx_nx, Nx_rt, Nx_bk, Nx_ct, Nx_ex, Fe_rt, Fe_nx, Tn_nx, Tn_ct, Tn_bk, Tn_rt, Tn_ex,
  w2_addAI, w2_addAS, w2_addAT, w2_addAL, w2_addAH, w2_mulAI, w2_mulAT, w2_mulAL, w2_ltAI, w2_eqWI, w2_neWI, w2_neWN, w2_neWB, w2_eqWS, w2_neWS, w1_listT, w1_tupL, w1_lenH, w1_rev, w2_II, gSub_iff, gMod_iff, gFdiv_iff, gPow_iff, w1_neg, w2_ordI, w2_ordS, w2_is, w2_isNot, w2_ixL, w2_ixR, w2_ixT, w2_ixS, w2_ixH, w1_abs, w1_intI, w1_intB, w2_max, w2_min, w1_str, w1_lenS, w1_lenL, w1_lenR, w1_lenT, w1_type, w1_all, w1_not, w1_S0, w2_join, wtr_bl, asQ_tup, asQ_lst,
  List.map_cons, List.map_nil, List.cons_append, List.nil_append, List.replicate_succ, List.replicate_zero, List.getElem?_cons_zero, List.getElem?_cons_succ, List.set_cons_zero, List.set_cons_succ, List.length_cons, List.length_nil, Option.some.injEq, exists_eq_left', exists_eq_left, D.int.injEq, and_true, true_and, Nat.reduceAdd, Nat.reduceSub, Nat.reduceLT, Nat.lt_add_left_iff_pos, Nat.zero_lt_succ, List.length_replicate, List.length_append, List.length_map, List.cons.injEq, List.length_set, gSeq, decide_true, if_true, D.bl.injEq, Bool.not_true, Bool.not_false, Bool.false_eq_true, if_false, reduceCtorEq, false_and, or_false, false_or])
theorem cut_from {α : Type} (xs : List α) {i : Int} (h : 0 ≤ i) : cutD xs (some i) none = xs.drop i.toNat := by
  unfold cutD HT.sIx
  simp only
  rw [if_neg (by omega)]
  by_cases q : i.toNat ≤ xs.length
  · rw [Nat.min_eq_left q]
    exact List.take_of_length_le (by rw [List.length_drop]; omega)
  · rw [Nat.min_eq_right (by omega), List.drop_length, List.drop_eq_nil_of_le (by omega), List.take_nil]
theorem cut_to {α : Type} (xs : List α) {i : Int} (h : 0 ≤ i) : cutD xs none (some i) = xs.take i.toNat := by
  unfold cutD HT.sIx
  simp only
  rw [if_neg (by omega), Nat.sub_zero, List.drop_zero]
  by_cases q : i.toNat ≤ xs.length
  · rw [Nat.min_eq_left q]
  · rw [Nat.min_eq_right (by omega), List.take_length, List.take_of_length_le (by omega)]
section
variable {b : Bd} {t : EvT} {fa : EvE} {ρ : List (Option D)} {μ : List Cell} {g : EvS} {P : D → List Cell → Prop}
theorem wlc_filter {i : Nat} {p : D → Bool} (hi : i < ρ.length) : ∀ {ds : List D}, (∀ d ∈ ds, WT t ⟨ρ.set i (some d), μ⟩ fun k μ' => k = p d ∧ μ' = μ) → WLc (bName i) t (fV i) ρ ds μ fun xs μ' => xs = ds.filter p ∧ μ' = μ
  | [], _ => wlc_nil.mpr ⟨rfl, rfl⟩
  | d :: ds, h => by
    obtain ⟨k, μ1, e1, ek, em⟩ := h d List.mem_cons_self
    obtain ⟨xs, μ2, e2, ex, em2⟩ := wlc_filter hi fun x hx => h x (List.mem_cons_of_mem _ hx)
    subst ek ex
    obtain rfl := em.symm
    obtain rfl := em2.symm
    rw [wlc_cons, wb_name]
    refine ⟨hi, p d, _, e1, ?_⟩
    cases hp : p d with
    | true =>
      rw [if_pos rfl, we_V]
      exact ⟨d, List.getElem?_set_self hi, _, _, e2, by rw [List.filter_cons_of_pos hp], rfl⟩
    | false =>
      rw [if_neg Bool.false_ne_true]
      exact ⟨_, _, e2, by rw [List.filter_cons_of_neg (by simp [hp])], rfl⟩
theorem wlc_map {q : D → D} : ∀ {ds : List D}, (∀ d ∈ ds, WB b d ⟨ρ, μ⟩ fun S1 => WE fa ⟨S1.ρ, S1.μ⟩ fun x μ' => x = q d ∧ μ' = μ) → WLc b (fun S => some (true, S.μ)) fa ρ ds μ fun xs μ' => xs = ds.map q ∧ μ' = μ
  | [], _ => wlc_nil.mpr ⟨rfl, rfl⟩
  | d :: ds, h => by
    obtain ⟨S1, e0, x, μ1, e1, ek, em⟩ := h d List.mem_cons_self
    obtain ⟨xs, μ2, e2, ex, em2⟩ := wlc_map fun x hx => h x (List.mem_cons_of_mem _ hx)
    subst ek ex
    obtain rfl := em.symm
    obtain rfl := em2.symm
    rw [wlc_cons]
    exact ⟨S1, e0, true, _, rfl, iteT ⟨_, _, e1, _, _, e2, rfl, rfl⟩⟩
theorem ws_forAll {i : Nat} {p : D → Bool} {U : Fl → Sg → Prop} (hi : i < ρ.length) : ∀ {ds : List D} (v : Option D), (∀ d ∈ ds, WS g ⟨ρ.set i (some d), μ⟩ fun fl S' => (p d = true ∧ fl = .nx ∧ S' = ⟨ρ.set i (some d), μ⟩) ∨ (p d = false ∧ fl = .rt (.bl false) ∧ S'.μ = μ)) →
    (ds.all p = true → ∀ v, U .nx ⟨ρ.set i v, μ⟩) → (ds.all p = false → ∀ S', S'.μ = μ → U (.rt (.bl false)) S') → WS (forL (bName i) g ds) ⟨ρ.set i v, μ⟩ U
  | [], v, _, h1, _ => ws_forNil.mpr (h1 rfl v)
  | d :: ds, v, h, h1, h2 => by
    obtain ⟨fl, S1, e1, q⟩ := h d List.mem_cons_self
    rw [ws_forCons, wb_name, List.set_set]
    refine ⟨by rw [List.length_set]; exact hi, fl, S1, e1, ?_⟩
    rcases q with ⟨hp, rfl, rfl⟩ | ⟨hp, rfl, hm⟩
    · exact ws_forAll hi (some d) (fun x hx => h x (List.mem_cons_of_mem _ hx)) (fun a => h1 (by rw [List.all_cons, hp, a]; rfl)) fun a => h2 (by rw [List.all_cons, hp, a]; rfl)
    · exact h2 (by rw [List.all_cons, hp]; rfl) S1 hm
theorem we_SortSet : WE (fSortSet fa) ⟨ρ, μ⟩ P ↔ WE fa ⟨ρ, μ⟩ fun x μ1 => ∃ xs ns, x = .tup xs ∧ intsOf xs = some ns ∧ ns.length < 64 ∧ P (.lst ((sortU ns).map D.int)) μ1 := by
  constructor
  · rintro ⟨d, μ', e, p⟩
    unfold fSortSet at e
    split at e
    · rename_i xs μ1 ea
      split at e
      · rename_i ns en
        split at e
        · rename_i h
          obtain ⟨rfl, rfl⟩ := pr_inj e
          exact ⟨_, _, ea, xs, ns, rfl, en, h, p⟩
        · cases e
      · cases e
    · cases e
  · rintro ⟨x, μ1, ea, xs, ns, rfl, en, h, p⟩
    exact ⟨_, μ1, by unfold fSortSet; rw [ea]; simp only; rw [en]; simp only; rw [if_pos h], p⟩
theorem we_SortSetP : WE (fSortSetP fa) ⟨ρ, μ⟩ P ↔ WE fa ⟨ρ, μ⟩ fun x μ1 => ∃ xs ps, asQ x μ1 = some xs ∧ pairsOf xs = some ps ∧ ps.length < 64 ∧ P (.lst ((sortP ps).map pD)) μ1 := by
  constructor
  · rintro ⟨d, μ', e, p⟩
    unfold fSortSetP at e
    split at e
    · rename_i x μ1 ea
      split at e
      · rename_i xs eq
        split at e
        · rename_i ns en
          split at e
          · rename_i h
            obtain ⟨rfl, rfl⟩ := pr_inj e
            exact ⟨_, _, ea, xs, ns, eq, en, h, p⟩
          · cases e
        · cases e
      · cases e
    · cases e
  · rintro ⟨x, μ1, ea, xs, ns, eq, en, h, p⟩
    exact ⟨_, μ1, by unfold fSortSetP; rw [ea]; simp only; rw [eq]; simp only; rw [en]; simp only; rw [if_pos h], p⟩
end
/-! sets of modes -/
def inD : D → Int
  | .int i => i
  | _ => 0
def setB (t : Int) (xs : List D) : Bool := !xs.isEmpty && xs.all (numD t) && decide ((xs.map inD).Pairwise (· < ·))
def setD (t : Int) : D → Bool
  | .tup xs => setB t xs
  | _ => false
theorem nums {t : Int} : ∀ {xs : List D}, xs.all (numD t) = true → ∃ zs : List Int, xs = zs.map D.int ∧ xs.map inD = zs ∧ ∀ z ∈ zs, 0 ≤ z ∧ z < t
  | [], _ => ⟨[], rfl, rfl, by simp⟩
  | d :: xs, h => by
    rw [List.all_cons, Bool.and_eq_true] at h
    obtain ⟨zs, rfl, e, hz⟩ := nums h.2
    cases d <;> first | (cases h.1; done) | skip
    rename_i i
    exact ⟨i :: zs, rfl, by simp only [List.map_cons, inD, e], fun z hz' => (List.mem_cons.mp hz').elim (fun q => q ▸ of_decide_eq_true h.1) (hz z)⟩
theorem toRs_ints : ∀ zs : List Int, toRs (zs.map D.int) = some (zs.map PyData.int)
  | [] => by simp only [List.map_nil, toRs]
  | z :: zs => by simp only [List.map_cons, toRs, toR, toRs_ints zs]
theorem lay_ints : ∀ zs : List Int, PyData.canLayAll0 (zs.map PyData.int) = true
  | [] => rfl
  | z :: zs => by simp only [List.map_cons, PyData.canLayAll0, lay_ints zs]; rfl
theorem eqv_ints : ∀ zs ws : List Int, PyData.eqvAll (zs.map .int) (ws.map .int) = decide (zs = ws)
  | [], [] => rfl
  | [], w :: ws => by simp [PyData.eqvAll]
  | z :: zs, [] => by simp [PyData.eqvAll]
  | z :: zs, w :: ws => by
    rw [List.map_cons, List.map_cons, PyData.eqvAll.eq_2, eqv_ints zs ws, PyData.eqv.eq_5]
    simp only [List.cons.injEq, Bool.decide_and]
    rfl
theorem eqW_ints (zs ws : List Int) (μ : List Cell) : eqW (.lst (zs.map D.int)) (.lst (ws.map D.int)) μ = some (decide (zs = ws)) := by
  have e := eqP_of (μ := μ) (d := .lst (zs.map D.int)) (e := .lst (ws.map D.int)) (p := .list (zs.map .int)) (q := .list (ws.map .int)) (by simp only [toR, toRs_ints, Option.map_some]) (by simp only [toR, toRs_ints, Option.map_some]) (by simp only [PyData.canLay0]; exact lay_ints zs) (by simp only [PyData.canLay0]; exact lay_ints ws) (by simp only [PyData.depth, DL.depth_ints]; omega) (by simp only [PyData.depth, DL.depth_ints]; omega)
  unfold eqW
  rw [e, PyData.eqv.eq_7, eqv_ints]
  rfl
theorem sortU_eq (zs : List Int) : decide (zs = sortU zs) = decide (zs.Pairwise (· < ·)) := by
  refine decide_eq_decide.mpr ⟨fun h => ?_, fun h => pw_eq h (pw_sortU zs) fun k => mem_sortU.symm⟩
  rw [h]
  exact pw_sortU zs
/-- a tuple against the empty one -/
theorem eqv_nilT {k : Nat} {xs : List D} (h : ∀ x ∈ xs, gs k x = true) (hk : k ≤ 50) (μ : List Cell) : eqW (.tup xs) (.tup []) μ = some xs.isEmpty ∧ neW (.tup xs) (.tup []) μ = some (!xs.isEmpty) := by
  obtain ⟨ps, b⟩ := ims_of (k := k + 1) (g := wd k) fun x hx => gs_im k (h x hx)
  have hd := b.d
  have a : Im (k + 2) (1 + (xs.map fun x => wd k x + 1).sum) (.tup xs) (.tuple ps) := ⟨by simp only [toR, b.r, Option.map_some], by simp only [okX]; exact b.x, by simp only [PyData.showable]; exact b.s, by simp only [PyData.depth]; omega, by simp only [PyData.leavesShort]; exact b.l, by simp only [PyData.weight]; have := b.w; omega⟩
  have c : Im 1 1 (.tup []) (.tuple []) := ⟨by simp only [toR, toRs, Option.map_some], rfl, rfl, by simp only [PyData.depth, PyData.depthAll]; omega, rfl, by simp only [PyData.weight, PyData.weightAll]; omega⟩
  have e : PyData.eqv (.tuple ps) (.tuple []) = xs.isEmpty := by
    rw [PyData.eqv.eq_8]
    have r := b.r
    cases xs with
    | nil =>
      simp only [toRs, Option.some.injEq] at r
      subst r
      rfl
    | cons x xs =>
      simp only [toRs] at r
      split at r
      · cases r; rfl
      · cases r
  rw [← e]
  exact ⟨eqW_of a c rfl (by omega) (by omega), neW_of a c rfl (by omega) (by omega) fun h => by cases h⟩
theorem gs_tup {k : Nat} {xs : List D} (h : gs k (.tup xs) = true) : ∃ k', k = k' + 1 ∧ xs.length ≤ 40 ∧ ∀ x ∈ xs, gs k' x = true := by
  cases k with
  | zero => cases h
  | succ k =>
    simp only [gs, Bool.and_eq_true, List.all_eq_true, decide_eq_true_eq] at h
    exact ⟨k, rfl, h⟩
theorem filter_emp {p : D → Bool} (xs : List D) : (xs.filter fun d => !p d).isEmpty = xs.all p := by
  rw [Bool.eq_iff_iff]
  simp
theorem lawset {k : Nat} {d : D} {t : Int} (h : gs k d = true) (hk : k ≤ 50) (μ : List Cell) : F__law_is_set [d, .int t] μ = some (.v (.bl (setD t d)), μ) := by
  apply to_eq
  have hp := gs_pl h
  unfold F__law_is_set g__law_is_set
  walk_at "dl"
  simp only [isiT hp]
  cases d <;> first | (cases hp; done) | skip
  all_goals (simp only [isTupD]; walk_at "dl")
  all_goals first | rfl | skip
  · rename_i xs
    obtain ⟨k', rfl, hl, hx⟩ := gs_tup h
    refine ⟨by decide, ?_⟩
    rw [w2_of (by unfold dEqW; rw [(eqv_nilT hx (by omega) _).1]; rfl)]
    walk_at "dl"
    cases he : xs.isEmpty with
    | true => walk_at "dl"; simp [setD, setB, he]
    | false =>
      walk_at "dl"
      obtain ⟨ys, μ', e, rfl, rfl⟩ := wlc_filter (t := fNot (fTru (fCall F__law_is_number (fLen 2 (fCons (fV 2) (fCons (fV 1) fNil)))))) (i := 2) (p := fun d => !numD t d) (ρ := wipeR [some (D.tup xs), some (D.int t), none] [2]) (μ := μ) (Nat.lt_of_sub_pos (Nat.zero_lt_succ 0)) (ds := xs) fun d hd => by
        simp only [wipeR]
        walk_at "dl"
        rw [wf_eq (lawnum (gs_pl (hx d hd)))]
        walk_at "dl"
      refine ⟨_, _, e, ?_, ?_⟩
      · exact Nat.le_trans (List.length_filter_le _ _) (Nat.le_trans hl (by decide))
      refine ⟨by decide, ?_⟩
      rw [w2_of (by unfold dNeW; rw [(eqv_nil (k := k') (fun x hx' => hx x (List.mem_filter.mp hx').1) (by omega) _).2]; rfl)]
      rw [filter_emp]
      walk_at "dl"
      cases ha : xs.all (numD t) with
      | false => walk_at "dl"; simp [setD, setB, ha]
      | true =>
        walk_at "dl"
        simp only [we_SortSet]
        walk_at "dl"
        obtain ⟨zs, rfl, ez, hz⟩ := nums ha
        refine ⟨_, zs, rfl, intsOf_map zs, by rw [List.length_map] at hl; omega, ?_⟩
        rw [w2_of (by unfold dEqW; rw [eqW_ints]; rfl)]
        rw [sortU_eq]
        simp [setD, setB, ha, ez, he]
/-- .. by the program -/
def ok1 (l : Int) : List D → Bool
  | [] => true
  | .int i :: r => decide (l < i) && ok1 i r
  | _ :: _ => false
def lastD (l : Int) : List D → Int
  | [] => l
  | .int i :: r => lastD i r
  | _ :: _ => l
theorem ok1_iff {t : Int} : ∀ {xs : List D} {l : Int}, l < t → ((ok1 l xs = true ∧ lastD l xs < t) ↔ (xs.all (fun d => match d with | .int i => decide (l < i ∧ i < t) | _ => false) = true ∧ (xs.map inD).Pairwise (· < ·)))
  | [], l, h => by simp [ok1, lastD, h]
  | d :: xs, l, h => by
    cases d <;> first | (simp [ok1]; done) | skip
    rename_i i
    simp only [ok1, lastD, Bool.and_eq_true, decide_eq_true_eq, List.all_cons, List.map_cons, inD, List.pairwise_cons]
    by_cases hi : l < i
    · by_cases ht : i < t
      · have ih := ok1_iff (xs := xs) ht
        constructor
        · rintro ⟨⟨_, h1⟩, h2⟩
          obtain ⟨h3, h4⟩ := ih.mp ⟨h1, h2⟩
          rw [List.all_eq_true] at h3
          refine ⟨⟨⟨hi, ht⟩, List.all_eq_true.mpr fun x hx => ?_⟩, fun y hy => ?_, h4⟩
          · have := h3 x hx
            cases x <;> first | (cases this; done) | skip
            rename_i j
            have := of_decide_eq_true this
            exact decide_eq_true ⟨by omega, this.2⟩
          · obtain ⟨x, hx, rfl⟩ := List.mem_map.mp hy
            have := h3 x hx
            cases x <;> first | (cases this; done) | skip
            exact (of_decide_eq_true this).1
        · rintro ⟨⟨_, h1⟩, h2, h3⟩
          rw [List.all_eq_true] at h1
          obtain ⟨h4, h5⟩ := ih.mpr ⟨List.all_eq_true.mpr fun x hx => by
            have q := h1 x hx
            have r := h2 _ (List.mem_map_of_mem (f := inD) hx)
            cases x <;> first | (cases q; done) | skip
            exact decide_eq_true ⟨r, (of_decide_eq_true q).2⟩, h3⟩
          exact ⟨⟨hi, h4⟩, h5⟩
      · constructor
        · rintro ⟨⟨_, h1⟩, h2⟩
          exfalso
          have mono : ∀ (xs : List D) (l : Int), ok1 l xs = true → l ≤ lastD l xs := by
            intro xs
            induction xs with
            | nil => intro l _; exact Int.le_refl _
            | cons d xs ih =>
              intro l h
              cases d <;> first | (cases h; done) | skip
              simp only [ok1, Bool.and_eq_true, decide_eq_true_eq] at h
              have := ih _ h.2
              simp only [lastD]
              omega
          have := mono xs i h1
          omega
        · rintro ⟨⟨⟨_, h1⟩, _⟩, _⟩
          omega
    · constructor
      · rintro ⟨⟨h1, _⟩, _⟩
        exact absurd h1 hi
      · rintro ⟨⟨⟨h1, _⟩, _⟩, _⟩
        exact absurd h1 hi
theorem asc_loop {a : Option D} {t : Int} {k : Nat} {U : Fl → Sg → Prop} {μ : List Cell} : ∀ {xs : List D} (l : Int) (v : Option D), (∀ x ∈ xs, gs k x = true) →
    (ok1 l xs = true → ∀ v, U .nx ⟨[a, some (.int t), some (.int (lastD l xs)), v], μ⟩) → (ok1 l xs = false → ∀ S', S'.μ = μ → U (.rt (.bl false)) S') →
    WS (forL (bName 3) (sSeq (sIf (fOr (fTru (fB dIsNot (fApp (g1 dType) (fCons (fV 3) fNil)) (fC (.ty "int")))) (fTru (fB dLe (fV 3) (fV 2)))) (sRet (fC (.bl false))) sNx) (bThen (bName 2) (fV 3))) xs) ⟨[a, some (.int t), some (.int l), v], μ⟩ U
  | [], l, v, _, h1, _ => ws_forNil.mpr (h1 rfl v)
  | d :: xs, l, v, hx, h1, h2 => by
    have hp := gs_pl (hx d List.mem_cons_self)
    rw [ws_forCons]
    walk_at "dl"
    cases d <;> first | (cases hp; done) | skip
    all_goals (simp only [tyOf, Option.some.injEq, exists_eq_left', isB]; (try walk_at "dl"))
    all_goals first | (refine h2 rfl _ rfl) | (simp; refine h2 rfl _ rfl) | skip
    rename_i i
    cases hi : decide (i ≤ l) with
    | true =>
      have := of_decide_eq_true hi
      simp
      refine h2 (by simp only [ok1]; rw [decide_eq_false (by omega)]; rfl) _ rfl
    | false =>
      have := of_decide_eq_false hi
      simp
      have el : decide (l < i) = true := decide_eq_true (by omega)
      exact asc_loop i _ (fun x h => hx x (List.mem_cons_of_mem _ h)) (fun a => h1 (by simp only [ok1, el, a]; rfl)) fun a => h2 (by simp only [ok1, el, a]; rfl)
theorem ascbelow {k : Nat} {d : D} {t : Int} (h : gs k d = true) (ht : 0 < t) (μ : List Cell) : F_is_ascending_below [d, .int t] μ = some (.v (.bl (match d with | .tup xs => xs.all (numD t) && decide ((xs.map inD).Pairwise (· < ·)) | _ => false)), μ) := by
  apply to_eq
  have hp := gs_pl h
  unfold F_is_ascending_below g_is_ascending_below
  walk_at "dl"
  simp only [isiT hp]
  cases d <;> first | (cases hp; done) | skip
  all_goals (simp only [isTupD]; walk_at "dl")
  rename_i xs
  obtain ⟨k', rfl, hl, hx⟩ := gs_tup h
  have key := ok1_iff (xs := xs) (t := t) (l := -1) (by omega)
  have e : (xs.all (fun d => match d with | .int i => decide (-1 < i ∧ i < t) | _ => false)) = xs.all (numD t) := by
    refine congrArg (fun f => xs.all f) (funext fun d => ?_)
    cases d <;> rfl
  rw [e] at key
  refine asc_loop (k := k') (-1) _ hx (fun h1 v => ?_) fun h1 S' hm => ?_
  · walk_at "dl"
    rw [Bool.eq_iff_iff, decide_eq_true_eq, Bool.and_eq_true, decide_eq_true_eq, ← key]
    exact ⟨fun q => ⟨h1, q⟩, fun q => q.2⟩
  · show _ ∧ _
    refine ⟨?_, hm⟩
    congr 1
    symm
    rw [Bool.eq_false_iff]
    intro q
    rw [Bool.and_eq_true, decide_eq_true_eq, ← key, h1] at q
    cases q.1
theorem modeset {k : Nat} {d : D} {t : Int} (h : gs k d = true) (ht : 0 < t) (μ : List Cell) : F_is_mode_set [d, .int t] μ = some (.v (.bl (setD t d)), μ) := by
  apply to_eq
  have hp := gs_pl h
  unfold F_is_mode_set g_is_mode_set
  walk_at "dl"
  rw [wf_eq (ascbelow h ht μ)]
  walk_at "dl"
  cases d <;> first | (cases hp; done) | skip
  all_goals first | (walk_at "dl"; simp [setD]; done) | skip
  rename_i xs
  walk_at "dl"
  cases ha : (xs.all (numD t) && decide ((xs.map inD).Pairwise (· < ·))) with
  | false =>
    walk_at "dl"
    simp only [setD, setB, Bool.and_assoc, ha, Bool.and_false]
  | true =>
    walk_at "dl"
    simp only [setD, setB, Bool.and_assoc, ha, Bool.and_true]
    cases xs <;> simp <;> omega
end G
namespace G
open PySem L2 DL PySem.DLQ
local macro_rules | `(tactic| walk_at "dl") => `(tactic| simp only [wf_fn, ws_seq, ws_then, ws_drop, ws_nx, ws_bk, ws_ct, ws_ret, ws_if, ws_for, wb_name, wb_sub, wb_tup, wb_seq, wbs_nil, wbs_cons, cSet_iff, we_V, we_C, we_B, we_U, we_App, we_newC, we_call, we_AndV, we_OrV, we_IfE, we_Ch, we_Lc, we_Sl, we_Apn, we_Pop, we_ListC, wa_nil, wa_cons, wa_len, wa_star, wo_no, wo_part, isI_i, sl_tup, sl_lst,
  wl_1, wl_2, wl_lst, wl_tup, wt_Tru, wt_Not, wt_And, wt_Or, wt_true, wi_seq, wi_rng1, wi_zip, Nx_nx, Nx_rt, Nx_bk, Nx_ct, Nx_ex, Fe_rt, Fe_nx, Tn_nx, Tn_ct, Tn_bk, Tn_rt, Tn_ex,
  w2_addAI, w2_addAS, w2_addAT, w2_addAL, w2_addAH, w2_mulAI, w2_mulAT, w2_mulAL, w2_ltAI, w2_eqWI, w2_neWI, w2_neWN, w2_neWB, w2_eqWS, w2_neWS, w1_listT, w1_tupL, w1_lenH, w1_rev, w2_II, gSub_iff, gMod_iff, gFdiv_iff, gPow_iff, w1_neg, w2_ordI, w2_ordS, w2_is, w2_isNot, w2_ixL, w2_ixR, w2_ixT, w2_ixS, w2_ixH, w1_abs, w1_intI, w1_intB, w2_max, w2_min, w1_str, w1_lenS, w1_lenL, w1_lenR, w1_lenT, w1_type, w1_all, w1_not, w1_S0, w2_join, wtr_bl, asQ_tup, asQ_lst,
  List.map_cons, List.map_nil, List.cons_append, List.nil_append, List.replicate_succ, List.replicate_zero, List.getElem?_cons_zero, List.getElem?_cons_succ, List.set_cons_zero, List.set_cons_succ, List.length_cons, List.length_nil, Option.some.injEq, exists_eq_left', exists_eq_left, D.int.injEq, and_true, true_and, Nat.reduceAdd, Nat.reduceSub, Nat.reduceLT, Nat.lt_add_left_iff_pos, Nat.zero_lt_succ, List.length_replicate, List.length_append, List.length_map, List.cons.injEq, List.length_set, gSeq, decide_true, if_true, D.bl.injEq, Bool.not_true, Bool.not_false, Bool.false_eq_true, if_false, reduceCtorEq, false_and, or_false, false_or])
def pairB : D → Bool
  | .tup [x, y] => numD 6 x && numD 6 y
  | _ => false
def cdD : D → Int
  | .tup [.int a, .int b] => cdP (a, b)
  | _ => 0
def pairsB (xs : List D) : Bool := !xs.isEmpty && xs.all pairB && decide ((xs.map cdD).Pairwise (· < ·))
def pairsD : D → Bool
  | .tup xs => pairsB xs
  | _ => false
def okQ (p : Int × Int) : Prop := (0 ≤ p.1 ∧ p.1 < 6) ∧ 0 ≤ p.2 ∧ p.2 < 6
theorem okQ.p {p : Int × Int} (h : okQ p) : okP p := by
  obtain ⟨⟨a, b⟩, c, d⟩ := h
  exact ⟨a, by omega, c, by omega⟩
theorem pair_out {d : D} (h : pairB d = true) : ∃ p, d = pD p ∧ okQ p := by
  unfold pairB at h
  split at h
  · rename_i x y
    rw [Bool.and_eq_true] at h
    cases x <;> first | (cases h.1; done) | skip
    cases y <;> first | (cases h.2; done) | skip
    rename_i i j
    exact ⟨(i, j), rfl, of_decide_eq_true h.1, of_decide_eq_true h.2⟩
  · cases h
theorem prs : ∀ {xs : List D}, xs.all pairB = true → ∃ ps : List (Int × Int), xs = ps.map pD ∧ xs.map cdD = ps.map cdP ∧ ∀ p ∈ ps, okQ p
  | [], _ => ⟨[], rfl, rfl, by simp⟩
  | d :: xs, h => by
    rw [List.all_cons, Bool.and_eq_true] at h
    obtain ⟨p, rfl, hp⟩ := pair_out h.1
    obtain ⟨ps, rfl, e, hz⟩ := prs h.2
    exact ⟨p :: ps, rfl, by rw [List.map_cons, e]; rfl, fun z hz' => (List.mem_cons.mp hz').elim (fun q => q ▸ hp) (hz z)⟩
theorem pairsOf_map : ∀ {ps : List (Int × Int)}, (∀ p ∈ ps, okP p) → pairsOf (ps.map pD) = some ps
  | [], _ => rfl
  | p :: ps, h => by
    have e : pairOf (pD p) = some p := if_pos (h p List.mem_cons_self)
    rw [List.map_cons]
    unfold pairsOf
    rw [e, pairsOf_map fun q hq => h q (List.mem_cons_of_mem _ hq)]
abbrev pP (p : Int × Int) : PyData := .tuple [.int p.1, .int p.2]
theorem toRs_prs : ∀ ps : List (Int × Int), toRs (ps.map pD) = some (ps.map pP)
  | [] => by simp only [List.map_nil, toRs]
  | p :: ps => by simp only [List.map_cons, toRs, toR, toRs_prs ps, pD, Option.map_some]
theorem lay_prs : ∀ ps : List (Int × Int), PyData.canLayAll0 (ps.map pP) = true
  | [] => rfl
  | p :: ps => by simp only [List.map_cons, PyData.canLayAll0, lay_prs ps]; rfl
theorem depth_prs : ∀ ps : List (Int × Int), PyData.depthAll (ps.map pP) ≤ 1
  | [] => by simp [PyData.depthAll]
  | p :: ps => by
    have := depth_prs ps
    simp only [List.map_cons, PyData.depthAll, PyData.depth]
    omega
theorem eqv_prs : ∀ zs ws : List (Int × Int), PyData.eqvAll (zs.map pP) (ws.map pP) = decide (zs = ws)
  | [], [] => rfl
  | [], w :: ws => by simp [PyData.eqvAll]
  | z :: zs, [] => by simp [PyData.eqvAll]
  | z :: zs, w :: ws => by
    rw [List.map_cons, List.map_cons, PyData.eqvAll.eq_2, eqv_prs zs ws, PyData.eqv.eq_8]
    simp only [PyData.eqvAll, PyData.eqv.eq_5, List.cons.injEq, Bool.decide_and]
    obtain ⟨a, b⟩ := z
    obtain ⟨c, d⟩ := w
    rw [Bool.eq_iff_iff]
    simp [Prod.ext_iff, and_assoc]
theorem eqW_prs (zs ws : List (Int × Int)) (μ : List Cell) : eqW (.lst (zs.map pD)) (.lst (ws.map pD)) μ = some (decide (zs = ws)) := by
  have h1 := depth_prs zs
  have h2 := depth_prs ws
  have e := eqP_of (μ := μ) (d := .lst (zs.map pD)) (e := .lst (ws.map pD)) (p := .list (zs.map pP)) (q := .list (ws.map pP)) (by simp only [toR, toRs_prs, Option.map_some]) (by simp only [toR, toRs_prs, Option.map_some]) (by simp only [PyData.canLay0]; exact lay_prs zs) (by simp only [PyData.canLay0]; exact lay_prs ws) (by simp only [PyData.depth]; omega) (by simp only [PyData.depth]; omega)
  unfold eqW
  rw [e, PyData.eqv.eq_7, eqv_prs]
  rfl
theorem sortP_eq {ps : List (Int × Int)} (h : ∀ p ∈ ps, okP p) : decide (ps = sortP ps) = decide ((ps.map cdP).Pairwise (· < ·)) := by
  refine decide_eq_decide.mpr ⟨fun e => ?_, fun e => ?_⟩
  · have e2 : ps.map cdP = sortU (ps.map cdP) := by
      have e3 : (sortP ps).map cdP = sortU (ps.map cdP) := by
        unfold sortP
        rw [List.map_map]
        refine (List.map_congr_left fun c hc => ?_).trans (List.map_id _)
        obtain ⟨p, hp, rfl⟩ := List.mem_map.mp (mem_sortU.mp hc)
        show cdP (unP (cdP p)) = cdP p
        rw [un_cd (h p hp)]
      rw [← e3, ← e]
    rw [e2]
    exact pw_sortU _
  · have e2 : ps.map cdP = sortU (ps.map cdP) := pw_eq e (pw_sortU _) fun k => mem_sortU.symm
    unfold sortP
    rw [← e2, List.map_map]
    symm
    refine (List.map_congr_left fun p hp => ?_).trans (List.map_id _)
    exact un_cd (h p hp)
theorem lawpairs {k : Nat} {d : D} (h : gs k d = true) (hk : k ≤ 50) (μ : List Cell) : F__law_is_pairs [d, .int 6] μ = some (.v (.bl (pairsD d)), μ) := by
  apply to_eq
  have hp := gs_pl h
  unfold F__law_is_pairs g__law_is_pairs
  walk_at "dl"
  simp only [isiT hp]
  cases d <;> first | (cases hp; done) | skip
  all_goals (simp only [isTupD]; walk_at "dl")
  all_goals first | rfl | skip
  rename_i xs
  obtain ⟨k', rfl, hl, hx⟩ := gs_tup h
  refine ⟨by decide, ?_⟩
  rw [w2_of (by unfold dEqW; rw [(eqv_nilT hx (by omega) _).1]; rfl)]
  walk_at "dl"
  cases he : xs.isEmpty with
  | true => walk_at "dl"; simp [pairsD, pairsB, he]
  | false =>
    walk_at "dl"
    refine ws_forAll (i := 2) (ρ := [some (D.tup xs), some (D.int 6), none]) (p := pairB) (Nat.lt_of_sub_pos (Nat.zero_lt_succ 0)) none (fun d hd => ?_) (fun ha v => ?_) fun ha S' hm => ?_
    · have hg := hx d hd
      have hpd := gs_pl hg
      walk_at "dl"
      simp only [isiT hpd]
      cases d <;> first | (cases hpd; done) | skip
      all_goals (simp only [isTupD]; walk_at "dl")
      all_goals first | (simp [pairB]; done) | skip
      rename_i ys
      obtain ⟨k2, rfl, _, hy⟩ := gs_tup hg
      match ys, hy with
      | [], _ => walk_at "dl"; simp [pairB]
      | [x], _ => walk_at "dl"; simp [pairB]
      | [x, y], hy =>
        have p1 := gs_pl (hy x (by simp))
        have p2 := gs_pl (hy y (by simp))
        walk_at "dl"
        simp only [at0, at1, Option.some.injEq, exists_eq_left', wf_eq (lawnum (t := 6) p1), wf_eq (lawnum (t := 6) p2)]
        simp only [Nat.zero_add, Nat.reduceAdd, show ((2 : Nat) : Int) = 2 from rfl, decide_true, Bool.not_true, Bool.false_eq_true, if_false]
        simp only [pairB]
        cases numD 6 x <;> cases numD 6 y <;> simp [wtr_bl]
      | x :: y :: z :: r, _ =>
        walk_at "dl"
        have e : ¬ ((r.length : Int) + 1 + 1 + 1 = 2) := by omega
        simp [e, pairB]
    · walk_at "dl"
      simp only [we_SortSetP]
      walk_at "dl"
      obtain ⟨ps, rfl, ez, hz⟩ := prs ha
      refine ⟨_, ps, rfl, pairsOf_map fun p hp => (hz p hp).p, by rw [List.length_map] at hl; omega, ?_⟩
      rw [w2_of (by unfold dEqW; rw [eqW_prs]; rfl)]
      rw [sortP_eq fun p hp => (hz p hp).p]
      simp [pairsD, pairsB, ha, ez, he]
    · show _ ∧ _
      refine ⟨?_, hm⟩
      simp [pairsD, pairsB, ha]
/-! .. by the program -/
theorem ispair {k : Nat} {d : D} (h : gs k d = true) (μ : List Cell) : F__is_pair [d] μ = some (.v (.bl (pairB d)), μ) := by
  apply to_eq
  have hp := gs_pl h
  unfold F__is_pair g__is_pair
  walk_at "dl"
  simp only [isiT hp]
  cases d <;> first | (cases hp; done) | skip
  all_goals (simp only [isTupD]; walk_at "dl")
  all_goals first | rfl | skip
  rename_i ys
  obtain ⟨k2, rfl, _, hy⟩ := gs_tup h
  match ys, hy with
  | [], _ => walk_at "dl"; simp [pairB]
  | [x], _ => walk_at "dl"; simp [pairB]
  | [x, y], hy =>
    have p1 := gs_pl (hy x (by simp))
    have p2 := gs_pl (hy y (by simp))
    walk_at "dl"
    simp only [at0, at1, Option.some.injEq, exists_eq_left', wf_eq (wholeN (t := 6) p1), wf_eq (wholeN (t := 6) p2)]
    simp only [Nat.zero_add, Nat.reduceAdd, show ((2 : Nat) : Int) = 2 from rfl, decide_true, Bool.not_true, Bool.false_eq_true, if_false]
    walk_at "dl"
    simp only [pairB]
    cases numD 6 x <;> simp
  | x :: y :: z :: r, _ =>
    walk_at "dl"
    have e : ¬ ((r.length : Int) + 1 + 1 + 1 = 2) := by omega
    simp [e, pairB]
def allLt : List Int → Bool
  | a :: b :: r => decide (a < b) && allLt (b :: r)
  | _ => true
theorem allLt_eq : ∀ zs : List Int, allLt zs = decide (zs.Pairwise (· < ·))
  | [] => by simp [allLt]
  | [a] => by simp [allLt]
  | a :: b :: r => by
    unfold allLt
    rw [allLt_eq (b :: r), Bool.eq_iff_iff, Bool.and_eq_true, decide_eq_true_eq, decide_eq_true_eq, decide_eq_true_eq, List.pairwise_cons (a := a)]
    constructor
    · rintro ⟨h1, h2⟩
      refine ⟨fun c hc => ?_, h2⟩
      rcases List.mem_cons.mp hc with rfl | hc
      · exact h1
      · exact Int.lt_trans h1 ((List.pairwise_cons.mp h2).1 c hc)
    · rintro ⟨h1, h2⟩
      exact ⟨h1 b List.mem_cons_self, h2⟩
theorem lex_cd {p q : Int × Int} (hp : okQ p) (hq : okQ q) : HT.lexLt [p.1, p.2] [q.1, q.2] = decide (cdP p < cdP q) := by
  obtain ⟨⟨a, b⟩, c, d⟩ := hp
  obtain ⟨⟨a', b'⟩, c', d'⟩ := hq
  have e : HT.lexLt [p.1, p.2] [q.1, q.2] = (if p.1 = q.1 then !decide (p.2 = q.2) && decide (p.2 < q.2) else decide (p.1 < q.1)) := by simp [HT.lexLt]
  rw [e]
  show _ = decide (p.1 * 64 + p.2 < q.1 * 64 + q.2)
  rw [Bool.eq_iff_iff]
  split <;> simp only [Bool.and_eq_true, Bool.not_eq_true', decide_eq_true_eq, decide_eq_false_iff_not] <;> omega
/-- one item of the zip of pairs -/
def ltZ : D → D
  | .tup [x, y] => .bl (decide (cdD x < cdD y))
  | d => d
theorem zip_all : ∀ ps : List (Int × Int), ∃ bs, blsOf ((zipD (ps.map pD) ((ps.map pD).drop 1)).map ltZ) = some bs ∧ bs.all id = allLt (ps.map cdP)
  | [] => ⟨[], rfl, rfl⟩
  | [p] => ⟨[], rfl, rfl⟩
  | p :: q :: r => by
    obtain ⟨bs, e1, e2⟩ := zip_all (q :: r)
    refine ⟨decide (cdP p < cdP q) :: bs, ?_, ?_⟩
    · show (blsOf ((zipD ((q :: r).map pD) (((q :: r).map pD).drop 1)).map ltZ)).map (decide (cdP p < cdP q) :: ·) = _
      rw [e1]
      rfl
    · show (decide (cdP p < cdP q) && bs.all id) = (decide (cdP p < cdP q) && allLt ((q :: r).map cdP))
      rw [e2]
theorem mem_zip : ∀ {xs ys : List D} {d : D}, d ∈ zipD xs ys → ∃ x y, d = .tup [x, y] ∧ x ∈ xs ∧ y ∈ ys
  | [], _, _, h => by cases h
  | _ :: _, [], _, h => by cases h
  | x :: xs, y :: ys, d, h => by
    have h : d ∈ D.tup [x, y] :: zipD xs ys := h
    rcases List.mem_cons.mp h with rfl | h
    · exact ⟨x, y, rfl, List.mem_cons_self, List.mem_cons_self⟩
    · obtain ⟨a, b, e, ha, hb⟩ := mem_zip h
      exact ⟨a, b, e, List.mem_cons_of_mem _ ha, List.mem_cons_of_mem _ hb⟩
theorem zip_len (xs ys : List D) : (zipD xs ys).length ≤ xs.length := by
  unfold zipD
  rw [List.length_zipWith]
  exact Nat.min_le_left _ _
theorem blsOf_map {p : D → Bool} : ∀ xs : List D, blsOf (xs.map fun d => .bl (p d)) = some (xs.map p)
  | [] => rfl
  | d :: xs => by
    show (blsOf (xs.map fun d => D.bl (p d))).map (p d :: ·) = _
    rw [blsOf_map xs]
    rfl
theorem all_map {p : D → Bool} (xs : List D) : (xs.map p).all id = xs.all p := by
  rw [List.all_map]
  rfl
theorem ispairs {k : Nat} {d : D} (h : gs k d = true) (μ : List Cell) : F__is_pairs [d] μ = some (.v (.bl (pairsD d)), μ) := by
  apply to_eq
  have hp := gs_pl h
  unfold F__is_pairs g__is_pairs
  walk_at "dl"
  simp only [isiT hp]
  cases d <;> first | (cases hp; done) | skip
  all_goals (simp only [isTupD]; walk_at "dl")
  all_goals first | rfl | skip
  rename_i xs
  obtain ⟨k', rfl, hl, hx⟩ := gs_tup h
  cases xs with
  | nil => walk_at "dl"; simp [pairsD, pairsB]
  | cons x0 xs0 =>
    generalize hxs : x0 :: xs0 = xs at *
    have hne : xs.isEmpty = false := by rw [← hxs]; rfl
    have hn0 : decide ((xs.length : Int) = 0) = false := by
      rw [← hxs]
      exact decide_eq_false (by simp only [List.length_cons]; omega)
    rw [hn0]
    walk_at "dl"
    obtain ⟨ys, μ', e, rfl, rfl⟩ := wlc_map (b := bName 3) (q := fun d => .bl (pairB d)) (fa := fCall F__is_pair (fLen 1 (fCons (fV 3) fNil))) (ρ := wipeR [some (D.tup xs), none, none, none] [3]) (μ := μ) (ds := xs) fun d hd => by
      simp only [wipeR]
      walk_at "dl"
      rw [wf_eq (ispair (hx d hd) μ)]
      exact ⟨rfl, rfl⟩
    refine ⟨_, _, e, ?_⟩
    walk_at "dl"
    refine ⟨Nat.le_trans hl (by decide), _, blsOf_map xs, ?_⟩
    rw [all_map]
    cases ha : xs.all pairB with
    | false => walk_at "dl"; simp [pairsD, pairsB, ha]
    | true =>
      walk_at "dl"
      obtain ⟨ps, rfl, ez, hz⟩ := prs ha
      refine ⟨_, _, ⟨rfl, rfl⟩, ?_⟩
      rw [cut_from _ (by decide)]
      obtain ⟨ys, μ', e2, rfl, rfl⟩ := wlc_map (b := bSeq 2 (bsCons (bName 1) (bsCons (bName 2) bsNil))) (q := ltZ) (fa := fB dLtA (fV 1) (fV 2)) (ρ := wipeR [some (D.tup (ps.map pD)), none, none, none] [1, 2]) (μ := μ') (ds := zipD (ps.map pD) ((ps.map pD).drop (1 : Int).toNat)) fun d hd => by
        obtain ⟨x, y, rfl, h1, h2⟩ := mem_zip hd
        obtain ⟨p, hp, rfl⟩ := List.mem_map.mp h1
        obtain ⟨q, hq, rfl⟩ := List.mem_map.mp (List.mem_of_mem_drop h2)
        simp only [wipeR]
        walk_at "dl"
        refine ⟨_, rfl, rfl, ?_⟩
        walk_at "dl"
        rw [w2_of (r := .bl (decide (cdP p < cdP q))) (by
          rw [← lex_cd (hz p hp) (hz q hq)]
          rfl)]
        rfl
      refine ⟨_, _, e2, ?_⟩
      obtain ⟨bs, e3, e4⟩ := zip_all ps
      walk_at "dl"
      refine ⟨?_, bs, e3, ?_⟩
      · refine Nat.le_trans (zip_len _ _) (Nat.le_trans hl (by decide))
      · rw [e4, allLt_eq]
        simp [pairsD, pairsB, ha, ez, hne]
end G
namespace G
open PySem L2 DL PySem.DLQ
local macro_rules | `(tactic| walk_at "dl") => `(tactic| simp only [wf_fn, ws_seq, ws_then, ws_drop, ws_nx, ws_bk, ws_ct, ws_ret, ws_if, ws_for, wb_name, wb_sub, wb_tup, wb_seq, wbs_nil, wbs_cons, cSet_iff, we_V, we_C, we_B, we_U, we_App, we_newC, we_call, we_AndV, we_OrV, we_IfE, we_Ch, we_Lc, we_Sl, we_Apn, we_Pop, we_ListC, wa_nil, wa_cons, wa_len, wa_star, wo_no, wo_part, isI_i, sl_tup, sl_lst,
  wl_1, wl_2, wl_lst, wl_tup, wt_Tru, wt_Not, wt_And, wt_Or, wt_true, wi_seq, wi_rng1, wi_zip, Nx_nx, Nx_rt, Nx_bk, Nx_ct, Nx_ex, Fe_rt, Fe_nx, Tn_nx, Tn_ct, Tn_bk, Tn_rt, Tn_ex,
  w2_addAI, w2_addAS, w2_addAT, w2_addAL, w2_addAH, w2_mulAI, w2_mulAT, w2_mulAL, w2_ltAI, w2_eqWI, w2_neWI, w2_neWN, w2_neWB, w2_eqWS, w2_neWS, w1_listT, w1_tupL, w1_lenH, w1_rev, w2_II, gSub_iff, gMod_iff, gFdiv_iff, gPow_iff, w1_neg, w2_ordI, w2_ordS, w2_is, w2_isNot, w2_ixL, w2_ixR, w2_ixT, w2_ixS, w2_ixH, w1_abs, w1_intI, w1_intB, w2_max, w2_min, w1_str, w1_lenS, w1_lenL, w1_lenR, w1_lenT, w1_type, w1_all, w1_not, w1_S0, w2_join, wtr_bl, asQ_tup, asQ_lst,
  List.map_cons, List.map_nil, List.cons_append, List.nil_append, List.replicate_succ, List.replicate_zero, List.getElem?_cons_zero, List.getElem?_cons_succ, List.set_cons_zero, List.set_cons_succ, List.length_cons, List.length_nil, Option.some.injEq, exists_eq_left', exists_eq_left, D.int.injEq, and_true, true_and, Nat.reduceAdd, Nat.reduceSub, Nat.reduceLT, Nat.lt_add_left_iff_pos, Nat.zero_lt_succ, List.length_replicate, List.length_append, List.length_map, List.cons.injEq, List.length_set, gSeq, decide_true, if_true, D.bl.injEq, Bool.not_true, Bool.not_false, Bool.false_eq_true, if_false, reduceCtorEq, false_and, or_false, false_or])
def isS (s : Str) : D → Bool
  | .str z => decide (z = s)
  | _ => false
def isN : D → Bool
  | .non => true
  | _ => false
theorem eqv_strR {x : D} {p : PyData} (hx : isPl x = true) (e : toR x = some p) (s : Str) : PyData.eqv p (.str s) = isS s x ∧ PyData.eqv (.str s) p = isS s x := by
  cases x <;> first | (cases hx; done) | skip
  · simp only [toR] at e; cases e; exact ⟨rfl, rfl⟩
  · simp only [toR] at e; cases e; exact ⟨rfl, rfl⟩
  · simp only [toR] at e; cases e; exact ⟨rfl, rfl⟩
  · simp only [toR] at e; cases e
    rename_i z
    refine ⟨rfl, ?_⟩
    rw [PyData.eqv.eq_6, Bool.eq_iff_iff]
    simp only [isS, beq_iff_eq, decide_eq_true_eq]
    exact eq_comm
  · simp only [toR] at e
    obtain ⟨ps, _, rfl⟩ := Option.map_eq_some_iff.mp e
    exact ⟨rfl, rfl⟩
  · simp only [toR] at e
    obtain ⟨ps, _, rfl⟩ := Option.map_eq_some_iff.mp e
    exact ⟨rfl, rfl⟩
  · rename_i kvs
    cases kvs
    · simp only [toR] at e; cases e; exact ⟨rfl, rfl⟩
    · simp only [toR] at e; cases e
theorem lit_ok (s : String) : PyData.strOk (Str.ofString s) = true := by
  unfold PyData.strOk
  rw [Array.all_eq_true_iff_forall_mem]
  intro c hc
  rw [Str.ofString_eq_toList] at hc
  have hc : c ∈ (s.toList.map Char.toNat).toArray := hc
  rw [List.mem_toArray] at hc
  obtain ⟨x, _, rfl⟩ := List.mem_map.mp hc
  have v := x.valid
  have e : x.toNat = x.val.toNat := rfl
  unfold UInt32.isValidChar Nat.isValidChar at v
  exact decide_eq_true (by omega)
theorem im_lit (s : String) (hl : (Str.ofString s).length ≤ 12) : Im 1 150 (.str (Str.ofString s)) (.str (Str.ofString s)) := by
  obtain ⟨p, a⟩ := fl_im (d := .str (Str.ofString s)) (by show (PyData.strOk (Str.ofString s) && decide ((Str.ofString s).length ≤ 12)) = true; rw [lit_ok, decide_eq_true hl]; rfl)
  have r := a.r
  simp only [toR] at r
  cases r
  exact a
theorem eqW_lit {k : Nat} {x : D} (h : gs k x = true) (hk : k ≤ 50) (s : String) (hl : (Str.ofString s).length ≤ 12) (μ : List Cell) : eqW x (.str (Str.ofString s)) μ = some (isS (Str.ofString s) x) ∧ neW x (.str (Str.ofString s)) μ = some (!isS (Str.ofString s) x) := by
  obtain ⟨p, a⟩ := gs_im k h
  rw [← (eqv_strR (gs_pl h) a.r (Str.ofString s)).1]
  have b := im_lit s hl
  exact ⟨eqW_of a b (by simpa only [PyData.canLay0] using lit_ok s) (by omega) (by omega), neW_of a b (by simpa only [PyData.canLay0] using lit_ok s) (by omega) (by omega) fun _ => rfl⟩
theorem inR_lf {k : Nat} {x : D} (h : gs k x = true) (hk : k ≤ 50) (s z : String) (hl : (Str.ofString s).length ≤ 12) (hl2 : (Str.ofString z).length ≤ 12) : inR x (.tup [.str (Str.ofString s), .str (Str.ofString z)]) = some (isS (Str.ofString s) x || isS (Str.ofString z) x) := by
  obtain ⟨p, a⟩ := gs_im k h
  have e : toR (.tup [.str (Str.ofString s), .str (Str.ofString z)]) = some (.tuple [.str (Str.ofString s), .str (Str.ofString z)]) := by simp only [toR, toRs, Option.map_some]
  unfold inR
  rw [a.r, e]
  simp only
  rw [if_pos ⟨a.x, by simp only [PyData.canLayAll0, PyData.canLay0, lit_ok]; rfl, by simp only [PyData.depthAll, PyData.depth]; omega⟩]
  simp only [List.any_cons, List.any_nil, Bool.or_false]
  rw [(eqv_strR (gs_pl h) a.r _).2, (eqv_strR (gs_pl h) a.r _).2]
def partsB (p : Int) (x : D) : List D → Bool
  | [b] => (isS "leave" x || isS "fail" x) && setD 6 b
  | [b, c] => isS "go" x && numD p b && pairsD c
  | [b, c, e, f] => isS "call" x && numD p b && (isN f || numD p f) && nameB c && setD 6 e
  | _ => false
def stepD (p : Int) : D → Bool
  | .tup (x :: a :: r) => numD p a && partsB p x r
  | _ => false
theorem isS_no {x : D} (h : isStD x = false) (s : Str) : isS s x = false := by cases x <;> first | rfl | cases h
theorem word_cases (w : Str) : (w = "go" ∨ w = "call" ∨ w = "leave" ∨ w = "fail") ∨ (decide (w = ("go" : Str)) = false ∧ decide (w = ("call" : Str)) = false ∧ decide (w = ("leave" : Str)) = false ∧ decide (w = ("fail" : Str)) = false) := by
  by_cases h1 : w = "go"
  · exact .inl (.inl h1)
  by_cases h2 : w = "call"
  · exact .inl (.inr (.inl h2))
  by_cases h3 : w = "leave"
  · exact .inl (.inr (.inr (.inl h3)))
  by_cases h4 : w = "fail"
  · exact .inl (.inr (.inr (.inr h4)))
  exact .inr ⟨decide_eq_false h1, decide_eq_false h2, decide_eq_false h3, decide_eq_false h4⟩
/-- which of the four words a datum is -/
theorem isS_cases (x : D) : (isS "go" x = true ∧ isS "call" x = false ∧ isS "leave" x = false ∧ isS "fail" x = false) ∨ (isS "go" x = false ∧ isS "call" x = true ∧ isS "leave" x = false ∧ isS "fail" x = false) ∨
    (isS "go" x = false ∧ isS "call" x = false ∧ isS "leave" x = true ∧ isS "fail" x = false) ∨ (isS "go" x = false ∧ isS "call" x = false ∧ isS "leave" x = false ∧ isS "fail" x = true) ∨ (isS "go" x = false ∧ isS "call" x = false ∧ isS "leave" x = false ∧ isS "fail" x = false) := by
  cases hx : isStD x with
  | false => simp only [isS_no hx]; simp
  | true =>
    cases x <;> first | (cases hx; done) | skip
    rename_i w
    rcases word_cases w with (rfl | rfl | rfl | rfl) | ⟨h1, h2, h3, h4⟩
    · decide
    · decide
    · decide
    · decide
    · simp only [isS, h1, h2, h3, h4]; simp
theorem is_non {x : D} (h : isPl x = true) (μ : List Cell) : isB x .non μ = some (isN x) := by cases x <;> first | rfl | cases h
theorem lawstep {k : Nat} {d : D} {p : Int} (h : gs k d = true) (hk : k ≤ 50) (μ : List Cell) : F__law_is_step [d, .int p, .int 6] μ = some (.v (.bl (stepD p d)), μ) := by
  apply to_eq
  have hp := gs_pl h
  unfold F__law_is_step g__law_is_step
  walk_at "dl"
  simp only [isiT hp]
  cases d <;> first | (cases hp; done) | skip
  all_goals (simp only [isTupD]; walk_at "dl")
  all_goals first | rfl | skip
  rename_i ys
  obtain ⟨k2, rfl, _, hy⟩ := gs_tup h
  match ys, hy with
  | [], _ => walk_at "dl"; simp [stepD]
  | [x], _ => walk_at "dl"; simp [stepD]
  | [x, y], hy => walk_at "dl"; simp [stepD, partsB]
  | x :: a :: b :: r, hy =>
    have e3 : decide ((((r.length + 1 + 1 + 1 : Nat)) : Int) < 3) = false := decide_eq_false (by omega)
    have gx := hy x (by simp)
    have pa := gs_pl (hy a (by simp))
    have pb := gs_pl (hy b (by simp))
    have gb := hy b (by simp)
    simp only [List.length_cons, e3]
    walk_at "dl"
    simp only [at0, at1, at2, Option.some.injEq, exists_eq_left', wf_eq (lawnum (t := p) pa), wtr_bl]
    cases ea : numD p a with
    | false => simp [stepD, ea]
    | true =>
      simp only [if_true, Bool.not_true, Bool.false_eq_true, if_false]
      have q1 := eqW_lit gx (by omega) "go" (by decide) μ
      have q2 := eqW_lit gx (by omega) "call" (by decide) μ
      have q3 := inR_lf gx (by omega) "leave" "fail" (by decide) (by decide)
      have w1 : ∀ V : D → Prop, W2 dEqW x (.str "go") μ V ↔ V (.bl (isS "go" x)) := fun V => w2_of (by unfold dEqW; rw [q1.1]; rfl)
      have w2 : ∀ V : D → Prop, W2 dNeW x (.str "call") μ V ↔ V (.bl (!isS "call" x)) := fun V => w2_of (by unfold dNeW; rw [q2.2]; rfl)
      have w3 : ∀ V : D → Prop, W2 dInR x (.tup [.str "leave", .str "fail"]) μ V ↔ V (.bl (isS "leave" x || isS "fail" x)) := fun V => w2_of (by unfold dInR; rw [q3]; rfl)
      have hz : (0 + 1 + 1 : Nat) ≤ sizeLine := by decide
      simp only [w1, w2, w3, wtr_bl]
      rcases isS_cases x with ⟨s1, s2, s3, s4⟩ | ⟨s1, s2, s3, s4⟩ | ⟨s1, s2, s3, s4⟩ | ⟨s1, s2, s3, s4⟩ | ⟨s1, s2, s3, s4⟩
      all_goals simp only [s1, s2, s3, s4, stepD, ea, Bool.true_and, Bool.false_eq_true, if_false, if_true, Bool.or_false, Bool.false_or, Bool.or_true, Bool.not_true, Bool.not_false]
      · -- go
        match r, hy with
        | [], _ => simp [partsB, wtr_bl, s3, s4]
        | [c], hy =>
          have gc := hy c (by simp)
          have L : ((([c] : List D).length + 1 + 1 + 1 : Nat) : Int) = 4 := rfl
          simp only [at0, at1, at2, at3, Option.some.injEq, exists_eq_left', wf_eq (lawnum (t := p) pb), wtr_bl, wf_eq (lawpairs gc (by omega) μ), partsB, s1, L, decide_true, if_true]
          cases numD p b <;> simp
        | [c, e], _ => simp [partsB, wtr_bl]
        | [c, e, f], _ => simp [partsB, wtr_bl, s2]
        | c :: e :: f :: g :: r, _ =>
          have L : decide (((((c :: e :: f :: g :: r) : List D).length + 1 + 1 + 1 : Nat) : Int) = 4) = false := decide_eq_false (by simp only [List.length_cons]; omega)
          simp only [L, partsB, Bool.false_eq_true, if_false]
          trivial
      · -- call
        refine ⟨hz, ?_⟩
        match r, hy with
        | [], _ => simp [partsB, wtr_bl, s3, s4]
        | [c], hy => simp [partsB, wtr_bl, s1]
        | [c, e], _ => simp [partsB, wtr_bl]
        | [c, e, f], hy =>
          have gc := hy c (by simp)
          have ge := hy e (by simp)
          have pf := gs_pl (hy f (by simp))
          have L : ((([c, e, f] : List D).length + 1 + 1 + 1 : Nat) : Int) = 6 := rfl
          simp only [L, at0, at1, at2, at3, at4, at5, Option.some.injEq, exists_eq_left', wf_eq (lawnum (t := p) pb), wtr_bl, wf_eq (lawnum (t := p) pf), wf_eq (lawset (t := 6) ge (by omega) μ), wf_eq (lawword (gs_pl gc) (gs_sh gc) μ), is_non pf, partsB, s2, decide_true, if_true]
          cases numD p b <;> cases isN f <;> cases numD p f <;> cases nameB c <;> simp [wtr_bl]
        | c :: e :: f :: g :: r, _ =>
          have L : decide (((((c :: e :: f :: g :: r) : List D).length + 1 + 1 + 1 : Nat) : Int) = 6) = false := decide_eq_false (by simp only [List.length_cons]; omega)
          simp only [L, partsB, Bool.not_false, if_true]
          trivial
      · refine ⟨hz, ?_⟩
        match r, hy with
        | [], _ =>
          have L : ((([] : List D).length + 1 + 1 + 1 : Nat) : Int) = 3 := rfl
          simp only [L, at2, Option.some.injEq, exists_eq_left', wf_eq (lawset (t := 6) gb (by omega) μ), partsB, s3, s4, wtr_bl, decide_true, if_true]
          simp
        | [c], _ => simp [partsB, wtr_bl, s1]
        | [c, e], _ => simp [partsB, wtr_bl]
        | [c, e, f], hy => simp [partsB, wtr_bl, s2]
        | c :: e :: f :: g :: r, _ =>
          have L : decide (((((c :: e :: f :: g :: r) : List D).length + 1 + 1 + 1 : Nat) : Int) = 3) = false := decide_eq_false (by simp only [List.length_cons]; omega)
          simp only [L, partsB, Bool.false_eq_true, if_false]
          trivial
      · refine ⟨hz, ?_⟩
        match r, hy with
        | [], _ =>
          have L : ((([] : List D).length + 1 + 1 + 1 : Nat) : Int) = 3 := rfl
          simp only [L, at2, Option.some.injEq, exists_eq_left', wf_eq (lawset (t := 6) gb (by omega) μ), partsB, s3, s4, wtr_bl, decide_true, if_true]
          simp
        | [c], _ => simp [partsB, wtr_bl, s1]
        | [c, e], _ => simp [partsB, wtr_bl]
        | [c, e, f], hy => simp [partsB, wtr_bl, s2]
        | c :: e :: f :: g :: r, _ =>
          have L : decide (((((c :: e :: f :: g :: r) : List D).length + 1 + 1 + 1 : Nat) : Int) = 3) = false := decide_eq_false (by simp only [List.length_cons]; omega)
          simp only [L, partsB, Bool.false_eq_true, if_false]
          trivial
      · refine ⟨hz, ?_⟩
        match r, hy with
        | [], _ => simp [partsB, s3, s4]
        | [c], _ => simp [partsB, s1]
        | [c, e], _ => simp [partsB]
        | [c, e, f], hy => simp [partsB, s2]
        | c :: e :: f :: g :: r, _ => simp [partsB]
end G
namespace G
open PySem L2 DL PySem.DLQ
local macro_rules | `(tactic| walk_at "dl") => `(tactic| simp only [wf_fn, ws_seq, ws_then, ws_drop, ws_nx, ws_bk, ws_ct, ws_ret, ws_if, ws_for, wb_name, wb_sub, wb_tup, wb_seq, wbs_nil, wbs_cons, cSet_iff, we_V, we_C, we_B, we_U, we_App, we_newC, we_call, we_AndV, we_OrV, we_IfE, we_Ch, we_Lc, we_Sl, we_Apn, we_Pop, we_ListC, wa_nil, wa_cons, wa_len, wa_star, wo_no, wo_part, isI_i, sl_tup, sl_lst,
  wl_1, wl_2, wl_lst, wl_tup, wt_Tru, wt_Not, wt_And, wt_Or, wt_true, wi_seq, wi_rng1, wi_zip, Nx_nx, Nx_rt, Nx_bk, Nx_ct, Nx_ex, Fe_rt, Fe_nx, Tn_nx, Tn_ct, Tn_bk, Tn_rt, Tn_ex,
  w2_addAI, w2_addAS, w2_addAT, w2_addAL, w2_addAH, w2_mulAI, w2_mulAT, w2_mulAL, w2_ltAI, w2_eqWI, w2_neWI, w2_neWN, w2_neWB, w2_eqWS, w2_neWS, w1_listT, w1_tupL, w1_lenH, w1_rev, w2_II, gSub_iff, gMod_iff, gFdiv_iff, gPow_iff, w1_neg, w2_ordI, w2_ordS, w2_is, w2_isNot, w2_ixL, w2_ixR, w2_ixT, w2_ixS, w2_ixH, w1_abs, w1_intI, w1_intB, w2_max, w2_min, w1_str, w1_lenS, w1_lenL, w1_lenR, w1_lenT, w1_type, w1_all, w1_not, w1_S0, w2_join, wtr_bl, asQ_tup, asQ_lst,
  List.map_cons, List.map_nil, List.cons_append, List.nil_append, List.replicate_succ, List.replicate_zero, List.getElem?_cons_zero, List.getElem?_cons_succ, List.set_cons_zero, List.set_cons_succ, List.length_cons, List.length_nil, Option.some.injEq, exists_eq_left', exists_eq_left, D.int.injEq, and_true, true_and, Nat.reduceAdd, Nat.reduceSub, Nat.reduceLT, Nat.lt_add_left_iff_pos, Nat.zero_lt_succ, List.length_replicate, List.length_append, List.length_map, List.cons.injEq, List.length_set, gSeq, decide_true, if_true, D.bl.injEq, Bool.not_true, Bool.not_false, Bool.false_eq_true, if_false, reduceCtorEq, false_and, or_false, false_or])
theorem n12 : ("go" : Str) ≠ "call" ∧ ("go" : Str) ≠ "leave" ∧ ("go" : Str) ≠ "fail" ∧ ("call" : Str) ≠ "go" ∧ ("call" : Str) ≠ "leave" ∧ ("call" : Str) ≠ "fail" ∧ ("leave" : Str) ≠ "go" ∧ ("leave" : Str) ≠ "call" ∧ ("leave" : Str) ≠ "fail" ∧ ("fail" : Str) ≠ "go" ∧ ("fail" : Str) ≠ "call" ∧ ("fail" : Str) ≠ "leave" := by decide
theorem kget_go {V : D → Prop} {μ : List Cell} : W1 (dKGet tab_PARTS) (.str "go") μ V ↔ V (.int 4) := w1_of (by unfold dKGet; simp only; rw [show tab_PARTS.lookup (Str.ofString "go") = some 4 from by decide +kernel])
theorem kget_call {V : D → Prop} {μ : List Cell} : W1 (dKGet tab_PARTS) (.str "call") μ V ↔ V (.int 6) := w1_of (by unfold dKGet; simp only; rw [show tab_PARTS.lookup (Str.ofString "call") = some 6 from by decide +kernel])
theorem kget_leave {V : D → Prop} {μ : List Cell} : W1 (dKGet tab_PARTS) (.str "leave") μ V ↔ V (.int 3) := w1_of (by unfold dKGet; simp only; rw [show tab_PARTS.lookup (Str.ofString "leave") = some 3 from by decide +kernel])
theorem kget_fail {V : D → Prop} {μ : List Cell} : W1 (dKGet tab_PARTS) (.str "fail") μ V ↔ V (.int 3) := w1_of (by unfold dKGet; simp only; rw [show tab_PARTS.lookup (Str.ofString "fail") = some 3 from by decide +kernel])
theorem kget_no {V : D → Prop} {μ : List Cell} {w : Str} (h1 : decide (w = ("go" : Str)) = false) (h2 : decide (w = ("call" : Str)) = false) (h3 : decide (w = ("leave" : Str)) = false) (h4 : decide (w = ("fail" : Str)) = false) : W1 (dKGet tab_PARTS) (.str w) μ V ↔ V .non := by
  have b : ∀ z : Str, decide (w = z) = false → (w == z) = false := fun z h => beq_eq_false_iff_ne.mpr (of_decide_eq_false h)
  refine w1_of ?_
  have b1 := b _ h1
  have b2 := b _ h2
  have b3 := b _ h3
  have b4 := b _ h4
  unfold dKGet tab_PARTS
  simp only [List.lookup, b1, b2, b3, b4]
theorem parts_no {p : Int} {x : D} (h : isS "go" x = false ∧ isS "call" x = false ∧ isS "leave" x = false ∧ isS "fail" x = false) : ∀ r, partsB p x r = false
  | [] => rfl
  | [_] => by simp [partsB, h]
  | [_, _] => by simp [partsB, h]
  | [_, _, _] => rfl
  | [_, _, _, _] => by simp [partsB, h]
  | _ :: _ :: _ :: _ :: _ :: _ => rfl
theorem step_no {p : Int} {x : D} (h : isS "go" x = false ∧ isS "call" x = false ∧ isS "leave" x = false ∧ isS "fail" x = false) : ∀ r, stepD p (.tup (x :: r)) = false
  | [] => rfl
  | a :: r => by
    show (numD p a && partsB p x r) = false
    rw [parts_no h, Bool.and_false]
theorem ismove {k : Nat} {d : D} {p : Int} (h : gs k d = true) (hk : k ≤ 50) (μ : List Cell) : F__is_move [d, .int p] μ = some (.v (.bl (stepD p d)), μ) := by
  apply to_eq
  have hp := gs_pl h
  unfold F__is_move g__is_move
  walk_at "dl"
  simp only [isiT hp]
  cases d <;> first | (cases hp; done) | skip
  all_goals (simp only [isTupD]; walk_at "dl")
  all_goals first | rfl | skip
  rename_i ys
  obtain ⟨k2, rfl, hlen, hy⟩ := gs_tup h
  clear hlen
  match ys, hy with
  | [], _ => walk_at "dl"; simp [stepD]
  | x :: r, hy =>
    have px := gs_pl (hy x (by simp))
    have e0 : decide ((((r.length + 1 : Nat)) : Int) = 0) = false := decide_eq_false (by omega)
    simp only [List.length_cons, e0]
    walk_at "dl"
    simp only [at0, Option.some.injEq, exists_eq_left', isiS px]
    cases hs : isStD x with
    | false =>
      walk_at "dl"
      have e := isS_no hs
      rw [step_no ⟨e _, e _, e _, e _⟩]
    | true =>
      walk_at "dl"
      cases x <;> first | (cases hs; done) | skip
      rename_i w
      rcases word_cases w with (rfl | rfl | rfl | rfl) | ⟨h1, h2, h3, h4⟩
      · -- go
        simp only [kget_go]
        walk_at "dl"
        match r, hy with
        | [], _ => simp [stepD, partsB, wtr_bl]
        | [a], _ => simp [stepD, partsB, wtr_bl]
        | [a, b], _ => simp [stepD, partsB, wtr_bl, isS, n12]
        | [a, b, c], hy =>
          have L : ((([a, b, c] : List D).length + 1 : Nat) : Int) = 4 := rfl
          have pa := gs_pl (hy a (by simp))
          have pb := gs_pl (hy b (by simp))
          have gc := hy c (by simp)
          simp only [L, decide_true, Bool.not_true, Bool.false_eq_true, if_false, at1, at2, at3, Option.some.injEq, exists_eq_left', wf_eq (wholeN (t := p) pa), wf_eq (wholeN (t := p) pb), wf_eq (ispairs gc μ), stepD, partsB, isS, wtr_bl, show decide (("go" : Str) = "leave") = false from by decide, show decide (("go" : Str) = "fail") = false from by decide]
          cases numD p a <;> cases numD p b <;> simp [wtr_bl]
        | [a, b, c, e], _ => simp [stepD, partsB, wtr_bl]
        | [a, b, c, e, f], _ => simp [stepD, partsB, wtr_bl, isS, n12]
        | a :: b :: c :: e :: f :: g :: r, _ =>
          have L : decide ((4 : Int) = ((((a :: b :: c :: e :: f :: g :: r) : List D).length + 1 : Nat) : Int)) = false := decide_eq_false (by simp only [List.length_cons]; omega)
          simp only [L, stepD, partsB, Bool.not_false, if_true, Bool.and_false]
      · -- call
        simp only [kget_call]
        walk_at "dl"
        match r, hy with
        | [], _ => simp [stepD, partsB, wtr_bl]
        | [a], _ => simp [stepD, partsB, wtr_bl]
        | [a, b], _ => simp [stepD, partsB, wtr_bl, isS, n12]
        | [a, b, c], hy => simp [stepD, partsB, wtr_bl, isS, n12]
        | [a, b, c, e], _ => simp [stepD, partsB, wtr_bl]
        | [a, b, c, e, f], hy =>
          have L : ((([a, b, c, e, f] : List D).length + 1 : Nat) : Int) = 6 := rfl
          have pa := gs_pl (hy a (by simp))
          have pb := gs_pl (hy b (by simp))
          have gc := hy c (by simp)
          have ge := hy e (by simp)
          have pf := gs_pl (hy f (by simp))
          simp only [L, decide_true, Bool.not_true, Bool.false_eq_true, if_false, at1, at2, at3, at4, at5, Option.some.injEq, exists_eq_left', wf_eq (wholeN (t := p) pa), wf_eq (wholeN (t := p) pb), wf_eq (wholeN (t := p) pf), wf_eq (isname (gs_pl gc) (gs_sh gc) μ), wf_eq (modeset (t := 6) ge (by decide) μ), is_non pf, stepD, partsB, isS, wtr_bl, show decide (("call" : Str) = "leave") = false from by decide, show decide (("call" : Str) = "fail") = false from by decide, show decide (("call" : Str) = "go") = false from by decide]
          cases numD p a <;> cases numD p b <;> cases nameB c <;> cases setD 6 e <;> cases isN f <;> simp [wtr_bl]
        | a :: b :: c :: e :: f :: g :: r, _ =>
          have L : decide ((6 : Int) = ((((a :: b :: c :: e :: f :: g :: r) : List D).length + 1 : Nat) : Int)) = false := decide_eq_false (by simp only [List.length_cons]; omega)
          simp only [L, stepD, partsB, Bool.not_false, if_true, Bool.and_false]
      · -- leave
        simp only [kget_leave]
        walk_at "dl"
        match r, hy with
        | [], _ => simp [stepD, partsB, wtr_bl]
        | [a], _ => simp [stepD, partsB, wtr_bl]
        | [a, b], hy =>
          have L : ((([a, b] : List D).length + 1 : Nat) : Int) = 3 := rfl
          have pa := gs_pl (hy a (by simp))
          have gb := hy b (by simp)
          simp only [L, decide_true, Bool.not_true, Bool.false_eq_true, if_false, at1, at2, Option.some.injEq, exists_eq_left', wf_eq (wholeN (t := p) pa), wf_eq (modeset (t := 6) gb (by decide) μ), stepD, partsB, isS, wtr_bl]
          cases numD p a <;> simp [wtr_bl]
        | [a, b, c], hy => simp [stepD, partsB, wtr_bl, isS, n12]
        | [a, b, c, e], _ => simp [stepD, partsB, wtr_bl]
        | [a, b, c, e, f], hy => simp [stepD, partsB, wtr_bl, isS, n12]
        | a :: b :: c :: e :: f :: g :: r, _ =>
          have L : decide ((3 : Int) = ((((a :: b :: c :: e :: f :: g :: r) : List D).length + 1 : Nat) : Int)) = false := decide_eq_false (by simp only [List.length_cons]; omega)
          simp only [L, stepD, partsB, Bool.not_false, if_true, Bool.and_false]
      · -- fail
        simp only [kget_fail]
        walk_at "dl"
        match r, hy with
        | [], _ => simp [stepD, partsB, wtr_bl]
        | [a], _ => simp [stepD, partsB, wtr_bl]
        | [a, b], hy =>
          have L : ((([a, b] : List D).length + 1 : Nat) : Int) = 3 := rfl
          have pa := gs_pl (hy a (by simp))
          have gb := hy b (by simp)
          simp only [L, decide_true, Bool.not_true, Bool.false_eq_true, if_false, at1, at2, Option.some.injEq, exists_eq_left', wf_eq (wholeN (t := p) pa), wf_eq (modeset (t := 6) gb (by decide) μ), stepD, partsB, isS, wtr_bl, show decide (("fail" : Str) = "leave") = false from by decide]
          cases numD p a <;> simp [wtr_bl]
        | [a, b, c], hy => simp [stepD, partsB, wtr_bl, isS, n12]
        | [a, b, c, e], _ => simp [stepD, partsB, wtr_bl]
        | [a, b, c, e, f], hy => simp [stepD, partsB, wtr_bl, isS, n12]
        | a :: b :: c :: e :: f :: g :: r, _ =>
          have L : decide ((3 : Int) = ((((a :: b :: c :: e :: f :: g :: r) : List D).length + 1 : Nat) : Int)) = false := decide_eq_false (by simp only [List.length_cons]; omega)
          simp only [L, stepD, partsB, Bool.not_false, if_true, Bool.and_false]
      · simp only [kget_no h1 h2 h3 h4]
        walk_at "dl"
        rw [step_no (x := .str w) ⟨h1, h2, h3, h4⟩]
/-! moves and parts of a procedure -/
def movesB (p : Int) (ms : List D) : Bool := decide (ms.length ≤ 16) && ms.all (stepD p)
def dueB (c s o : D) : Bool := nameB c && match s with
  | .int p => decide (1 ≤ p ∧ p ≤ 8) && (match o with
    | .tup ms => movesB p ms
    | _ => false)
  | _ => false
theorem ismoves {k : Nat} {ms : List D} {p : Int} (h : gs k (.tup ms) = true) (hk : k ≤ 50) (μ : List Cell) : F_is_moves [.tup ms, .int p] μ = some (.v (.bl (movesB p ms)), μ) := by
  apply to_eq
  have hp := gs_pl h
  unfold F_is_moves g_is_moves
  walk_at "dl"
  simp only [isiT hp]
  simp only [isTupD]; walk_at "dl"
  obtain ⟨k2, rfl, hl, hy⟩ := gs_tup h
  by_cases h16 : ms.length ≤ 16
  · have e : decide ((16 : Int) < (ms.length : Int)) = false := decide_eq_false (by omega)
    simp only [e]
    walk_at "dl"
    obtain ⟨ys, μ', e, rfl, rfl⟩ := wlc_map (b := bName 2) (q := fun d => .bl (stepD p d)) (fa := fCall F__is_move (fLen 2 (fCons (fV 2) (fCons (fV 1) fNil)))) (ρ := wipeR [some (D.tup ms), some (D.int p), none] [2]) (μ := μ) (ds := ms) fun d hd => by
      simp only [wipeR]
      walk_at "dl"
      rw [wf_eq (ismove (hy d hd) (by omega) μ)]
      exact ⟨rfl, rfl⟩
    refine ⟨_, _, e, ?_⟩
    walk_at "dl"
    refine ⟨Nat.le_trans hl (by decide), _, blsOf_map ms, ?_⟩
    rw [all_map]
    simp [movesB, h16]
  · have e : decide ((16 : Int) < (ms.length : Int)) = true := decide_eq_true (by omega)
    simp only [e]
    walk_at "dl"
    simp [movesB, h16]
theorem lawdue {k : Nat} {c s o : D} (hc : gs k c = true) (hs : gs k s = true) (ho : gs k o = true) (hk : k ≤ 50) (μ : List Cell) : F__law_is_due [c, s, o] μ = some (.v (.bl (dueB c s o)), μ) := by
  apply to_eq
  have po := gs_pl ho
  have ps := gs_pl hs
  unfold F__law_is_due g__law_is_due
  walk_at "dl"
  rw [wf_eq (lawword (gs_pl hc) (gs_sh hc) μ)]
  walk_at "dl"
  cases hn : nameB c with
  | false => walk_at "dl"; simp [dueB, hn]
  | true =>
    walk_at "dl"
    rw [wf_eq (lawnum (t := 9) ps)]
    walk_at "dl"
    cases s <;> first | (cases ps; done) | skip
    all_goals (simp only [numD]; walk_at "dl")
    all_goals first | (simp [dueB]; done) | skip
    rename_i p
    by_cases h0 : 0 ≤ p ∧ p < 9
    · simp only [h0, and_self, decide_true]
      walk_at "dl"
      by_cases hz : p = 0
      · subst hz
        walk_at "dl"
        simp [dueB]
      · have e : decide (p = 0) = false := decide_eq_false hz
        simp only [e]
        walk_at "dl"
        simp only [isiT po]
        cases o <;> first | (cases po; done) | skip
        all_goals (simp only [isTupD]; walk_at "dl")
        all_goals first | (simp [dueB]; done) | skip
        rename_i ms
        obtain ⟨k2, rfl, hl, hy⟩ := gs_tup ho
        by_cases h16 : ms.length ≤ 16
        · have e : decide ((16 : Int) < (ms.length : Int)) = false := decide_eq_false (by omega)
          simp only [e]
          walk_at "dl"
          obtain ⟨ys, μ', e, rfl, rfl⟩ := wlc_filter (t := fNot (fTru (fCall F__law_is_step (fLen 3 (fCons (fV 3) (fCons (fV 1) (fCons (fC (.int 6)) fNil))))))) (i := 3) (p := fun d => !stepD p d) (ρ := wipeR [some c, some (D.int p), some (D.tup ms), none] [3]) (μ := μ) (Nat.lt_of_sub_pos (Nat.zero_lt_succ 0)) (ds := ms) fun d hd => by
            simp only [wipeR]
            walk_at "dl"
            rw [wf_eq (lawstep (hy d hd) (by omega) μ)]
            walk_at "dl"
          refine ⟨_, _, e, ?_⟩
          walk_at "dl"
          refine ⟨Nat.le_trans (List.length_filter_le _ _) (Nat.le_trans hl (by decide)), by decide, ?_⟩
          rw [w2_of (by unfold dEqW; rw [(eqv_nil (k := k2) (fun x hx' => hy x (List.mem_filter.mp hx').1) (by omega) _).1]; rfl)]
          rw [filter_emp]
          have h1 : 1 ≤ p ∧ p ≤ 8 := by omega
          simp [dueB, movesB, h16, hn, h1]
        · have e : decide ((16 : Int) < (ms.length : Int)) = true := decide_eq_true (by omega)
          simp only [e]
          walk_at "dl"
          simp [dueB, movesB, h16]
    · have h1 : ¬ (1 ≤ p ∧ p ≤ 8) := by omega
      simp only [decide_eq_false h0]
      walk_at "dl"
      simp [dueB, h1]
end G
namespace G
open PySem L2 DL PySem.DLQ
local macro_rules | `(tactic| walk_at "dl") => `(tactic| simp only [wf_fn, ws_seq, ws_then, ws_drop, ws_nx, ws_bk, ws_ct, ws_ret, ws_if, ws_for, wb_name, wb_sub, wb_tup, wb_seq, wbs_nil, wbs_cons, cSet_iff, we_V, we_C, we_B, we_U, we_App, we_newC, we_call, we_AndV, we_OrV, we_IfE, we_Ch, we_Lc, we_Sl, we_Apn, we_Pop, we_ListC, wa_nil, wa_cons, wa_len, wa_star, wo_no, wo_part, isI_i, sl_tup, sl_lst,
  wl_1, wl_2, wl_lst, wl_tup, wt_Tru, wt_Not, wt_And, wt_Or, wt_true, wi_seq, wi_rng1, wi_zip, Nx_nx, Nx_rt, Nx_bk, Nx_ct, Nx_ex, Fe_rt, Fe_nx, Tn_nx, Tn_ct, Tn_bk, Tn_rt, Tn_ex,
  w2_addAI, w2_addAS, w2_addAT, w2_addAL, w2_addAH, w2_mulAI, w2_mulAT, w2_mulAL, w2_ltAI, w2_eqWI, w2_neWI, w2_neWN, w2_neWB, w2_eqWS, w2_neWS, w1_listT, w1_tupL, w1_lenH, w1_rev, w2_II, gSub_iff, gMod_iff, gFdiv_iff, gPow_iff, w1_neg, w2_ordI, w2_ordS, w2_is, w2_isNot, w2_ixL, w2_ixR, w2_ixT, w2_ixS, w2_ixH, w1_abs, w1_intI, w1_intB, w2_max, w2_min, w1_str, w1_lenS, w1_lenL, w1_lenR, w1_lenT, w1_type, w1_all, w1_not, w1_S0, w2_join, wtr_bl, asQ_tup, asQ_lst,
  List.map_cons, List.map_nil, List.cons_append, List.nil_append, List.replicate_succ, List.replicate_zero, List.getElem?_cons_zero, List.getElem?_cons_succ, List.set_cons_zero, List.set_cons_succ, List.length_cons, List.length_nil, Option.some.injEq, exists_eq_left', exists_eq_left, D.int.injEq, and_true, true_and, Nat.reduceAdd, Nat.reduceSub, Nat.reduceLT, Nat.lt_add_left_iff_pos, Nat.zero_lt_succ, List.length_replicate, List.length_append, List.length_map, List.cons.injEq, List.length_set, gSeq, decide_true, if_true, D.bl.injEq, Bool.not_true, Bool.not_false, Bool.false_eq_true, if_false, reduceCtorEq, false_and, or_false, false_or])
theorem isS_out {s : Str} {x : D} (h : isS s x = true) : x = .str s := by
  cases x <;> first | (cases h; done) | skip
  rw [of_decide_eq_true h]
theorem num_out {t : Int} {x : D} (h : numD t x = true) : ∃ i : Int, x = .int i ∧ 0 ≤ i ∧ i < t := by
  cases x <;> first | (cases h; done) | skip
  exact ⟨_, rfl, of_decide_eq_true h⟩
theorem set_out {t : Int} {x : D} (h : setD t x = true) : ∃ zs : List Int, x = .tup (zs.map D.int) ∧ zs ≠ [] ∧ ∀ z ∈ zs, 0 ≤ z ∧ z < t := by
  cases x <;> first | (cases h; done) | skip
  rename_i xs
  have h : setB t xs = true := h
  simp only [setB, Bool.and_eq_true] at h
  obtain ⟨zs, rfl, _, hz⟩ := nums h.1.2
  exact ⟨zs, rfl, fun e => (by subst e; cases h.1.1), hz⟩
theorem pairs_out {x : D} (h : pairsD x = true) : ∃ ps : List (Int × Int), x = .tup (ps.map pD) ∧ ps ≠ [] ∧ ∀ p ∈ ps, okQ p := by
  cases x <;> first | (cases h; done) | skip
  rename_i xs
  have h : pairsB xs = true := h
  simp only [pairsB, Bool.and_eq_true] at h
  obtain ⟨ps, rfl, _, hz⟩ := prs h.1.2
  exact ⟨ps, rfl, fun e => (by subst e; cases h.1.1), hz⟩
theorem step_out {p : Int} {d : D} (h : stepD p d = true) : (∃ w a b, d = .tup [.str w, a, b] ∧ (w = "leave" ∨ w = "fail") ∧ numD p a = true ∧ setD 6 b = true) ∨ (∃ a b c, d = .tup [.str "go", a, b, c] ∧ numD p a = true ∧ numD p b = true ∧ pairsD c = true) ∨
    (∃ a b c e f, d = .tup [.str "call", a, b, c, e, f] ∧ numD p a = true ∧ numD p b = true ∧ (isN f || numD p f) = true ∧ nameB c = true ∧ setD 6 e = true) := by
  unfold stepD at h
  split at h
  · rename_i x a r
    rw [Bool.and_eq_true] at h
    obtain ⟨ha, h⟩ := h
    unfold partsB at h
    split at h
    · rename_i b
      rw [Bool.and_eq_true, Bool.or_eq_true] at h
      obtain ⟨h1 | h1, h2⟩ := h
      · obtain rfl := isS_out h1
        exact .inl ⟨_, a, b, rfl, .inl rfl, ha, h2⟩
      · obtain rfl := isS_out h1
        exact .inl ⟨_, a, b, rfl, .inr rfl, ha, h2⟩
    · rename_i b c
      rw [Bool.and_eq_true, Bool.and_eq_true] at h
      obtain rfl := isS_out h.1.1
      exact .inr (.inl ⟨a, b, c, rfl, ha, h.1.2, h.2⟩)
    · rename_i b c e f
      rw [Bool.and_eq_true, Bool.and_eq_true, Bool.and_eq_true, Bool.and_eq_true] at h
      obtain ⟨⟨⟨⟨h1, h2⟩, h3⟩, h4⟩, h5⟩ := h
      obtain rfl := isS_out h1
      exact .inr (.inr ⟨a, b, c, e, f, rfl, ha, h2, h3, h4, h5⟩)
    · cases h
  · cases h
theorem at_neg {zs : List D} (h : zs ≠ []) : ∃ x, atI zs (-1) = some x ∧ x ∈ zs := by
  have hl : 0 < zs.length := List.length_pos_iff.mpr h
  unfold atI
  refine ⟨zs[zs.length - 1], ?_, List.getElem_mem _⟩
  have e : ixN zs.length (-1) = some (zs.length - 1) := by
    unfold ixN
    rw [if_neg (by omega), if_pos (by omega)]
    congr 1
    omega
  rw [e]
  exact List.getElem?_eq_getElem (by omega)
section
variable {V : D → Prop} {μ : List Cell} {n : Int}
theorem maxA_ints {zs : List Int} (h : zs ≠ []) : ∃ m : Int, dMaxA (.tup (zs.map D.int)) μ = some (.int m) := by
  cases zs with
  | nil => exact absurd rfl h
  | cons z zs => exact ⟨zs.foldl max z, by unfold dMaxA; simp only [intsOf_map]⟩
theorem maxA_lst {zs : List Int} (h : zs ≠ []) : ∃ m : Int, dMaxA (.lst (zs.map D.int)) μ = some (.int m) := by
  cases zs with
  | nil => exact absurd rfl h
  | cons z zs => exact ⟨maxI (z :: zs), by unfold dMaxA dMaxL asSL asL; simp only [intsOf_map]⟩
end
def mxD : D → D
  | .tup [.int a, .int b] => .int (max a b)
  | d => d
theorem gs_mem {k : Nat} {xs : List D} (h : gs k (.tup xs) = true) {x : D} (hx : x ∈ xs) : ∃ k', k = k' + 1 ∧ gs k' x = true := by
  obtain ⟨k', e, _, h'⟩ := gs_tup h
  exact ⟨k', e, h' x hx⟩
theorem highest {k : Nat} {p : Int} {ms : List D} (hm : ∀ m ∈ ms, stepD p m = true ∧ gs k m = true) (μ : List Cell) : ∃ n : Int, F_highest_mode [.tup ms] μ = some (.v (.int n), μ) := by
  suffices q : WF F_highest_mode [.tup ms] μ fun d μ' => (∃ n, d = .int n) ∧ μ' = μ by
    obtain ⟨d, μ', e, ⟨n, rfl⟩, rfl⟩ := q
    exact ⟨n, e⟩
  unfold F_highest_mode g_highest_mode
  walk_at "dl"
  refine ws_forInv (fun ds S => (∃ (n : Int) (b c e : Option D), S = ⟨[some (.tup ms), some (.int n), b, c, e], μ⟩) ∧ ∀ d ∈ ds, stepD p d = true ∧ gs k d = true) ?_ ?_ _ _ ⟨⟨_, _, _, _, rfl⟩, hm⟩
  · rintro d r S ⟨⟨n, b, c, e, rfl⟩, hd⟩
    have hgd := (hd d List.mem_cons_self).2
    have h0 := step_out (hd d List.mem_cons_self).1
    have hr : ∀ d ∈ r, stepD p d = true ∧ gs k d = true := fun x hx => hd x (List.mem_cons_of_mem _ hx)
    rcases h0 with ⟨w, x, y, rfl, hw, _, hy⟩ | ⟨x, y, z, rfl, _, _, hz⟩ | ⟨x, y, z, u, v, rfl, _, _, _, _, hu⟩
    · obtain ⟨zs, rfl, hne, _⟩ := set_out hy
      obtain ⟨o, e1, hmo⟩ := at_neg (zs := zs.map D.int) (by simpa using hne)
      obtain ⟨i, _, rfl⟩ := List.mem_map.mp hmo
      have f1 : decide (w = "go") = false := decide_eq_false (by rcases hw with rfl | rfl <;> decide)
      have f2 : decide (w = "call") = false := decide_eq_false (by rcases hw with rfl | rfl <;> decide)
      walk_at "dl"
      simp only [at0, at1, at2, Option.some.injEq, exists_eq_left']
      walk_at "dl"
      simp only [f1]
      walk_at "dl"
      simp only [f2]
      walk_at "dl"
      refine ⟨_, e1, ?_⟩
      walk_at "dl"
      exact ⟨⟨_, _, _, _, rfl⟩, hr⟩
    · obtain ⟨ps, rfl, hne, _⟩ := pairs_out hz
      walk_at "dl"
      simp only [at0, at1, at2, at3, Option.some.injEq, exists_eq_left']
      walk_at "dl"
      have hl : ps.length ≤ 40 := by
        obtain ⟨k', rfl, h1⟩ := gs_mem hgd (x := .tup (ps.map pD)) (by simp)
        obtain ⟨_, _, h2, _⟩ := gs_tup h1
        rwa [List.length_map] at h2
      obtain ⟨ys, μ', e2, e3, e4⟩ := wlc_map (b := bName 4) (q := mxD) (fa := fApp (g1 dMaxA) (fCons (fV 4) fNil)) (ρ := wipeR
      [some (D.tup ms), some (D.int n), some (D.tup [D.str (Str.ofString "go"), x, y, D.tup (List.map pD ps)]), c, e] [4]) (μ := μ) (ds := ps.map pD) fun d hd => by
        obtain ⟨q, _, rfl⟩ := List.mem_map.mp hd
        simp only [wipeR]
        walk_at "dl"
        rw [w1_of (r := .int (max q.1 q.2)) rfl]
        rfl
      subst e4
      refine ⟨_, _, e2, ?_⟩
      have e5 : ys = (ps.map fun q => max q.1 q.2).map D.int := by
        rw [e3, List.map_map, List.map_map]
        rfl
      have hl2 : ys.length ≤ 40 := by rw [e5, List.length_map, List.length_map]; exact hl
      refine ⟨Nat.le_trans hl2 (by decide), ys, rfl, Nat.le_trans (show ys.length + 0 + 1 ≤ 41 by omega) (by decide), ?_⟩
      obtain ⟨m, em⟩ := maxA_lst (μ := μ') (zs := n :: ps.map fun q => max q.1 q.2) (by simp)
      rw [w1_of (r := .int m) (by rw [List.append_nil, e5]; exact em)]
      exact ⟨⟨_, _, _, _, rfl⟩, hr⟩
    · obtain ⟨zs, rfl, hne, _⟩ := set_out hu
      obtain ⟨o, e1, hmo⟩ := at_neg (zs := zs.map D.int) (by simpa using hne)
      obtain ⟨i, _, rfl⟩ := List.mem_map.mp hmo
      have f1 : decide (("call" : Str) = "go") = false := by decide
      walk_at "dl"
      simp only [at0, at1, at2, Option.some.injEq, exists_eq_left']
      walk_at "dl"
      simp only [f1]
      walk_at "dl"
      simp only [at4, Option.some.injEq, exists_eq_left']
      walk_at "dl"
      refine ⟨_, e1, ?_⟩
      walk_at "dl"
      exact ⟨⟨_, _, _, _, rfl⟩, hr⟩
  · rintro S ⟨⟨n, b, c, e, rfl⟩, _⟩
    walk_at "dl"
    exact ⟨n, rfl⟩
theorem wlc_some {b : Bd} {t : EvT} {fa : EvE} {ρ : List (Option D)} {μ : List Cell} : ∀ {ds : List D}, (∀ d ∈ ds, WB b d ⟨ρ, μ⟩ fun S1 => WT t ⟨S1.ρ, S1.μ⟩ fun k μ1 => μ1 = μ ∧ (k = true → WE fa ⟨S1.ρ, μ⟩ fun _ μ' => μ' = μ)) → WLc b t fa ρ ds μ fun xs μ' => xs.length ≤ ds.length ∧ μ' = μ
  | [], _ => wlc_nil.mpr ⟨Nat.le_refl _, rfl⟩
  | d :: ds, h => by
    obtain ⟨S1, e0, k, μ1, e1, em, hk⟩ := h d List.mem_cons_self
    obtain ⟨xs, μ2, e2, hl, em2⟩ := wlc_some fun x hx => h x (List.mem_cons_of_mem _ hx)
    obtain rfl := em.symm
    obtain rfl := em2.symm
    rw [wlc_cons]
    refine ⟨S1, e0, k, _, e1, ?_⟩
    cases k with
    | true =>
      obtain ⟨x, μ3, e3, em3⟩ := hk rfl
      obtain rfl := em3.symm
      exact iteT ⟨_, _, e3, _, _, e2, by simp only [List.length_cons]; omega, rfl⟩
    | false => exact iteF ⟨_, _, e2, by simp only [List.length_cons]; omega, rfl⟩
/-- what a procedure keeps -/
def pf (c s o hi cs : D) : List (Str × D) := [("_called", c), ("_points", s), ("_moves", o), ("_highest", hi), ("_callees", cs)]
theorem ws_fldD {ns : List Str} {fl : Str} {fo fe : EvE} {ρ : List (Option D)} {μ : List Cell} {U : Fl → Sg → Prop} : WS (sFldD ns fl fo fe) ⟨ρ, μ⟩ U ↔ WE fe ⟨ρ, μ⟩ fun d μ1 => WE fo ⟨ρ, μ1⟩ fun ob μ2 => ∃ μ3, cFld ns fl ob d μ2 = some μ3 ∧ U .nx ⟨ρ, μ3⟩ := by
  constructor
  · rintro ⟨f, S', e, p⟩
    unfold sFldD at e
    split at e
    · rename_i d μ1 ea
      split at e
      · rename_i ob μ2 eb
        split at e
        · rename_i μ3 ec
          obtain ⟨rfl, rfl⟩ := pr_inj e
          exact ⟨_, _, ea, _, _, eb, _, ec, p⟩
        · cases e
      · cases e
    · cases e
  · rintro ⟨d, μ1, ea, ob, μ2, eb, μ3, ec, p⟩
    exact ⟨_, _, by unfold sFldD; rw [ea]; simp only; rw [eb]; simp only; rw [ec], p⟩
theorem cFld_iff {k : Nat} {fl : Str} {d : D} {μ : List Cell} {fs : List (Str × D)} {Z : List Cell → Prop} (h : μ[k]? = some (.obj "Procedure" fs)) (hl : fs.length < 1000) : (∃ μ3, cFld ["Procedure"] fl (.h k) d μ = some μ3 ∧ Z μ3) ↔ Z (μ.set k (.obj "Procedure" (putD fl d fs))) := by
  have e : cFld ["Procedure"] fl (.h k) d μ = some (μ.set k (.obj "Procedure" (putD fl d fs))) := by
    unfold cFld
    simp only [h]
    rw [if_pos ⟨List.mem_cons_self, hl⟩]
  rw [e]
  exact ⟨fun ⟨z, e, p⟩ => by cases e; exact p, fun p => ⟨_, rfl, p⟩⟩
theorem putD_lt {f : Str} {d : D} : ∀ {fs : List (Str × D)} {n : Nat}, fs.length < n → (putD f d fs).length < n + 1
  | [], n, h => by
    show 1 < n + 1
    have h : 0 < n := h
    omega
  | (g, x) :: r, n, h => by
    unfold putD
    split
    · simp only [List.length_cons] at h ⊢
      omega
    · simp only [List.length_cons] at h ⊢
      have := putD_lt (f := f) (d := d) (fs := r) (n := n - 1) (by omega)
      omega
theorem p0 : ([] : List (Str × D)).length < 1 := by decide
theorem init_ok {k j : Nat} {c s : D} {ms : List D} {μ : List Cell} (hc : gs k c = true) (hs : gs k s = true) (ho : gs k (.tup ms) = true) (hk : k ≤ 50) (hj : μ[j]? = some (.obj "Procedure" [])) :
    WFX F_Procedure_init (.h j :: c :: s :: ms) μ fun r μ' => (dueB c s (.tup ms) = true ∧ r = .v .non ∧ ∃ hi cs, μ' = μ.set j (.obj "Procedure" (pf c s (.tup ms) hi cs))) ∨ (dueB c s (.tup ms) = false ∧ r = .x "InvalidProgram" none ∧ μ' = μ) := by
  have hl40 : ms.length ≤ 40 := by obtain ⟨_, _, h, _⟩ := gs_tup ho; exact h
  suffices q : WFX (fnF 4 5 g_Procedure_init) [.h j, c, s, .tup ms] μ fun r μ' => (dueB c s (.tup ms) = true ∧ r = .v .non ∧ ∃ hi cs, μ' = μ.set j (.obj "Procedure" (pf c s (.tup ms) hi cs))) ∨ (dueB c s (.tup ms) = false ∧ r = .x "InvalidProgram" none ∧ μ' = μ) by
    obtain ⟨r, μ', e, q⟩ := q
    refine ⟨r, μ', ?_, q⟩
    unfold F_Procedure_init starF
    have h1 : (D.h j :: c :: s :: ms).length - 3 ≤ sizeLine := by
      simp only [List.length_cons, Nat.add_sub_cancel]
      exact Nat.le_trans hl40 (by decide)
    rw [if_pos ⟨by simp only [List.length_cons]; omega, h1⟩]
    exact e
  unfold g_Procedure_init
  simp only [wfx_fn]
  walk_at "dl"
  rw [wf_eq (isname (gs_pl hc) (gs_sh hc) μ)]
  walk_at "dl"
  cases hn : nameB c with
  | false =>
    walk_at "dl"
    simp only [ws_raise, Nx_ex, FeX_ex]
    exact .inr ⟨by simp [dueB, hn], trivial, trivial⟩
  | true =>
    walk_at "dl"
    rw [wf_eq (whole (gs_pl hs))]
    walk_at "dl"
    cases hw : whB 1 8 s with
    | false =>
      walk_at "dl"
      simp only [ws_raise, Nx_ex, FeX_ex]
      refine .inr ⟨?_, trivial, trivial⟩
      cases s <;> first | (simp [dueB]; done) | skip
      rename_i i
      have hw : decide (1 ≤ i ∧ i ≤ 8) = false := hw
      have := of_decide_eq_false hw
      simp [dueB, this]
    | true =>
      walk_at "dl"
      cases s <;> first | (cases hw; done) | skip
      rename_i p
      have hw := of_decide_eq_true (show decide (1 ≤ p ∧ p ≤ 8) = true from hw)
      rw [wf_eq (ismoves ho hk μ)]
      walk_at "dl"
      cases hb : movesB p ms with
      | false =>
        walk_at "dl"
        simp only [ws_raise, Nx_ex, FeX_ex]
        exact .inr ⟨by simp [dueB, hb], trivial, trivial⟩
      | true =>
        walk_at "dl"
        have hm : ∀ m ∈ ms, stepD p m = true ∧ gs (k - 1) m = true := fun m hm => by
          obtain ⟨k', rfl, hg⟩ := gs_mem ho hm
          simp only [movesB, Bool.and_eq_true, List.all_eq_true] at hb
          exact ⟨hb.2 m hm, hg⟩
        simp only [ws_fldD]
        walk_at "dl"
        have c1 : ∀ fs, (μ.set j (.obj "Procedure" fs))[j]? = some (.obj "Procedure" fs) := fun fs => cell_set hj
        have hdue : dueB c (.int p) (.tup ms) = true := by simp [dueB, hn, hw, hb]
        rw [cFld_iff hj (by decide)]
        simp only [ws_fldD]
        walk_at "dl"
        rw [cFld_iff (c1 _) (Nat.lt_of_lt_of_le (putD_lt p0) (by decide))]
        (try walk_at "dl")
        simp only [ws_fldD, set_set]
        walk_at "dl"
        rw [cFld_iff (c1 _) (Nat.lt_of_lt_of_le (putD_lt (putD_lt p0)) (by decide))]
        (try walk_at "dl")
        simp only [ws_fldD, set_set]
        walk_at "dl"
        obtain ⟨n, en⟩ := highest hm (μ.set j (.obj "Procedure" (putD "_moves" (.tup ms) (putD "_points" (.int p) (putD "_called" c [])))))
        rw [wf_eq en]
        (try walk_at "dl")
        rw [cFld_iff (c1 _) (Nat.lt_of_lt_of_le (putD_lt (putD_lt (putD_lt p0))) (by decide))]
        (try walk_at "dl")
        simp only [ws_fldD, set_set]
        walk_at "dl"
        obtain ⟨cs, μ', e, hl, hm'⟩ := wlc_some (b := bName 4) (t := fTru (fB dEqW (fB dIx (fV 4) (fC (D.int 0))) (fC (D.str (Str.ofString "call"))))) (fa := fB dIx (fV 4) (fC (D.int 3))) (ρ := wipeR [some (D.h j), some c, some (D.int p), some (D.tup ms), none] [4]) (ds := ms)
          (μ := μ.set j (.obj "Procedure" (putD "_highest" (.int n) (putD "_moves" (.tup ms) (putD "_points" (.int p) (putD "_called" c [])))))) fun d hd => by
          simp only [wipeR]
          walk_at "dl"
          rcases step_out (hm d hd).1 with ⟨w, x, y, rfl, hw, _, hy⟩ | ⟨x, y, z, rfl, _, _, hz⟩ | ⟨x, y, z, u, v, rfl, _, _, _, _, hu⟩
          · walk_at "dl"
            simp only [at0, Option.some.injEq, exists_eq_left']
            walk_at "dl"
            have f2 : decide (w = "call") = false := decide_eq_false (by rcases hw with rfl | rfl <;> decide)
            simp only [f2]
            exact fun h => by cases h
          · walk_at "dl"
            simp only [at0, Option.some.injEq, exists_eq_left']
            walk_at "dl"
            have f2 : decide (("go" : Str) = "call") = false := by decide
            simp only [f2]
            exact fun h => by cases h
          · walk_at "dl"
            simp only [at0, Option.some.injEq, exists_eq_left']
            walk_at "dl"
            intro _
            simp only [at3, Option.some.injEq, exists_eq_left']
            exact ⟨_, rfl⟩
        subst hm'
        refine ⟨_, _, e, Nat.le_trans hl (Nat.le_trans hl40 (by decide)), ?_⟩
        rw [cFld_iff (c1 _) (Nat.lt_of_lt_of_le (putD_lt (putD_lt (putD_lt (putD_lt p0)))) (by decide))]
        simp only [set_set, Fe_nx, FeX_nx]
        refine .inl ⟨hdue, trivial, .int n, .tup cs, ?_⟩
        rfl
def ofF : FnF := clsF "Procedure" (only 4 F_Procedure_of)
/-- what making a procedure does -/
def Made (c s o : D) (μ : List Cell) (r : Ov) (μ' : List Cell) : Prop := (dueB c s o = true ∧ r = .v (.h μ.length) ∧ ∃ hi cs, μ' = μ ++ [.obj "Procedure" (pf c s o hi cs)]) ∨ (dueB c s o = false ∧ r = .x "InvalidProgram" none ∧ (μ' = μ ∨ ∃ c, μ' = μ ++ [c]))
theorem mk_ok {k : Nat} {c s : D} {ms : List D} {μ : List Cell} (hc : gs k c = true) (hs : gs k s = true) (ho : gs k (.tup ms) = true) (hk : k ≤ 50) : WFX (mkF "Procedure" F_Procedure_init) (c :: s :: ms) μ (Made c s (.tup ms) μ) := by
  have hj : (μ ++ [Cell.obj "Procedure" []])[μ.length]? = some (.obj "Procedure" []) := by simp
  obtain ⟨r, μ', e, q⟩ := init_ok hc hs ho hk hj
  unfold WFX mkF
  rw [e]
  rcases q with ⟨hd, rfl, hi, cs, rfl⟩ | ⟨hd, rfl, rfl⟩
  · exact ⟨_, _, rfl, .inl ⟨hd, rfl, hi, cs, by simp⟩⟩
  · exact ⟨_, _, rfl, .inr ⟨hd, rfl, .inr ⟨_, rfl⟩⟩⟩
theorem of_ok {k : Nat} {c s o : D} {μ : List Cell} (hc : gs k c = true) (hs : gs k s = true) (ho : gs k o = true) (hk : k ≤ 50) : WFX ofF [c, s, o] μ (Made c s o μ) := by
  suffices q : WFX (fnF 4 4 g_Procedure_of) [.cls "Procedure", c, s, o] μ (Made c s o μ) by
    obtain ⟨r, μ', e, q⟩ := q
    exact ⟨r, μ', by unfold ofF clsF only; rw [if_pos (by rfl)]; exact e, q⟩
  unfold g_Procedure_of
  simp only [wfx_fn]
  walk_at "dl"
  have po := gs_pl ho
  simp only [isiT po]
  walk_at "dl"
  cases o <;> first | (cases po; done) | skip
  all_goals (simp only [isTupD]; walk_at "dl"; (try simp only [ws_raise, Nx_ex, FeX_ex]))
  all_goals first | (refine .inr ⟨?_, rfl, .inl rfl⟩; cases s <;> simp [dueB]; done) | skip
  rename_i ms
  simp only [ws_retX]
  obtain ⟨r, μ', e, q⟩ := mk_ok (μ := μ) hc hs ho hk
  refine ⟨r, μ', ?_, ?_⟩
  · show (if (("Procedure" : Str) = "Procedure") then fCallR (mkF "Procedure" F_Procedure_init) _ _ else none) = _
    rw [if_pos rfl]
    unfold fCallR
    have ea : (fCons (fV 1) (fCons (fV 2) (fStar (fV 3) fNil))) ⟨[some (D.cls (Str.ofString "Procedure")), some c, some s, some (D.tup ms)], μ⟩ = some (c :: s :: ms, μ) := by
      show some (c :: s :: (ms ++ []), μ) = _
      rw [List.append_nil]
    rw [ea]
    exact e
  · rcases q with ⟨hd, rfl, q⟩ | ⟨hd, rfl, q⟩
    · exact .inl ⟨hd, rfl, q⟩
    · exact .inr ⟨hd, rfl, q⟩
end G
namespace G
open PySem L2 DL PySem.DLQ
local macro_rules | `(tactic| walk_at "dl") => `(tactic| simp only [wf_fn, ws_seq, ws_then, ws_drop, ws_nx, ws_bk, ws_ct, ws_ret, ws_if, ws_for, wb_name, wb_sub, wb_tup, wb_seq, wbs_nil, wbs_cons, cSet_iff, we_V, we_C, we_B, we_U, we_App, we_newC, we_call, we_AndV, we_OrV, we_IfE, we_Ch, we_Lc, we_Sl, we_Apn, we_Pop, we_ListC, wa_nil, wa_cons, wa_len, wa_star, wo_no, wo_part, isI_i, sl_tup, sl_lst,
  wl_1, wl_2, wl_lst, wl_tup, wt_Tru, wt_Not, wt_And, wt_Or, wt_true, wi_seq, wi_rng1, wi_zip, Nx_nx, Nx_rt, Nx_bk, Nx_ct, Nx_ex, Fe_rt, Fe_nx, Tn_nx, Tn_ct, Tn_bk, Tn_rt, Tn_ex,
  w2_addAI, w2_addAS, w2_addAT, w2_addAL, w2_addAH, w2_mulAI, w2_mulAT, w2_mulAL, w2_ltAI, w2_eqWI, w2_neWI, w2_neWN, w2_neWB, w2_eqWS, w2_neWS, w1_listT, w1_tupL, w1_lenH, w1_rev, w2_II, gSub_iff, gMod_iff, gFdiv_iff, gPow_iff, w1_neg, w2_ordI, w2_ordS, w2_is, w2_isNot, w2_ixL, w2_ixR, w2_ixT, w2_ixS, w2_ixH, w1_abs, w1_intI, w1_intB, w2_max, w2_min, w1_str, w1_lenS, w1_lenL, w1_lenR, w1_lenT, w1_type, w1_all, w1_not, w1_S0, w2_join, wtr_bl, asQ_tup, asQ_lst,
  List.map_cons, List.map_nil, List.cons_append, List.nil_append, List.replicate_succ, List.replicate_zero, List.getElem?_cons_zero, List.getElem?_cons_succ, List.set_cons_zero, List.set_cons_succ, List.length_cons, List.length_nil, Option.some.injEq, exists_eq_left', exists_eq_left, D.int.injEq, and_true, true_and, Nat.reduceAdd, Nat.reduceSub, Nat.reduceLT, Nat.lt_add_left_iff_pos, Nat.zero_lt_succ, List.length_replicate, List.length_append, List.length_map, List.cons.injEq, List.length_set, gSeq, decide_true, if_true, D.bl.injEq, Bool.not_true, Bool.not_false, Bool.false_eq_true, if_false, reduceCtorEq, false_and, or_false, false_or])
section
variable {ρ : List (Option D)} {μ : List Cell} {P : D → List Cell → Prop} {fa fb : EvE} {fs : EvA}
theorem we_prop {nm : Str} {F : FnF} : WE (fProp nm F fa) ⟨ρ, μ⟩ P ↔ WE fa ⟨ρ, μ⟩ fun x μ1 => ∃ k fs, x = .h k ∧ μ1[k]? = some (.obj nm fs) ∧ WF F [.h k] μ1 P := by
  constructor
  · rintro ⟨d, μ', e, p⟩
    unfold fProp at e
    split at e
    · rename_i k μ1 ea
      split at e
      · rename_i n fs' eo
        split at e
        · rename_i hn
          subst hn
          split at e
          · rename_i d' μ2 eF
            obtain ⟨rfl, rfl⟩ := pr_inj e
            exact ⟨_, _, ea, k, fs', rfl, eo, _, _, eF, p⟩
          · cases e
        · cases e
      · cases e
    · cases e
  · rintro ⟨x, μ1, ea, k, fs', rfl, eo, d, μ2, eF, p⟩
    exact ⟨d, μ2, by unfold fProp; rw [ea]; simp only [eo]; rw [if_pos trivial, eF], p⟩
theorem we_BM {G : GX} : WE (fBM G fa fb) ⟨ρ, μ⟩ P ↔ WE fa ⟨ρ, μ⟩ fun a μ1 => WE fb ⟨ρ, μ1⟩ fun b μ2 => ∃ z, G a b μ2 = some z ∧ P z.1 z.2 := by
  constructor
  · rintro ⟨d, μ', e, p⟩
    unfold fBM at e
    obtain ⟨⟨a, μ1⟩, ea, e⟩ := Option.bind_eq_some_iff.mp e
    obtain ⟨⟨b, μ2⟩, eb, e⟩ := Option.bind_eq_some_iff.mp e
    exact ⟨a, μ1, ea, b, μ2, eb, _, e, p⟩
  · rintro ⟨a, μ1, ea, b, μ2, eb, z, ez, p⟩
    exact ⟨z.1, z.2, by unfold fBM; rw [ea]; simp only [Option.bind_some]; rw [eb]; exact ez, p⟩
theorem we_AppM {G : GC} : WE (fAppM G fs) ⟨ρ, μ⟩ P ↔ WA fs ⟨ρ, μ⟩ fun ds μ1 => ∃ z, G ds μ1 = some z ∧ P z.1 z.2 := by
  constructor
  · rintro ⟨d, μ', e, p⟩
    unfold fAppM at e
    obtain ⟨⟨a, μ1⟩, ea, e⟩ := Option.bind_eq_some_iff.mp e
    exact ⟨a, μ1, ea, _, e, p⟩
  · rintro ⟨a, μ1, ea, z, ez, p⟩
    exact ⟨z.1, z.2, by unfold fAppM; rw [ea]; exact ez, p⟩
def MetP (h : Str → Option Bool) (d : D) (P : D → List Cell → Prop) (o : Ov) (μ' : List Cell) : Prop := match o with
  | .v y => P y μ'
  | .x n none => h n = some true ∧ P d μ'
  | .x _ (some _) => False
theorem we_met {j : Nat} {x q : Str} {h : Str → Option Bool} {d : D} {f : EvX} : WE (fMet j x q h d f) ⟨ρ, μ⟩ P ↔ μ[j]? = some (.tab x q) ∧ WEX f ⟨ρ, μ⟩ (MetP h d P) := by
  constructor
  · rintro ⟨z, μ', e, p⟩
    unfold fMet at e
    simp only at e
    split at e
    · rename_i x' q' eo
      split at e
      · rename_i hh
        obtain ⟨rfl, rfl⟩ := hh
        refine ⟨eo, ?_⟩
        split at e
        · rename_i y μ1 ef
          obtain ⟨rfl, rfl⟩ := pr_inj e
          exact ⟨_, _, ef, p⟩
        · rename_i n μ1 ef
          split at e
          · rename_i hn
            obtain ⟨rfl, rfl⟩ := pr_inj e
            exact ⟨_, _, ef, hn, p⟩
          · cases e
        · cases e
      · cases e
    · cases e
  · rintro ⟨eo, o, μ1, ef, p⟩
    cases o with
    | v y => exact ⟨y, μ1, by unfold fMet; simp only [eo]; rw [if_pos ⟨trivial, trivial⟩, ef], p⟩
    | x n q =>
      cases q with
      | none => exact ⟨d, μ1, by unfold fMet; simp only [eo]; rw [if_pos ⟨trivial, trivial⟩, ef]; simp only; rw [if_pos p.1], p.2⟩
      | some _ => exact p.elim
theorem wx_R {F : FnF} {Y : Ov → List Cell → Prop} : WEX (fCallR F fs) ⟨ρ, μ⟩ Y ↔ WA fs ⟨ρ, μ⟩ fun ds μ1 => WFX F ds μ1 Y := by
  constructor
  · rintro ⟨d, μ', e, p⟩
    unfold fCallR at e
    obtain ⟨⟨a, μ1⟩, ea, e⟩ := Option.bind_eq_some_iff.mp e
    exact ⟨a, μ1, ea, _, _, e, p⟩
  · rintro ⟨a, μ1, ea, z, μ2, ez, p⟩
    exact ⟨z, μ2, by unfold fCallR; rw [ea]; exact ez, p⟩
end
/-! a procedure among the cells -/
def Ob (c s o : D) (j : Nat) (μ : List Cell) : Prop := ∃ hi cs, μ[j]? = some (.obj "Procedure" (pf c s o hi cs))
section
variable {c s o c' s' o' : D} {j j' : Nat} {μ : List Cell}
theorem Ob.called (h : Ob c s o j μ) : dFld ["Procedure"] "_called" (.h j) μ = some c := by
  obtain ⟨hi, cs, e⟩ := h
  unfold dFld
  simp only [e]
  rfl
theorem Ob.points (h : Ob c s o j μ) : dFld ["Procedure"] "_points" (.h j) μ = some s := by
  obtain ⟨hi, cs, e⟩ := h
  unfold dFld
  simp only [e]
  rfl
theorem Ob.moves (h : Ob c s o j μ) : dFld ["Procedure"] "_moves" (.h j) μ = some o := by
  obtain ⟨hi, cs, e⟩ := h
  unfold dFld
  simp only [e]
  rfl
theorem Ob.called' (h : Ob c s o j μ) : F_Procedure_called [.h j] μ = some (.v c, μ) := by
  apply to_eq
  unfold F_Procedure_called g_Procedure_called
  walk_at "dl"
  rw [w1_of h.called]
theorem Ob.points' (h : Ob c s o j μ) : F_Procedure_points [.h j] μ = some (.v s, μ) := by
  apply to_eq
  unfold F_Procedure_points g_Procedure_points
  walk_at "dl"
  rw [w1_of h.points]
theorem Ob.moves' (h : Ob c s o j μ) : F_Procedure_moves [.h j] μ = some (.v o, μ) := by
  apply to_eq
  unfold F_Procedure_moves g_Procedure_moves
  walk_at "dl"
  rw [w1_of h.moves]
theorem Ob.isO (h : Ob c s o j μ) : DL.isO "Procedure" (.h j) μ = true := by
  obtain ⟨hi, cs, e⟩ := h
  unfold DL.isO
  simp only [e]
  rfl
/-- == of data -/
def eqD (d e : D) : Bool := match toR d, toR e with
  | some p, some q => PyData.eqv p q
  | _, _ => false
def Lay (d : D) : Prop := ∃ q, toR d = some q ∧ q.canLay0 = true
theorem eqW_gs {k : Nat} {d e : D} (a : gs k d = true) (b : gs k e = true) (l : Lay e) (hk : k ≤ 50) : eqW d e μ = some (eqD d e) := by
  obtain ⟨p, a⟩ := gs_im k a
  obtain ⟨q, b⟩ := gs_im k b
  obtain ⟨q', l1, l2⟩ := l
  have e1 := b.r
  rw [l1] at e1
  cases e1
  rw [eqW_of a b l2 (by omega) (by omega)]
  unfold eqD
  rw [a.r, b.r]
theorem neW_gs {k : Nat} {d e : D} (a : gs k d = true) (b : gs k e = true) (l : Lay e) (l2 : Lay d) (hk : k ≤ 50) : neW d e μ = some (!eqD d e) := by
  obtain ⟨p, a⟩ := gs_im k a
  obtain ⟨q, b⟩ := gs_im k b
  obtain ⟨q', l1, l3⟩ := l
  obtain ⟨p', l4, l5⟩ := l2
  have e1 := b.r
  rw [l1] at e1
  cases e1
  have e2 := a.r
  rw [l4] at e2
  cases e2
  rw [neW_of a b l3 (by omega) (by omega) fun h => by cases p <;> first | (cases h; done) | (cases l5; done)]
  unfold eqD
  rw [a.r, b.r]
theorem eqD_refl {d : D} (h : Lay d) : eqD d d = true := by
  obtain ⟨q, e, l⟩ := h
  unfold eqD
  rw [e]
  exact SeqAt.eqv_refl q l
theorem eqD_lst {a b e a' b' e' : D} {p q r p' q' r' : PyData} (h1 : toR a = some p) (h2 : toR b = some q) (h3 : toR e = some r) (g1 : toR a' = some p') (g2 : toR b' = some q') (g3 : toR e' = some r') : eqD (.lst [a, b, e]) (.lst [a', b', e']) = (eqD a a' && (eqD b b' && eqD e e')) := by
  unfold eqD
  simp only [toR, toRs, h1, h2, h3, g1, g2, g3, Option.map_some, PyData.eqv.eq_7, PyData.eqvAll.eq_2, PyData.eqvAll.eq_1, Bool.and_true]
theorem lay_num {t : Int} {d : D} (h : numD t d = true) : Lay d := by
  obtain ⟨i, rfl, _⟩ := num_out h
  exact ⟨.int i, by simp only [toR], rfl⟩
theorem lay_name {k : Nat} {d : D} (h : nameB d = true) (g : gs k d = true) : Lay d := by
  cases d <;> first | (cases h; done) | skip
  rename_i z
  have g' := gs_sh g
  simp only [sh12, Bool.and_eq_true] at g'
  exact ⟨.str z, by simp only [toR], by simpa only [PyData.canLay0] using g'.1⟩
theorem lay_set {t : Int} {d : D} (h : setD t d = true) : Lay d := by
  obtain ⟨zs, rfl, _⟩ := set_out h
  exact ⟨.tuple (zs.map .int), by simp only [toR, toRs_ints, Option.map_some], by simp only [PyData.canLay0]; exact lay_ints zs⟩
theorem lay_pairs {d : D} (h : pairsD d = true) : Lay d := by
  obtain ⟨ps, rfl, _⟩ := pairs_out h
  exact ⟨.tuple (ps.map pP), by simp only [toR, toRs_prs, Option.map_some], by simp only [PyData.canLay0]; exact lay_prs ps⟩
theorem lay_lit (s : String) : Lay (.str (Str.ofString s)) := ⟨.str (Str.ofString s), by simp only [toR], by simpa only [PyData.canLay0] using lit_ok s⟩
theorem lay_tup : ∀ {xs : List D}, (∀ x ∈ xs, Lay x) → ∃ ps, toRs xs = some ps ∧ PyData.canLayAll0 ps = true
  | [], _ => ⟨[], by simp only [toRs], rfl⟩
  | x :: xs, h => by
    obtain ⟨p, e1, l1⟩ := h x List.mem_cons_self
    obtain ⟨ps, e2, l2⟩ := lay_tup fun y hy => h y (List.mem_cons_of_mem _ hy)
    exact ⟨p :: ps, by simp only [toRs, e1, e2], by simp only [PyData.canLayAll0, l1, l2, Bool.and_self]⟩
theorem Lay.tup {xs : List D} (h : ∀ x ∈ xs, Lay x) : Lay (.tup xs) := by
  obtain ⟨ps, e, l⟩ := lay_tup h
  exact ⟨.tuple ps, by simp only [toR, e, Option.map_some], by simpa only [PyData.canLay0] using l⟩
theorem Lay.lst {xs : List D} (h : ∀ x ∈ xs, Lay x) : Lay (.lst xs) := by
  obtain ⟨ps, e, l⟩ := lay_tup h
  exact ⟨.list ps, by simp only [toR, e, Option.map_some], by simpa only [PyData.canLay0] using l⟩
theorem lay_step {k : Nat} {p : Int} {d : D} (h : stepD p d = true) (g : gs k d = true) : Lay d := by
  rcases step_out h with ⟨w, x, y, rfl, hw, hx, hy⟩ | ⟨x, y, z, rfl, hx, hy, hz⟩ | ⟨x, y, z, u, v, rfl, hx, hy, hv, hz, hu⟩
  · refine Lay.tup fun e he => ?_
    simp only [List.mem_cons, List.not_mem_nil, or_false] at he
    rcases he with rfl | rfl | rfl
    · rcases hw with rfl | rfl <;> exact lay_lit _
    · exact lay_num hx
    · exact lay_set hy
  · refine Lay.tup fun e he => ?_
    simp only [List.mem_cons, List.not_mem_nil, or_false] at he
    rcases he with rfl | rfl | rfl | rfl
    · exact lay_lit _
    · exact lay_num hx
    · exact lay_num hy
    · exact lay_pairs hz
  · refine Lay.tup fun e he => ?_
    simp only [List.mem_cons, List.not_mem_nil, or_false] at he
    rcases he with rfl | rfl | rfl | rfl | rfl | rfl
    · exact lay_lit _
    · exact lay_num hx
    · exact lay_num hy
    · obtain ⟨k', rfl, gz⟩ := gs_mem g (x := e) (by simp)
      exact lay_name hz gz
    · exact lay_set hu
    · rw [Bool.or_eq_true] at hv
      rcases hv with hv | hv
      · cases e <;> first | (cases hv; done) | skip
        exact ⟨.none, by simp only [toR], rfl⟩
      · exact lay_num hv
theorem due_out {c s o : D} (h : dueB c s o = true) : nameB c = true ∧ ∃ (p : Int) (ms : List D), s = .int p ∧ o = .tup ms ∧ 1 ≤ p ∧ p ≤ 8 ∧ ms.length ≤ 16 ∧ ∀ m ∈ ms, stepD p m = true := by
  unfold dueB at h
  rw [Bool.and_eq_true] at h
  refine ⟨h.1, ?_⟩
  have h2 := h.2
  split at h2
  · rename_i p
    rw [Bool.and_eq_true] at h2
    have h3 := of_decide_eq_true h2.1
    have h4 := h2.2
    split at h4
    · rename_i ms
      simp only [movesB, Bool.and_eq_true, decide_eq_true_eq, List.all_eq_true] at h4
      exact ⟨p, ms, rfl, rfl, h3.1, h3.2, h4.1, h4.2⟩
    · cases h4
  · cases h2
theorem due_lay {k : Nat} (h : dueB c s o = true) (hc : gs k c = true) (ho : gs k o = true) : Lay c ∧ Lay s ∧ Lay o := by
  obtain ⟨hn, p, ms, rfl, rfl, _, _, _, hm⟩ := due_out h
  refine ⟨lay_name hn hc, ⟨.int p, by simp only [toR], rfl⟩, Lay.tup fun m hm' => ?_⟩
  obtain ⟨k', rfl, g⟩ := gs_mem ho hm'
  exact lay_step (hm m hm') g
/-- two procedures against each other -/
theorem proc_eq {k : Nat} (h : Ob c s o j μ) (h' : Ob c' s' o' j' μ) (l : Lay c ∧ Lay s ∧ Lay o) (l' : Lay c' ∧ Lay s' ∧ Lay o') (g : gs k c = true ∧ gs k s = true ∧ gs k o = true) (g' : gs k c' = true ∧ gs k s' = true ∧ gs k o' = true) (hk : k ≤ 50) :
    F_Procedure_eq [.h j, .h j'] μ = some (.v (.bl (eqD c c' && (eqD s s' && eqD o o'))), μ) := by
  apply to_eq
  unfold F_Procedure_eq g_Procedure_eq
  walk_at "dl"
  rw [w2_of (r := .bl true) (by
    unfold dIsC
    simp only
    rw [if_pos trivial, h'.isO]
    rfl)]
  walk_at "dl"
  rw [w1_of h.called, w1_of h'.called, w2_of (by unfold dNeW; rw [neW_gs g.1 g'.1 l'.1 l.1 hk]; rfl)]
  walk_at "dl"
  cases e1 : eqD c c' with
  | false => walk_at "dl"; simp
  | true =>
    walk_at "dl"
    rw [w1_of h.points, w1_of h'.points, w2_of (by unfold dNeW; rw [neW_gs g.2.1 g'.2.1 l'.2.1 l.2.1 hk]; rfl)]
    walk_at "dl"
    cases e2 : eqD s s' with
    | false => walk_at "dl"; simp
    | true =>
      walk_at "dl"
      rw [w1_of h.moves, w1_of h'.moves, w2_of (by unfold dEqW; rw [eqW_gs g.2.2 g'.2.2 l'.2.2 hk]; rfl)]
      simp
theorem proc_no {y : D} (h : Ob c s o j μ) (hy : y = .non ∨ (∃ z, y = .str z) ∨ ∃ xs, y = .tup xs) : F_Procedure_eq [.h j, y] μ = some (.v (.bl false), μ) := by
  apply to_eq
  unfold F_Procedure_eq g_Procedure_eq
  walk_at "dl"
  rcases hy with rfl | ⟨z, rfl⟩ | ⟨xs, rfl⟩
  all_goals
    rw [w2_of (r := .bl false) (by unfold dIsC DL.isO; simp only [tyOf]; rfl)]
    walk_at "dl"
theorem own_eq {k : Nat} {g : Bool → Bool} (h : Ob c s o j μ) (h' : Ob c' s' o' j' μ) (l : Lay c ∧ Lay s ∧ Lay o) (l' : Lay c' ∧ Lay s' ∧ Lay o') (q : gs k c = true ∧ gs k s = true ∧ gs k o = true) (q' : gs k c' = true ∧ gs k s' = true ∧ gs k o' = true) (hk : k ≤ 50) :
    gOwn "Procedure" (only 2 F_Procedure_eq) g (.h j) (.h j') μ = some (.bl (g (eqD c c' && (eqD s s' && eqD o o'))), μ) := by
  have e : isR "Procedure" (.h j') μ = true := h'.isO
  unfold gOwn only
  rw [h.isO, e]
  simp only [Bool.and_self, if_true]
  rw [if_pos (by rfl), proc_eq h h' l l' q q' hk]
theorem own_no {y : D} {g : Bool → Bool} (h : Ob c s o j μ) (hy : y = .non ∨ (∃ z, y = .str z) ∨ ∃ xs, y = .tup xs) : gOwn "Procedure" (only 2 F_Procedure_eq) g (.h j) y μ = some (.bl (g false), μ) := by
  have e : isR "Procedure" y μ = true := by rcases hy with rfl | ⟨z, rfl⟩ | ⟨xs, rfl⟩ <;> rfl
  unfold gOwn only
  rw [h.isO, e]
  simp only [Bool.and_self, if_true]
  rw [if_pos (by rfl), proc_no h hy]
theorem own_len {ms : List D} (h : Ob c s (.tup ms) j μ) (hl : ms.length ≤ 40) : gOwn1 "Procedure" (only 1 F_Procedure_len) okLen [.h j] μ = some (.int ms.length, μ) := by
  have e : F_Procedure_len [.h j] μ = some (.v (.int ms.length), μ) := by
    apply to_eq
    unfold F_Procedure_len g_Procedure_len
    walk_at "dl"
    rw [w1_of h.moves]
    walk_at "dl"
  unfold gOwn1 only
  simp only
  rw [h.isO, if_pos rfl, if_pos (by rfl), e]
  simp only
  rw [if_pos (by unfold okLen; exact decide_eq_true ⟨by omega, by omega⟩)]
end
end G
namespace G
open PySem L2 DL PySem.DLQ
local macro_rules | `(tactic| walk_at "dl") => `(tactic| simp only [wf_fn, ws_seq, ws_then, ws_drop, ws_nx, ws_bk, ws_ct, ws_ret, ws_if, ws_for, wb_name, wb_sub, wb_tup, wb_seq, wbs_nil, wbs_cons, cSet_iff, we_V, we_C, we_B, we_U, we_App, we_newC, we_call, we_AndV, we_OrV, we_IfE, we_Ch, we_Lc, we_Sl, we_Apn, we_Pop, we_ListC, wa_nil, wa_cons, wa_len, wa_star, wo_no, wo_part, isI_i, sl_tup, sl_lst,
  wl_1, wl_2, wl_lst, wl_tup, wt_Tru, wt_Not, wt_And, wt_Or, wt_true, wi_seq, wi_rng1, wi_zip, Nx_nx, Nx_rt, Nx_bk, Nx_ct, Nx_ex, Fe_rt, Fe_nx, Tn_nx, Tn_ct, Tn_bk, Tn_rt, Tn_ex,
  w2_addAI, w2_addAS, w2_addAT, w2_addAL, w2_addAH, w2_mulAI, w2_mulAT, w2_mulAL, w2_ltAI, w2_eqWI, w2_neWI, w2_neWN, w2_neWB, w2_eqWS, w2_neWS, w1_listT, w1_tupL, w1_lenH, w1_rev, w2_II, gSub_iff, gMod_iff, gFdiv_iff, gPow_iff, w1_neg, w2_ordI, w2_ordS, w2_is, w2_isNot, w2_ixL, w2_ixR, w2_ixT, w2_ixS, w2_ixH, w1_abs, w1_intI, w1_intB, w2_max, w2_min, w1_str, w1_lenS, w1_lenL, w1_lenR, w1_lenT, w1_type, w1_all, w1_not, w1_S0, w2_join, wtr_bl, asQ_tup, asQ_lst,
  List.map_cons, List.map_nil, List.cons_append, List.nil_append, List.replicate_succ, List.replicate_zero, List.getElem?_cons_zero, List.getElem?_cons_succ, List.set_cons_zero, List.set_cons_succ, List.length_cons, List.length_nil, Option.some.injEq, exists_eq_left', exists_eq_left, D.int.injEq, and_true, true_and, Nat.reduceAdd, Nat.reduceSub, Nat.reduceLT, Nat.lt_add_left_iff_pos, Nat.zero_lt_succ, List.length_replicate, List.length_append, List.length_map, List.cons.injEq, List.length_set, gSeq, decide_true, if_true, D.bl.injEq, Bool.not_true, Bool.not_false, Bool.false_eq_true, if_false, reduceCtorEq, false_and, or_false, false_or])
theorem numbers_ok (ns : List Int) (a : Int) (h : 0 ≤ a) (μ : List Cell) : WF F__law_numbers [.rl (ns.map D.int), .int a] μ fun d μ' => ∃ x y : Int, d = .h μ.length ∧ μ' = μ ++ [.lst [.int x, .int y, .int 0]] := by
  unfold F__law_numbers g__law_numbers
  walk_at "dl"
  have big : ((10 : Int) ^ Int.toNat 59) ^ Int.toNat 11 ≠ 0 := by decide
  have b1 : (Builtin.Int.intBits 10 : Int) * 59 ≤ 2 ^ 27 := by decide +kernel
  have b2 : (Builtin.Int.intBits (10 ^ Int.toNat 59) : Int) * 11 ≤ 2 ^ 27 := by decide +kernel
  have b3 : (Builtin.Int.intBits 10 : Int) * 16 ≤ 2 ^ 27 := by decide +kernel
  refine ite2 (fun hlt => ?_) fun _ => ?_
  · obtain ⟨d, e1, hm, _⟩ := atI_lt (xs := ns.map D.int) h (by rw [List.length_map]; exact of_decide_eq_true hlt)
    obtain ⟨c, _, rfl⟩ := List.mem_map.mp hm
    refine ⟨_, e1, ?_⟩
    walk_at "dl"
    exact ⟨⟨by decide, b1⟩, ⟨by decide, b2⟩, big, .inr (by decide), .inl (by decide), .inl (by decide), ⟨by decide, b3⟩, by decide, by decide, _, _, rfl⟩
  · exact ⟨.inl (by decide), ⟨by decide, b1⟩, ⟨by decide, b2⟩, big, .inr (by decide), .inl (by decide), .inl (by decide), ⟨by decide, b3⟩, by decide, by decide, _, _, rfl⟩
theorem Dr.put {k : Nat} {μ : List Cell} (d : Die k μ) (x y z : Int) : Dr k μ (μ.set k (.lst [.int x, .int y, .int z])) := by
  obtain ⟨a, b, c, e⟩ := d
  exact ⟨⟨x, y, z, cell_set e⟩, by rw [List.length_set]; exact Nat.le_refl _, fun j h _ => List.getElem?_set_ne (Ne.symm h)⟩
theorem cast_ok {k : Nat} {t : Int} {μ : List Cell} (hd : Die k μ) (h0 : 0 < t) (h1 : t < 1073741824) : WF F__law_cast [.h k, .int t] μ fun d μ' => ∃ r : Int, d = .int r ∧ 0 ≤ r ∧ r < t ∧ Dr k μ μ' ∧ μ'.length = μ.length := by
  have put := Dr.put hd
  obtain ⟨x, y, z, hk⟩ := hd
  have hk2 : ∀ c, (μ.set k c)[k]? = some c := fun c => cell_set hk
  unfold F__law_cast g__law_cast
  walk_at "dl"
  simp only [hk, Option.some.injEq, Cell.lst.injEq, exists_eq_left', at0, at1, at2]
  walk_at "dl"
  simp only [exists_and_left, exists_eq_left', List.length_cons, List.length_nil, Nat.reduceAdd, ix3.1, ix3.2.1, Option.some.injEq, set3a, set3c, hk2, Cell.lst.injEq, at1, at2]
  walk_at "dl"
  refine ite2 (fun _ => ⟨by omega, ⟨by omega, by omega⟩, (fmod_pos h0).1, (fmod_pos h0).2, put _ _ _⟩) fun _ => ?_
  have m1 := fmod_pos (a := y + 776531491 * (z + 1)) (b := 2305843009213693907) (by decide)
  have m2 := fmod_pos (a := (y + 776531491 * (z + 1)).fmod 2305843009213693907 * (y + 776531491 * (z + 1)).fmod 2305843009213693907) (b := 1152921504606846619) (by decide)
  generalize (y + 776531491 * (z + 1)).fmod 2305843009213693907 = one at m1 m2 ⊢
  generalize (one * one).fmod 1152921504606846619 = sq at m2 ⊢
  refine ⟨.inl (by decide), by decide, .inl ⟨by omega, by omega⟩, by decide, .inl ⟨by omega, by omega⟩, .inl (by decide), by decide, ⟨by decide, by decide⟩, by omega, (fmod_pos h0).1, (fmod_pos h0).2, put _ _ _⟩
/-- what is picked is one of the items -/
theorem pick_ok {k : Nat} {μ : List Cell} {xs : List D} (hd : Die k μ) (hx : 0 < xs.length) (hl : xs.length < 1073741824) : WF F__law_pick [.h k, .lst xs] μ fun d μ' => d ∈ xs ∧ Dr k μ μ' ∧ μ'.length = μ.length := by
  unfold F__law_pick g__law_pick
  walk_at "dl"
  obtain ⟨d, μ', e, r, rfl, h0, h1, dr, hn⟩ := cast_ok (t := xs.length) hd (by omega) (by omega)
  refine ⟨_, μ', e, ?_⟩
  obtain ⟨c, e1, hm, _⟩ := atI_lt h0 h1
  walk_at "dl"
  exact ⟨c, e1, hm, dr, hn⟩
theorem pickH_ok {k j : Nat} {μ : List Cell} {xs : List D} (hd : Die k μ) (hj : j ≠ k) (hm : μ[j]? = some (.lst xs)) (hx : 0 < xs.length) (hl : xs.length < 1073741824) : WF F__law_pick [.h k, .h j] μ fun d μ' => d ∈ xs ∧ Dr k μ μ' ∧ μ'.length = μ.length := by
  unfold F__law_pick g__law_pick
  walk_at "dl"
  refine ⟨xs, hm, ?_⟩
  obtain ⟨d, μ', e, r, rfl, h0, h1, dr, hn⟩ := cast_ok (t := xs.length) hd (by omega) (by omega)
  refine ⟨_, μ', e, ?_⟩
  obtain ⟨c, e1, hm', _⟩ := atI_lt h0 h1
  walk_at "dl"
  exact ⟨xs, dr.at_ hj hm, c, e1, hm', dr, hn⟩
theorem odd_ok {k : Nat} {μ : List Cell} (hd : Die k μ) : WF F__law_odd_one [.h k] μ fun d μ' => gs 3 d = true ∧ Dr k μ μ' ∧ μ'.length = μ.length := by
  unfold F__law_odd_one g__law_odd_one
  walk_at "dl"
  have b1 : (Builtin.Int.intBits 10 : Int) * 39 ≤ 2 ^ 27 := by decide +kernel
  repeat (refine ⟨by first | decide | exact ⟨by decide, b1⟩, ?_⟩)
  refine (pick_ok hd (by simp) (by simp)).mono fun d μ' ⟨hm, dr⟩ => ⟨?_, dr⟩
  simp only [List.mem_cons, List.not_mem_nil, or_false] at hm
  rcases hm with rfl | rfl | rfl | rfl | rfl | rfl | rfl | rfl | rfl | rfl | rfl | rfl | rfl | rfl | rfl | rfl | rfl | rfl | rfl | rfl | rfl | rfl | rfl | rfl | rfl | rfl | rfl | rfl
  all_goals decide +kernel
end G
namespace G
open PySem L2 DL PySem.DLQ
local macro_rules | `(tactic| walk_at "dl") => `(tactic| simp only [wf_fn, ws_seq, ws_then, ws_drop, ws_nx, ws_bk, ws_ct, ws_ret, ws_if, ws_for, wb_name, wb_sub, wb_tup, wb_seq, wbs_nil, wbs_cons, cSet_iff, we_V, we_C, we_B, we_U, we_App, we_newC, we_call, we_AndV, we_OrV, we_IfE, we_Ch, we_Lc, we_Sl, we_Apn, we_Pop, we_ListC, wa_nil, wa_cons, wa_len, wa_star, wo_no, wo_part, isI_i, sl_tup, sl_lst,
  wl_1, wl_2, wl_lst, wl_tup, wt_Tru, wt_Not, wt_And, wt_Or, wt_true, wi_seq, wi_rng1, wi_zip, Nx_nx, Nx_rt, Nx_bk, Nx_ct, Nx_ex, Fe_rt, Fe_nx, Tn_nx, Tn_ct, Tn_bk, Tn_rt, Tn_ex,
  w2_addAI, w2_addAS, w2_addAT, w2_addAL, w2_addAH, w2_mulAI, w2_mulAT, w2_mulAL, w2_ltAI, w2_eqWI, w2_neWI, w2_neWN, w2_neWB, w2_eqWS, w2_neWS, w1_listT, w1_tupL, w1_lenH, w1_rev, w2_II, gSub_iff, gMod_iff, gFdiv_iff, gPow_iff, w1_neg, w2_ordI, w2_ordS, w2_is, w2_isNot, w2_ixL, w2_ixR, w2_ixT, w2_ixS, w2_ixH, w1_abs, w1_intI, w1_intB, w2_max, w2_min, w1_str, w1_lenS, w1_lenL, w1_lenR, w1_lenT, w1_type, w1_all, w1_not, w1_S0, w2_join, wtr_bl, asQ_tup, asQ_lst,
  List.map_cons, List.map_nil, List.cons_append, List.nil_append, List.replicate_succ, List.replicate_zero, List.getElem?_cons_zero, List.getElem?_cons_succ, List.set_cons_zero, List.set_cons_succ, List.length_cons, List.length_nil, Option.some.injEq, exists_eq_left', exists_eq_left, D.int.injEq, and_true, true_and, Nat.reduceAdd, Nat.reduceSub, Nat.reduceLT, Nat.lt_add_left_iff_pos, Nat.zero_lt_succ, List.length_replicate, List.length_append, List.length_map, List.cons.injEq, List.length_set, gSeq, decide_true, if_true, D.bl.injEq, Bool.not_true, Bool.not_false, Bool.false_eq_true, if_false, reduceCtorEq, false_and, or_false, false_or])
theorem int_gs {k : Nat} {i : Int} (h0 : 0 ≤ i) (h : i < 1000) : gs k (.int i) = true := by
  have : gs k (.int i) = fl (.int i) := by cases k <;> rfl
  rw [this]
  exact decide_eq_true (by omega)
theorem gs_lit {k : Nat} (s : String) (hl : (Str.ofString s).length ≤ 12) : gs k (.str (Str.ofString s)) = true := by
  have : gs k (.str (Str.ofString s)) = fl (.str (Str.ofString s)) := by cases k <;> rfl
  rw [this]
  show (PyData.strOk (Str.ofString s) && decide ((Str.ofString s).length ≤ 12)) = true
  rw [lit_ok, decide_eq_true hl]
  rfl
theorem gs_mk {k : Nat} {xs : List D} (hl : xs.length ≤ 40) (h : ∀ x ∈ xs, gs k x = true) : gs (k + 1) (.tup xs) = true ∧ gs (k + 1) (.lst xs) = true := by
  have e : (decide (xs.length ≤ 40) && xs.all (gs k)) = true := by
    rw [Bool.and_eq_true, decide_eq_true_eq, List.all_eq_true]
    exact ⟨hl, h⟩
  exact ⟨e, e⟩
theorem fl_gs {k : Nat} {d : D} (h : fl d = true) : gs k d = true := by
  have e : gs k d = fl d := by
    cases k with
    | zero => cases d <;> rfl
    | succ k => cases d <;> first | rfl | cases h
  rw [e]
  exact h
theorem gs_up : ∀ {k : Nat} {d : D}, gs k d = true → gs (k + 1) d = true
  | 0, d, h => fl_gs (by cases d <;> exact h)
  | k + 1, d, h => by
    cases d with
    | tup xs =>
      obtain ⟨k', e, hl, hx⟩ := gs_tup h
      cases e
      exact (gs_mk hl fun x hx' => gs_up (hx x hx')).1
    | lst xs =>
      have h' : (decide (xs.length ≤ 40) && xs.all (gs k)) = true := h
      rw [Bool.and_eq_true, decide_eq_true_eq, List.all_eq_true] at h'
      exact (gs_mk h'.1 fun x hx' => gs_up (h'.2 x hx')).2
    | _ => exact fl_gs h
theorem gs_le {k m : Nat} {d : D} (h : gs k d = true) (hm : k ≤ m) : gs m d = true := by
  induction m with
  | zero =>
    obtain rfl : k = 0 := by omega
    exact h
  | succ m ih =>
    by_cases e : k = m + 1
    · subst e; exact h
    · exact gs_up (ih (by omega))
/-! shuffle -/
theorem shuffle_loop {k j : Nat} {items : List D} {a b : Option D} (hjk : j ≠ k) : ∀ (ds : List D) (μ : List Cell) (xs : List D), Die k μ → μ[j]? = some (.lst xs) → xs.length = ds.length → (∀ x ∈ xs, x ∈ items) → xs.length < 1000 →
    WLc (bName 3) (fun S => some (true, S.μ)) (fPop (fV 2) (fCall F__law_cast (fLen 2 (fCons (fV 0) (fCons (fApp (g1 dLen) (fCons (fV 2) fNil)) fNil))))) [some (.h k), a, some (.h j), b] ds μ fun ys μ' => (∀ y ∈ ys, y ∈ items) ∧ ys.length = ds.length ∧ Die k μ' ∧ μ'.length = μ.length ∧ ∀ i, i ≠ k → i ≠ j → μ'[i]? = μ[i]?
  | [], μ, xs, hd, _, _, _, _ => wlc_nil.mpr ⟨by simp, rfl, hd, rfl, fun _ _ _ => rfl⟩
  | d :: ds, μ, xs, hd, hj, hl, hx, hb => by
    rw [wlc_cons]
    walk_at "dl"
    rw [isLst_of hj]
    simp only [true_and]
    refine ⟨xs, hj, ?_⟩
    simp only [List.length_cons] at hl
    obtain ⟨r, μ1, e1, i, rfl, h0, h1, dr, hn⟩ := cast_ok (t := xs.length) hd (by omega) (by omega)
    refine ⟨_, μ1, e1, ?_⟩
    have hj1 := dr.at_ hjk hj
    have hi : i.toNat < xs.length := by omega
    have e2 : cPop (.h j) (.int i) μ1 = some (xs[i.toNat], μ1.set j (.lst (xs.eraseIdx i.toNat))) := by
      unfold cPop
      simp only [hj1]
      rw [if_pos ⟨by omega, by omega⟩]
      have e3 : seqIndex? i xs.length = some i.toNat := by
        have hn : ¬ i < 0 := by omega
        simp [seqIndex?, hn, h0, h1]
      rw [e3]
      simp only
      rw [List.getElem?_eq_getElem hi]
    refine ⟨_, e2, ?_⟩
    have hdie : Die k (μ1.set j (.lst (xs.eraseIdx i.toNat))) := by
      obtain ⟨x, y, z, e⟩ := dr.die
      exact ⟨x, y, z, by rw [List.getElem?_set_ne hjk]; exact e⟩
    obtain ⟨ys, μ2, e4, hy, hyl, hdie2, hlen, hold⟩ := shuffle_loop hjk ds (μ1.set j (.lst (xs.eraseIdx i.toNat))) (xs.eraseIdx i.toNat) hdie (cell_set hj1) (by rw [List.length_eraseIdx_of_lt hi]; omega) (fun x hx' => hx x (List.mem_of_mem_eraseIdx hx')) (by rw [List.length_eraseIdx_of_lt hi]; omega)
    refine ⟨ys, μ2, e4, fun y hy' => ?_, by simp [hyl], hdie2, by rw [hlen, List.length_set, hn], fun i' h1 h2 => ?_⟩
    · rcases List.mem_cons.mp hy' with rfl | hy'
      · exact hx _ (List.getElem_mem hi)
      · exact hy y hy'
    · rw [hold i' h1 h2, List.getElem?_set_ne (Ne.symm h2)]
      by_cases hlt : i' < μ.length
      · exact dr.old i' h1 hlt
      · rw [List.getElem?_eq_none (by omega), List.getElem?_eq_none (by omega)]
theorem rng_len (lo : Int) (n : Nat) : (rngD lo n).length = n := by simp [rngD]
theorem shuffle_ok {k : Nat} {μ : List Cell} {items : List D} (hd : Die k μ) (hl : items.length < 1000) : WF F__law_shuffle [.h k, .lst items] μ fun d μ' => ∃ ys, d = .lst ys ∧ (∀ y ∈ ys, y ∈ items) ∧ ys.length = items.length ∧ Dr k μ μ' := by
  unfold F__law_shuffle g__law_shuffle
  walk_at "dl"
  refine ⟨_, rfl, ?_⟩
  refine ⟨by omega, by omega, ?_⟩
  have hk := Dr.lt hd
  obtain ⟨ys, μ', e, hy, hyl, hdie, hlen, hold⟩ := shuffle_loop (items := items) (a := some (.lst items)) (b := none) (k := k) (j := μ.length) (by omega) (rngD 0 ((items.length : Nat) : Int).toNat) (μ ++ [.lst items]) items (Dr.app hd _).die (by simp) (by rw [rng_len]; omega) (fun x hx => hx) hl
  refine ⟨ys, μ', e, ?_⟩
  rw [rng_len] at hyl
  refine ⟨by rw [hyl]; exact Nat.le_trans (show _ ≤ 1000 by omega) (by decide), ys, rfl, hy, by rw [hyl]; omega, ?_⟩
  refine ⟨hdie, by rw [hlen]; simp, fun i h1 h2 => ?_⟩
  rw [hold i h1 (by omega), List.getElem?_append_left h2]
/-! subsets -/
theorem subset_loop {k : Nat} {a b : Option D} : ∀ (ds : List D) (μ : List Cell) (c : Option D), Die k μ →
    WLc (bName 3) (fTru (fB dGt (fCall F__law_cast (fLen 2 (fCons (fV 0) (fCons (fC (.int 3)) fNil)))) (fC (.int 0)))) (fV 3) [some (.h k), a, b, c] ds μ fun ys μ' => ys.Sublist ds ∧ Dr k μ μ' ∧ μ'.length = μ.length
  | [], μ, c, hd => wlc_nil.mpr ⟨List.Sublist.refl _, Dr.self hd, rfl⟩
  | d :: ds, μ, c, hd => by
    rw [wlc_cons]
    walk_at "dl"
    obtain ⟨r, μ1, e1, i, rfl, h0, h1, dr, hn⟩ := cast_ok (t := 3) hd (by decide) (by decide)
    refine ⟨_, μ1, e1, ?_⟩
    walk_at "dl"
    obtain ⟨ys, μ2, e2, hs, dr2, hn2⟩ := subset_loop ds μ1 c dr.die
    refine ite2 (fun _ => ?_) fun _ => ?_
    · exact ⟨_, _, e2, hs.cons₂ d, dr.trans dr2, hn2.trans hn⟩
    · exact ⟨_, _, e2, hs.cons d, dr.trans dr2, hn2.trans hn⟩
theorem mem_rng {lo : Int} {n : Nat} {d : D} (h : d ∈ rngD lo n) : ∃ i : Nat, i < n ∧ d = .int (lo + i) := by
  obtain ⟨i, hi, rfl⟩ := List.mem_map.mp h
  exact ⟨i, List.mem_range.mp hi, rfl⟩
theorem rng_pw (n : Nat) : ((rngD 0 n).map inD).Pairwise (· < ·) := by
  unfold rngD
  rw [List.map_map, List.pairwise_map]
  refine List.pairwise_lt_range.imp fun h => ?_
  show (0 : Int) + _ < 0 + _
  omega
theorem setD_mono {t u : Int} (h : t ≤ u) {d : D} (hs : setD t d = true) : setD u d = true := by
  obtain ⟨zs, rfl, hne, hz⟩ := set_out hs
  have hs : setB t (zs.map D.int) = true := hs
  show setB u (zs.map D.int) = true
  simp only [setB, Bool.and_eq_true] at hs ⊢
  refine ⟨⟨hs.1.1, List.all_eq_true.mpr fun x hx => ?_⟩, hs.2⟩
  obtain ⟨z, hz', rfl⟩ := List.mem_map.mp hx
  have := hz z hz'
  exact decide_eq_true (by omega)
def tlen : D → Nat
  | .tup zs => zs.length
  | _ => 0
theorem subset_ok {k : Nat} {μ : List Cell} {t : Int} (hd : Die k μ) (h0 : 1 ≤ t) (h1 : t ≤ 6) : WF F__law_subset [.h k, .int t] μ fun d μ' => setD 6 d = true ∧ gs 1 d = true ∧ tlen d ≤ 6 ∧ Dr k μ μ' := by
  unfold F__law_subset g__law_subset
  walk_at "dl"
  refine ⟨by omega, by omega, ?_⟩
  obtain ⟨ys, μ1, e1, hs, dr, hn⟩ := subset_loop (k := k) (a := some (.int t)) (b := none) (rngD 0 t.toNat) μ none hd
  refine ⟨ys, μ1, e1, ?_⟩
  have hmem : ∀ y ∈ ys, ∃ i : Nat, i < t.toNat ∧ y = .int (0 + i) := fun y hy => mem_rng (hs.subset hy)
  have hl : ys.length ≤ 6 := by
    have := hs.length_le
    rw [rng_len] at this
    omega
  have hg : gs 1 (.tup ys) = true := (gs_mk (by omega) fun x hx => by
    obtain ⟨i, hi, rfl⟩ := hmem x hx
    exact int_gs (by omega) (by omega)).1
  refine ⟨Nat.le_trans hl (by decide), by decide, ?_⟩
  rw [w2_of (by unfold dNeW; rw [(eqv_nilT (k := 0) (fun x hx => by
    obtain ⟨i, hi, rfl⟩ := hmem x hx
    exact int_gs (by omega) (by omega)) (by decide) _).2]; rfl)]
  walk_at "dl"
  cases he : ys.isEmpty with
  | false =>
    walk_at "dl"
    refine ⟨?_, hg, hl, dr⟩
    show setB 6 ys = true
    simp only [setB, he, Bool.not_false, Bool.true_and, Bool.and_eq_true]
    refine ⟨List.all_eq_true.mpr fun x hx => ?_, decide_eq_true ((rng_pw t.toNat).sublist (hs.map inD))⟩
    obtain ⟨i, hi, rfl⟩ := hmem x hx
    exact decide_eq_true (by omega)
  | true =>
    walk_at "dl"
    obtain ⟨r, μ2, e2, i, rfl, g0, g1, dr2, hn2⟩ := cast_ok (t := t) dr.die (by omega) (by omega)
    refine ⟨_, μ2, e2, ?_⟩
    walk_at "dl"
    refine ⟨by decide, ?_, ?_, by show 1 ≤ 6; decide, dr.trans dr2⟩
    · have : 0 ≤ i ∧ i < 6 := by omega
      simp [setD, setB, numD, this]
    · exact (gs_mk (by simp) fun x hx => by
        rw [List.mem_singleton] at hx
        subst hx
        exact int_gs g0 (by omega)).1
end G
namespace G
open PySem L2 DL PySem.DLQ
local macro_rules | `(tactic| walk_at "dl") => `(tactic| simp only [wf_fn, ws_seq, ws_then, ws_drop, ws_nx, ws_bk, ws_ct, ws_ret, ws_if, ws_for, wb_name, wb_sub, wb_tup, wb_seq, wbs_nil, wbs_cons, cSet_iff, we_V, we_C, we_B, we_U, we_App, we_newC, we_call, we_AndV, we_OrV, we_IfE, we_Ch, we_Lc, we_Sl, we_Apn, we_Pop, we_ListC, wa_nil, wa_cons, wa_len, wa_star, wo_no, wo_part, isI_i, sl_tup, sl_lst,
  wl_1, wl_2, wl_lst, wl_tup, wt_Tru, wt_Not, wt_And, wt_Or, wt_true, wi_seq, wi_rng1, wi_zip, Nx_nx, Nx_rt, Nx_bk, Nx_ct, Nx_ex, Fe_rt, Fe_nx, Tn_nx, Tn_ct, Tn_bk, Tn_rt, Tn_ex,
  w2_addAI, w2_addAS, w2_addAT, w2_addAL, w2_addAH, w2_mulAI, w2_mulAT, w2_mulAL, w2_ltAI, w2_eqWI, w2_neWI, w2_neWN, w2_neWB, w2_eqWS, w2_neWS, w1_listT, w1_tupL, w1_lenH, w1_rev, w2_II, gSub_iff, gMod_iff, gFdiv_iff, gPow_iff, w1_neg, w2_ordI, w2_ordS, w2_is, w2_isNot, w2_ixL, w2_ixR, w2_ixT, w2_ixS, w2_ixH, w1_abs, w1_intI, w1_intB, w2_max, w2_min, w1_str, w1_lenS, w1_lenL, w1_lenR, w1_lenT, w1_type, w1_all, w1_not, w1_S0, w2_join, wtr_bl, asQ_tup, asQ_lst,
  List.map_cons, List.map_nil, List.cons_append, List.nil_append, List.replicate_succ, List.replicate_zero, List.getElem?_cons_zero, List.getElem?_cons_succ, List.set_cons_zero, List.set_cons_succ, List.length_cons, List.length_nil, Option.some.injEq, exists_eq_left', exists_eq_left, D.int.injEq, and_true, true_and, Nat.reduceAdd, Nat.reduceSub, Nat.reduceLT, Nat.lt_add_left_iff_pos, Nat.zero_lt_succ, List.length_replicate, List.length_append, List.length_map, List.cons.injEq, List.length_set, gSeq, decide_true, if_true, D.bl.injEq, Bool.not_true, Bool.not_false, Bool.false_eq_true, if_false, reduceCtorEq, false_and, or_false, false_or])
theorem num_int {t i : Int} (h0 : 0 ≤ i) (h : i < t) : numD t (.int i) = true := decide_eq_true ⟨h0, h⟩
theorem pairs_of {ps : List (Int × Int)} (hne : ps ≠ []) (h : ∀ p ∈ ps, okQ p) : pairsD (.tup ((sortP ps).map pD)) = true ∧ ∀ q ∈ sortP ps, okQ q := by
  have hq : ∀ q ∈ sortP ps, okQ q := fun q hq => by
    obtain ⟨c, hc, rfl⟩ := List.mem_map.mp hq
    obtain ⟨p, hp, rfl⟩ := List.mem_map.mp (mem_sortU.mp hc)
    rw [un_cd (h p hp).p]
    exact h p hp
  refine ⟨?_, hq⟩
  show pairsB _ = true
  simp only [pairsB, Bool.and_eq_true, decide_eq_true_eq]
  refine ⟨⟨?_, List.all_eq_true.mpr fun x hx => ?_⟩, ?_⟩
  · obtain ⟨p, hp⟩ := List.exists_mem_of_ne_nil ps hne
    have : cdP p ∈ sortU (ps.map cdP) := mem_sortU.mpr (List.mem_map_of_mem hp)
    have h2 := List.mem_map_of_mem (f := unP) this
    cases hs : sortP ps with
    | nil =>
      unfold sortP at hs
      rw [hs] at h2
      cases h2
    | cons a r => rfl
  · obtain ⟨q, hq', rfl⟩ := List.mem_map.mp hx
    obtain ⟨⟨a, b⟩, c, d⟩ := hq q hq'
    show (numD 6 (.int q.1) && numD 6 (.int q.2)) = true
    rw [num_int a b, num_int c d]
    rfl
  · have e3 : ((sortP ps).map pD).map cdD = sortU (ps.map cdP) := by
      unfold sortP
      rw [List.map_map, List.map_map]
      refine (List.map_congr_left fun c hc => ?_).trans (List.map_id _)
      obtain ⟨p, hp, rfl⟩ := List.mem_map.mp (mem_sortU.mp hc)
      show cdP (unP (cdP p)) = cdP p
      rw [un_cd (h p hp).p]
    rw [e3]
    exact pw_sortU _
theorem gs_pD {q : Int × Int} (h : okQ q) : gs 1 (pD q) = true := by
  obtain ⟨⟨a, b⟩, c, d⟩ := h
  refine (gs_mk (k := 0) (by simp) fun x hx => ?_).1
  simp only [List.mem_cons, List.not_mem_nil, or_false] at hx
  rcases hx with rfl | rfl
  · exact int_gs a (by omega)
  · exact int_gs c (by omega)
theorem len_sortU : ∀ l : List Int, (sortU l).length ≤ l.length
  | [] => Nat.le_refl _
  | x :: r => by
    have h := len_sortU r
    have hi : ∀ l : List Int, (ins x l).length ≤ l.length + 1 := by
      intro l
      induction l with
      | nil => exact Nat.le_refl _
      | cons y l ih =>
        unfold ins
        split
        · exact Nat.le_refl _
        · split
          · simp
          · simp only [List.length_cons]; omega
    have := hi (sortU r)
    show (ins x (sortU r)).length ≤ _
    simp only [List.length_cons]
    omega
def shD (m : D) : Prop := ∃ ys, m = .tup ys ∧ ∀ x ∈ ys, tlen x ≤ 6
theorem tlen_num {t : Int} {d : D} (h : numD t d = true) : tlen d ≤ 6 := by
  obtain ⟨i, rfl, _⟩ := num_out h
  exact Nat.zero_le _
theorem tlen_name {d : D} (h : nameB d = true) : tlen d ≤ 6 := by
  cases d <;> first | (cases h; done) | exact Nat.zero_le _
theorem move_ok {k : Nat} {μ : List Cell} {t p : Int} {names : List D} (hd : Die k μ) (t0 : 1 ≤ t) (t1 : t ≤ 3) (p0 : 1 ≤ p) (p1 : p ≤ 8) (hne : names ≠ []) (hnl : names.length ≤ 40) (hn : ∀ n ∈ names, nameB n = true ∧ gs 0 n = true) :
    WF F__law_a_move [.h k, .int t, .int p, .lst names] μ fun d μ' => stepD p d = true ∧ gs 3 d = true ∧ shD d ∧ Dr k μ μ' := by
  unfold F__law_a_move g__law_a_move
  simp only [wf_fn, ws_seq, ws_par]
  walk_at "dl"
  obtain ⟨_, μ1, e1, i1, rfl, a0, a1, d1, _⟩ := cast_ok (t := p) hd (by omega) (by omega)
  refine ⟨_, μ1, e1, ?_⟩
  walk_at "dl"
  refine ⟨by decide, ?_⟩
  obtain ⟨here, μ2, e2, hh, d2, _⟩ := pick_ok (xs := [D.int 0, D.int i1]) d1.die (by simp) (by simp)
  have hhere : numD p here = true ∧ gs 2 here = true := by
    simp only [List.mem_cons, List.not_mem_nil, or_false] at hh
    rcases hh with rfl | rfl
    · exact ⟨num_int (by omega) (by omega), int_gs (by omega) (by omega)⟩
    · exact ⟨num_int a0 a1, int_gs a0 (by omega)⟩
  refine ⟨_, μ2, e2, ?_⟩
  obtain ⟨_, μ3, e3, i3, rfl, c0, c1, d3, _⟩ := cast_ok (t := p) d2.die (by omega) (by omega)
  refine ⟨_, μ3, e3, ?_⟩
  refine ⟨_, _, ⟨rfl, rfl⟩, ?_⟩
  (try walk_at "dl")
  simp only [ws_par]
  walk_at "dl"
  obtain ⟨_, μ4, e4, way, rfl, w0, w1, d4, _⟩ := cast_ok (t := 10) d3.die (by decide) (by decide)
  refine ⟨_, μ4, e4, ?_⟩
  obtain ⟨sm, μ5, e5, hs, hs2, hsl, d5⟩ := subset_ok (t := t) d4.die t0 (by omega)
  refine ⟨_, μ5, e5, _, _, ⟨rfl, rfl⟩, ?_⟩
  have D5 := d1.trans (d2.trans (d3.trans (d4.trans d5)))
  have hs3 : gs 2 sm = true := gs_up hs2
  have hthere : numD p (.int i3) = true ∧ gs 2 (.int i3) = true := ⟨num_int c0 c1, int_gs c0 (by omega)⟩
  walk_at "dl"
  refine ite2 (fun _ => ?_) fun _ => ?_
  · obtain ⟨_, μ6, e6, i6, rfl, g0, g1, d6, _⟩ := cast_ok (t := p) d5.die (by omega) (by omega)
    refine ⟨_, μ6, e6, by decide, ?_⟩
    obtain ⟨ct, μ7, e7, hct, d7, _⟩ := pick_ok (xs := [D.non, D.int i6]) d6.die (by simp) (by simp)
    refine ⟨_, μ7, e7, ?_⟩
    walk_at "dl"
    obtain ⟨nm, μ8, e8, hnm, d8, _⟩ := pick_ok (xs := names) d7.die (List.length_pos_iff.mpr hne) (by omega)
    refine ⟨_, μ8, e8, ?_⟩
    walk_at "dl"
    refine ⟨by decide, ?_, ?_, ⟨_, rfl, fun x hx => ?_⟩, D5.trans (d6.trans (d7.trans d8))⟩
    rotate_left 2
    · simp only [List.mem_cons, List.not_mem_nil, or_false] at hx
      rcases hx with rfl | rfl | rfl | rfl | rfl | rfl
      · exact Nat.zero_le _
      · exact tlen_num hhere.1
      · exact Nat.zero_le _
      · exact tlen_name (hn _ hnm).1
      · exact hsl
      · simp only [List.mem_cons, List.not_mem_nil, or_false] at hct
        rcases hct with rfl | rfl <;> exact Nat.zero_le _
    · have hc : (isN ct || numD p ct) = true := by
        simp only [List.mem_cons, List.not_mem_nil, or_false] at hct
        rcases hct with rfl | rfl
        · rfl
        · rw [num_int g0 g1, Bool.or_true]
      show (numD p here && (isS "call" (.str "call") && numD p (.int i3) && (isN ct || numD p ct) && nameB nm && setD 6 sm)) = true
      rw [hhere.1, hthere.1, hc, (hn nm hnm).1, hs]
      decide
    · refine (gs_mk (by simp) fun x hx => ?_).1
      simp only [List.mem_cons, List.not_mem_nil, or_false] at hx
      rcases hx with rfl | rfl | rfl | rfl | rfl | rfl
      · exact gs_lit _ (by decide)
      · exact hhere.2
      · exact hthere.2
      · exact gs_le (hn _ hnm).2 (by omega)
      · exact hs3
      · simp only [List.mem_cons, List.not_mem_nil, or_false] at hct
        rcases hct with rfl | rfl
        · rfl
        · exact int_gs g0 (by omega)
  · refine ite2 (fun _ => ?_) fun _ => ?_
    · refine ⟨by decide, ?_⟩
      obtain ⟨wd', μ7, e7, hw, d7, _⟩ := pick_ok (xs := [D.str "leave", D.str "leave", D.str "fail"]) d5.die (by simp) (by simp)
      refine ⟨_, μ7, e7, ?_⟩
      walk_at "dl"
      have hw' : (isS "leave" wd' || isS "fail" wd') = true ∧ gs 2 wd' = true := by
        simp only [List.mem_cons, List.not_mem_nil, or_false] at hw
        rcases hw with rfl | rfl | rfl
        · exact ⟨by decide, gs_lit _ (by decide)⟩
        · exact ⟨by decide, gs_lit _ (by decide)⟩
        · exact ⟨by decide, gs_lit _ (by decide)⟩
      refine ⟨by decide, ?_, ?_, ⟨_, rfl, fun x hx => ?_⟩, D5.trans d7⟩
      rotate_left 2
      · simp only [List.mem_cons, List.not_mem_nil, or_false] at hx
        rcases hx with rfl | rfl | rfl
        · simp only [List.mem_cons, List.not_mem_nil, or_false] at hw
          rcases hw with rfl | rfl | rfl <;> exact Nat.zero_le _
        · exact tlen_num hhere.1
        · exact hsl
      · show (numD p here && ((isS "leave" wd' || isS "fail" wd') && setD 6 sm)) = true
        rw [hhere.1, hw'.1, hs]
        rfl
      · refine (gs_mk (by simp) fun x hx => ?_).1
        simp only [List.mem_cons, List.not_mem_nil, or_false] at hx
        rcases hx with rfl | rfl | rfl
        · exact hw'.2
        · exact hhere.2
        · exact hs3
    · refine ⟨by decide, ?_⟩
      have dA := Dr.app d5.die (.lst [])
      obtain ⟨_, μ6, e6, n, rfl, g0, g1, d6, hn6⟩ := cast_ok (t := 3) dA.die (by decide) (by decide)
      refine ⟨_, μ6, e6, ?_⟩
      walk_at "dl"
      refine ⟨by omega, by omega, ?_⟩
      have hk5 := Dr.lt d5.die
      have hj6 : μ6[μ5.length]? = some (.lst []) := d6.at_ (by omega) (by simp)
      refine ws_forInv (fun ds S => ∃ (ps : List (Int × Int)) (ν : List Cell) (x8 x10 : Option D), S = ⟨[some (.h k), some (.int t), some (.int p), some (.lst names), some here, some (.int i3), some (.int way), some sm, x8, some (.h μ5.length), x10], ν⟩ ∧ Dr k μ5 ν ∧ ν[μ5.length]? = some (.lst (ps.map pD)) ∧ (∀ q ∈ ps, okQ q) ∧ ps.length + ds.length = (1 + n).toNat) ?_ ?_ _ _ ⟨[], μ6, _, _, rfl, dA.trans d6, hj6, by simp, by rw [rng_len]; simp⟩
      · rintro d r S ⟨ps, ν, x8, x10, rfl, dr, hj, hq, hl⟩
        walk_at "dl"
        refine ⟨isLst_of hj, ?_⟩
        obtain ⟨_, ν1, f1, a, rfl, u0, u1, dr1, m1⟩ := cast_ok (t := t) dr.die (by omega) (by omega)
        refine ⟨_, ν1, f1, ?_⟩
        obtain ⟨_, ν2, f2, b, rfl, v0, v1, dr2, m2⟩ := cast_ok (t := t) dr1.die (by omega) (by omega)
        refine ⟨_, ν2, f2, ?_⟩
        walk_at "dl"
        refine ⟨by decide, ?_⟩
        simp only [List.length_cons] at hl
        have hj2 := (dr1.trans dr2).at_ (show μ5.length ≠ k by omega) hj
        rw [cApp_of hj2 (Nat.lt_of_le_of_lt (show _ ≤ 4 by rw [List.length_map]; omega) (by decide))]
        refine ⟨ps ++ [(a, b)], _, x8, _, rfl, ((dr.trans dr1).trans dr2).set d5.die (Nat.le_refl _) _, ?_, ?_, by simp only [List.length_append, List.length_cons, List.length_nil]; omega⟩
        · rw [cell_set hj2, List.map_append]
          rfl
        · intro q hq'
          rcases List.mem_append.mp hq' with h | h
          · exact hq q h
          · rw [List.mem_singleton] at h
            subst h
            exact ⟨⟨u0, by show a < 6; omega⟩, v0, by show b < 6; omega⟩
      · rintro S ⟨ps, ν, x8, x10, rfl, dr, hj, hq, hl⟩
        walk_at "dl"
        simp only [we_SortSetP]
        walk_at "dl"
        have hl : ps.length = (1 + n).toNat := by simpa using hl
        refine ⟨ps.map pD, ps, by unfold asQ asSL asL; simp only [hj], pairsOf_map fun q h => (hq q h).p, by omega, ?_⟩
        have hps := pairs_of (ps := ps) (fun e => by subst e; simp at hl; omega) hq
        have hsl : ((sortP ps).map pD).length ≤ 6 := by
          rw [List.length_map]
          unfold sortP
          rw [List.length_map]
          have := len_sortU (ps.map cdP)
          rw [List.length_map] at this
          omega
        refine ⟨by decide, ?_, ?_, ⟨_, rfl, fun x hx => ?_⟩, D5.trans dr⟩
        rotate_left 2
        · simp only [List.mem_cons, List.not_mem_nil, or_false] at hx
          rcases hx with rfl | rfl | rfl | rfl
          · exact Nat.zero_le _
          · exact tlen_num hhere.1
          · exact Nat.zero_le _
          · exact hsl
        · show (numD p here && (isS "go" (.str "go") && numD p (.int i3) && pairsD _)) = true
          rw [hhere.1, hthere.1, hps.1]
          decide
        · refine (gs_mk (by simp) fun x hx => ?_).1
          simp only [List.mem_cons, List.not_mem_nil, or_false] at hx
          rcases hx with rfl | rfl | rfl | rfl
          · exact gs_lit _ (by decide)
          · exact hhere.2
          · exact hthere.2
          · refine (gs_mk ?_ fun y hy => ?_).1
            · omega
            · obtain ⟨q, hq', rfl⟩ := List.mem_map.mp hy
              exact gs_pD (hps.2 q hq')
end G
namespace G
open PySem L2 DL PySem.DLQ
local macro_rules | `(tactic| walk_at "dl") => `(tactic| simp only [wf_fn, ws_seq, ws_then, ws_drop, ws_nx, ws_bk, ws_ct, ws_ret, ws_if, ws_for, wb_name, wb_sub, wb_tup, wb_seq, wbs_nil, wbs_cons, cSet_iff, we_V, we_C, we_B, we_U, we_App, we_newC, we_call, we_AndV, we_OrV, we_IfE, we_Ch, we_Lc, we_Sl, we_Apn, we_Pop, we_ListC, wa_nil, wa_cons, wa_len, wa_star, wo_no, wo_part, isI_i, sl_tup, sl_lst,
  wl_1, wl_2, wl_lst, wl_tup, wt_Tru, wt_Not, wt_And, wt_Or, wt_true, wi_seq, wi_rng1, wi_zip, Nx_nx, Nx_rt, Nx_bk, Nx_ct, Nx_ex, Fe_rt, Fe_nx, Tn_nx, Tn_ct, Tn_bk, Tn_rt, Tn_ex,
  w2_addAI, w2_addAS, w2_addAT, w2_addAL, w2_addAH, w2_mulAI, w2_mulAT, w2_mulAL, w2_ltAI, w2_eqWI, w2_neWI, w2_neWN, w2_neWB, w2_eqWS, w2_neWS, w1_listT, w1_tupL, w1_lenH, w1_rev, w2_II, gSub_iff, gMod_iff, gFdiv_iff, gPow_iff, w1_neg, w2_ordI, w2_ordS, w2_is, w2_isNot, w2_ixL, w2_ixR, w2_ixT, w2_ixS, w2_ixH, w1_abs, w1_intI, w1_intB, w2_max, w2_min, w1_str, w1_lenS, w1_lenL, w1_lenR, w1_lenT, w1_type, w1_all, w1_not, w1_S0, w2_join, wtr_bl, asQ_tup, asQ_lst,
  List.map_cons, List.map_nil, List.cons_append, List.nil_append, List.replicate_succ, List.replicate_zero, List.getElem?_cons_zero, List.getElem?_cons_succ, List.set_cons_zero, List.set_cons_succ, List.length_cons, List.length_nil, Option.some.injEq, exists_eq_left', exists_eq_left, D.int.injEq, and_true, true_and, Nat.reduceAdd, Nat.reduceSub, Nat.reduceLT, Nat.lt_add_left_iff_pos, Nat.zero_lt_succ, List.length_replicate, List.length_append, List.length_map, List.cons.injEq, List.length_set, gSeq, decide_true, if_true, D.bl.injEq, Bool.not_true, Bool.not_false, Bool.false_eq_true, if_false, reduceCtorEq, false_and, or_false, false_or])
/-- what a drawn row is -/
def RowOk (r : D) : Prop := ∃ c p ms, r = .lst [c, .int p, .tup ms] ∧ nameB c = true ∧ gs 0 c = true ∧ 1 ≤ p ∧ p ≤ 8 ∧ 1 ≤ ms.length ∧ ms.length ≤ 5 ∧ ∀ m ∈ ms, stepD p m = true ∧ gs 3 m = true ∧ shD m
theorem names3 : ∀ n ∈ [D.str "main", D.str "p", D.str "q"], nameB n = true ∧ gs 0 n = true := by
  intro n hn
  simp only [List.mem_cons, List.not_mem_nil, or_false] at hn
  rcases hn with rfl | rfl | rfl <;> exact ⟨by decide +kernel, by decide +kernel⟩
theorem plain_ok {k : Nat} {μ : List Cell} (hd : Die k μ) : WF F__law_any_plain [.h k] μ fun d μ' => ∃ a b j rows, d = .lst [a, b, .h j] ∧ μ'[j]? = some (.lst rows) ∧ j ≠ k ∧ rows ≠ [] ∧ rows.length ≤ 3 ∧ (∀ r ∈ rows, RowOk r) ∧ Dr k μ μ' := by
  unfold F__law_any_plain g__law_any_plain
  simp only [wf_fn, ws_seq, ws_par]
  walk_at "dl"
  refine ⟨by decide, ?_⟩
  obtain ⟨td, μ1, e1, ht, d1, _⟩ := pick_ok (xs := [D.int 2, D.int 3, D.int 2, D.int 1]) hd (by simp) (by simp)
  obtain ⟨t, rfl, t0, t1⟩ : ∃ t : Int, td = .int t ∧ 1 ≤ t ∧ t ≤ 3 := by
    simp only [List.mem_cons, List.not_mem_nil, or_false] at ht
    rcases ht with rfl | rfl | rfl | rfl <;> exact ⟨_, rfl, by decide, by decide⟩
  refine ⟨_, μ1, e1, ?_⟩
  refine ⟨by decide, _, _, ⟨rfl, rfl⟩, ?_⟩
  (try walk_at "dl")
  have dA := Dr.app d1.die (.lst [])
  refine ⟨by decide, ?_⟩
  obtain ⟨_, μ2, e2, ys, rfl, hy, hyl, d2⟩ := shuffle_ok (items := [D.str "main", D.str "p", D.str "q"]) dA.die (by simp)
  refine ⟨_, μ2, e2, ?_⟩
  walk_at "dl"
  refine ⟨by decide, ?_⟩
  obtain ⟨nd, μ3, e3, hn, d3, _⟩ := pick_ok (xs := [D.int 2, D.int 3, D.int 1, D.int 2]) d2.die (by simp) (by simp)
  obtain ⟨n, rfl, n0, n1⟩ : ∃ n : Int, nd = .int n ∧ 1 ≤ n ∧ n ≤ 3 := by
    simp only [List.mem_cons, List.not_mem_nil, or_false] at hn
    rcases hn with rfl | rfl | rfl | rfl <;> exact ⟨_, rfl, by decide, by decide⟩
  refine ⟨_, μ3, e3, ?_⟩
  (try walk_at "dl")
  rw [cut_to _ (by omega)]
  generalize hnames : ys.take n.toNat = names
  have hyl : ys.length = 3 := by simpa using hyl
  have hnl : names.length ≤ 3 ∧ 1 ≤ names.length := by
    rw [← hnames, List.length_take]
    omega
  have hnm : ∀ z ∈ names, nameB z = true ∧ gs 0 z = true := fun z hz => by
    rw [← hnames] at hz
    exact names3 z (hy z (List.mem_of_mem_take hz))
  have hne : names ≠ [] := fun e => by rw [e] at hnl; simp at hnl
  have hk1 := Dr.lt d1.die
  have D3 : Dr k μ1 μ3 := dA.trans (d2.trans d3)
  have hj3 : μ3[μ1.length]? = some (.lst []) := (d2.trans d3).at_ (by omega) (by simp)
  clear hnames hy hyl
  refine ws_forInv (fun ds S => ∃ (rows : List D) (ν : List Cell) (x4 x5 x6 x7 : Option D), S = ⟨[some (.h k), some (.int t), some (.h μ1.length), some (.lst names), x4, x5, x6, x7], ν⟩ ∧ Dr k μ1 ν ∧ ν[μ1.length]? = some (.lst rows) ∧ (∀ r ∈ rows, RowOk r) ∧ rows.length + ds.length = names.length ∧ ∀ d ∈ ds, d ∈ names) ?_ ?_ _ _ ⟨[], μ3, _, _, _, _, rfl, D3, hj3, by simp, by simp, fun d h => h⟩
  · rintro d r S ⟨rows, ν, x4, x5, x6, x7, rfl, dr, hj, hrow, hl, hds⟩
    simp only [ws_par, ws_seq]
    walk_at "dl"
    simp only [ws_par, ws_seq]
    walk_at "dl"
    refine ⟨by decide, ?_⟩
    obtain ⟨pd, ν1, f1, hp, g1, gn1⟩ := pick_ok (xs := [D.int 2, D.int 1, D.int 3, D.int 2]) dr.die (by simp) (by simp)
    obtain ⟨p, rfl, p0, p1⟩ : ∃ p : Int, pd = .int p ∧ 1 ≤ p ∧ p ≤ 8 := by
      simp only [List.mem_cons, List.not_mem_nil, or_false] at hp
      rcases hp with rfl | rfl | rfl | rfl <;> exact ⟨_, rfl, by decide, by decide⟩
    refine ⟨_, ν1, f1, ?_⟩
    refine ⟨by decide, _, _, ⟨rfl, rfl⟩, ?_⟩
    (try walk_at "dl")
    have gA := Dr.app g1.die (.lst [])
    obtain ⟨_, ν2, f2, m, rfl, m0, m1, g2, gn2⟩ := cast_ok (t := 4) gA.die (by decide) (by decide)
    refine ⟨_, ν2, f2, ?_⟩
    walk_at "dl"
    refine ⟨by omega, by omega, ?_⟩
    have hkν := Dr.lt g1.die
    have hi2 : ν2[ν1.length]? = some (.lst []) := g2.at_ (by omega) (by simp)
    have hjlt := (List.getElem?_eq_some_iff.mp hj).1
    have hj1 := g1.at_ (show μ1.length ≠ k by omega) hj
    have hnm1 := hds d List.mem_cons_self
    refine ws_forInv (fun es S => ∃ (ms : List D) (ξ : List Cell) (x7 : Option D), S = ⟨[some (.h k), some (.int t), some (.h μ1.length), some (.lst names), some d, some (.int p), some (.h ν1.length), x7], ξ⟩ ∧ Dr k ν1 ξ ∧ ξ[ν1.length]? = some (.lst ms) ∧ (∀ m ∈ ms, stepD p m = true ∧ gs 3 m = true ∧ shD m) ∧ ms.length + es.length = (2 + m).toNat) ?_ ?_ _ _ ⟨[], ν2, _, rfl, gA.trans g2, hi2, by simp, by rw [rng_len]; simp⟩
    · rintro e es S ⟨ms, ξ, x7, rfl, dξ, hi, hms, hml⟩
      walk_at "dl"
      refine ⟨isLst_of hi, ?_⟩
      obtain ⟨mv, ξ1, h1, hstep, hgs, hsh, q1⟩ := move_ok dξ.die t0 t1 p0 p1 hne (by omega) hnm
      refine ⟨_, ξ1, h1, ?_⟩
      have hi1 := q1.at_ (show ν1.length ≠ k by omega) hi
      simp only [List.length_cons] at hml
      refine (cApp_of hi1 (Nat.lt_of_le_of_lt (show _ ≤ 5 by omega) (by decide))).mpr ?_
      refine ⟨ms ++ [mv], _, _, rfl, (dξ.trans q1).set g1.die (Nat.le_refl _) _, cell_set hi1, fun x hx => ?_, by simp only [List.length_append, List.length_cons, List.length_nil]; omega⟩
      rcases List.mem_append.mp hx with h | h
      · exact hms x h
      · rw [List.mem_singleton] at h
        subst h
        exact ⟨hstep, hgs, hsh⟩
    · rintro S ⟨ms, ξ, x7, rfl, dξ, hi, hms, hml⟩
      have hml : ms.length = (2 + m).toNat := by simpa using hml
      have hjξ := dξ.at_ (show μ1.length ≠ k by omega) hj1
      walk_at "dl"
      refine ⟨isLst_of hjξ, ?_⟩
      rw [w1_tupH]
      refine ⟨ms, hi, by decide, ?_⟩
      simp only [List.length_cons] at hl
      rw [cApp_of hjξ (Nat.lt_of_le_of_lt (show _ ≤ 3 by omega) (by decide))]
      refine ⟨rows ++ [.lst [d, .int p, .tup ms]], _, _, _, _, _, rfl, ((dr.trans g1).trans dξ).set d1.die (Nat.le_refl _) _, cell_set hjξ, fun x hx => ?_, by simp only [List.length_append, List.length_cons, List.length_nil]; omega, fun x hx => hds x (List.mem_cons_of_mem _ hx)⟩
      rcases List.mem_append.mp hx with h | h
      · exact hrow x h
      · rw [List.mem_singleton] at h
        subst h
        exact ⟨d, p, ms, rfl, (hnm d hnm1).1, (hnm d hnm1).2, p0, p1, by omega, by omega, hms⟩
  · rintro S ⟨rows, ν, x4, x5, x6, x7, rfl, dr, hj, hrow, hl, _⟩
    walk_at "dl"
    obtain ⟨sm, ν1, f1, _, _, _, g1⟩ := subset_ok (t := t) dr.die t0 (by omega)
    refine ⟨_, ν1, f1, ?_⟩
    walk_at "dl"
    have hl : rows.length = names.length := by simpa using hl
    refine ⟨by decide, _, _, _, rows, rfl, g1.at_ (by omega) hj, by omega, fun e => by rw [e] at hl; simp at hl; omega, by omega, hrow, d1.trans (dr.trans g1)⟩
end G
namespace G
open PySem L2 DL PySem.DLQ
local macro_rules | `(tactic| walk_at "dl") => `(tactic| simp only [wf_fn, ws_seq, ws_then, ws_drop, ws_nx, ws_bk, ws_ct, ws_ret, ws_if, ws_for, wb_name, wb_sub, wb_tup, wb_seq, wbs_nil, wbs_cons, cSet_iff, we_V, we_C, we_B, we_U, we_App, we_newC, we_call, we_AndV, we_OrV, we_IfE, we_Ch, we_Lc, we_Sl, we_Apn, we_Pop, we_ListC, wa_nil, wa_cons, wa_len, wa_star, wo_no, wo_part, isI_i, sl_tup, sl_lst,
  wl_1, wl_2, wl_lst, wl_tup, wt_Tru, wt_Not, wt_And, wt_Or, wt_true, wi_seq, wi_rng1, wi_zip, Nx_nx, Nx_rt, Nx_bk, Nx_ct, Nx_ex, Fe_rt, Fe_nx, Tn_nx, Tn_ct, Tn_bk, Tn_rt, Tn_ex,
  w2_addAI, w2_addAS, w2_addAT, w2_addAL, w2_addAH, w2_mulAI, w2_mulAT, w2_mulAL, w2_ltAI, w2_eqWI, w2_neWI, w2_neWN, w2_neWB, w2_eqWS, w2_neWS, w1_listT, w1_tupL, w1_lenH, w1_rev, w2_II, gSub_iff, gMod_iff, gFdiv_iff, gPow_iff, w1_neg, w2_ordI, w2_ordS, w2_is, w2_isNot, w2_ixL, w2_ixR, w2_ixT, w2_ixS, w2_ixH, w1_abs, w1_intI, w1_intB, w2_max, w2_min, w1_str, w1_lenS, w1_lenL, w1_lenR, w1_lenT, w1_type, w1_all, w1_not, w1_S0, w2_join, wtr_bl, asQ_tup, asQ_lst,
  List.map_cons, List.map_nil, List.cons_append, List.nil_append, List.replicate_succ, List.replicate_zero, List.getElem?_cons_zero, List.getElem?_cons_succ, List.set_cons_zero, List.set_cons_succ, List.length_cons, List.length_nil, Option.some.injEq, exists_eq_left', exists_eq_left, D.int.injEq, and_true, true_and, Nat.reduceAdd, Nat.reduceSub, Nat.reduceLT, Nat.lt_add_left_iff_pos, Nat.zero_lt_succ, List.length_replicate, List.length_append, List.length_map, List.cons.injEq, List.length_set, gSeq, decide_true, if_true, D.bl.injEq, Bool.not_true, Bool.not_false, Bool.false_eq_true, if_false, reduceCtorEq, false_and, or_false, false_or])
/-! values near a tuple -/
theorem bent_ok {k K : Nat} {μ : List Cell} {items : List D} {odd : D} (hd : Die k μ) (hl : items.length ≤ 30) (hx : ∀ x ∈ items, gs K x = true) (ho : gs K odd = true) (hK : K ≤ 20) :
    WF F__law_bent_tuple [.h k, .tup items, odd] μ fun d μ' => gs (K + 1) d = true ∧ Dr k μ μ' := by
  unfold F__law_bent_tuple g__law_bent_tuple
  walk_at "dl"
  refine ⟨by decide, ?_⟩
  rw [w2_of (by unfold dNeW; rw [(eqv_nilT hx (by omega) _).2]; rfl)]
  walk_at "dl"
  suffices q : ∀ (i : Int) (ν : List Cell), 0 ≤ i → Dr k μ ν → ν.length = μ.length → WS (sSeq (bThen (bName 4) (fNewC (fCons (fB dAddA (fB dAddA (fSl (fV 1) fNo (fPart (fV 3))) (fApp gTup (fCons (fV 2) fNil))) (fSl (fV 1) (fPart (fB dAddA (fV 3) (fC (.int 1)))) fNo)) fNil)))
  (sSeq (sDrop (fApn (fV 4) (fB dAddA (fSl (fV 1) fNo (fPart (fV 3))) (fSl (fV 1) (fPart (fB dAddA (fV 3) (fC (.int 1)))) fNo))))
  (sSeq (bThen (bName 4) (fB dAddA (fV 4) (fApp gLst (fCons (fB dAddA (fSl (fV 1) fNo (fPart (fB dAddA (fV 3) (fC (.int 1))))) (fSl (fV 1) (fPart (fV 3)) fNo)) (fCons (fU dRev (fV 1)) (fCons (fApp (g1 dList) (fCons (fV 1) fNil)) fNil))))))
  (sSeq (bThen (bName 4) (fB dAddA (fV 4) (fApp gLst (fCons (fB dAddA (fV 1) (fApp gTup (fCons (fV 2) fNil))) (fCons (fB dAddA (fApp gTup (fCons (fV 2) fNil)) (fV 1)) (fCons (fV 2) fNil))))))
  (sRet (fCall F__law_pick (fLen 2 (fCons (fV 0) (fCons (fV 4) fNil)))))))))
      ⟨[some (.h k), some (.tup items), some odd, some (.int i), none], ν⟩ (Fe fun d μ' => gs (K + 1) d = true ∧ Dr k μ μ') by
    cases he : items.isEmpty with
    | true =>
      have h := q 0 μ (by decide) (Dr.self hd) rfl
      revert h
      walk_at "dl"
      exact id
    | false =>
      walk_at "dl"
      have hp : 0 < items.length := List.length_pos_iff.mpr fun e => by subst e; cases he
      obtain ⟨_, ν, e, i, rfl, h0, h1, dr, hn⟩ := cast_ok (t := items.length) hd (by omega) (by omega)
      refine ⟨_, ν, e, ?_⟩
      have h := q i ν h0 dr hn
      revert h
      walk_at "dl"
      exact id
  intro i ν h0 dr hn
  have sz : ∀ n : Nat, n ≤ 100 → n ≤ sizeLine := fun n h => Nat.le_trans h (by decide)
  have hk := Dr.lt dr.die
  walk_at "dl"
  rw [cut_to _ h0, cut_from _ h0, cut_from _ (show (0 : Int) ≤ i + 1 by omega), cut_to _ (show (0 : Int) ≤ i + 1 by omega)]
  have lt : (items.take i.toNat).length ≤ 30 := by rw [List.length_take]; omega
  have lt1 : (items.take (i + 1).toNat).length ≤ 30 := by rw [List.length_take]; omega
  have ld : (items.drop i.toNat).length ≤ 30 := by rw [List.length_drop]; omega
  have ld1 : (items.drop (i + 1).toNat).length ≤ 30 := by rw [List.length_drop]; omega
  have g0 : (items.take i.toNat).length + (items.drop (i + 1).toNat).length ≤ 30 := by rw [List.length_take, List.length_drop]; omega
  have g1 : (items.take (i + 1).toNat).length + (items.drop i.toNat).length ≤ 31 := by rw [List.length_take, List.length_drop]; omega
  generalize hX : D.tup (items.take i.toNat ++ [odd] ++ items.drop (i + 1).toNat) = X
  have hj : (ν ++ [Cell.lst [X]])[ν.length]? = some (.lst [X]) := by simp
  refine ⟨by decide, sz _ (by omega), sz _ (by omega), by decide, isLst_of hj, sz _ (by omega), ?_⟩
  rw [cApp_of hj (Nat.lt_of_le_of_lt (show [X].length ≤ 1 from Nat.le_refl _) (by decide))]
  have hj2 : ((ν ++ [Cell.lst [X]]).set ν.length (.lst ([X] ++ [D.tup (items.take i.toNat ++ items.drop (i + 1).toNat)])))[ν.length]? = some (.lst ([X] ++ [D.tup (items.take i.toNat ++ items.drop (i + 1).toNat)])) := cell_set hj
  have dr2 : Dr k μ ((ν ++ [Cell.lst [X]]).set ν.length (.lst ([X] ++ [D.tup (items.take i.toNat ++ items.drop (i + 1).toNat)]))) := (dr.trans (Dr.app dr.die _)).set hd (by omega) _
  generalize (ν ++ [Cell.lst [X]]).set ν.length (.lst ([X] ++ [D.tup (items.take i.toNat ++ items.drop (i + 1).toNat)])) = ξ at hj2 dr2
  refine ⟨sz _ (by omega), by decide, _, hj2, sz _ (by simp), by decide, sz _ (by omega), by decide, sz _ (by omega), by decide, sz _ (by simp), ?_⟩
  refine (pick_ok dr2.die (by simp) (by simp)).mono fun d μ' ⟨hm, d3, _⟩ => ⟨?_, dr2.trans d3⟩
  have hT : ∀ x ∈ items.take i.toNat, gs K x = true := fun x h => hx x (List.mem_of_mem_take h)
  have hT1 : ∀ x ∈ items.take (i + 1).toNat, gs K x = true := fun x h => hx x (List.mem_of_mem_take h)
  have hD : ∀ x ∈ items.drop i.toNat, gs K x = true := fun x h => hx x (List.mem_of_mem_drop h)
  have hD1 : ∀ x ∈ items.drop (i + 1).toNat, gs K x = true := fun x h => hx x (List.mem_of_mem_drop h)
  have ap : ∀ {a b : List D}, (∀ x ∈ a, gs K x = true) → (∀ x ∈ b, gs K x = true) → ∀ x ∈ a ++ b, gs K x = true := fun ha hb x h => (List.mem_append.mp h).elim (ha x) (hb x)
  have on : ∀ x ∈ [odd], gs K x = true := fun x h => by rw [List.mem_singleton] at h; subst h; exact ho
  simp only [List.cons_append, List.nil_append, List.mem_cons, List.not_mem_nil, or_false] at hm
  rcases hm with rfl | rfl | rfl | rfl | rfl | rfl | rfl | rfl
  · rw [← hX]
    exact (gs_mk (by simp only [List.length_append, List.length_cons, List.length_nil]; omega) (ap (ap hT on) hD1)).1
  · exact (gs_mk (by simp only [List.length_append]; omega) (ap hT hD1)).1
  · exact (gs_mk (by simp only [List.length_append]; omega) (ap hT1 hD)).1
  · exact (gs_mk (by simp only [List.length_reverse]; omega) fun x h => hx x (List.mem_reverse.mp h)).1
  · exact (gs_mk (by omega) hx).2
  · exact (gs_mk (by simp only [List.length_append, List.length_cons, List.length_nil]; omega) (ap hx on)).1
  · exact (gs_mk (xs := odd :: items) (by simp only [List.length_cons]; omega) (ap (a := [odd]) on hx)).1
  · exact gs_up ho
theorem bentmove_ok {k : Nat} {μ : List Cell} {ys : List D} {p : Int} (hd : Die k μ) (hs : stepD p (.tup ys) = true) (hg : gs 3 (.tup ys) = true) (hsh : shD (.tup ys)) : WF F__law_bent_move [.h k, .tup ys] μ fun d μ' => gs 5 d = true ∧ Dr k μ μ' := by
  obtain ⟨k', e, hl, hx⟩ := gs_tup hg
  cases e
  have hy : 0 < ys.length ∧ ys.length ≤ 6 := by
    rcases step_out hs with ⟨w, x, y, e, _⟩ | ⟨x, y, z, e, _⟩ | ⟨x, y, z, u, v, e, _⟩ <;> (cases e; exact ⟨by simp, by simp⟩)
  unfold F__law_bent_move g__law_bent_move
  simp only [wf_fn, ws_seq, ws_par]
  walk_at "dl"
  obtain ⟨_, μ1, e1, i, rfl, h0, h1, d1, _⟩ := cast_ok (t := ys.length) hd (by omega) (by omega)
  refine ⟨_, μ1, e1, ?_⟩
  obtain ⟨odd, μ2, e2, ho, d2, _⟩ := odd_ok d1.die
  refine ⟨_, μ2, e2, _, _, ⟨rfl, rfl⟩, ?_⟩
  (try walk_at "dl")
  obtain ⟨it, e3, hm, hix⟩ := atI_lt h0 h1
  clear hix
  have git := hx it hm
  refine ⟨it, e3, ?_⟩
  simp only [isiT (gs_pl git)]
  walk_at "dl"
  have sz : ∀ n : Nat, n ≤ 100 → n ≤ sizeLine := fun n h => Nat.le_trans h (by decide)
  have tail : ∀ ν, Dr k μ ν → WF F__law_bent_tuple [.h k, .tup ys, odd] ν fun d μ' => gs 5 d = true ∧ Dr k μ μ' := fun ν dν => by
    refine (bent_ok (K := 3) dν.die (by omega) (fun x h => gs_le (hx x h) (by omega)) ho (by decide)).mono fun d μ' ⟨h1, h2⟩ => ⟨gs_le h1 (by omega), dν.trans h2⟩
  have d12 := d1.trans d2
  cases ht : isTupD it with
  | false => walk_at "dl"; exact tail μ2 d12
  | true =>
    walk_at "dl"
    obtain ⟨_, μ3, e4, j, rfl, j0, j1, d3, _⟩ := cast_ok (t := 2) d2.die (by omega) (by omega)
    refine ⟨_, μ3, e4, ?_⟩
    walk_at "dl"
    refine ite2 (fun _ => ?_) fun _ => tail μ3 (d12.trans d3)
    refine ⟨it, e3, ?_⟩
    cases it <;> first | (cases ht; done) | skip
    rename_i zs
    obtain ⟨k2, e5, hl2, hz⟩ := gs_tup git
    cases e5
    have hz6 : zs.length ≤ 6 := by
      obtain ⟨ys', e6, h6⟩ := hsh
      cases e6
      exact h6 _ hm
    obtain ⟨bd, μ4, e7, hb, d4⟩ := bent_ok (K := 3) (items := zs) d3.die (by omega) (fun x h => gs_le (hz x h) (by omega)) ho (by decide)
    refine ⟨bd, μ4, e7, ?_⟩
    walk_at "dl"
    rw [cut_to _ h0, cut_from _ (show (0 : Int) ≤ i + 1 by omega)]
    refine ⟨by decide, sz _ (by rw [List.length_take]; omega), sz _ (by rw [List.length_take, List.length_drop]; omega), ?_, ((d12.trans d3).trans d4)⟩
    refine (gs_mk (k := 4) (by simp only [List.length_append, List.length_take, List.length_drop, List.length_cons, List.length_nil]; omega) fun x h => ?_).1
    rcases List.mem_append.mp h with h | h
    · rcases List.mem_append.mp h with h | h
      · exact gs_le (hx x (List.mem_of_mem_take h)) (by omega)
      · rw [List.mem_singleton] at h
        subst h
        exact hb
    · exact gs_le (hx x (List.mem_of_mem_drop h)) (by omega)
end G
namespace G
open PySem L2 DL PySem.DLQ
local macro_rules | `(tactic| walk_at "dl") => `(tactic| simp only [wf_fn, ws_seq, ws_then, ws_drop, ws_nx, ws_bk, ws_ct, ws_ret, ws_if, ws_for, wb_name, wb_sub, wb_tup, wb_seq, wbs_nil, wbs_cons, cSet_iff, we_V, we_C, we_B, we_U, we_App, we_newC, we_call, we_AndV, we_OrV, we_IfE, we_Ch, we_Lc, we_Sl, we_Apn, we_Pop, we_ListC, wa_nil, wa_cons, wa_len, wa_star, wo_no, wo_part, isI_i, sl_tup, sl_lst,
  wl_1, wl_2, wl_lst, wl_tup, wt_Tru, wt_Not, wt_And, wt_Or, wt_true, wi_seq, wi_rng1, wi_zip, Nx_nx, Nx_rt, Nx_bk, Nx_ct, Nx_ex, Fe_rt, Fe_nx, Tn_nx, Tn_ct, Tn_bk, Tn_rt, Tn_ex,
  w2_addAI, w2_addAS, w2_addAT, w2_addAL, w2_addAH, w2_mulAI, w2_mulAT, w2_mulAL, w2_ltAI, w2_eqWI, w2_neWI, w2_neWN, w2_neWB, w2_eqWS, w2_neWS, w1_listT, w1_tupL, w1_lenH, w1_rev, w2_II, gSub_iff, gMod_iff, gFdiv_iff, gPow_iff, w1_neg, w2_ordI, w2_ordS, w2_is, w2_isNot, w2_ixL, w2_ixR, w2_ixT, w2_ixS, w2_ixH, w1_abs, w1_intI, w1_intB, w2_max, w2_min, w1_str, w1_lenS, w1_lenL, w1_lenR, w1_lenT, w1_type, w1_all, w1_not, w1_S0, w2_join, wtr_bl, asQ_tup, asQ_lst,
  List.map_cons, List.map_nil, List.cons_append, List.nil_append, List.replicate_succ, List.replicate_zero, List.getElem?_cons_zero, List.getElem?_cons_succ, List.set_cons_zero, List.set_cons_succ, List.length_cons, List.length_nil, Option.some.injEq, exists_eq_left', exists_eq_left, D.int.injEq, and_true, true_and, Nat.reduceAdd, Nat.reduceSub, Nat.reduceLT, Nat.lt_add_left_iff_pos, Nat.zero_lt_succ, List.length_replicate, List.length_append, List.length_map, List.cons.injEq, List.length_set, gSeq, decide_true, if_true, D.bl.injEq, Bool.not_true, Bool.not_false, Bool.false_eq_true, if_false, reduceCtorEq, false_and, or_false, false_or])
def WJ (fs : List EvE) (acc : Str) (S : Sg) (P : Str → List Cell → Prop) : Prop := ∃ z μ', joinL fs acc S = some (z, μ') ∧ P z μ'
section
variable {ρ : List (Option D)} {μ : List Cell} {P : D → List Cell → Prop} {Z : Str → List Cell → Prop} {f : EvE} {fs : List EvE} {acc y : Str} {i : Int} {V : D → Prop}
theorem we_Js : WE (fJs fs) ⟨ρ, μ⟩ P ↔ WJ fs Str.empty ⟨ρ, μ⟩ fun z μ' => P (.str z) μ' := by
  constructor
  · rintro ⟨d, μ', e, p⟩
    unfold fJs at e
    split at e
    · rename_i z μ1 ej
      obtain ⟨rfl, rfl⟩ := pr_inj e
      exact ⟨z, _, ej, p⟩
    · cases e
  · rintro ⟨z, μ', e, p⟩
    exact ⟨_, _, by unfold fJs; rw [e], p⟩
theorem wj_nil : WJ [] acc ⟨ρ, μ⟩ Z ↔ Z acc μ := ⟨fun ⟨z, μ', e, p⟩ => by obtain ⟨rfl, rfl⟩ := pr_inj e; exact p, fun p => ⟨acc, μ, rfl, p⟩⟩
theorem wj_cons : WJ (f :: fs) acc ⟨ρ, μ⟩ Z ↔ WE f ⟨ρ, μ⟩ fun d μ1 => ∃ y, d = .str y ∧ (acc ++ y).length ≤ sizeLine ∧ WJ fs (acc ++ y) ⟨ρ, μ1⟩ Z := by
  constructor
  · rintro ⟨z, μ', e, p⟩
    unfold joinL at e
    split at e
    · rename_i y μ1 ef
      split at e
      · rename_i h
        exact ⟨_, μ1, ef, y, rfl, h, z, μ', e, p⟩
      · cases e
    · cases e
  · rintro ⟨d, μ1, ef, y, rfl, h, z, μ', e, p⟩
    exact ⟨z, μ', by unfold joinL; rw [ef]; simp only; rw [if_pos h]; exact e, p⟩
theorem w1_fmtS : W1 dFmt (.str y) μ V ↔ y.length ≤ sizeLine ∧ V (.str y) := by
  constructor
  · rintro ⟨z, e, p⟩
    unfold dFmt at e
    simp only at e
    split at e
    · rename_i h; cases e; exact ⟨h, p⟩
    · cases e
  · rintro ⟨h, p⟩
    exact ⟨_, by unfold dFmt; simp only; rw [if_pos h], p⟩
theorem w1_fmtI : W1 dFmt (.int i) μ V ↔ i.natAbs.log2 < 1920 ∧ V (.str (toString i)) := by
  constructor
  · rintro ⟨z, e, p⟩
    unfold dFmt at e
    simp only at e
    split at e
    · rename_i h; cases e; exact ⟨h, p⟩
    · cases e
  · rintro ⟨h, p⟩
    exact ⟨_, by unfold dFmt; simp only; rw [if_pos h], p⟩
end
theorem ts_len {i : Int} (h : i.natAbs < 10 ^ 40) : (Str.ofString (toString i)).length ≤ 50 ∧ i.natAbs.log2 < 1920 := by
  have z := int_text_length_le10 (k := 40) (by decide) h
  refine ⟨?_, ?_⟩
  · rw [ofString_length]
    omega
  · have lg : i.natAbs.log2 < 133 := by
      by_cases z : i.natAbs = 0
      · rw [z]; decide
      · exact (Nat.log2_lt z).mpr (Nat.lt_of_lt_of_le h (by decide))
    omega
def str7 (z : Str) (p n : Int) : Str := ("procedure " : Str) ++ z ++ (", " : Str) ++ (Str.ofString (toString p)) ++ (" points, " : Str) ++ (Str.ofString (toString n)) ++ (" moves" : Str)
theorem lits : (Str.ofString "procedure ").length = 10 ∧ (Str.ofString ", ").length = 2 ∧ (Str.ofString " points, ").length = 9 ∧ (Str.ofString " moves").length = 6 := by decide +kernel
theorem own_str {z : Str} {p : Int} {ms : List D} {j : Nat} {μ : List Cell} (h : Ob (.str z) (.int p) (.tup ms) j μ) (hz : z.length ≤ 12) (hp : p.natAbs < 10 ^ 40) (hl : ms.length ≤ 40) : gOwn1 "Procedure" (only 1 F_Procedure_str) okStr [.h j] μ = some (.str (str7 z p ms.length), μ) := by
  have h1 := ts_len hp
  have h2 := ts_len (i := (ms.length : Int)) (by rw [Int.natAbs_natCast]; exact Nat.lt_of_le_of_lt hl (by decide))
  have sz : ∀ n : Nat, n ≤ 1000 → n ≤ sizeLine := fun n h => Nat.le_trans h (by decide)
  obtain ⟨l1, l2, l3, l4⟩ := lits
  have e : F_Procedure_str [.h j] μ = some (.v (.str (str7 z p ms.length)), μ) := by
    apply to_eq
    unfold F_Procedure_str g_Procedure_str
    simp only [wf_fn, ws_ret, we_Js, wj_cons, wj_nil]
    walk_at "dl"
    simp only [D.str.injEq, exists_eq_left', exists_eq_left, Str.empty_append, w1_of h.called, w1_of h.points, w1_of h.moves, w1_fmtS, w1_fmtI, w1_lenT, Str.length_append, l1, l2, l3, l4]
    exact ⟨sz _ (by omega), sz _ (by omega), sz _ (by omega), sz _ (by omega), h1.2, sz _ (by omega), sz _ (by omega), h2.2, sz _ (by omega), sz _ (by omega), rfl⟩
  unfold gOwn1 only
  simp only
  rw [h.isO, if_pos rfl, if_pos (by rfl), e]
  rfl
/-! weights -/
theorem sum_le {f : D → Nat} {B : Nat} : ∀ {xs : List D}, (∀ x ∈ xs, f x ≤ B) → (xs.map f).sum ≤ xs.length * B
  | [], _ => by simp
  | x :: xs, h => by
    have := sum_le (f := f) (B := B) fun y hy => h y (List.mem_cons_of_mem _ hy)
    have := h x List.mem_cons_self
    simp only [List.map_cons, List.sum_cons, List.length_cons, Nat.add_mul, Nat.one_mul]
    omega
theorem wd_fl {k : Nat} {d : D} (h : fl d = true) : wd k d = 150 := by
  cases d <;> first | (cases h; done) | (cases k <;> rfl)
theorem wd_tup {k : Nat} {xs : List D} : wd (k + 1) (.tup xs) = 1 + (xs.map fun x => wd k x + 1).sum := rfl
theorem wd_num {k : Nat} {t : Int} {d : D} (h : numD t d = true) : wd k d = 150 := by
  obtain ⟨i, rfl, _⟩ := num_out h
  cases k <;> rfl
theorem wd_name {k : Nat} {d : D} (h : nameB d = true) : wd k d = 150 := by
  cases d <;> first | (cases h; done) | (cases k <;> rfl)
theorem wd_set {k : Nat} {t : Int} {d : D} (h : setD t d = true) (g : gs k d = true) : wd k d ≤ 13000 := by
  obtain ⟨zs, rfl, _⟩ := set_out h
  obtain ⟨k', rfl, hl, _⟩ := gs_tup g
  rw [wd_tup]
  have := sum_le (f := fun x => wd k' x + 1) (B := 151) (xs := zs.map D.int) fun x hx => by
    obtain ⟨z, _, rfl⟩ := List.mem_map.mp hx
    have : wd k' (.int z) = 150 := by cases k' <;> rfl
    omega
  omega
theorem wd_pairs {k : Nat} {d : D} (h : pairsD d = true) (g : gs k d = true) : wd k d ≤ 13000 := by
  obtain ⟨ps, rfl, _⟩ := pairs_out h
  obtain ⟨k', rfl, hl, hx⟩ := gs_tup g
  rw [wd_tup]
  have := sum_le (f := fun x => wd k' x + 1) (B := 304) (xs := ps.map pD) fun x hx' => by
    obtain ⟨q, _, rfl⟩ := List.mem_map.mp hx'
    obtain ⟨k2, rfl, _, _⟩ := gs_tup (hx _ hx')
    have e : ∀ z : Int, wd k2 (.int z) = 150 := fun z => by cases k2 <;> rfl
    show wd (k2 + 1) (.tup [.int q.1, .int q.2]) + 1 ≤ 304
    rw [wd_tup]
    simp only [List.map_cons, List.map_nil, List.sum_cons, List.sum_nil, e]
    omega
  omega
theorem wd_step {k : Nat} {p : Int} {d : D} (h : stepD p d = true) (g : gs k d = true) : wd k d ≤ 14000 := by
  have fs : ∀ (s : String) (k : Nat), wd k (.str (Str.ofString s)) = 150 := fun s k => by cases k <;> rfl
  have fw : ∀ (s : Str) (k : Nat), wd k (.str s) = 150 := fun s k => by cases k <;> rfl
  rcases step_out h with ⟨w, x, y, rfl, hw, hx, hy⟩ | ⟨x, y, z, rfl, hx, hy, hz⟩ | ⟨x, y, z, u, v, rfl, hx, hy, hv, hz, hu⟩
  · obtain ⟨k', rfl, _, hg⟩ := gs_tup g
    have a := wd_num (k := k') hx
    have b := wd_set (k := k') hy (hg y (by simp))
    rw [wd_tup]
    simp only [List.map_cons, List.map_nil, List.sum_cons, List.sum_nil, fw, a]
    omega
  · obtain ⟨k', rfl, _, hg⟩ := gs_tup g
    have a := wd_num (k := k') hx
    have b := wd_num (k := k') hy
    have c := wd_pairs (k := k') hz (hg z (by simp))
    rw [wd_tup]
    simp only [List.map_cons, List.map_nil, List.sum_cons, List.sum_nil, fw, a, b]
    omega
  · obtain ⟨k', rfl, _, hg⟩ := gs_tup g
    have a := wd_num (k := k') hx
    have b := wd_num (k := k') hy
    have c := wd_set (k := k') hu (hg u (by simp))
    have d := wd_name (k := k') hz
    have e : wd k' v = 150 := by
      rw [Bool.or_eq_true] at hv
      rcases hv with hv | hv
      · cases v <;> first | (cases hv; done) | (cases k' <;> rfl)
      · exact wd_num hv
    rw [wd_tup]
    simp only [List.map_cons, List.map_nil, List.sum_cons, List.sum_nil, fw, a, b, d, e]
    omega
theorem due_repr {k : Nat} {c s o : D} {r : List D} {μ : List Cell} (h : dueB c s o = true) (hc : gs k c = true) (hs : gs k s = true) (ho : gs k o = true) (hk : k ≤ 50) (hr : r.length ≤ 10) (hf : ∀ x ∈ r, fl x = true) : ∃ z, dReprR (.lst (c :: s :: o :: r)) μ = some (.str z) := by
  obtain ⟨hn, p, ms, rfl, rfl, _, _, hl, hm⟩ := due_out h
  obtain ⟨k', rfl, _, hg⟩ := gs_tup ho
  refine repr_of (k := k' + 1) (fun x hx => ?_) (by omega) ?_
  · rcases List.mem_cons.mp hx with rfl | hx
    · exact hc
    rcases List.mem_cons.mp hx with rfl | hx
    · exact hs
    rcases List.mem_cons.mp hx with rfl | hx
    · exact ho
    exact fl_gs (hf x hx)
  · have a := wd_name (k := k' + 1) hn
    have b : wd (k' + 1) (.int p) = 150 := rfl
    have c1 := sum_le (f := fun x => wd k' x + 1) (B := 14001) (xs := ms) fun x hx => by
      have := wd_step (hm x hx) (hg x hx)
      omega
    have d := sum_le (f := fun x => wd (k' + 1) x + 1) (B := 151) (xs := r) fun x hx => by
      have := wd_fl (k := k' + 1) (hf x hx)
      omega
    have e : ms.length * 14001 ≤ 16 * 14001 := Nat.mul_le_mul_right _ hl
    have f : r.length * 151 ≤ 10 * 151 := Nat.mul_le_mul_right _ hr
    simp only [List.map_cons, List.sum_cons, a, b, wd_tup]
    omega
theorem is_as {k : Nat} {c s o : D} {j : Nat} {μ : List Cell} (h : Ob c s o j μ) (hd : dueB c s o = true) (hc : gs k c = true) (hs : gs k s = true) (ho : gs k o = true) (hk : k ≤ 50) : F__law_is_as [.h j, .lst [c, s, o]] μ = some (.v (.bl true), μ) := by
  obtain ⟨z, ez⟩ := due_repr (μ := μ) (r := []) hd hc hs ho hk (by decide) (by simp)
  obtain ⟨hi, cs, eo⟩ := h
  have h : Ob c s o j μ := ⟨hi, cs, eo⟩
  apply to_eq
  unfold F__law_is_as g__law_is_as
  simp only [wf_fn, ws_ret, we_B, we_App, wa_cons, wa_nil, we_prop]
  walk_at "dl"
  refine ⟨_, _, rfl, eo, ?_⟩
  rw [wf_eq h.called']
  refine ⟨_, _, rfl, eo, ?_⟩
  rw [wf_eq h.points']
  refine ⟨_, _, rfl, eo, ?_⟩
  rw [wf_eq h.moves']
  walk_at "dl"
  refine ⟨by decide, ?_⟩
  rw [w1_of ez, w1_of ez, w2_of (by unfold dEqW; rw [eqW_str]; rfl)]
  simp
end G
namespace G
open PySem L2 DL PySem.DLQ
local macro_rules | `(tactic| walk_at "dl") => `(tactic| simp only [wf_fn, ws_seq, ws_then, ws_drop, ws_nx, ws_bk, ws_ct, ws_ret, ws_if, ws_for, wb_name, wb_sub, wb_tup, wb_seq, wbs_nil, wbs_cons, cSet_iff, we_V, we_C, we_B, we_U, we_App, we_newC, we_call, we_AndV, we_OrV, we_IfE, we_Ch, we_Lc, we_Sl, we_Apn, we_Pop, we_ListC, wa_nil, wa_cons, wa_len, wa_star, wo_no, wo_part, isI_i, sl_tup, sl_lst,
  wl_1, wl_2, wl_lst, wl_tup, wt_Tru, wt_Not, wt_And, wt_Or, wt_true, wi_seq, wi_rng1, wi_zip, Nx_nx, Nx_rt, Nx_bk, Nx_ct, Nx_ex, Fe_rt, Fe_nx, Tn_nx, Tn_ct, Tn_bk, Tn_rt, Tn_ex,
  w2_addAI, w2_addAS, w2_addAT, w2_addAL, w2_addAH, w2_mulAI, w2_mulAT, w2_mulAL, w2_ltAI, w2_eqWI, w2_neWI, w2_neWN, w2_neWB, w2_eqWS, w2_neWS, w1_listT, w1_tupL, w1_lenH, w1_rev, w2_II, gSub_iff, gMod_iff, gFdiv_iff, gPow_iff, w1_neg, w2_ordI, w2_ordS, w2_is, w2_isNot, w2_ixL, w2_ixR, w2_ixT, w2_ixS, w2_ixH, w1_abs, w1_intI, w1_intB, w2_max, w2_min, w1_str, w1_lenS, w1_lenL, w1_lenR, w1_lenT, w1_type, w1_all, w1_not, w1_S0, w2_join, wtr_bl, asQ_tup, asQ_lst,
  List.map_cons, List.map_nil, List.cons_append, List.nil_append, List.replicate_succ, List.replicate_zero, List.getElem?_cons_zero, List.getElem?_cons_succ, List.set_cons_zero, List.set_cons_succ, List.length_cons, List.length_nil, Option.some.injEq, exists_eq_left', exists_eq_left, D.int.injEq, and_true, true_and, Nat.reduceAdd, Nat.reduceSub, Nat.reduceLT, Nat.lt_add_left_iff_pos, Nat.zero_lt_succ, List.length_replicate, List.length_append, List.length_map, List.cons.injEq, List.length_set, gSeq, decide_true, if_true, D.bl.injEq, Bool.not_true, Bool.not_false, Bool.false_eq_true, if_false, reduceCtorEq, false_and, or_false, false_or])
theorem hinv : hInv "InvalidProgram" = some true := by decide
theorem Made.due {c s o : D} {μ μ' : List Cell} {r : Ov} (h : Made c s o μ r μ') (hd : dueB c s o = true) : r = .v (.h μ.length) ∧ Ob c s o μ.length μ' ∧ ∃ x, μ' = μ ++ [x] := by
  rcases h with ⟨_, rfl, hi, cs, rfl⟩ | ⟨h, _⟩
  · exact ⟨rfl, ⟨hi, cs, by simp⟩, _, rfl⟩
  · rw [hd] at h; cases h
theorem Made.no {c s o : D} {μ μ' : List Cell} {r : Ov} (h : Made c s o μ r μ') (hd : dueB c s o = false) : r = .x "InvalidProgram" none ∧ (μ' = μ ∨ ∃ x, μ' = μ ++ [x]) := by
  rcases h with ⟨h, _⟩ | ⟨_, rfl, h⟩
  · rw [hd] at h; cases h
  · exact ⟨rfl, h⟩
theorem Ob.mv {c s o : D} {j k : Nat} {μ μ' : List Cell} (h : Ob c s o j μ) (hj : j ≠ k) (d : Dr k μ μ') : Ob c s o j μ' := by
  obtain ⟨hi, cs, e⟩ := h
  exact ⟨hi, cs, d.at_ hj e⟩
theorem right_ok {k : Nat} {μ : List Cell} (hd : Die k μ) (h0 : 0 ≠ k) (hT : μ[0]? = some (.tab "_law_right" (qL "_law_right"))) : WF F__law_right [.h k] μ fun d μ' => d = .bl true ∧ Dr k μ μ' := by
  have sz : ∀ n : Nat, n ≤ 1000 → n ≤ sizeLine := fun n h => Nat.le_trans h (by decide)
  unfold F__law_right g__law_right
  walk_at "dl"
  obtain ⟨_, μ1, e1, a, b, j, rows, rfl, hj, hjk, hne, hrl, hrow, d1⟩ := plain_ok hd
  refine ⟨_, μ1, e1, ?_⟩
  walk_at "dl"
  simp only [at2, Option.some.injEq, exists_eq_left']
  obtain ⟨row, μ2, e2, hm, d2, _⟩ := pickH_ok d1.die hjk hj (List.length_pos_iff.mpr hne) (by omega)
  refine ⟨_, μ2, e2, ?_⟩
  obtain ⟨c, p, ms, rfl, hn, gc0, p0, p1, l0, l1, hms⟩ := hrow _ hm
  have gc : gs 6 c = true := gs_le gc0 (by omega)
  have gp : gs 6 (.int p) = true := int_gs (by omega) (by omega)
  have gm4 : gs 4 (.tup ms) = true := (gs_mk (by omega) fun x hx => (hms x hx).2.1).1
  have gm : gs 6 (.tup ms) = true := gs_le gm4 (by omega)
  have hdue : dueB c (.int p) (.tup ms) = true := by
    have h1 : ms.all (stepD p) = true := List.all_eq_true.mpr fun x hx => (hms x hx).1
    have h2 : ms.length ≤ 16 := by omega
    simp [dueB, movesB, hn, h1, h2, p0, p1]
  have hlay := due_lay hdue gc gm
  obtain ⟨z, rfl⟩ : ∃ z, c = .str z := by
    cases c <;> first | (cases hn; done) | exact ⟨_, rfl⟩
  have hz : z.length ≤ 8 := by
    have hn : nameS z = true := hn
    simp only [nameS, Bool.and_eq_true, decide_eq_true_eq] at hn
    exact hn.1.2
  refine ⟨_, rfl, by simp, ?_⟩
  walk_at "dl"
  -- one
  simp only [we_nox, wx_R]
  walk_at "dl"
  have d12 := d1.trans d2
  obtain ⟨r3, μ3, e3, m3⟩ := of_ok (μ := μ2) gc gp gm (by decide)
  obtain ⟨rfl, ob3, x3, rfl⟩ := m3.due hdue
  refine ⟨_, _, e3, ?_⟩
  have d3 : Dr k μ (μ2 ++ [x3]) := d12.trans (Dr.app d12.die _)
  have hk2 := Dr.lt d12.die
  generalize hj1 : μ2.length = j1 at ob3 e3 ⊢
  have hj1k : j1 ≠ k := by omega
  generalize μ2 ++ [x3] = μ3 at ob3 e3 d3 ⊢
  walk_at "dl"
  simp only [we_prop, we_BM, we_AppM, we_nox, wx_R]
  walk_at "dl"
  have obk := ob3
  obtain ⟨hi, cs, eo⟩ := obk
  refine ⟨_, _, rfl, eo, ?_⟩
  rw [wf_eq ob3.called']
  refine ⟨_, _, rfl, eo, ?_⟩
  rw [wf_eq ob3.points']
  refine ⟨_, _, rfl, eo, ?_⟩
  rw [wf_eq ob3.moves']
  refine ⟨_, own_len ob3 (by omega), ?_⟩
  (try walk_at "dl")
  obtain ⟨r4, μ4, e4, m4⟩ := of_ok (μ := μ3) gc gp gm (by decide)
  obtain ⟨rfl, ob4, x4, rfl⟩ := m4.due hdue
  refine ⟨_, _, e4, ?_⟩
  have d4 : Dr k μ (μ3 ++ [x4]) := d3.trans (Dr.app d3.die _)
  have ob34 : Ob (.str z) (.int p) (.tup ms) j1 (μ3 ++ [x4]) := ob3.mv hj1k (Dr.app d3.die _)
  generalize hj2 : μ3.length = j2 at ob4 e4 ⊢
  generalize μ3 ++ [x4] = μ4 at ob4 ob34 e4 d4 ⊢
  refine ⟨_, own_eq (g := id) ob34 ob4 hlay hlay ⟨gc, gp, gm⟩ ⟨gc, gp, gm⟩ (by decide), ?_⟩
  rw [eqD_refl hlay.1, eqD_refl hlay.2.1, eqD_refl hlay.2.2]
  have eb : id (true && (true && true)) = true := rfl
  rw [eb]
  refine ⟨by decide, ?_⟩
  obtain ⟨t1, et1⟩ := due_repr (μ := μ4) (r := [.int ms.length, .bl true]) hdue gc gp gm (by decide) (by simp) (fun x hx => by
    simp only [List.mem_cons, List.not_mem_nil, or_false] at hx
    rcases hx with rfl | rfl
    · exact decide_eq_true (by rw [Int.natAbs_natCast]; exact Nat.lt_of_le_of_lt l1 (by decide))
    · rfl)
  simp only [w1_of et1]
  refine ⟨by decide, ?_⟩
  rw [w2_of (by unfold dNeW; rw [neW_str]; rfl)]
  rw [wtr_bl]
  simp only [decide_true, Bool.not_true, Bool.false_eq_true, if_false]
  obtain ⟨q1, q2, q3, q4⟩ := lits
  have hp := ts_len (i := p) (by omega)
  have hq := ts_len (i := (ms.length : Int)) (by rw [Int.natAbs_natCast]; exact Nat.lt_of_le_of_lt l1 (by decide))
  simp only [Str.length_append, q1, q2, q3, q4]
  refine ⟨sz _ (by omega), sz _ (by omega), hp.2, sz _ (by omega), sz _ (by omega), ?_⟩
  refine ⟨_, own_str ob34 (by omega) (by omega) (by omega), ?_⟩
  refine ⟨hq.2, sz _ (by omega), sz _ (by omega), ?_⟩
  rw [w2_of (r := .bl false) (by
    unfold dNeW
    rw [neW_str]
    unfold str7
    simp)]
  rw [wtr_bl]
  simp only [Bool.false_eq_true, if_false]
  refine ⟨by decide, by decide, ?_⟩
  generalize some (D.lst [.str z, .int p, .tup ms, .int ms.length, .bl true]) = T5
  generalize some (D.str ((Str.ofString "procedure ") ++ z ++ (Str.ofString ", ") ++ (Str.ofString (toString p)) ++ (Str.ofString " points, "))) = T6
  have hmem : ∀ m ∈ ms, ∃ ys, m = .tup ys := fun m hm' => let ⟨ys, e, _⟩ := (hms m hm').2.2; ⟨ys, e⟩
  have h0l : 0 < μ4.length := Nat.lt_of_lt_of_le (List.getElem?_eq_some_iff.mp hT).1 d4.len
  have hT4 := d4.at_ h0 hT
  refine ws_forInv (fun ds S => ∃ (ν : List Cell) (x7 x8 x9 x10 x11 x12 x13 x14 x15 x16 x17 : Option D), S = ⟨[some (.h k), some (.str z), some (.int p), some (.tup ms), some (.h j1), T5, T6, x7, x8, x9, x10, x11, x12, x13, x14, x15, x16, x17], ν⟩ ∧ Dr k μ4 ν) ?_ ?_ _ _ ⟨μ4, _, _, _, _, _, _, _, _, _, _, _, rfl, Dr.self d4.die⟩
  · rintro d r S ⟨ν, x7, x8, x9, x10, x11, x12, x13, x14, x15, x16, x17, rfl, dr⟩
    simp only [ws_par, ws_seq]
    walk_at "dl"
    simp only [ws_par, ws_seq]
    walk_at "dl"
    obtain ⟨odd, ν1, f1, ho, g1, _⟩ := odd_ok dr.die
    refine ⟨_, ν1, f1, ?_⟩
    obtain ⟨_, ν2, f2, i, rfl, i0, i1, g2, _⟩ := cast_ok (t := ms.length) g1.die (by omega) (by omega)
    refine ⟨_, ν2, f2, _, _, ⟨rfl, rfl⟩, ?_⟩
    (try walk_at "dl")
    rw [cut_to _ i0]
    obtain ⟨mv, f3, hmv, _⟩ := atI_lt i0 i1
    obtain ⟨ys, rfl⟩ := hmem mv hmv
    have hs3 := hms _ hmv
    obtain ⟨bv, ν3, f4, hb, g3⟩ := bentmove_ok g2.die hs3.1 hs3.2.1 hs3.2.2
    rw [cut_from _ (show (0 : Int) ≤ i + 1 by omega)]
    have lt : (ms.take i.toNat).length ≤ 5 := by rw [List.length_take]; omega
    have ld : (ms.drop (i + 1).toNat).length ≤ 5 := by rw [List.length_drop]; omega
    have hBM : gs 6 (.tup (ms.take i.toNat ++ [bv] ++ ms.drop (i + 1).toNat)) = true := (gs_mk (k := 5) (by simp only [List.length_append, List.length_cons, List.length_nil]; omega) fun x h => by
      rcases List.mem_append.mp h with h | h
      · rcases List.mem_append.mp h with h | h
        · exact gs_le (hms x (List.mem_of_mem_take h)).2.1 (by omega)
        · rw [List.mem_singleton] at h
          subst h
          exact hb
      · exact gs_le (hms x (List.mem_of_mem_drop h)).2.1 (by omega)).1
    refine ⟨_, f3, _, ν3, f4, by decide, sz _ (by omega), sz _ (by omega), by decide, by decide, ⟨by decide, by decide, by decide⟩, by decide, by decide, by decide, ?_⟩
    generalize D.tup (ms.take i.toNat ++ [bv] ++ ms.drop (i + 1).toNat) = BM at hBM ⊢
    have e5 : (List.replicate (Int.toNat 5) [D.lst [D.str z, D.int p, BM]]).flatten = [D.lst [D.str z, D.int p, BM], D.lst [D.str z, D.int p, BM], D.lst [D.str z, D.int p, BM], D.lst [D.str z, D.int p, BM], D.lst [D.str z, D.int p, BM]] := rfl
    simp only [e5]
    refine ⟨sz _ (by simp), ?_⟩
    obtain ⟨bt, ν4, f5, hbt, g4⟩ := bent_ok (K := 3) (items := ms) g3.die (by omega) (fun x h => (hms x h).2.1) ho (by decide)
    refine ⟨bt, ν4, f5, by decide, ?_⟩
    obtain ⟨_, ν5, f6, r9, rfl, r0, r1, g5, _⟩ := cast_ok (t := 9) g4.die (by decide) (by decide)
    refine ⟨_, ν5, f6, ?_⟩
    refine w2_mulAT.mpr ⟨⟨fun e => (by subst e; simp at l0), r0, by omega, by omega⟩, by decide, by decide, sz _ (by simp), ?_⟩
    have hmul : gs 6 (.tup (List.replicate r9.toNat ms).flatten) = true := gs_le (gs_mk (k := 3) (by
      rw [List.length_flatten, List.map_replicate, List.sum_replicate_nat]
      have : r9.toNat * ms.length ≤ 8 * 5 := Nat.mul_le_mul (by omega) l1
      omega) fun x h => by
      obtain ⟨l, hl, hx⟩ := List.mem_flatten.mp h
      rw [(List.mem_replicate.mp hl).2] at hx
      exact (hms x hx).2.1).1 (by omega)
    obtain ⟨pk, ν6, f7, hpk, g6, _⟩ := pick_ok (xs := [D.lst [D.str z, D.int p, BM], D.lst [D.str z, D.int p, BM], D.lst [D.str z, D.int p, BM], D.lst [D.str z, D.int p, BM], D.lst [D.str z, D.int p, BM]] ++ [D.lst [odd, D.int p, D.tup ms], D.lst [D.str z, odd, D.tup ms]] ++ [D.lst [D.str z, D.int p, bt], D.lst [D.str z, D.int p, .tup (List.replicate r9.toNat ms).flatten]]) g5.die (by simp) (by simp)
    refine ⟨pk, ν6, f7, ?_⟩
    obtain ⟨c', s', o', rfl, gc', gs', go'⟩ : ∃ c' s' o', pk = .lst [c', s', o'] ∧ gs 6 c' = true ∧ gs 6 s' = true ∧ gs 6 o' = true := by
      have go : gs 6 odd = true := gs_le ho (by omega)
      have gb : gs 6 bt = true := gs_le hbt (by omega)
      simp only [List.cons_append, List.nil_append, List.mem_cons, List.not_mem_nil, or_false] at hpk
      rcases hpk with rfl | rfl | rfl | rfl | rfl | rfl | rfl | rfl | rfl <;> exact ⟨_, _, _, rfl, by assumption, by assumption, by assumption⟩
    have D6 : Dr k μ4 ν6 := (dr.trans g1).trans ((g2.trans g3).trans ((g4.trans g5).trans g6))
    generalize some (D.lst ([D.lst [D.str z, D.int p, BM], D.lst [D.str z, D.int p, BM], D.lst [D.str z, D.int p, BM], D.lst [D.str z, D.int p, BM], D.lst [D.str z, D.int p, BM]] ++ [D.lst [odd, D.int p, D.tup ms], D.lst [D.str z, odd, D.tup ms]] ++ [D.lst [D.str z, D.int p, bt], D.lst [D.str z, D.int p, .tup (List.replicate r9.toNat ms).flatten]])) = T11
    refine ⟨_, rfl, rfl, ?_⟩
    walk_at "dl"
    rw [wf_eq (lawdue gc' gs' go' (by decide) ν6)]
    walk_at "dl"
    simp only [we_met, wx_R]
    walk_at "dl"
    refine ⟨D6.at_ h0 hT4, ?_⟩
    obtain ⟨r7, ν7, f8, m7⟩ := of_ok (μ := ν6) gc' gs' go' (by decide)
    refine ⟨_, _, f8, ?_⟩
    have hlst : gs 7 (.lst [c', s', o']) = true := (gs_mk (k := 6) (by simp) fun x hx => by
      simp only [List.mem_cons, List.not_mem_nil, or_false] at hx
      rcases hx with rfl | rfl | rfl <;> assumption).2
    have hlst2 : gs 7 (.lst [D.str z, D.int p, D.tup ms]) = true := (gs_mk (k := 6) (by simp) fun x hx => by
      simp only [List.mem_cons, List.not_mem_nil, or_false] at hx
      rcases hx with rfl | rfl | rfl <;> assumption).2
    have hlay2 : Lay (.lst [D.str z, D.int p, D.tup ms]) := Lay.lst fun x hx => by
      simp only [List.mem_cons, List.not_mem_nil, or_false] at hx
      rcases hx with rfl | rfl | rfl
      · exact hlay.1
      · exact hlay.2.1
      · exact hlay.2.2
    cases hdu : dueB c' s' o' with
    | false =>
      obtain ⟨rfl, hν⟩ := m7.no hdu
      have D7 : Dr k μ4 ν7 := by
        rcases hν with rfl | ⟨x, rfl⟩
        · exact D6
        · exact D6.trans (Dr.app D6.die _)
      refine ⟨hinv, ?_⟩
      walk_at "dl"
      refine ⟨true, rfl, ?_⟩
      rw [if_neg (by decide)]
      refine ⟨by decide, by decide, ?_⟩
      rw [w2_of (by unfold dEqW; rw [eqW_gs hlst hlst2 hlay2 (by decide)]; rfl)]
      exact ⟨_, _, _, _, _, _, _, _, _, _, _, _, rfl, D7⟩
    | true =>
      obtain ⟨rfl, ob7, x, rfl⟩ := m7.due hdu
      have D7 : Dr k μ4 (ν6 ++ [x]) := D6.trans (Dr.app D6.die _)
      show MetP _ _ _ (.v (.h ν6.length)) _
      unfold MetP
      walk_at "dl"
      have hl7 := due_lay hdu gc' go'
      have ob1 : Ob (.str z) (.int p) (.tup ms) j1 (ν6 ++ [x]) := ob34.mv hj1k D7
      refine ⟨false, rfl, ?_⟩
      rw [if_neg (by decide)]
      refine ⟨by decide, ?_⟩
      rw [wf_eq (is_as ob7 hdu gc' gs' go' (by decide)), wtr_bl, if_neg (by decide)]
      refine ⟨by decide, by decide, ?_⟩
      rw [w2_of (by unfold dEqW; rw [eqW_gs hlst hlst2 hlay2 (by decide)]; rfl)]
      simp only [we_BM]
      walk_at "dl"
      refine ⟨_, own_eq (g := id) ob7 ob1 hl7 hlay ⟨gc', gs', go'⟩ ⟨gc, gp, gm⟩ (by decide), ?_⟩
      obtain ⟨⟨a1, b1, _⟩, ⟨a2, b2, _⟩, ⟨a3, b3, _⟩⟩ := hl7
      obtain ⟨⟨u1, v1, _⟩, ⟨u2, v2, _⟩, ⟨u3, v3, _⟩⟩ := hlay
      rw [eqD_lst b1 b2 b3 v1 v2 v3, w2_neWB, wtr_bl]
      rw [if_neg (by simp)]
      exact ⟨_, _, _, _, _, _, _, _, _, _, _, _, rfl, D7⟩
  · rintro S ⟨ν, x7, x8, x9, x10, x11, x12, x13, x14, x15, x16, x17, rfl, dr⟩
    have ob1 : Ob (.str z) (.int p) (.tup ms) j1 ν := ob34.mv hj1k dr
    walk_at "dl"
    simp only [we_BM]
    walk_at "dl"
    refine ⟨_, own_no (g := id) ob1 (.inl rfl), ?_⟩
    walk_at "dl"
    refine ⟨_, own_no (g := not) ob1 (.inr (.inl ⟨_, rfl⟩)), ?_⟩
    walk_at "dl"
    exact ⟨_, own_no (g := not) ob1 (.inr (.inr ⟨_, rfl⟩)), rfl, d4.trans dr⟩
end G
namespace G
open PySem L2 DL PySem.DLQ
local macro_rules | `(tactic| walk_at "dl") => `(tactic| simp only [wf_fn, ws_seq, ws_then, ws_drop, ws_nx, ws_bk, ws_ct, ws_ret, ws_if, ws_for, wb_name, wb_sub, wb_tup, wb_seq, wbs_nil, wbs_cons, cSet_iff, we_V, we_C, we_B, we_U, we_App, we_newC, we_call, we_AndV, we_OrV, we_IfE, we_Ch, we_Lc, we_Sl, we_Apn, we_Pop, we_ListC, wa_nil, wa_cons, wa_len, wa_star, wo_no, wo_part, isI_i, sl_tup, sl_lst,
  wl_1, wl_2, wl_lst, wl_tup, wt_Tru, wt_Not, wt_And, wt_Or, wt_true, wi_seq, wi_rng1, wi_zip, Nx_nx, Nx_rt, Nx_bk, Nx_ct, Nx_ex, Fe_rt, Fe_nx, Tn_nx, Tn_ct, Tn_bk, Tn_rt, Tn_ex,
  w2_addAI, w2_addAS, w2_addAT, w2_addAL, w2_addAH, w2_mulAI, w2_mulAT, w2_mulAL, w2_ltAI, w2_eqWI, w2_neWI, w2_neWN, w2_neWB, w2_eqWS, w2_neWS, w1_listT, w1_tupL, w1_lenH, w1_rev, w2_II, gSub_iff, gMod_iff, gFdiv_iff, gPow_iff, w1_neg, w2_ordI, w2_ordS, w2_is, w2_isNot, w2_ixL, w2_ixR, w2_ixT, w2_ixS, w2_ixH, w1_abs, w1_intI, w1_intB, w2_max, w2_min, w1_str, w1_lenS, w1_lenL, w1_lenR, w1_lenT, w1_type, w1_all, w1_not, w1_S0, w2_join, wtr_bl, asQ_tup, asQ_lst,
  List.map_cons, List.map_nil, List.cons_append, List.nil_append, List.replicate_succ, List.replicate_zero, List.getElem?_cons_zero, List.getElem?_cons_succ, List.set_cons_zero, List.set_cons_succ, List.length_cons, List.length_nil, Option.some.injEq, exists_eq_left', exists_eq_left, D.int.injEq, and_true, true_and, Nat.reduceAdd, Nat.reduceSub, Nat.reduceLT, Nat.lt_add_left_iff_pos, Nat.zero_lt_succ, List.length_replicate, List.length_append, List.length_map, List.cons.injEq, List.length_set, gSeq, decide_true, if_true, D.bl.injEq, Bool.not_true, Bool.not_false, Bool.false_eq_true, if_false, reduceCtorEq, false_and, or_false, false_or])
theorem met_step {F : FnF} {ds : List D} {c s o : D} {ν : List Cell} {P : D → List Cell → Prop} (hF : WFX F ds ν (Made c s o ν)) (h1 : dueB c s o = true → ∀ x, Ob c s o ν.length (ν ++ [x]) → P (.h ν.length) (ν ++ [x])) (h2 : dueB c s o = false → ∀ ν', (ν' = ν ∨ ∃ x, ν' = ν ++ [x]) → P .non ν') : WFX F ds ν (MetP hInv .non P) := by
  obtain ⟨r, μ', e, m⟩ := hF
  refine ⟨r, μ', e, ?_⟩
  cases hd : dueB c s o with
  | true =>
    obtain ⟨rfl, ob, x, rfl⟩ := m.due hd
    exact h1 hd x ob
  | false =>
    obtain ⟨rfl, h⟩ := m.no hd
    exact ⟨hinv, h2 hd μ' h⟩
/-- what is told so far -/
structure Sf (t n : Nat) (ν : List Cell) : Prop where
  tab : ν[1]? = some (.tab "law" (qL "law"))
  cel : ν[t]? = some (.lst (List.replicate n (.bl true)))
  ne : t ≠ 1
theorem Sf.app {t n : Nat} {ν : List Cell} (h : Sf t n ν) (x : Cell) : Sf t n (ν ++ [x]) := ⟨by rw [List.getElem?_append_left (List.getElem?_eq_some_iff.mp h.tab).1]; exact h.tab, by rw [List.getElem?_append_left (List.getElem?_eq_some_iff.mp h.cel).1]; exact h.cel, h.ne⟩
theorem Sf.app' {t n : Nat} {ν ν' : List Cell} (h : Sf t n ν) (e : ν' = ν ∨ ∃ x, ν' = ν ++ [x]) : Sf t n ν' := by
  rcases e with rfl | ⟨x, rfl⟩
  · exact h
  · exact h.app x
theorem Sf.put {t n : Nat} {ν : List Cell} {Z : List Cell → Prop} (h : Sf t n ν) (hn : n ≤ 50) (q : ∀ ν', Sf t (n + 1) ν' → Z ν') : ∃ μ3, cApp (.h t) (.bl true) ν = some μ3 ∧ Z μ3 := by
  refine (cApp_of h.cel (Nat.lt_of_le_of_lt (show _ ≤ 50 by rw [List.length_replicate]; exact hn) (by decide))).mpr (q _ ⟨?_, ?_, h.ne⟩)
  · rw [List.getElem?_set_ne h.ne]
    exact h.tab
  · rw [cell_set h.cel, ← List.replicate_succ']
theorem stepY {t n : Nat} {ν : List Cell} {F : FnF} {ds : List D} {c s o : D} {Z : List Cell → Prop} (h : Sf t n ν) (hF : WFX F ds ν (Made c s o ν)) (hd : dueB c s o = true) (hn : n ≤ 50) (q : ∀ ν', Sf t (n + 1) ν' → Z ν') : WFX F ds ν (MetP hInv .non fun x μ1 => ∃ k, isB x .non μ1 = some k ∧ ∃ μ3, cApp (.h t) (.bl !k) μ1 = some μ3 ∧ Z μ3) :=
  met_step hF (fun _ x _ => ⟨false, rfl, (h.app x).put hn q⟩) fun e => by rw [hd] at e; cases e
theorem stepN {t n : Nat} {ν : List Cell} {F : FnF} {ds : List D} {c s o : D} {Z : List Cell → Prop} (h : Sf t n ν) (hF : WFX F ds ν (Made c s o ν)) (hd : dueB c s o = false) (hn : n ≤ 50) (q : ∀ ν', Sf t (n + 1) ν' → Z ν') : WFX F ds ν (MetP hInv .non fun x μ1 => ∃ k, isB x .non μ1 = some k ∧ ∃ μ3, cApp (.h t) (.bl k) μ1 = some μ3 ∧ Z μ3) :=
  met_step hF (fun e => by rw [hd] at e; cases e) fun _ ν' e => ⟨true, rfl, (h.app' e).put hn q⟩
def wideQ : D → D
  | .int a => .tup [.int (a.fdiv 6), .int (a.fmod 6)]
  | d => d
def wideM : D := .tup [.str "go", .int 0, .int 7, .tup ((rngD 0 36).map wideQ)]
def wideD : List D := List.replicate 16 wideM
theorem w_gs : gs 6 (.tup wideD) = true := by decide +kernel
theorem w_gs2 : gs 6 (.tup (wideD ++ wideD.take 1)) = true := by decide +kernel
theorem w_due : dueB (.str "p") (.int 8) (.tup wideD) = true := by decide +kernel
theorem w_due2 : dueB (.str "p") (.int 8) (.tup (wideD ++ wideD.take 1)) = false := by decide +kernel
theorem p_gs : gs 6 (.str "p") = true ∧ gs 6 (.int 8) = true ∧ gs 6 (.int 9) = true ∧ gs 6 (.int 1) = true ∧ gs 6 (.int 2) = true ∧ gs 6 (.tup []) = true := by decide +kernel
theorem law_ok (ns : List Int) (h : ns.length ≤ 63) : ∃ μ', F_law [.rl (ns.map D.int)] (mu0 ["_law_right", "law"]) = some (.v (.bl true), μ') := by
  suffices q : WF F_law [.rl (ns.map D.int)] (mu0 ["_law_right", "law"]) fun d _ => d = .bl true by
    obtain ⟨d, μ', e, rfl⟩ := q
    exact ⟨μ', e⟩
  unfold F_law g_law
  walk_at "dl"
  generalize hm : (if (if ((ns.length : Nat) : Int) < 8 then ((ns.length : Nat) : Int) else 8) > 1 then (if ((ns.length : Nat) : Int) < 8 then ((ns.length : Nat) : Int) else 8) else 1) = m
  have m8 : 0 ≤ m ∧ m ≤ 8 := by
    rw [← hm]
    split <;> split <;> omega
  refine ⟨by omega, by omega, ?_⟩
  refine ws_forInv (fun ds S => ∃ μ a, S = ⟨[some (D.rl (ns.map D.int)), a, none, none, none, none], μ⟩ ∧ (μ[0]? = some (.tab "_law_right" (qL "_law_right")) ∧ μ[1]? = some (.tab "law" (qL "law"))) ∧ ∀ d ∈ ds, ∃ i : Nat, d = .int (0 + i)) ?_ ?_ _ _ ⟨_, none, rfl, ⟨rfl, rfl⟩, fun d hd => let ⟨i, _, e⟩ := mem_rng hd; ⟨i, e⟩⟩
  · rintro d r S ⟨μ, a, rfl, ⟨t0, t1⟩, hp⟩
    obtain ⟨i, rfl⟩ := hp d List.mem_cons_self
    walk_at "dl"
    obtain ⟨_, _, e1, x, y, rfl, rfl⟩ := numbers_ok ns (0 + (i : Int)) (by omega) μ
    refine ⟨_, _, e1, ?_⟩
    have h1 := (List.getElem?_eq_some_iff.mp t1).1
    have hdie : Die μ.length (μ ++ [.lst [.int x, .int y, .int 0]]) := ⟨x, y, 0, by simp⟩
    have tt0 : (μ ++ [.lst [.int x, .int y, .int 0]])[0]? = some (.tab "_law_right" (qL "_law_right")) := by rw [List.getElem?_append_left (by omega)]; exact t0
    have tt1 : (μ ++ [.lst [.int x, .int y, .int 0]])[1]? = some (.tab "law" (qL "law")) := by rw [List.getElem?_append_left (by omega)]; exact t1
    obtain ⟨_, μ2, e2, rfl, dr⟩ := right_ok hdie (by omega) tt0
    refine ⟨_, μ2, e2, ?_⟩
    walk_at "dl"
    exact ⟨_, _, rfl, ⟨dr.at_ (by omega) tt0, dr.at_ (by omega) tt1⟩, fun d hd => hp d (List.mem_cons_of_mem _ hd)⟩
  · rintro S ⟨ν, a, rfl, ⟨t0, t1⟩, _⟩
    walk_at "dl"
    refine ⟨by decide, by decide, ?_⟩
    obtain ⟨ys, ν', e, rfl, rfl⟩ := wlc_map (b := bName 1) (q := wideQ) (fa := fApp gTup (fCons (fB (dII gFdiv) (fV 1) (fC (.int 6))) (fCons (fB (dII gMod) (fV 1) (fC (.int 6))) fNil))) (ρ := wipeR [some (D.rl (ns.map D.int)), a, none, none, none, none] [1]) (μ := ν) (ds := rngD 0 (Int.toNat 36)) fun d hd => by
      obtain ⟨i, hi, rfl⟩ := mem_rng hd
      simp only [wipeR]
      walk_at "dl"
      exact ⟨by decide, by decide, by decide, rfl⟩
    refine ⟨_, _, e, by decide +kernel, by decide, by decide, ⟨by simp, by decide, by decide, by decide⟩, ?_⟩
    have eW : (List.replicate (Int.toNat 16) [D.tup [D.str "go", D.int 0, D.int 7, D.tup ((rngD 0 (Int.toNat 36)).map wideQ)]]).flatten = wideD := rfl
    simp only [eW, we_met, wx_R, we_BM, we_nox]
    walk_at "dl"
    obtain ⟨p1, p2, p3, p4, p5, p6⟩ := p_gs
    refine ⟨t1, met_step (of_ok p1 p2 w_gs (by decide)) (fun _ x _ => ?_) fun e => by rw [w_due] at e; cases e⟩
    refine ⟨false, rfl, by decide, ?_⟩
    have tt1 : (ν' ++ [x])[1]? = some (.tab "law" (qL "law")) := by rw [List.getElem?_append_left (List.getElem?_eq_some_iff.mp t1).1]; exact t1
    have h1 := (List.getElem?_eq_some_iff.mp tt1).1
    have sf : Sf (ν' ++ [x]).length 1 (ν' ++ [x] ++ [.lst [.bl (!false)]]) := ⟨by rw [List.getElem?_append_left h1]; exact tt1, by rw [List.getElem?_append_right (Nat.le_refl _), Nat.sub_self]; rfl, by omega⟩
    generalize (ν' ++ [x]).length = t at sf ⊢
    generalize ν' ++ [x] ++ [Cell.lst [.bl (!false)]] = ν1 at sf ⊢
    clear tt1 h1 e
    rw [cut_to _ (by decide)]
    refine ⟨isLst_of sf.cel, sf.tab, by decide +kernel, stepN sf (of_ok p1 p2 w_gs2 (by decide)) w_due2 (by decide) fun ν2 sf2 => ?_⟩
    refine ⟨isLst_of sf2.cel, sf2.tab, by decide, stepN sf2 (of_ok p1 p3 p6 (by decide)) (by decide +kernel) (by decide) fun ν3 sf3 => ?_⟩
    refine ⟨isLst_of sf3.cel, sf3.tab, met_step (mk_ok (ms := []) p1 p4 p6 (by decide)) (fun hdu x ob => ?_) fun e => absurd e (by decide +kernel)⟩
    have hlay := due_lay hdu p1 p6
    refine ⟨by decide, ?_⟩
    have sfx := sf3.app x
    have ob1 := ob
    have hlt : ν3.length < (ν3 ++ [x]).length := by simp
    generalize ν3 ++ [x] = ν4 at sfx ob1 hlt ⊢
    obtain ⟨r5, ν5, e5, m5⟩ := of_ok (μ := ν4) p1 p4 p6 (by decide)
    obtain ⟨rfl, ob5, x5, rfl⟩ := m5.due hdu
    refine ⟨_, _, e5, ?_⟩
    have ob1' : Ob (.str "p") (.int 1) (.tup []) ν3.length (ν4 ++ [x5]) := by
      obtain ⟨hi, cs, e⟩ := ob1
      exact ⟨hi, cs, by rw [List.getElem?_append_left hlt]; exact e⟩
    refine ⟨_, own_eq (g := id) ob1' ob5 hlay hlay ⟨p1, p4, p6⟩ ⟨p1, p4, p6⟩ (by decide), ?_⟩
    rw [eqD_refl hlay.1, eqD_refl hlay.2.1, eqD_refl hlay.2.2]
    refine Sf.put (n := 3) (sfx.app x5) (by decide) fun ν6 sf6 => ?_
    refine ⟨isLst_of sf6.cel, sf6.tab, by decide, by decide, stepY sf6 (mk_ok (ms := [D.tup [D.str "leave", D.int 0, D.tup [D.int 5]]]) p1 p4 (by decide +kernel) (by decide)) (by decide +kernel) (by decide) fun ν7 sf7 => ?_⟩
    refine ⟨isLst_of sf7.cel, sf7.tab, by decide, by decide, stepN sf7 (mk_ok (ms := [D.tup [D.str "leave", D.int 0, D.tup [D.int 6]]]) p1 p4 (by decide +kernel) (by decide)) (by decide +kernel) (by decide) fun ν8 sf8 => ?_⟩
    iterate 19 refine ⟨by decide, ?_⟩
    refine ws_forInv (fun ds S => ∃ ν x3 x4 n, S = ⟨[some (D.rl (ns.map D.int)), a, some (.h t), x3, x4, some (D.tup wideD)], ν⟩ ∧ Sf t n ν ∧ n + ds.length = 12 ∧ ∀ d ∈ ds, gs 6 (.tup [d]) = true ∧ dueB (.str "p") (.int 1) (.tup [d]) = false) ?_ ?_ _ _ ⟨ν8, _, _, 6, rfl, sf8, rfl, fun d hd => ?_⟩
    · rintro d r S ⟨ν, x3, x4, n, rfl, sf, hn, hd⟩
      have hd0 := hd d List.mem_cons_self
      simp only [List.length_cons] at hn
      walk_at "dl"
      simp only [we_met, wx_R]
      walk_at "dl"
      refine ⟨isLst_of sf.cel, sf.tab, by decide, stepN sf (of_ok p1 p4 hd0.1 (by decide)) hd0.2 (by omega) fun ν' sf' => ?_⟩
      exact ⟨ν', _, _, n + 1, rfl, sf', by omega, fun d hd' => hd d (List.mem_cons_of_mem _ hd')⟩
    · rintro S ⟨ν, x3, x4, n, rfl, sf, hn, _⟩
      have hn : n = 12 := by simpa using hn
      subst hn
      walk_at "dl"
      simp only [we_met, wx_R]
      walk_at "dl"
      refine ⟨isLst_of sf.cel, sf.tab, by decide, by decide, by decide, by decide, stepY sf (mk_ok (ms := [D.tup [D.str "call", D.int 0, D.int 0, D.str "p", D.tup [D.int 0], D.int 1], D.tup [D.str "fail", D.int 1, D.tup [D.int 5]]]) p1 p5 (by decide +kernel) (by decide)) (by decide +kernel) (by decide) fun ν9 sf9 => ?_⟩
      have hp : toPs (List.replicate 13 (D.bl true)) ν9 = some (List.replicate 13 (.bool true)) := toPs_of (by simp only [List.replicate, toRs, toR]) rfl
      have e13 : (List.replicate (Int.toNat 13) [D.bl true]).flatten = List.replicate 13 (.bl true) := rfl
      have ew : eqW (.h t) (.lst (List.replicate 13 (D.bl true))) ν9 = some true := by
        unfold eqW eqB eqP toQ
        simp only [sf9.cel, toP, hp, Option.map_some]
        rw [if_pos ⟨by decide +kernel, by decide +kernel⟩]
        exact congrArg some (show PyData.eqv _ _ = true from by decide +kernel)
      refine ⟨by decide, ⟨by decide, by decide, by decide⟩, ?_⟩
      rw [e13, w2_of (by unfold dEqW; rw [ew]; rfl)]
    · simp only [List.mem_cons, List.not_mem_nil, or_false] at hd
      rcases hd with rfl | rfl | rfl | rfl | rfl | rfl <;> decide +kernel
end G
namespace G
open PySem L2 DL
section
theorem all_mk {P : Program} {w : World} {K : PySem.W.Frag} {h : Heap} {mg : Str → Option Value} {fa : Addr} {ts : List Addr} (Yt : ∀ P, P ∈ ts → h.get? P = some (PySem.W.tabObj #[])) (X : K.In h) (G : h.Ns mainGlobals mg) (hfa : mg "law" = some (.ref fa))
    {od__law_cast an__law_cast : Option Addr} {sl__law_cast : Array (Option Value)} {oc__law_cast kV__law_cast dc__law_cast pm__law_cast cd__law_cast ct__law_cast : Value} {f__law_cast : Addr} {od__law_pick an__law_pick : Option Addr} {sl__law_pick : Array (Option Value)} {oc__law_pick kV__law_pick dc__law_pick pm__law_pick cd__law_pick ct__law_pick : Value} {f__law_pick : Addr} {od__law_is_word an__law_is_word : Option Addr} {sl__law_is_word : Array (Option Value)} {oc__law_is_word kV__law_is_word dc__law_is_word pm__law_is_word cd__law_is_word ct__law_is_word : Value} {f__law_is_word : Addr} {od__law_is_number an__law_is_number : Option Addr} {sl__law_is_number : Array (Option Value)} {oc__law_is_number kV__law_is_number dc__law_is_number pm__law_is_number cd__law_is_number ct__law_is_number : Value} {f__law_is_number : Addr} {od__law_is_set an__law_is_set : Option Addr} {sl__law_is_set : Array (Option Value)} {oc__law_is_set kV__law_is_set dc__law_is_set pm__law_is_set cd__law_is_set ct__law_is_set : Value} {f__law_is_set : Addr} {od__law_is_pairs an__law_is_pairs : Option Addr} {sl__law_is_pairs : Array (Option Value)} {oc__law_is_pairs kV__law_is_pairs dc__law_is_pairs pm__law_is_pairs cd__law_is_pairs ct__law_is_pairs : Value} {f__law_is_pairs : Addr} {od__law_is_step an__law_is_step : Option Addr} {sl__law_is_step : Array (Option Value)} {oc__law_is_step kV__law_is_step dc__law_is_step pm__law_is_step cd__law_is_step ct__law_is_step : Value} {f__law_is_step : Addr} {od__law_is_due an__law_is_due : Option Addr} {sl__law_is_due : Array (Option Value)} {oc__law_is_due kV__law_is_due dc__law_is_due pm__law_is_due cd__law_is_due ct__law_is_due : Value} {f__law_is_due : Addr} {od__law_shuffle an__law_shuffle : Option Addr} {sl__law_shuffle : Array (Option Value)} {oc__law_shuffle kV__law_shuffle dc__law_shuffle pm__law_shuffle cd__law_shuffle ct__law_shuffle : Value} {f__law_shuffle : Addr} {od__law_subset an__law_subset : Option Addr} {sl__law_subset : Array (Option Value)} {oc__law_subset kV__law_subset dc__law_subset pm__law_subset cd__law_subset ct__law_subset : Value} {f__law_subset : Addr} {od__law_a_move an__law_a_move : Option Addr} {sl__law_a_move : Array (Option Value)} {oc__law_a_move kV__law_a_move dc__law_a_move pm__law_a_move cd__law_a_move ct__law_a_move : Value} {f__law_a_move : Addr} {od__law_any_plain an__law_any_plain : Option Addr} {sl__law_any_plain : Array (Option Value)} {oc__law_any_plain kV__law_any_plain dc__law_any_plain pm__law_any_plain cd__law_any_plain ct__law_any_plain : Value} {f__law_any_plain : Addr} {od__law_odd_one an__law_odd_one : Option Addr} {sl__law_odd_one : Array (Option Value)} {oc__law_odd_one kV__law_odd_one dc__law_odd_one pm__law_odd_one cd__law_odd_one ct__law_odd_one : Value} {f__law_odd_one : Addr} {od_highest_mode an_highest_mode : Option Addr} {sl_highest_mode : Array (Option Value)} {oc_highest_mode kV_highest_mode dc_highest_mode pm_highest_mode cd_highest_mode ct_highest_mode : Value} {f_highest_mode : Addr} {od_is_name an_is_name : Option Addr} {sl_is_name : Array (Option Value)} {oc_is_name kV_is_name dc_is_name pm_is_name cd_is_name ct_is_name : Value} {f_is_name : Addr} {od_is_whole_within an_is_whole_within : Option Addr} {sl_is_whole_within : Array (Option Value)} {oc_is_whole_within kV_is_whole_within dc_is_whole_within pm_is_whole_within cd_is_whole_within ct_is_whole_within : Value} {f_is_whole_within : Addr} {od_is_ascending_below an_is_ascending_below : Option Addr} {sl_is_ascending_below : Array (Option Value)} {oc_is_ascending_below kV_is_ascending_below dc_is_ascending_below pm_is_ascending_below cd_is_ascending_below ct_is_ascending_below : Value} {f_is_ascending_below : Addr} {od_is_mode_set an_is_mode_set : Option Addr} {sl_is_mode_set : Array (Option Value)} {oc_is_mode_set kV_is_mode_set dc_is_mode_set pm_is_mode_set cd_is_mode_set ct_is_mode_set : Value} {f_is_mode_set : Addr} {od__is_pair an__is_pair : Option Addr} {sl__is_pair : Array (Option Value)} {oc__is_pair kV__is_pair dc__is_pair pm__is_pair cd__is_pair ct__is_pair : Value} {f__is_pair : Addr} {od__is_pairs an__is_pairs : Option Addr} {sl__is_pairs : Array (Option Value)} {oc__is_pairs kV__is_pairs dc__is_pairs pm__is_pairs cd__is_pairs ct__is_pairs : Value} {f__is_pairs : Addr} {od__is_move an__is_move : Option Addr} {sl__is_move : Array (Option Value)} {oc__is_move kV__is_move dc__is_move pm__is_move cd__is_move ct__is_move : Value} {f__is_move : Addr} {od_is_moves an_is_moves : Option Addr} {sl_is_moves : Array (Option Value)} {oc_is_moves kV_is_moves dc_is_moves pm_is_moves cd_is_moves ct_is_moves : Value} {f_is_moves : Addr} {od__law_is_as an__law_is_as : Option Addr} {sl__law_is_as : Array (Option Value)} {oc__law_is_as kV__law_is_as dc__law_is_as pm__law_is_as cd__law_is_as ct__law_is_as : Value} {f__law_is_as : Addr} {od__law_bent_tuple an__law_bent_tuple : Option Addr} {sl__law_bent_tuple : Array (Option Value)} {oc__law_bent_tuple kV__law_bent_tuple dc__law_bent_tuple pm__law_bent_tuple cd__law_bent_tuple ct__law_bent_tuple : Value} {f__law_bent_tuple : Addr} {od__law_bent_move an__law_bent_move : Option Addr} {sl__law_bent_move : Array (Option Value)} {oc__law_bent_move kV__law_bent_move dc__law_bent_move pm__law_bent_move cd__law_bent_move ct__law_bent_move : Value} {f__law_bent_move : Addr} {od__law_right an__law_right : Option Addr} {sl__law_right : Array (Option Value)} {oc__law_right kV__law_right dc__law_right pm__law_right ct__law_right : Value} {f__law_right : Addr} {cL__law_right : Addr} {od__law_numbers an__law_numbers : Option Addr} {sl__law_numbers : Array (Option Value)} {oc__law_numbers kV__law_numbers dc__law_numbers pm__law_numbers cd__law_numbers ct__law_numbers : Value} {f__law_numbers : Addr} {od_law an_law : Option Addr} {sl_law : Array (Option Value)} {oc_law kV_law dc_law pm_law ct_law : Value} {f_law : Addr} {cL_law : Addr} {od__law_met an__law_met : Option Addr} {sl__law_met : Array (Option Value)} {oc__law_met kV__law_met dc__law_met pm__law_met cd__law_met ct__law_met : Value} {f__law_met : Addr} {t_LONGEST_NAME : _} {t_MOST_MODES : _} {t_MOST_POINTS : _} {t_MOST_MOVES : _} {c_Procedure c_InvalidProgram : Addr} {od_Procedure_init an_Procedure_init : Option Addr} {sl_Procedure_init : Array (Option Value)} {oc_Procedure_init kV_Procedure_init dc_Procedure_init pm_Procedure_init cd_Procedure_init ct_Procedure_init : Value} {f_Procedure_init : Addr} {od_Procedure_of an_Procedure_of : Option Addr} {sl_Procedure_of : Array (Option Value)} {oc_Procedure_of kV_Procedure_of dc_Procedure_of pm_Procedure_of cd_Procedure_of ct_Procedure_of : Value} {f_Procedure_of : Addr} {p_Procedure_of : Addr} {r_Procedure_of : List Value} {od_Procedure_called an_Procedure_called : Option Addr} {sl_Procedure_called : Array (Option Value)} {oc_Procedure_called kV_Procedure_called dc_Procedure_called pm_Procedure_called cd_Procedure_called ct_Procedure_called : Value} {f_Procedure_called : Addr} {p_Procedure_called : Addr} {r_Procedure_called : List Value} {od_Procedure_points an_Procedure_points : Option Addr} {sl_Procedure_points : Array (Option Value)} {oc_Procedure_points kV_Procedure_points dc_Procedure_points pm_Procedure_points cd_Procedure_points ct_Procedure_points : Value} {f_Procedure_points : Addr} {p_Procedure_points : Addr} {r_Procedure_points : List Value} {od_Procedure_moves an_Procedure_moves : Option Addr} {sl_Procedure_moves : Array (Option Value)} {oc_Procedure_moves kV_Procedure_moves dc_Procedure_moves pm_Procedure_moves cd_Procedure_moves ct_Procedure_moves : Value} {f_Procedure_moves : Addr} {p_Procedure_moves : Addr} {r_Procedure_moves : List Value} {od_Procedure_eq an_Procedure_eq : Option Addr} {sl_Procedure_eq : Array (Option Value)} {oc_Procedure_eq kV_Procedure_eq dc_Procedure_eq pm_Procedure_eq cd_Procedure_eq ct_Procedure_eq : Value} {f_Procedure_eq : Addr} {od_Procedure_len an_Procedure_len : Option Addr} {sl_Procedure_len : Array (Option Value)} {oc_Procedure_len kV_Procedure_len dc_Procedure_len pm_Procedure_len cd_Procedure_len ct_Procedure_len : Value} {f_Procedure_len : Addr} {od_Procedure_str an_Procedure_str : Option Addr} {sl_Procedure_str : Array (Option Value)} {oc_Procedure_str kV_Procedure_str dc_Procedure_str pm_Procedure_str cd_Procedure_str ct_Procedure_str : Value} {f_Procedure_str : Addr} {p_PARTS : Addr} {es_PARTS : Array DictEntry} {en_PARTS : Nat} {PL__law_right : Addr} {ck__law_right : Value} {ci__law_right : Option Addr} {vs__law_right : Array Value} {cq__law_right : Array (Option Value)} {PL_law : Addr} {ck_law : Value} {ci_law : Option Addr} {vs_law : Array Value} {cq_law : Array (Option Value)}
    (a__law_cast : PySem.W.nsIn K mainGlobals "_law_cast" = some (some (.ref f__law_cast)))
    (l__law_cast : K.lookup f__law_cast = some ⟨oc__law_cast, od__law_cast, .func (PySem.W.fnOf "_law_cast" "_law_cast" (defArgs s__law_cast) (defBody s__law_cast) (defScope s__law_cast) .none kV__law_cast dc__law_cast pm__law_cast an__law_cast cd__law_cast ct__law_cast), sl__law_cast⟩)
    (c__law_cast_ : PySem.W.codeIn K cd__law_cast "_law_cast" = true)
    (k__law_cast : PySem.W.keepIn K (.ref f__law_cast) = true)
    (a__law_pick : PySem.W.nsIn K mainGlobals "_law_pick" = some (some (.ref f__law_pick)))
    (l__law_pick : K.lookup f__law_pick = some ⟨oc__law_pick, od__law_pick, .func (PySem.W.fnOf "_law_pick" "_law_pick" (defArgs s__law_pick) (defBody s__law_pick) (defScope s__law_pick) .none kV__law_pick dc__law_pick pm__law_pick an__law_pick cd__law_pick ct__law_pick), sl__law_pick⟩)
    (c__law_pick_ : PySem.W.codeIn K cd__law_pick "_law_pick" = true)
    (k__law_pick : PySem.W.keepIn K (.ref f__law_pick) = true)
    (a__law_is_word : PySem.W.nsIn K mainGlobals "_law_is_word" = some (some (.ref f__law_is_word)))
    (l__law_is_word : K.lookup f__law_is_word = some ⟨oc__law_is_word, od__law_is_word, .func (PySem.W.fnOf "_law_is_word" "_law_is_word" (defArgs s__law_is_word) (defBody s__law_is_word) (defScope s__law_is_word) .none kV__law_is_word dc__law_is_word pm__law_is_word an__law_is_word cd__law_is_word ct__law_is_word), sl__law_is_word⟩)
    (c__law_is_word_ : PySem.W.codeIn K cd__law_is_word "_law_is_word" = true)
    (k__law_is_word : PySem.W.keepIn K (.ref f__law_is_word) = true)
    (a__law_is_number : PySem.W.nsIn K mainGlobals "_law_is_number" = some (some (.ref f__law_is_number)))
    (l__law_is_number : K.lookup f__law_is_number = some ⟨oc__law_is_number, od__law_is_number, .func (PySem.W.fnOf "_law_is_number" "_law_is_number" (defArgs s__law_is_number) (defBody s__law_is_number) (defScope s__law_is_number) .none kV__law_is_number dc__law_is_number pm__law_is_number an__law_is_number cd__law_is_number ct__law_is_number), sl__law_is_number⟩)
    (c__law_is_number_ : PySem.W.codeIn K cd__law_is_number "_law_is_number" = true)
    (k__law_is_number : PySem.W.keepIn K (.ref f__law_is_number) = true)
    (a__law_is_set : PySem.W.nsIn K mainGlobals "_law_is_set" = some (some (.ref f__law_is_set)))
    (l__law_is_set : K.lookup f__law_is_set = some ⟨oc__law_is_set, od__law_is_set, .func (PySem.W.fnOf "_law_is_set" "_law_is_set" (defArgs s__law_is_set) (defBody s__law_is_set) (defScope s__law_is_set) .none kV__law_is_set dc__law_is_set pm__law_is_set an__law_is_set cd__law_is_set ct__law_is_set), sl__law_is_set⟩)
    (c__law_is_set_ : PySem.W.codeIn K cd__law_is_set "_law_is_set" = true)
    (k__law_is_set : PySem.W.keepIn K (.ref f__law_is_set) = true)
    (a__law_is_pairs : PySem.W.nsIn K mainGlobals "_law_is_pairs" = some (some (.ref f__law_is_pairs)))
    (l__law_is_pairs : K.lookup f__law_is_pairs = some ⟨oc__law_is_pairs, od__law_is_pairs, .func (PySem.W.fnOf "_law_is_pairs" "_law_is_pairs" (defArgs s__law_is_pairs) (defBody s__law_is_pairs) (defScope s__law_is_pairs) .none kV__law_is_pairs dc__law_is_pairs pm__law_is_pairs an__law_is_pairs cd__law_is_pairs ct__law_is_pairs), sl__law_is_pairs⟩)
    (c__law_is_pairs_ : PySem.W.codeIn K cd__law_is_pairs "_law_is_pairs" = true)
    (k__law_is_pairs : PySem.W.keepIn K (.ref f__law_is_pairs) = true)
    (a__law_is_step : PySem.W.nsIn K mainGlobals "_law_is_step" = some (some (.ref f__law_is_step)))
    (l__law_is_step : K.lookup f__law_is_step = some ⟨oc__law_is_step, od__law_is_step, .func (PySem.W.fnOf "_law_is_step" "_law_is_step" (defArgs s__law_is_step) (defBody s__law_is_step) (defScope s__law_is_step) .none kV__law_is_step dc__law_is_step pm__law_is_step an__law_is_step cd__law_is_step ct__law_is_step), sl__law_is_step⟩)
    (c__law_is_step_ : PySem.W.codeIn K cd__law_is_step "_law_is_step" = true)
    (k__law_is_step : PySem.W.keepIn K (.ref f__law_is_step) = true)
    (a__law_is_due : PySem.W.nsIn K mainGlobals "_law_is_due" = some (some (.ref f__law_is_due)))
    (l__law_is_due : K.lookup f__law_is_due = some ⟨oc__law_is_due, od__law_is_due, .func (PySem.W.fnOf "_law_is_due" "_law_is_due" (defArgs s__law_is_due) (defBody s__law_is_due) (defScope s__law_is_due) .none kV__law_is_due dc__law_is_due pm__law_is_due an__law_is_due cd__law_is_due ct__law_is_due), sl__law_is_due⟩)
    (c__law_is_due_ : PySem.W.codeIn K cd__law_is_due "_law_is_due" = true)
    (k__law_is_due : PySem.W.keepIn K (.ref f__law_is_due) = true)
    (a__law_shuffle : PySem.W.nsIn K mainGlobals "_law_shuffle" = some (some (.ref f__law_shuffle)))
    (l__law_shuffle : K.lookup f__law_shuffle = some ⟨oc__law_shuffle, od__law_shuffle, .func (PySem.W.fnOf "_law_shuffle" "_law_shuffle" (defArgs s__law_shuffle) (defBody s__law_shuffle) (defScope s__law_shuffle) .none kV__law_shuffle dc__law_shuffle pm__law_shuffle an__law_shuffle cd__law_shuffle ct__law_shuffle), sl__law_shuffle⟩)
    (c__law_shuffle_ : PySem.W.codeIn K cd__law_shuffle "_law_shuffle" = true)
    (k__law_shuffle : PySem.W.keepIn K (.ref f__law_shuffle) = true)
    (a__law_subset : PySem.W.nsIn K mainGlobals "_law_subset" = some (some (.ref f__law_subset)))
    (l__law_subset : K.lookup f__law_subset = some ⟨oc__law_subset, od__law_subset, .func (PySem.W.fnOf "_law_subset" "_law_subset" (defArgs s__law_subset) (defBody s__law_subset) (defScope s__law_subset) .none kV__law_subset dc__law_subset pm__law_subset an__law_subset cd__law_subset ct__law_subset), sl__law_subset⟩)
    (c__law_subset_ : PySem.W.codeIn K cd__law_subset "_law_subset" = true)
    (k__law_subset : PySem.W.keepIn K (.ref f__law_subset) = true)
    (a__law_a_move : PySem.W.nsIn K mainGlobals "_law_a_move" = some (some (.ref f__law_a_move)))
    (l__law_a_move : K.lookup f__law_a_move = some ⟨oc__law_a_move, od__law_a_move, .func (PySem.W.fnOf "_law_a_move" "_law_a_move" (defArgs s__law_a_move) (defBody s__law_a_move) (defScope s__law_a_move) .none kV__law_a_move dc__law_a_move pm__law_a_move an__law_a_move cd__law_a_move ct__law_a_move), sl__law_a_move⟩)
    (c__law_a_move_ : PySem.W.codeIn K cd__law_a_move "_law_a_move" = true)
    (k__law_a_move : PySem.W.keepIn K (.ref f__law_a_move) = true)
    (a__law_any_plain : PySem.W.nsIn K mainGlobals "_law_any_plain" = some (some (.ref f__law_any_plain)))
    (l__law_any_plain : K.lookup f__law_any_plain = some ⟨oc__law_any_plain, od__law_any_plain, .func (PySem.W.fnOf "_law_any_plain" "_law_any_plain" (defArgs s__law_any_plain) (defBody s__law_any_plain) (defScope s__law_any_plain) .none kV__law_any_plain dc__law_any_plain pm__law_any_plain an__law_any_plain cd__law_any_plain ct__law_any_plain), sl__law_any_plain⟩)
    (c__law_any_plain_ : PySem.W.codeIn K cd__law_any_plain "_law_any_plain" = true)
    (k__law_any_plain : PySem.W.keepIn K (.ref f__law_any_plain) = true)
    (a__law_odd_one : PySem.W.nsIn K mainGlobals "_law_odd_one" = some (some (.ref f__law_odd_one)))
    (l__law_odd_one : K.lookup f__law_odd_one = some ⟨oc__law_odd_one, od__law_odd_one, .func (PySem.W.fnOf "_law_odd_one" "_law_odd_one" (defArgs s__law_odd_one) (defBody s__law_odd_one) (defScope s__law_odd_one) .none kV__law_odd_one dc__law_odd_one pm__law_odd_one an__law_odd_one cd__law_odd_one ct__law_odd_one), sl__law_odd_one⟩)
    (c__law_odd_one_ : PySem.W.codeIn K cd__law_odd_one "_law_odd_one" = true)
    (k__law_odd_one : PySem.W.keepIn K (.ref f__law_odd_one) = true)
    (a_highest_mode : PySem.W.nsIn K mainGlobals "highest_mode" = some (some (.ref f_highest_mode)))
    (l_highest_mode : K.lookup f_highest_mode = some ⟨oc_highest_mode, od_highest_mode, .func (PySem.W.fnOf "highest_mode" "highest_mode" (defArgs s_highest_mode) (defBody s_highest_mode) (defScope s_highest_mode) .none kV_highest_mode dc_highest_mode pm_highest_mode an_highest_mode cd_highest_mode ct_highest_mode), sl_highest_mode⟩)
    (c_highest_mode_ : PySem.W.codeIn K cd_highest_mode "highest_mode" = true)
    (k_highest_mode : PySem.W.keepIn K (.ref f_highest_mode) = true)
    (a_is_name : PySem.W.nsIn K mainGlobals "is_name" = some (some (.ref f_is_name)))
    (l_is_name : K.lookup f_is_name = some ⟨oc_is_name, od_is_name, .func (PySem.W.fnOf "is_name" "is_name" (defArgs s_is_name) (defBody s_is_name) (defScope s_is_name) .none kV_is_name dc_is_name pm_is_name an_is_name cd_is_name ct_is_name), sl_is_name⟩)
    (c_is_name_ : PySem.W.codeIn K cd_is_name "is_name" = true)
    (k_is_name : PySem.W.keepIn K (.ref f_is_name) = true)
    (a_is_whole_within : PySem.W.nsIn K mainGlobals "is_whole_within" = some (some (.ref f_is_whole_within)))
    (l_is_whole_within : K.lookup f_is_whole_within = some ⟨oc_is_whole_within, od_is_whole_within, .func (PySem.W.fnOf "is_whole_within" "is_whole_within" (defArgs s_is_whole_within) (defBody s_is_whole_within) (defScope s_is_whole_within) .none kV_is_whole_within dc_is_whole_within pm_is_whole_within an_is_whole_within cd_is_whole_within ct_is_whole_within), sl_is_whole_within⟩)
    (c_is_whole_within_ : PySem.W.codeIn K cd_is_whole_within "is_whole_within" = true)
    (k_is_whole_within : PySem.W.keepIn K (.ref f_is_whole_within) = true)
    (a_is_ascending_below : PySem.W.nsIn K mainGlobals "is_ascending_below" = some (some (.ref f_is_ascending_below)))
    (l_is_ascending_below : K.lookup f_is_ascending_below = some ⟨oc_is_ascending_below, od_is_ascending_below, .func (PySem.W.fnOf "is_ascending_below" "is_ascending_below" (defArgs s_is_ascending_below) (defBody s_is_ascending_below) (defScope s_is_ascending_below) .none kV_is_ascending_below dc_is_ascending_below pm_is_ascending_below an_is_ascending_below cd_is_ascending_below ct_is_ascending_below), sl_is_ascending_below⟩)
    (c_is_ascending_below_ : PySem.W.codeIn K cd_is_ascending_below "is_ascending_below" = true)
    (k_is_ascending_below : PySem.W.keepIn K (.ref f_is_ascending_below) = true)
    (a_is_mode_set : PySem.W.nsIn K mainGlobals "is_mode_set" = some (some (.ref f_is_mode_set)))
    (l_is_mode_set : K.lookup f_is_mode_set = some ⟨oc_is_mode_set, od_is_mode_set, .func (PySem.W.fnOf "is_mode_set" "is_mode_set" (defArgs s_is_mode_set) (defBody s_is_mode_set) (defScope s_is_mode_set) .none kV_is_mode_set dc_is_mode_set pm_is_mode_set an_is_mode_set cd_is_mode_set ct_is_mode_set), sl_is_mode_set⟩)
    (c_is_mode_set_ : PySem.W.codeIn K cd_is_mode_set "is_mode_set" = true)
    (k_is_mode_set : PySem.W.keepIn K (.ref f_is_mode_set) = true)
    (a__is_pair : PySem.W.nsIn K mainGlobals "_is_pair" = some (some (.ref f__is_pair)))
    (l__is_pair : K.lookup f__is_pair = some ⟨oc__is_pair, od__is_pair, .func (PySem.W.fnOf "_is_pair" "_is_pair" (defArgs s__is_pair) (defBody s__is_pair) (defScope s__is_pair) .none kV__is_pair dc__is_pair pm__is_pair an__is_pair cd__is_pair ct__is_pair), sl__is_pair⟩)
    (c__is_pair_ : PySem.W.codeIn K cd__is_pair "_is_pair" = true)
    (k__is_pair : PySem.W.keepIn K (.ref f__is_pair) = true)
    (a__is_pairs : PySem.W.nsIn K mainGlobals "_is_pairs" = some (some (.ref f__is_pairs)))
    (l__is_pairs : K.lookup f__is_pairs = some ⟨oc__is_pairs, od__is_pairs, .func (PySem.W.fnOf "_is_pairs" "_is_pairs" (defArgs s__is_pairs) (defBody s__is_pairs) (defScope s__is_pairs) .none kV__is_pairs dc__is_pairs pm__is_pairs an__is_pairs cd__is_pairs ct__is_pairs), sl__is_pairs⟩)
    (c__is_pairs_ : PySem.W.codeIn K cd__is_pairs "_is_pairs" = true)
    (k__is_pairs : PySem.W.keepIn K (.ref f__is_pairs) = true)
    (a__is_move : PySem.W.nsIn K mainGlobals "_is_move" = some (some (.ref f__is_move)))
    (l__is_move : K.lookup f__is_move = some ⟨oc__is_move, od__is_move, .func (PySem.W.fnOf "_is_move" "_is_move" (defArgs s__is_move) (defBody s__is_move) (defScope s__is_move) .none kV__is_move dc__is_move pm__is_move an__is_move cd__is_move ct__is_move), sl__is_move⟩)
    (c__is_move_ : PySem.W.codeIn K cd__is_move "_is_move" = true)
    (k__is_move : PySem.W.keepIn K (.ref f__is_move) = true)
    (a_is_moves : PySem.W.nsIn K mainGlobals "is_moves" = some (some (.ref f_is_moves)))
    (l_is_moves : K.lookup f_is_moves = some ⟨oc_is_moves, od_is_moves, .func (PySem.W.fnOf "is_moves" "is_moves" (defArgs s_is_moves) (defBody s_is_moves) (defScope s_is_moves) .none kV_is_moves dc_is_moves pm_is_moves an_is_moves cd_is_moves ct_is_moves), sl_is_moves⟩)
    (c_is_moves_ : PySem.W.codeIn K cd_is_moves "is_moves" = true)
    (k_is_moves : PySem.W.keepIn K (.ref f_is_moves) = true)
    (a__law_is_as : PySem.W.nsIn K mainGlobals "_law_is_as" = some (some (.ref f__law_is_as)))
    (l__law_is_as : K.lookup f__law_is_as = some ⟨oc__law_is_as, od__law_is_as, .func (PySem.W.fnOf "_law_is_as" "_law_is_as" (defArgs s__law_is_as) (defBody s__law_is_as) (defScope s__law_is_as) .none kV__law_is_as dc__law_is_as pm__law_is_as an__law_is_as cd__law_is_as ct__law_is_as), sl__law_is_as⟩)
    (c__law_is_as_ : PySem.W.codeIn K cd__law_is_as "_law_is_as" = true)
    (k__law_is_as : PySem.W.keepIn K (.ref f__law_is_as) = true)
    (a__law_bent_tuple : PySem.W.nsIn K mainGlobals "_law_bent_tuple" = some (some (.ref f__law_bent_tuple)))
    (l__law_bent_tuple : K.lookup f__law_bent_tuple = some ⟨oc__law_bent_tuple, od__law_bent_tuple, .func (PySem.W.fnOf "_law_bent_tuple" "_law_bent_tuple" (defArgs s__law_bent_tuple) (defBody s__law_bent_tuple) (defScope s__law_bent_tuple) .none kV__law_bent_tuple dc__law_bent_tuple pm__law_bent_tuple an__law_bent_tuple cd__law_bent_tuple ct__law_bent_tuple), sl__law_bent_tuple⟩)
    (c__law_bent_tuple_ : PySem.W.codeIn K cd__law_bent_tuple "_law_bent_tuple" = true)
    (k__law_bent_tuple : PySem.W.keepIn K (.ref f__law_bent_tuple) = true)
    (a__law_bent_move : PySem.W.nsIn K mainGlobals "_law_bent_move" = some (some (.ref f__law_bent_move)))
    (l__law_bent_move : K.lookup f__law_bent_move = some ⟨oc__law_bent_move, od__law_bent_move, .func (PySem.W.fnOf "_law_bent_move" "_law_bent_move" (defArgs s__law_bent_move) (defBody s__law_bent_move) (defScope s__law_bent_move) .none kV__law_bent_move dc__law_bent_move pm__law_bent_move an__law_bent_move cd__law_bent_move ct__law_bent_move), sl__law_bent_move⟩)
    (c__law_bent_move_ : PySem.W.codeIn K cd__law_bent_move "_law_bent_move" = true)
    (k__law_bent_move : PySem.W.keepIn K (.ref f__law_bent_move) = true)
    (a__law_right : PySem.W.nsIn K mainGlobals "_law_right" = some (some (.ref f__law_right)))
    (l__law_right : K.lookup f__law_right = some ⟨oc__law_right, od__law_right, .func (PySem.W.fnOf "_law_right" "_law_right" (defArgs s__law_right) (defBody s__law_right) (defScope s__law_right) .none kV__law_right dc__law_right pm__law_right an__law_right (.ref cL__law_right) ct__law_right), sl__law_right⟩)
    (c__law_right_ : PySem.W.codeIn K (.ref cL__law_right) "_law_right" = true)
    (k__law_right : PySem.W.keepIn K (.ref f__law_right) = true)
    (a__law_numbers : PySem.W.nsIn K mainGlobals "_law_numbers" = some (some (.ref f__law_numbers)))
    (l__law_numbers : K.lookup f__law_numbers = some ⟨oc__law_numbers, od__law_numbers, .func (PySem.W.fnOf "_law_numbers" "_law_numbers" (defArgs s__law_numbers) (defBody s__law_numbers) (defScope s__law_numbers) .none kV__law_numbers dc__law_numbers pm__law_numbers an__law_numbers cd__law_numbers ct__law_numbers), sl__law_numbers⟩)
    (c__law_numbers_ : PySem.W.codeIn K cd__law_numbers "_law_numbers" = true)
    (k__law_numbers : PySem.W.keepIn K (.ref f__law_numbers) = true)
    (a_law : PySem.W.nsIn K mainGlobals "law" = some (some (.ref f_law)))
    (l_law : K.lookup f_law = some ⟨oc_law, od_law, .func (PySem.W.fnOf "law" "law" (defArgs s_law) (defBody s_law) (defScope s_law) .none kV_law dc_law pm_law an_law (.ref cL_law) ct_law), sl_law⟩)
    (c_law_ : PySem.W.codeIn K (.ref cL_law) "law" = true)
    (k_law : PySem.W.keepIn K (.ref f_law) = true)
    (a__law_met : PySem.W.nsIn K mainGlobals "_law_met" = some (some (.ref f__law_met)))
    (l__law_met : K.lookup f__law_met = some ⟨oc__law_met, od__law_met, .func (PySem.W.fnOf "_law_met" "_law_met" (defArgs s__law_met) (defBody s__law_met) (defScope s__law_met) .none kV__law_met dc__law_met pm__law_met an__law_met cd__law_met ct__law_met), sl__law_met⟩)
    (c__law_met_ : PySem.W.codeIn K cd__law_met "_law_met" = true)
    (k__law_met : PySem.W.keepIn K (.ref f__law_met) = true)
    (z_abs : PySem.W.nsIn K mainGlobals "abs" = some none)
    (z_all : PySem.W.nsIn K mainGlobals "all" = some none)
    (z_bool : PySem.W.nsIn K mainGlobals "bool" = some none)
    (z_int : PySem.W.nsIn K mainGlobals "int" = some none)
    (z_isinstance : PySem.W.nsIn K mainGlobals "isinstance" = some none)
    (z_len : PySem.W.nsIn K mainGlobals "len" = some none)
    (z_list : PySem.W.nsIn K mainGlobals "list" = some none)
    (z_max : PySem.W.nsIn K mainGlobals "max" = some none)
    (z_min : PySem.W.nsIn K mainGlobals "min" = some none)
    (z_range : PySem.W.nsIn K mainGlobals "range" = some none)
    (z_repr : PySem.W.nsIn K mainGlobals "repr" = some none)
    (z_set : PySem.W.nsIn K mainGlobals "set" = some none)
    (z_sorted : PySem.W.nsIn K mainGlobals "sorted" = some none)
    (z_str : PySem.W.nsIn K mainGlobals "str" = some none)
    (z_tuple : PySem.W.nsIn K mainGlobals "tuple" = some none)
    (z_type : PySem.W.nsIn K mainGlobals "type" = some none)
    (z_zip : PySem.W.nsIn K mainGlobals "zip" = some none)
    (x_LONGEST_NAME : PySem.W.nsIn K mainGlobals "LONGEST_NAME" = some (some (.int 8 t_LONGEST_NAME)))
    (x_MOST_MODES : PySem.W.nsIn K mainGlobals "MOST_MODES" = some (some (.int 6 t_MOST_MODES)))
    (x_MOST_POINTS : PySem.W.nsIn K mainGlobals "MOST_POINTS" = some (some (.int 8 t_MOST_POINTS)))
    (x_MOST_MOVES : PySem.W.nsIn K mainGlobals "MOST_MOVES" = some (some (.int 16 t_MOST_MOVES)))
    (ca_Procedure : PySem.W.nsIn K mainGlobals "Procedure" = some (some (.ref c_Procedure)))
    (ca_InvalidProgram : PySem.W.nsIn K mainGlobals "InvalidProgram" = some (some (.ref c_InvalidProgram)))
    (mk1 : PySem.W.makesIn K c_Procedure = true)
    (mk2 : PySem.W.findIn K (.ref c_Procedure) "__init__" = some (some (.ref f_Procedure_init)))
    (mk3 : PySem.W.isFn K (.ref f_Procedure_init) = true)
    (mk4 : PySem.W.keepIn K (.ref c_Procedure) = true)
    (l_Procedure_init : K.lookup f_Procedure_init = some ⟨oc_Procedure_init, od_Procedure_init, .func (PySem.W.fnOf "__init__" "Procedure.__init__" (defArgs s_Procedure_init) (defBody s_Procedure_init) (defScope s_Procedure_init) .none kV_Procedure_init dc_Procedure_init pm_Procedure_init an_Procedure_init cd_Procedure_init ct_Procedure_init), sl_Procedure_init⟩)
    (c_Procedure_init_ : PySem.W.codeIn K cd_Procedure_init "Procedure.__init__" = true)
    (k_Procedure_init : PySem.W.keepIn K (.ref f_Procedure_init) = true)
    (cl1 : PySem.W.plainGet K c_Procedure Str.empty = true)
    (cl2 : PySem.W.hasDictIn K c_Procedure = true)
    (cl3 : PySem.W.plainOver K c_Procedure = true)
    (cl4 : PySem.W.findIn K (.ref c_Procedure) "__setattr__" = some (some (.builtin "object.__setattr__")))
    (cr1 : PySem.W.readsIn K c_Procedure (.type "type") = true)
    (cr2 : PySem.W.specialIn K (.ref c_Procedure) "__getattribute__" = some (some (.builtin "type.__getattribute__")))
    (p1_Procedure_of : PySem.W.findCls K (.ref c_Procedure) (.type "type") "of" = some (.get (.builtin "classmethod.__get__") (.ref p_Procedure_of) .none (.ref c_Procedure)))
    (p2_Procedure_of : PySem.W.recIn K p_Procedure_of "classmethod" = some (.ref f_Procedure_of :: r_Procedure_of))
    (p3_Procedure_of : PySem.W.fnIn K f_Procedure_of = true)
    (l_Procedure_of : K.lookup f_Procedure_of = some ⟨oc_Procedure_of, od_Procedure_of, .func (PySem.W.fnOf "of" "Procedure.of" (defArgs s_Procedure_of) (defBody s_Procedure_of) (defScope s_Procedure_of) .none kV_Procedure_of dc_Procedure_of pm_Procedure_of an_Procedure_of cd_Procedure_of ct_Procedure_of), sl_Procedure_of⟩)
    (c_Procedure_of_ : PySem.W.codeIn K cd_Procedure_of "Procedure.of" = true)
    (k_Procedure_of : PySem.W.keepIn K (.ref f_Procedure_of) = true)
    (p1_Procedure_called : PySem.W.findIn K (.ref c_Procedure) "called" = some (some (.ref p_Procedure_called)))
    (p2_Procedure_called : PySem.W.specialIn K (.ref p_Procedure_called) "__get__" = some (some (.builtin "property.__get__")))
    (p3_Procedure_called : PySem.W.takesIn K (.ref p_Procedure_called) = some true)
    (p4_Procedure_called : PySem.W.recIn K p_Procedure_called "property" = some (.ref f_Procedure_called :: r_Procedure_called))
    (l_Procedure_called : K.lookup f_Procedure_called = some ⟨oc_Procedure_called, od_Procedure_called, .func (PySem.W.fnOf "called" "Procedure.called" (defArgs s_Procedure_called) (defBody s_Procedure_called) (defScope s_Procedure_called) .none kV_Procedure_called dc_Procedure_called pm_Procedure_called an_Procedure_called cd_Procedure_called ct_Procedure_called), sl_Procedure_called⟩)
    (c_Procedure_called_ : PySem.W.codeIn K cd_Procedure_called "Procedure.called" = true)
    (k_Procedure_called : PySem.W.keepIn K (.ref f_Procedure_called) = true)
    (p1_Procedure_points : PySem.W.findIn K (.ref c_Procedure) "points" = some (some (.ref p_Procedure_points)))
    (p2_Procedure_points : PySem.W.specialIn K (.ref p_Procedure_points) "__get__" = some (some (.builtin "property.__get__")))
    (p3_Procedure_points : PySem.W.takesIn K (.ref p_Procedure_points) = some true)
    (p4_Procedure_points : PySem.W.recIn K p_Procedure_points "property" = some (.ref f_Procedure_points :: r_Procedure_points))
    (l_Procedure_points : K.lookup f_Procedure_points = some ⟨oc_Procedure_points, od_Procedure_points, .func (PySem.W.fnOf "points" "Procedure.points" (defArgs s_Procedure_points) (defBody s_Procedure_points) (defScope s_Procedure_points) .none kV_Procedure_points dc_Procedure_points pm_Procedure_points an_Procedure_points cd_Procedure_points ct_Procedure_points), sl_Procedure_points⟩)
    (c_Procedure_points_ : PySem.W.codeIn K cd_Procedure_points "Procedure.points" = true)
    (k_Procedure_points : PySem.W.keepIn K (.ref f_Procedure_points) = true)
    (p1_Procedure_moves : PySem.W.findIn K (.ref c_Procedure) "moves" = some (some (.ref p_Procedure_moves)))
    (p2_Procedure_moves : PySem.W.specialIn K (.ref p_Procedure_moves) "__get__" = some (some (.builtin "property.__get__")))
    (p3_Procedure_moves : PySem.W.takesIn K (.ref p_Procedure_moves) = some true)
    (p4_Procedure_moves : PySem.W.recIn K p_Procedure_moves "property" = some (.ref f_Procedure_moves :: r_Procedure_moves))
    (l_Procedure_moves : K.lookup f_Procedure_moves = some ⟨oc_Procedure_moves, od_Procedure_moves, .func (PySem.W.fnOf "moves" "Procedure.moves" (defArgs s_Procedure_moves) (defBody s_Procedure_moves) (defScope s_Procedure_moves) .none kV_Procedure_moves dc_Procedure_moves pm_Procedure_moves an_Procedure_moves cd_Procedure_moves ct_Procedure_moves), sl_Procedure_moves⟩)
    (c_Procedure_moves_ : PySem.W.codeIn K cd_Procedure_moves "Procedure.moves" = true)
    (k_Procedure_moves : PySem.W.keepIn K (.ref f_Procedure_moves) = true)
    (sp_Procedure_eq : PySem.W.findIn K (.ref c_Procedure) "__eq__" = some (some (.ref f_Procedure_eq)))
    (ip_Procedure_eq : PySem.W.isFn K (.ref f_Procedure_eq) = true)
    (l_Procedure_eq : K.lookup f_Procedure_eq = some ⟨oc_Procedure_eq, od_Procedure_eq, .func (PySem.W.fnOf "__eq__" "Procedure.__eq__" (defArgs s_Procedure_eq) (defBody s_Procedure_eq) (defScope s_Procedure_eq) .none kV_Procedure_eq dc_Procedure_eq pm_Procedure_eq an_Procedure_eq cd_Procedure_eq ct_Procedure_eq), sl_Procedure_eq⟩)
    (c_Procedure_eq_ : PySem.W.codeIn K cd_Procedure_eq "Procedure.__eq__" = true)
    (k_Procedure_eq : PySem.W.keepIn K (.ref f_Procedure_eq) = true)
    (sp_Procedure_len : PySem.W.findIn K (.ref c_Procedure) "__len__" = some (some (.ref f_Procedure_len)))
    (ip_Procedure_len : PySem.W.isFn K (.ref f_Procedure_len) = true)
    (l_Procedure_len : K.lookup f_Procedure_len = some ⟨oc_Procedure_len, od_Procedure_len, .func (PySem.W.fnOf "__len__" "Procedure.__len__" (defArgs s_Procedure_len) (defBody s_Procedure_len) (defScope s_Procedure_len) .none kV_Procedure_len dc_Procedure_len pm_Procedure_len an_Procedure_len cd_Procedure_len ct_Procedure_len), sl_Procedure_len⟩)
    (c_Procedure_len_ : PySem.W.codeIn K cd_Procedure_len "Procedure.__len__" = true)
    (k_Procedure_len : PySem.W.keepIn K (.ref f_Procedure_len) = true)
    (sp_Procedure_str : PySem.W.findIn K (.ref c_Procedure) "__str__" = some (some (.ref f_Procedure_str)))
    (ip_Procedure_str : PySem.W.isFn K (.ref f_Procedure_str) = true)
    (l_Procedure_str : K.lookup f_Procedure_str = some ⟨oc_Procedure_str, od_Procedure_str, .func (PySem.W.fnOf "__str__" "Procedure.__str__" (defArgs s_Procedure_str) (defBody s_Procedure_str) (defScope s_Procedure_str) .none kV_Procedure_str dc_Procedure_str pm_Procedure_str an_Procedure_str cd_Procedure_str ct_Procedure_str), sl_Procedure_str⟩)
    (c_Procedure_str_ : PySem.W.codeIn K cd_Procedure_str "Procedure.__str__" = true)
    (k_Procedure_str : PySem.W.keepIn K (.ref f_Procedure_str) = true)
    (ne_ : PySem.W.findIn K (.ref c_Procedure) "__ne__" = some (some (.builtin "object.__ne__")))
    (mr_ : PySem.W.mroIn K c_Procedure (.type "object") = some true)
    (ic1 : PySem.W.findIn K (.ref c_Procedure) "__class__" = some (some (.builtin "object.__class__")))
    (ic2 : PySem.W.specialIn K (.builtin "object.__class__") "__get__" = some (some (.builtin "getset_descriptor.__get__")))
    (ic3 : PySem.W.takesIn K (.builtin "object.__class__") = some true)
    (ic4 : PySem.W.kitOne K (.ref c_Procedure) (.ref c_Procedure) = some true)
    (kt0 : PySem.W.kitOne K (.type "NoneType") (.ref c_Procedure) = some false)
    (kt1 : PySem.W.kitOne K (.type "str") (.ref c_Procedure) = some false)
    (kt2 : PySem.W.kitOne K (.type "tuple") (.ref c_Procedure) = some false)
    (na__called : PySem.W.findIn K (.ref c_Procedure) "_called" = some none)
    (na__points : PySem.W.findIn K (.ref c_Procedure) "_points" = some none)
    (na__moves : PySem.W.findIn K (.ref c_Procedure) "_moves" = some none)
    (na__highest : PySem.W.findIn K (.ref c_Procedure) "_highest" = some none)
    (na__callees : PySem.W.findIn K (.ref c_Procedure) "_callees" = some none)
    (q_ : PySem.W.excIn K c_InvalidProgram [.type "ValueError", .type "Exception", .type "BaseException", .type "object"] "ValueError.__new__" = true)
    (k_InvalidProgram : PySem.W.keepIn K (.ref c_InvalidProgram) = true)
    (b_ : PySem.W.subIn K (.ref c_InvalidProgram) (.type "BaseException") = some true)
    (y_ : PySem.W.typeIn K (.ref c_InvalidProgram) = some (.type "type"))
    (xe : PySem.W.exmOne K (.ref c_InvalidProgram) (.ref c_InvalidProgram) = some true)
    (a_PARTS : PySem.W.nsIn K mainGlobals "PARTS" = some (some (.ref p_PARTS)))
    (d_PARTS : K.lookup p_PARTS = some ⟨.type "dict", none, .dict es_PARTS en_PARTS, #[]⟩)
    (e_PARTS : KEnt w.params es_PARTS.toList tab_PARTS)
    (w_PARTS : (p_PARTS == sysModules) = false)
    (lk__law_right : K.lookup cL__law_right = some ⟨ck__law_right, ci__law_right, .fields vs__law_right, cq__law_right⟩)
    (v11__law_right : (vs__law_right[11]? : Option Value) = some (.ref PL__law_right))
    (t__law_right : PySem.W.tabIn K "_law_right" = some (cL__law_right, PL__law_right))
    (hd__law_right : PySem.W.codeHdIn K cL__law_right PL__law_right = true)
    (nk__law_right : K.lookup PL__law_right = none)
    (mem__law_right : ts.contains PL__law_right = true)
    (lk_law : K.lookup cL_law = some ⟨ck_law, ci_law, .fields vs_law, cq_law⟩)
    (v11_law : (vs_law[11]? : Option Value) = some (.ref PL_law))
    (t_law : PySem.W.tabIn K "law" = some (cL_law, PL_law))
    (hd_law : PySem.W.codeHdIn K cL_law PL_law = true)
    (nk_law : K.lookup PL_law = none)
    (mem_law : ts.contains PL_law = true)
    (nd_ : (PL__law_right == PL_law) = false) :
    ∃ (fd : FuncData) (cs : List (Str × Addr × Addr)), cs.map (·.1) = (["_law_right", "law"] : List Str) ∧ Mkrs K h cs ∧ ∀ base : Heap, K.In base → base.Ns mainGlobals mg → (∀ t ∈ cs, LamX.TabB base mg t.2.1 t.2.2) → FG P w K mg base 12 fa fd 1 F_law := by
  have e := hfa.symm.trans (PySem.W.mg_of X G a_law)
  cases e
  have T : Txt mg := ⟨PySem.W.mg_none_of X G z_abs, PySem.W.mg_none_of X G z_all, PySem.W.mg_none_of X G z_bool, PySem.W.mg_none_of X G z_int, PySem.W.mg_none_of X G z_isinstance, PySem.W.mg_none_of X G z_len, PySem.W.mg_none_of X G z_list, PySem.W.mg_none_of X G z_max, PySem.W.mg_none_of X G z_min, PySem.W.mg_none_of X G z_range, PySem.W.mg_none_of X G z_repr, PySem.W.mg_none_of X G z_set, PySem.W.mg_none_of X G z_sorted, PySem.W.mg_none_of X G z_str, PySem.W.mg_none_of X G z_tuple, PySem.W.mg_none_of X G z_type, PySem.W.mg_none_of X G z_zip, ⟨_, PySem.W.mg_of X G x_LONGEST_NAME⟩, ⟨_, PySem.W.mg_of X G x_MOST_MODES⟩, ⟨_, PySem.W.mg_of X G x_MOST_POINTS⟩, ⟨_, PySem.W.mg_of X G x_MOST_MOVES⟩⟩
  have CL : Cls K c_Procedure := ⟨cl1, cl2, cl3, cl4⟩
  have u_Procedure_init := fun_mk (st := s_Procedure_init) l_Procedure_init c_Procedure_init_ k_Procedure_init
  have u_Procedure_of := fun_mk (st := s_Procedure_of) l_Procedure_of c_Procedure_of_ k_Procedure_of
  have u_Procedure_called := fun_mk (st := s_Procedure_called) l_Procedure_called c_Procedure_called_ k_Procedure_called
  have u_Procedure_points := fun_mk (st := s_Procedure_points) l_Procedure_points c_Procedure_points_ k_Procedure_points
  have u_Procedure_moves := fun_mk (st := s_Procedure_moves) l_Procedure_moves c_Procedure_moves_ k_Procedure_moves
  have u_Procedure_eq := fun_mk (st := s_Procedure_eq) l_Procedure_eq c_Procedure_eq_ k_Procedure_eq
  have u_Procedure_len := fun_mk (st := s_Procedure_len) l_Procedure_len c_Procedure_len_ k_Procedure_len
  have u_Procedure_str := fun_mk (st := s_Procedure_str) l_Procedure_str c_Procedure_str_ k_Procedure_str
  have u__law_met := fun_mk (st := s__law_met) l__law_met c__law_met_ k__law_met
  have CF : ∀ base : Heap, TC P w K mg base c_Procedure c_InvalidProgram f_Procedure_init f_Procedure_of f_Procedure_called f_Procedure_points f_Procedure_moves f_Procedure_eq f_Procedure_len f_Procedure_str p_Procedure_of p_Procedure_called p_Procedure_points p_Procedure_moves p_PARTS f__law_met (PySem.W.fnOf "__init__" "Procedure.__init__" (defArgs s_Procedure_init) (defBody s_Procedure_init) (defScope s_Procedure_init) .none kV_Procedure_init dc_Procedure_init pm_Procedure_init an_Procedure_init cd_Procedure_init ct_Procedure_init) (PySem.W.fnOf "of" "Procedure.of" (defArgs s_Procedure_of) (defBody s_Procedure_of) (defScope s_Procedure_of) .none kV_Procedure_of dc_Procedure_of pm_Procedure_of an_Procedure_of cd_Procedure_of ct_Procedure_of) (PySem.W.fnOf "called" "Procedure.called" (defArgs s_Procedure_called) (defBody s_Procedure_called) (defScope s_Procedure_called) .none kV_Procedure_called dc_Procedure_called pm_Procedure_called an_Procedure_called cd_Procedure_called ct_Procedure_called) (PySem.W.fnOf "points" "Procedure.points" (defArgs s_Procedure_points) (defBody s_Procedure_points) (defScope s_Procedure_points) .none kV_Procedure_points dc_Procedure_points pm_Procedure_points an_Procedure_points cd_Procedure_points ct_Procedure_points) (PySem.W.fnOf "moves" "Procedure.moves" (defArgs s_Procedure_moves) (defBody s_Procedure_moves) (defScope s_Procedure_moves) .none kV_Procedure_moves dc_Procedure_moves pm_Procedure_moves an_Procedure_moves cd_Procedure_moves ct_Procedure_moves) (PySem.W.fnOf "__eq__" "Procedure.__eq__" (defArgs s_Procedure_eq) (defBody s_Procedure_eq) (defScope s_Procedure_eq) .none kV_Procedure_eq dc_Procedure_eq pm_Procedure_eq an_Procedure_eq cd_Procedure_eq ct_Procedure_eq) (PySem.W.fnOf "__len__" "Procedure.__len__" (defArgs s_Procedure_len) (defBody s_Procedure_len) (defScope s_Procedure_len) .none kV_Procedure_len dc_Procedure_len pm_Procedure_len an_Procedure_len cd_Procedure_len ct_Procedure_len) (PySem.W.fnOf "__str__" "Procedure.__str__" (defArgs s_Procedure_str) (defBody s_Procedure_str) (defScope s_Procedure_str) .none kV_Procedure_str dc_Procedure_str pm_Procedure_str an_Procedure_str cd_Procedure_str ct_Procedure_str) _ (.type "type") := fun base => {
    ns_Procedure := ca_Procedure
    m_Procedure := PySem.W.mg_of X G ca_Procedure
    mk_Procedure := ⟨mk1, mk2, mk3, mk4⟩
    cl_Procedure := CL
    cr_Procedure := ⟨cr1, cr2⟩
    cm_Procedure_of := ⟨p1_Procedure_of, ⟨_, p2_Procedure_of⟩, p3_Procedure_of⟩
    p_Procedure_called := ⟨p1_Procedure_called, p2_Procedure_called, p3_Procedure_called, ⟨_, p4_Procedure_called⟩⟩
    p_Procedure_points := ⟨p1_Procedure_points, p2_Procedure_points, p3_Procedure_points, ⟨_, p4_Procedure_points⟩⟩
    p_Procedure_moves := ⟨p1_Procedure_moves, p2_Procedure_moves, p3_Procedure_moves, ⟨_, p4_Procedure_moves⟩⟩
    s_Procedure_eq := sp_Procedure_eq
    i_Procedure_eq := ip_Procedure_eq
    s_Procedure_len := sp_Procedure_len
    i_Procedure_len := ip_Procedure_len
    s_Procedure_str := sp_Procedure_str
    i_Procedure_str := ip_Procedure_str
    fld__called := fun n D hn hd => by
      rw [List.mem_singleton] at hn
      subst hn
      have e := ca_Procedure.symm.trans hd
      cases e
      exact ⟨CL, na__called⟩
    fld__points := fun n D hn hd => by
      rw [List.mem_singleton] at hn
      subst hn
      have e := ca_Procedure.symm.trans hd
      cases e
      exact ⟨CL, na__points⟩
    fld__moves := fun n D hn hd => by
      rw [List.mem_singleton] at hn
      subst hn
      have e := ca_Procedure.symm.trans hd
      cases e
      exact ⟨CL, na__moves⟩
    fld__highest := fun n D hn hd => by
      rw [List.mem_singleton] at hn
      subst hn
      have e := ca_Procedure.symm.trans hd
      cases e
      exact ⟨CL, na__highest⟩
    fld__callees := fun n D hn hd => by
      rw [List.mem_singleton] at hn
      subst hn
      have e := ca_Procedure.symm.trans hd
      cases e
      exact ⟨CL, na__callees⟩
    ne_Procedure := ne_
    mr_Procedure := mr_
    ic_Procedure := ⟨CL, ic1, ic2, ic3, mr_, ic4⟩
    kt_Procedure := fun T b hb => by
      unfold tabP at hb
      split at hb
      · rename_i hT
        cases hb
        rcases hT with rfl | rfl | rfl
        · exact kt0
        · exact kt1
        · exact kt2
      · cases hb
    m_InvalidProgram := PySem.W.mg_of X G ca_InvalidProgram
    q_InvalidProgram := q_
    k_InvalidProgram := k_InvalidProgram
    b_InvalidProgram := b_
    y_InvalidProgram := y_
    hh := fun n D hn hd => by
      have hn' : n = "InvalidProgram" := by
        unfold hInv at hn
        split at hn
        · assumption
        · cases hn
      subst hn'
      have e := (PySem.W.mg_of X G ca_InvalidProgram).symm.trans hd
      cases e
      exact xe
    m_PARTS := PySem.W.mg_of X G a_PARTS
    t_PARTS := ⟨⟨_, _, d_PARTS, e_PARTS⟩, w_PARTS⟩
    mm := PySem.W.mg_of X G a__law_met
    fu_met := u__law_met }
  have hne : PL__law_right ≠ PL_law := fun q => by
    rw [q] at nd_
    simp at nd_
  refine ⟨PySem.W.fnOf "law" "law" (defArgs s_law) (defBody s_law) (defScope s_law) .none kV_law dc_law pm_law an_law (.ref cL_law) ct_law, [("_law_right", cL__law_right, PL__law_right), ("law", cL_law, PL_law)], rfl, ⟨?_, ?_, ?_, ?_, ?_⟩, fun base _ _ TB => ?_⟩
  · intro t ht
    simp only [List.mem_cons, List.not_mem_nil, or_false] at ht
    rcases ht with rfl | rfl
    · exact Yt _ (List.contains_iff_mem.mp mem__law_right)
    · exact Yt _ (List.contains_iff_mem.mp mem_law)
  · intro t ht
    simp only [List.mem_cons, List.not_mem_nil, or_false] at ht
    rcases ht with rfl | rfl
    · exact nk__law_right
    · exact nk_law
  · intro t ht
    simp only [List.mem_cons, List.not_mem_nil, or_false] at ht
    rcases ht with rfl | rfl
    · exact PySem.W.codeHd_of_K X hd__law_right
    · exact PySem.W.codeHd_of_K X hd_law
  · intro t ht
    simp only [List.mem_cons, List.not_mem_nil, or_false] at ht
    rcases ht with rfl | rfl
    · exact t__law_right
    · exact t_law
  · simp only [List.map_cons, List.map_nil, List.nodup_cons, List.mem_cons, List.not_mem_nil, or_false, not_false_eq_true, List.nodup_nil, and_true]
    exact hne
  have h__law_cast : Has P w K mg base "_law_cast" 1 2 F__law_cast := ⟨_, _, PySem.W.mg_of X G a__law_cast, ok__law_cast (P := P) (w := w) (base := base) (fun_mk (st := s__law_cast) l__law_cast c__law_cast_ k__law_cast) T (CF base)⟩
  have h__law_pick : Has P w K mg base "_law_pick" 2 2 F__law_pick := ⟨_, _, PySem.W.mg_of X G a__law_pick, ok__law_pick (P := P) (w := w) (base := base) (fun_mk (st := s__law_pick) l__law_pick c__law_pick_ k__law_pick) T (CF base) h__law_cast⟩
  have h__law_is_word : Has P w K mg base "_law_is_word" 1 1 F__law_is_word := ⟨_, _, PySem.W.mg_of X G a__law_is_word, ok__law_is_word (P := P) (w := w) (base := base) (fun_mk (st := s__law_is_word) l__law_is_word c__law_is_word_ k__law_is_word) T (CF base)⟩
  have h__law_is_number : Has P w K mg base "_law_is_number" 1 2 F__law_is_number := ⟨_, _, PySem.W.mg_of X G a__law_is_number, ok__law_is_number (P := P) (w := w) (base := base) (fun_mk (st := s__law_is_number) l__law_is_number c__law_is_number_ k__law_is_number) T (CF base)⟩
  have h__law_is_set : Has P w K mg base "_law_is_set" 2 2 F__law_is_set := ⟨_, _, PySem.W.mg_of X G a__law_is_set, ok__law_is_set (P := P) (w := w) (base := base) (fun_mk (st := s__law_is_set) l__law_is_set c__law_is_set_ k__law_is_set) T (CF base) h__law_is_number⟩
  have h__law_is_pairs : Has P w K mg base "_law_is_pairs" 2 2 F__law_is_pairs := ⟨_, _, PySem.W.mg_of X G a__law_is_pairs, ok__law_is_pairs (P := P) (w := w) (base := base) (fun_mk (st := s__law_is_pairs) l__law_is_pairs c__law_is_pairs_ k__law_is_pairs) T (CF base) h__law_is_number⟩
  have h__law_is_step : Has P w K mg base "_law_is_step" 3 3 F__law_is_step := ⟨_, _, PySem.W.mg_of X G a__law_is_step, ok__law_is_step (P := P) (w := w) (base := base) (fun_mk (st := s__law_is_step) l__law_is_step c__law_is_step_ k__law_is_step) T (CF base) h__law_is_number h__law_is_pairs h__law_is_set h__law_is_word⟩
  have h__law_is_due : Has P w K mg base "_law_is_due" 4 3 F__law_is_due := ⟨_, _, PySem.W.mg_of X G a__law_is_due, ok__law_is_due (P := P) (w := w) (base := base) (fun_mk (st := s__law_is_due) l__law_is_due c__law_is_due_ k__law_is_due) T (CF base) h__law_is_number h__law_is_step h__law_is_word⟩
  have h__law_shuffle : Has P w K mg base "_law_shuffle" 2 2 F__law_shuffle := ⟨_, _, PySem.W.mg_of X G a__law_shuffle, ok__law_shuffle (P := P) (w := w) (base := base) (fun_mk (st := s__law_shuffle) l__law_shuffle c__law_shuffle_ k__law_shuffle) T (CF base) h__law_cast⟩
  have h__law_subset : Has P w K mg base "_law_subset" 2 2 F__law_subset := ⟨_, _, PySem.W.mg_of X G a__law_subset, ok__law_subset (P := P) (w := w) (base := base) (fun_mk (st := s__law_subset) l__law_subset c__law_subset_ k__law_subset) T (CF base) h__law_cast⟩
  have h__law_a_move : Has P w K mg base "_law_a_move" 3 4 F__law_a_move := ⟨_, _, PySem.W.mg_of X G a__law_a_move, ok__law_a_move (P := P) (w := w) (base := base) (fun_mk (st := s__law_a_move) l__law_a_move c__law_a_move_ k__law_a_move) T (CF base) h__law_cast h__law_pick h__law_subset⟩
  have h__law_any_plain : Has P w K mg base "_law_any_plain" 4 1 F__law_any_plain := ⟨_, _, PySem.W.mg_of X G a__law_any_plain, ok__law_any_plain (P := P) (w := w) (base := base) (fun_mk (st := s__law_any_plain) l__law_any_plain c__law_any_plain_ k__law_any_plain) T (CF base) h__law_a_move h__law_cast h__law_pick h__law_shuffle h__law_subset⟩
  have h__law_odd_one : Has P w K mg base "_law_odd_one" 3 1 F__law_odd_one := ⟨_, _, PySem.W.mg_of X G a__law_odd_one, ok__law_odd_one (P := P) (w := w) (base := base) (fun_mk (st := s__law_odd_one) l__law_odd_one c__law_odd_one_ k__law_odd_one) T (CF base) h__law_pick⟩
  have h_highest_mode : Has P w K mg base "highest_mode" 1 1 F_highest_mode := ⟨_, _, PySem.W.mg_of X G a_highest_mode, ok_highest_mode (P := P) (w := w) (base := base) (fun_mk (st := s_highest_mode) l_highest_mode c_highest_mode_ k_highest_mode) T (CF base)⟩
  have h_is_name : Has P w K mg base "is_name" 1 1 F_is_name := ⟨_, _, PySem.W.mg_of X G a_is_name, ok_is_name (P := P) (w := w) (base := base) (fun_mk (st := s_is_name) l_is_name c_is_name_ k_is_name) T (CF base)⟩
  have h_is_whole_within : Has P w K mg base "is_whole_within" 1 3 F_is_whole_within := ⟨_, _, PySem.W.mg_of X G a_is_whole_within, ok_is_whole_within (P := P) (w := w) (base := base) (fun_mk (st := s_is_whole_within) l_is_whole_within c_is_whole_within_ k_is_whole_within) T (CF base)⟩
  have h_is_ascending_below : Has P w K mg base "is_ascending_below" 1 2 F_is_ascending_below := ⟨_, _, PySem.W.mg_of X G a_is_ascending_below, ok_is_ascending_below (P := P) (w := w) (base := base) (fun_mk (st := s_is_ascending_below) l_is_ascending_below c_is_ascending_below_ k_is_ascending_below) T (CF base)⟩
  have h_is_mode_set : Has P w K mg base "is_mode_set" 2 2 F_is_mode_set := ⟨_, _, PySem.W.mg_of X G a_is_mode_set, ok_is_mode_set (P := P) (w := w) (base := base) (fun_mk (st := s_is_mode_set) l_is_mode_set c_is_mode_set_ k_is_mode_set) T (CF base) h_is_ascending_below⟩
  have h__is_pair : Has P w K mg base "_is_pair" 2 1 F__is_pair := ⟨_, _, PySem.W.mg_of X G a__is_pair, ok__is_pair (P := P) (w := w) (base := base) (fun_mk (st := s__is_pair) l__is_pair c__is_pair_ k__is_pair) T (CF base) h_is_whole_within⟩
  have h__is_pairs : Has P w K mg base "_is_pairs" 3 1 F__is_pairs := ⟨_, _, PySem.W.mg_of X G a__is_pairs, ok__is_pairs (P := P) (w := w) (base := base) (fun_mk (st := s__is_pairs) l__is_pairs c__is_pairs_ k__is_pairs) T (CF base) h__is_pair⟩
  have h__is_move : Has P w K mg base "_is_move" 4 2 F__is_move := ⟨_, _, PySem.W.mg_of X G a__is_move, ok__is_move (P := P) (w := w) (base := base) (fun_mk (st := s__is_move) l__is_move c__is_move_ k__is_move) T (CF base) h__is_pairs h_is_mode_set h_is_name h_is_whole_within⟩
  have h_is_moves : Has P w K mg base "is_moves" 5 2 F_is_moves := ⟨_, _, PySem.W.mg_of X G a_is_moves, ok_is_moves (P := P) (w := w) (base := base) (fun_mk (st := s_is_moves) l_is_moves c_is_moves_ k_is_moves) T (CF base) h__is_move⟩
  have h_Procedure_init := ok_Procedure_init (P := P) (w := w) (base := base) u_Procedure_init T (CF base) h_highest_mode h_is_moves h_is_name h_is_whole_within
  have h_Procedure_of := ok_Procedure_of (P := P) (w := w) (base := base) u_Procedure_of T (CF base) h_Procedure_init
  have h_Procedure_called := ok_Procedure_called (P := P) (w := w) (base := base) u_Procedure_called T (CF base)
  have h_Procedure_points := ok_Procedure_points (P := P) (w := w) (base := base) u_Procedure_points T (CF base)
  have h_Procedure_moves := ok_Procedure_moves (P := P) (w := w) (base := base) u_Procedure_moves T (CF base)
  have h_Procedure_eq := ok_Procedure_eq (P := P) (w := w) (base := base) u_Procedure_eq T (CF base)
  have h_Procedure_len := ok_Procedure_len (P := P) (w := w) (base := base) u_Procedure_len T (CF base)
  have h_Procedure_str := ok_Procedure_str (P := P) (w := w) (base := base) u_Procedure_str T (CF base)
  have h__law_is_as : Has P w K mg base "_law_is_as" 3 2 F__law_is_as := ⟨_, _, PySem.W.mg_of X G a__law_is_as, ok__law_is_as (P := P) (w := w) (base := base) (fun_mk (st := s__law_is_as) l__law_is_as c__law_is_as_ k__law_is_as) T (CF base) h_Procedure_called h_Procedure_moves h_Procedure_points⟩
  have h__law_bent_tuple : Has P w K mg base "_law_bent_tuple" 3 3 F__law_bent_tuple := ⟨_, _, PySem.W.mg_of X G a__law_bent_tuple, ok__law_bent_tuple (P := P) (w := w) (base := base) (fun_mk (st := s__law_bent_tuple) l__law_bent_tuple c__law_bent_tuple_ k__law_bent_tuple) T (CF base) h__law_cast h__law_pick⟩
  have h__law_bent_move : Has P w K mg base "_law_bent_move" 4 2 F__law_bent_move := ⟨_, _, PySem.W.mg_of X G a__law_bent_move, ok__law_bent_move (P := P) (w := w) (base := base) (fun_mk (st := s__law_bent_move) l__law_bent_move c__law_bent_move_ k__law_bent_move) T (CF base) h__law_bent_tuple h__law_cast h__law_odd_one⟩
  have h__law_right : Has P w K mg base "_law_right" 11 1 F__law_right := ⟨_, _, PySem.W.mg_of X G a__law_right, ok__law_right (P := P) (w := w) (base := base) (fun_mk (st := s__law_right) l__law_right c__law_right_ k__law_right) T (CF base) h__law_any_plain h__law_bent_move h__law_bent_tuple h__law_cast h__law_is_as h__law_is_due h__law_odd_one h__law_pick h_Procedure_called h_Procedure_eq h_Procedure_len h_Procedure_moves h_Procedure_of h_Procedure_points h_Procedure_str (TB _ (List.mem_of_getElem? (i := 0) rfl)) t__law_right a__law_right⟩
  have h__law_numbers : Has P w K mg base "_law_numbers" 1 2 F__law_numbers := ⟨_, _, PySem.W.mg_of X G a__law_numbers, ok__law_numbers (P := P) (w := w) (base := base) (fun_mk (st := s__law_numbers) l__law_numbers c__law_numbers_ k__law_numbers) T (CF base)⟩
  exact ok_law (P := P) (w := w) (base := base) (fun_mk (st := s_law) l_law c_law_ k_law) T (CF base) h__law_numbers h__law_right h_Procedure_eq h_Procedure_init h_Procedure_of (TB _ (List.mem_of_getElem? (i := 1) rfl)) t_law a_law
theorem walk10 {l : PySem.W.OpenLaw} {q : Program} {loose : List Str} {XP : (Str → Option Value) → Heap → Prop} {YP : World → Heap → Prop} {d : DefRec} {K : Params → PySem.W.Frag} (hn : l.most = some 63) (hdf : d.params.defaults = [])
    (hY : ∀ (w : World) (h : Heap), YP w h → (K w.params).In h)
    (F : ∀ (w : World) (mg : Str → Option Value) (fa : Addr) (h : Heap), YP w h → (K w.params).In h → h.Ns mainGlobals mg → mg d.name = some (.ref fa) →
      ∃ (fd : FuncData) (cs : List (Str × Addr × Addr)), cs.map (·.1) = (["_law_right", "law"] : List Str) ∧ Mkrs (K w.params) h cs ∧ ∀ base : Heap, (K w.params).In base → base.Ns mainGlobals mg → (∀ t ∈ cs, LamX.TabB base mg t.2.1 t.2.2) → FG l.prog w (K w.params) mg base 12 fa fd 1 F_law) :
    PySem.W.WalkO q loose XP YP l.row.toRowW d [] (fun f vs => PySem.call f vs) :=
  walkT (n := 63) (k := 12) (F := F_law) (xs := (["_law_right", "law"] : List Str)) hn (by decide) hdf ⟨rfl, by decide, by decide⟩ hY F law_ok
end
end G
open PySem PySem.W PyProof.Rows
set_option maxRecDepth 100000 in
set_option maxHeartbeats 0 in
theorem PySem.Challenge.cw_deepenough_k10_procedures_by_form_holds : PySem.Challenge.rw_deepenough_k10_procedures_by_form.Holds := by
  w_on; o_law; k_head; (case hw => w_witness2)
  k_fill
  refine G.walk10 (l := PySem.Challenge.rw_deepenough_k10_procedures_by_form) rfl rfl (fun w h Y => PySem.W.km_in_of Y) ?F
  case F =>
    intro w mg fa h Y KX Gn hmg
    refine' G.all_mk (PySem.W.km_tabs_of Y) KX Gn hmg ?a__law_cast ?l__law_cast ?c__law_cast_ ?k__law_cast ?a__law_pick ?l__law_pick ?c__law_pick_ ?k__law_pick ?a__law_is_word ?l__law_is_word ?c__law_is_word_ ?k__law_is_word ?a__law_is_number ?l__law_is_number ?c__law_is_number_ ?k__law_is_number ?a__law_is_set ?l__law_is_set ?c__law_is_set_ ?k__law_is_set ?a__law_is_pairs ?l__law_is_pairs ?c__law_is_pairs_ ?k__law_is_pairs ?a__law_is_step ?l__law_is_step ?c__law_is_step_ ?k__law_is_step ?a__law_is_due ?l__law_is_due ?c__law_is_due_ ?k__law_is_due ?a__law_shuffle ?l__law_shuffle ?c__law_shuffle_ ?k__law_shuffle ?a__law_subset ?l__law_subset ?c__law_subset_ ?k__law_subset ?a__law_a_move ?l__law_a_move ?c__law_a_move_ ?k__law_a_move ?a__law_any_plain ?l__law_any_plain ?c__law_any_plain_ ?k__law_any_plain ?a__law_odd_one ?l__law_odd_one ?c__law_odd_one_ ?k__law_odd_one ?a_highest_mode ?l_highest_mode ?c_highest_mode_ ?k_highest_mode ?a_is_name ?l_is_name ?c_is_name_ ?k_is_name ?a_is_whole_within ?l_is_whole_within ?c_is_whole_within_ ?k_is_whole_within ?a_is_ascending_below ?l_is_ascending_below ?c_is_ascending_below_ ?k_is_ascending_below ?a_is_mode_set ?l_is_mode_set ?c_is_mode_set_ ?k_is_mode_set ?a__is_pair ?l__is_pair ?c__is_pair_ ?k__is_pair ?a__is_pairs ?l__is_pairs ?c__is_pairs_ ?k__is_pairs ?a__is_move ?l__is_move ?c__is_move_ ?k__is_move ?a_is_moves ?l_is_moves ?c_is_moves_ ?k_is_moves ?a__law_is_as ?l__law_is_as ?c__law_is_as_ ?k__law_is_as ?a__law_bent_tuple ?l__law_bent_tuple ?c__law_bent_tuple_ ?k__law_bent_tuple ?a__law_bent_move ?l__law_bent_move ?c__law_bent_move_ ?k__law_bent_move ?a__law_right ?l__law_right ?c__law_right_ ?k__law_right ?a__law_numbers ?l__law_numbers ?c__law_numbers_ ?k__law_numbers ?a_law ?l_law ?c_law_ ?k_law ?a__law_met ?l__law_met ?c__law_met_ ?k__law_met ?z_abs ?z_all ?z_bool ?z_int ?z_isinstance ?z_len ?z_list ?z_max ?z_min ?z_range ?z_repr ?z_set ?z_sorted ?z_str ?z_tuple ?z_type ?z_zip ?x_LONGEST_NAME ?x_MOST_MODES ?x_MOST_POINTS ?x_MOST_MOVES ?ca_Procedure ?ca_InvalidProgram ?mk1 ?mk2 ?mk3 ?mk4 ?l_Procedure_init ?c_Procedure_init_ ?k_Procedure_init ?cl1 ?cl2 ?cl3 ?cl4 ?cr1 ?cr2 ?p1_Procedure_of ?p2_Procedure_of ?p3_Procedure_of ?l_Procedure_of ?c_Procedure_of_ ?k_Procedure_of ?p1_Procedure_called ?p2_Procedure_called ?p3_Procedure_called ?p4_Procedure_called ?l_Procedure_called ?c_Procedure_called_ ?k_Procedure_called ?p1_Procedure_points ?p2_Procedure_points ?p3_Procedure_points ?p4_Procedure_points ?l_Procedure_points ?c_Procedure_points_ ?k_Procedure_points ?p1_Procedure_moves ?p2_Procedure_moves ?p3_Procedure_moves ?p4_Procedure_moves ?l_Procedure_moves ?c_Procedure_moves_ ?k_Procedure_moves ?sp_Procedure_eq ?ip_Procedure_eq ?l_Procedure_eq ?c_Procedure_eq_ ?k_Procedure_eq ?sp_Procedure_len ?ip_Procedure_len ?l_Procedure_len ?c_Procedure_len_ ?k_Procedure_len ?sp_Procedure_str ?ip_Procedure_str ?l_Procedure_str ?c_Procedure_str_ ?k_Procedure_str ?ne_ ?mr_ ?ic1 ?ic2 ?ic3 ?ic4 ?kt0 ?kt1 ?kt2 ?na__called ?na__points ?na__moves ?na__highest ?na__callees ?q_ ?k_InvalidProgram ?b_ ?y_ ?xe ?a_PARTS ?d_PARTS ?e_PARTS ?w_PARTS ?lk__law_right ?v11__law_right ?t__law_right ?hd__law_right ?nk__law_right ?mem__law_right ?lk_law ?v11_law ?t_law ?hd_law ?nk_law ?mem_law ?nd_
    (case a__law_cast => first | k_is | kernel_rfl | rfl)
    (case l__law_cast => first | k_is | kernel_rfl | rfl)
    (case c__law_cast_ => first | k_is | kernel_rfl | rfl)
    (case k__law_cast => first | k_is | kernel_rfl | rfl)
    (case a__law_pick => first | k_is | kernel_rfl | rfl)
    (case l__law_pick => first | k_is | kernel_rfl | rfl)
    (case c__law_pick_ => first | k_is | kernel_rfl | rfl)
    (case k__law_pick => first | k_is | kernel_rfl | rfl)
    (case a__law_is_word => first | k_is | kernel_rfl | rfl)
    (case l__law_is_word => first | k_is | kernel_rfl | rfl)
    (case c__law_is_word_ => first | k_is | kernel_rfl | rfl)
    (case k__law_is_word => first | k_is | kernel_rfl | rfl)
    (case a__law_is_number => first | k_is | kernel_rfl | rfl)
    (case l__law_is_number => first | k_is | kernel_rfl | rfl)
    (case c__law_is_number_ => first | k_is | kernel_rfl | rfl)
    (case k__law_is_number => first | k_is | kernel_rfl | rfl)
    (case a__law_is_set => first | k_is | kernel_rfl | rfl)
    (case l__law_is_set => first | k_is | kernel_rfl | rfl)
    (case c__law_is_set_ => first | k_is | kernel_rfl | rfl)
    (case k__law_is_set => first | k_is | kernel_rfl | rfl)
    (case a__law_is_pairs => first | k_is | kernel_rfl | rfl)
    (case l__law_is_pairs => first | k_is | kernel_rfl | rfl)
    (case c__law_is_pairs_ => first | k_is | kernel_rfl | rfl)
    (case k__law_is_pairs => first | k_is | kernel_rfl | rfl)
    (case a__law_is_step => first | k_is | kernel_rfl | rfl)
    (case l__law_is_step => first | k_is | kernel_rfl | rfl)
    (case c__law_is_step_ => first | k_is | kernel_rfl | rfl)
    (case k__law_is_step => first | k_is | kernel_rfl | rfl)
    (case a__law_is_due => first | k_is | kernel_rfl | rfl)
    (case l__law_is_due => first | k_is | kernel_rfl | rfl)
    (case c__law_is_due_ => first | k_is | kernel_rfl | rfl)
    (case k__law_is_due => first | k_is | kernel_rfl | rfl)
    (case a__law_shuffle => first | k_is | kernel_rfl | rfl)
    (case l__law_shuffle => first | k_is | kernel_rfl | rfl)
    (case c__law_shuffle_ => first | k_is | kernel_rfl | rfl)
    (case k__law_shuffle => first | k_is | kernel_rfl | rfl)
    (case a__law_subset => first | k_is | kernel_rfl | rfl)
    (case l__law_subset => first | k_is | kernel_rfl | rfl)
    (case c__law_subset_ => first | k_is | kernel_rfl | rfl)
    (case k__law_subset => first | k_is | kernel_rfl | rfl)
    (case a__law_a_move => first | k_is | kernel_rfl | rfl)
    (case l__law_a_move => first | k_is | kernel_rfl | rfl)
    (case c__law_a_move_ => first | k_is | kernel_rfl | rfl)
    (case k__law_a_move => first | k_is | kernel_rfl | rfl)
    (case a__law_any_plain => first | k_is | kernel_rfl | rfl)
    (case l__law_any_plain => first | k_is | kernel_rfl | rfl)
    (case c__law_any_plain_ => first | k_is | kernel_rfl | rfl)
    (case k__law_any_plain => first | k_is | kernel_rfl | rfl)
    (case a__law_odd_one => first | k_is | kernel_rfl | rfl)
    (case l__law_odd_one => first | k_is | kernel_rfl | rfl)
    (case c__law_odd_one_ => first | k_is | kernel_rfl | rfl)
    (case k__law_odd_one => first | k_is | kernel_rfl | rfl)
    (case a_highest_mode => first | k_is | kernel_rfl | rfl)
    (case l_highest_mode => first | k_is | kernel_rfl | rfl)
    (case c_highest_mode_ => first | k_is | kernel_rfl | rfl)
    (case k_highest_mode => first | k_is | kernel_rfl | rfl)
    (case a_is_name => first | k_is | kernel_rfl | rfl)
    (case l_is_name => first | k_is | kernel_rfl | rfl)
    (case c_is_name_ => first | k_is | kernel_rfl | rfl)
    (case k_is_name => first | k_is | kernel_rfl | rfl)
    (case a_is_whole_within => first | k_is | kernel_rfl | rfl)
    (case l_is_whole_within => first | k_is | kernel_rfl | rfl)
    (case c_is_whole_within_ => first | k_is | kernel_rfl | rfl)
    (case k_is_whole_within => first | k_is | kernel_rfl | rfl)
    (case a_is_ascending_below => first | k_is | kernel_rfl | rfl)
    (case l_is_ascending_below => first | k_is | kernel_rfl | rfl)
    (case c_is_ascending_below_ => first | k_is | kernel_rfl | rfl)
    (case k_is_ascending_below => first | k_is | kernel_rfl | rfl)
    (case a_is_mode_set => first | k_is | kernel_rfl | rfl)
    (case l_is_mode_set => first | k_is | kernel_rfl | rfl)
    (case c_is_mode_set_ => first | k_is | kernel_rfl | rfl)
    (case k_is_mode_set => first | k_is | kernel_rfl | rfl)
    (case a__is_pair => first | k_is | kernel_rfl | rfl)
    (case l__is_pair => first | k_is | kernel_rfl | rfl)
    (case c__is_pair_ => first | k_is | kernel_rfl | rfl)
    (case k__is_pair => first | k_is | kernel_rfl | rfl)
    (case a__is_pairs => first | k_is | kernel_rfl | rfl)
    (case l__is_pairs => first | k_is | kernel_rfl | rfl)
    (case c__is_pairs_ => first | k_is | kernel_rfl | rfl)
    (case k__is_pairs => first | k_is | kernel_rfl | rfl)
    (case a__is_move => first | k_is | kernel_rfl | rfl)
    (case l__is_move => first | k_is | kernel_rfl | rfl)
    (case c__is_move_ => first | k_is | kernel_rfl | rfl)
    (case k__is_move => first | k_is | kernel_rfl | rfl)
    (case a_is_moves => first | k_is | kernel_rfl | rfl)
    (case l_is_moves => first | k_is | kernel_rfl | rfl)
    (case c_is_moves_ => first | k_is | kernel_rfl | rfl)
    (case k_is_moves => first | k_is | kernel_rfl | rfl)
    (case a__law_is_as => first | k_is | kernel_rfl | rfl)
    (case l__law_is_as => first | k_is | kernel_rfl | rfl)
    (case c__law_is_as_ => first | k_is | kernel_rfl | rfl)
    (case k__law_is_as => first | k_is | kernel_rfl | rfl)
    (case a__law_bent_tuple => first | k_is | kernel_rfl | rfl)
    (case l__law_bent_tuple => first | k_is | kernel_rfl | rfl)
    (case c__law_bent_tuple_ => first | k_is | kernel_rfl | rfl)
    (case k__law_bent_tuple => first | k_is | kernel_rfl | rfl)
    (case a__law_bent_move => first | k_is | kernel_rfl | rfl)
    (case l__law_bent_move => first | k_is | kernel_rfl | rfl)
    (case c__law_bent_move_ => first | k_is | kernel_rfl | rfl)
    (case k__law_bent_move => first | k_is | kernel_rfl | rfl)
    (case a__law_right => first | k_is | kernel_rfl | rfl)
    (case l__law_right => first | k_is | kernel_rfl | rfl)
    (case c__law_right_ => first | k_is | kernel_rfl | rfl)
    (case k__law_right => first | k_is | kernel_rfl | rfl)
    (case a__law_numbers => first | k_is | kernel_rfl | rfl)
    (case l__law_numbers => first | k_is | kernel_rfl | rfl)
    (case c__law_numbers_ => first | k_is | kernel_rfl | rfl)
    (case k__law_numbers => first | k_is | kernel_rfl | rfl)
    (case a_law => first | k_is | kernel_rfl | rfl)
    (case l_law => first | k_is | kernel_rfl | rfl)
    (case c_law_ => first | k_is | kernel_rfl | rfl)
    (case k_law => first | k_is | kernel_rfl | rfl)
    (case a__law_met => first | k_is | kernel_rfl | rfl)
    (case l__law_met => first | k_is | kernel_rfl | rfl)
    (case c__law_met_ => first | k_is | kernel_rfl | rfl)
    (case k__law_met => first | k_is | kernel_rfl | rfl)
    (case z_abs => first | k_is | kernel_rfl | rfl)
    (case z_all => first | k_is | kernel_rfl | rfl)
    (case z_bool => first | k_is | kernel_rfl | rfl)
    (case z_int => first | k_is | kernel_rfl | rfl)
    (case z_isinstance => first | k_is | kernel_rfl | rfl)
    (case z_len => first | k_is | kernel_rfl | rfl)
    (case z_list => first | k_is | kernel_rfl | rfl)
    (case z_max => first | k_is | kernel_rfl | rfl)
    (case z_min => first | k_is | kernel_rfl | rfl)
    (case z_range => first | k_is | kernel_rfl | rfl)
    (case z_repr => first | k_is | kernel_rfl | rfl)
    (case z_set => first | k_is | kernel_rfl | rfl)
    (case z_sorted => first | k_is | kernel_rfl | rfl)
    (case z_str => first | k_is | kernel_rfl | rfl)
    (case z_tuple => first | k_is | kernel_rfl | rfl)
    (case z_type => first | k_is | kernel_rfl | rfl)
    (case z_zip => first | k_is | kernel_rfl | rfl)
    (case x_LONGEST_NAME => first | k_is | kernel_rfl | rfl)
    (case x_MOST_MODES => first | k_is | kernel_rfl | rfl)
    (case x_MOST_POINTS => first | k_is | kernel_rfl | rfl)
    (case x_MOST_MOVES => first | k_is | kernel_rfl | rfl)
    (case ca_Procedure => first | k_is | kernel_rfl | rfl)
    (case ca_InvalidProgram => first | k_is | kernel_rfl | rfl)
    (case mk1 => first | k_is | kernel_rfl | rfl)
    (case mk2 => first | k_is | kernel_rfl | rfl)
    (case mk3 => first | k_is | kernel_rfl | rfl)
    (case mk4 => first | k_is | kernel_rfl | rfl)
    (case l_Procedure_init => first | k_is | kernel_rfl | rfl)
    (case c_Procedure_init_ => first | k_is | kernel_rfl | rfl)
    (case k_Procedure_init => first | k_is | kernel_rfl | rfl)
    (case cl1 => first | k_is | kernel_rfl | rfl)
    (case cl2 => first | k_is | kernel_rfl | rfl)
    (case cl3 => first | k_is | kernel_rfl | rfl)
    (case cl4 => first | k_is | kernel_rfl | rfl)
    (case cr1 => first | k_is | kernel_rfl | rfl)
    (case cr2 => first | k_is | kernel_rfl | rfl)
    (case p1_Procedure_of => first | k_is | kernel_rfl | rfl)
    (case p2_Procedure_of => first | k_is | kernel_rfl | rfl)
    (case p3_Procedure_of => first | k_is | kernel_rfl | rfl)
    (case l_Procedure_of => first | k_is | kernel_rfl | rfl)
    (case c_Procedure_of_ => first | k_is | kernel_rfl | rfl)
    (case k_Procedure_of => first | k_is | kernel_rfl | rfl)
    (case p1_Procedure_called => first | k_is | kernel_rfl | rfl)
    (case p2_Procedure_called => first | k_is | kernel_rfl | rfl)
    (case p3_Procedure_called => first | k_is | kernel_rfl | rfl)
    (case p4_Procedure_called => first | k_is | kernel_rfl | rfl)
    (case l_Procedure_called => first | k_is | kernel_rfl | rfl)
    (case c_Procedure_called_ => first | k_is | kernel_rfl | rfl)
    (case k_Procedure_called => first | k_is | kernel_rfl | rfl)
    (case p1_Procedure_points => first | k_is | kernel_rfl | rfl)
    (case p2_Procedure_points => first | k_is | kernel_rfl | rfl)
    (case p3_Procedure_points => first | k_is | kernel_rfl | rfl)
    (case p4_Procedure_points => first | k_is | kernel_rfl | rfl)
    (case l_Procedure_points => first | k_is | kernel_rfl | rfl)
    (case c_Procedure_points_ => first | k_is | kernel_rfl | rfl)
    (case k_Procedure_points => first | k_is | kernel_rfl | rfl)
    (case p1_Procedure_moves => first | k_is | kernel_rfl | rfl)
    (case p2_Procedure_moves => first | k_is | kernel_rfl | rfl)
    (case p3_Procedure_moves => first | k_is | kernel_rfl | rfl)
    (case p4_Procedure_moves => first | k_is | kernel_rfl | rfl)
    (case l_Procedure_moves => first | k_is | kernel_rfl | rfl)
    (case c_Procedure_moves_ => first | k_is | kernel_rfl | rfl)
    (case k_Procedure_moves => first | k_is | kernel_rfl | rfl)
    (case sp_Procedure_eq => first | k_is | kernel_rfl | rfl)
    (case ip_Procedure_eq => first | k_is | kernel_rfl | rfl)
    (case l_Procedure_eq => first | k_is | kernel_rfl | rfl)
    (case c_Procedure_eq_ => first | k_is | kernel_rfl | rfl)
    (case k_Procedure_eq => first | k_is | kernel_rfl | rfl)
    (case sp_Procedure_len => first | k_is | kernel_rfl | rfl)
    (case ip_Procedure_len => first | k_is | kernel_rfl | rfl)
    (case l_Procedure_len => first | k_is | kernel_rfl | rfl)
    (case c_Procedure_len_ => first | k_is | kernel_rfl | rfl)
    (case k_Procedure_len => first | k_is | kernel_rfl | rfl)
    (case sp_Procedure_str => first | k_is | kernel_rfl | rfl)
    (case ip_Procedure_str => first | k_is | kernel_rfl | rfl)
    (case l_Procedure_str => first | k_is | kernel_rfl | rfl)
    (case c_Procedure_str_ => first | k_is | kernel_rfl | rfl)
    (case k_Procedure_str => first | k_is | kernel_rfl | rfl)
    (case ne_ => first | k_is | kernel_rfl | rfl)
    (case mr_ => first | k_is | kernel_rfl | rfl)
    (case ic1 => first | k_is | kernel_rfl | rfl)
    (case ic2 => first | k_is | kernel_rfl | rfl)
    (case ic3 => first | k_is | kernel_rfl | rfl)
    (case ic4 => first | k_is | kernel_rfl | rfl)
    (case kt0 => first | k_is | kernel_rfl | rfl)
    (case kt1 => first | k_is | kernel_rfl | rfl)
    (case kt2 => first | k_is | kernel_rfl | rfl)
    (case na__called => first | k_is | kernel_rfl | rfl)
    (case na__points => first | k_is | kernel_rfl | rfl)
    (case na__moves => first | k_is | kernel_rfl | rfl)
    (case na__highest => first | k_is | kernel_rfl | rfl)
    (case na__callees => first | k_is | kernel_rfl | rfl)
    (case q_ => first | k_is | kernel_rfl | rfl)
    (case k_InvalidProgram => first | k_is | kernel_rfl | rfl)
    (case b_ => first | k_is | kernel_rfl | rfl)
    (case y_ => first | k_is | kernel_rfl | rfl)
    (case xe => first | k_is | kernel_rfl | rfl)
    (case a_PARTS => first | k_is | kernel_rfl | rfl)
    (case d_PARTS => first | k_is | kernel_rfl | rfl)
    (case e_PARTS => first | exact ⟨⟨_, rfl, rfl⟩, ⟨_, rfl⟩, ⟨_, rfl, rfl⟩, ⟨_, rfl⟩, ⟨_, rfl, rfl⟩, ⟨_, rfl⟩, ⟨_, rfl, rfl⟩, ⟨_, rfl⟩, trivial⟩)
    (case w_PARTS => first | k_is | kernel_rfl | rfl)
    (case lk__law_right => first | k_is | kernel_rfl | rfl)
    (case v11__law_right => rfl)
    (case t__law_right => first | k_is | kernel_rfl | rfl)
    (case hd__law_right => first | k_is | kernel_rfl | rfl)
    (case nk__law_right => first | k_is | kernel_rfl | rfl)
    (case mem__law_right => first | k_is | kernel_rfl | rfl)
    (case lk_law => first | k_is | kernel_rfl | rfl)
    (case v11_law => rfl)
    (case t_law => first | k_is | kernel_rfl | rfl)
    (case hd_law => first | k_is | kernel_rfl | rfl)
    (case nk_law => first | k_is | kernel_rfl | rfl)
    (case mem_law => first | k_is | kernel_rfl | rfl)
    (case nd_ => first | k_is | kernel_rfl | rfl)
