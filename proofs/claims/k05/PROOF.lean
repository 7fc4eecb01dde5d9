import PyProof.Rows.All
import Wide.All
import OpenK.AllK
import Wide.FinOn
import HandS.Words
import HandS.Comp
import HandS.Iter
import HandS.Text
import HandS.More
import HandS.IsInst
import HandS.StrMore
import HandS.Exc
import HandS.ExcOwn
import HandS.TryOnly
import HandS.ExcValue
import HandS.ExcInit
import HandS.Lambda
import KE.KNestM
import HandS.Flow
import HandS.Walk
import HandS.Ends
import HandS.Dict
import HandS.List
import HandS.Conv
import HandS.TupAny
import HandS.Zip
import HandS.Star
import HandS.FStr
import PyProof.P3In
import PyProof.ReprRoads
import HandS.Codes
import HandS.RaiseMore
import HandS.Call
import HandS.Property
import HandS.ClsMeth
import HandS.OwnEq
import KE.KFmtOwn
import KE.KExcInit
import PyProof.InstStoreFacts
import PyProof.RulesRaise
import PyProof.FactsTree
import KE.KExcIs
import HandS.ExcIs
import PyProof.P3Eq
import PyProof.FactsAll.dict_1
import PyProof.FactsAll.subtypes
import PyProof.EqLayable
import PyProof.ReprReads
import PyProof.NeData
import PyProof.FactsAll.dict_2
import HandS.SetFor
import HandS.Strs
import HandS.TupSets
import HandS.TupMul
import KE.DataMinMax
import HandS.EndTab
import HandS.DictComp
import HandS.WordsDict
import KE.GoesEnum
import KE.GoesMore
import HandS.WideBits
import PyProof.SliceStr2
import PyProof.FactsAll.int_2
import PyProof.FString3
import PyProof.Rows.StrIntSpec
import HandS.Style
import PyProof.Conv_bool
import KE.KMathG
import HandS.Gcd
import PyProof.NeKinds
import PySem.Challenge.RW_deepenough_k05_sets_moved
import PyProof.StrLawsIn
import PyProof.FitsReplace
import KE.KIntText
import KE.KLam
set_option Elab.async false
set_option linter.all false
set_option maxRecDepth 100000
/-! Data in place of addresses: an expression of the program is a plain function of the frame's data and of a store of the things that change. -/
namespace DL
open PySem L2

/-- data: what never changes stands as a tree, what may change by the number of its cell -/
inductive D where
  | non | bl (b : Bool) | int (i : Int) | str (s : Str) | ty (n : String) | h (k : Nat)
  | lst (xs : List D) | rl (xs : List D) | tup (xs : List D) | dct (kvs : List (Key × D))
  /-- an exception of the program's class of this name, with or without a field -/
  | exc (n : Str) | exf (n f : Str) (x : D)
  /-- a class of the program, by its name -/
  | cls (n : Str)

/-- what may change -/
inductive Cell where
  | lst (xs : List D) | obj (n : Str) (fs : List (Str × D))
  /-- the table of the code objects that the def x makes; they bear the name q -/
  | tab (x q : Str)
  /-- a dict with texts or integers as keys; locked for a loop -/
  | dct (ds : List (Key × D)) | lck (ds : List (Key × D))

/-- the frame's names and the cells -/
structure Sg where
  ρ : List (Option D)
  μ : List Cell

/-- the cells' addresses; what no data may lie at -/
structure Ar where
  c : List Addr
  b : List Addr
def Ar.Out (as : Ar) (a : Addr) : Prop := a ∉ as.c ∧ a ∉ as.b

section
variable (K : PySem.W.Frag)
/-- a list of the written part, or one that is tracked: the last never at an address of a cell -/
def TrL (as : Ar) (H : Hp) (a : Addr) (vs : List V) : Prop := (Rd H a (.lst vs) ∧ as.Out a) ∨ ∀ H' : Hp, SqL K H' a vs
def TrT (as : Ar) (H : Hp) (a : Addr) (vs : List V) : Prop := (Rd H a (.tup vs) ∧ as.Out a) ∨ ∀ H' : Hp, SqT K H' a vs
theorem TrL.sq {K : PySem.W.Frag} {as : Ar} {H : Hp} {a : Addr} {vs : List V} (h : TrL K as H a vs) : SqL K H a vs := h.elim (fun z => .inl z.1) fun z => z H
theorem TrT.sq {K : PySem.W.Frag} {as : Ar} {H : Hp} {a : Addr} {vs : List V} (h : TrT K as H a vs) : SqT K H a vs := h.elim (fun z => .inl z.1) fun z => z H

mutual
inductive Rep (as : Ar) (H : Hp) : V → D → Prop
  | non : Rep as H .non .non
  | bl (b : Bool) : Rep as H (.bl b) (.bl b)
  | int (i : Int) : Rep as H (.int i) (.int i)
  | str (s : Str) : Rep as H (.str s) (.str s)
  | ty (n : String) : Rep as H (.ty n) (.ty n)
  | h {k : Nat} {a : Addr} : as.c[k]? = some a → Rep as H (.ref a) (.h k)
  | lst {a : Addr} {vs : List V} {ds : List D} : H a = some (.lst vs) → as.Out a → Reps as H vs ds → Rep as H (.ref a) (.lst ds)
  | rl {a : Addr} {vs : List V} {ds : List D} : TrL K as H a vs → Reps as H vs ds → Rep as H (.ref a) (.rl ds)
  | tup {a : Addr} {vs : List V} {ds : List D} : TrT K as H a vs → Reps as H vs ds → Rep as H (.ref a) (.tup ds)
  | dct {a : Addr} {kvs : List (Key × V)} {ds : List (Key × D)} : H a = some (.dK kvs) → as.Out a → kvs.map (·.1) = ds.map (·.1) → Reps as H (kvs.map (·.2)) (ds.map (·.2)) → Rep as H (.ref a) (.dct ds)
  | exc {a C : Addr} {n : Str} : PySem.W.nsIn K mainGlobals n = some (some (.ref C)) → H a = some (ExO (.ref C) a) → as.Out a → Rep as H (.ref a) (.exc n)
  | exf {a C dx : Addr} {n f : Str} {v : V} {x : D} : PySem.W.nsIn K mainGlobals n = some (some (.ref C)) → H a = some (exo a C (some dx)) → as.Out a → H dx = some (exd dx [(f, v)]) → as.Out dx → Rep as H v x → Rep as H (.ref a) (.exf n f x)
  | cls {C : Addr} {n : Str} : PySem.W.nsIn K mainGlobals n = some (some (.ref C)) → Rep as H (.ref C) (.cls n)
inductive Reps (as : Ar) (H : Hp) : List V → List D → Prop
  | nil : Reps as H [] []
  | cons {v : V} {vs : List V} {d : D} {ds : List D} : Rep as H v d → Reps as H vs ds → Reps as H (v :: vs) (d :: ds)
end

/-- from one time to a later one: cells may be more, what is no cell stands -/
structure Ext (as : Ar) (H : Hp) (as' : Ar) (H' : Hp) : Prop where
  pre : ∃ more, as'.c = as.c ++ more ∧ ∀ a ∈ more, H a = none
  blk : ∃ nb, as'.b = nb ++ as.b ∧ ∀ a ∈ nb, H a = none
  old : ∀ a o, a ∉ as.c → H a = some o → H' a = some o
  cel : ∀ a ∈ as.c, H a ≠ none → H' a ≠ none
  /-- what is locked stays as it is -/
  frz : ∀ a o u, H a = some (.frz o u) → H' a = some (.frz o u)

def CellR (as : Ar) (H : Hp) (a : Addr) : Cell → Prop
  | .lst ds => ∃ vs, H a = some (.lst vs) ∧ Reps K as H vs ds
  | .obj n fs => ∃ C dx fv, PySem.W.nsIn K mainGlobals n = some (some (.ref C)) ∧ H a = some (.ins C dx fv) ∧ fv.map (·.1) = fs.map (·.1) ∧ Reps K as H (fv.map (·.2)) (fs.map (·.2))
  | .tab x q => ∃ c ps, PySem.W.tabIn K x = some (c, a) ∧ H a = some (.tbl ps) ∧ TriplesOk ps.toList ∧ ∀ (pos : Pos) (cv : Value), codeAmong pos ps.toList = some cv → ∃ e, cv = .ref e ∧ H e = some (LamX.CodeO e q) ∧ e ∉ as.c
  | .dct ds => ∃ kvs, H a = some (.dK kvs) ∧ kvs.map (·.1) = ds.map (·.1) ∧ Reps K as H (kvs.map (·.2)) (ds.map (·.2))
  | .lck ds => ∃ od kvs, H a = some (.frz od (.dK kvs)) ∧ kvs.map (·.1) = ds.map (·.1) ∧ Reps K as H (kvs.map (·.2)) (ds.map (·.2))

structure StoR (as : Ar) (H : Hp) (μ : List Cell) : Prop where
  len : as.c.length = μ.length
  at_ : ∀ (k : Nat) (a : Addr) (c : Cell), as.c[k]? = some a → μ[k]? = some c → CellR K as H a c
  nd : as.c.Nodup
  bl : ∀ a ∈ as.b, H a ≠ none

def EnvR (as : Ar) (H : Hp) (σ : St) (ρ : List (Option D)) : Prop :=
  σ.length = ρ.length ∧ ∀ (i : Nat) (d : D), ρ[i]? = some (some d) → ∃ v, σ[i]? = some (some v) ∧ Rep K as H v d

structure ER (as : Ar) (σ : St) (H : Hp) (S : Sg) : Prop where
  env : EnvR K as H σ S.ρ
  sto : StoR K as H S.μ
end

section
variable {K : PySem.W.Frag} {as as' as'' : Ar} {H H' H'' : Hp} {σ : St} {S : Sg} {v : V} {d : D} {vs : List V} {ds : List D} {μ μ' : List Cell} {ρ : List (Option D)}

theorem Rd.mv {a : Addr} {u : HO} (h : Rd H a u) (n : as.Out a) (E : Ext as H as' H') : Rd H' a u ∧ as'.Out a := by
  have ne : H a ≠ none := by rcases h with h | ⟨o, h⟩ <;> rw [h] <;> simp
  refine ⟨?_, ?_⟩
  · rcases h with h | ⟨o, h⟩
    · exact .inl (E.old a _ n.1 h)
    · exact .inr ⟨o, E.old a _ n.1 h⟩
  · obtain ⟨more, e, f⟩ := E.pre
    obtain ⟨nb, e', f'⟩ := E.blk
    refine ⟨?_, ?_⟩
    · rw [e, List.mem_append]
      rintro (z | z)
      · exact n.1 z
      · exact ne (f a z)
    · rw [e', List.mem_append]
      rintro (z | z)
      · exact ne (f' a z)
      · exact n.2 z
theorem at_mv {a : Addr} {u : HO} (h : H a = some u) (n : as.Out a) (E : Ext as H as' H') : H' a = some u ∧ as'.Out a :=
  ⟨E.old a u n.1 h, (Rd.mv (.inl h) n E).2⟩
theorem TrL.mv {a : Addr} (h : TrL K as H a vs) (E : Ext as H as' H') : TrL K as' H' a vs := h.elim (fun z => .inl (Rd.mv z.1 z.2 E)) .inr
theorem TrT.mv {a : Addr} (h : TrT K as H a vs) (E : Ext as H as' H') : TrT K as' H' a vs := h.elim (fun z => .inl (Rd.mv z.1 z.2 E)) .inr
mutual
theorem Rep.mv (E : Ext as H as' H') : ∀ {v : V} {d : D}, Rep K as H v d → Rep K as' H' v d
  | _, _, .non => .non
  | _, _, .bl b => .bl b
  | _, _, .int i => .int i
  | _, _, .str s => .str s
  | _, _, .ty n => .ty n
  | _, _, .h e => by
    obtain ⟨more, q, _⟩ := E.pre
    refine .h ?_
    rw [q, List.getElem?_append_left (List.getElem?_eq_some_iff.mp e).1]
    exact e
  | _, _, .lst t n r => let q := at_mv t n E; .lst q.1 q.2 (Reps.mv E r)
  | _, _, .rl t r => .rl (t.mv E) (Reps.mv E r)
  | _, _, .tup t r => .tup (t.mv E) (Reps.mv E r)
  | _, _, .dct t n e r => let q := at_mv t n E; .dct q.1 q.2 e (Reps.mv E r)
  | _, _, .exc e t n => let q := at_mv t n E; .exc e q.1 q.2
  | _, _, .exf e t n t2 n2 r => let q := at_mv t n E; let q2 := at_mv t2 n2 E; .exf e q.1 q.2 q2.1 q2.2 (Rep.mv E r)
  | _, _, .cls e => .cls e
theorem Reps.mv (E : Ext as H as' H') : ∀ {vs : List V} {ds : List D}, Reps K as H vs ds → Reps K as' H' vs ds
  | _, _, .nil => .nil
  | _, _, .cons h t => .cons (Rep.mv E h) (Reps.mv E t)
end
theorem Ext.refl : Ext as H as H := ⟨⟨[], by simp, by simp⟩, ⟨[], by simp, by simp⟩, fun _ _ _ h => h, fun _ _ h => h, fun _ _ _ h => h⟩
theorem Ext.trans (E : Ext as H as' H') (E' : Ext as' H' as'' H'') (tr : ∀ a, a ∈ as.c → H a ≠ none) : Ext as H as'' H'' := by
  obtain ⟨m1, e1, f1⟩ := E.pre
  obtain ⟨m2, e2, f2⟩ := E'.pre
  obtain ⟨n1, b1, g1⟩ := E.blk
  obtain ⟨n2, b2, g2⟩ := E'.blk
  have back : ∀ a, H' a = none → H a = none := fun a q => by
    by_cases hn : H a = none
    · exact hn
    · exfalso
      by_cases ha : a ∈ as.c
      · exact E.cel a ha hn q
      · cases e : H a with
        | none => exact hn e
        | some o => rw [E.old a o ha e] at q; cases q
  refine ⟨⟨m1 ++ m2, by rw [e2, e1, List.append_assoc], fun a ha => ?_⟩, ⟨n2 ++ n1, by rw [b2, b1, List.append_assoc], fun a ha => (List.mem_append.mp ha).elim (fun z => back a (g2 a z)) (g1 a)⟩, fun a o n h => ?_, fun a ha h => ?_, fun a o u h => E'.frz a o u (E.frz a o u h)⟩
  · rcases List.mem_append.mp ha with z | z
    · exact f1 a z
    · exact back a (f2 a z)
  · have q := E.old a o n h
    refine E'.old a o ?_ q
    rw [e1, List.mem_append]
    rintro (z | z)
    · exact n z
    · rw [f1 a z] at h; cases h
  · exact E'.cel a (by rw [e1]; exact List.mem_append_left _ ha) (E.cel a ha h)
theorem StoR.trk (h : StoR K as H μ) : ∀ a ∈ as.c, H a ≠ none := by
  intro a ha
  obtain ⟨k, e⟩ := List.mem_iff_getElem?.mp ha
  have hk : k < μ.length := by rw [← h.len]; exact (List.getElem?_eq_some_iff.mp e).1
  have q := h.at_ k a _ e (List.getElem?_eq_getElem hk)
  cases c : μ[k] with
  | lst ds =>
    rw [c] at q
    obtain ⟨vs, z, _⟩ := q
    rw [z]; simp
  | obj n fs =>
    rw [c] at q
    obtain ⟨_, _, _, _, z, _⟩ := q
    rw [z]; simp
  | dct ds =>
    rw [c] at q
    obtain ⟨_, z, _⟩ := q
    rw [z]; simp
  | lck ds =>
    rw [c] at q
    obtain ⟨_, _, z, _⟩ := q
    rw [z]; simp
  | tab x n =>
    rw [c] at q
    obtain ⟨_, _, _, z, _⟩ := q
    rw [z]; simp
theorem StoR.out {p : Addr} (h : StoR K as H μ) (hp : H p = none) : as.Out p := ⟨fun z => h.trk p z hp, fun z => h.bl p z hp⟩
theorem EnvR.mv (h : EnvR K as H σ ρ) (E : Ext as H as' H') : EnvR K as' H' σ ρ := ⟨h.1, fun i d e => let ⟨v, a, b⟩ := h.2 i d e; ⟨v, a, b.mv E⟩⟩
/-- a new thing that is no cell -/
theorem Ext.new {p : Addr} {o : HO} (hp : H p = none) (n : as.Out p) : Ext as H as (upd H p o) :=
  ⟨⟨[], by simp, by simp⟩, ⟨[], by simp, by simp⟩, fun a u _ h => by rw [upd_ne (ne_of_none h hp)]; exact h, fun a ha _ => by
    by_cases e : a = p
    · exact absurd (e ▸ ha) n.1
    · rw [upd_ne e]; assumption, fun a x u h => by rw [upd_ne (ne_of_none h hp)]; exact h⟩
theorem CellR.mv {a : Addr} {c : Cell} (h : CellR K as H a c) (E : Ext as H as' H') (e : H' a = H a) : CellR K as' H' a c := by
  cases c with
  | lst ds => obtain ⟨vs, q, r⟩ := h; exact ⟨vs, e.trans q, r.mv E⟩
  | obj n fs => obtain ⟨C, dx, fv, hn, q, l, r⟩ := h; exact ⟨C, dx, fv, hn, e.trans q, l, r.mv E⟩
  | dct ds => obtain ⟨kvs, q, l, r⟩ := h; exact ⟨kvs, e.trans q, l, r.mv E⟩
  | lck ds => obtain ⟨od, kvs, q, l, r⟩ := h; exact ⟨od, kvs, e.trans q, l, r.mv E⟩
  | tab x n =>
    obtain ⟨c, ps, ht, q, tr, l⟩ := h
    refine ⟨c, ps, ht, e.trans q, tr, fun pos cv z => ?_⟩
    obtain ⟨e1, e2, e3, e4⟩ := l pos cv z
    refine ⟨e1, e2, E.old _ _ e4 e3, fun w => ?_⟩
    obtain ⟨more, m1, m2⟩ := E.pre
    rw [m1, List.mem_append] at w
    rcases w with w | w
    · exact e4 w
    · rw [m2 _ w] at e3; cases e3
/-- the cells stand where nothing was stored into them -/
theorem StoR.keep (h : StoR K as H μ) (E : Ext as H as H') (e : ∀ a ∈ as.c, H' a = H a) : StoR K as H' μ :=
  ⟨h.len, fun k a c q r => (h.at_ k a c q r).mv E (e a (List.mem_of_getElem? q)), h.nd, fun a ha => by
    by_cases hc : a ∈ as.c
    · exact E.cel a hc (h.bl a ha)
    · have q := h.bl a ha
      cases z : H a with
      | none => exact absurd z q
      | some o => rw [E.old a o hc z]; simp⟩
theorem StoR.new {p : Addr} {o : HO} (h : StoR K as H μ) (hp : H p = none) : StoR K as (upd H p o) μ :=
  h.keep (Ext.new hp (h.out hp)) fun a ha => upd_ne fun e => (h.out hp).1 (e ▸ ha)
theorem ER.mvE (h : ER K as σ H S) (E : Ext as H as' H') {μ' : List Cell} (s : StoR K as' H' μ') : ER K as' σ H' { S with μ := μ' } := ⟨h.env.mv E, s⟩
theorem Reps.length : ∀ {vs : List V} {ds : List D}, Reps K as H vs ds → vs.length = ds.length
  | _, _, .nil => rfl
  | _, _, .cons _ t => by rw [List.length_cons, List.length_cons, Reps.length t]
theorem Reps.get : ∀ {vs : List V} {ds : List D} {i : Nat} {d : D}, Reps K as H vs ds → ds[i]? = some d → ∃ v, vs[i]? = some v ∧ Rep K as H v d
  | _, _, _, _, .nil, e => by simp at e
  | _, _, 0, _, .cons h _, e => by simp at e; subst e; exact ⟨_, rfl, h⟩
  | _, _, i + 1, d, .cons _ t, e => by
    obtain ⟨v, a, b⟩ := Reps.get (i := i) t (by simpa using e)
    exact ⟨v, by simpa using a, b⟩
theorem Reps.getV : ∀ {vs : List V} {ds : List D} {i : Nat} {v : V}, Reps K as H vs ds → vs[i]? = some v → ∃ d, ds[i]? = some d ∧ Rep K as H v d
  | _, _, _, _, .nil, e => by simp at e
  | _, _, 0, _, .cons h _, e => by simp at e; subst e; exact ⟨_, rfl, h⟩
  | _, _, i + 1, d, .cons _ t, e => by
    obtain ⟨v, a, b⟩ := Reps.getV (i := i) t (by simpa using e)
    exact ⟨v, by simpa using a, b⟩
theorem Reps.append : ∀ {vs ws : List V} {ds es : List D}, Reps K as H vs ds → Reps K as H ws es → Reps K as H (vs ++ ws) (ds ++ es)
  | _, _, _, _, .nil, s => s
  | _, _, _, _, .cons h t, s => .cons h (Reps.append t s)
theorem Reps.snoc (h : Reps K as H vs ds) (r : Rep K as H v d) : Reps K as H (vs ++ [v]) (ds ++ [d]) := h.append (.cons r .nil)
theorem Reps.set : ∀ {vs : List V} {ds : List D} {v : V} {d : D} (i : Nat), Reps K as H vs ds → Rep K as H v d → Reps K as H (vs.set i v) (ds.set i d)
  | _, _, _, _, _, .nil, _ => .nil
  | _, _, _, _, 0, .cons _ t, r => .cons r t
  | _, _, _, _, i + 1, .cons h t, r => .cons h (Reps.set i t r)
theorem Reps.take : ∀ {vs : List V} {ds : List D} (n : Nat), Reps K as H vs ds → Reps K as H (vs.take n) (ds.take n)
  | _, _, 0, _ => .nil
  | _, _, n + 1, .nil => .nil
  | _, _, n + 1, .cons h t => .cons h (Reps.take n t)
theorem Reps.drop : ∀ {vs : List V} {ds : List D} (n : Nat), Reps K as H vs ds → Reps K as H (vs.drop n) (ds.drop n)
  | _, _, 0, r => r
  | _, _, n + 1, .nil => .nil
  | _, _, n + 1, .cons _ t => Reps.drop n t
theorem Reps.ints : ∀ {ns : List Int}, Reps K as H (ns.map V.int) (ns.map D.int)
  | [] => .nil
  | _ :: _ => .cons (.int _) Reps.ints

/-! ### the judgements -/
abbrev EvE := Sg → Option (D × List Cell)
abbrev EvT := Sg → Option (Bool × List Cell)
abbrev EvA := Sg → Option (List D × List Cell)
/-- how a statement ends; what an expression gives: data, or an exception of the class of this name, with what it keeps -/
inductive Fl where
  | nx | rt (d : D) | bk | ct | ex (n : Str) (x : Option D)
inductive Ov where
  | v (d : D) | x (n : Str) (p : Option D)
abbrev EvX := Sg → Option (Ov × List Cell)
abbrev EvS := Sg → Option (Fl × Sg)

variable (K) in
def tF (f : EvE) : TE := fun σ H Q => ∃ as S d μ', ER K as σ H S ∧ f S = some (d, μ') ∧ ∀ v as' H', Ext as H as' H' → Rep K as' H' v d → StoR K as' H' μ' → Q v H'
variable (K) in
def tFT (f : EvT) : TT := fun σ H Q => ∃ as S b μ', ER K as σ H S ∧ f S = some (b, μ') ∧ ∀ as' H', Ext as H as' H' → StoR K as' H' μ' → Q b H'
variable (K) in
def tFA (f : EvA) : TA := fun σ H Q => ∃ as S ds μ', ER K as σ H S ∧ f S = some (ds, μ') ∧ ∀ vs as' H', Ext as H as' H' → Reps K as' H' vs ds → StoR K as' H' μ' → Q vs H'
variable (K) in
/-- what an exception keeps: nothing, or one field of its own dict -/
def XR (as : Ar) (H : Hp) (d : Option Addr) : Option D → Prop
  | none => d = none
  | some (.exf _ f x) => ∃ (dd : Addr) (v : V), d = some dd ∧ H dd = some (.xd [(f, v)]) ∧ as.Out dd ∧ Rep K as H v x
  | some _ => False
variable (K) in
/-- .. where an exception may come out -/
def tFX (mg : Str → Option Value) (W : WX) (f : EvX) : TE := fun σ H Q => ∃ as S o μ', ER K as σ H S ∧ f S = some (o, μ') ∧ (match o with
  | .v d => ∀ v as' H', Ext as H as' H' → Rep K as' H' v d → StoR K as' H' μ' → Q v H'
  | .x n p => ∀ as' H' C dx, Ext as H as' H' → StoR K as' H' μ' → mg n = some C → XR K as' H' dx p → W C dx σ H')
variable (K) in
def endS (mg : Str → Option Value) (W : WX) (as : Ar) (H : Hp) (E : Ends) : Fl → Sg → Prop
  | .nx, S' => ∀ as' σ' H', Ext as H as' H' → ER K as' σ' H' S' → E.nx σ' H'
  | .bk, S' => ∀ as' σ' H', Ext as H as' H' → ER K as' σ' H' S' → E.bk σ' H'
  | .ct, S' => ∀ as' σ' H', Ext as H as' H' → ER K as' σ' H' S' → E.ct σ' H'
  | .rt d, S' => ∀ as' v H', Ext as H as' H' → Rep K as' H' v d → StoR K as' H' S'.μ → E.rt v H'
  | .ex n p, S' => ∀ as' σ' H' C dx, Ext as H as' H' → ER K as' σ' H' S' → mg n = some C → XR K as' H' dx p → W C dx σ' H'
variable (K) in
def tFS (mg : Str → Option Value) (W : WX) (g : EvS) : TS := fun E σ H => ∃ as S fl S', ER K as σ H S ∧ g S = some (fl, S') ∧ endS K mg W as H E fl S'

end
theorem _root_.L2.PE.imp {X : Cx} {e : Expr} {t t' : TE} (h : PE X e t) (q : ∀ σ H Q, t' σ H Q → t σ H Q) : PE X e t' := ⟨fun pins s σ H Q I z => h.run pins s σ H Q I (q σ H Q z)⟩
theorem _root_.L2.PT.imp {X : Cx} {e : Expr} {t t' : TT} (h : PT X e t) (q : ∀ σ H Q, t' σ H Q → t σ H Q) : PT X e t' := ⟨fun pins s σ H Q I z => h.run pins s σ H Q I (q σ H Q z)⟩
theorem _root_.L2.PA.imp {X : Cx} {e : List Expr} {t t' : TA} (h : PA X e t) (q : ∀ σ H Q, t' σ H Q → t σ H Q) : PA X e t' := ⟨fun pos pins s σ H Q I z => h.run pos pins s σ H Q I (q σ H Q z)⟩
theorem _root_.L2.PS.imp {X : Cx} {e : Stmt} {t t' : TS} (h : PS X e t) (q : ∀ D σ H, t' D σ H → t D σ H) : PS X e t' := ⟨fun pins s σ H D I z => h.run pins s σ H D I (q D σ H z)⟩
theorem _root_.L2.PSs.imp {X : Cx} {e : List Stmt} {t t' : TS} (h : PSs X e t) (q : ∀ D σ H, t' D σ H → t D σ H) : PSs X e t' := ⟨fun pins s σ H D I z => h.run pins s σ H D I (q D σ H z)⟩
end DL
namespace DL
open PySem L2
/-! ### names, constants -/
def fV (i : Nat) : EvE := fun S => match S.ρ[i]? with
  | some (some d) => some (d, S.μ)
  | _ => none
def fC (d : D) : EvE := fun S => some (d, S.μ)
/-- two in a row -/
def fB (g : D → D → List Cell → Option D) (fa fb : EvE) : EvE := fun S => match fa S with
  | some (x, μ1) => match fb { S with μ := μ1 } with
    | some (y, μ2) => match g x y μ2 with
      | some z => some (z, μ2)
      | none => none
    | none => none
  | none => none
def fU (g : D → List Cell → Option D) (fa : EvE) : EvE := fun S => match fa S with
  | some (x, μ1) => match g x μ1 with
    | some z => some (z, μ1)
    | none => none
  | none => none
section
variable {X : Cx} {σ : St} {H : Hp} {Q : VK} {as : Ar}
theorem tF_c {K : PySem.W.Frag} {v : V} {d : D} (r : ∀ as H, Rep K as H v d) : ∀ σ H Q, tF K (fC d) σ H Q → tC v σ H Q := fun σ H Q ⟨as, S, d', μ', E, e, q⟩ => by
  have e' : (d, S.μ) = (d', μ') := Option.some.inj e
  injection e' with e1 e2
  subst e1 e2
  exact q v as H .refl (r _ _) E.sto
theorem de_int {i j pos} : PE X (.Constant (.int i) j pos) (tF X.K (fC (.int i))) := pe_int.imp (tF_c fun _ _ => .int i)
theorem de_bl {b j pos} : PE X (.Constant (.bool b) j pos) (tF X.K (fC (.bl b))) := pe_bl.imp (tF_c fun _ _ => .bl b)
theorem de_non {j pos} : PE X (.Constant .none j pos) (tF X.K (fC .non)) := pe_non.imp (tF_c fun _ _ => .non)
theorem de_str {x j pos} : PE X (.Constant (.str x) j pos) (tF X.K (fC (.str x))) := pe_str.imp (tF_c fun _ _ => .str x)
theorem de_var (i : Nat) {x : Str} {pos : Pos} (hN : X.N[i]? = some x := by rfl) (hv : Vis X.env.scope x := by first | exact Or.inl rfl | exact Or.inr (Or.inl rfl) | exact Or.inr (Or.inr rfl))
    (hd : (x == ("__debug__" : Str)) = false := by decide) (hcd : (x == ("__classdict__" : Str)) = false := by decide) : PE X (.Name x pos) (tF X.K (fV i)) := by
  refine (pe_var hN hv hd hcd).imp fun σ H Q ⟨as, S, d, μ', E, e, q⟩ => ?_
  unfold fV at e
  split at e
  · rename_i d' he
    injection e with e
    injection e with e1 e2
    subst e1 e2
    obtain ⟨v, a, r⟩ := E.env.2 i _ he
    exact ⟨v, a, q v as H .refl r E.sto⟩
  · cases e
/-- a name of the module that holds a constant -/
theorem de_gint {i : Int} {x : Str} {pos : Pos} (hg : Gl X x) (hm : ∃ t, X.mg x = some (.int i t)) (hdb : (x == ("__debug__" : Str)) = false := by decide) : PE X (.Name x pos) (tF X.K (fC (.int i))) := by
  obtain ⟨t, hm⟩ := hm
  exact (pe_glob (v := .int i) hg hm ⟨t, rfl⟩ (hd := hdb)).imp (tF_c fun _ _ => .int i)
theorem de_gty {T : String} {x : Str} {pos : Pos} (hg : Gl X x) (hm : X.mg x = none) (hv : bootBuiltins x = some (.type T)) (hn : x ≠ "__name__" := by decide) (hdb : (x == ("__debug__" : Str)) = false := by decide) : PE X (.Name x pos) (tF X.K (fC (.ty T))) :=
  (pe_bltn (v := .ty T) hg hm hv rfl (hn := hn) (hd := hdb)).imp (tF_c fun _ _ => .ty T)

/-! ### operators -/
def rD (K : PySem.W.Frag) (g : D → D → List Cell → Option D) : R2 := fun x y H Q => ∃ as d e μ z, Rep K as H x d ∧ Rep K as H y e ∧ StoR K as H μ ∧ g d e μ = some z ∧
  ∀ v H', Ext as H as H' → Rep K as H' v z → StoR K as H' μ → Q v H'
def rU1 (K : PySem.W.Frag) (g : D → List Cell → Option D) : V → Hp → VK → Prop := fun x H Q => ∃ as d μ z, Rep K as H x d ∧ StoR K as H μ ∧ g d μ = some z ∧
  ∀ v H', Ext as H as H' → Rep K as H' v z → StoR K as H' μ → Q v H'
theorem tF_b {K : PySem.W.Frag} {g : D → D → List Cell → Option D} {fa fb : EvE} : ∀ σ H Q, tF K (fB g fa fb) σ H Q → tOp (rD K g) (tF K fa) (tF K fb) σ H Q := fun σ H Q ⟨as, S, d', μ', E, e, q⟩ => by
  unfold fB at e
  split at e
  · rename_i x μ1 ea
    split at e
    · rename_i y μ2 eb
      split at e
      · rename_i z ez
        injection e with e
        injection e with e1 e2
        subst e1 e2
        refine ⟨as, S, x, μ1, E, ea, fun v as1 H1 X1 r1 s1 => ⟨as1, _, y, μ2, E.mvE X1 s1, eb, fun u as2 H2 X2 r2 s2 => ⟨as2, x, y, μ2, z, r1.mv X2, r2, s2, ez, fun w H3 X3 r3 s3 => ?_⟩⟩⟩
        exact q w as2 H3 ((X1.trans X2 E.sto.trk).trans X3 E.sto.trk) r3 s3
      · cases e
    · cases e
  · cases e
theorem tF_u {K : PySem.W.Frag} {g : D → List Cell → Option D} {fa : EvE} : ∀ σ H Q, tF K (fU g fa) σ H Q → tUn (rU1 K g) (tF K fa) σ H Q := fun σ H Q ⟨as, S, d', μ', E, e, q⟩ => by
  unfold fU at e
  split at e
  · rename_i x μ1 ea
    split at e
    · rename_i z ez
      injection e with e
      injection e with e1 e2
      subst e1 e2
      exact ⟨as, S, x, μ1, E, ea, fun v as1 H1 X1 r1 s1 => ⟨as1, x, μ1, z, r1, s1, ez, fun w H3 X3 r3 s3 => q w as1 H3 (X1.trans X3 E.sto.trk) r3 s3⟩⟩
    · cases e
  · cases e
variable {a b c : Expr} {fa fb fc : EvE} {pos : Pos}
theorem de_bin {op : Operator} {g : D → D → List Cell → Option D} (ho : OpR X (binaryOp op) (rD X.K g)) (ha : PE X a (tF X.K fa)) (hb : PE X b (tF X.K fb)) : PE X (.BinOp a op b pos) (tF X.K (fB g fa fb)) :=
  (pe_op ho ha hb).imp tF_b
theorem de_cmp {op : CmpOp} {g : D → D → List Cell → Option D} (ho : OpR X (compareOp op) (rD X.K g)) (ha : PE X a (tF X.K fa)) (hb : PE X b (tF X.K fb)) (hm : behindInMarks op b = false) : PE X (.Compare a [op] [b] pos) (tF X.K (fB g fa fb)) :=
  (pe_cmpR ho ha hb hm).imp tF_b
theorem de_un {op : UnaryOp} {g : D → List Cell → Option D} (ho : UnR X (unaryOp op) (rU1 X.K g)) (ha : PE X a (tF X.K fa)) : PE X (.UnaryOp op a pos) (tF X.K (fU g fa)) :=
  (pe_un ho ha).imp tF_u
theorem de_ix {g : D → D → List Cell → Option D} (ho : IxR X (rD X.K g)) (ha : PE X a (tF X.K fa)) (hb : PE X b (tF X.K fb)) (hs : PlainIx b := by exact fun _ _ => rfl) : PE X (.Subscript a b pos) (tF X.K (fB g fa fb)) :=
  (pe_ix ho ha hb hs).imp tF_b
/-- a < b < c: the third only where the first comparison holds -/
def fCh (g g' : D → D → List Cell → Option D) (fa fb fc : EvE) : EvE := fun S => match fa S with
  | some (x, μ1) => match fb { S with μ := μ1 } with
    | some (y, μ2) => match g x y μ2 with
      | some (.bl true) => match fc { S with μ := μ2 } with
        | some (w, μ3) => match g' y w μ3 with
          | some z => some (z, μ3)
          | none => none
        | none => none
      | some (.bl false) => some (.bl false, μ2)
      | _ => none
    | none => none
  | none => none
theorem tF_ch {K : PySem.W.Frag} {g g' : D → D → List Cell → Option D} : ∀ σ H Q, tF K (fCh g g' fa fb fc) σ H Q → tChain (rD K g) (rD K g') (tF K fa) (tF K fb) (tF K fc) σ H Q := fun σ H Q ⟨as, S, d', μ', E, e, q⟩ => by
  unfold fCh at e
  split at e
  · rename_i x μ1 ea
    split at e
    · rename_i y μ2 eb
      split at e
      · rename_i ez
        split at e
        · rename_i w μ3 ec
          split at e
          · rename_i z ew
            injection e with e
            injection e with e1 e2
            subst e1 e2
            refine ⟨as, S, x, μ1, E, ea, fun v as1 H1 X1 r1 s1 => ⟨as1, _, y, μ2, E.mvE X1 s1, eb, fun u as2 H2 X2 r2 s2 => ⟨as2, x, y, μ2, .bl true, r1.mv X2, r2, s2, ez, fun k H3 X3 r3 s3 => ?_⟩⟩⟩
            have X13 := X1.trans (X2.trans X3 s1.trk) E.sto.trk
            cases r3
            refine ⟨true, rfl, ?_⟩
            rw [if_pos rfl]
            refine ⟨as2, _, w, μ3, E.mvE X13 s3, ec, fun t as4 H4 X4 r4 s4 => ⟨as4, y, w, μ3, z, (r2.mv X3).mv X4, r4, s4, ew, fun k5 H5 X5 r5 s5 => ?_⟩⟩
            exact q k5 as4 H5 ((X13.trans X4 E.sto.trk).trans X5 E.sto.trk) r5 s5
          · cases e
        · cases e
      · rename_i ez
        injection e with e
        injection e with e1 e2
        subst e1 e2
        refine ⟨as, S, x, μ1, E, ea, fun v as1 H1 X1 r1 s1 => ⟨as1, _, y, μ2, E.mvE X1 s1, eb, fun u as2 H2 X2 r2 s2 => ⟨as2, x, y, μ2, .bl false, r1.mv X2, r2, s2, ez, fun k H3 X3 r3 s3 => ?_⟩⟩⟩
        have X13 := X1.trans (X2.trans X3 s1.trk) E.sto.trk
        cases r3
        refine ⟨false, rfl, ?_⟩
        rw [if_neg Bool.false_ne_true]
        exact q _ as2 H3 X13 (.bl false) s3
      · cases e
    · cases e
  · cases e
theorem de_chain {op op' : CmpOp} {g g' : D → D → List Cell → Option D} (ho : OpR X (compareOp op) (rD X.K g)) (ho' : OpR X (compareOp op') (rD X.K g')) (ha : PE X a (tF X.K fa)) (hb : PE X b (tF X.K fb)) (hc : PE X c (tF X.K fc)) (hm : lastMarks [op, op'] [b, c] = false := by rfl) :
    PE X (.Compare a [op, op'] [b, c] pos) (tF X.K (fCh g g' fa fb fc)) := (pe_chain ho ho' ha hb hc (hm := hm)).imp tF_ch

/-! ### truth -/
def dTru : D → List Cell → Option Bool
  | .non, _ => some false
  | .bl b, _ => some b
  | .int i, _ => some (i != 0)
  | .str y, _ => if y.length ≤ sizeLine then some ((y.length : Int) != 0) else none
  | .lst xs, _ | .rl xs, _ | .tup xs, _ => some (!xs.isEmpty)
  | .dct kvs, _ => some (!kvs.isEmpty)
  | .h k, μ => match μ[k]? with
    | some (.lst xs) => some (!xs.isEmpty)
    | _ => none
  | .ty _, _ | .exc _, _ | .exf _ _ _, _ | .cls _, _ => none
theorem Reps.isEmpty {K : PySem.W.Frag} {vs : List V} {ds : List D} (h : Reps K as H vs ds) : vs.isEmpty = ds.isEmpty := by cases h <;> rfl
theorem dTru_ok {K : PySem.W.Frag} {v : V} {d : D} {μ : List Cell} {k : Bool} (r : Rep K as H v d) (s : StoR K as H μ) (e : dTru d μ = some k) : TruV K v H k := by
  cases r with
  | non => exact (Option.some.inj e).symm
  | bl b => exact (Option.some.inj e).symm
  | int i => exact (Option.some.inj e).symm
  | str y =>
    simp only [dTru] at e
    split at e
    · rename_i hl
      exact ⟨hl, (Option.some.inj e).symm⟩
    · cases e
  | ty n => cases e
  | exc _ _ _ => cases e
  | exf _ _ _ _ _ _ => cases e
  | cls _ => cases e
  | @lst a vs ds t n rs => exact .inl ⟨vs, SqL.of t, by rw [rs.isEmpty]; exact (Option.some.inj e).symm⟩
  | @rl a vs ds t rs => exact .inl ⟨vs, t.sq, by rw [rs.isEmpty]; exact (Option.some.inj e).symm⟩
  | @tup a vs ds t rs => exact .inr (.inl ⟨vs, t.sq, by rw [rs.isEmpty]; exact (Option.some.inj e).symm⟩)
  | @dct a kvs ds t n ek rs =>
    refine .inr (.inr ⟨kvs, t, ?_⟩)
    have e' : (!ds.isEmpty) = k := Option.some.inj e
    rw [← e']
    have l : kvs.length = ds.length := by simpa using congrArg List.length ek
    cases kvs <;> cases ds <;> simp_all
  | @h k' a ea =>
    simp only [dTru] at e
    split at e
    · rename_i xs em
      obtain ⟨vs, hv, rs⟩ := s.at_ k' a _ ea em
      exact .inl ⟨vs, SqL.of hv, by rw [rs.isEmpty]; exact (Option.some.inj e).symm⟩
    · cases e
def fTru (fa : EvE) : EvT := fun S => match fa S with
  | some (x, μ1) => match dTru x μ1 with
    | some k => some (k, μ1)
    | none => none
  | none => none
theorem dt_truth (ha : PE X a (tF X.K fa)) (he : ∀ whole, isTrue a X.env whole = (do let v ← whole; standAt a.pos; holding [v] (truthy v)) := by intro _; rfl) : PT X a (tFT X.K (fTru fa)) := by
  refine (pt_truth ha he).imp fun σ H Q ⟨as, S, k, μ', E, e, q⟩ => ?_
  unfold fTru at e
  split at e
  · rename_i x μ1 ea
    split at e
    · rename_i k' ek
      injection e with e
      injection e with e1 e2
      subst e1 e2
      exact ⟨as, S, x, μ1, E, ea, fun v as1 H1 X1 r1 s1 => ⟨k', dTru_ok r1 s1 ek, q as1 H1 X1 s1⟩⟩
    · cases e
  · cases e
/-- a comparison as a test -/
theorem dt_cmp {op : CmpOp} {g : D → D → List Cell → Option D} (ho : OpR X (compareOp op) (rD X.K g)) (ha : PE X a (tF X.K fa)) (hb : PE X b (tF X.K fb)) (hm : behindInMarks op b = false) (hbl : ∀ x y μ z, g x y μ = some z → ∃ k, z = .bl k) :
    PT X (.Compare a [op] [b] pos) (tFT X.K (fTru (fB g fa fb))) := by
  refine (pt_cmpR ho ha hb hm).imp fun σ H Q ⟨as, S, k, μ', E, e, q⟩ => ?_
  unfold fTru at e
  split at e
  · rename_i x μ1 ea
    split at e
    · rename_i k' ek
      injection e with e
      injection e with e1 e2
      subst e1 e2
      obtain ⟨kb, rfl⟩ : ∃ k, x = .bl k := by
        have ea' := ea
        unfold fB at ea'
        split at ea'
        · split at ea'
          · split at ea'
            · rename_i ez
              injection ea' with ea'
              injection ea' with e1 _
              obtain ⟨k, hk⟩ := hbl _ _ _ _ ez
              exact ⟨k, e1 ▸ hk⟩
            · cases ea'
          · cases ea'
        · cases ea'
      have ek' : kb = k' := Option.some.inj ek
      subst ek'
      refine tF_b (K := X.K) σ H _ ⟨as, S, .bl kb, μ1, E, ea, fun v as1 H1 X1 r1 s1 => ?_⟩
      cases r1
      exact ⟨kb, rfl, q as1 H1 X1 s1⟩
    · cases e
  · cases e
theorem dt_chain {op op' : CmpOp} {g g' : D → D → List Cell → Option D} (ho : OpR X (compareOp op) (rD X.K g)) (ho' : OpR X (compareOp op') (rD X.K g')) (ha : PE X a (tF X.K fa)) (hb : PE X b (tF X.K fb)) (hc : PE X c (tF X.K fc))
    (hbl : ∀ x y μ z, g' x y μ = some z → ∃ k, z = .bl k) (hm : lastMarks [op, op'] [b, c] = false := by rfl) : PT X (.Compare a [op, op'] [b, c] pos) (tFT X.K (fTru (fCh g g' fa fb fc))) := by
  refine (pt_chain ho ho' ha hb hc (hm := hm)).imp fun σ H Q ⟨as, S, k, μ', E, e, q⟩ => ?_
  unfold fTru at e
  split at e
  · rename_i x μ1 ea
    split at e
    · rename_i k' ek
      injection e with e
      injection e with e1 e2
      subst e1 e2
      obtain ⟨kb, rfl⟩ : ∃ k, x = .bl k := by
        have ea' := ea
        unfold fCh at ea'
        split at ea'
        · split at ea'
          · split at ea'
            · split at ea'
              · split at ea'
                · rename_i ez
                  injection ea' with ea'
                  injection ea' with e1 _
                  obtain ⟨k, hk⟩ := hbl _ _ _ _ ez
                  exact ⟨k, e1 ▸ hk⟩
                · cases ea'
              · cases ea'
            · injection ea' with ea'
              injection ea' with e1 _
              exact ⟨false, e1.symm⟩
            · cases ea'
          · cases ea'
        · cases ea'
      have ek' : kb = k' := Option.some.inj ek
      subst ek'
      have z := tF_ch (K := X.K) σ H (fun x H' => ∃ k, x = .bl k ∧ Q k H') ⟨as, S, .bl kb, μ1, E, ea, fun v as1 H1 X1 r1 s1 => by cases r1; exact ⟨kb, rfl, q as1 H1 X1 s1⟩⟩
      exact z
    · cases e
  · cases e
def fNot (t : EvT) : EvT := fun S => match t S with
  | some (k, μ1) => some (!k, μ1)
  | none => none
def fAnd (t u : EvT) : EvT := fun S => match t S with
  | some (true, μ1) => u { S with μ := μ1 }
  | some (false, μ1) => some (false, μ1)
  | none => none
def fOr (t u : EvT) : EvT := fun S => match t S with
  | some (true, μ1) => some (true, μ1)
  | some (false, μ1) => u { S with μ := μ1 }
  | none => none
variable {t u : EvT} {rest : List Expr}
theorem dt_not (ha : PT X a (tFT X.K t)) : PT X (.UnaryOp .Not a pos) (tFT X.K (fNot t)) := by
  refine (pt_not ha).imp fun σ H Q ⟨as, S, k, μ', E, e, q⟩ => ?_
  unfold fNot at e
  split at e
  · rename_i k1 μ1 ea
    injection e with e
    injection e with e1 e2
    subst e1 e2
    exact ⟨as, S, k1, μ1, E, ea, fun as1 H1 X1 s1 => q as1 H1 X1 s1⟩
  · cases e
theorem PW.imp {X : Cx} {e : Expr} {t t' : TT} (h : PW X e t) (q : ∀ σ H Q, t' σ H Q → t σ H Q) : PW X e t' := ⟨fun whole pins s σ H Q I z => h.run whole pins s σ H Q I (q σ H Q z)⟩
theorem dw_and1 (ha : PT X a (tFT X.K t)) : PW X (.BoolOp .And [a] pos) (tFT X.K t) := pw_and1 ha
theorem dw_or1 (ha : PT X a (tFT X.K t)) : PW X (.BoolOp .Or [a] pos) (tFT X.K t) := pw_or1 ha
theorem dw_and (ha : PT X a (tFT X.K t)) (hb : PW X (.BoolOp .And (b :: rest) pos) (tFT X.K u)) : PW X (.BoolOp .And (a :: b :: rest) pos) (tFT X.K (fAnd t u)) := by
  refine PW.imp (pw_and ha hb) fun σ H Q ⟨as, S, k, μ', E, e, q⟩ => ?_
  unfold fAnd at e
  split at e
  · rename_i μ1 ea
    exact ⟨as, S, true, μ1, E, ea, fun as1 H1 X1 s1 => iteT ⟨as1, _, k, μ', E.mvE X1 s1, e, fun as2 H2 X2 s2 => q as2 H2 (X1.trans X2 E.sto.trk) s2⟩⟩
  · rename_i μ1 ea
    injection e with e
    injection e with e1 e2
    subst e1 e2
    exact ⟨as, S, false, μ1, E, ea, fun as1 H1 X1 s1 => iteF (q as1 H1 X1 s1)⟩
  · cases e
theorem dw_or (ha : PT X a (tFT X.K t)) (hb : PW X (.BoolOp .Or (b :: rest) pos) (tFT X.K u)) : PW X (.BoolOp .Or (a :: b :: rest) pos) (tFT X.K (fOr t u)) := by
  refine PW.imp (pw_or ha hb) fun σ H Q ⟨as, S, k, μ', E, e, q⟩ => ?_
  unfold fOr at e
  split at e
  · rename_i μ1 ea
    injection e with e
    injection e with e1 e2
    subst e1 e2
    exact ⟨as, S, true, μ1, E, ea, fun as1 H1 X1 s1 => iteT (q as1 H1 X1 s1)⟩
  · rename_i μ1 ea
    exact ⟨as, S, false, μ1, E, ea, fun as1 H1 X1 s1 => iteF ⟨as1, _, k, μ', E.mvE X1 s1, e, fun as2 H2 X2 s2 => q as2 H2 (X1.trans X2 E.sto.trk) s2⟩⟩
  · cases e

/-! ### and, or, not, if as values -/
def fAndV (fa fb : EvE) : EvE := fun S => match fa S with
  | some (x, μ1) => match dTru x μ1 with
    | some true => fb { S with μ := μ1 }
    | some false => some (x, μ1)
    | none => none
  | none => none
def fOrV (fa fb : EvE) : EvE := fun S => match fa S with
  | some (x, μ1) => match dTru x μ1 with
    | some true => some (x, μ1)
    | some false => fb { S with μ := μ1 }
    | none => none
  | none => none
def dNot : D → List Cell → Option D := fun d μ => (dTru d μ).map fun k => .bl (!k)
def fIfE (t : EvT) (fa fb : EvE) : EvE := fun S => match t S with
  | some (true, μ1) => fa { S with μ := μ1 }
  | some (false, μ1) => fb { S with μ := μ1 }
  | none => none
theorem de_one {op} (ha : PE X a (tF X.K fa)) : PE X (.BoolOp op [a] pos) (tF X.K fa) := pe_one ha
theorem de_and (ha : PE X a (tF X.K fa)) (hb : PE X (.BoolOp .And (b :: rest) pos) (tF X.K fb)) : PE X (.BoolOp .And (a :: b :: rest) pos) (tF X.K (fAndV fa fb)) := by
  refine (pe_andT ha hb).imp fun σ H Q ⟨as, S, d, μ', E, e, q⟩ => ?_
  unfold fAndV at e
  split at e
  · rename_i x μ1 ea
    split at e
    · rename_i ek
      exact ⟨as, S, x, μ1, E, ea, fun v as1 H1 X1 r1 s1 => ⟨true, dTru_ok r1 s1 ek, iteT ⟨as1, _, d, μ', E.mvE X1 s1, e, fun w as2 H2 X2 r2 s2 => q w as2 H2 (X1.trans X2 E.sto.trk) r2 s2⟩⟩⟩
    · rename_i ek
      injection e with e
      injection e with e1 e2
      subst e1 e2
      exact ⟨as, S, x, μ1, E, ea, fun v as1 H1 X1 r1 s1 => ⟨false, dTru_ok r1 s1 ek, iteF (q v as1 H1 X1 r1 s1)⟩⟩
    · cases e
  · cases e
theorem de_or (ha : PE X a (tF X.K fa)) (hb : PE X (.BoolOp .Or (b :: rest) pos) (tF X.K fb)) : PE X (.BoolOp .Or (a :: b :: rest) pos) (tF X.K (fOrV fa fb)) := by
  refine (pe_orT ha hb).imp fun σ H Q ⟨as, S, d, μ', E, e, q⟩ => ?_
  unfold fOrV at e
  split at e
  · rename_i x μ1 ea
    split at e
    · rename_i ek
      injection e with e
      injection e with e1 e2
      subst e1 e2
      exact ⟨as, S, x, μ1, E, ea, fun v as1 H1 X1 r1 s1 => ⟨true, dTru_ok r1 s1 ek, iteT (q v as1 H1 X1 r1 s1)⟩⟩
    · rename_i ek
      exact ⟨as, S, x, μ1, E, ea, fun v as1 H1 X1 r1 s1 => ⟨false, dTru_ok r1 s1 ek, iteF ⟨as1, _, d, μ', E.mvE X1 s1, e, fun w as2 H2 X2 r2 s2 => q w as2 H2 (X1.trans X2 E.sto.trk) r2 s2⟩⟩⟩
    · cases e
  · cases e
theorem de_not (ha : PE X a (tF X.K fa)) : PE X (.UnaryOp .Not a pos) (tF X.K (fU dNot fa)) := by
  refine (pe_notT ha).imp fun σ H Q ⟨as, S, d, μ', E, e, q⟩ => ?_
  unfold fU at e
  split at e
  · rename_i x μ1 ea
    split at e
    · rename_i z ez
      injection e with e
      injection e with e1 e2
      subst e1 e2
      obtain ⟨k, ek, rfl⟩ := Option.map_eq_some_iff.mp ez
      exact ⟨as, S, x, μ1, E, ea, fun v as1 H1 X1 r1 s1 => ⟨k, dTru_ok r1 s1 ek, q _ as1 H1 X1 (.bl _) s1⟩⟩
    · cases e
  · cases e
theorem de_ifE (hc : PT X c (tFT X.K t)) (ha : PE X a (tF X.K fa)) (hb : PE X b (tF X.K fb)) : PE X (.IfExp c a b pos) (tF X.K (fIfE t fa fb)) := by
  refine (pe_ifExp hc ha hb).imp fun σ H Q ⟨as, S, d, μ', E, e, q⟩ => ?_
  unfold fIfE at e
  split at e
  · rename_i μ1 ea
    exact ⟨as, S, true, μ1, E, ea, fun as1 H1 X1 s1 => iteT ⟨as1, _, d, μ', E.mvE X1 s1, e, fun w as2 H2 X2 r2 s2 => q w as2 H2 (X1.trans X2 E.sto.trk) r2 s2⟩⟩
  · rename_i μ1 ea
    exact ⟨as, S, false, μ1, E, ea, fun as1 H1 X1 s1 => iteF ⟨as1, _, d, μ', E.mvE X1 s1, e, fun w as2 H2 X2 r2 s2 => q w as2 H2 (X1.trans X2 E.sto.trk) r2 s2⟩⟩
  · cases e

/-! ### lists of expressions, displays, calls of what is built in -/
def fNil : EvA := fun S => some ([], S.μ)
def fCons (fa : EvE) (fr : EvA) : EvA := fun S => match fa S with
  | some (x, μ1) => match fr { S with μ := μ1 } with
    | some (xs, μ2) => some (x :: xs, μ2)
    | none => none
  | none => none
def fApp (g : List D → List Cell → Option D) (fs : EvA) : EvE := fun S => match fs S with
  | some (xs, μ1) => match g xs μ1 with
    | some z => some (z, μ1)
    | none => none
  | none => none
variable {es : List Expr} {fs : EvA}
theorem da_nil : PA X [] (tFA X.K fNil) := pa_nil.imp fun σ H Q ⟨as, S, d, μ', E, e, q⟩ => by
  injection e with e
  injection e with e1 e2
  subst e1 e2
  exact q [] as H .refl .nil E.sto
theorem da_cons (ha : PE X a (tF X.K fa)) (hr : PA X es (tFA X.K fs)) (hs : starEach (a :: es) X.env = (false, eval a X.env) :: starEach es X.env := by rfl) : PA X (a :: es) (tFA X.K (fCons fa fs)) := by
  refine (pa_cons ha hr hs).imp fun σ H Q ⟨as, S, d, μ', E, e, q⟩ => ?_
  unfold fCons at e
  split at e
  · rename_i x μ1 ea
    split at e
    · rename_i xs μ2 eb
      injection e with e
      injection e with e1 e2
      subst e1 e2
      exact ⟨as, S, x, μ1, E, ea, fun v as1 H1 X1 r1 s1 => ⟨as1, _, xs, μ2, E.mvE X1 s1, eb, fun vs as2 H2 X2 r2 s2 => q _ as2 H2 (X1.trans X2 E.sto.trk) (.cons (r1.mv X2) r2) s2⟩⟩
    · cases e
  · cases e
def gLst : List D → List Cell → Option D := fun xs _ => if xs.length ≤ sizeLine then some (.lst xs) else none
def gTup : List D → List Cell → Option D := fun xs _ => if xs.length ≤ sizeLine then some (.tup xs) else none
theorem fApp_out {g : List D → List Cell → Option D} {S : Sg} {d : D} {μ' : List Cell} (e : fApp g fs S = some (d, μ')) : ∃ xs, fs S = some (xs, μ') ∧ g xs μ' = some d := by
  unfold fApp at e
  split at e
  · rename_i xs μ1 ea
    split at e
    · rename_i z ez
      injection e with e
      injection e with e1 e2
      subst e1 e2
      exact ⟨xs, ea, ez⟩
    · cases e
  · cases e
theorem Rep.newL {K : PySem.W.Frag} {p : Addr} {vs : List V} {ds : List D} {μ : List Cell} (s : StoR K as H μ) (hp : H p = none) (r : Reps K as H vs ds) : Rep K as (upd H p (.lst vs)) (.ref p) (.lst ds) :=
  .lst upd_same (s.out hp) (r.mv (Ext.new hp (s.out hp)))
theorem Rep.newT {K : PySem.W.Frag} {p : Addr} {vs : List V} {ds : List D} {μ : List Cell} (s : StoR K as H μ) (hp : H p = none) (r : Reps K as H vs ds) : Rep K as (upd H p (.tup vs)) (.ref p) (.tup ds) :=
  .tup (.inl ⟨.inl upd_same, s.out hp⟩) (r.mv (Ext.new hp (s.out hp)))
theorem de_lst (ha : PA X es (tFA X.K fs)) : PE X (.List es pos) (tF X.K (fApp gLst fs)) := by
  refine (pe_lst ha).imp fun σ H Q ⟨as, S, d, μ', E, e, q⟩ => ?_
  obtain ⟨xs, ea, ez⟩ := fApp_out e
  unfold gLst at ez
  split at ez
  · rename_i hl
    injection ez with ez
    subst ez
    refine ⟨as, S, xs, μ', E, ea, fun vs as1 H1 X1 r1 s1 => ⟨by rw [r1.length]; exact hl, fun p hp => ?_⟩⟩
    exact q _ as1 _ (X1.trans (Ext.new hp (s1.out hp)) E.sto.trk) (.newL s1 hp r1) (s1.new hp)
  · cases ez
theorem de_tup {x1} (ha : PA X es (tFA X.K fs)) : PE X (.Tuple es x1 pos) (tF X.K (fApp gTup fs)) := by
  refine (pe_tup ha).imp fun σ H Q ⟨as, S, d, μ', E, e, q⟩ => ?_
  obtain ⟨xs, ea, ez⟩ := fApp_out e
  unfold gTup at ez
  split at ez
  · rename_i hl
    injection ez with ez
    subst ez
    refine ⟨as, S, xs, μ', E, ea, fun vs as1 H1 X1 r1 s1 => ⟨by rw [r1.length]; exact hl, fun p hp => ?_⟩⟩
    exact q _ as1 _ (X1.trans (Ext.new hp (s1.out hp)) E.sto.trk) (.newT s1 hp r1) (s1.new hp)
  · cases ez
def rCD (K : PySem.W.Frag) (g : List D → List Cell → Option D) : List V → Hp → VK → Prop := fun xs H Q => ∃ as ds μ z, Reps K as H xs ds ∧ StoR K as H μ ∧ g ds μ = some z ∧
  ∀ v H', Ext as H as H' → Rep K as H' v z → StoR K as H' μ → Q v H'
theorem tF_app {K : PySem.W.Frag} {g : List D → List Cell → Option D} : ∀ σ H Q, tF K (fApp g fs) σ H Q → tCB (rCD K g) (tFA K fs) σ H Q := fun σ H Q ⟨as, S, d, μ', E, e, q⟩ => by
  obtain ⟨xs, ea, ez⟩ := fApp_out e
  exact ⟨as, S, xs, μ', E, ea, fun vs as1 H1 X1 r1 s1 => ⟨as1, xs, μ', d, r1, s1, ez, fun w H3 X3 r3 s3 => q w as1 H3 (X1.trans X3 E.sto.trk) r3 s3⟩⟩
theorem de_callB {x : Str} {p : Pos} {id : String} {g : List D → List Cell → Option D} (hc : CallR X (.builtin id) (rCD X.K g)) (hg : Gl X x) (hm : X.mg x = none) (hv : bootBuiltins x = some (.builtin id)) (ha : PA X (a :: es) (tFA X.K fs)) (hn : x ≠ "__name__" := by decide)
    (hdb : (x == ("__debug__" : Str)) = false := by decide) (he : starEach (a :: es) X.env = (false, eval a X.env) :: starEach es X.env := by rfl) (hpl : (backTo pos (starEach es X.env)).any (·.1) = false := by rfl) :
    PE X (.Call (.Name x p) (a :: es) [] pos) (tF X.K (fApp g fs)) := (pe_callB hc hg hm hv ha hn hdb he hpl).imp tF_app
theorem de_callTy {x : Str} {p : Pos} {T : String} {g : List D → List Cell → Option D} (hc : CallR X (.type T) (rCD X.K g)) (hg : Gl X x) (hm : X.mg x = none) (hv : bootBuiltins x = some (.type T)) (ha : PA X (a :: es) (tFA X.K fs)) (hn : x ≠ "__name__" := by decide)
    (hdb : (x == ("__debug__" : Str)) = false := by decide) (he : starEach (a :: es) X.env = (false, eval a X.env) :: starEach es X.env := by rfl) (hpl : (backTo pos (starEach es X.env)).any (·.1) = false := by rfl) :
    PE X (.Call (.Name x p) (a :: es) [] pos) (tF X.K (fApp g fs)) := (pe_callTy hc hg hm hv ha hn hdb he hpl).imp tF_app
end
end DL
namespace DL
open PySem L2
section
variable {X : Cx}
/-! ### what operators do to data -/
/-- the items of a list that may be joined, changed: a tree's or a cell's -/
def asL : D → List Cell → Option (List D)
  | .lst xs, _ => some xs
  | .h k, μ => match μ[k]? with
    | some (.lst xs) => some xs
    | _ => none
  | _, _ => none
theorem asL_ok {K : PySem.W.Frag} {as : Ar} {H : Hp} {v : V} {d : D} {μ : List Cell} {xs : List D} (r : Rep K as H v d) (s : StoR K as H μ) (e : asL d μ = some xs) : ∃ a vs, v = .ref a ∧ H a = some (.lst vs) ∧ Reps K as H vs xs := by
  cases r with
  | @lst a vs ds t n rs =>
    have e' : ds = xs := Option.some.inj e
    subst e'
    exact ⟨a, vs, rfl, t, rs⟩
  | @h k a ea =>
    simp only [asL] at e
    split at e
    · rename_i ys em
      have e' : ys = xs := Option.some.inj e
      subst e'
      obtain ⟨vs, hv, rs⟩ := s.at_ k a _ ea em
      exact ⟨a, vs, rfl, hv, rs⟩
    · cases e
  | _ => exact nomatch (show none = some xs from e)
/-- the items of anything like a list -/
def asSL : D → List Cell → Option (List D)
  | .rl xs, _ => some xs
  | d, μ => asL d μ
theorem asSL_ok {K : PySem.W.Frag} {as : Ar} {H : Hp} {v : V} {d : D} {μ : List Cell} {xs : List D} (r : Rep K as H v d) (s : StoR K as H μ) (e : asSL d μ = some xs) : ∃ a vs, v = .ref a ∧ SqL K H a vs ∧ Reps K as H vs xs := by
  cases r with
  | @rl a vs ds t rs =>
    have e' : ds = xs := Option.some.inj e
    subst e'
    exact ⟨a, vs, rfl, t.sq, rs⟩
  | @lst a vs ds t n rs =>
    obtain ⟨b, ws, q1, q2, q3⟩ := asL_ok (Rep.lst t n rs) s e
    exact ⟨b, ws, q1, SqL.of q2, q3⟩
  | @h k a ea =>
    obtain ⟨b, ws, q1, q2, q3⟩ := asL_ok (Rep.h (H := H) (K := K) ea) s e
    exact ⟨b, ws, q1, SqL.of q2, q3⟩
  | _ => exact nomatch (show none = some xs from e)

def dAdd : D → D → List Cell → Option D
  | .int i, .int j, _ => some (.int (i + j))
  | .str x, .str y, _ => if x.length + y.length ≤ sizeLine then some (.str (x ++ y)) else none
  | .tup xs, .tup ys, _ => if xs ≠ [] ∧ xs.length + ys.length ≤ sizeLine then some (.tup (xs ++ ys)) else none
  | x, y, μ => match asL x μ, asL y μ with
    | some xs, some ys => if xs.length + ys.length ≤ sizeLine then some (.lst (xs ++ ys)) else none
    | _, _ => none
theorem Reps.nil_iff {K : PySem.W.Frag} {as : Ar} {H : Hp} {vs : List V} {ds : List D} (r : Reps K as H vs ds) : vs = [] ↔ ds = [] := by
  cases r with
  | nil => simp
  | cons _ _ => simp
theorem add_lists {pins : List (Addr × Obj)} {s : Shared} {σ : St} {H : Hp} {x y : V} {v u : Value} {Q : VK} {as : Ar} {d e : D} {μ : List Cell} {z : D} (I : Inv X pins σ H s) (rx : RelV x v) (ry : RelV y u)
    (rd : Rep X.K as H x d) (re : Rep X.K as H y e) (sto : StoR X.K as H μ) (ez : (match asL d μ, asL e μ with
      | some xs, some ys => if xs.length + ys.length ≤ sizeLine then some (D.lst (xs ++ ys)) else none
      | _, _ => none) = some z) (q : ∀ v H', Ext as H as H' → Rep X.K as H' v z → StoR X.K as H' μ → Q v H') : wpAny (model X.prog X.w) X.A (binaryOp .Add v u) (EP X pins σ Q) X.xe s := by
  split at ez
  · rename_i xs ys e1 e2
    split at ez
    · rename_i hz
      have ez' : D.lst (xs ++ ys) = z := Option.some.inj ez
      subst ez'
      obtain ⟨a, vs, rfl, ha, r1⟩ := asL_ok rd sto e1
      obtain ⟨b, ws, rfl, hb, r2⟩ := asL_ok re sto e2
      exact op_cat pins s σ H _ _ v u Q I rx ry ⟨a, b, vs, ws, rfl, rfl, ha, hb, by rw [r1.length, r2.length]; exact hz, fun p hp => q _ _ (Ext.new hp (sto.out hp)) (.newL sto hp (r1.append r2)) (sto.new hp)⟩
    · cases ez
  · cases ez
theorem op_addD : OpR X (binaryOp .Add) (rD X.K dAdd) := by
  intro pins s σ H x y v u Q I rx ry h
  obtain ⟨as, d, e, μ, z, rd, re, sto, ez, q⟩ := h
  unfold dAdd at ez
  split at ez
  · cases rd; cases re
    have ez' := Option.some.inj ez
    subst ez'
    exact op_add pins s σ H _ _ v u Q I rx ry ⟨_, _, rfl, rfl, q _ H .refl (.int _) sto⟩
  · cases rd; cases re
    split at ez
    · rename_i hz
      have ez' := Option.some.inj ez
      subst ez'
      exact op_add_str pins s σ H _ _ v u Q I rx ry ⟨_, _, rfl, rfl, hz, q _ H .refl (.str _) sto⟩
    · cases ez
  · cases rd with
    | @tup a vs ds t1 r1 =>
    cases re with
    | @tup b ws es t2 r2 =>
    split at ez
    · rename_i hz
      have ez' := Option.some.inj ez
      subst ez'
      refine op_catT pins s σ H _ _ v u Q I rx ry ⟨a, b, vs, ws, rfl, rfl, t1.sq, t2.sq, fun c => hz.1 (r1.nil_iff.mp c), by rw [r1.length, r2.length]; exact hz.2, fun c => ?_, fun c p hp => ?_⟩
      · have c' := r2.nil_iff.mp c
        subst c'
        rw [List.append_nil] at q
        exact q _ H .refl (.tup t1 r1) sto
      · exact q _ _ (Ext.new hp (sto.out hp)) (.newT sto hp (r1.append r2)) (sto.new hp)
    · cases ez
  · exact add_lists I rx ry rd re sto ez q

/-- operators of ints alone -/
def dII (g : Int → Int → Option D) : D → D → List Cell → Option D
  | .int i, .int j, _ => g i j
  | _, _, _ => none
theorem opD_ii {f : Value → Value → Sem Value} {g : Int → Int → Option D} (h : ∀ (pins : List (Addr × Obj)) (s : Shared) (σ : St) (H : Hp) (i j : Int) (v u : Value) (Q : VK) (z : D), Inv X pins σ H s → RelV (.int i) v → RelV (.int j) u → g i j = some z →
    (∀ w, (∀ as, Rep X.K as H w z) → Q w H) → wpAny (model X.prog X.w) X.A (f v u) (EP X pins σ Q) X.xe s) : OpR X f (rD X.K (dII g)) := by
  intro pins s σ H x y v u Q I rx ry ⟨as, d, e, μ, z, rd, re, sto, ez, q⟩
  unfold dII at ez
  split at ez
  · cases rd; cases re
    exact h pins s σ H _ _ v u Q z I rx ry ez fun w r => q w H .refl (r as) sto
  · cases ez
def gSub (i j : Int) : Option D := some (.int (i - j))
def gMod (i j : Int) : Option D := if j ≠ 0 then some (.int (i.fmod j)) else none
def gFdiv (i j : Int) : Option D := if j ≠ 0 ∧ j.natAbs < 1073741824 then some (.int (i.fdiv j)) else none
def gPow (i j : Int) : Option D := if 0 ≤ j ∧ (Builtin.Int.intBits i : Int) * j ≤ 2 ^ 27 then some (.int (i ^ j.toNat)) else none
theorem op_subD : OpR X (binaryOp .Sub) (rD X.K (dII gSub)) := opD_ii fun pins s σ H i j v u Q z I rx ry e q =>
  op_sub pins s σ H _ _ v u Q I rx ry ⟨i, j, rfl, rfl, q _ fun _ => by cases Option.some.inj e; exact .int _⟩
theorem op_modD : OpR X (binaryOp .Mod) (rD X.K (dII gMod)) := opD_ii fun pins s σ H i j v u Q z I rx ry e q => by
  unfold gMod at e
  split at e
  · rename_i hj
    exact op_modN pins s σ H _ _ v u Q I rx ry ⟨i, j, rfl, rfl, hj, q _ fun _ => by cases Option.some.inj e; exact .int _⟩
  · cases e
theorem op_fdivD : OpR X (binaryOp .FloorDiv) (rD X.K (dII gFdiv)) := opD_ii fun pins s σ H i j v u Q z I rx ry e q => by
  unfold gFdiv at e
  split at e
  · rename_i hj
    exact op_fdivN pins s σ H _ _ v u Q I rx ry ⟨i, j, rfl, rfl, hj, q _ fun _ => by cases Option.some.inj e; exact .int _⟩
  · cases e
theorem op_powD : OpR X (binaryOp .Pow) (rD X.K (dII gPow)) := opD_ii fun pins s σ H i j v u Q z I rx ry e q => by
  unfold gPow at e
  split at e
  · rename_i hj
    obtain ⟨t, ev⟩ := (show ∃ t, v = Value.int i t from rx)
    obtain ⟨t', eu⟩ := (show ∃ t, u = Value.int j t from ry)
    subst ev eu
    exact PyProof.Rows.pow_int hj.1 hj.2 ⟨.int _, H, I.tok _, ⟨_, rfl⟩, q _ fun _ => by cases Option.some.inj e; exact .int _⟩
  · cases e
/-- a product of ints, a list so many times -/
def dMul : D → D → List Cell → Option D
  | .int i, .int j, _ => if (-(2 ^ 64) < i ∧ i < 2 ^ 64) ∨ (-(2 ^ 64) < j ∧ j < 2 ^ 64) then some (.int (i * j)) else none
  | x, .int k, μ => match asL x μ with
    | some xs => if -(2 ^ 63) ≤ k ∧ k < 2 ^ 63 ∧ xs.length * k.toNat ≤ sizeLine then some (.lst (List.replicate k.toNat xs).flatten) else none
    | none => none
  | _, _, _ => none
theorem Reps.reps {K : PySem.W.Frag} {as : Ar} {H : Hp} {vs : List V} {ds : List D} (r : Reps K as H vs ds) : ∀ n : Nat, Reps K as H (List.replicate n vs).flatten (List.replicate n ds).flatten
  | 0 => .nil
  | n + 1 => by
    rw [List.replicate_succ, List.replicate_succ, List.flatten_cons, List.flatten_cons]
    exact r.append (r.reps n)
theorem op_mulD : OpR X (binaryOp .Mult) (rD X.K dMul) := by
  intro pins s σ H x y v u Q I rx ry ⟨as, d, e, μ, z, rd, re, sto, ez, q⟩
  unfold dMul at ez
  split at ez
  · cases rd; cases re
    split at ez
    · rename_i hz
      have ez' := Option.some.inj ez
      subst ez'
      exact op_mul pins s σ H _ _ v u Q I rx ry ⟨_, _, rfl, rfl, hz, q _ H .refl (.int _) sto⟩
    · cases ez
  · cases re
    split at ez
    · rename_i xs ex
      split at ez
      · rename_i hz
        have ez' := Option.some.inj ez
        subst ez'
        obtain ⟨a, vs, rfl, ha, r1⟩ := asL_ok rd sto ex
        exact op_rep pins s σ H _ _ v u Q I rx ry ⟨a, _, vs, rfl, rfl, ha, hz.1, hz.2.1, by rw [r1.length]; exact hz.2.2, fun p hp => q _ _ (Ext.new hp (sto.out hp)) (.newL sto hp (r1.reps _)) (sto.new hp)⟩
      · cases ez
    · cases ez
  · cases ez
def dNeg : D → List Cell → Option D
  | .int i, _ => some (.int (-i))
  | _, _ => none
theorem un_negD : UnR X (unaryOp .USub) (rU1 X.K dNeg) := by
  intro pins s σ H x v Q I rx ⟨as, d, μ, z, rd, sto, ez, q⟩
  unfold dNeg at ez
  split at ez
  · cases rd
    have ez' := Option.some.inj ez
    subst ez'
    exact un_neg pins s σ H _ v Q I rx ⟨_, rfl, q _ H .refl (.int _) sto⟩
  · cases ez

/-! ### comparisons -/
/-- of ints, of texts -/
def dOrd (gi : Int → Int → Bool) (gs : Str → Str → Bool) : D → D → List Cell → Option D
  | .int i, .int j, _ => some (.bl (gi i j))
  | .str x, .str y, _ => some (.bl (gs x y))
  | _, _, _ => none
theorem dOrd_bl {gi : Int → Int → Bool} {gs : Str → Str → Bool} : ∀ x y μ z, dOrd gi gs x y μ = some z → ∃ k, z = .bl k := fun x y μ z e => by
  unfold dOrd at e
  split at e
  · exact ⟨_, (Option.some.inj e).symm⟩
  · exact ⟨_, (Option.some.inj e).symm⟩
  · cases e
theorem op_ordD {op : CmpOp} {gi : Int → Int → Bool} {gs : Str → Str → Bool} (h1 : OpR X (compareOp op) (rI0 fun i j => .bl (gi i j))) (h2 : OpR X (compareOp op) (fun x y H Q => ∃ i j, x = .str i ∧ y = .str j ∧ Q (.bl (gs i j)) H)) :
    OpR X (compareOp op) (rD X.K (dOrd gi gs)) := by
  intro pins s σ H x y v u Q I rx ry ⟨as, d, e, μ, z, rd, re, sto, ez, q⟩
  unfold dOrd at ez
  split at ez
  · cases rd; cases re
    have ez' := Option.some.inj ez
    subst ez'
    exact h1 pins s σ H _ _ v u Q I rx ry ⟨_, _, rfl, rfl, q _ H .refl (.bl _) sto⟩
  · cases rd; cases re
    have ez' := Option.some.inj ez
    subst ez'
    exact h2 pins s σ H _ _ v u Q I rx ry ⟨_, _, rfl, rfl, q _ H .refl (.bl _) sto⟩
  · cases ez
def sLt (x y : Str) : Bool := decide (x.cps.toList < y.cps.toList)
abbrev dLt := dOrd (fun i j => decide (i < j)) sLt
abbrev dLe := dOrd (fun i j => decide (i ≤ j)) fun x y => !sLt y x
abbrev dGt := dOrd (fun i j => decide (j < i)) fun x y => sLt y x
abbrev dGe := dOrd (fun i j => decide (j ≤ i)) fun x y => !sLt x y
theorem op_ltD : OpR X (compareOp .Lt) (rD X.K dLt) := op_ordD op_lt op_lt_str
theorem op_leD : OpR X (compareOp .LtE) (rD X.K dLe) := op_ordD op_le op_le_str
theorem op_gtD : OpR X (compareOp .Gt) (rD X.K dGt) := op_ordD op_gt op_gt_str
theorem op_geD : OpR X (compareOp .GtE) (rD X.K dGe) := op_ordD op_ge op_ge_str
/-- is: None, types -/
def isB : D → D → List Cell → Option Bool
  | .non, .non, _ => some true
  | .h _, .non, _ => some false
  | _, .non, _ => some false
  | .ty a, .ty b, _ => some (decide (a = b))
  | _, _, _ => none
def dIs : D → D → List Cell → Option D := fun x y μ => (isB x y μ).map .bl
def dIsNot : D → D → List Cell → Option D := fun x y μ => (isB x y μ).map fun k => .bl (!k)
theorem map_bl {o : Option Bool} {f : Bool → Bool} {z : D} (e : o.map (fun k => D.bl (f k)) = some z) : ∃ k, z = .bl k := by
  obtain ⟨k, _, rfl⟩ := Option.map_eq_some_iff.mp e
  exact ⟨_, rfl⟩
theorem dIs_bl : ∀ x y μ z, dIs x y μ = some z → ∃ k, z = .bl k := fun _ _ _ _ e => map_bl (f := fun k => k) e
theorem dIsNot_bl : ∀ x y μ z, dIsNot x y μ = some z → ∃ k, z = .bl k := fun _ _ _ _ e => map_bl e
theorem isB_ok {K : PySem.W.Frag} {as : Ar} {H : Hp} {x y : V} {d e : D} {μ : List Cell} {k : Bool} (rd : Rep K as H x d) (re : Rep K as H y e) (ez : isB d e μ = some k) :
    (y = .non ∧ k = decide (x = .non)) ∨ ∃ a b, x = .ty a ∧ y = .ty b ∧ k = decide (a = b) := by
  cases re with
  | non =>
    refine .inl ⟨rfl, ?_⟩
    cases rd <;> first | (simp [isB] at ez; simp [← ez]; done) | (unfold isB at ez; simp at ez; simp [ez])
  | ty n =>
    cases rd with
    | ty m => exact .inr ⟨m, n, rfl, rfl, (Option.some.inj ez).symm⟩
    | _ => exact nomatch (show none = some k from ez)
  | _ =>
    cases rd <;> exact nomatch (show none = some k from ez)
theorem op_isD : OpR X (compareOp .Is) (rD X.K dIs) := by
  intro pins s σ H x y v u Q I rx ry ⟨as, d, e, μ, z, rd, re, sto, ez, q⟩
  obtain ⟨k, ek, rfl⟩ := Option.map_eq_some_iff.mp ez
  rcases isB_ok rd re ek with ⟨rfl, rfl⟩ | ⟨a, b, rfl, rfl, rfl⟩
  · exact op_isN pins s σ H _ _ v u Q I rx ry ⟨rfl, q _ H .refl (.bl _) sto⟩
  · exact op_isTyB pins s σ H _ _ v u Q I rx ry ⟨a, b, rfl, rfl, q _ H .refl (.bl _) sto⟩
theorem op_isNotD : OpR X (compareOp .IsNot) (rD X.K dIsNot) := by
  intro pins s σ H x y v u Q I rx ry ⟨as, d, e, μ, z, rd, re, sto, ez, q⟩
  obtain ⟨k, ek, rfl⟩ := Option.map_eq_some_iff.mp ez
  rcases isB_ok rd re ek with ⟨rfl, rfl⟩ | ⟨a, b, rfl, rfl, rfl⟩
  · exact op_notN pins s σ H _ _ v u Q I rx ry ⟨rfl, q _ H .refl (.bl _) sto⟩
  · exact op_notTyB pins s σ H _ _ v u Q I rx ry (show ∃ m n, V.ty a = .ty m ∧ V.ty b = .ty n ∧ Q (.bl (!decide (m = n))) H from ⟨a, b, rfl, rfl, q _ H .refl (.bl _) sto⟩)

/-! ### == of data without dicts -/
mutual
def toP : D → List Cell → Option PyData
  | .non, _ => some .none
  | .bl b, _ => some (.bool b)
  | .int i, _ => some (.int i)
  | .str s, _ => some (.str s)
  | .lst xs, μ | .rl xs, μ => (toPs xs μ).map .list
  | .tup xs, μ => (toPs xs μ).map .tuple
  | .h _, _ | .ty _, _ | .dct _, _ | .exc _, _ | .exf _ _ _, _ | .cls _, _ => none
def toPs : List D → List Cell → Option (List PyData)
  | [], _ => some []
  | d :: ds, μ => match toP d μ, toPs ds μ with
    | some p, some ps => some (p :: ps)
    | _, _ => none
end
mutual
theorem toP_ok {K : PySem.W.Frag} {as : Ar} {H : Hp} {μ : List Cell} : ∀ {v : V} {d : D} {p : PyData}, Rep K as H v d → toP d μ = some p → Dp K H v p
  | _, _, _, .non, e => by simp only [toP] at e; cases e; exact .non
  | _, _, _, .bl b, e => by simp only [toP] at e; cases e; exact .bl b
  | _, _, _, .int i, e => by simp only [toP] at e; cases e; exact .int i
  | _, _, _, .str s, e => by simp only [toP] at e; cases e; exact .str s
  | _, _, _, .ty n, e => by simp only [toP] at e; cases e
  | _, _, _, .h _, e => by simp only [toP] at e; cases e
  | _, _, _, .dct _ _ _ _, e => by simp only [toP] at e; cases e
  | _, _, _, .exc _ _ _, e => by simp only [toP] at e; cases e
  | _, _, _, .exf _ _ _ _ _ _, e => by simp only [toP] at e; cases e
  | _, _, _, .cls _, e => by simp only [toP] at e; cases e
  | _, _, _, .lst t n r, e => by
    simp only [toP] at e
    obtain ⟨ps, e1, rfl⟩ := Option.map_eq_some_iff.mp e
    exact .lst (SqL.of t) (toPs_ok r e1)
  | _, _, _, .rl t r, e => by
    simp only [toP] at e
    obtain ⟨ps, e1, rfl⟩ := Option.map_eq_some_iff.mp e
    exact .lst t.sq (toPs_ok r e1)
  | _, _, _, .tup t r, e => by
    simp only [toP] at e
    obtain ⟨ps, e1, rfl⟩ := Option.map_eq_some_iff.mp e
    exact .tup t.sq (toPs_ok r e1)
theorem toPs_ok {K : PySem.W.Frag} {as : Ar} {H : Hp} {μ : List Cell} : ∀ {vs : List V} {ds : List D} {ps : List PyData}, Reps K as H vs ds → toPs ds μ = some ps → DpAll K H vs ps
  | _, _, _, .nil, e => by simp only [toPs] at e; cases e; exact .nil
  | _, _, _, .cons h t, e => by
    simp only [toPs] at e
    split at e
    · rename_i p ps e1 e2
      cases e
      exact .cons (toP_ok h e1) (toPs_ok t e2)
    · cases e
end
/-- .. a cell's list, too -/
def toQ : D → List Cell → Option PyData
  | .h k, μ => match μ[k]? with
    | some (.lst xs) => (toPs xs μ).map .list
    | _ => none
  | x, μ => toP x μ
theorem toQ_ok {K : PySem.W.Frag} {as : Ar} {H : Hp} {μ : List Cell} {v : V} {d : D} {p : PyData} (r : Rep K as H v d) (s : StoR K as H μ) (e : toQ d μ = some p) : Dp K H v p := by
  unfold toQ at e
  split at e
  · split at e
    · rename_i xs ex
      obtain ⟨ps, e1, rfl⟩ := Option.map_eq_some_iff.mp e
      cases r with
      | @h _ a ea =>
        obtain ⟨vs, hv, rs⟩ := s.at_ _ a _ ea ex
        exact .lst (SqL.of hv) (toPs_ok rs e1)
    · cases e
  · exact toP_ok r e
def eqP (x y : D) (μ : List Cell) : Option Bool := match toQ x μ, toQ y μ with
  | some p, some q => if SeqAt.shaped p = true ∧ SeqAt.shaped q = true then some (PyData.eqv p q) else none
  | _, _ => none
def eqB (x y : D) (μ : List Cell) : Option Bool := match x, y with
  | .str a, .str b => some (decide (a = b))
  | x, y => eqP x y μ
def dEq : D → D → List Cell → Option D := fun x y μ => (eqB x y μ).map .bl
def dNe : D → D → List Cell → Option D := fun x y μ => (eqB x y μ).map fun k => .bl (!k)
theorem dEq_bl : ∀ x y μ z, dEq x y μ = some z → ∃ k, z = .bl k := fun _ _ _ _ e => map_bl (f := fun k => k) e
theorem dNe_bl : ∀ x y μ z, dNe x y μ = some z → ∃ k, z = .bl k := fun _ _ _ _ e => map_bl e
theorem op_eqDD (hu : X.A.units + 64 < cLine) : OpR X (compareOp .Eq) (rD X.K dEq) := by
  intro pins s σ H x y v u Q I rx ry ⟨as, d, e, μ, z, rd, re, sto, ez, q⟩
  obtain ⟨k, ek, rfl⟩ := Option.map_eq_some_iff.mp ez
  unfold eqB at ek
  split at ek
  · cases Option.some.inj ek
    cases rd; cases re
    refine op_eq pins s σ H _ _ v u Q I rx ry ⟨rfl, ?_⟩
    have z := q (.bl _) H .refl (.bl _) sto
    simpa only [V.str.injEq] using z
  unfold eqP at ek
  split at ek
  · rename_i p r e1 e2
    split at ek
    · rename_i hs
      have ek' := Option.some.inj ek
      subst ek'
      exact op_eqD hu pins s σ H _ _ v u Q I rx ry ⟨p, r, toQ_ok rd sto e1, toQ_ok re sto e2, hs.1, hs.2, q _ H .refl (.bl _) sto⟩
    · cases ek
  · cases ek
theorem op_neDD (hu : X.A.units + 64 < cLine) : OpR X (compareOp .NotEq) (rD X.K dNe) := by
  intro pins s σ H x y v u Q I rx ry ⟨as, d, e, μ, z, rd, re, sto, ez, q⟩
  obtain ⟨k, ek, rfl⟩ := Option.map_eq_some_iff.mp ez
  unfold eqB at ek
  split at ek
  · cases Option.some.inj ek
    cases rd; cases re
    refine op_ne pins s σ H _ _ v u Q I rx ry ⟨rfl, ?_⟩
    have z := q (.bl _) H .refl (.bl _) sto
    simpa only [V.str.injEq] using z
  unfold eqP at ek
  split at ek
  · rename_i p r e1 e2
    split at ek
    · rename_i hs
      have ek' := Option.some.inj ek
      subst ek'
      exact op_neD hu pins s σ H _ _ v u Q I rx ry ⟨p, r, toQ_ok rd sto e1, toQ_ok re sto e2, hs.1, hs.2, q _ H .refl (.bl _) sto⟩
    · cases ek
  · cases ek

/-! ### xs[i] -/
def dIx : D → D → List Cell → Option D
  | .str z, .int i, _ => if z.length ≤ sizeLine then (atI z.cps.toList i).map fun c => .str ⟨#[c]⟩ else none
  | .tup xs, .int i, _ => atI xs i
  | x, .int i, μ => match asSL x μ with
    | some xs => atI xs i
    | none => none
  | _, _, _ => none
theorem Reps.atI {K : PySem.W.Frag} {as : Ar} {H : Hp} {vs : List V} {ds : List D} {i : Int} {d : D} (r : Reps K as H vs ds) (e : atI ds i = some d) : ∃ v, L2.atI vs i = some v ∧ Rep K as H v d := by
  unfold L2.atI at e ⊢
  rw [r.length]
  obtain ⟨j, e1, e2⟩ := Option.bind_eq_some_iff.mp e
  obtain ⟨v, q1, q2⟩ := r.get e2
  exact ⟨v, by rw [e1]; exact q1, q2⟩
theorem ix_D : IxR X (rD X.K dIx) := by
  intro value slice pins s σ H x y v u Q I rx ry ⟨as, d, e, μ, z, rd, re, sto, ez, q⟩ hs
  unfold dIx at ez
  split at ez
  · cases rd; cases re
    split at ez
    · rename_i hz
      obtain ⟨c, ec, rfl⟩ := Option.map_eq_some_iff.mp ez
      exact ix_str value slice pins s σ H _ _ v u Q I rx ry ⟨_, _, c, rfl, rfl, hz, ec, q _ H .refl (.str _) sto⟩ hs
    · cases ez
  · cases re
    cases rd with
    | @tup a vs ds t r =>
      obtain ⟨w, e1, r1⟩ := r.atI ez
      exact ix_tup value slice pins s σ H _ _ v u Q I rx ry ⟨a, vs, _, w, rfl, rfl, t.sq, e1, q _ H .refl r1 sto⟩ hs
  · cases re
    split at ez
    · rename_i xs ex
      obtain ⟨a, vs, rfl, hq, r⟩ := asSL_ok rd sto ex
      obtain ⟨w, e1, r1⟩ := r.atI ez
      exact ix_list value slice pins s σ H _ _ v u Q I rx ry ⟨a, vs, _, w, rfl, rfl, hq, e1, q _ H .refl r1 sto⟩ hs
    · cases ez
  · cases ez

/-! ### built-in functions -/
def g1 (g : D → List Cell → Option D) : List D → List Cell → Option D
  | [x], μ => g x μ
  | _, _ => none
def g2 (g : D → D → List Cell → Option D) : List D → List Cell → Option D
  | [x, y], μ => g x y μ
  | _, _ => none
theorem call1 {f : Value} {g : D → List Cell → Option D} (h : ∀ (pins : List (Addr × Obj)) (s : Shared) (σ : St) (H : Hp) (x : V) (us : List Value) (Q : VK) (as : Ar) (d : D) (μ : List Cell) (z : D), Inv X pins σ H s → Vals [x] us → Rep X.K as H x d → StoR X.K as H μ → g d μ = some z →
    (∀ v H', Ext as H as H' → Rep X.K as H' v z → StoR X.K as H' μ → Q v H') → wpAny (model X.prog X.w) X.A (call f us) (EP X pins σ Q) X.xe s) : CallR X f (rCD X.K (g1 g)) := by
  intro pins s σ H xs us Q I r ⟨as, ds, μ, z, rd, sto, ez, q⟩
  unfold g1 at ez
  split at ez
  · cases rd with
    | cons r1 rt =>
    cases rt
    exact h pins s σ H _ us Q as _ μ z I r r1 sto ez q
  · cases ez
theorem call2 {f : Value} {g : D → D → List Cell → Option D} (h : ∀ (pins : List (Addr × Obj)) (s : Shared) (σ : St) (H : Hp) (x y : V) (us : List Value) (Q : VK) (as : Ar) (d e : D) (μ : List Cell) (z : D), Inv X pins σ H s → Vals [x, y] us → Rep X.K as H x d → Rep X.K as H y e → StoR X.K as H μ → g d e μ = some z →
    (∀ v H', Ext as H as H' → Rep X.K as H' v z → StoR X.K as H' μ → Q v H') → wpAny (model X.prog X.w) X.A (call f us) (EP X pins σ Q) X.xe s) : CallR X f (rCD X.K (g2 g)) := by
  intro pins s σ H xs us Q I r ⟨as, ds, μ, z, rd, sto, ez, q⟩
  unfold g2 at ez
  split at ez
  · cases rd with
    | cons r1 rt =>
    cases rt with
    | cons r2 rt =>
    cases rt
    exact h pins s σ H _ _ us Q as _ _ μ z I r r1 r2 sto ez q
  · cases ez
def dAbs : D → List Cell → Option D
  | .int i, _ => some (.int (if i < 0 then -i else i))
  | _, _ => none
theorem call_absD : CallR X (.builtin "abs") (rCD X.K (g1 dAbs)) := call1 fun pins s σ H x us Q as d μ z I r rd sto ez q => by
  unfold dAbs at ez
  split at ez
  · cases rd
    cases Option.some.inj ez
    exact call_abs pins s σ H _ us Q I r ⟨_, rfl, q _ H .refl (.int _) sto⟩
  · cases ez
def dInt1 : D → List Cell → Option D
  | .int i, _ => some (.int i)
  | .bl k, _ => some (.int (if k then 1 else 0))
  | _, _ => none
theorem call_intD : CallR X (.type "int") (rCD X.K (g1 dInt1)) := call1 fun pins s σ H x us Q as d μ z I r rd sto ez q => by
  unfold dInt1 at ez
  split at ez
  · cases rd
    cases Option.some.inj ez
    exact call_int1 pins s σ H _ us Q I r (.inl ⟨_, rfl, q _ H .refl (.int _) sto⟩)
  · cases rd
    cases Option.some.inj ez
    exact call_int1 pins s σ H _ us Q I r (.inr ⟨_, rfl, q _ H .refl (.int _) sto⟩)
  · cases ez
def dMax2 : D → D → List Cell → Option D := dII fun i j => some (.int (if j > i then j else i))
def dMin2 : D → D → List Cell → Option D := dII fun i j => some (.int (if j < i then j else i))
theorem call_max2D (hc : X.calm = true) : CallR X (.builtin "max") (rCD X.K (g2 dMax2)) := call2 fun pins s σ H x y us Q as d e μ z I r rd re sto ez q => by
  unfold dMax2 dII at ez
  split at ez
  · cases rd; cases re
    cases Option.some.inj ez
    exact call_max2 hc pins s σ H _ us Q I r ⟨_, _, rfl, q _ H .refl (.int _) sto⟩
  · cases ez
theorem call_min2D (hc : X.calm = true) : CallR X (.builtin "min") (rCD X.K (g2 dMin2)) := call2 fun pins s σ H x y us Q as d e μ z I r rd re sto ez q => by
  unfold dMin2 dII at ez
  split at ez
  · cases rd; cases re
    cases Option.some.inj ez
    exact call_min2 hc pins s σ H _ us Q I r ⟨_, _, rfl, q _ H .refl (.int _) sto⟩
  · cases ez
def dStr1 : D → List Cell → Option D
  | .int i, _ => if i.natAbs.log2 < 1920 then some (.str (toString i)) else none
  | _, _ => none
theorem call_strD : CallR X (.type "str") (rCD X.K (g1 dStr1)) := call1 fun pins s σ H x us Q as d μ z I r rd sto ez q => by
  unfold dStr1 at ez
  split at ez
  · cases rd
    split at ez
    · rename_i hz
      cases Option.some.inj ez
      exact call_str_int pins s σ H _ us Q I r ⟨_, rfl, hz, q _ H .refl (.str _) sto⟩
    · cases ez
  · cases ez
def dLen : D → List Cell → Option D
  | .str z, _ => if z.length ≤ sizeLine then some (.int z.length) else none
  | .tup xs, _ => some (.int xs.length)
  | x, μ => (asSL x μ).map fun xs => .int xs.length
theorem call_lenD : CallR X (.builtin "len") (rCD X.K (g1 dLen)) := call1 fun pins s σ H x us Q as d μ z I r rd sto ez q => by
  unfold dLen at ez
  split at ez
  · cases rd
    split at ez
    · rename_i hz
      cases Option.some.inj ez
      exact call_len_str pins s σ H _ us Q I r ⟨_, rfl, hz, q _ H .refl (.int _) sto⟩
    · cases ez
  · cases rd with
    | @tup a vs ds t rs =>
      cases Option.some.inj ez
      refine call_len_seq pins s σ H _ us Q I r ⟨a, vs, rfl, .inr t.sq, ?_⟩
      rw [rs.length]
      exact q _ H .refl (.int _) sto
  · obtain ⟨xs, ex, rfl⟩ := Option.map_eq_some_iff.mp ez
    obtain ⟨a, vs, rfl, hq, rs⟩ := asSL_ok rd sto ex
    refine call_len_seq pins s σ H _ us Q I r ⟨a, vs, rfl, .inl hq, ?_⟩
    rw [rs.length]
    exact q _ H .refl (.int _) sto
/-- the built-in class of data -/
def tyOf : D → List Cell → Option String
  | .non, _ => some "NoneType" | .bl _, _ => some "bool" | .int _, _ => some "int" | .str _, _ => some "str"
  | .lst _, _ | .rl _, _ => some "list" | .tup _, _ => some "tuple" | .dct _, _ => some "dict"
  | .h k, μ => match μ[k]? with
    | some (.lst _) => some "list"
    | _ => none
  | .ty _, _ | .exc _, _ | .exf _ _ _, _ | .cls _, _ => none
theorem tyOf_ok {K : PySem.W.Frag} {as : Ar} {H : Hp} {v : V} {d : D} {μ : List Cell} {T : String} (r : Rep K as H v d) (s : StoR K as H μ) (e : tyOf d μ = some T) : TyB K H v T ∧ TyX K H v (.type T) := by
  cases r with
  | non => cases Option.some.inj e; exact ⟨.non, .base .non⟩
  | bl b => cases Option.some.inj e; exact ⟨.bl b, .base (.bl b)⟩
  | int i => cases Option.some.inj e; exact ⟨.int i, .base (.int i)⟩
  | str y => cases Option.some.inj e; exact ⟨.str y, .base (.str y)⟩
  | ty n => cases e
  | exc _ _ _ => cases e
  | exf _ _ _ _ _ _ => cases e
  | cls _ => cases e
  | @lst a vs ds t n rs => cases Option.some.inj e; exact ⟨.lst (SqL.of t), .base (.lst t)⟩
  | @rl a vs ds t rs =>
    cases Option.some.inj e
    refine ⟨.lst t.sq, ?_⟩
    rcases t with ⟨t, n⟩ | t
    · rcases t with t | ⟨o, t⟩
      · exact .base (.lst t)
      · exact .base (.frz t)
    · rcases t (fun _ => none) with t | ⟨o, its, n, hk, hc, _⟩
      · rcases t with t | ⟨o, t⟩ <;> cases t
      · exact .kList hk hc
  | @tup a vs ds t rs =>
    cases Option.some.inj e
    refine ⟨.tup t.sq, ?_⟩
    rcases t with ⟨t, n⟩ | t
    · rcases t with t | ⟨o, t⟩
      · exact .base (.tup t)
      · exact .fTuple t
    · rcases t (fun _ => none) with t | ⟨o, its, n, hk, hc, _⟩
      · rcases t with t | ⟨o, t⟩ <;> cases t
      · exact .kTuple hk hc
  | @dct a kvs ds t n ek rs => cases Option.some.inj e; exact ⟨.dK t, .base (.dK t)⟩
  | @h k a ea =>
    simp only [tyOf] at e
    split at e
    · rename_i ys em
      cases Option.some.inj e
      obtain ⟨vs, hv, rs⟩ := s.at_ k a _ ea em
      exact ⟨.lst (SqL.of hv), .base (.lst hv)⟩
    · cases e
def dType : D → List Cell → Option D := fun d μ => (tyOf d μ).map .ty
theorem call_typeD : CallR X (.type "type") (rCD X.K (g1 dType)) := call1 fun pins s σ H x us Q as d μ z I r rd sto ez q => by
  obtain ⟨T, e, rfl⟩ := Option.map_eq_some_iff.mp ez
  exact call_type1 pins s σ H _ us Q I r ⟨x, T, rfl, (tyOf_ok rd sto e).1, q _ H .refl (.ty T) sto⟩
def dIsi : D → D → List Cell → Option D
  | d, .ty T, μ => match tyOf d μ with
    | some U => (kitB U T).map .bl
    | none => none
  | _, _, _ => none
theorem call_isiD : CallR X (.builtin "isinstance") (rCD X.K (g2 dIsi)) := call2 fun pins s σ H x y us Q as d e μ z I r rd re sto ez q => by
  unfold dIsi at ez
  split at ez
  · cases re
    split at ez
    · rename_i U eU
      obtain ⟨b, eb, rfl⟩ := Option.map_eq_some_iff.mp ez
      exact call_isi pins s σ H _ us Q I r ⟨x, _, _, _, b, rfl, .ty _, (tyOf_ok rd sto eU).2, kit_ty eb, q _ H .refl (.bl b) sto⟩
    · cases ez
  · cases ez
def reprB (b : Bool) : Str := if b then "True" else "False"
def dRepr0 : D → List Cell → Option D
  | .bl b, _ => some (.str (reprB b))
  | _, _ => none
theorem call_reprD0 : CallR X (.builtin "repr") (rCD X.K (g1 dRepr0)) := call1 fun pins s σ H x us Q as d μ z I r rd sto ez q => by
  unfold dRepr0 at ez
  split at ez
  · cases rd
    cases Option.some.inj ez
    obtain ⟨u, rfl, ru⟩ := Vals.one r
    cases ru
    exact PySem.P.repr_of_bool ⟨.str _, H, I.tok _, ⟨_, rfl⟩, q _ H .refl (.str _) sto⟩
  · cases ez

/-! ### methods of texts -/
variable {o a : Expr} {es : List Expr} {fa : EvE} {fs : EvA} {name : Str} {apos cpos : Pos}
/-- s.m() of a text -/
def dS0 (P : Str → Bool) (g : Str → D) : D → List Cell → Option D
  | .str z, _ => if P z then some (g z) else none
  | _, _ => none
theorem dS0_out {P : Str → Bool} {g : Str → D} {x z : D} {μ : List Cell} (e : dS0 P g x μ = some z) : ∃ y, x = .str y ∧ P y = true ∧ z = g y := by
  unfold dS0 at e
  split at e
  · split at e
    · rename_i hp
      exact ⟨_, rfl, hp, (Option.some.inj e).symm⟩
    · cases e
  · cases e
theorem fU_out {g : D → List Cell → Option D} {f : EvE} {S : Sg} {d : D} {μ' : List Cell} (e : fU g f S = some (d, μ')) : ∃ x, f S = some (x, μ') ∧ g x μ' = some d := by
  unfold fU at e
  split at e
  · rename_i x μ1 ea
    split at e
    · rename_i z ez
      have e' := Option.some.inj e
      injection e' with e1 e2
      subst e1 e2
      exact ⟨x, ea, ez⟩
    · cases e
  · cases e
theorem de_sm0 {id : String} {P : Str → Bool} {g : Str → D} (slot : Slot "str" name id) (ty : typeOf (.builtin id) = pure (.type "method_descriptor"))
    (rule : MtR X id (fun x xs H Q => ∃ z, x = .str z ∧ xs = [] ∧ P z = true ∧ ∀ v, (∀ as, Rep X.K as H v (g z)) → Q v H))
    (ho : PE X o (tF X.K fa)) (hbase : attributeBase o name X.env (eval o X.env) = eval o X.env := by rfl) (hline : (apos.endLine == cpos.line) = true := by rfl) :
    PE X (.Call (.Attribute o name apos) [] [] cpos) (tF X.K (fU (dS0 P g) fa)) := by
  refine (pe_m0 slot ty rule ho hbase hline).imp fun σ H Q ⟨as, S, d, μ', E, e, q⟩ => ?_
  obtain ⟨x, ea, ez⟩ := fU_out e
  obtain ⟨zz, rfl, hp, rfl⟩ := dS0_out ez
  exact ⟨as, S, _, μ', E, ea, fun v as1 H1 X1 r1 s1 => by
    cases r1
    exact ⟨⟨_, rfl⟩, zz, rfl, rfl, hp, fun w rw => q w as1 H1 X1 (rw as1) s1⟩⟩
end
end DL
namespace DL
open PySem L2
theorem pr_inj {α β : Type} {a c : α} {b d : β} (e : some (a, b) = some (c, d)) : a = c ∧ b = d := by
  injection e with e
  exact Prod.mk.inj e
section
variable {K : PySem.W.Frag} {as as' : Ar} {H H' : Hp} {σ : St} {S : Sg} {v : V} {d : D} {vs : List V} {ds : List D} {μ μ' : List Cell} {ρ : List (Option D)}
theorem EnvR.set {i : Nat} (h : EnvR K as H σ ρ) (r : Rep K as H v d) (hi : i < ρ.length) : EnvR K as H (σ.set i (some v)) (ρ.set i (some d)) := by
  refine ⟨by rw [List.length_set, List.length_set]; exact h.1, fun j e he => ?_⟩
  by_cases hj : i = j
  · subst hj
    rw [List.getElem?_set_self hi] at he
    cases he
    exact ⟨v, by rw [List.getElem?_set_self (by rw [h.1]; exact hi)], r⟩
  · rw [List.getElem?_set_ne hj] at he ⊢
    exact h.2 j e he
def wipeR (ρ : List (Option D)) : List Nat → List (Option D)
  | [] => ρ
  | v :: vs => (wipeR ρ vs).set v none
theorem wipeR_length : ∀ ws : List Nat, (wipeR ρ ws).length = ρ.length
  | [] => rfl
  | w :: ws => by unfold wipeR; rw [List.length_set, wipeR_length ws]
theorem EnvR.wipe (h : EnvR K as H σ ρ) : ∀ ws : List Nat, EnvR K as H (L2.wipe σ ws) (wipeR ρ ws)
  | [] => h
  | w :: ws => by
    have q := h.wipe ws
    unfold L2.wipe wipeR
    refine ⟨by rw [List.length_set, List.length_set]; exact q.1, fun j e he => ?_⟩
    by_cases hj : w = j
    · subst hj
      by_cases hw : w < (wipeR ρ ws).length
      · rw [List.getElem?_set_self hw] at he; cases he
      · rw [List.getElem?_eq_none (by rw [List.length_set]; omega)] at he; cases he
    · rw [List.getElem?_set_ne hj] at he ⊢
      exact q.2 j e he
theorem wipe_agree : ∀ {ws : List Nat} {σ τ : St}, σ.length = τ.length → (∀ j, j ∉ ws → σ[j]? = τ[j]?) → L2.wipe σ ws = L2.wipe τ ws := fun {ws σ τ} hl h => by
  refine List.ext_getElem? fun j => ?_
  have key : ∀ (ws : List Nat) (σ : St) (j : Nat), (L2.wipe σ ws)[j]? = if j ∈ ws ∧ j < σ.length then some none else σ[j]? := by
    intro ws
    induction ws with
    | nil => intro σ j; simp [L2.wipe]
    | cons w ws ih =>
      intro σ j
      unfold L2.wipe
      by_cases hj : w = j
      · subst hj
        by_cases hw : w < σ.length
        · rw [List.getElem?_set_self (by rw [wipe_length]; exact hw)]; simp [hw]
        · rw [List.getElem?_eq_none (by rw [List.length_set, wipe_length]; omega), if_neg (by omega), List.getElem?_eq_none (by omega)]
      · rw [List.getElem?_set_ne hj, ih]
        have e : (j ∈ w :: ws) ↔ j ∈ ws := by simp [Ne.symm hj]
        simp only [e]
  rw [key, key]
  by_cases hj : j ∈ ws
  · simp only [hj, true_and, hl]
    split
    · rfl
    · rw [List.getElem?_eq_none (by omega), List.getElem?_eq_none (by omega)]
  · simp only [hj, false_and, if_false]
    exact h j hj

/-! ### targets -/
abbrev Bd := D → Sg → Option Sg
abbrev Bds := List D → Sg → Option Sg
variable (K) in
def tG (b : Bd) (ix : List Nat) : TG := fun v σ H Q => ∃ as S d S', ER K as σ H S ∧ Rep K as H v d ∧ b d S = some S' ∧
  ∀ as' σ' H', Ext as H as' H' → ER K as' σ' H' S' → σ'.length = σ.length → (∀ j, j ∉ ix → σ'[j]? = σ[j]?) → Q σ' H'
variable (K) in
def tGs (b : Bds) (ix : List Nat) : TGs := fun vs σ H Q => ∃ as S ds S', ER K as σ H S ∧ Reps K as H vs ds ∧ b ds S = some S' ∧
  ∀ as' σ' H', Ext as H as' H' → ER K as' σ' H' S' → σ'.length = σ.length → (∀ j, j ∉ ix → σ'[j]? = σ[j]?) → Q σ' H'
end
theorem PG.imp {X : Cx} {e : Expr} {t t' : TG} (h : PG X e t) (q : ∀ v σ H Q, t' v σ H Q → t v σ H Q) : PG X e t' := ⟨fun pins s σ H v u Q I r z => h.run pins s σ H v u Q I r (q v σ H Q z)⟩
theorem PGs.imp {X : Cx} {e : List Expr} {t t' : TGs} (h : PGs X e t) (q : ∀ v σ H Q, t' v σ H Q → t v σ H Q) : PGs X e t' := ⟨fun pins s σ H v u Q I r z => h.run pins s σ H v u Q I r (q v σ H Q z)⟩
theorem PI.imp {X : Cx} {tg e : Expr} {t t' : TI} (h : PI X tg e t) (q : ∀ σ H R, t' σ H R → t σ H R) : PI X tg e t' := ⟨fun pins s σ H R I z => h.run pins s σ H R I (q σ H R z)⟩
theorem PI.or {X : Cx} {tg e : Expr} {t u : TI} (h1 : PI X tg e t) (h2 : PI X tg e u) : PI X tg e (fun σ H R => t σ H R ∨ u σ H R) := ⟨fun pins s σ H R I z => z.elim (h1.run pins s σ H R I) (h2.run pins s σ H R I)⟩
section
variable {X : Cx} {a e : Expr} {es : List Expr} {pos : Pos} {W : WX}
def bName (i : Nat) : Bd := fun d S => if i < S.ρ.length then some { S with ρ := S.ρ.set i (some d) } else none
theorem bName_out {i : Nat} {d : D} {S S' : Sg} (e : bName i d S = some S') : i < S.ρ.length ∧ S' = { S with ρ := S.ρ.set i (some d) } := by
  unfold bName at e
  split at e
  · rename_i h
    exact ⟨h, (Option.some.inj e).symm⟩
  · cases e
theorem gName_of {K : PySem.W.Frag} {i : Nat} : ∀ v σ H Q, tG K (bName i) [i] v σ H Q → gName i v σ H Q := fun v σ H Q ⟨as, S, d, S', E, r, e, q⟩ => by
  obtain ⟨hi, rfl⟩ := bName_out e
  refine q as _ H .refl ⟨E.env.set r hi, E.sto⟩ (List.length_set ..) fun j hj => ?_
  rw [List.getElem?_set_ne (by simpa using Ne.symm (by simpa using hj))]
theorem dg_name {i : Nat} {x : Str} (hN : X.N.Nodup) (hi : X.N[i]? = some x) (hx : Loc X.env.scope x) (hf : X.fn x = true ∨ X.env.scope.names.lookup x = some .local := by first | exact .inl rfl | exact .inr rfl | assumption) : PG X (.Name x pos) (tG X.K (bName i) [i]) :=
  PG.imp (pg_name hN hi hx hf) gName_of
def bsNil : Bds := fun ds S => match ds with
  | [] => some S
  | _ :: _ => none
def bsCons (b : Bd) (bs : Bds) : Bds := fun ds S => match ds with
  | [] => none
  | d :: r => match b d S with
    | some S1 => bs r S1
    | none => none
theorem dgs_nil : PGs X [] (tGs X.K bsNil []) := PGs.imp pgs_nil fun vs σ H Q ⟨as, S, ds, S', E, r, e, q⟩ => by
  cases r with
  | nil =>
    cases Option.some.inj e
    exact ⟨rfl, q as σ H .refl E rfl fun _ _ => rfl⟩
  | cons _ _ => cases e
theorem dgs_cons {b : Bd} {bs : Bds} {ix jx : List Nat} (h1 : PG X a (tG X.K b ix)) (h2 : PGs X es (tGs X.K bs jx)) (hs : (assignEach (a :: es) X.env).map (·.2) = assign a X.env :: (assignEach es X.env).map (·.2) := by rfl) :
    PGs X (a :: es) (tGs X.K (bsCons b bs) (ix ++ jx)) := PGs.imp (pgs_cons h1 h2 hs) fun vs σ H Q ⟨as, S, ds, S', E, r, e, q⟩ => by
  cases r with
  | nil => cases e
  | @cons v vs d ds r1 r2 =>
    unfold bsCons at e
    simp only at e
    split at e
    · rename_i S1 e1
      refine ⟨v, vs, rfl, as, S, d, S1, E, r1, e1, fun as1 σ1 H1 X1 E1 l1 g1 => ⟨as1, S1, ds, S', E1, r2.mv X1, e, fun as2 σ2 H2 X2 E2 l2 g2 => ?_⟩⟩
      exact q as2 σ2 H2 (X1.trans X2 E.sto.trk) E2 (l2.trans l1) fun j hj => (g2 j fun z => hj (List.mem_append_right _ z)).trans (g1 j fun z => hj (List.mem_append_left _ z))
    · cases e
def bTup (n : Nat) (bs : Bds) : Bd := fun d S => match d with
  | .tup xs => if xs.length = n then bs xs S else none
  | _ => none
theorem dg_tup {k : Nat} {bs : Bds} {ix : List Nat} {n : Nat} (hc : X.calm = true) (h : PGs X es (tGs X.K bs ix)) (hn : (assignEach es X.env).length = n := by rfl) (hst : (assignEach es X.env).findIdx? (·.1) = none := by rfl) :
    PG X (.Tuple es k pos) (tG X.K (bTup n bs) ix) := PG.imp (pg_tup hc h hn hst) fun v σ H Q ⟨as, S, d, S', E, r, e, q⟩ => by
  unfold bTup at e
  split at e
  · split at e
    · rename_i hl
      cases r with
      | tup t rs => exact ⟨_, _, rfl, t.sq, rs.length.trans hl, as, S, _, S', E, rs, e, q⟩
    · cases e
  · cases e
/-- a store into a cell's list -/
def cSet (o i d : D) (μ : List Cell) : Option (List Cell) := match o, i with
  | .h k, .int j => match μ[k]? with
    | some (.lst xs) => match ixN xs.length j with
      | some n => some (μ.set k (.lst (xs.set n d)))
      | none => none
    | _ => none
  | _, _ => none
theorem nodup_ix {l : List Addr} {i j : Nat} {a : Addr} (h : l.Nodup) (e1 : l[i]? = some a) (e2 : l[j]? = some a) : i = j := by
  exact (List.getElem?_inj (List.getElem?_eq_some_iff.mp e1).1 h).mp (e1.trans e2.symm)
theorem nofrz {H : Hp} {a : Addr} {vs : List V} (h : H a = some (.lst vs)) : ∀ o u, H a ≠ some (.frz o u) := fun o u e => by rw [h] at e; cases e
theorem StoR.upd {K : PySem.W.Frag} {as : Ar} {H : Hp} {μ : List Cell} {k : Nat} {a : Addr} {vs : List V} {ds : List D} (s : StoR K as H μ) (ea : as.c[k]? = some a) (nf : ∀ o u, H a ≠ some (.frz o u)) (r : Reps K as H vs ds) :
    Ext as H as (L2.upd H a (.lst vs)) ∧ StoR K as (L2.upd H a (.lst vs)) (μ.set k (.lst ds)) := by
  have ha : a ∈ as.c := List.mem_of_getElem? ea
  have X1 : Ext as H as (L2.upd H a (.lst vs)) := ⟨⟨[], by simp, by simp⟩, ⟨[], by simp, by simp⟩, fun b o hb e => by rw [upd_ne fun (z : b = a) => hb (by rw [z]; exact ha)]; exact e, fun b hb e => by
    by_cases z : b = a
    · subst z; rw [upd_same]; simp
    · rw [upd_ne z]; exact e, fun b x u e => by rw [upd_ne fun z => by rw [z] at e; exact nf _ _ e]; exact e⟩
  refine ⟨X1, ?_, fun j b c ej ec => ?_, s.nd, fun b hb => ?_⟩
  · rw [List.length_set]; exact s.len
  · by_cases hj : k = j
    · subst hj
      have hk : k < μ.length := by
        rw [← s.len]; exact (List.getElem?_eq_some_iff.mp ea).1
      rw [List.getElem?_set_self hk] at ec
      cases ec
      rw [ea] at ej
      cases ej
      exact ⟨vs, upd_same, r.mv X1⟩
    · rw [List.getElem?_set_ne hj] at ec
      refine (s.at_ j b c ej ec).mv X1 (upd_ne fun z => hj ?_)
      subst z
      exact nodup_ix s.nd ea ej
  · by_cases z : b = a
    · subst z; rw [upd_same]; simp
    · rw [upd_ne z]; exact s.bl b hb
def bSub (fo fi : EvE) : Bd := fun d S => match fo S with
  | some (o, μ1) => match fi { S with μ := μ1 } with
    | some (i, μ2) => match cSet o i d μ2 with
      | some μ3 => some { S with μ := μ3 }
      | none => none
    | none => none
  | none => none
theorem cSet_out {o i d : D} {μ μ' : List Cell} (e : cSet o i d μ = some μ') : ∃ k j xs n, o = .h k ∧ i = .int j ∧ μ[k]? = some (.lst xs) ∧ ixN xs.length j = some n ∧ μ' = μ.set k (.lst (xs.set n d)) := by
  unfold cSet at e
  split at e
  · split at e
    · rename_i xs ex
      split at e
      · rename_i n en
        exact ⟨_, _, xs, n, rfl, rfl, ex, en, (Option.some.inj e).symm⟩
      · cases e
    · cases e
  · cases e
theorem dg_sub {o i : Expr} {fo fi : EvE} (ho : PE X o (tF X.K fo)) (hi : PE X i (tF X.K fi)) (ha : ∀ v, assign (.Subscript o i pos) X.env v = (do
      let ov ← holding [v] (eval o X.env)
      let iv ← holding [v, ov] (eval i X.env)
      standAt pos
      holding [v, ov, iv] (setItem ov iv v)
      release [v, ov, iv] []) := by intro _; rfl) : PG X (.Subscript o i pos) (tG X.K (bSub fo fi) []) := PG.imp (pg_sub ho hi set_list ha) fun v σ H Q ⟨as, S, d, S', E, r, e, q⟩ => by
  unfold bSub at e
  split at e
  · rename_i x μ1 ea
    split at e
    · rename_i y μ2 eb
      split at e
      · rename_i μ3 ec
        cases Option.some.inj e
        obtain ⟨k, j, xs, n, rfl, rfl, ex, en, rfl⟩ := cSet_out ec
        refine ⟨as, S, _, μ1, E, ea, fun u as1 H1 X1 r1 s1 => ⟨as1, _, _, μ2, E.mvE X1 s1, eb, fun w as2 H2 X2 r2 s2 => ?_⟩⟩
        have r1' := r1.mv X2
        cases r2
        cases r1' with
        | @h _ p ep =>
          obtain ⟨vs, hv, rs⟩ := s2.at_ k p _ ep ex
          have X12 := X1.trans X2 E.sto.trk
          obtain ⟨X3, s3⟩ := s2.upd ep (nofrz hv) (rs.set n (r.mv X12))
          refine ⟨p, vs, j, n, rfl, rfl, hv, by rw [rs.length]; exact en, ?_⟩
          exact q as2 σ _ (X12.trans X3 E.sto.trk) (E.mvE (X12.trans X3 E.sto.trk) s3) rfl fun _ _ => rfl
      · cases e
    · cases e
  · cases e

/-! ### statements -/
def bThen (b : Bd) (f : EvE) : EvS := fun S => match f S with
  | some (d, μ1) => match b d { S with μ := μ1 } with
    | some S' => some (.nx, S')
    | none => none
  | none => none
theorem endS_mv {K : PySem.W.Frag} {mg : Str → Option Value} {as as1 : Ar} {H H1 : Hp} {E : Ends} {fl : Fl} {S' : Sg} (h : endS K mg W as H E fl S') (X1 : Ext as H as1 H1) (tr : ∀ a, a ∈ as.c → H a ≠ none) : endS K mg W as1 H1 E fl S' := by
  cases fl with
  | nx => exact fun as2 σ2 H2 X2 E2 => h as2 σ2 H2 (X1.trans X2 tr) E2
  | bk => exact fun as2 σ2 H2 X2 E2 => h as2 σ2 H2 (X1.trans X2 tr) E2
  | ct => exact fun as2 σ2 H2 X2 E2 => h as2 σ2 H2 (X1.trans X2 tr) E2
  | rt d => exact fun as2 v H2 X2 r s => h as2 v H2 (X1.trans X2 tr) r s
  | ex n p => exact fun as2 σ2 H2 C dx X2 E2 e x => h as2 σ2 H2 C dx (X1.trans X2 tr) E2 e x
variable {f : EvE} {b : Bd} {ix : List Nat}
theorem bThen_of {K : PySem.W.Frag} {mg : Str → Option Value} {g : TG} (hg : ∀ v σ H Q, tG K b ix v σ H Q → g v σ H Q) : ∀ D σ H, tFS K mg W (bThen b f) D σ H → tAsg (tF K f) g D σ H := fun D σ H ⟨as, S, fl, S', E, e, q⟩ => by
  unfold bThen at e
  split at e
  · rename_i d μ1 ef
    split at e
    · rename_i S1 eb
      obtain ⟨rfl, rfl⟩ := pr_inj e
      exact ⟨as, S, d, μ1, E, ef, fun v as1 H1 X1 r1 s1 => hg _ _ _ _ ⟨as1, _, d, S1, E.mvE X1 s1, r1, eb, fun as2 σ2 H2 X2 E2 _ _ => q as2 σ2 H2 (X1.trans X2 E.sto.trk) E2⟩⟩
    · cases e
  · cases e
theorem ds_asg {tg : Expr} (he : PE X e (tF X.K f)) (hg : PG X tg (tG X.K b ix)) (hs : swapsWithSole [tg] e pos.line X.env = pure false := by rfl) (hw : swappedStores [tg] e X.env = pure none := by rfl)
    (h1 : (assignEach [tg] X.env).map (·.2) = [assign tg X.env] := by rfl) : PS X (.Assign [tg] e pos) (tFS X.K X.mg W (bThen b f)) := (ps_asg he hg hs hw h1).imp (bThen_of fun _ _ _ _ z => z)
theorem ds_set {i : Nat} {x : Str} {pos' : Pos} (hN : X.N.Nodup) (hi : X.N[i]? = some x) (hx : Loc X.env.scope x) (he : PE X e (tF X.K f)) (hs : swapsWith e (some (.Name x pos')) pos.line X.env = pure false := by rfl)
    (hf : X.fn x = true ∨ X.env.scope.names.lookup x = some .local := by first | exact .inl rfl | exact .inr rfl | assumption) : PS X (.Assign [.Name x pos'] e pos) (tFS X.K X.mg W (bThen (bName i) f)) := (ps_set hN hi hx he hs hf).imp (bThen_of gName_of)
def sDrop (f : EvE) : EvS := fun S => match f S with
  | some (_, μ1) => some (.nx, { S with μ := μ1 })
  | none => none
theorem ds_expr (he : PE X e (tF X.K f)) (hs : swapsWith e none pos.line X.env = pure false := by rfl) : PS X (.Expr e pos) (tFS X.K X.mg W (sDrop f)) := (ps_expr he hs).imp fun D σ H ⟨as, S, fl, S', E, e, q⟩ => by
  unfold sDrop at e
  split at e
  · rename_i d μ1 ef
    obtain ⟨rfl, rfl⟩ := pr_inj e
    exact ⟨as, S, d, μ1, E, ef, fun v as1 H1 X1 r1 s1 => q as1 σ H1 X1 (E.mvE X1 s1)⟩
  · cases e
/-! .. of what may raise -/
def bThenX (b : Bd) (f : EvX) : EvS := fun S => match f S with
  | some (.v d, μ1) => match b d { S with μ := μ1 } with
    | some S' => some (.nx, S')
    | none => none
  | some (.x n p, μ1) => some (.ex n p, { S with μ := μ1 })
  | none => none
theorem bThenX_of {K : PySem.W.Frag} {mg : Str → Option Value} {fx : EvX} {g : TG} (hg : ∀ v σ H Q, tG K b ix v σ H Q → g v σ H Q) : ∀ D σ H, tFS K mg W (bThenX b fx) D σ H → tAsg (tFX K mg W fx) g D σ H := fun D σ H ⟨as, S, fl, S', E, e, q⟩ => by
  unfold bThenX at e
  split at e
  · rename_i d μ1 ef
    split at e
    · rename_i S1 eb
      obtain ⟨rfl, rfl⟩ := pr_inj e
      exact ⟨as, S, .v d, μ1, E, ef, fun v as1 H1 X1 r1 s1 => hg _ _ _ _ ⟨as1, _, d, S1, E.mvE X1 s1, r1, eb, fun as2 σ2 H2 X2 E2 _ _ => q as2 σ2 H2 (X1.trans X2 E.sto.trk) E2⟩⟩
    · cases e
  · rename_i n p μ1 ef
    obtain ⟨rfl, rfl⟩ := pr_inj e
    exact ⟨as, S, .x n p, μ1, E, ef, fun as1 H1 C dx X1 s1 ec xr => q as1 σ H1 C dx X1 (E.mvE X1 s1) ec xr⟩
  · cases e
variable {fx : EvX}
theorem ds_asgX {tg : Expr} (he : PE X e (tFX X.K X.mg W fx)) (hg : PG X tg (tG X.K b ix)) (hs : swapsWithSole [tg] e pos.line X.env = pure false := by rfl) (hw : swappedStores [tg] e X.env = pure none := by rfl)
    (h1 : (assignEach [tg] X.env).map (·.2) = [assign tg X.env] := by rfl) : PS X (.Assign [tg] e pos) (tFS X.K X.mg W (bThenX b fx)) := (ps_asg he hg hs hw h1).imp (bThenX_of fun _ _ _ _ z => z)
theorem ds_setX {i : Nat} {x : Str} {pos' : Pos} (hN : X.N.Nodup) (hi : X.N[i]? = some x) (hx : Loc X.env.scope x) (he : PE X e (tFX X.K X.mg W fx)) (hs : swapsWith e (some (.Name x pos')) pos.line X.env = pure false := by rfl)
    (hf : X.fn x = true ∨ X.env.scope.names.lookup x = some .local := by first | exact .inl rfl | exact .inr rfl | assumption) : PS X (.Assign [.Name x pos'] e pos) (tFS X.K X.mg W (bThenX (bName i) fx)) := (ps_set hN hi hx he hs hf).imp (bThenX_of gName_of)
def sDropX (f : EvX) : EvS := fun S => match f S with
  | some (.v _, μ1) => some (.nx, { S with μ := μ1 })
  | some (.x n p, μ1) => some (.ex n p, { S with μ := μ1 })
  | none => none
theorem ds_exprX (he : PE X e (tFX X.K X.mg W fx)) (hs : swapsWith e none pos.line X.env = pure false := by rfl) : PS X (.Expr e pos) (tFS X.K X.mg W (sDropX fx)) := (ps_expr he hs).imp fun D σ H ⟨as, S, fl, S', E, e, q⟩ => by
  unfold sDropX at e
  split at e
  · rename_i d μ1 ef
    obtain ⟨rfl, rfl⟩ := pr_inj e
    exact ⟨as, S, .v d, μ1, E, ef, fun v as1 H1 X1 r1 s1 => q as1 σ H1 X1 (E.mvE X1 s1)⟩
  · rename_i n p μ1 ef
    obtain ⟨rfl, rfl⟩ := pr_inj e
    exact ⟨as, S, .x n p, μ1, E, ef, fun as1 H1 C dx X1 s1 ec xr => q as1 σ H1 C dx X1 (E.mvE X1 s1) ec xr⟩
  · cases e
def sRetX (f : EvX) : EvS := fun S => match f S with
  | some (.v d, μ1) => some (.rt d, { S with μ := μ1 })
  | some (.x n p, μ1) => some (.ex n p, { S with μ := μ1 })
  | none => none
theorem ds_retX (he : PE X e (tFX X.K X.mg W fx)) : PS X (.Return (some e) pos) (tFS X.K X.mg W (sRetX fx)) := (ps_ret he).imp fun D σ H ⟨as, S, fl, S', E, e, q⟩ => by
  unfold sRetX at e
  split at e
  · rename_i d μ1 ef
    obtain ⟨rfl, rfl⟩ := pr_inj e
    exact ⟨as, S, .v d, μ1, E, ef, fun v as1 H1 X1 r1 s1 => q as1 v H1 X1 r1 s1⟩
  · rename_i n p μ1 ef
    obtain ⟨rfl, rfl⟩ := pr_inj e
    exact ⟨as, S, .x n p, μ1, E, ef, fun as1 H1 C dx X1 s1 ec xr => q as1 σ H1 C dx X1 (E.mvE X1 s1) ec xr⟩
  · cases e
/-- what raises nothing here -/
def fNox (f : EvX) : EvE := fun S => match f S with
  | some (.v d, μ1) => some (d, μ1)
  | _ => none
theorem fNox_out {f : EvX} {S : Sg} {d : D} {μ' : List Cell} (e : fNox f S = some (d, μ')) : f S = some (.v d, μ') := by
  unfold fNox at e
  split at e
  · rename_i d1 μ1 ef
    obtain ⟨rfl, rfl⟩ := pr_inj e
    exact ef
  · cases e
/-- raise C('m') -/
def sRaise (n : Str) : EvS := fun S => some (.ex n none, S)
theorem ds_raise {C : Addr} {bmB : List Value} {B newId initId : String} {x m : Str} {j : Nat} {p p2 pos1 pos2 : Pos} (hc : X.calm = true) (tk : Takes X W) (F : PySem.ExcBaseFacts B newId initId bmB) (q : PySem.W.excIn X.K C bmB newId = true) (gC : X.mg x = some (.ref C)) (kC : PySem.W.keepIn X.K (.ref C) = true) (r : Raises X (.ref C)) (hg : Gl X x)
    (hdb : (x == ("__debug__" : Str)) = false := by decide) : PS X (.Raise (some (.Call (.Name x p) [.Constant (.str m) j p2] [] pos1)) none pos2) (tFS X.K X.mg W (sRaise x)) :=
  (ps_raise hc tk (pmk_own F q gC kC r hg hdb)).imp fun D σ H ⟨as, S, fl, S', E, e, q⟩ => by
    obtain ⟨rfl, rfl⟩ := pr_inj e
    exact q as σ H (.ref C) none .refl E gC rfl
/-- try: .. except x: .., where h tells which names the clause takes -/
def sTry (h : Str → Option Bool) (g gs : EvS) : EvS := fun S => match g S with
  | some (.ex n p, S1) => match h n with
    | some true => match gs S1 with
      | some (.ex _ _, _) => none
      | r => r
    | some false => some (.ex n p, S1)
    | none => none
  | r => r
theorem ds_try {x : Str} {c : Value} {h : Str → Option Bool} {g gs : EvS} {body suite : List Stmt} {b₀ : Stmt} {np pos pos' : Pos} (hs : X.stack = X.env :: X.outer) (hf : X.env.frame = some X.env.locals) (hc : Names X x c) (tk : Takes X W)
    (hh : ∀ n b C, h n = some b → X.mg n = some C → PySem.W.exmOne X.K C c = some b)
    (hb : ∀ (W' : WX) (pn : List (Addr × Obj)) (xe : Value → Shared → Prop), Takes (X.tr pn xe) W' → PassesOwn (model X.prog X.w) X.A X.env xe → PSs (X.tr pn xe) body (tFS X.K X.mg W' g))
    (hsu : ∀ (a : Addr) (pn : List (Addr × Obj)), PSs (X.suite a pn) (b₀ :: suite) (tFS X.K X.mg (fun _ _ _ _ => False) gs)) :
    PS X (.Try body [.ExceptHandler (some (.Name x np)) none (b₀ :: suite) pos'] [] [] pos) (tFS X.K X.mg W (sTry h g gs)) :=
  (ps_try_only (tb := fun W' => tFS X.K X.mg W' g) (ts := fun _ _ _ => tFS X.K X.mg (fun _ _ _ _ => False) gs) hs hf hc tk hb (fun a oe cls d pn _ _ => hsu a ((a, oe) :: pn))).imp fun D σ H ⟨as, S, fl, S', E, e, q⟩ => by
    unfold sTry at e
    split at e
    · rename_i n p S1 eg
      split at e
      · rename_i eh
        refine ⟨as, S, .ex n p, S1, E, eg, fun as1 σ1 H1 C dx X1 E1 ec xr => ⟨true, hh n true C eh ec, fun _ a na => ?_, fun z => nomatch z⟩⟩
        split at e
        · cases e
        · rename_i hn
          have q1 := endS_mv q X1 E.sto.trk
          refine ⟨as1, S1, fl, S', E1, e, ?_⟩
          cases fl with
          | ex n' p' => exact (hn n' p' S' e).elim
          | nx => exact q1
          | bk => exact q1
          | ct => exact q1
          | rt d => exact q1
      · rename_i eh
        obtain ⟨rfl, rfl⟩ := pr_inj e
        exact ⟨as, S, .ex n p, S1, E, eg, fun as1 σ1 H1 C dx X1 E1 ec xr => ⟨false, hh n false C eh ec, fun z => (nomatch z), fun _ => q as1 σ1 H1 C dx X1 E1 ec xr⟩⟩
      · cases e
    · rename_i hn
      refine ⟨as, S, fl, S', E, e, ?_⟩
      cases fl with
      | ex n' p' => exact (hn n' p' S' e).elim
      | nx => exact q
      | bk => exact q
      | ct => exact q
      | rt d => exact q
def sNx : EvS := fun S => some (.nx, S)
theorem ds_doc {x j pos'} : PS X (.Expr (.Constant (.str x) j pos) pos') (tFS X.K X.mg W sNx) := ps_doc.imp fun D σ H ⟨as, S, fl, S', E, e, q⟩ => by
  cases Option.some.inj e
  exact q as σ H .refl E
theorem ds_pass : PS X (.Pass pos) (tFS X.K X.mg W sNx) := ps_pass.imp fun D σ H ⟨as, S, fl, S', E, e, q⟩ => by
  cases Option.some.inj e
  exact q as σ H .refl E
def sBk : EvS := fun S => some (.bk, S)
def sCt : EvS := fun S => some (.ct, S)
theorem ds_break : PS X (.Break pos) (tFS X.K X.mg W sBk) := ps_break.imp fun D σ H ⟨as, S, fl, S', E, e, q⟩ => by
  cases Option.some.inj e
  exact q as σ H .refl E
theorem ds_continue : PS X (.Continue pos) (tFS X.K X.mg W sCt) := ps_continue.imp fun D σ H ⟨as, S, fl, S', E, e, q⟩ => by
  cases Option.some.inj e
  exact q as σ H .refl E
def sRet (f : EvE) : EvS := fun S => match f S with
  | some (d, μ1) => some (.rt d, { S with μ := μ1 })
  | none => none
theorem ds_ret (he : PE X e (tF X.K f)) : PS X (.Return (some e) pos) (tFS X.K X.mg W (sRet f)) := (ps_ret he).imp fun D σ H ⟨as, S, fl, S', E, e, q⟩ => by
  unfold sRet at e
  split at e
  · rename_i d μ1 ef
    obtain ⟨rfl, rfl⟩ := pr_inj e
    exact ⟨as, S, d, μ1, E, ef, fun v as1 H1 X1 r1 s1 => q as1 v H1 X1 r1 s1⟩
  · cases e
theorem ds_retN : PS X (.Return none pos) (tFS X.K X.mg W (sRet (fC .non))) := ps_retN.imp fun D σ H ⟨as, S, fl, S', E, e, q⟩ => by
  cases Option.some.inj e
  exact q as .non H .refl .non E.sto
variable {t : EvT} {g g' : EvS} {ss ss' : List Stmt}
def sIf (t : EvT) (g g' : EvS) : EvS := fun S => match t S with
  | some (true, μ1) => g { S with μ := μ1 }
  | some (false, μ1) => g' { S with μ := μ1 }
  | none => none
theorem ds_if {c : Expr} (hc : PT X c (tFT X.K t)) (ha : PSs X ss (tFS X.K X.mg W g)) (hb : PSs X ss' (tFS X.K X.mg W g')) : PS X (.If c ss ss' pos) (tFS X.K X.mg W (sIf t g g')) := (ps_if hc ha hb).imp fun D σ H ⟨as, S, fl, S', E, e, q⟩ => by
  unfold sIf at e
  split at e
  · rename_i μ1 et
    exact ⟨as, S, true, μ1, E, et, fun as1 H1 X1 s1 => iteT ⟨as1, _, fl, S', E.mvE X1 s1, e, endS_mv q X1 E.sto.trk⟩⟩
  · rename_i μ1 et
    exact ⟨as, S, false, μ1, E, et, fun as1 H1 X1 s1 => iteF ⟨as1, _, fl, S', E.mvE X1 s1, e, endS_mv q X1 E.sto.trk⟩⟩
  · cases e
def sSeq (g g' : EvS) : EvS := fun S => match g S with
  | some (.nx, S1) => g' S1
  | r => r
theorem dss_nil : PSs X [] (tFS X.K X.mg W sNx) := pss_nil.imp fun D σ H ⟨as, S, fl, S', E, e, q⟩ => by
  cases Option.some.inj e
  exact q as σ H .refl E
theorem dss_one {st : Stmt} (h : PS X st (tFS X.K X.mg W g)) : PSs X [st] (tFS X.K X.mg W g) := pss_one h
theorem dss_cons {st : Stmt} (h1 : PS X st (tFS X.K X.mg W g)) (h2 : PSs X ss (tFS X.K X.mg W g')) : PSs X (st :: ss) (tFS X.K X.mg W (sSeq g g')) := (pss_cons h1 h2).imp fun D σ H ⟨as, S, fl, S', E, e, q⟩ => by
  unfold sSeq at e
  split at e
  · rename_i S1 e1
    exact ⟨as, S, .nx, S1, E, e1, fun as1 σ1 H1 X1 E1 => ⟨as1, S1, fl, S', E1, e, endS_mv q X1 E.sto.trk⟩⟩
  · rename_i hn
    refine ⟨as, S, fl, S', E, e, ?_⟩
    cases fl with
    | nx => exact (hn S' e).elim
    | bk => exact q
    | ct => exact q
    | rt d => exact q
    | ex n p => exact q

/-! ### what is walked -/
abbrev EvI := Sg → Option (List D × List Cell)
structure ItD (K : PySem.W.Frag) (as : Ar) (H : Hp) (J : It) (ds : List D) : Prop where
  go : ∀ i as' H', Ext as H as' H' → i < ds.length → J.go i H'
  stop : ∀ as' H', Ext as H as' H' → J.stop ds.length H'
  yld : ∀ i as' H' μ x H'', Ext as H as' H' → StoR K as' H' μ → i < ds.length → J.yld i H' x H'' → ∃ d, ds[i]? = some d ∧ Ext as' H' as' H'' ∧ Rep K as' H'' x d ∧ StoR K as' H'' μ
/-- the heap behind later turns of a comprehension: what is blocked in it stands apart -/
def tI (K : PySem.W.Frag) (f : EvI) : TI := fun σ H R => ∃ as S ds μ', ER K as σ H S ∧ f S = some (ds, μ') ∧ ∀ J as' H', Ext as H as' H' → StoR K as' H' μ' → ItD K as' H' J ds → R J H'
def itOf (g : D → Option (List D)) (f : EvE) : EvI := fun S => match f S with
  | some (d, μ1) => match g d with
    | some ds => some (ds, μ1)
    | none => none
  | none => none
theorem itOf_out {g : D → Option (List D)} {f : EvE} {S : Sg} {ds : List D} {μ' : List Cell} (e : itOf g f S = some (ds, μ')) : ∃ d, f S = some (d, μ') ∧ g d = some ds := by
  unfold itOf at e
  split at e
  · rename_i d μ1 ef
    split at e
    · rename_i ds' ed
      have e' := Option.some.inj e
      injection e' with e1 e2
      subst e1 e2
      exact ⟨d, ef, ed⟩
    · cases e
  · cases e
/-- lists, tuples, texts -/
def gSeq : D → Option (List D)
  | .lst xs | .rl xs | .tup xs => some xs
  | .str z => some (z.cps.toList.map fun c => .str ⟨#[c]⟩)
  | _ => none
theorem di_seq {tg : Expr} (he : PE X e (tF X.K f)) : PI X tg e (tI X.K (itOf gSeq f)) := by
  refine PI.imp (PI.or (pi_list he) (PI.or (pi_tup he) (pi_str he))) fun σ H R ⟨as, S, ds, μ', E, e, q⟩ => ?_
  obtain ⟨d, ef, ed⟩ := itOf_out e
  have list : ∀ {a : Addr} {vs : List V} {as1 : Ar} {H1 : Hp}, (∀ as' H', Ext as1 H1 as' H' → SqL X.K H' a vs) → Reps X.K as1 H1 vs ds → ItD X.K as1 H1 (Itl X.K a) ds := fun {a vs as1 H1} hq rs =>
    ⟨fun i as' H' X' hi => walk_list.goes i H' (by rw [rs.length]; exact hi) (hq as' H' X'), fun as' H' X' => by rw [← rs.length]; exact walk_list.stops H' (hq as' H' X'), fun i as' H' μ x H'' X' s' hi y => by
      obtain ⟨e1, e2⟩ := walk_list.yields i H' x H'' (by rw [rs.length]; exact hi) (hq as' H' X') y
      subst e1
      obtain ⟨d, e3, r⟩ := (rs.mv X').getV e2
      exact ⟨d, e3, .refl, r, s'⟩⟩
  unfold gSeq at ed
  split at ed
  · cases Option.some.inj ed
    refine .inl ⟨as, S, _, μ', E, ef, fun v as1 H1 X1 r1 s1 => ?_⟩
    cases r1 with
    | @lst a vs _ t n rs => exact ⟨a, rfl, ⟨vs, SqL.of t⟩, q _ as1 H1 X1 s1 (list (fun as' H' X' => SqL.of (at_mv t n X').1) rs)⟩
  · cases Option.some.inj ed
    refine .inl ⟨as, S, _, μ', E, ef, fun v as1 H1 X1 r1 s1 => ?_⟩
    cases r1 with
    | @rl a vs _ t rs => exact ⟨a, rfl, ⟨vs, t.sq⟩, q _ as1 H1 X1 s1 (list (fun as' H' X' => (t.mv X').sq) rs)⟩
  · cases Option.some.inj ed
    refine .inr (.inl ⟨as, S, _, μ', E, ef, fun v as1 H1 X1 r1 s1 => ?_⟩)
    cases r1 with
    | @tup a vs _ t rs =>
      refine ⟨a, rfl, ⟨vs, t.sq⟩, q _ as1 H1 X1 s1 ?_⟩
      have hq : ∀ as' H', Ext as1 H1 as' H' → SqT X.K H' a vs := fun as' H' X' => (t.mv X').sq
      exact ⟨fun i as' H' X' hi => walk_tup.goes i H' (by rw [rs.length]; exact hi) (hq as' H' X'), fun as' H' X' => by rw [← rs.length]; exact walk_tup.stops H' (hq as' H' X'), fun i as' H' μ x H'' X' s' hi y => by
        obtain ⟨e1, e2⟩ := walk_tup.yields i H' x H'' (by rw [rs.length]; exact hi) (hq as' H' X') y
        subst e1
        obtain ⟨d, e3, r⟩ := (rs.mv X').getV e2
        exact ⟨d, e3, .refl, r, s'⟩⟩
  · rename_i z
    cases Option.some.inj ed
    refine .inr (.inr ⟨as, S, _, μ', E, ef, fun v as1 H1 X1 r1 s1 => ?_⟩)
    cases r1
    have hl : (z.cps.toList.map fun c => D.str ⟨#[c]⟩).length = z.cps.size := by simp
    refine ⟨z, rfl, q _ as1 H1 X1 s1 ⟨fun i as' H' X' hi => walk_str.goes i H' (by rw [← hl]; exact hi) trivial, fun as' H' X' => by rw [hl]; exact walk_str.stops H' trivial, fun i as' H' μ x H'' X' s' hi y => ?_⟩⟩
    obtain ⟨e1, c, e2, e3⟩ := walk_str.yields i H' x H'' (by rw [← hl]; exact hi) trivial y
    subst e1 e3
    refine ⟨.str ⟨#[c]⟩, ?_, .refl, .str _, s'⟩
    rw [List.getElem?_map, Array.getElem?_toList, e2]
    rfl
  · cases ed
/-- range(n), range(a, b) -/
def rngD (lo : Int) (n : Nat) : List D := (List.range n).map fun (i : Nat) => .int (lo + (i : Int))
def gRng1 (fs : EvA) : EvI := fun S => match fs S with
  | some ([.int j], μ1) => if -(2 ^ 62) ≤ j ∧ j < 2 ^ 62 then some (rngD 0 j.toNat, μ1) else none
  | _ => none
theorem rng_it {K : PySem.W.Frag} {as : Ar} {H : Hp} {lo : Int} {n : Nat} : ItD K as H (Itr lo n) (rngD lo n) := by
  have hl : (rngD lo n).length = n := by simp [rngD]
  refine ⟨fun i as' H' X' hi => walk_range.goes i H' (by rw [← hl]; exact hi) trivial, fun as' H' X' => by rw [hl]; exact walk_range.stops H' trivial, fun i as' H' μ x H'' X' s' hi y => ?_⟩
  obtain ⟨e1, e2⟩ := walk_range.yields i H' x H'' (by rw [← hl]; exact hi) trivial y
  subst e1 e2
  refine ⟨.int (lo + (i : Int)), ?_, .refl, .int _, s'⟩
  rw [hl] at hi
  simp [rngD, hi]
theorem di_range1 {tg : Expr} {p : Pos} {fs : EvA} (hg : Gl X "range") (hm : X.mg "range" = none) (ha : PA X [a] (tFA X.K fs)) (hs : starEach [a] X.env = [(false, eval a X.env)] := by rfl) : PI X tg (.Call (.Name "range" p) [a] [] pos) (tI X.K (gRng1 fs)) :=
  PI.imp (pi_range1 hg hm ha hs) fun σ H R ⟨as, S, ds, μ', E, e, q⟩ => by
    unfold gRng1 at e
    split at e
    · rename_i j μ1 ef
      split at e
      · rename_i hj
        obtain ⟨rfl, rfl⟩ := pr_inj e
        refine ⟨as, S, _, μ1, E, ef, fun vs as1 H1 X1 r1 s1 => ?_⟩
        cases r1 with
        | cons r1 rt =>
        cases rt
        cases r1
        exact ⟨j, rfl, hj.1, hj.2, q _ as1 H1 X1 s1 rng_it⟩
      · cases e
    · cases e
def gRng2 (fs : EvA) : EvI := fun S => match fs S with
  | some ([.int i, .int j], μ1) => if -(2 ^ 62) ≤ i ∧ i < 2 ^ 62 ∧ -(2 ^ 62) ≤ j ∧ j < 2 ^ 62 then some (rngD i (j - i).toNat, μ1) else none
  | _ => none
theorem di_range2 {tg a2 : Expr} {p : Pos} {fs : EvA} (hg : Gl X "range") (hm : X.mg "range" = none) (ha : PA X [a, a2] (tFA X.K fs)) (hs : starEach [a, a2] X.env = [(false, eval a X.env), (false, eval a2 X.env)] := by rfl) (hs2 : starEach [a2] X.env = [(false, eval a2 X.env)] := by rfl) :
    PI X tg (.Call (.Name "range" p) [a, a2] [] pos) (tI X.K (gRng2 fs)) := PI.imp (pi_range2 hg hm ha hs hs2) fun σ H R ⟨as, S, ds, μ', E, e, q⟩ => by
    unfold gRng2 at e
    split at e
    · rename_i i j μ1 ef
      split at e
      · rename_i hj
        obtain ⟨rfl, rfl⟩ := pr_inj e
        refine ⟨as, S, _, μ1, E, ef, fun vs as1 H1 X1 r1 s1 => ?_⟩
        cases r1 with
        | cons r1 rt =>
        cases rt with
        | cons r2 rt =>
        cases rt
        cases r1
        cases r2
        exact ⟨i, j, rfl, hj, q _ as1 H1 X1 s1 rng_it⟩
      · cases e
    · cases e

/-! ### for -/
def forL (b : Bd) (body : EvS) : List D → Sg → Option (Fl × Sg)
  | [], S => some (.nx, S)
  | d :: ds, S => match b d S with
    | some S1 => match body S1 with
      | some (.nx, S2) => forL b body ds S2
      | some (.ct, S2) => forL b body ds S2
      | some (.bk, S2) => some (.nx, S2)
      | some (.rt x, S2) => some (.rt x, S2)
      | some (.ex n p, S2) => some (.ex n p, S2)
      | none => none
    | none => none
def sFor (it : EvI) (b : Bd) (body : EvS) : EvS := fun S => match it S with
  | some (ds, μ1) => forL b body ds { S with μ := μ1 }
  | none => none
theorem ds_for {tg iter : Expr} {it : EvI} (hp : PassesOwn (model X.prog X.w) X.A X.env X.xe) (hc : X.calm = true) (hi : PI X tg iter (tI X.K it)) (hg : PG X tg (tG X.K b ix)) (hb : PSs X ss (tFS X.K X.mg W g)) (hs : ∀ x, foldedSetIterable iter X.env x = pure x := by intro _; rfl) :
    PS X (.For tg iter ss [] pos) (tFS X.K X.mg W (sFor it b g)) := by
  refine (ps_for hp hc hi hg hb hs).imp fun D σ H ⟨as, S, fl, S', E, e, q⟩ => ?_
  unfold sFor at e
  split at e
  · rename_i ds μ1 ei
    refine ⟨as, S, ds, μ1, E, ei, fun J as1 H1 X1 s1 it1 => ?_⟩
    have q1 := endS_mv q X1 E.sto.trk
    have E1 := E.mvE X1 s1
    refine ⟨fun i m σ2 H2 => m = ds.length - i ∧ i ≤ ds.length ∧ ∃ as2 S2, Ext as1 H1 as2 H2 ∧ ER X.K as2 σ2 H2 S2 ∧ forL b g (ds.drop i) S2 = some (fl, S'), ⟨_, rfl, Nat.zero_le _, as1, _, .refl, E1, e⟩, ?_⟩
    rintro i m σ2 H2 ⟨rfl, hi, as2, S2, X2, E2, e2⟩
    by_cases hlt : i < ds.length
    · refine .inr ⟨it1.go i as2 H2 X2 hlt, fun σ3 H3 => ∃ as3 S3, Ext as1 H1 as3 H3 ∧ ER X.K as3 σ3 H3 S3 ∧ forL b g (ds.drop (i + 1)) S3 = some (fl, S'), fun σ3 H3 ⟨as3, S3, X3, E3, e3⟩ => ⟨_, by omega, rfl, hlt, as3, S3, X3, E3, e3⟩, fun x H3 y => ?_⟩
      obtain ⟨d, ed, X3, r3, s3⟩ := it1.yld i as2 H2 S2.μ x H3 X2 E2.sto hlt y
      have hd : ds.drop i = d :: ds.drop (i + 1) := by
        rw [List.drop_eq_getElem_cons hlt]
        rw [List.getElem?_eq_getElem hlt] at ed
        cases ed
        rfl
      rw [hd] at e2
      unfold forL at e2
      split at e2
      · rename_i S3 eb
        have E3 := E2.mvE X3 s3
        refine ⟨as2, S2, d, S3, E3, r3, eb, fun as4 σ4 H4 X4 E4 _ _ => ?_⟩
        have X14 := X2.trans (X3.trans X4 E2.sto.trk) s1.trk
        split at e2
        · rename_i S5 eg
          exact ⟨as4, S3, .nx, S5, E4, eg, fun as5 σ5 H5 X5 E5 => ⟨as5, S5, X14.trans X5 s1.trk, E5, e2⟩⟩
        · rename_i S5 eg
          exact ⟨as4, S3, .ct, S5, E4, eg, fun as5 σ5 H5 X5 E5 => ⟨as5, S5, X14.trans X5 s1.trk, E5, e2⟩⟩
        · rename_i S5 eg
          obtain ⟨rfl, rfl⟩ := pr_inj e2
          exact ⟨as4, S3, .bk, S5, E4, eg, fun as5 σ5 H5 X5 E5 => q1 as5 σ5 H5 (X14.trans X5 s1.trk) E5⟩
        · rename_i x5 S5 eg
          obtain ⟨rfl, rfl⟩ := pr_inj e2
          exact ⟨as4, S3, .rt x5, S5, E4, eg, fun as5 v5 H5 X5 r5 s5 => q1 as5 v5 H5 (X14.trans X5 s1.trk) r5 s5⟩
        · rename_i n5 p5 S5 eg
          obtain ⟨rfl, rfl⟩ := pr_inj e2
          exact ⟨as4, S3, .ex n5 p5, S5, E4, eg, fun as5 σ5 H5 C dx X5 E5 ec xr => q1 as5 σ5 H5 C dx (X14.trans X5 s1.trk) E5 ec xr⟩
        · cases e2
      · cases e2
    · have hn : i = ds.length := by omega
      subst hn
      rw [List.drop_length] at e2
      cases Option.some.inj e2
      exact .inl ⟨it1.stop as2 H2 X2, q1 as2 σ2 H2 X2 E2⟩
  · cases e
end
end DL
namespace DL
open PySem L2
/-! ### comprehensions -/
section
variable {K : PySem.W.Frag} {as as' : Ar} {H H' : Hp}
def Ar.blk (as : Ar) (p : Addr) : Ar := ⟨as.c, p :: as.b⟩
mutual
theorem Rep.unblk {b : List Addr} (hb : ∀ a ∈ b, a ∈ as.b) : ∀ {v : V} {d : D}, Rep K as H v d → Rep K ⟨as.c, b⟩ H v d
  | _, _, .non => .non
  | _, _, .bl b => .bl b
  | _, _, .int i => .int i
  | _, _, .str s => .str s
  | _, _, .ty n => .ty n
  | _, _, .h e => .h e
  | _, _, .lst t n r => .lst t ⟨n.1, fun z => n.2 (hb _ z)⟩ (Reps.unblk hb r)
  | _, _, .rl t r => .rl (t.elim (fun z => .inl ⟨z.1, z.2.1, fun w => z.2.2 (hb _ w)⟩) .inr) (Reps.unblk hb r)
  | _, _, .tup t r => .tup (t.elim (fun z => .inl ⟨z.1, z.2.1, fun w => z.2.2 (hb _ w)⟩) .inr) (Reps.unblk hb r)
  | _, _, .dct t n e r => .dct t ⟨n.1, fun z => n.2 (hb _ z)⟩ e (Reps.unblk hb r)
  | _, _, .exc e t n => .exc e t ⟨n.1, fun z => n.2 (hb _ z)⟩
  | _, _, .exf e t n t2 n2 r => .exf e t ⟨n.1, fun z => n.2 (hb _ z)⟩ t2 ⟨n2.1, fun z => n2.2 (hb _ z)⟩ (Rep.unblk hb r)
  | _, _, .cls e => .cls e
theorem Reps.unblk {b : List Addr} (hb : ∀ a ∈ b, a ∈ as.b) : ∀ {vs : List V} {ds : List D}, Reps K as H vs ds → Reps K ⟨as.c, b⟩ H vs ds
  | _, _, .nil => .nil
  | _, _, .cons h t => .cons (Rep.unblk hb h) (Reps.unblk hb t)
end
mutual
/-- what stands at a blocked place does not matter to data -/
theorem Rep.reblk {p : Addr} {o : HO} (hp : p ∈ as.b) : ∀ {v : V} {d : D}, Rep K as H v d → Rep K as (upd H p o) v d
  | _, _, .non => .non
  | _, _, .bl b => .bl b
  | _, _, .int i => .int i
  | _, _, .str s => .str s
  | _, _, .ty n => .ty n
  | _, _, .h e => .h e
  | _, _, .lst t n r => .lst (by rw [upd_ne fun e => n.2 (by rw [e]; exact hp)]; exact t) n (Reps.reblk hp r)
  | _, _, .rl t r => .rl (t.elim (fun z => .inl ⟨by unfold Rd; rw [upd_ne fun e => z.2.2 (by rw [e]; exact hp)]; exact z.1, z.2⟩) .inr) (Reps.reblk hp r)
  | _, _, .tup t r => .tup (t.elim (fun z => .inl ⟨by unfold Rd; rw [upd_ne fun e => z.2.2 (by rw [e]; exact hp)]; exact z.1, z.2⟩) .inr) (Reps.reblk hp r)
  | _, _, .dct t n e r => .dct (by rw [upd_ne fun e => n.2 (by rw [e]; exact hp)]; exact t) n e (Reps.reblk hp r)
  | _, _, .exc e t n => .exc e (by rw [upd_ne fun e => n.2 (by rw [e]; exact hp)]; exact t) n
  | _, _, .exf e t n t2 n2 r => .exf e (by rw [upd_ne fun e => n.2 (by rw [e]; exact hp)]; exact t) n (by rw [upd_ne fun e => n2.2 (by rw [e]; exact hp)]; exact t2) n2 (Rep.reblk hp r)
  | _, _, .cls e => .cls e
theorem Reps.reblk {p : Addr} {o : HO} (hp : p ∈ as.b) : ∀ {vs : List V} {ds : List D}, Reps K as H vs ds → Reps K as (upd H p o) vs ds
  | _, _, .nil => .nil
  | _, _, .cons h t => .cons (Rep.reblk hp h) (Reps.reblk hp t)
end
theorem CellR.map {as as' : Ar} {H H' : Hp} {a : Addr} {c : Cell} (h : CellR K as H a c) (e : H' a = H a) (f : ∀ {vs : List V} {ds : List D}, Reps K as H vs ds → Reps K as' H' vs ds) (g : ∀ c q, c ∉ as.c → H c = some (LamX.CodeO c q) → H' c = some (LamX.CodeO c q) ∧ c ∉ as'.c) : CellR K as' H' a c := by
  cases c with
  | lst ds => obtain ⟨vs, q, r⟩ := h; exact ⟨vs, e.trans q, f r⟩
  | obj n fs => obtain ⟨C, dx, fv, hn, q, l, r⟩ := h; exact ⟨C, dx, fv, hn, e.trans q, l, f r⟩
  | dct ds => obtain ⟨kvs, q, l, r⟩ := h; exact ⟨kvs, e.trans q, l, f r⟩
  | lck ds => obtain ⟨od, kvs, q, l, r⟩ := h; exact ⟨od, kvs, e.trans q, l, f r⟩
  | tab x n =>
    obtain ⟨c, ps, ht, q, tr, l⟩ := h
    refine ⟨c, ps, ht, e.trans q, tr, fun pos cv z => ?_⟩
    obtain ⟨e1, e2, e3, e4⟩ := l pos cv z
    exact ⟨e1, e2, g _ _ e4 e3⟩
end
section
variable {X : Cx} {elt tg iter : Expr} {ifs : List Expr} {pos : Pos}
theorem dts_nil : PTs X [] (tFT X.K fun S => some (true, S.μ)) := ⟨fun pins s σ H Q I ⟨as, S, k, μ', E, e, q⟩ => by
  obtain ⟨rfl, rfl⟩ := pr_inj e
  exact pts_nil.run pins s σ H Q I (q as H .refl E.sto)⟩
theorem dts_one {c : Expr} {t : EvT} (h : PT X c (tFT X.K t)) : PTs X [c] (tFT X.K t) := pts_one h
def lcL (b : Bd) (t : EvT) (f : EvE) (ρ : List (Option D)) : List D → List Cell → Option (List D × List Cell)
  | [], μ => some ([], μ)
  | d :: ds, μ => match b d ⟨ρ, μ⟩ with
    | some S1 => match t S1 with
      | some (true, μ1) => match f { S1 with μ := μ1 } with
        | some (x, μ2) => match lcL b t f ρ ds μ2 with
          | some (xs, μ3) => some (x :: xs, μ3)
          | none => none
        | none => none
      | some (false, μ1) => lcL b t f ρ ds μ1
      | none => none
    | none => none
def fLc (it : EvI) (b : Bd) (t : EvT) (f : EvE) (ws : List Nat) : EvE := fun S => match it S with
  | some (ds, μ1) => match lcL b t f (wipeR S.ρ ws) ds μ1 with
    | some (xs, μ2) => if xs.length ≤ sizeLine then some (.lst xs, μ2) else none
    | none => none
  | none => none
variable {it : EvI} {b : Bd} {ix : List Nat} {t : EvT} {f : EvE} {ws : List Nat} {W : WX}
theorem tF_lc {K : PySem.W.Frag} (hix : ∀ j ∈ ix, j ∈ ws) : ∀ σ H Q, tF K (fLc it b t f ws) σ H Q → tLc (tI K it) (tG K b ix) (tFT K t) (tF K f) ws σ H Q := fun σ H Q ⟨as, S, d, μ', E, e, q⟩ => by
  unfold fLc at e
  split at e
  · rename_i ds μ1 ei
    split at e
    · rename_i xs μ2 el
      split at e
      · rename_i hz
        obtain ⟨rfl, rfl⟩ := pr_inj e
        refine ⟨as, S, ds, μ1, E, ei, fun J as1 H1 X1 s1 it1 p hp => ?_⟩
        have hpo := s1.out hp
        -- from a turn to a later time
        have carry : ∀ {as2 as6 : Ar} {H2 H6 : Hp}, Ext as2 H2 as6 H6 → H2 p ≠ none → (p ∈ as2.b ∧ p ∉ as2.c) → (∀ a ∈ as1.b, a ∈ as2.b) → (p ∈ as6.b ∧ p ∉ as6.c) ∧ ∀ a ∈ as1.b, a ∈ as6.b := fun {as2 as6 H2 H6} Z hn hb hs => by
          obtain ⟨nb, e, _⟩ := Z.blk
          obtain ⟨more, e', f'⟩ := Z.pre
          refine ⟨⟨by rw [e]; exact List.mem_append_right _ hb.1, ?_⟩, fun a ha => by rw [e]; exact List.mem_append_right _ (hs a ha)⟩
          rw [e', List.mem_append]
          rintro (z | z)
          · exact hb.2 z
          · exact hn (f' p z)
        have X0 : Ext as1 H1 (as1.blk p) (upd H1 p (.lst [])) := ⟨⟨[], (List.append_nil _).symm, by simp⟩, ⟨[p], rfl, by simpa using hp⟩, (Ext.new hp hpo).old, (Ext.new hp hpo).cel, (Ext.new hp hpo).frz⟩
        have s0 : StoR K (as1.blk p) (upd H1 p (.lst [])) μ1 := by
          refine ⟨s1.len, fun k a c ea ec => ?_, s1.nd, fun a ha => ?_⟩
          · exact (s1.at_ k a c ea ec).map (upd_ne fun z => hpo.1 (z ▸ List.mem_of_getElem? ea)) (fun r => r.mv X0) fun c q hc e => ⟨X0.old _ _ hc e, hc⟩
          · rcases List.mem_cons.mp ha with z | z
            · subst z; rw [upd_same]; simp
            · by_cases w : a = p
              · subst w; rw [upd_same]; simp
              · rw [upd_ne w]; exact s1.bl a z
        have tr0 := s1.trk
        -- what holds ahead of turn i
        let Pv : Nat → Hp → Prop := fun i H2 => ∃ as2 μ2' vs acc rest, (p ∈ as2.b ∧ p ∉ as2.c) ∧ Ext as1 H1 as2 H2 ∧ EnvR K as2 H2 (L2.wipe σ ws) (wipeR S.ρ ws) ∧ StoR K as2 H2 μ2' ∧ H2 p = some (.lst vs) ∧ Reps K as2 H2 vs acc ∧
          lcL b t f (wipeR S.ρ ws) (ds.drop i) μ2' = some (rest, μ2) ∧ acc ++ rest = xs ∧ (∀ a ∈ as1.b, a ∈ as2.b)
        refine ⟨fun i m H2 => m = ds.length - i ∧ i ≤ ds.length ∧ Pv i H2, ⟨_, rfl, Nat.zero_le _, as1.blk p, μ1, [], [], xs, ⟨List.mem_cons_self, hpo.1⟩, X0, (E.env.mv X1).mv X0 |>.wipe ws, s0, upd_same, .nil, el, rfl, fun a ha => List.mem_cons_of_mem _ ha⟩, ?_⟩
        rintro i m H2 ⟨rfl, hi, as2, μ3, vs, acc, rest, ⟨hb2, hc2⟩, X2, E2, s2, hp2, ra, el2, ex, hsub⟩
        by_cases hlt : i < ds.length
        · refine .inr ⟨it1.go i as2 H2 X2 hlt, Pv (i + 1), fun H3 z => ⟨_, by omega, rfl, hlt, z⟩, fun x H3 y => ?_⟩
          obtain ⟨d0, ed, X3, r3, s3⟩ := it1.yld i as2 H2 μ3 x H3 X2 s2 hlt y
          have hd : ds.drop i = d0 :: ds.drop (i + 1) := by
            rw [List.drop_eq_getElem_cons hlt]
            rw [List.getElem?_eq_getElem hlt] at ed
            cases ed
            rfl
          rw [hd] at el2
          unfold lcL at el2
          split at el2
          · rename_i S3 eb
            have E3 : ER K as2 (L2.wipe σ ws) H3 ⟨wipeR S.ρ ws, μ3⟩ := ⟨E2.mv X3, s3⟩
            refine ⟨as2, _, d0, S3, E3, r3, eb, fun as4 σ4 H4 X4 E4 l4 g4 => ⟨?_, ?_⟩⟩
            · refine (wipe_agree (l4.trans rfl) fun j hj => g4 j fun z => hj (hix j z)).trans ?_
              refine wipe_agree (wipe_length σ ws) fun j hj => ?_
              exact wipe_out hj
            have X24 := X3.trans X4 s2.trk
            split at el2
            · rename_i μ4 et
              refine ⟨as4, S3, true, μ4, E4, et, fun as5 H5 X5 s5 => iteT ?_⟩
              split at el2
              · rename_i x5 μ5 ef
                split at el2
                · rename_i ys μ6 er
                  obtain ⟨rfl, rfl⟩ := pr_inj el2
                  refine ⟨as5, _, x5, μ5, E4.mvE X5 s5, ef, fun y6 as6 H6 X6 r6 s6 => ?_⟩
                  have X26 := X24.trans (X5.trans X6 E4.sto.trk) s2.trk
                  obtain ⟨⟨hp6, hc6⟩, hs6⟩ := carry X26 (by rw [hp2]; simp) ⟨hb2, hc2⟩ hsub
                  have hv6 : H6 p = some (.lst vs) := X26.old p _ hc2 hp2
                  have hl : acc.length < sizeLine := by
                    rw [← ex, List.length_append, List.length_cons] at hz
                    omega
                  have ra6 := ra.mv X26
                  have X16 := X2.trans X26 tr0
                  have E6 := E2.mv X26
                  refine ⟨vs, hv6, by rw [ra.length]; exact hl, as6, μ5, vs ++ [y6], acc ++ [x5], ys, ⟨hp6, hc6⟩, ⟨X16.pre, X16.blk, fun a o ha e => ?_, fun a ha e => ?_, fun a o u e => ?_⟩, ⟨E6.1, fun j e he => ?_⟩, ⟨s6.len, fun k a c ea ec => ?_, s6.nd, fun a ha => ?_⟩, upd_same, (ra6.snoc r6).reblk hp6, er, by rw [← ex, List.append_assoc]; rfl, hs6⟩
                  · rw [upd_ne (ne_of_none e hp)]; exact X16.old a o ha e
                  · by_cases w : a = p
                    · subst w; rw [upd_same]; simp
                    · rw [upd_ne w]; exact X16.cel a ha e
                  · rw [upd_ne (ne_of_none e hp)]; exact X16.frz a o u e
                  · obtain ⟨v, hv, r⟩ := E6.2 j e he
                    exact ⟨v, hv, r.reblk hp6⟩
                  · exact (s6.at_ k a c ea ec).map (upd_ne fun z => hc6 (z ▸ List.mem_of_getElem? ea)) (fun r => r.reblk hp6) fun c q hc e => ⟨by rw [upd_ne fun z => by rw [z, hv6] at e; unfold LamX.CodeO at e; cases e]; exact e, hc⟩
                  · by_cases w : a = p
                    · subst w; rw [upd_same]; simp
                    · rw [upd_ne w]; exact s6.bl a ha
                · cases el2
              · cases el2
            · rename_i μ4 et
              refine ⟨as4, S3, false, μ4, E4, et, fun as5 H5 X5 s5 => iteF ?_⟩
              have X25 := X24.trans X5 s2.trk
              obtain ⟨h5, hs5⟩ := carry X25 (by rw [hp2]; simp) ⟨hb2, hc2⟩ hsub
              exact ⟨as5, μ4, vs, acc, rest, h5, X2.trans X25 tr0, E2.mv X25, s5, X25.old p _ hc2 hp2, ra.mv X25, el2, ex, hs5⟩
            · cases el2
          · cases el2
        · have hn : i = ds.length := by omega
          subst hn
          rw [List.drop_length] at el2
          obtain ⟨rfl, rfl⟩ := pr_inj el2
          rw [List.append_nil] at ex
          subst ex
          refine .inl ⟨it1.stop as2 H2 X2, q (.ref p) ⟨as2.c, as1.b⟩ H2 (X1.trans ⟨X2.pre, ⟨[], rfl, by simp⟩, X2.old, X2.cel, X2.frz⟩ E.sto.trk) (.lst hp2 ⟨hc2, hpo.2⟩ (ra.unblk hsub)) ⟨s2.len, fun k a c ea ec => (s2.at_ k a c ea ec).map rfl (fun r => r.unblk hsub) fun c q h e => ⟨e, h⟩, s2.nd, fun a ha => s2.bl a (hsub a ha)⟩⟩
      · cases e
    · cases e
  · cases e

theorem de_lc {scope : Scope} {own : List (Str × Nat)} (hc : X.calm = true) (hN : X.N.Nodup) (hi : PI X tg iter (tI X.K it)) (ok : BlkOk X.N X.env.scope scope own)
    (hg : ∀ (s : Shared) (H : Hp) (C : Addr) (cl : List (Str × Addr)) (fp : List Addr), PG (X.blk s H scope (compEnvC scope cl C X.env) fp) tg (tG X.K b ix))
    (ht : ∀ (s : Shared) (H : Hp) (C : Addr) (cl : List (Str × Addr)) (fp : List Addr), PTs (X.blk s H scope (compEnvC scope cl C X.env) fp) ifs (tFT X.K t))
    (he : ∀ (s : Shared) (H : Hp) (C : Addr) (cl : List (Str × Addr)) (fp : List Addr), PE (X.blk s H scope (compEnvC scope cl C X.env) fp) elt (tF X.K f))
    (hix : ∀ j ∈ ix, j ∈ own.map (·.2) := by decide) (hs : ∀ x, foldedSetIterable iter X.env x = pure x := by intro _; rfl) :
    PE X (.ListComp elt [⟨tg, iter, ifs, 0⟩] scope pos) (tF X.K (fLc it b t f (own.map (·.2)))) := (pe_lc hc hN hi ok hg ht he hs).imp (tF_lc hix)
theorem ds_setLc {i : Nat} {y : Str} {py spos : Pos} {scope : Scope} {own : List (Str × Nat)} (hc : X.calm = true) (hN : X.N.Nodup) (hy : X.N[i]? = some y) (hyl : X.env.scope.names.lookup y = some .local)
    (hsw : swapsWith (.ListComp elt [⟨tg, iter, ifs, 0⟩] scope pos) (some (.Name y py)) spos.line X.env = pure true) (hi : PI X tg iter (tI X.K it)) (ok : BlkOk X.N X.env.scope scope own)
    (hg : ∀ (s : Shared) (H : Hp) (C : Addr) (cl : List (Str × Addr)) (fp : List Addr), PG (X.blk s H scope (compEnvC scope cl C X.env) fp) tg (tG X.K b ix))
    (ht : ∀ (s : Shared) (H : Hp) (C : Addr) (cl : List (Str × Addr)) (fp : List Addr), PTs (X.blk s H scope (compEnvC scope cl C X.env) fp) ifs (tFT X.K t))
    (he : ∀ (s : Shared) (H : Hp) (C : Addr) (cl : List (Str × Addr)) (fp : List Addr), PE (X.blk s H scope (compEnvC scope cl C X.env) fp) elt (tF X.K f))
    (hix : ∀ j ∈ ix, j ∈ own.map (·.2) := by decide) (hs : ∀ x, foldedSetIterable iter X.env x = pure x := by intro _; rfl) :
    PS X (.Assign [.Name y py] (.ListComp elt [⟨tg, iter, ifs, 0⟩] scope pos) spos) (tFS X.K X.mg W (bThen (bName i) (fLc it b t f (own.map (·.2))))) :=
  (ps_setLc hc hN hy hyl hsw hi ok hg ht he hs).imp fun D σ H z => tF_lc hix σ H _ (bThen_of (g := gName i) gName_of D σ H z)
end

/-! ### defs -/
abbrev FnF := List D → List Cell → Option (Ov × List Cell)
/-- what is wished of an exception, by its name -/
def outD (K : PySem.W.Frag) (mg : Str → Option Value) (as : Ar) (H : Hp) (Q : VK) (E : XK) : Ov → List Cell → Prop
  | .v d, μ' => ∀ v as' H', Ext as H as' H' → Rep K as' H' v d → StoR K as' H' μ' → Q v H'
  | .x n p, μ' => ∀ as' H' C dx, Ext as H as' H' → StoR K as' H' μ' → mg n = some C → XR K as' H' dx p → E C dx H'
def spD (K : PySem.W.Frag) (mg : Str → Option Value) (n : Nat) (F : FnF) : Sp := fun vs H Q E => ∃ as μ ds o μ', vs.length = n ∧ Reps K as H vs ds ∧ StoR K as H μ ∧ F ds μ = some (o, μ') ∧ outD K mg as H Q E o μ'
def fnF (n N : Nat) (body : EvS) : FnF := fun ds μ => match body ⟨ds.map some ++ List.replicate (N - n) none, μ⟩ with
  | some (.rt d, S') => some (.v d, S'.μ)
  | some (.nx, S') => some (.v .non, S'.μ)
  | some (.ex n p, S') => some (.x n p, S'.μ)
  | _ => none
/-- a def keeps its promise wherever nothing that guards runs around it -/
structure FG (P : Program) (w : World) (K : PySem.W.Frag) (mg : Str → Option Value) (base : Heap) (k : Nat) (f : Addr) (fd : FuncData) (n : Nat) (F : FnF) : Prop where
  ps : ∃ ps : List Str, ps.length = n ∧ Binds K fd ps [] ∧ PySem.W.keepIn K (.ref f) = true ∧
    ∀ (A : Around) (stk : List Env) (st : Shared) (H : Hp) (ar : Args) (us : List Value) (vs : List V) (Q : VK) (E : XK), Room k A → A.guards = some [] → Env0 P w K mg base A stk st H → BindsTo st fd ar (ps.zip us) → Vals vs us → spD K mg n F vs H Q E →
      codeAny (model P w) A (.call (.ref f) ar) (CR (CX P w) stk P w H st Q E) st
theorem FG.mono {P : Program} {w : World} {K : PySem.W.Frag} {mg : Str → Option Value} {base : Heap} {j k : Nat} {f : Addr} {fd : FuncData} {n : Nat} {F : FnF} (h : FG P w K mg base j f fd n F) (hk : j ≤ k) : FG P w K mg base k f fd n F := by
  obtain ⟨ps, a, b, c, q⟩ := h.ps
  exact ⟨ps, a, b, c, fun A stk st H ar us vs Q E hr => q A stk st H ar us vs Q E (hr.mono hk)⟩
section
variable {P : Program} {w : World} {K : PySem.W.Frag} {mg : Str → Option Value} {base : Heap}
theorem guards_deeper {A : Around} {env : Env} (h : A.guards = some []) : (A.deeper env).guards = some [] := h
abbrev cxB (P : Program) (w : World) (K : PySem.W.Frag) (mg : Str → Option Value) (base : Heap) (N : List Str) (qual : Str) (st : Stmt) (f : Addr) (cdv : Value) (A : Around) (stk : List Env) (s : Shared) (H : Hp) (E : XK) : Cx :=
  cxOf (CX P w) P w K mg base N qual (defScope st) f cdv A stk s H E
/-- a def's own wish -/
abbrev WfD (E : XK) : WX := fun cls d _ H => E cls d H
theorem takesB {N : List Str} {qual : Str} {st : Stmt} {f : Addr} {cdv : Value} {A : Around} {stk : List Env} {s : Shared} {H : Hp} {E : XK} : Takes (cxB P w K mg base N qual st f cdv A stk s H E) (WfD E) :=
  takes_of (X := cxB P w K mg base N qual st f cdv A stk s H E) rfl rfl rfl rfl
theorem passB {N : List Str} {qual : Str} {st : Stmt} {f : Addr} {cdv : Value} {A : Around} {stk : List Env} {s : Shared} {H : Hp} {E : XK} : PassesOwn (model P w) (cxB P w K mg base N qual st f cdv A stk s H E).A (cxB P w K mg base N qual st f cdv A stk s H E).env (cxB P w K mg base N qual st f cdv A stk s H E).xe :=
  passes_of (X := cxB P w K mg base N qual st f cdv A stk s H E) rfl
theorem fg_def {x qual : Str} {st : Stmt} {f : Addr} {fd : FuncData} {N ps : List Str} {k : Nat} {g : EvS} (Fu : Fun K x qual st f fd) (S : FnScope N ps (defScope st))
    (hB : ∀ (kV doc pm : Value) (an : Option Addr) (cdv ct : Value) (us : List Value), us.length = ps.length → bindArgs (PySem.W.fnOf x qual (defArgs st) (defBody st) (defScope st) .none kV doc pm an cdv ct) ⟨us, []⟩ = pure (ps.zip us))
    (hbody : ∀ (cdv : Value) (A : Around) (stk : List Env) (s : Shared) (H : Hp) (E : XK), Room k (cxB P w K mg base N qual st f cdv A stk s H E).A → (cxB P w K mg base N qual st f cdv A stk s H E).A.guards = some [] → PSs (cxB P w K mg base N qual st f cdv A stk s H E) (defBody st) (tFS K mg (WfD E) g)) :
    FG P w K mg base (k + 1) f fd ps.length (fnF ps.length N.length g) := by
  refine ⟨⟨ps, rfl, Fu.binds hB, Fu.kp, fun A stk st' H ar us vs Q E hr hgd e0 hbind r hsp => ?_⟩⟩
  obtain ⟨oc, od, kV, doc, pm, an, cdv, ct, osl, rfl, lk, hcd⟩ := Fu.ex
  obtain ⟨as, μ, ds, o, μ', hl, rs, sto, ef, q⟩ := hsp
  have KX : K.In st'.heap := e0.mod.kin.keeps fun b o e => (e0.bs b o e).1
  have nolim : st'.heap.NoLimit := e0.mod.nolimit.keeps fun b o e => (e0.bs b o e).1
  have seen : ∀ y ∈ ps.zip us, (defScope st).names.lookup y.1 = some .local ∨ ((defScope st).names.lookup y.1 = some .cell ∧ ((cellsFrom (st'.heap.objs.size + 1) (defScope st).names []).lookup y.1).isSome = true) := fun ⟨n, v⟩ hy =>
    (S.par n (List.of_mem_zip hy).1).elim .inl fun c => .inr ⟨c, PySem.W.cellsFrom_some _ _ _ (.inl c)⟩
  refine codeAny_call_function hr.depth (KX _ _ lk) rfl S.co S.gen rfl (PySem.W.codeRec_of KX hcd) (hbind _ _ _ _ ?_)
  refine wpAny_newFunctionEnv_cells S.kind seen fun env he s1 ic => ?_
  subst he
  refine ⟨nolim.keeps ic.toInCall.keep, codeAny_func ?_⟩
  have I0 : Inv (cxB P w K mg base N qual st f cdv A stk st' H E) [] (L2.start N vs) H s1 := inv_start S hr.hd e0 hl r ic
  have hps : ps.length ≤ N.length := by
    have c := congrArg List.length S.pre
    rw [List.length_take] at c
    omega
  have hb := hbody cdv A stk st' H E (hr.deeper _) (guards_deeper hgd)
  -- the entry: the parameters' data
  have en : EnvR K as H (L2.start N vs) (ds.map some ++ List.replicate (N.length - ps.length) none) := by
    refine ⟨?_, fun i d' e => ?_⟩
    · unfold L2.start
      rw [List.length_append, List.length_append, List.length_map, List.length_map, List.length_replicate, List.length_replicate, rs.length, ← hl, rs.length]
    · unfold L2.start
      by_cases hi : i < ds.length
      · rw [List.getElem?_append_left (by simpa using hi), List.getElem?_map] at e
        obtain ⟨d2, e2, e3⟩ := Option.map_eq_some_iff.mp e
        cases e3
        obtain ⟨v, hv, rv⟩ := rs.get e2
        refine ⟨v, ?_, rv⟩
        rw [List.getElem?_append_left (by rw [List.length_map, rs.length]; exact hi), List.getElem?_map, hv]
        rfl
      · rw [List.getElem?_append_right (by simpa using hi), List.getElem?_replicate] at e
        split at e <;> cases e
  obtain ⟨fl, S', eg, hq⟩ : ∃ fl S', g ⟨ds.map some ++ List.replicate (N.length - ps.length) none, μ⟩ = some (fl, S') ∧ endS K mg (WfD E) as H { nx := fun _ H' => Q .non H', rt := Q } fl S' := by
    unfold fnF at ef
    split at ef
    · rename_i d2 S2 e2
      obtain ⟨rfl, rfl⟩ := pr_inj ef
      exact ⟨.rt d2, S2, e2, fun as' v H' X' rv s' => q v as' H' X' rv s'⟩
    · rename_i S2 e2
      obtain ⟨rfl, rfl⟩ := pr_inj ef
      exact ⟨.nx, S2, e2, fun as' σ' H' X' E' => q .non as' H' X' .non E'.sto⟩
    · rename_i n2 p2 S2 e2
      obtain ⟨rfl, rfl⟩ := pr_inj ef
      exact ⟨.ex n2 p2, S2, e2, fun as' σ' H' C dx X' E' ec xr => q as' H' C dx X' E'.sto ec xr⟩
    · cases ef
  refine wpAny_mono (hb.run [] s1 (L2.start N vs) H { nx := fun _ H' => Q .non H', rt := Q } I0 ⟨as, ⟨_, μ⟩, fl, S', ⟨en, sto⟩, eg, hq⟩) (fun fl' s' z => ?_) fun e s' z => z
  cases fl' with
  | ret u =>
    obtain ⟨v, σ', H', J, rv, y⟩ := z
    exact ⟨v, H', J.os, J.bare, J.base, J.hok, rv, y⟩
  | next =>
    obtain ⟨σ', H', J, y⟩ := z
    exact ⟨.non, H', J.os, J.bare, J.base, J.hok, rfl, y⟩
  | brk =>
    obtain ⟨_, _, _, y⟩ := z
    exact y.elim
  | cont =>
    obtain ⟨_, _, _, y⟩ := z
    exact y.elim
end
/-! ### calls -/
section
variable {X : Cx} {k n : Nat} {f : Addr} {fd : FuncData} {F : FnF} {x : Str} {p pos : Pos} {e : Expr} {es : List Expr} {fs : EvA} {W : WX}
theorem run_fg {pins : List (Addr × Obj)} {σ : St} {H : Hp} {s : Shared} {Q : VK} {E : XK} {us : List Value} {vs : List V} (G : FG X.prog X.w X.K X.mg X.base k f fd n F) (hr : Room k X.A) (hgd : X.A.guards = some [])
    (I : Inv X pins σ H s) (r : Vals vs us) (hx : PassesAt (L2.CX X.prog X.w) X σ E) (h : spD X.K X.mg n F vs H Q E) : PySem.W.keepIn X.K (.ref f) = true ∧ wpAny (model X.prog X.w) X.A (call (.ref f) us) (EP X pins σ Q) X.xe s := by
  obtain ⟨ps, hn, hb, hk, run⟩ := G.ps
  refine ⟨hk, ?_⟩
  have hl : (us ++ []).length = ps.length := by
    obtain ⟨as, μ, ds, d, μ', hl, _⟩ := h
    rw [List.append_nil, ← r.length, hl, hn]
  have q := run X.A X.stack s H ⟨us, []⟩ (us ++ []) vs Q E hr hgd I.env0 (hb s us I.kIn hl) (by rw [List.append_nil]; exact r) h
  refine wpAny_call (codeAny_mono q fun res s' hq => ?_)
  cases res with
  | error e => exact hx pins H s e s' I hq
  | ok fl => cases fl with
    | ret u => exact I.after hq
    | _ => exact False.elim hq
theorem passF {σ : St} : PassesAt (L2.CX X.prog X.w) X σ (fun _ _ _ => False) := fun _ _ _ _ _ _ ⟨_, _, _, _, _, _, _, _, _, _, _, _, z⟩ => z.elim
def fCallX (F : FnF) (fs : EvA) : EvX := fun S => match fs S with
  | some (ds, μ1) => F ds μ1
  | none => none
def fCall (F : FnF) (fs : EvA) : EvE := fNox (fCallX F fs)
def fLen (n : Nat) (fs : EvA) : EvA := fun S => match fs S with
  | some (ds, μ1) => if ds.length = n then some (ds, μ1) else none
  | none => none
theorem fCallX_out {S : Sg} {o : Ov} {μ' : List Cell} (e : fCallX F (fLen n fs) S = some (o, μ')) : ∃ ds μ1, fs S = some (ds, μ1) ∧ ds.length = n ∧ F ds μ1 = some (o, μ') := by
  unfold fCallX fLen at e
  split at e
  · rename_i ds μ1 e1
    split at e1
    · rename_i ds' μ1' es
      split at e1
      · rename_i hn
        obtain ⟨rfl, rfl⟩ := pr_inj e1
        exact ⟨_, _, es, hn, e⟩
      · cases e1
    · cases e1
  · cases e
/-- a call whose arguments are read, of any end -/
theorem call_any {pins : List (Addr × Obj)} {s : Shared} {σ : St} {H : Hp} {Q : VK} {E : XK} {as : Ar} {S : Sg} {o : Ov} {μ' : List Cell} (G : FG X.prog X.w X.K X.mg X.base k f fd n F) (hr : Room k X.A) (hgd : X.A.guards = some []) (hg : Gl X x) (hm : X.mg x = some (.ref f)) (ha : PA X (e :: es) (tFA X.K fs)) (hdb : (x == ("__debug__" : Str)) = false)
    (he : starEach (e :: es) X.env = (false, eval e X.env) :: starEach es X.env) (hpl : (backTo pos (starEach es X.env)).any (·.1) = false) (I : Inv X pins σ H s) (ee : ER X.K as σ H S) (ed : fCallX F (fLen n fs) S = some (o, μ')) (hx : PassesAt (L2.CX X.prog X.w) X σ E) (q : outD X.K X.mg as H Q E o μ') :
    wpAny (model X.prog X.w) X.A (eval (.Call (.Name x p) (e :: es) [] pos) X.env) (EP X pins σ Q) X.xe s := by
  obtain ⟨ps, _, _, hk, _⟩ := G.ps
  obtain ⟨ds, μ1, ea, hn, ef⟩ := fCallX_out ed
  refine wpAny_Call_Name_kw (ld_glob I hg hm ?_ hdb)
  refine PySem.W.callWith_K (h₀ := X.base) I.ok.mod.kin hk (thn (ha.run pos pins s σ H (fun vs H1 => spD X.K X.mg n F vs H1 Q E) I ⟨as, S, _, _, ee, ea, fun vs as1 H1 X1 r1 s1 => ?_⟩) fun us s1 ⟨vs, H1, I1, r1, q1⟩ => ⟨I1.kIn, (run_fg G hr hgd I1 r1 hx q1).2⟩) he hpl
  refine ⟨as1, _, _, o, μ', r1.length.trans hn, r1, s1, ef, ?_⟩
  cases o with
  | v d => exact fun v as2 H2 X2 r2 s2 => q v as2 H2 (X1.trans X2 ee.sto.trk) r2 s2
  | x m pp => exact fun as2 H2 C dx X2 s2 ec xr => q as2 H2 C dx (X1.trans X2 ee.sto.trk) s2 ec xr
theorem de_call (G : FG X.prog X.w X.K X.mg X.base k f fd n F) (hr : Room k X.A) (hgd : X.A.guards = some []) (hg : Gl X x) (hm : X.mg x = some (.ref f)) (ha : PA X (e :: es) (tFA X.K fs)) (hdb : (x == ("__debug__" : Str)) = false := by decide)
    (he : starEach (e :: es) X.env = (false, eval e X.env) :: starEach es X.env := by rfl) (hpl : (backTo pos (starEach es X.env)).any (·.1) = false := by rfl) :
    PE X (.Call (.Name x p) (e :: es) [] pos) (tF X.K (fCall F (fLen n fs))) :=
  ⟨fun pins s σ H Q I ⟨as, S, d, μ', E, ed, q⟩ => call_any G hr hgd hg hm ha hdb he hpl I E (fNox_out ed) passF q⟩
theorem de_callX (tk : Takes X W) (G : FG X.prog X.w X.K X.mg X.base k f fd n F) (hr : Room k X.A) (hgd : X.A.guards = some []) (hg : Gl X x) (hm : X.mg x = some (.ref f)) (ha : PA X (e :: es) (tFA X.K fs)) (hdb : (x == ("__debug__" : Str)) = false := by decide)
    (he : starEach (e :: es) X.env = (false, eval e X.env) :: starEach es X.env := by rfl) (hpl : (backTo pos (starEach es X.env)).any (·.1) = false := by rfl) :
    PE X (.Call (.Name x p) (e :: es) [] pos) (tFX X.K X.mg W (fCallX F (fLen n fs))) :=
  ⟨fun pins s σ H Q I ⟨as, S, o, μ', E, ed, q⟩ => call_any (E := L2.WE W σ) G hr hgd hg hm ha hdb he hpl I E ed (passAt tk σ) (by
    cases o with
    | v d => exact q
    | x m pp => exact q)⟩
theorem call_any0 {pins : List (Addr × Obj)} {s : Shared} {σ : St} {H : Hp} {Q : VK} {E : XK} {as : Ar} {S : Sg} {o : Ov} {μ' : List Cell} (G : FG X.prog X.w X.K X.mg X.base k f fd 0 F) (hr : Room k X.A) (hgd : X.A.guards = some []) (hg : Gl X x) (hm : X.mg x = some (.ref f)) (hdb : (x == ("__debug__" : Str)) = false)
    (I : Inv X pins σ H s) (ee : ER X.K as σ H S) (ed : fCallX F fNil S = some (o, μ')) (hx : PassesAt (L2.CX X.prog X.w) X σ E) (q : outD X.K X.mg as H Q E o μ') :
    wpAny (model X.prog X.w) X.A (eval (.Call (.Name x p) [] [] pos) X.env) (EP X pins σ Q) X.xe s := by
  obtain ⟨ps, _, _, hk, _⟩ := G.ps
  refine wpAny_Call_Name_kw (ld_glob I hg hm ?_ hdb)
  exact PySem.W.callWith_K0 I.kIn hk (run_fg (us := []) (vs := []) G hr hgd I .nil hx ⟨as, S.μ, [], o, μ', rfl, .nil, ee.sto, ed, q⟩).2
theorem de_call0 (G : FG X.prog X.w X.K X.mg X.base k f fd 0 F) (hr : Room k X.A) (hgd : X.A.guards = some []) (hg : Gl X x) (hm : X.mg x = some (.ref f)) (hdb : (x == ("__debug__" : Str)) = false := by decide) :
    PE X (.Call (.Name x p) [] [] pos) (tF X.K (fCall F fNil)) :=
  ⟨fun pins s σ H Q I ⟨as, S, d, μ', E, ed, q⟩ => call_any0 G hr hgd hg hm hdb I E (fNox_out ed) passF q⟩
theorem de_callX0 (tk : Takes X W) (G : FG X.prog X.w X.K X.mg X.base k f fd 0 F) (hr : Room k X.A) (hgd : X.A.guards = some []) (hg : Gl X x) (hm : X.mg x = some (.ref f)) (hdb : (x == ("__debug__" : Str)) = false := by decide) :
    PE X (.Call (.Name x p) [] [] pos) (tFX X.K X.mg W (fCallX F fNil)) :=
  ⟨fun pins s σ H Q I ⟨as, S, o, μ', E, ed, q⟩ => call_any0 (E := L2.WE W σ) G hr hgd hg hm hdb I E ed (passAt tk σ) (by
    cases o with
    | v d => exact q
    | x m pp => exact q)⟩
end
end DL
namespace DL
open PySem PySem.Spec PyProof.Rows L2
/-! ### the law's own call -/
theorem room_caller : callerA.guards = some [] := rfl
theorem law_data {P : Program} {w : World} {K : PySem.W.Frag} {mg mb : Str → Option Value} {k : Nat} {fa a : Addr} {fd : FuncData} {F : FnF} {s : Shared} {us : List Value} {ns : List Int}
    (kin : K.In s.heap) (gl : s.heap.Ns mainGlobals mg) (bl : s.heap.Ns builtinsNs mb) (bb : ∀ x : Str, x ≠ "__name__" → mb x = bootBuiltins x) (nl : s.heap.NoLimit) (gens : s.gens = #[])
    (hobj : s.heap.get? a = some { cls := .type "list", data := .seq us.toArray }) (hints : IntsAre us ns) (few : ns.length ≤ sizeLine) (hr : Room k callerA)
    (G : ∀ base : Heap, K.In base → base.Ns mainGlobals mg → FG P w K mg base k fa fd 1 F)
    (val : ∃ μ', F [.rl (ns.map D.int)] [] = some (.v (.bl true), μ')) :
    codeAny (model P w) callerA (.call (.ref fa) ⟨[.ref a], []⟩) (fun r s' => r = .ok (.ret (.bool true)) ∧ OldK s.heap s'.heap ∧ s'.os = s.os ∧ AllBare s'.gens) s := by
  have rv := vals_ints hints
  obtain ⟨μ', val⟩ := val
  -- an abstract heap that tracks the script alone, or nothing
  have core : ∀ H : Hp, (∀ b u, H b = some u → b = a ∧ ∃ o vs, u = .frz o (.lst vs)) → TrL K ⟨[], []⟩ H a (ns.map V.int) → HOk P w H s.heap → (H a ≠ none → K.lookup a = none) →
      codeAny (model P w) callerA (.call (.ref fa) ⟨[.ref a], []⟩) (fun r s' => r = .ok (.ret (.bool true)) ∧ OldK s.heap s'.heap ∧ s'.os = s.os ∧ AllBare s'.gens) s := by
    intro H only tr hok hK
    have hid : ∀ {b : Addr} {o : Obj}, s.heap.get? b = some o → H b = none → (hidT s.heap H).get? b = some o := fun e n => hidT_get e n
    have free : ∀ {b : Addr} {o : Obj} {es : Array DictEntry} {ep : Nat}, s.heap.get? b = some o → o.data = .dict es ep → H b = none := fun {b o es ep} e d => by
      cases q : H b with
      | none => rfl
      | some u =>
        obtain ⟨rfl, _⟩ := only b u q
        rw [hobj] at e
        cases e
        cases d
    have ns1 : ∀ {b : Addr} {m : Str → Option Value}, s.heap.Ns b m → (hidT s.heap H).Ns b m := fun {b m} ⟨o, es, ep, e, d, r⟩ => ⟨o, es, ep, hid e (free e d), d, r⟩
    have kin1 : K.In (hidT s.heap H) := fun b o e => hid (kin b o e) (by
      cases q : H b with
      | none => rfl
      | some u =>
        obtain ⟨rfl, _⟩ := only b u q
        have z := hK (by rw [q]; simp)
        rw [z] at e
        cases e)
    have md : Mod K mg (hidT s.heap H) := ⟨kin1, ns1 gl, ⟨mb, ns1 bl, bb⟩, nl.elim fun mc z => ⟨mc, ns1 z.1, z.2⟩⟩
    have en : Env0 P w K mg (hidT s.heap H) callerA [] s H := ⟨rfl, md, fun b o e => of_hidT e, by rw [hidT_size]; exact Nat.le_refl _, trivial, fun b hb => (List.not_mem_nil hb).elim, hok, .of_eq gens⟩
    obtain ⟨ps, hn, hb, hk, run⟩ := (G _ kin1 (ns1 gl)).ps
    have hbd : BindsTo s fd ⟨[.ref a], []⟩ (ps.zip [.ref a]) := by
      have z := hb s [.ref a] kin (by simp [hn])
      simpa using z
    refine codeAny_mono (run callerA [] s H ⟨[.ref a], []⟩ [.ref a] [.ref a] (fun v _ => v = .bl true) (fun _ _ _ => False) hr room_caller en hbd (.cons rfl .nil)
      ⟨⟨[], []⟩, [], [.rl (ns.map D.int)], .v (.bl true), μ', rfl, .cons (.rl tr Reps.ints) .nil, ⟨rfl, fun k b c e => by simp at e, List.nodup_nil, fun b hb => (List.not_mem_nil hb).elim⟩, val, fun v as' H' X' r s' => by cases r; rfl⟩) fun r s' h => ?_
    cases r with
    | error e =>
      obtain ⟨_, _, _, _, _, _, _, _, _, _, _, _, z⟩ := h
      exact z.elim
    | ok fl => cases fl with
      | ret u =>
        obtain ⟨v, H', eos, bare, un, hok', ru, q⟩ := h
        subst q
        cases ru
        refine ⟨rfl, OldK.of_keep fun b o e => ?_, eos, bare⟩
        cases z : H b with
        | none => exact un.keep b o e z (fun y => (List.not_mem_nil y).elim) (by simp)
        | some u =>
          obtain ⟨rfl, ob, vs, rfl⟩ := only b u z
          obtain ⟨e1, _⟩ := hok b _ z
          obtain ⟨e2, _⟩ := hok' b _ (un.frzs b ob _ z)
          rw [e] at e1
          cases e1
          exact e2
      | _ => exact False.elim h
  have lenV : ns.length = us.length := by
    have z := rv.length
    rw [List.length_map] at z
    exact z
  cases hk : K.lookup a with
  | some o =>
    have e := kin a o hk
    rw [hobj] at e
    cases e
    refine core (fun _ => none) (fun b u z => nomatch (show none = some u from z)) (.inr fun H' => .inr ⟨_, us.toArray, _, hk, rfl, rfl, rfl, by rw [List.size_toArray, ← lenV]; exact few, by simpa using rv⟩) (fun b u z => nomatch (show none = some u from z)) fun z => absurd rfl z
  | none =>
    have at1 : ∀ b u, (fun b : Addr => if b = a then some (HO.frz { cls := .type "list", data := .seq us.toArray } (.lst (ns.map V.int))) else none) b = some u → b = a ∧ u = HO.frz { cls := .type "list", data := .seq us.toArray } (.lst (ns.map V.int)) := fun b u z => by
      by_cases hb : b = a
      · exact ⟨hb, (Option.some.inj ((if_pos hb).symm.trans z)).symm⟩
      · exact nomatch ((if_neg hb).symm.trans z)
    refine core (fun b => if b = a then some (.frz { cls := .type "list", data := .seq us.toArray } (.lst (ns.map V.int))) else none) (fun b u z => ⟨(at1 b u z).1, _, _, (at1 b u z).2⟩) (.inl ⟨.inr ⟨_, if_pos rfl⟩, List.not_mem_nil, List.not_mem_nil⟩) (fun b u z => ?_) fun _ => hk
    obtain ⟨rfl, rfl⟩ := at1 b u z
    exact ⟨hobj, by rw [List.length_map]; exact few, us, _, rv, hobj⟩
theorem walkD {l : PySem.W.OpenLaw} {n k : Nat} {q : Program} {loose : List Str} {XP : (Str → Option Value) → Heap → Prop} {YP : World → Heap → Prop} {d : DefRec} {K : Params → PySem.W.Frag} {F : FnF}
    (hn : l.most = some n) (hn2 : n ≤ sizeLine) (hdf : d.params.defaults = []) (hr : Room k callerA) (hY : ∀ (w : World) (h : Heap), YP w h → (K w.params).In h)
    (G : ∀ (w : World) (mg : Str → Option Value) (fa : Addr) (h : Heap), (K w.params).In h → h.Ns mainGlobals mg → mg d.name = some (.ref fa) →
      ∃ fd : FuncData, ∀ base : Heap, (K w.params).In base → base.Ns mainGlobals mg → FG l.prog w (K w.params) mg base k fa fd 1 F)
    (val : ∀ ns : List Int, ns.length ≤ n → ∃ μ', F [.rl (ns.map D.int)] [] = some (.v (.bl true), μ')) :
    PySem.W.WalkO q loose XP YP l.row.toRowW d [] (fun f vs => PySem.call f vs) :=
  Att.attach_call hn hdf fun w s₀ s₁ mg mb fa o pm cd doc a vs ns T Y ho hd hcd hmg hobj hints hlen gens => by
    have kin := hY w _ Y
    obtain ⟨fd, hF⟩ := G w mg fa _ kin T.T.g hmg
    exact law_data kin T.T.g T.T.b T.T.builtins T.T.nolimit gens hobj hints (Nat.le_trans hlen hn2) hr hF (val ns hlen)
end DL
namespace DL
open PySem L2
section
variable {X : Cx} {o a : Expr} {es : List Expr} {fa fb : EvE} {fs : EvA} {name : Str} {apos cpos pos : Pos}
theorem sm_rule {id : String} {C : Str → Prop} {P : Str → Bool} {g : Str → V} {gd : Str → D} (h : MtR X id (fun x xs H Q => ∃ z, x = .str z ∧ xs = [] ∧ C z ∧ Q (g z) H)) (hC : ∀ z, P z = true → C z) (hg : ∀ z as H, Rep X.K as H (g z) (gd z)) :
    MtR X id (fun x xs H Q => ∃ z, x = .str z ∧ xs = [] ∧ P z = true ∧ ∀ v, (∀ as, Rep X.K as H v (gd z)) → Q v H) := fun pins s σ H x xs v us Q I rx rs ⟨z, e1, e2, e3, q⟩ =>
  h pins s σ H x xs v us Q I rx rs ⟨z, e1, e2, hC z e3, q _ fun as => hg z as H⟩
def dUpper : D → List Cell → Option D := dS0 (fun z => decide (z.length ≤ 5592405)) fun z => .str (Txt.upper z)
def dIsascii : D → List Cell → Option D := dS0 (fun _ => true) fun z => .bl (Txt.isascii z)
def dIsalpha : D → List Cell → Option D := dS0 (fun _ => true) fun z => .bl (Txt.isalpha z)
def dIslower : D → List Cell → Option D := dS0 (fun _ => true) fun z => .bl (Txt.islower z)
theorem de_upper (ho : PE X o (tF X.K fa)) (hbase : attributeBase o "upper" X.env (eval o X.env) = eval o X.env := by rfl) (hline : (apos.endLine == cpos.line) = true := by rfl) :
    PE X (.Call (.Attribute o "upper" apos) [] [] cpos) (tF X.K (fU dUpper fa)) :=
  de_sm0 PySem.F.slot_str_upper PySem.F.type_str_upper (sm_rule (mt_upper (X := X)) (fun z h => of_decide_eq_true h) fun z as H => .str _) ho hbase hline
theorem de_isascii (ho : PE X o (tF X.K fa)) (hbase : attributeBase o "isascii" X.env (eval o X.env) = eval o X.env := by rfl) (hline : (apos.endLine == cpos.line) = true := by rfl) :
    PE X (.Call (.Attribute o "isascii" apos) [] [] cpos) (tF X.K (fU dIsascii fa)) :=
  de_sm0 PySem.F.slot_str_isascii PySem.F.type_str_isascii (sm_rule (mt_isascii (X := X)) (fun _ _ => trivial) fun z as H => .bl _) ho hbase hline
theorem de_isalpha (ho : PE X o (tF X.K fa)) (hbase : attributeBase o "isalpha" X.env (eval o X.env) = eval o X.env := by rfl) (hline : (apos.endLine == cpos.line) = true := by rfl) :
    PE X (.Call (.Attribute o "isalpha" apos) [] [] cpos) (tF X.K (fU dIsalpha fa)) :=
  de_sm0 PySem.F.slot_str_isalpha PySem.F.type_str_isalpha (sm_rule (mt_isalpha (X := X)) (fun _ _ => trivial) fun z as H => .bl _) ho hbase hline
theorem de_islower (ho : PE X o (tF X.K fa)) (hbase : attributeBase o "islower" X.env (eval o X.env) = eval o X.env := by rfl) (hline : (apos.endLine == cpos.line) = true := by rfl) :
    PE X (.Call (.Attribute o "islower" apos) [] [] cpos) (tF X.K (fU dIslower fa)) :=
  de_sm0 PySem.F.slot_str_islower PySem.F.type_str_islower (sm_rule (mt_islower (X := X)) (fun _ _ => trivial) fun z as H => .bl _) ho hbase hline
/-- all of them texts -/
def strsOf : List D → Option (List Str)
  | [] => some []
  | .str z :: r => (strsOf r).map (z :: ·)
  | _ :: _ => none
theorem strs_ok {K : PySem.W.Frag} {as : Ar} {H : Hp} : ∀ {vs : List V} {ds : List D} {zs : List Str}, Reps K as H vs ds → strsOf ds = some zs → vs = zs.map V.str
  | _, _, _, .nil, e => by cases e; rfl
  | _, d :: ds, _, .cons h t, e => by
    cases d with
    | str z =>
      simp only [strsOf] at e
      obtain ⟨r, er, rfl⟩ := Option.map_eq_some_iff.mp e
      cases h
      rw [List.map_cons, strs_ok t er]
    | _ => cases e
/-- the items of a list or a tuple -/
def asSq : D → List Cell → Option (List D)
  | .tup xs, _ => some xs
  | d, μ => asSL d μ
theorem asSq_ok {K : PySem.W.Frag} {as : Ar} {H : Hp} {v : V} {d : D} {μ : List Cell} {xs : List D} (r : Rep K as H v d) (s : StoR K as H μ) (e : asSq d μ = some xs) : ∃ a vs, v = .ref a ∧ (SqL K H a vs ∨ SqT K H a vs) ∧ Reps K as H vs xs := by
  unfold asSq at e
  split at e
  · cases r with
    | tup t rs => cases Option.some.inj e; exact ⟨_, _, rfl, .inr t.sq, rs⟩
  · obtain ⟨a, vs, h1, h2, h3⟩ := asSL_ok r s e
    exact ⟨a, vs, h1, .inl h2, h3⟩
def dJoin : D → D → List Cell → Option D
  | .str z, d, μ => match asSq d μ with
    | some xs => match strsOf xs with
      | some zs => if (zs.map (·.length)).sum + zs.length * z.length ≤ 16777216 then some (.str (Txt.join z zs)) else none
      | none => none
    | none => none
  | _, _, _ => none
theorem dJoin_out {x y z : D} {μ : List Cell} (e : dJoin x y μ = some z) : ∃ t xs zs, x = .str t ∧ asSq y μ = some xs ∧ strsOf xs = some zs ∧ (zs.map (·.length)).sum + zs.length * t.length ≤ 16777216 ∧ z = .str (Txt.join t zs) := by
  unfold dJoin at e
  split at e
  · split at e
    · rename_i h1
      split at e
      · rename_i h2
        split at e
        · rename_i h3
          exact ⟨_, _, _, rfl, h1, h2, h3, (Option.some.inj e).symm⟩
        · cases e
      · cases e
    · cases e
  · cases e
theorem fB_out {g : D → D → List Cell → Option D} {S : Sg} {d : D} {μ' : List Cell} (e : fB g fa fb S = some (d, μ')) : ∃ x μ1 y, fa S = some (x, μ1) ∧ fb { S with μ := μ1 } = some (y, μ') ∧ g x y μ' = some d := by
  unfold fB at e
  split at e
  · rename_i x μ1 ea
    split at e
    · rename_i y μ2 eb
      split at e
      · rename_i z ez
        obtain ⟨rfl, rfl⟩ := pr_inj e
        exact ⟨x, μ1, y, ea, eb, ez⟩
      · cases e
    · cases e
  · cases e
theorem de_join (ho : PE X o (tF X.K fa)) (he : PE X a (tF X.K fb)) (hs : starEach [a] X.env = [(false, eval a X.env)] := by rfl) (hbase : attributeBase o "join" X.env (eval o X.env) = eval o X.env := by rfl) (hline : (apos.endLine == cpos.line) = true := by rfl) :
    PE X (.Call (.Attribute o "join" apos) [a] [] cpos) (tF X.K (fB dJoin fa fb)) := (pe_join ho he hs hbase hline).imp fun σ H Q ⟨as, S, d, μ', E, e, q⟩ => by
  obtain ⟨x, μ1, y, ea, eb, ez⟩ := fB_out e
  obtain ⟨t, xs, zs, rfl, h1, h2, h3, rfl⟩ := dJoin_out ez
  refine ⟨as, S, _, μ1, E, ea, fun v as1 H1 X1 r1 s1 => ?_⟩
  cases r1
  refine ⟨⟨t, rfl⟩, as1, _, y, μ', E.mvE X1 s1, eb, fun w as2 H2 X2 r2 s2 => ?_⟩
  obtain ⟨p, vs, rfl, hq, rs⟩ := asSq_ok r2 s2 h1
  have ev := strs_ok rs h2
  subst ev
  exact ⟨t, p, zs, rfl, rfl, hq, h3, q _ as2 H2 (X1.trans X2 E.sto.trk) (.str _) s2⟩
theorem de_dct0 : PE X (.Dict [] [] pos) (tF X.K (fC (.dct []))) := pe_dnewK.imp fun σ H Q ⟨as, S, d, μ', E, e, q⟩ p hp => by
  obtain ⟨rfl, rfl⟩ := pr_inj e
  exact q _ as _ (Ext.new hp (E.sto.out hp)) (.dct (kvs := []) (ds := []) upd_same (E.sto.out hp) rfl .nil) (E.sto.new hp)
end
/-! ### a new list that will change: a new cell -/
section
variable {X : Cx} {es : List Expr} {fs : EvA} {pos : Pos}
theorem StoR.grow {K : PySem.W.Frag} {as : Ar} {H : Hp} {μ : List Cell} {p : Addr} {vs : List V} {ds : List D} (s : StoR K as H μ) (hp : H p = none) (r : Reps K as H vs ds) :
    Ext as H ⟨as.c ++ [p], as.b⟩ (L2.upd H p (.lst vs)) ∧ StoR K ⟨as.c ++ [p], as.b⟩ (L2.upd H p (.lst vs)) (μ ++ [.lst ds]) := by
  have n := s.out hp
  have X1 : Ext as H ⟨as.c ++ [p], as.b⟩ (L2.upd H p (.lst vs)) := ⟨⟨[p], rfl, by simpa using hp⟩, ⟨[], rfl, by simp⟩, (Ext.new hp n).old, (Ext.new hp n).cel, (Ext.new hp n).frz⟩
  refine ⟨X1, by simp [s.len], fun k a c ea ec => ?_, ?_, fun a ha => ?_⟩
  · by_cases hk : k < μ.length
    · have hk' : k < as.c.length := by rw [s.len]; exact hk
      rw [List.getElem?_append_left hk'] at ea
      rw [List.getElem?_append_left hk] at ec
      exact (s.at_ k a c ea ec).mv X1 (upd_ne fun z => n.1 (z ▸ List.mem_of_getElem? ea))
    · have hk' : ¬ k < as.c.length := by rw [s.len]; exact hk
      rw [List.getElem?_append_right (by omega)] at ea
      rw [List.getElem?_append_right (by omega)] at ec
      have h0 : k - μ.length = 0 := by
        have := (List.getElem?_eq_some_iff.mp ec).1
        simpa using this
      rw [h0] at ec
      rw [s.len, h0] at ea
      cases ec
      cases ea
      exact ⟨vs, upd_same, r.mv X1⟩
  · rw [List.nodup_append]
    exact ⟨s.nd, by simp, fun a ha b hb e => n.1 (by simp at hb; rw [← hb, ← e]; exact ha)⟩
  · by_cases z : a = p
    · subst z; rw [upd_same]; simp
    · rw [upd_ne z]; exact s.bl a ha
def fNewC (fs : EvA) : EvE := fun S => match fs S with
  | some (xs, μ1) => if xs.length ≤ sizeLine then some (.h μ1.length, μ1 ++ [.lst xs]) else none
  | none => none
theorem de_lstC (ha : PA X es (tFA X.K fs)) : PE X (.List es pos) (tF X.K (fNewC fs)) := by
  refine (pe_lst ha).imp fun σ H Q ⟨as, S, d, μ', E, e, q⟩ => ?_
  unfold fNewC at e
  split at e
  · rename_i xs μ1 ea
    split at e
    · rename_i hl
      obtain ⟨rfl, rfl⟩ := pr_inj e
      refine ⟨as, S, xs, μ1, E, ea, fun vs as1 H1 X1 r1 s1 => ⟨by rw [r1.length]; exact hl, fun p hp => ?_⟩⟩
      obtain ⟨X2, s2⟩ := s1.grow hp r1
      refine q _ _ _ (X1.trans X2 E.sto.trk) (.h ?_) s2
      rw [List.getElem?_append_right (by rw [s1.len]; exact Nat.le_refl _), s1.len]
      simp
    · cases e
  · cases e
end
/-! ### a def by its name -/
structure Has (P : Program) (w : World) (K : PySem.W.Frag) (mg : Str → Option Value) (base : Heap) (x : Str) (k n : Nat) (F : FnF) : Prop where
  ex : ∃ f fd, mg x = some (.ref f) ∧ FG P w K mg base k f fd n F
section
variable {X : Cx} {k j n : Nat} {F : FnF} {x : Str} {p pos : Pos} {e : Expr} {es : List Expr} {fs : EvA} {W : WX}
theorem de_callH (h : Has X.prog X.w X.K X.mg X.base x j n F) (hr : Room k X.A) (hgd : X.A.guards = some []) (hk : j ≤ k) (hg : Gl X x) (ha : PA X (e :: es) (tFA X.K fs)) (hdb : (x == ("__debug__" : Str)) = false := by decide)
    (he : starEach (e :: es) X.env = (false, eval e X.env) :: starEach es X.env := by rfl) (hpl : (backTo pos (starEach es X.env)).any (·.1) = false := by rfl) :
    PE X (.Call (.Name x p) (e :: es) [] pos) (tF X.K (fCall F (fLen n fs))) := by
  obtain ⟨f, fd, hm, G⟩ := h
  exact de_call (G.mono hk) hr hgd hg hm ha hdb he hpl
theorem de_callH0 (h : Has X.prog X.w X.K X.mg X.base x j 0 F) (hr : Room k X.A) (hgd : X.A.guards = some []) (hk : j ≤ k) (hg : Gl X x) (hdb : (x == ("__debug__" : Str)) = false := by decide) :
    PE X (.Call (.Name x p) [] [] pos) (tF X.K (fCall F fNil)) := by
  obtain ⟨f, fd, hm, G⟩ := h
  exact de_call0 (G.mono hk) hr hgd hg hm hdb
theorem de_callHX (tk : Takes X W) (h : Has X.prog X.w X.K X.mg X.base x j n F) (hr : Room k X.A) (hgd : X.A.guards = some []) (hk : j ≤ k) (hg : Gl X x) (ha : PA X (e :: es) (tFA X.K fs)) (hdb : (x == ("__debug__" : Str)) = false := by decide)
    (he : starEach (e :: es) X.env = (false, eval e X.env) :: starEach es X.env := by rfl) (hpl : (backTo pos (starEach es X.env)).any (·.1) = false := by rfl) :
    PE X (.Call (.Name x p) (e :: es) [] pos) (tFX X.K X.mg W (fCallX F (fLen n fs))) := by
  obtain ⟨f, fd, hm, G⟩ := h
  exact de_callX tk (G.mono hk) hr hgd hg hm ha hdb he hpl
theorem de_callHX0 (tk : Takes X W) (h : Has X.prog X.w X.K X.mg X.base x j 0 F) (hr : Room k X.A) (hgd : X.A.guards = some []) (hk : j ≤ k) (hg : Gl X x) (hdb : (x == ("__debug__" : Str)) = false := by decide) :
    PE X (.Call (.Name x p) [] [] pos) (tFX X.K X.mg W (fCallX F fNil)) := by
  obtain ⟨f, fd, hm, G⟩ := h
  exact de_callX0 tk (G.mono hk) hr hgd hg hm hdb
end
end DL
namespace DL
open PySem L2
section
variable {X : Cx}
/-! ### all, any, sum, max, min of a list -/
def blsOf : List D → Option (List Bool)
  | [] => some []
  | .bl b :: ds => (blsOf ds).map (b :: ·)
  | _ :: _ => none
theorem blsOf_ok {K : PySem.W.Frag} {as : Ar} {H : Hp} : ∀ {vs : List V} {ds : List D} {bs : List Bool}, Reps K as H vs ds → blsOf ds = some bs → vs = bs.map V.bl
  | _, _, _, .nil, e => by cases e; rfl
  | v :: vs, d :: ds, bs, .cons h t, e => by
    unfold blsOf at e
    split at e
    · rename_i e0; cases e0
    · rename_i b ds' e0
      cases e0
      obtain ⟨cs, ec, rfl⟩ := Option.map_eq_some_iff.mp e
      cases h
      rw [blsOf_ok t ec]
      rfl
    · cases e
def intsOf : List D → Option (List Int)
  | [] => some []
  | .int b :: ds => (intsOf ds).map (b :: ·)
  | _ :: _ => none
theorem intsOf_ok {K : PySem.W.Frag} {as : Ar} {H : Hp} : ∀ {vs : List V} {ds : List D} {bs : List Int}, Reps K as H vs ds → intsOf ds = some bs → vs = bs.map V.int
  | _, _, _, .nil, e => by cases e; rfl
  | v :: vs, d :: ds, bs, .cons h t, e => by
    unfold intsOf at e
    split at e
    · rename_i e0; cases e0
    · rename_i b ds' e0
      cases e0
      obtain ⟨cs, ec, rfl⟩ := Option.map_eq_some_iff.mp e
      cases h
      rw [intsOf_ok t ec]
      rfl
    · cases e
def dAll : D → List Cell → Option D := fun x μ => match asSL x μ with
  | some xs => (blsOf xs).map fun bs => .bl (bs.all id)
  | none => none
def dAny : D → List Cell → Option D := fun x μ => match asSL x μ with
  | some xs => (blsOf xs).map fun bs => .bl (bs.any id)
  | none => none
def dSum : D → List Cell → Option D := fun x μ => match asSL x μ with
  | some xs => (intsOf xs).map fun ns => .int ns.sum
  | none => none
theorem call_allD (hc : X.calm = true) : CallR X (.builtin "all") (rCD X.K (g1 dAll)) := call1 fun pins s σ H x us Q as d μ z I r rd sto ez q => by
  unfold dAll at ez
  split at ez
  · rename_i xs ex
    obtain ⟨bs, eb, rfl⟩ := Option.map_eq_some_iff.mp ez
    obtain ⟨a, vs, rfl, hq, rs⟩ := asSL_ok rd sto ex
    rw [blsOf_ok rs eb] at hq
    exact cr_all hc pins s σ H _ us Q I r ⟨a, bs, rfl, hq, q _ H .refl (.bl _) sto⟩
  · cases ez
theorem call_anyD (hc : X.calm = true) : CallR X (.builtin "any") (rCD X.K (g1 dAny)) := call1 fun pins s σ H x us Q as d μ z I r rd sto ez q => by
  unfold dAny at ez
  split at ez
  · rename_i xs ex
    obtain ⟨bs, eb, rfl⟩ := Option.map_eq_some_iff.mp ez
    obtain ⟨a, vs, rfl, hq, rs⟩ := asSL_ok rd sto ex
    rw [blsOf_ok rs eb] at hq
    exact cr_any hc pins s σ H _ us Q I r ⟨a, bs, rfl, hq, q _ H .refl (.bl _) sto⟩
  · cases ez
theorem call_sumD (hc : X.calm = true) : CallR X (.builtin "sum") (rCD X.K (g1 dSum)) := call1 fun pins s σ H x us Q as d μ z I r rd sto ez q => by
  unfold dSum at ez
  split at ez
  · rename_i xs ex
    obtain ⟨bs, eb, rfl⟩ := Option.map_eq_some_iff.mp ez
    obtain ⟨a, vs, rfl, hq, rs⟩ := asSL_ok rd sto ex
    rw [intsOf_ok rs eb] at hq
    exact cr_sum hc pins s σ H _ us Q I r ⟨a, bs, rfl, hq, q _ H .refl (.int _) sto⟩
  · cases ez
/-- the greatest, the least of some ints -/
def maxI : List Int → Int
  | [] => 0
  | [a] => a
  | a :: r => if maxI r > a then maxI r else a
def minI : List Int → Int
  | [] => 0
  | [a] => a
  | a :: r => if minI r < a then minI r else a
theorem maxI_is : ∀ {ns : List Int} {m : Int}, m ∈ ns → (∀ y, y ∈ ns → y ≤ m) → m = maxI ns := by
  have ub : ∀ (ns : List Int), ∀ y ∈ ns, y ≤ maxI ns := by
    intro ns
    induction ns with
    | nil => intro y hy; cases hy
    | cons a r ih =>
      intro y hy
      cases r with
      | nil => simp only [List.mem_cons, List.not_mem_nil, or_false] at hy; subst hy; exact Int.le_refl _
      | cons b r =>
        unfold maxI
        rcases List.mem_cons.mp hy with rfl | h
        · split <;> omega
        · have := ih y h
          split <;> omega
  have mem : ∀ (ns : List Int), ns ≠ [] → maxI ns ∈ ns := by
    intro ns
    induction ns with
    | nil => intro h; exact absurd rfl h
    | cons a r ih =>
      intro _
      cases r with
      | nil => exact List.mem_cons_self
      | cons b r =>
        unfold maxI
        split
        · exact List.mem_cons_of_mem _ (ih (by simp))
        · exact List.mem_cons_self
  intro ns m hm h
  have h1 := ub ns m hm
  have h2 := h _ (mem ns (by intro e; subst e; cases hm))
  omega
def dMaxL : D → List Cell → Option D := fun x μ => match asSL x μ with
  | some xs => match intsOf xs with
    | some (n :: ns) => some (.int (maxI (n :: ns)))
    | _ => none
  | none => none
theorem call_maxLD (hc : X.calm = true) : CallR X (.builtin "max") (rCD X.K (g1 dMaxL)) := call1 fun pins s σ H x us Q as d μ z I r rd sto ez q => by
  unfold dMaxL at ez
  split at ez
  · rename_i xs ex
    split at ez
    · rename_i n ns eb
      cases Option.some.inj ez
      obtain ⟨a, vs, rfl, hq, rs⟩ := asSL_ok rd sto ex
      rw [intsOf_ok rs eb] at hq
      exact cr_max hc pins s σ H _ us Q I r ⟨a, _, rfl, hq, by simp, fun m hm h => by rw [maxI_is hm h]; exact q _ H .refl (.int _) sto⟩
    · cases ez
  · cases ez
/-- a name of the module that holds a text -/
theorem de_gstr {i x : Str} {pos : Pos} (hg : Gl X x) (hm : ∃ t, X.mg x = some (.str i t)) (hdb : (x == ("__debug__" : Str)) = false := by decide) : PE X (.Name x pos) (tF X.K (fC (.str i))) :=
  let ⟨t, hm⟩ := hm
  (pe_glob (v := .str i) hg hm ⟨t, rfl⟩ (hd := hdb)).imp (tF_c fun _ _ => .str i)
/-! ### list(..), tuple(..) -/
/-- the items of a list or tuple -/
def asQ : D → List Cell → Option (List D)
  | .tup xs, _ => some xs
  | x, μ => asSL x μ
theorem asQ_ok {K : PySem.W.Frag} {as : Ar} {H : Hp} {v : V} {d : D} {μ : List Cell} {xs : List D} (r : Rep K as H v d) (s : StoR K as H μ) (e : asQ d μ = some xs) : ∃ a vs, v = .ref a ∧ (SqL K H a vs ∨ SqT K H a vs) ∧ Reps K as H vs xs := by
  unfold asQ at e
  split at e
  · cases r with
    | @tup a vs ds t rs =>
      cases Option.some.inj e
      exact ⟨a, vs, rfl, .inr t.sq, rs⟩
  · obtain ⟨a, vs, h1, h2, h3⟩ := asSL_ok r s e
    exact ⟨a, vs, h1, .inl h2, h3⟩
def dList : D → List Cell → Option D := fun x μ => (asQ x μ).map .lst
theorem call_listD : CallR X (.type "list") (rCD X.K (g1 dList)) := call1 fun pins s σ H x us Q as d μ z I r rd sto ez q => by
  obtain ⟨xs, ex, rfl⟩ := Option.map_eq_some_iff.mp ez
  obtain ⟨a, vs, rfl, hq, rs⟩ := asQ_ok rd sto ex
  exact call_list_of pins s σ H _ us Q I r ⟨a, vs, rfl, hq, fun p hp => q _ _ (Ext.new hp (sto.out hp)) (.newL sto hp rs) (sto.new hp)⟩
def dTuple : D → List Cell → Option D
  | .tup xs, _ => some (.tup xs)
  | x, μ => (asSL x μ).map .tup
theorem de_tuple {a : Expr} {fa : EvE} {p pos : Pos} (hg : Gl X "tuple") (hm : X.mg "tuple" = none) (ha : PE X a (tF X.K fa)) (na : starEach [a] X.env = (false, eval a X.env) :: starEach [] X.env := by rfl) :
    PE X (.Call (.Name "tuple" p) [a] [] pos) (tF X.K (fU dTuple fa)) := (pe_tupleOf hg hm ha na).imp fun σ H Q ⟨as, S, d, μ', E, e, q⟩ => by
  obtain ⟨x, ex, ez⟩ := fU_out e
  refine ⟨as, S, x, μ', E, ex, fun v as1 H1 X1 r1 s1 => ?_⟩
  unfold dTuple at ez
  split at ez
  · cases Option.some.inj ez
    cases r1 with
    | @tup b vs ds t rs => exact .inr ⟨b, vs, rfl, t.sq, q _ as1 H1 X1 (.tup t rs) s1⟩
  · obtain ⟨xs, ex', rfl⟩ := Option.map_eq_some_iff.mp ez
    obtain ⟨b, vs, rfl, hq, rs⟩ := asSL_ok r1 s1 ex'
    exact .inl ⟨b, vs, rfl, hq, fun p hp => q _ as1 _ (X1.trans (Ext.new hp (s1.out hp)) E.sto.trk) (.newT s1 hp rs) (s1.new hp)⟩
/-- .. as a list that changes -/
def fListC (fa : EvE) : EvE := fun S => match fa S with
  | some (x, μ1) => match asQ x μ1 with
    | some xs => some (.h μ1.length, μ1 ++ [.lst xs])
    | none => none
  | none => none
def rListC (K : PySem.W.Frag) : List V → Hp → VK → Prop := fun vs H Q => ∃ as x xs μ, Reps K as H vs [x] ∧ StoR K as H μ ∧ asQ x μ = some xs ∧ ∀ v as' H', Ext as H as' H' → Rep K as' H' v (.h μ.length) → StoR K as' H' (μ ++ [.lst xs]) → Q v H'
theorem call_listC : CallR X (.type "list") (rListC X.K) := by
  intro pins s σ H vs us Q I r ⟨as, x, xs, μ, rs, sto, ex, q⟩
  cases rs with
  | cons r1 rt =>
  cases rt
  obtain ⟨a, ws, rfl, hq, rs⟩ := asQ_ok r1 sto ex
  refine call_list_of pins s σ H _ us Q I r ⟨a, ws, rfl, hq, fun p hp => ?_⟩
  obtain ⟨X2, s2⟩ := sto.grow hp rs
  refine q _ _ _ X2 (.h ?_) s2
  rw [List.getElem?_append_right (by rw [sto.len]; exact Nat.le_refl _), sto.len]
  simp
theorem de_listC {a : Expr} {fa : EvE} {p pos : Pos} (hg : Gl X "list") (hm : X.mg "list" = none) (ha : PE X a (tF X.K fa)) (he : starEach [a] X.env = (false, eval a X.env) :: starEach [] X.env := by rfl) (hpl : (backTo pos (starEach [] X.env)).any (·.1) = false := by rfl) :
    PE X (.Call (.Name "list" p) [a] [] pos) (tF X.K (fListC fa)) := (pe_callTy call_listC hg hm (by decide +kernel) (da_cons ha da_nil he) (by decide) (by decide) he hpl).imp fun σ H Q ⟨as, S, d, μ', E, e, q⟩ => by
  unfold fListC at e
  split at e
  · rename_i x μ1 ea
    split at e
    · rename_i xs ex
      obtain ⟨rfl, rfl⟩ := pr_inj e
      exact ⟨as, S, [x], μ1, E, by unfold fCons fNil; rw [ea], fun vs as1 H1 X1 r1 s1 => ⟨as1, x, xs, μ1, r1, s1, ex, fun v as2 H2 X2 r2 s2 => q v as2 H2 (X1.trans X2 E.sto.trk) r2 s2⟩⟩
    · cases e
  · cases e
end
end DL
namespace DL
open PySem L2
section
variable {X : Cx} {a b c o e : Expr} {es : List Expr} {pos p : Pos} {fa fb : EvE} {fs : EvA}
/-! ### slices -/
abbrev EvO := Sg → Option (Option Int × List Cell)
def tFO (K : PySem.W.Frag) (f : EvO) : TO := fun σ H Q => ∃ as S d μ', ER K as σ H S ∧ f S = some (d, μ') ∧ ∀ as' H', Ext as H as' H' → StoR K as' H' μ' → Q d H'
theorem _root_.L2.PO.imp {e : Option Expr} {t t' : TO} (h : PO X e t) (q : ∀ σ H Q, t' σ H Q → t σ H Q) : PO X e t' := ⟨fun pins s σ H Q I z => h.run pins s σ H Q I (q σ H Q z)⟩
def fNo : EvO := fun S => some (none, S.μ)
def fPart (f : EvE) : EvO := fun S => match f S with
  | some (.int i, μ') => some (some i, μ')
  | _ => none
theorem do_none : PO X none (tFO X.K fNo) := po_none.imp fun σ H Q ⟨as, S, d, μ', E, ed, q⟩ => by
  obtain ⟨rfl, rfl⟩ := pr_inj ed
  exact q as H .refl E.sto
theorem do_some (h : PE X a (tF X.K fa)) : PO X (some a) (tFO X.K (fPart fa)) := (po_some h).imp fun σ H Q ⟨as, S, d, μ', E, ed, q⟩ => by
  unfold fPart at ed
  split at ed
  · rename_i i μ1 ea
    obtain ⟨rfl, rfl⟩ := pr_inj ed
    exact ⟨as, S, _, μ1, E, ea, fun v as1 H1 X1 r1 s1 => by cases r1; exact ⟨i, rfl, q as1 H1 X1 s1⟩⟩
  · cases ed
def cutD {α : Type} (xs : List α) (lo hi : Option Int) : List α := (xs.drop (HT.sIx xs.length 0 lo)).take (HT.sIx xs.length xs.length hi - HT.sIx xs.length 0 lo)
theorem Reps.cut {K : PySem.W.Frag} {as : Ar} {H : Hp} {vs : List V} {ds : List D} (r : Reps K as H vs ds) (lo hi : Option Int) : Reps K as H (cutV vs lo hi) (cutD ds lo hi) := by
  unfold cutV cutD
  rw [r.length]
  exact (r.drop _).take _
theorem cut_whole {α : Type} {xs : List α} {lo hi : Option Int} (h : HT.sIx xs.length 0 lo = 0 ∧ HT.sIx xs.length xs.length hi = xs.length) : cutD xs lo hi = xs := by
  unfold cutD
  rw [h.1, h.2, List.drop_zero, Nat.sub_zero, List.take_length]
def dSl (x : D) (lo hi : Option Int) (μ : List Cell) : Option D := match x with
  | .tup xs => some (.tup (cutD xs lo hi))
  | .str z => if z.length ≤ sizeLine then some (.str (Txt.slice z lo hi)) else none
  | x => (asSL x μ).map fun xs => .lst (cutD xs lo hi)
def fSl (fa : EvE) (fl fh : EvO) : EvE := fun S => match fa S with
  | some (x, μ1) => match fl { S with μ := μ1 } with
    | some (lo, μ2) => match fh { S with μ := μ2 } with
      | some (hi, μ3) => (dSl x lo hi μ3).map fun z => (z, μ3)
      | none => none
    | none => none
  | none => none
def rSlD (K : PySem.W.Frag) : V → Option Int → Option Int → Hp → VK → Prop := fun x lo hi H Q => ∃ as d μ z, Rep K as H x d ∧ StoR K as H μ ∧ dSl d lo hi μ = some z ∧ ∀ v H', Ext as H as H' → Rep K as H' v z → StoR K as H' μ → Q v H'
theorem sl_D : SlR X (rSlD X.K) := by
  intro pins s σ H x v vl vu lo hi sl Q I rx hs pl pu ⟨as, d, μ, z, rd, sto, ez, q⟩
  unfold dSl at ez
  split at ez
  · cases Option.some.inj ez
    cases rd with
    | @tup a vs ds t rs =>
      refine sl_tupA pins s σ H _ v vl vu lo hi sl Q I rx hs pl pu ⟨a, vs, rfl, t.sq, fun w => ?_, fun _ p hp => q _ _ (Ext.new hp (sto.out hp)) (.newT sto hp (rs.cut lo hi)) (sto.new hp)⟩
      rw [rs.length] at w
      rw [cut_whole w] at q
      exact q _ H .refl (.tup t rs) sto
  · split at ez
    · rename_i hz
      cases Option.some.inj ez
      cases rd
      exact C8.sl_txt pins s σ H _ v vl vu lo hi sl Q I rx hs pl pu ⟨_, rfl, hz, q _ H .refl (.str _) sto⟩
    · cases ez
  · obtain ⟨xs, ex, rfl⟩ := Option.map_eq_some_iff.mp ez
    obtain ⟨a, vs, rfl, hq, rs⟩ := asSL_ok rd sto ex
    exact sl_list pins s σ H _ v vl vu lo hi sl Q I rx hs pl pu ⟨a, vs, rfl, hq, fun p hp => q _ _ (Ext.new hp (sto.out hp)) (.newL sto hp (rs.cut lo hi)) (sto.new hp)⟩
theorem de_slice {lo hi : Option Expr} {fl fh : EvO} {p2 : Pos} (he : PE X a (tF X.K fa)) (hl : PO X lo (tFO X.K fl)) (hu : PO X hi (tFO X.K fh)) : PE X (.Subscript a (.Slice lo hi none p2) pos) (tF X.K (fSl fa fl fh)) :=
  (pe_slice sl_D he hl hu).imp fun σ H Q ⟨as, S, d, μ', E, ed, q⟩ => by
    unfold fSl at ed
    split at ed
    · rename_i x μ1 ea
      split at ed
      · rename_i l μ2 el
        split at ed
        · rename_i h μ3 eh
          obtain ⟨z, ez, eq⟩ := Option.map_eq_some_iff.mp ed
          obtain ⟨rfl, rfl⟩ := Prod.mk.inj eq
          refine ⟨as, S, x, μ1, E, ea, fun v as1 H1 X1 r1 s1 => ⟨as1, _, l, μ2, E.mvE X1 s1, el, fun as2 H2 X2 s2 => ⟨as2, _, h, μ3, (E.mvE X1 s1).mvE X2 s2, eh, fun as3 H3 X3 s3 => ?_⟩⟩⟩
          have X23 := X2.trans X3 s1.trk
          exact ⟨as3, x, μ3, _, r1.mv X23, s3, ez, fun w H4 X4 r4 s4 => q w as3 H4 (X1.trans (X23.trans X4 s1.trk) E.sto.trk) r4 s4⟩
        · cases ed
      · cases ed
    · cases ed
/-! ### methods of cells -/
def cApp (o d : D) (μ : List Cell) : Option (List Cell) := match o with
  | .h k => match μ[k]? with
    | some (.lst xs) => if xs.length < sizeLine then some (μ.set k (.lst (xs ++ [d]))) else none
    | _ => none
  | _ => none
def isLst (o : D) (μ : List Cell) : Bool := match o with
  | .h k => match μ[k]? with
    | some (.lst _) => true
    | _ => false
  | _ => false
def fApn (fo fd : EvE) : EvE := fun S => match fo S with
  | some (o, μ1) => if isLst o μ1 = true then match fd { S with μ := μ1 } with
    | some (d, μ2) => (cApp o d μ2).map fun μ3 => (.non, μ3)
    | none => none
    else none
  | none => none
theorem cApp_out {o d : D} {μ μ' : List Cell} (e : cApp o d μ = some μ') : ∃ k xs, o = .h k ∧ μ[k]? = some (.lst xs) ∧ xs.length < sizeLine ∧ μ' = μ.set k (.lst (xs ++ [d])) := by
  unfold cApp at e
  split at e
  · split at e
    · rename_i xs ex
      split at e
      · rename_i h
        exact ⟨_, xs, rfl, ex, h, (Option.some.inj e).symm⟩
      · cases e
    · cases e
  · cases e
theorem h_list {K : PySem.W.Frag} {as : Ar} {H : Hp} {μ : List Cell} {k : Nat} {v : V} {xs : List D} (r : Rep K as H v (.h k)) (s : StoR K as H μ) (e : μ[k]? = some (.lst xs)) : ∃ p vs, v = .ref p ∧ as.c[k]? = some p ∧ H p = some (.lst vs) ∧ Reps K as H vs xs := by
  cases r with
  | @h _ p ep =>
    obtain ⟨vs, hv, rs⟩ := s.at_ k p _ ep e
    exact ⟨p, vs, rfl, ep, hv, rs⟩
theorem cell_ty {K : PySem.W.Frag} {as : Ar} {H : Hp} {μ : List Cell} {d : D} {v : V} (r : Rep K as H v d) (s : StoR K as H μ) (e : isLst d μ = true) : tyV K "list" v H := by
  unfold isLst at e
  split at e
  · split at e
    · rename_i xs ex
      obtain ⟨p, vs, rfl, _, hv, _⟩ := h_list r s ex
      exact .inl ⟨rfl, vs, SqL.of hv⟩
    · cases e
  · cases e
theorem de_append {apos cpos : Pos} (ho : PE X o (tF X.K fa)) (he : PE X e (tF X.K fb)) (hbase : attributeBase o "append" X.env (eval o X.env) = eval o X.env := by rfl)
    (hfew : ((backTo cpos (starEach [e] X.env)).all (fun x => !x.1) && (backToKw cpos (keywordEach [] X.env)).all (fun x => x.1.isSome)
      && decide ([e].length + ([] : List Keyword).length + (if ([] : List Keyword).isEmpty then 0 else 1) < 30)) = true := by rfl)
    (hline : (apos.endLine == cpos.line) = true := by rfl) (hs : starEach [e] X.env = (false, eval e X.env) :: starEach [] X.env := by rfl) (hplain : (backTo cpos (starEach [] X.env)).any (·.1) = false := by rfl)
    (hs1 : starEach [e] X.env = [(false, eval e X.env)] := by rfl) :
    PE X (.Call (.Attribute o "append" apos) [e] [] cpos) (tF X.K (fApn fa fb)) :=
  (pe_bm PySem.F.plainAttrs_list PySem.F.slot_list_append PySem.F.type_list_append mt_append ho (da_cons he da_nil hs) hbase hfew hline hs hplain).imp fun σ H Q ⟨as, S, d, μ', E, ed, q⟩ => by
    unfold fApn at ed
    split at ed
    · rename_i x μ1 ea
      split at ed
      rename_i hil
      split at ed
      · rename_i y μ2 eb
        obtain ⟨μ3, ec, eq⟩ := Option.map_eq_some_iff.mp ed
        obtain ⟨rfl, rfl⟩ := Prod.mk.inj eq
        obtain ⟨k, xs, rfl, ex, hz, rfl⟩ := cApp_out ec
        refine ⟨as, S, _, μ1, E, ea, fun v as1 H1 X1 r1 s1 => ⟨?_, as1, _, [y], μ2, E.mvE X1 s1, ?_, fun vs as2 H2 X2 r2 s2 => ?_⟩⟩
        · exact cell_ty r1 s1 hil
        · unfold fCons fNil; rw [eb]
        · cases r2 with
          | cons r2 rt =>
          cases rt
          obtain ⟨p, ws, rfl, ep, hv, rs⟩ := h_list (r1.mv X2) s2 ex
          have X12 := X1.trans X2 E.sto.trk
          obtain ⟨X3, s3⟩ := s2.upd ep (nofrz hv) (rs.snoc r2)
          exact ⟨p, ws, _, rfl, rfl, hv, by rw [rs.length]; exact hz, q .non as2 _ (X12.trans X3 E.sto.trk) .non s3⟩
      · cases ed
      · cases ed
    · cases ed
end
end DL
namespace DL
open PySem L2
section
variable {X : Cx} {a b c o e : Expr} {es : List Expr} {pos p : Pos} {fa fb : EvE} {fs : EvA}
/-! ### pop -/
theorem type_pop : typeOf (.builtin "list.pop") = pure (.type "method_descriptor") := by show builtinType _ = _; rw [builtinType_eq_fast]; kernel_rfl
def cPop (o i : D) (μ : List Cell) : Option (D × List Cell) := match o, i with
  | .h k, .int j => match μ[k]? with
    | some (.lst xs) => if -(2 ^ 63) ≤ j ∧ j < 2 ^ 63 then match seqIndex? j xs.length with
      | some n => match xs[n]? with
        | some d => some (d, μ.set k (.lst (xs.eraseIdx n)))
        | none => none
      | none => none
      else none
    | _ => none
  | _, _ => none
theorem cPop_out {o i d : D} {μ μ' : List Cell} (e : cPop o i μ = some (d, μ')) : ∃ k j xs n, o = .h k ∧ i = .int j ∧ μ[k]? = some (.lst xs) ∧ -(2 ^ 63) ≤ j ∧ j < 2 ^ 63 ∧ seqIndex? j xs.length = some n ∧ xs[n]? = some d ∧ μ' = μ.set k (.lst (xs.eraseIdx n)) := by
  unfold cPop at e
  split at e
  · split at e
    · rename_i xs ex
      split at e
      · rename_i hj
        split at e
        · rename_i n en
          split at e
          · rename_i d1 ed
            obtain ⟨rfl, rfl⟩ := pr_inj e
            exact ⟨_, _, xs, n, rfl, rfl, ex, hj.1, hj.2, en, ed, rfl⟩
          · cases e
        · cases e
      · cases e
    · cases e
  · cases e
theorem Reps.erase {K : PySem.W.Frag} {as : Ar} {H : Hp} : ∀ {vs : List V} {ds : List D} (n : Nat), Reps K as H vs ds → Reps K as H (vs.eraseIdx n) (ds.eraseIdx n)
  | _, _, _, .nil => .nil
  | _, _, 0, .cons _ t => t
  | _, _, n + 1, .cons h t => .cons h (Reps.erase n t)
def fPop (fo fi : EvE) : EvE := fun S => match fo S with
  | some (o, μ1) => if isLst o μ1 = true then match fi { S with μ := μ1 } with
    | some (i, μ2) => cPop o i μ2
    | none => none
    else none
  | none => none
theorem de_pop {apos cpos : Pos} (ho : PE X o (tF X.K fa)) (he : PE X e (tF X.K fb)) (hbase : attributeBase o "pop" X.env (eval o X.env) = eval o X.env := by rfl)
    (hfew : ((backTo cpos (starEach [e] X.env)).all (fun x => !x.1) && (backToKw cpos (keywordEach [] X.env)).all (fun x => x.1.isSome)
      && decide ([e].length + ([] : List Keyword).length + (if ([] : List Keyword).isEmpty then 0 else 1) < 30)) = true := by rfl)
    (hline : (apos.endLine == cpos.line) = true := by rfl) (hs : starEach [e] X.env = (false, eval e X.env) :: starEach [] X.env := by rfl) (hplain : (backTo cpos (starEach [] X.env)).any (·.1) = false := by rfl) :
    PE X (.Call (.Attribute o "pop" apos) [e] [] cpos) (tF X.K (fPop fa fb)) :=
  (pe_bm PySem.F.plainAttrs_list PySem.F.slot_list_pop type_pop mt_popAt ho (da_cons he da_nil hs) hbase hfew hline hs hplain).imp fun σ H Q ⟨as, S, d, μ', E, ed, q⟩ => by
    unfold fPop at ed
    split at ed
    · rename_i x μ1 ea
      split at ed
      rename_i hil
      split at ed
      · rename_i y μ2 eb
        obtain ⟨k, j, xs, n, rfl, rfl, ex, h1, h2, hn, hd, rfl⟩ := cPop_out ed
        refine ⟨as, S, _, μ1, E, ea, fun v as1 H1 X1 r1 s1 => ⟨cell_ty r1 s1 hil, as1, _, [.int j], μ2, E.mvE X1 s1, ?_, fun vs as2 H2 X2 r2 s2 => ?_⟩⟩
        · unfold fCons fNil; rw [eb]
        · cases r2 with
          | cons r2 rt =>
          cases rt
          cases r2
          obtain ⟨p, ws, rfl, ep, hv, rs⟩ := h_list (r1.mv X2) s2 ex
          have X12 := X1.trans X2 E.sto.trk
          obtain ⟨w, hw, rw'⟩ := rs.get hd
          obtain ⟨X3, s3⟩ := s2.upd ep (nofrz hv) (rs.erase n)
          exact ⟨p, ws, j, n, w, rfl, rfl, hv, h1, h2, by rw [rs.length]; exact hn, hw, q w as2 _ (X12.trans X3 E.sto.trk) (rw'.mv X3) s3⟩
      · cases ed
      · cases ed
    · cases ed
/-! ### starred arguments, displays -/
def fStar (fa : EvE) (fs : EvA) : EvA := fun S => match fa S with
  | some (x, μ1) => match asQ x μ1 with
    | some xs => match fs { S with μ := μ1 } with
      | some (ys, μ2) => some (xs ++ ys, μ2)
      | none => none
    | none => none
  | none => none
theorem da_star (ha : PE X a (tF X.K fa)) (hr : PA X es (tFA X.K fs)) (hs : starEach (.Starred a p :: es) X.env = (true, eval a X.env) :: starEach es X.env := by rfl) : PA X (.Starred a p :: es) (tFA X.K (fStar fa fs)) :=
  (StX.pa_star ha hr hs).imp fun σ H Q ⟨as, S, d, μ', E, ed, q⟩ => by
    unfold fStar at ed
    split at ed
    · rename_i x μ1 ea
      split at ed
      · rename_i xs ex
        split at ed
        · rename_i ys μ2 es'
          obtain ⟨rfl, rfl⟩ := pr_inj ed
          refine ⟨as, S, x, μ1, E, ea, fun v as1 H1 X1 r1 s1 => ?_⟩
          obtain ⟨b, vs, rfl, hq, rs⟩ := asQ_ok r1 s1 ex
          exact ⟨b, vs, rfl, hq.symm, as1, _, ys, μ2, E.mvE X1 s1, es', fun ws as2 H2 X2 r2 s2 => q _ as2 H2 (X1.trans X2 E.sto.trk) ((rs.mv X2).append r2) s2⟩
        · cases ed
      · cases ed
    · cases ed
/-! ### zip, enumerate -/
def zipD (xs ys : List D) : List D := List.zipWith (fun x y => D.tup [x, y]) xs ys
def gZip (fs : EvA) : EvI := fun S => match fs S with
  | some ([.tup xs, .tup ys], μ1) => some (zipD xs ys, μ1)
  | some ([.lst xs, .lst ys], μ1) => some (zipD xs ys, μ1)
  | _ => none
theorem zipD_get {xs ys : List D} {i : Nat} {x y : D} (hx : xs[i]? = some x) (hy : ys[i]? = some y) : (zipD xs ys)[i]? = some (.tup [x, y]) := by
  unfold zipD
  rw [List.getElem?_zipWith, hx, hy]
theorem zipD_len {xs ys : List D} : (zipD xs ys).length = min xs.length ys.length := by simp [zipD]
theorem di_zip {e2 : Expr} {tpos : Pos} {elts : List Expr} {kk : Nat} (hg : Gl X "zip") (hm : X.mg "zip" = none) (ha : PA X [e, e2] (tFA X.K fs))
    (hs : starEach [e, e2] X.env = (false, eval e X.env) :: starEach [e2] X.env := by rfl) (hpl : (backTo pos (starEach [e2] X.env)).any (·.1) = false := by rfl) :
    PI X (.Tuple elts kk tpos) (.Call (.Name "zip" p) [e, e2] [] pos) (tI X.K (gZip fs)) := PI.imp (RZ.pi_zipA hg hm ha hs hpl) fun σ H R ⟨as, S, ds, μ', E, ed, q⟩ => by
  have newT : ∀ {as' : Ar} {H' H'' : Hp} {μ : List Cell} {T : Addr} {x y : V} {dx dy : D}, StoR X.K as' H' μ → H' T = none → H'' = upd H' T (.tup [x, y]) → Rep X.K as' H' x dx → Rep X.K as' H' y dy → Ext as' H' as' H'' ∧ Rep X.K as' H'' (.ref T) (.tup [dx, dy]) ∧ StoR X.K as' H'' μ := fun {as' H' H'' μ T x y dx dy} s' hT e' rx ry => by
    subst e'
    exact ⟨Ext.new hT (s'.out hT), .newT s' hT (.cons rx (.cons ry .nil)), s'.new hT⟩
  unfold gZip at ed
  split at ed
  · rename_i xs ys μ1 ef
    obtain ⟨rfl, rfl⟩ := pr_inj ed
    refine ⟨as, S, _, μ1, E, ef, fun vs as1 H1 X1 r1 s1 => ?_⟩
    cases r1 with
    | cons ra rt =>
    cases rt with
    | cons rb rt =>
    cases rt
    cases ra with
    | @tup u us _ t1 q1 =>
    cases rb with
    | @tup v ws _ t2 q2 =>
    refine ⟨u, v, us, ws, rfl, .inr ⟨t1.sq, t2.sq, q _ as1 H1 X1 s1 ⟨fun i as' H' X' hi => ?_, fun as' H' X' => ⟨us, ws, (t1.mv X').sq, (t2.mv X').sq, ?_⟩, fun i as' H' μ x H'' X' s' hi y => ?_⟩⟩⟩
    · rw [zipD_len] at hi
      have h1 : i < us.length := by rw [q1.length]; omega
      have h2 : i < ws.length := by rw [q2.length]; omega
      exact ⟨us, ws, us[i], ws[i], (t1.mv X').sq, (t2.mv X').sq, List.getElem?_eq_getElem h1, List.getElem?_eq_getElem h2⟩
    · rw [zipD_len, q1.length, q2.length]; omega
    · obtain ⟨T, x', y', rfl, hT, hH, hx, hy⟩ := y
      obtain ⟨dx, ex, rx⟩ := (q1.mv X').getV (hx us (t1.mv X').sq)
      obtain ⟨dy, ey, ry⟩ := (q2.mv X').getV (hy ws (t2.mv X').sq)
      obtain ⟨z1, z2, z3⟩ := newT s' hT hH rx ry
      exact ⟨_, zipD_get ex ey, z1, z2, z3⟩
  · rename_i xs ys μ1 ef
    obtain ⟨rfl, rfl⟩ := pr_inj ed
    refine ⟨as, S, _, μ1, E, ef, fun vs as1 H1 X1 r1 s1 => ?_⟩
    cases r1 with
    | cons ra rt =>
    cases rt with
    | cons rb rt =>
    cases rt
    cases ra with
    | @lst u us _ t1 n1 q1 =>
    cases rb with
    | @lst v ws _ t2 n2 q2 =>
    have S1 : ∀ {as' : Ar} {H' : Hp}, Ext as1 H1 as' H' → SqL X.K H' u us := fun X' => SqL.of (at_mv t1 n1 X').1
    have S2 : ∀ {as' : Ar} {H' : Hp}, Ext as1 H1 as' H' → SqL X.K H' v ws := fun X' => SqL.of (at_mv t2 n2 X').1
    refine ⟨u, v, us, ws, rfl, .inl ⟨S1 .refl, S2 .refl, q _ as1 H1 X1 s1 ⟨fun i as' H' X' hi => ?_, fun as' H' X' => ⟨us, ws, S1 X', S2 X', ?_⟩, fun i as' H' μ x H'' X' s' hi y => ?_⟩⟩⟩
    · rw [zipD_len] at hi
      have h1 : i < us.length := by rw [q1.length]; omega
      have h2 : i < ws.length := by rw [q2.length]; omega
      exact ⟨us, ws, us[i], ws[i], S1 X', S2 X', List.getElem?_eq_getElem h1, List.getElem?_eq_getElem h2⟩
    · rw [zipD_len, q1.length, q2.length]; omega
    · obtain ⟨T, x', y', rfl, hT, hH, hx, hy⟩ := y
      obtain ⟨dx, ex, rx⟩ := (q1.mv X').getV (hx us (S1 X'))
      obtain ⟨dy, ey, ry⟩ := (q2.mv X').getV (hy ws (S2 X'))
      obtain ⟨z1, z2, z3⟩ := newT s' hT hH rx ry
      exact ⟨_, zipD_get ex ey, z1, z2, z3⟩
  · cases ed
/-! ### texts with parts -/
def dFmt : D → List Cell → Option D
  | .str y, _ => if y.length ≤ sizeLine then some (.str y) else none
  | .int i, _ => if i.natAbs.log2 < 1920 then some (.str (toString i)) else none
  | _, _ => none
theorem de_fmt (he : PE X a (tF X.K fa)) : PE X (.FormattedValue a (-1) none pos) (tF X.K (fU dFmt fa)) := (pe_fmt he).imp fun σ H Q ⟨as, S, d, μ', E, ed, q⟩ => by
  obtain ⟨x, ex, ez⟩ := fU_out ed
  refine ⟨as, S, x, μ', E, ex, fun v as1 H1 X1 r1 s1 => ?_⟩
  unfold dFmt at ez
  split at ez
  · split at ez
    · rename_i hz
      cases Option.some.inj ez
      cases r1
      exact .inl ⟨_, rfl, hz, q _ as1 H1 X1 (.str _) s1⟩
    · cases ez
  · split at ez
    · rename_i hz
      cases Option.some.inj ez
      cases r1
      exact .inr ⟨_, rfl, hz, q _ as1 H1 X1 (.str _) s1⟩
    · cases ez
  · cases ez
inductive DJs (X : Cx) : List Expr → List EvE → Prop where
  | nil : DJs X [] []
  | cons {e : Expr} {f : EvE} {es : List Expr} {fs : List EvE} (h : PE X e (tF X.K f)) (r : DJs X es fs) : DJs X (e :: es) (f :: fs)
theorem DJs.pj : ∀ {es : List Expr} {fs : List EvE}, DJs X es fs → PJ X es (fs.map (tF X.K))
  | _, _, .nil => .nil
  | _, _, .cons h r => .cons h r.pj
def joinL : List EvE → Str → Sg → Option (Str × List Cell)
  | [], acc, S => some (acc, S.μ)
  | f :: fs, acc, S => match f S with
    | some (.str y, μ1) => if (acc ++ y).length ≤ sizeLine then joinL fs (acc ++ y) { S with μ := μ1 } else none
    | _ => none
def fJs (fs : List EvE) : EvE := fun S => match joinL fs Str.empty S with
  | some (z, μ') => some (.str z, μ')
  | none => none
theorem joinL_ok {K : PySem.W.Frag} {σ : St} {Q : Str → Hp → Prop} {z : Str} {μ' : List Cell} : ∀ {fs : List EvE} {acc : Str} {as : Ar} {H : Hp} {S : Sg}, ER K as σ H S → joinL fs acc S = some (z, μ') → (∀ as' H', Ext as H as' H' → StoR K as' H' μ' → Q z H') → tJs (fs.map (tF K)) acc σ H Q
  | [], acc, as, H, S, E, e, q => by
    obtain ⟨rfl, rfl⟩ := pr_inj e
    exact q as H .refl E.sto
  | f :: fs, acc, as, H, S, E, e, q => by
    unfold joinL at e
    split at e
    · rename_i y μ1 ef
      split at e
      · rename_i hz
        refine ⟨as, S, _, μ1, E, ef, fun v as1 H1 X1 r1 s1 => ?_⟩
        cases r1
        exact ⟨y, rfl, hz, joinL_ok (E.mvE X1 s1) e fun as2 H2 X2 s2 => q as2 H2 (X1.trans X2 E.sto.trk) s2⟩
      · cases e
    · cases e
theorem de_joined {v1 v2 : Expr} {rest : List Expr} {fs : List EvE} (h : DJs X (v1 :: v2 :: rest) fs) : PE X (.JoinedStr (v1 :: v2 :: rest) pos) (tF X.K (fJs fs)) := (pe_joined h.pj).imp fun σ H Q ⟨as, S, d, μ', E, ed, q⟩ => by
  unfold fJs at ed
  split at ed
  · rename_i z μ1 ej
    obtain ⟨rfl, rfl⟩ := pr_inj ed
    exact joinL_ok E ej fun as' H' X' s' => q _ as' H' X' (.str _) s'
  · cases ed
theorem de_joined1 (h : PE X a (tF X.K fa)) : PE X (.JoinedStr [a] pos) (tF X.K fa) := pe_joined1 h
/-! ### in, not in -/
def inB (x y : D) (μ : List Cell) : Option Bool := match x, y with
  | .str w, .str z => match w.cps.toList with
    | [c] => some (decide (c ∈ z.cps.toList))
    | _ => none
  | _, _ => match toP x μ, toP y μ with
    | some p, some (.list ps) => if p.canLay0 = true ∧ PyData.canLayAll0 ps = true ∧ p.depth ≤ 63 then some (ps.any fun q => PyData.eqv q p) else none
    | some p, some (.tuple ps) => if p.canLay0 = true ∧ PyData.canLayAll0 ps = true ∧ p.depth ≤ 63 then some (ps.any fun q => PyData.eqv q p) else none
    | _, _ => none
def dIn : D → D → List Cell → Option D := fun x y μ => (inB x y μ).map .bl
def dNotIn : D → D → List Cell → Option D := fun x y μ => (inB x y μ).map fun k => .bl (!k)
theorem dIn_bl : ∀ x y μ z, dIn x y μ = some z → ∃ k, z = .bl k := fun _ _ _ _ e => map_bl (f := fun k => k) e
theorem dNotIn_bl : ∀ x y μ z, dNotIn x y μ = some z → ∃ k, z = .bl k := fun _ _ _ _ e => map_bl e
theorem one_sign {w : Str} {c : Nat} (e : w.cps.toList = [c]) : w = ⟨#[c]⟩ := by
  cases w with
  | mk l =>
    congr 1
    apply Array.ext'
    simpa using e
theorem op_inD (hu : X.A.units + 64 < cLine) : OpR X (compareOp .In) (rD X.K dIn) := by
  intro pins s σ H x y v u Q I rx ry ⟨as, d, e, μ, z, rd, re, sto, ez, q⟩
  obtain ⟨k, ek, rfl⟩ := Option.map_eq_some_iff.mp ez
  unfold inB at ek
  split at ek
  · split at ek
    · rename_i c hc
      cases Option.some.inj ek
      cases rd; cases re
      exact op_in_sign pins s σ H _ _ v u Q I rx ry ⟨c, _, by rw [one_sign hc], rfl, q _ H .refl (.bl _) sto⟩
    · cases ek
  · split at ek
    · rename_i p ps e1 e2
      split at ek
      · rename_i hs
        cases Option.some.inj ek
        obtain ⟨bs, r1⟩ := Dp.reads I p x v (toP_ok rd e1) rx
        obtain ⟨cs, r2⟩ := Dp.reads I _ y u (toP_ok re e2) ry
        exact SeqAt.in_list_reads r2 r1 hs.2.1 hs.1 (by omega) ⟨.bl _, H, I, rfl, q _ H .refl (.bl _) sto⟩
      · cases ek
    · rename_i p ps e1 e2
      split at ek
      · rename_i hs
        cases Option.some.inj ek
        obtain ⟨bs, r1⟩ := Dp.reads I p x v (toP_ok rd e1) rx
        obtain ⟨cs, r2⟩ := Dp.reads I _ y u (toP_ok re e2) ry
        exact SeqAt.in_tuple_reads r2 r1 hs.2.1 hs.1 (by omega) ⟨.bl _, H, I, rfl, q _ H .refl (.bl _) sto⟩
      · cases ek
    · cases ek
theorem op_notInD (hu : X.A.units + 64 < cLine) : OpR X (compareOp .NotIn) (rD X.K dNotIn) := by
  intro pins s σ H x y v u Q I rx ry ⟨as, d, e, μ, z, rd, re, sto, ez, q⟩
  obtain ⟨k, ek, rfl⟩ := Option.map_eq_some_iff.mp ez
  unfold inB at ek
  split at ek
  · split at ek
    · rename_i c hc
      cases Option.some.inj ek
      cases rd; cases re
      exact op_notIn_sign pins s σ H _ _ v u Q I rx ry ⟨c, _, by rw [one_sign hc], rfl, q _ H .refl (.bl _) sto⟩
    · cases ek
  · split at ek
    · rename_i p ps e1 e2
      split at ek
      · rename_i hs
        cases Option.some.inj ek
        obtain ⟨bs, r1⟩ := Dp.reads I p x v (toP_ok rd e1) rx
        obtain ⟨cs, r2⟩ := Dp.reads I _ y u (toP_ok re e2) ry
        exact SeqAt.notIn_list_reads r2 r1 hs.2.1 hs.1 (by omega) ⟨.bl _, H, I, rfl, q _ H .refl (.bl _) sto⟩
      · cases ek
    · rename_i p ps e1 e2
      split at ek
      · rename_i hs
        cases Option.some.inj ek
        obtain ⟨bs, r1⟩ := Dp.reads I p x v (toP_ok rd e1) rx
        obtain ⟨cs, r2⟩ := Dp.reads I _ y u (toP_ok re e2) ry
        exact SeqAt.notIn_tuple_reads r2 r1 hs.2.1 hs.1 (by omega) ⟨.bl _, H, I, rfl, q _ H .refl (.bl _) sto⟩
      · cases ek
    · cases ek
/-! ### repr of lists, tuples -/
def isQ : D → Bool
  | .lst _ | .rl _ | .tup _ | .h _ => true
  | _ => false
def dRepr : D → List Cell → Option D
  | .bl b, _ => some (.str (reprB b))
  | x, μ => if isQ x = true then match toQ x μ with
    | some p => if p.showable = true ∧ p.hasDict = false ∧ p.depth ≤ 62 ∧ p.shown.length ≤ sizeLine then some (.str p.shown) else none
    | none => none
    else none
theorem call_reprD (hgd : X.A.guards = some []) (hu : X.A.units + 64 < cLine) : CallR X (.builtin "repr") (rCD X.K (g1 dRepr)) := call1 fun pins s σ H x us Q as d μ z I r rd sto ez q => by
  unfold dRepr at ez
  split at ez
  · cases Option.some.inj ez
    cases rd
    obtain ⟨u, rfl, ru⟩ := Vals.one r
    cases ru
    exact PySem.P.repr_of_bool ⟨.str _, H, I.tok _, ⟨_, rfl⟩, q _ H .refl (.str _) sto⟩
  · split at ez
    · rename_i hq
      split at ez
      · rename_i p e1
        split at ez
        · rename_i hs
          cases Option.some.inj ez
          obtain ⟨u, rfl, ru⟩ := Vals.one r
          have isr : ∃ a, x = .ref a := by
            cases rd with
            | lst _ _ _ => exact ⟨_, rfl⟩
            | rl _ _ => exact ⟨_, rfl⟩
            | tup _ _ => exact ⟨_, rfl⟩
            | h _ => exact ⟨_, rfl⟩
            | _ => simp [isQ] at hq
          obtain ⟨a, rfl⟩ := isr
          obtain ⟨bs, r1⟩ := Dp.reads I p (.ref a) u (toQ_ok rd sto e1) ru
          cases ru
          exact repr_of_reads' r1 hs.1 (by rw [hs.2.1]; intro h; cases h) hgd (by omega) (fun _ _ h => h) (fun h' u' tk hk => ⟨.str _, H, I.kept hk, ⟨_, rfl⟩, q _ H .refl (.str _) sto⟩) hs.2.2.2
        · cases ez
      · cases ez
    · cases ez
end
end DL
namespace DL
open PySem L2
/-! Objects of the program's classes as cells: fields read, stored; made by their own __init__. -/
section
variable {K : PySem.W.Frag} {as as' : Ar} {H H' : Hp} {μ : List Cell}
theorem fld_lookup {f : Str} : ∀ {fv : List (Str × V)} {fs : List (Str × D)} {d : D}, fv.map (·.1) = fs.map (·.1) → Reps K as H (fv.map (·.2)) (fs.map (·.2)) → fs.lookup f = some d → ∃ v, fv.lookup f = some v ∧ Rep K as H v d
  | [], [], _, _, _, e => by simp at e
  | [], _ :: _, _, h, _, _ => by simp at h
  | _ :: _, [], _, h, _, _ => by simp at h
  | (g, v) :: fv, (g', d') :: fs, d, h, r, e => by
    simp only [List.map_cons, List.cons.injEq] at h
    obtain ⟨rfl, h⟩ := h
    cases r with
    | cons r1 r2 =>
      rw [List.lookup_cons] at e ⊢
      split at e
      · cases e
        exact ⟨v, rfl, r1⟩
      · exact fld_lookup h r2 e
def putD (f : Str) (d : D) : List (Str × D) → List (Str × D)
  | [] => [(f, d)]
  | (g, x) :: r => if g = f then (g, d) :: r else (g, x) :: putD f d r
theorem put_map {f : Str} {v : V} {d : D} (rv : Rep K as H v d) : ∀ {fv : List (Str × V)} {fs : List (Str × D)}, fv.map (·.1) = fs.map (·.1) → Reps K as H (fv.map (·.2)) (fs.map (·.2)) →
    (putF f v fv).map (·.1) = (putD f d fs).map (·.1) ∧ Reps K as H ((putF f v fv).map (·.2)) ((putD f d fs).map (·.2))
  | [], [], _, _ => ⟨rfl, .cons rv .nil⟩
  | [], _ :: _, h, _ => by simp at h
  | _ :: _, [], h, _ => by simp at h
  | (g, x) :: fv, (g', y) :: fs, h, r => by
    simp only [List.map_cons, List.cons.injEq] at h
    obtain ⟨rfl, h⟩ := h
    cases r with
    | cons r1 r2 =>
      unfold putF putD
      by_cases hg : g = f
      · rw [if_pos hg, if_pos hg]
        exact ⟨by simp only [List.map_cons, h], .cons rv r2⟩
      · rw [if_neg hg, if_neg hg]
        obtain ⟨a, b⟩ := put_map rv h r2
        exact ⟨by simp only [List.map_cons, a], .cons r1 b⟩
theorem h_obj {k : Nat} {v : V} {n : Str} {fs : List (Str × D)} (r : Rep K as H v (.h k)) (s : StoR K as H μ) (e : μ[k]? = some (.obj n fs)) :
    ∃ p C dx fv, v = .ref p ∧ as.c[k]? = some p ∧ PySem.W.nsIn K mainGlobals n = some (some (.ref C)) ∧ H p = some (.ins C dx fv) ∧ fv.map (·.1) = fs.map (·.1) ∧ Reps K as H (fv.map (·.2)) (fs.map (·.2)) := by
  cases r with
  | @h _ p ep =>
    obtain ⟨C, dx, fv, hn, hv, hl, rs⟩ := s.at_ k p _ ep e
    exact ⟨p, C, dx, fv, rfl, ep, hn, hv, hl, rs⟩
/-- a cell takes another content -/
theorem StoR.upd1 {k : Nat} {a : Addr} {o : HO} {c' : Cell} (s : StoR K as H μ) (ea : as.c[k]? = some a) (nf : ∀ o u, H a ≠ some (.frz o u)) (r : ∀ {as' : Ar} {H' : Hp}, Ext as H as' H' → H' a = some o → CellR K as' H' a c') :
    Ext as H as (L2.upd H a o) ∧ StoR K as (L2.upd H a o) (μ.set k c') := by
  have ha : a ∈ as.c := List.mem_of_getElem? ea
  have X1 : Ext as H as (L2.upd H a o) := ⟨⟨[], by simp, by simp⟩, ⟨[], by simp, by simp⟩, fun b u hb e => by rw [upd_ne fun (z : b = a) => hb (by rw [z]; exact ha)]; exact e, fun b hb e => by
    by_cases z : b = a
    · subst z; rw [upd_same]; simp
    · rw [upd_ne z]; exact e, fun b x u e => by rw [upd_ne fun z => by rw [z] at e; exact nf _ _ e]; exact e⟩
  refine ⟨X1, ?_, fun j b c ej ec => ?_, s.nd, fun b hb => ?_⟩
  · rw [List.length_set]; exact s.len
  · by_cases hj : k = j
    · subst hj
      have hk : k < μ.length := by
        rw [← s.len]; exact (List.getElem?_eq_some_iff.mp ea).1
      rw [List.getElem?_set_self hk] at ec
      cases ec
      rw [ea] at ej
      cases ej
      exact r X1 upd_same
    · rw [List.getElem?_set_ne hj] at ec
      refine (s.at_ j b c ej ec).mv X1 (upd_ne fun z => hj ?_)
      subst z
      exact nodup_ix s.nd ea ej
  · by_cases z : b = a
    · subst z; rw [upd_same]; simp
    · rw [upd_ne z]; exact s.bl b hb
/-- a new cell -/
theorem StoR.grow1 {p : Addr} {o : HO} {c' : Cell} (s : StoR K as H μ) (hp : H p = none) (r : CellR K ⟨as.c ++ [p], as.b⟩ (L2.upd H p o) p c') :
    Ext as H ⟨as.c ++ [p], as.b⟩ (L2.upd H p o) ∧ StoR K ⟨as.c ++ [p], as.b⟩ (L2.upd H p o) (μ ++ [c']) := by
  have n := s.out hp
  have X1 : Ext as H ⟨as.c ++ [p], as.b⟩ (L2.upd H p o) := ⟨⟨[p], rfl, by simpa using hp⟩, ⟨[], rfl, by simp⟩, (Ext.new hp n).old, (Ext.new hp n).cel, (Ext.new hp n).frz⟩
  refine ⟨X1, by simp [s.len], fun k a c ea ec => ?_, ?_, fun a ha => ?_⟩
  · by_cases hk : k < μ.length
    · have hk' : k < as.c.length := by rw [s.len]; exact hk
      rw [List.getElem?_append_left hk'] at ea
      rw [List.getElem?_append_left hk] at ec
      exact (s.at_ k a c ea ec).mv X1 (upd_ne fun z => n.1 (z ▸ List.mem_of_getElem? ea))
    · have hk' : ¬ k < as.c.length := by rw [s.len]; exact hk
      rw [List.getElem?_append_right (by omega)] at ea
      rw [List.getElem?_append_right (by omega)] at ec
      have h0 : k - μ.length = 0 := by
        have := (List.getElem?_eq_some_iff.mp ec).1
        simpa using this
      rw [h0] at ec
      rw [s.len, h0] at ea
      cases ec
      cases ea
      exact r
  · rw [List.nodup_append]
    exact ⟨s.nd, by simp, fun a ha b hb e => n.1 (by simp at hb; rw [← hb, ← e]; exact ha)⟩
  · by_cases z : a = p
    · subst z; rw [upd_same]; simp
    · rw [upd_ne z]; exact s.bl a ha
end
section
variable {X : Cx} {o e : Expr} {es : List Expr} {fl x : Str} {p pos pos' : Pos} {fa fb : EvE} {fs : EvA} {W : WX}
/-- the classes (by name) whose instances have no class attribute of this name -/
def FldOk (K : PySem.W.Frag) (ns : List Str) (fl : Str) : Prop := ∀ n C, n ∈ ns → PySem.W.nsIn K mainGlobals n = some (some (.ref C)) → Cls K C ∧ NoAttr K C fl
def dFld (ns : List Str) (fl : Str) : D → List Cell → Option D
  | .h k, μ => match μ[k]? with
    | some (.obj n fs) => if n ∈ ns then fs.lookup fl else none
    | _ => none
  | _, _ => none
theorem de_fld {ns : List Str} (hk : FldOk X.K ns fl) (he : PE X o (tF X.K fa)) (hb : attributeBase o fl X.env (eval o X.env) = eval o X.env := by rfl) : PE X (.Attribute o fl pos) (tF X.K (fU (dFld ns fl) fa)) := (pe_fld he hb).imp fun σ H Q ⟨as, S, d, μ', E, ed, q⟩ => by
  obtain ⟨y, ey, ez⟩ := fU_out ed
  unfold dFld at ez
  split at ez
  · split at ez
    · rename_i n fs ec
      split at ez
      · rename_i hn
        refine ⟨as, S, _, μ', E, ey, fun v as1 H1 X1 r1 s1 => ?_⟩
        obtain ⟨a, C, dx, fv, rfl, _, hc, ha, hl, rs⟩ := h_obj r1 s1 ec
        obtain ⟨w, hw, rw'⟩ := fld_lookup hl rs ez
        obtain ⟨k1, k2⟩ := hk n C hn hc
        exact ⟨a, C, dx, fv, w, rfl, ha, k1, k2, hw, q w as1 H1 X1 rw' s1⟩
      · cases ez
    · cases ez
  · cases ez
/-- o.f = e -/
def cFld (ns : List Str) (fl : Str) (o d : D) (μ : List Cell) : Option (List Cell) := match o with
  | .h k => match μ[k]? with
    | some (.obj n fs) => if n ∈ ns ∧ fs.length < 1000 then some (μ.set k (.obj n (putD fl d fs))) else none
    | _ => none
  | _ => none
def sFldD (ns : List Str) (fl : Str) (fo fe : EvE) : EvS := fun S => match fe S with
  | some (d, μ1) => match fo { S with μ := μ1 } with
    | some (ob, μ2) => match cFld ns fl ob d μ2 with
      | some μ3 => some (.nx, { S with μ := μ3 })
      | none => none
    | none => none
  | none => none
theorem ds_fld {ns : List Str} (hk : FldOk X.K ns fl) (ho : PE X o (tF X.K fa)) (he : PE X e (tF X.K fb)) (hs : swapsWith e (some (.Attribute o fl pos')) pos.line X.env = pure false := by rfl) : PS X (.Assign [.Attribute o fl pos'] e pos) (tFS X.K X.mg W (sFldD ns fl fa fb)) := (ps_fld ho he hs).imp fun D σ H ⟨as, S, f, S', E, ed, q⟩ => by
  unfold sFldD at ed
  split at ed
  · rename_i d μ1 e1
    split at ed
    · rename_i ob μ2 e2
      split at ed
      · rename_i μ3 e3
        obtain ⟨rfl, rfl⟩ := pr_inj ed
        refine ⟨as, S, d, μ1, E, e1, fun y as1 H1 X1 r1 s1 => ⟨as1, _, ob, μ2, E.mvE X1 s1, e2, fun v as2 H2 X2 r2 s2 => ?_⟩⟩
        unfold cFld at e3
        split at e3
        · split at e3
          · rename_i k n fs ec
            split at e3
            · rename_i hn
              cases Option.some.inj e3
              obtain ⟨a, C, dx, fv, rfl, ea, hc, ha, hl, rs⟩ := h_obj r2 s2 ec
              obtain ⟨k1, k2⟩ := hk n C hn.1 hc
              have X12 := X1.trans X2 E.sto.trk
              have ry := r1.mv X2
              obtain ⟨X3, s3⟩ := s2.upd1 (o := .ins C dx (putF fl y fv)) (c' := .obj n (putD fl d fs)) ea (fun o u e => by rw [ha] at e; cases e) fun {as' H'} Z hz => by
                obtain ⟨m1, m2⟩ := put_map (f := fl) (ry.mv Z) hl (rs.mv Z)
                exact ⟨C, dx, _, hc, hz, m1, m2⟩
              have hlen : fv.length < 1000 := by
                have z := congrArg List.length hl
                simp only [List.length_map] at z
                omega
              have X13 := X12.trans X3 E.sto.trk
              exact ⟨a, C, dx, fv, rfl, ha, k1, k2, hlen, q as2 σ _ X13 (E.mvE X13 s3)⟩
            · cases e3
          · cases e3
        · cases e3
      · cases ed
    · cases ed
  · cases ed
/-- C(e, ..): a new cell, then __init__ -/
def fMake (x : Str) (F : FnF) (fs : EvA) : EvX := fun S => match fs S with
  | some (ds, μ1) => match F (.h μ1.length :: ds) (μ1 ++ [.obj x []]) with
    | some (.v .non, μ2) => some (.v (.h μ1.length), μ2)
    | some (.x n q, μ2) => some (.x n q, μ2)
    | _ => none
  | none => none
theorem under_guards {A : Around} {C : Addr} {us : List Value} (h : A.guards = some []) : (A.under (.builtin "type.__call__" ⟨.ref C :: us, []⟩)).guards = some [] := by
  first | exact h | simpa [Around.under] using h
theorem run_mkG {k n : Nat} {f C : Addr} {fd : FuncData} {F : FnF} {pins : List (Addr × Obj)} {σ : L2.St} {H : Hp} {s : Shared} {Q : VK} {E : XK} {us : List Value} {vs : List V} {as : Ar} {ds : List D} {μ : List Cell} {o : Ov} {μ' : List Cell}
    (M : Mk X.K C f) (G : FG X.prog X.w X.K X.mg X.base k f fd (n + 1) F) (hr : Room (k + 1) X.A) (hgd : X.A.guards = some []) (hc : PySem.W.nsIn X.K mainGlobals x = some (some (.ref C))) (I : Inv X pins σ H s) (r : Vals vs us) (hx : PassesAt (L2.CX X.prog X.w) X σ E)
    (hn : vs.length = n) (rs : Reps X.K as H vs ds) (sto : StoR X.K as H μ) (ef : F (.h μ.length :: ds) (μ ++ [.obj x []]) = some (o, μ'))
    (q : match o with
      | .v d => d = .non ∧ ∀ v as' H', Ext as H as' H' → Rep X.K as' H' v (.h μ.length) → StoR X.K as' H' μ' → Q v H'
      | .x m pp => ∀ as' H' C dx, Ext as H as' H' → StoR X.K as' H' μ' → X.mg m = some C → XR X.K as' H' dx pp → E C dx H') :
    wpAny (model X.prog X.w) X.A (call (.ref C) us) (EP X pins σ Q) X.xe s := by
  obtain ⟨ps, hp, hb, hk, run⟩ := G.ps
  have hx0 : H s.heap.objs.size = none := I.hok.fresh (Nat.le_refl _)
  have hx1 : H (s.heap.objs.size + 1) = none := I.hok.fresh (Nat.le_succ _)
  have ne : s.heap.objs.size ≠ s.heap.objs.size + 1 := Nat.ne_of_lt (Nat.lt_succ_self _)
  have I2 := Inv.made (C := C) I
  have X1 := Ext.new (o := HO.own (s.heap.objs.size + 1)) hx0 (sto.out hx0)
  have s1 := sto.new (o := HO.own (s.heap.objs.size + 1)) hx0
  have hx1' : upd H s.heap.objs.size (HO.own (s.heap.objs.size + 1)) (s.heap.objs.size + 1) = none := by rw [upd_ne (Ne.symm ne)]; exact hx1
  obtain ⟨X2, s2⟩ := s1.grow1 (o := .ins C s.heap.objs.size []) (c' := .obj x []) hx1' ⟨C, s.heap.objs.size, [], hc, upd_same, rfl, .nil⟩
  have X12 := X1.trans X2 sto.trk
  have rself : Rep X.K ⟨as.c ++ [s.heap.objs.size + 1], as.b⟩ (upd (upd H s.heap.objs.size (HO.own (s.heap.objs.size + 1))) (s.heap.objs.size + 1) (.ins C s.heap.objs.size [])) (.ref (s.heap.objs.size + 1)) (.h μ.length) := .h (by
    rw [List.getElem?_append_right (by rw [sto.len]; exact Nat.le_refl _), sto.len]
    simp)
  have hl : (Value.ref (s.heap.objs.size + 1) :: us ++ []).length = ps.length := by
    rw [List.append_nil, List.length_cons, ← r.length, hn, hp]
  refine wpAny_call (make_map (f := f) I.kIn M.makes M.init (beq_iff_eq.mp M.fn) (codeAny_mono (run _ X.stack _ _ ⟨Value.ref (s.heap.objs.size + 1) :: us, []⟩ (Value.ref (s.heap.objs.size + 1) :: us ++ []) (.ref (s.heap.objs.size + 1) :: vs) (fun v H2 => v = .non ∧ Q (.ref (s.heap.objs.size + 1)) H2) E (hr.make C us []) (under_guards hgd)
    (I2.env0.make C us []) (hb _ (Value.ref (s.heap.objs.size + 1) :: us) I2.kIn hl) (by rw [List.append_nil]; exact .cons rfl r) ⟨_, _, .h μ.length :: ds, o, μ', by rw [List.length_cons, hn], .cons rself (rs.mv X12), s2, ef, ?_⟩) fun r s' hq' => ?_))
  · cases o with
    | v d =>
      obtain ⟨rfl, q⟩ := q
      intro v as' H' Z rv sv
      cases rv
      exact ⟨rfl, q _ as' H' (X12.trans Z sto.trk) (rself.mv Z) sv⟩
    | x m pp => exact fun as' H' C dx Z sv em xr => q as' H' C dx (X12.trans Z sto.trk) sv em xr
  · cases r with
    | error e => exact hx pins _ _ e s' I2 hq'
    | ok fl =>
      cases fl with
      | ret u =>
        obtain ⟨v, H', I3, rv, ev, q3⟩ := I2.after hq'
        subst ev
        exact ⟨rv, ⟨V.ref (s.heap.objs.size + 1), H', I3, rfl, q3⟩⟩
      | _ => exact False.elim hq'
end

section
variable {X : Cx} {o e : Expr} {es : List Expr} {x m : Str} {p apos pos : Pos} {fa : EvE} {fs : EvA} {W : WX} {k n : Nat} {f C : Addr} {fd : FuncData} {F : FnF}
theorem fMake_out {S : Sg} {r : Ov} {μ' : List Cell} (e : fMake x F (fLen n fs) S = some (r, μ')) : ∃ ds μ1 o, fs S = some (ds, μ1) ∧ ds.length = n ∧ F (.h μ1.length :: ds) (μ1 ++ [.obj x []]) = some (o, μ') ∧ ((o = .v .non ∧ r = .v (.h μ1.length)) ∨ ∃ m q, o = .x m q ∧ r = .x m q) := by
  unfold fMake fLen at e
  split at e
  · rename_i ds μ1 e1
    split at e1
    · rename_i ds' μ1' es
      split at e1
      · rename_i hn
        obtain ⟨rfl, rfl⟩ := pr_inj e1
        split at e
        · rename_i μ2 ef
          obtain ⟨rfl, rfl⟩ := pr_inj e
          exact ⟨_, _, _, es, hn, ef, .inl ⟨rfl, rfl⟩⟩
        · rename_i m q μ2 ef
          obtain ⟨rfl, rfl⟩ := pr_inj e
          exact ⟨_, _, _, es, hn, ef, .inr ⟨_, _, rfl, rfl⟩⟩
        · cases e
      · cases e1
    · cases e1
  · cases e
theorem make_any {pins : List (Addr × Obj)} {s : Shared} {σ : L2.St} {H : Hp} {Q : VK} {E : XK} {as : Ar} {S : Sg} {r : Ov} {μ' : List Cell} (M : Mk X.K C f) (G : FG X.prog X.w X.K X.mg X.base k f fd (n + 1) F) (hr : Room (k + 1) X.A) (hgd : X.A.guards = some []) (hc : PySem.W.nsIn X.K mainGlobals x = some (some (.ref C))) (hg : Gl X x) (hm : X.mg x = some (.ref C))
    (ha : PA X (e :: es) (tFA X.K fs)) (hdb : (x == ("__debug__" : Str)) = false) (he : starEach (e :: es) X.env = (false, eval e X.env) :: starEach es X.env) (hpl : (backTo pos (starEach es X.env)).any (·.1) = false) (I : Inv X pins σ H s) (ee : ER X.K as σ H S) (ed : fMake x F (fLen n fs) S = some (r, μ')) (hx : PassesAt (L2.CX X.prog X.w) X σ E) (q : outD X.K X.mg as H Q E r μ') :
    wpAny (model X.prog X.w) X.A (eval (.Call (.Name x p) (e :: es) [] pos) X.env) (EP X pins σ Q) X.xe s := by
  obtain ⟨ds, μ1, ov, ea, hn, ef, ho⟩ := fMake_out ed
  refine wpAny_Call_Name_kw (ld_glob I hg hm ?_ hdb)
  refine PySem.W.callWith_K (h₀ := X.base) I.ok.mod.kin M.kp (thn (ha.run pos pins s σ H (fun vs H1 => ∃ as1, Ext as H as1 H1 ∧ Reps X.K as1 H1 vs ds ∧ StoR X.K as1 H1 μ1) I ⟨as, S, _, _, ee, ea, fun vs as1 H1 X1 r1 s1 => ⟨as1, X1, r1, s1⟩⟩) fun us s1 ⟨vs, H1, I1, r1, as1, X1, rs, st⟩ => ⟨I1.kIn, run_mkG M G hr hgd hc I1 r1 hx (rs.length.trans hn) rs st ef ?_⟩) he hpl
  rcases ho with ⟨rfl, rfl⟩ | ⟨m, pp, rfl, rfl⟩
  · exact ⟨rfl, fun v as2 H2 X2 r2 s2 => q v as2 H2 (X1.trans X2 ee.sto.trk) r2 s2⟩
  · exact fun as2 H2 C dx X2 s2 ec xr => q as2 H2 C dx (X1.trans X2 ee.sto.trk) s2 ec xr
theorem de_make (M : Mk X.K C f) (G : FG X.prog X.w X.K X.mg X.base k f fd (n + 1) F) (hr : Room (k + 1) X.A) (hgd : X.A.guards = some []) (hc : PySem.W.nsIn X.K mainGlobals x = some (some (.ref C))) (hg : Gl X x) (hm : X.mg x = some (.ref C))
    (ha : PA X (e :: es) (tFA X.K fs)) (hdb : (x == ("__debug__" : Str)) = false := by decide) (he : starEach (e :: es) X.env = (false, eval e X.env) :: starEach es X.env := by rfl) (hpl : (backTo pos (starEach es X.env)).any (·.1) = false := by rfl) :
    PE X (.Call (.Name x p) (e :: es) [] pos) (tF X.K (fNox (fMake x F (fLen n fs)))) :=
  ⟨fun pins s σ H Q I ⟨as, S, d, μ', E, ed, q⟩ => make_any M G hr hgd hc hg hm ha hdb he hpl I E (fNox_out ed) passF q⟩
theorem de_makeX (tk : Takes X W) (M : Mk X.K C f) (G : FG X.prog X.w X.K X.mg X.base k f fd (n + 1) F) (hr : Room (k + 1) X.A) (hgd : X.A.guards = some []) (hc : PySem.W.nsIn X.K mainGlobals x = some (some (.ref C))) (hg : Gl X x) (hm : X.mg x = some (.ref C))
    (ha : PA X (e :: es) (tFA X.K fs)) (hdb : (x == ("__debug__" : Str)) = false := by decide) (he : starEach (e :: es) X.env = (false, eval e X.env) :: starEach es X.env := by rfl) (hpl : (backTo pos (starEach es X.env)).any (·.1) = false := by rfl) :
    PE X (.Call (.Name x p) (e :: es) [] pos) (tFX X.K X.mg W (fMake x F (fLen n fs))) :=
  ⟨fun pins s σ H Q I ⟨as, S, o, μ', E, ed, q⟩ => make_any (E := L2.WE W σ) M G hr hgd hc hg hm ha hdb he hpl I E ed (passAt tk σ) (by
    cases o with
    | v d => exact q
    | x m pp => exact q)⟩
/-! o.m(e, ..) -/
/-- the object of a call of a method -/
def isObjD (n : Str) (m : Str) (o : D) (μ : List Cell) : Bool := match o with
  | .h k => match μ[k]? with
    | some (.obj n' fs) => decide (n' = n) && (fs.lookup m).isNone
    | _ => false
  | _ => false
theorem isObjD_ok {K : PySem.W.Frag} {as : Ar} {H : Hp} {μ : List Cell} {v : V} {d : D} {nm : Str} {C : Addr} (hc : PySem.W.nsIn K mainGlobals nm = some (some (.ref C))) (r : Rep K as H v d) (s : StoR K as H μ) (e : isObjD nm m d μ = true) : ∃ a dx fv, v = .ref a ∧ H a = some (.ins C dx fv) ∧ fv.lookup m = none := by
  unfold isObjD at e
  split at e
  · split at e
    · rename_i n' fs ec
      rw [Bool.and_eq_true, decide_eq_true_eq] at e
      obtain ⟨rfl, e⟩ := e
      obtain ⟨a, C', dx, fv, rfl, _, hn, ha, hl, rs⟩ := h_obj r s ec
      have z := hc.symm.trans hn
      injection z with z
      injection z with z
      injection z with z
      subst z
      refine ⟨a, dx, fv, rfl, ha, ?_⟩
      have key : ∀ {fv : List (Str × V)} {fs : List (Str × D)}, fv.map (·.1) = fs.map (·.1) → (fs.lookup m).isNone = true → fv.lookup m = none := by
        intro fv
        induction fv with
        | nil => intro fs _ _; rfl
        | cons q fv ih =>
          intro fs h e
          cases fs with
          | nil => simp at h
          | cons q' fs =>
            obtain ⟨g, v⟩ := q
            obtain ⟨g', d⟩ := q'
            simp only [List.map_cons, List.cons.injEq] at h
            obtain ⟨rfl, h⟩ := h
            rw [List.lookup_cons] at e ⊢
            split at e
            · cases e
            · exact ih h e
      exact key hl e
    · cases e
  · cases e
def fMethX (nm m : Str) (F : FnF) (fo : EvE) (fs : EvA) : EvX := fun S => match fo S with
  | some (ob, μ1) => if isObjD nm m ob μ1 = true then match fs { S with μ := μ1 } with
    | some (ds, μ2) => F (ob :: ds) μ2
    | none => none
    else none
  | none => none
theorem fMethX_out {S : Sg} {r : Ov} {μ' : List Cell} {nm : Str} (e : fMethX nm m F fa (fLen n fs) S = some (r, μ')) : ∃ ob μ1 ds μ2, fa S = some (ob, μ1) ∧ isObjD nm m ob μ1 = true ∧ fs { S with μ := μ1 } = some (ds, μ2) ∧ ds.length = n ∧ F (ob :: ds) μ2 = some (r, μ') := by
  unfold fMethX at e
  split at e
  · rename_i ob μ1 e1
    split at e
    · rename_i ho
      split at e
      · rename_i ds μ2 e2
        unfold fLen at e2
        split at e2
        · rename_i ds' μ2' e3
          split at e2
          · rename_i hn
            obtain ⟨rfl, rfl⟩ := pr_inj e2
            exact ⟨ob, μ1, _, _, e1, ho, e3, hn, e⟩
          · cases e2
        · cases e2
      · cases e
    · cases e
  · cases e
theorem meth_any {pl : Sem Bool} {nm : Str} {pins : List (Addr × Obj)} {s : Shared} {σ : L2.St} {H : Hp} {Q : VK} {E : XK} {as : Ar} {S : Sg} {r : Ov} {μ' : List Cell} (c : Cls X.K C) (hm : Meth X.K C m f) (G : FG X.prog X.w X.K X.mg X.base k f fd (n + 1) F) (hr : Room k X.A) (hgd : X.A.guards = some []) (hc : PySem.W.nsIn X.K mainGlobals nm = some (some (.ref C)))
    (ho : PE X o (tF X.K fa)) (ha : PA X (e :: es) (tFA X.K fs)) (hst : starEach (e :: es) X.env = (false, eval e X.env) :: starEach es X.env) (hpl : (backTo pos (starEach es X.env)).any (·.1) = false)
    (ht : eval (.Call (.Attribute o m apos) (e :: es) [] pos) X.env = (do
      let ov ← eval o X.env
      standAt apos.atName
      let (f, first) ← holding [ov] (getMethod ov m pl)
      callWith pos f first (backTo pos (starEach (e :: es) X.env)) (backToKw pos (keywordEach [] X.env))))
    (I : Inv X pins σ H s) (ee : ER X.K as σ H S) (ed : fMethX nm m F fa (fLen n fs) S = some (r, μ')) (hx : PassesAt (L2.CX X.prog X.w) X σ E) (q : outD X.K X.mg as H Q E r μ') :
    wpAny (model X.prog X.w) X.A (eval (.Call (.Attribute o m apos) (e :: es) [] pos) X.env) (EP X pins σ Q) X.xe s := by
  obtain ⟨ob, μ1, ds, μ2, e1, hob, e2, hn, ef⟩ := fMethX_out ed
  refine PySem.W.methodCall_KW (pl := pl) (thn (ho.run pins s σ H (fun v H1 => ∃ as1, Ext as H as1 H1 ∧ Rep X.K as1 H1 v ob ∧ StoR X.K as1 H1 μ1) I ⟨as, S, ob, μ1, ee, e1, fun v as1 H1 X1 r1 s1 => ⟨as1, X1, r1, s1⟩⟩) fun u s1 ⟨v, H1, I1, rv, as1, X1, ro, st1⟩ => ?_) ht
  obtain ⟨a, dx, fv, rfl, haH, hl⟩ := isObjD_ok hc ro st1 hob
  obtain rfl : u = Value.ref a := rv
  refine getmeth_ok I1 haH c hm hl ?_
  refine PySem.W.callWith_K (first := [.ref a]) (h₀ := X.base) I.ok.mod.kin hm.kp (thn (ha.run pos pins s1 σ H1 (fun vs H2 => ∃ as2, Ext as1 H1 as2 H2 ∧ Reps X.K as2 H2 vs ds ∧ StoR X.K as2 H2 μ2) I1 ⟨as1, _, ds, μ2, ee.mvE X1 st1, e2, fun vs as2 H2 X2 r2 s2 => ⟨as2, X2, r2, s2⟩⟩) fun us s2 ⟨vs, H2, I2, r2, as2, X2, rs, st2⟩ => ⟨I2.kIn, ?_⟩) hst hpl
  have X12 := X1.trans X2 ee.sto.trk
  refine (run_fg (us := .ref a :: us) (vs := .ref a :: vs) G hr hgd I2 (.cons rfl r2) hx ⟨as2, μ2, ob :: ds, r, μ', by rw [List.length_cons, rs.length, hn], .cons (ro.mv X2) rs, st2, ef, ?_⟩).2
  cases r with
  | v d => exact fun v as3 H3 X3 r3 s3 => q v as3 H3 (X12.trans X3 ee.sto.trk) r3 s3
  | x m pp => exact fun as3 H3 C dx X3 s3 ec xr => q as3 H3 C dx (X12.trans X3 ee.sto.trk) s3 ec xr
theorem de_meth {pl : Sem Bool} {nm : Str} (c : Cls X.K C) (hm : Meth X.K C m f) (G : FG X.prog X.w X.K X.mg X.base k f fd (n + 1) F) (hr : Room k X.A) (hgd : X.A.guards = some []) (hc : PySem.W.nsIn X.K mainGlobals nm = some (some (.ref C))) (ho : PE X o (tF X.K fa)) (ha : PA X (e :: es) (tFA X.K fs))
    (hst : starEach (e :: es) X.env = (false, eval e X.env) :: starEach es X.env := by rfl) (hpl : (backTo pos (starEach es X.env)).any (·.1) = false := by rfl) (ht : eval (.Call (.Attribute o m apos) (e :: es) [] pos) X.env = (do
      let ov ← eval o X.env
      standAt apos.atName
      let (f, first) ← holding [ov] (getMethod ov m pl)
      callWith pos f first (backTo pos (starEach (e :: es) X.env)) (backToKw pos (keywordEach [] X.env))) := by rfl) : PE X (.Call (.Attribute o m apos) (e :: es) [] pos) (tF X.K (fNox (fMethX nm m F fa (fLen n fs)))) :=
  ⟨fun pins s σ H Q I ⟨as, S, d, μ', E, ed, q⟩ => meth_any c hm G hr hgd hc ho ha hst hpl ht I E (fNox_out ed) passF q⟩
theorem de_methX {pl : Sem Bool} {nm : Str} (tk : Takes X W) (c : Cls X.K C) (hm : Meth X.K C m f) (G : FG X.prog X.w X.K X.mg X.base k f fd (n + 1) F) (hr : Room k X.A) (hgd : X.A.guards = some []) (hc : PySem.W.nsIn X.K mainGlobals nm = some (some (.ref C))) (ho : PE X o (tF X.K fa)) (ha : PA X (e :: es) (tFA X.K fs))
    (hst : starEach (e :: es) X.env = (false, eval e X.env) :: starEach es X.env := by rfl) (hpl : (backTo pos (starEach es X.env)).any (·.1) = false := by rfl) (ht : eval (.Call (.Attribute o m apos) (e :: es) [] pos) X.env = (do
      let ov ← eval o X.env
      standAt apos.atName
      let (f, first) ← holding [ov] (getMethod ov m pl)
      callWith pos f first (backTo pos (starEach (e :: es) X.env)) (backToKw pos (keywordEach [] X.env))) := by rfl) : PE X (.Call (.Attribute o m apos) (e :: es) [] pos) (tFX X.K X.mg W (fMethX nm m F fa (fLen n fs))) :=
  ⟨fun pins s σ H Q I ⟨as, S, o, μ', E, ed, q⟩ => meth_any (E := L2.WE W σ) c hm G hr hgd hc ho ha hst hpl ht I E ed (passAt tk σ) (by
    cases o with
    | v d => exact q
    | x m pp => exact q)⟩
theorem meth_any0 {pl : Sem Bool} {nm : Str} {pins : List (Addr × Obj)} {s : Shared} {σ : L2.St} {H : Hp} {Q : VK} {E : XK} {as : Ar} {S : Sg} {r : Ov} {μ' : List Cell} (c : Cls X.K C) (hm : Meth X.K C m f) (G : FG X.prog X.w X.K X.mg X.base k f fd 1 F) (hr : Room k X.A) (hgd : X.A.guards = some []) (hc : PySem.W.nsIn X.K mainGlobals nm = some (some (.ref C)))
    (ho : PE X o (tF X.K fa)) (ht : eval (.Call (.Attribute o m apos) [] [] pos) X.env = (do
      let ov ← eval o X.env
      standAt apos.atName
      let (f, first) ← holding [ov] (getMethod ov m pl)
      callWith pos f first (backTo pos (starEach [] X.env)) (backToKw pos (keywordEach [] X.env))))
    (I : Inv X pins σ H s) (ee : ER X.K as σ H S) (ed : fMethX nm m F fa (fLen 0 fNil) S = some (r, μ')) (hx : PassesAt (L2.CX X.prog X.w) X σ E) (q : outD X.K X.mg as H Q E r μ') :
    wpAny (model X.prog X.w) X.A (eval (.Call (.Attribute o m apos) [] [] pos) X.env) (EP X pins σ Q) X.xe s := by
  obtain ⟨ob, μ1, ds, μ2, e1, hob, e2, hn, ef⟩ := fMethX_out ed
  obtain ⟨rfl, rfl⟩ := pr_inj e2
  refine PySem.W.methodCall_KW (pl := pl) (thn (ho.run pins s σ H (fun v H1 => ∃ as1, Ext as H as1 H1 ∧ Rep X.K as1 H1 v ob ∧ StoR X.K as1 H1 μ1) I ⟨as, S, ob, μ1, ee, e1, fun v as1 H1 X1 r1 s1 => ⟨as1, X1, r1, s1⟩⟩) fun u s1 ⟨v, H1, I1, rv, as1, X1, ro, st1⟩ => ?_) ht
  obtain ⟨a, dx, fv, rfl, haH, hl⟩ := isObjD_ok hc ro st1 hob
  obtain rfl : u = Value.ref a := rv
  refine getmeth_ok I1 haH c hm hl ?_
  refine PySem.W.callWith_K0 (first := [.ref a]) I1.kIn hm.kp (run_fg (us := [.ref a]) (vs := [.ref a]) G hr hgd I1 (.cons rfl .nil) hx ⟨as1, μ1, [ob], r, μ', rfl, .cons ro .nil, st1, ef, ?_⟩).2
  cases r with
  | v d => exact fun v as3 H3 X3 r3 s3 => q v as3 H3 (X1.trans X3 ee.sto.trk) r3 s3
  | x m pp => exact fun as3 H3 C dx X3 s3 ec xr => q as3 H3 C dx (X1.trans X3 ee.sto.trk) s3 ec xr
/-! e.f, a property of the class -/
def fProp (nm : Str) (F : FnF) (fo : EvE) : EvE := fun S => match fo S with
  | some (.h k, μ1) => match μ1[k]? with
    | some (.obj n' _) => if n' = nm then match F [.h k] μ1 with
      | some (.v d, μ2) => some (d, μ2)
      | _ => none
      else none
    | _ => none
  | _ => none
theorem de_prop {nm fl : Str} {pp g : Addr} (c : Cls X.K C) (hp : PropOf X.K C fl pp g) (G : FG X.prog X.w X.K X.mg X.base k g fd 1 F) (hr : Room (k + 1) X.A) (hgd : X.A.guards = some []) (hc : PySem.W.nsIn X.K mainGlobals nm = some (some (.ref C))) (ho : PE X o (tF X.K fa)) (hab : attributeBase o fl X.env (eval o X.env) = eval o X.env := by rfl) :
    PE X (.Attribute o fl pos) (tF X.K (fProp nm F fa)) := by
  refine ⟨fun pins s σ H Q I ⟨as, S, d, μ', E, ed, q⟩ => ?_⟩
  unfold fProp at ed
  split at ed
  · rename_i kk μ1 e1
    split at ed
    · rename_i n' flds ec
      split at ed
      · rename_i hn
        subst hn
        split at ed
        · rename_i d2 μ2 ef
          obtain ⟨rfl, rfl⟩ := pr_inj ed
          refine attr_of hab (thn (ho.run pins s σ H (fun v H1 => ∃ as1, Ext as H as1 H1 ∧ Rep X.K as1 H1 v (.h kk) ∧ StoR X.K as1 H1 μ1) I ⟨as, S, _, μ1, E, e1, fun v as1 H1 X1 r1 s1 => ⟨as1, X1, r1, s1⟩⟩) fun u s1 ⟨v, H1, I1, rv, as1, X1, ro, st1⟩ => ?_)
          obtain ⟨a, C', dx, fv, rfl, _, hn', haH, _, _⟩ := h_obj ro st1 ec
          have z := hc.symm.trans hn'
          injection z with z
          injection z with z
          injection z with z
          subst z
          obtain rfl : u = Value.ref a := rv
          obtain ⟨mA, O, _, _, _, _⟩ := ins_get I1.hok haH
          obtain ⟨od, J, _⟩ := O.look
          obtain ⟨rest, hrec⟩ := hp.rec_
          have I2 := I1.tok (s1.toks + 1)
          have hcl : (PySem.W.clsIn X.K C).isSome = true := by
            obtain ⟨cd, hcd, _⟩ := PySem.W.any_some c.hd
            rw [hcd]; rfl
          obtain ⟨ps, hps, hb, hk, run⟩ := G.ps
          refine PySem.W.get_bind I1.kIn J (PySem.W.plainGet_of (c.get fl)).1 (PySem.W.findObj_data hcl hp.at_ hp.get hp.tak) (PySem.W.plainGet_of (c.get fl)).2 (wpAny_call (PySem.W.prop_get (s := { s1 with toks := s1.toks + 1 }) I1.kIn hrec ?_))
          refine codeAny_mono (run X.A.in1 X.stack { s1 with toks := s1.toks + 1 } H1 ⟨[.ref a], []⟩ [.ref a] [.ref a] Q (fun _ _ _ => False) hr.in1 hgd I2.env0.in1 (hb _ [.ref a] I2.kIn (by rw [List.append_nil]; exact hps.symm)) (.cons rfl .nil) ⟨as1, μ1, [.h kk], .v d2, μ2, rfl, .cons ro .nil, st1, ef, fun v as2 H2 X2 r2 s2 => q v as2 H2 (X1.trans X2 E.sto.trk) r2 s2⟩) fun r s' hq => ?_
          cases r with
          | error er =>
            obtain ⟨_, _, _, _, _, _, _, _, _, _, _, _, z⟩ := hq
            exact z.elim
          | ok fl =>
            cases fl with
            | ret u =>
              obtain ⟨v, H', I3, rv, q3⟩ := I2.after hq
              show wpAny _ _ (handedOut u) _ _ _
              rw [PySem.W.handedOut_of (handed_of rv)]
              exact wpAny_pure ⟨v, H', I3, rv, q3⟩
            | _ => exact False.elim hq
        · cases ed
      · cases ed
    · cases ed
  · cases ed
end
end DL
/-! A lambda without parameters, handed to a def that calls it in a try. -/
namespace DL
open PySem PySem.Spec PyProof.Rows L2
section
variable {H : Hp}
/-- the heap behind the making of a lambda: the table has its code object, c' -/
def LamAt (H : Hp) (P : Addr) (q : Str) (ps : Array Value) (c' : Addr) (H1 : Hp) : Prop :=
  (H1 = H ∧ H c' = some (LamX.CodeO c' q)) ∨ ∃ i j : Value, H c' = none ∧ TriplesOk (ps ++ #[i, j, .ref c']).toList ∧ (∀ (p : Pos) (cv : Value), codeAmong p (ps ++ #[i, j, .ref c']).toList = some cv → codeAmong p ps.toList = some cv ∨ cv = .ref c') ∧
    H1 = upd (upd H P (.tbl (ps ++ #[i, j, .ref c']))) c' (LamX.CodeO c' q)
theorem codeO_tbl {c : Addr} {q : Str} {ps : Array Value} (e : some (HO.tbl ps) = some (LamX.CodeO c q)) : False := by
  unfold LamX.CodeO at e
  cases e
theorem LamAt.sto {K : PySem.W.Frag} {as : Ar} {μ : List Cell} {x q : Str} {k : Nat} {P c' : Addr} {ps : Array Value} {H1 : Hp} (L : LamAt H P q ps c' H1) (s0 : StoR K as H μ) (ek : as.c[k]? = some P) (em : μ[k]? = some (.tab x q)) (hP : H P = some (.tbl ps)) :
    Ext as H as H1 ∧ StoR K as H1 μ ∧ H1 c' = some (LamX.CodeO c' q) := by
  rcases L with ⟨rfl, e⟩ | ⟨i, j, n, tr, am, rfl⟩
  · exact ⟨.refl, s0, e⟩
  · have hPc : P ∈ as.c := List.mem_of_getElem? ek
    have ne : P ≠ c' := ne_of_none hP n
    have nc : c' ∉ as.c := (s0.out n).1
    have X1 : Ext as H as (upd (upd H P (.tbl (ps ++ #[i, j, .ref c']))) c' (LamX.CodeO c' q)) := ⟨⟨[], by simp, by simp⟩, ⟨[], by simp, by simp⟩, fun b o hb e => by
        rw [upd_ne (ne_of_none e n), upd_ne fun z => hb (by rw [z]; exact hPc)]
        exact e, fun b hb e => by
        by_cases z : b = c'
        · rw [z, upd_same]; simp
        · by_cases w : b = P
          · rw [upd_ne z, w, upd_same]; simp
          · rw [upd_ne z, upd_ne w]; exact e, fun b o u e => by
        rw [upd_ne (ne_of_none e n), upd_ne fun z => by rw [z, hP] at e; cases e]
        exact e⟩
    refine ⟨X1, ⟨s0.len, fun m b c ej ec => ?_, s0.nd, fun b hb => ?_⟩, upd_same⟩
    · have hb : b ∈ as.c := List.mem_of_getElem? ej
      have zb : b ≠ c' := fun z => nc (z ▸ hb)
      by_cases w : b = P
      · subst w
        obtain rfl := nodup_ix s0.nd ek ej
        rw [em] at ec
        cases ec
        obtain ⟨c, ps', t1, t2, t3, t4⟩ := s0.at_ k b _ ek em
        rw [hP] at t2
        cases t2
        refine ⟨c, _, t1, by rw [upd_ne zb, upd_same], tr, fun p' cv hcv => ?_⟩
        rcases am p' cv hcv with z | z
        · obtain ⟨e, e1, e2, e3⟩ := t4 p' cv z
          refine ⟨e, e1, ?_, e3⟩
          rw [upd_ne (ne_of_none e2 n), upd_ne fun z => e3 (by rw [z]; exact hPc)]
          exact e2
        · exact ⟨c', z, upd_same, nc⟩
      · exact (s0.at_ m b c ej ec).mv X1 (by rw [upd_ne zb, upd_ne w])
    · by_cases z : b = c'
      · rw [z, upd_same]; simp
      · by_cases w : b = P
        · rw [upd_ne z, w, upd_same]; simp
        · rw [upd_ne z, upd_ne w]; exact s0.bl b hb
end
section
variable {X : Cx} {pins : List (Addr × Obj)} {σ : L2.St} {H : Hp} {s : Shared}
theorem lam_new {c P : Addr} {q : Str} {ps : Array Value} {params : Arguments} {body : Expr} {scope : Scope} {pos : Pos} {E Q : Value → Shared → Prop} (I : Inv X pins σ H s) (TB : LamX.TabB X.base X.mg c P) (hcode : X.env.code = .ref c) (hq : X.env.qual ++ "<lambda>" = q)
    (hP : H P = some (.tbl ps)) (tr : TriplesOk ps.toList) (known : ∀ (p : Pos) (cv : Value), codeAmong p ps.toList = some cv → ∃ e, cv = .ref e ∧ H e = some (LamX.CodeO e q)) (nd : defaultsOf params X.env = ([], [])) (fr : ∀ y ∈ scope.names, y.2 = .free → ∃ c, X.env.cells.lookup y.1 = some c)
    (go : ∀ (f c' : Addr) (pm ctv : Value) (H1 : Hp) (s' : Shared), Inv X pins σ H1 s' → LamAt H P q ps c' H1 → s'.heap.get? f = some (PySem.W.kla_obj "<lambda>" q params body scope (cloFrom X.env.cells scope.names []) pm c' ctv) → H1 f = none → f ∉ frs X.stack → Q (.ref f) s') :
    wpAny (model X.prog X.w) X.A (eval (.Lambda params body scope pos) X.env) Q E s := by
  subst hq
  have out : ∀ f, s.heap.objs.size ≤ f → f ∉ frs X.stack := fun f hf z => (List.mem_cons.mp (I.stkSub _ z)).elim (fun e => Nat.lt_irrefl _ (Nat.lt_of_lt_of_le (e ▸ I.lt) hf)) (I.nofs hf)
  have B := TB.bm.keeps I.bk
  have at_ := I.hok P _ hP
  have hc := TB.code.keeps I.bk
  refine PySem.W.kla_eval nd ?_
  cases look : codeAmong pos ps.toList with
  | some cv =>
    obtain ⟨c', rfl, hco⟩ := known pos cv look
    refine PySem.W.kla_makeFunctionHit (c := c) (P := P) (ps := ps) (closure_ok fr) I.ok.glob (I.mod.glob.keeps I.bk) hcode hc at_ tr look B fun ctv h' tk ext sz => ?_
    exact go _ c' _ ctv H _ (I.kept (t' := tk) fun b o e => Heap.get?_push_of_some _ (ext b o e)) (.inl ⟨rfl, hco⟩) (Heap.get?_push_size _ rfl) (I.hok.fresh sz) (out _ sz)
  | none =>
    refine PySem.W.kla_makeFunction (c := c) (P := P) (ps := ps) (closure_ok fr) I.ok.glob (I.mod.glob.keeps I.bk) hcode hc at_ tr look TB.gP B fun c' ctv h' tk ext ge lt hrec tb => ?_
    obtain ⟨c2, oc, vs, t, e2, ho, hd, hv⟩ := hrec
    cases e2
    have n : H c' = none := I.hok.fresh ge
    have big : s.heap.objs.size ≤ h'.objs.size := Nat.le_trans ge (Nat.le_of_lt lt)
    have up := fun {b : Addr} {o : Obj} (e : h'.get? b = some o) => Heap.get?_push_of_some (PySem.W.kla_obj "<lambda>" (X.env.qual ++ "<lambda>") params body scope (cloFrom X.env.cells scope.names []) ((X.mg "__name__").getD .none) c' ctv) e
    refine go h'.objs.size c' ((X.mg "__name__").getD .none) ctv _ _ (LamX.inv_table (t' := tk) (more := #[rawInt pos.line, rawInt pos.col, .ref c']) I hP (fun b o hb e => up (ext b o hb e)) (up tb) ge ⟨oc, vs, t, up ho, hd, hv⟩)
      (.inr ⟨rawInt pos.line, rawInt pos.col, n, ?_, fun p cv z => LamX.among_app ps.toList tr (by simpa using z), rfl⟩) (Heap.get?_push_size _ rfl) ?_ (out _ big)
    · have z := PySem.TriplesOk_snoc pos.line pos.col (.ref c') ps.toList tr
      simpa [rawInt] using z
    · rw [upd_ne (Nat.ne_of_gt lt), upd_ne (Nat.ne_of_gt (Nat.lt_of_lt_of_le (Heap.lt_size at_) big))]
      exact I.hok.fresh big
end

section
open LamX
variable {X : Cx} {pins : List (Addr × Obj)} {σ : L2.St} {H : Hp} {s : Shared}
/-- the def that got a lambda calls it by its parameter's name, at slot 0 -/
theorem act_any {Ng : List Str} {qg q a : Str} {sg scope : Scope} {g f c' : Addr} {cdg pm ctv : Value} {params : Arguments} {body : Expr} {k : Nat} {pn : List (Addr × Obj)} {xe : Value → Shared → Prop} {W : WX} {E : XK} {tb : TE} {p1 p2 : Pos}
    (I : Inv X pins σ H s) (L : LamS X.env.scope scope) (hq : X.env.qual ++ "<lambda>" = q) (hf : s.heap.get? f = some (PySem.W.kla_obj "<lambda>" q params body scope (cloFrom X.env.cells scope.names []) pm c' ctv)) (nf : H f = none) (of : f ∉ frs X.stack)
    (nob : ∀ (cl : List (Str × Addr)) (pm cv ctv : Value), bindArgs (PySem.W.kla_fn "<lambda>" q params body scope cl pm cv ctv) ⟨[], []⟩ = pure []) (tk : Takes ((cxOf C8.CX0 X.prog X.w X.K X.mg X.base Ng qg sg g cdg X.A X.stack s H C8.E0).tr pn xe) W) (hW : ∀ cls d σ' H', E cls d H' → W cls d σ' H')
    (hr : Room (k + 1) (X.A.deeper (envOfC qg sg s.heap.objs.size g cdg))) (hgd : X.A.guards = some []) (hN : Ng[0]? = some a) (hv : Vis sg a) (hd : (a == ("__debug__" : Str)) = false) (hcd : (a == ("__classdict__" : Str)) = false)
    (hbody : ∀ (A : Around) (outer : List Env) (s1 : Shared) (H1 : Hp), Room k (A.deeper (lamEnv X scope s1.heap.objs.size f c')) → A.guards = some [] → PE (lamCx X A outer s1 H1 E scope f c') body tb) :
    PE ((cxOf C8.CX0 X.prog X.w X.K X.mg X.base Ng qg sg g cdg X.A X.stack s H C8.E0).tr pn xe) (.Call (.Name a p1) [] [] p2) (fun σZ HZ Q => σZ[0]? = some (some (.ref f)) ∧ HZ c' = some (CodeO c' q) ∧ tb σ HZ Q) := by
  subst hq
  refine ⟨fun pinsZ sZ σZ HZ Q IZ ⟨h0, hc, ht⟩ => ?_⟩
  refine wpAny_Call_Name_kw (thn ((pe_var (pos := p1) (i := 0) hN hv hd hcd).run pinsZ sZ σZ HZ (fun v H1 => v = .ref f ∧ H1 = HZ) IZ ⟨.ref f, h0, rfl, rfl⟩) ?_)
  rintro u s1 ⟨v, H1, I1, r1, rfl, rfl⟩
  obtain rfl : u = Value.ref f := r1
  have there : s1.heap.get? f = some (PySem.W.kla_obj "<lambda>" (X.env.qual ++ "<lambda>") params body scope (cloFrom X.env.cells scope.names []) pm c' ctv) := I1.base.keep f _ hf nf of fun z => List.not_mem_nil (show f ∈ ([] : List Addr) from z)
  have un : Un (frs X.stack) [] H H1 s.heap s1.heap := I1.base
  obtain ⟨⟨oc, vs, t, k1, k2, k3⟩, _, _⟩ := I1.hok c' _ hc
  have go : codeAny (model X.prog X.w) (X.A.deeper (envOfC qg sg s.heap.objs.size g cdg)) (.call (.ref f) ⟨[], []⟩) (CR (L2.CX X.prog X.w) (envOfC qg sg s.heap.objs.size g cdg :: X.stack) X.prog X.w H1 s1 Q E) s1 := by
    refine PySem.W.kla_callFunE hr.depth there rfl L.co L.gen rfl ⟨c', oc, vs, t, rfl, k1, k2, k3⟩ ?_
    rw [nob]
    refine wpAny_pure (wpAny_newFunctionEnv (fun y hy => (L.own y hy).2) (fun y hy => (List.not_mem_nil hy).elim) (fun h1 hns hsb => ⟨I1.nolimit.fresh _ hsb, ?_⟩) L.kind)
    have kp : ∀ b o, s1.heap.get? b = some o → h1.get? b = some o := fun b o e => hsb.extBut b o (Nat.ne_of_lt (Heap.lt_size e)) (Heap.get?_push_of_some _ e)
    have J := lam_start2 (A := X.A.deeper (envOfC qg sg s.heap.objs.size g cdg)) (outer := envOfC qg sg s.heap.objs.size g cdg :: X.stack) (E := E) (f := f) (c' := c') (tk := s1.toks + ([] : List (Str × Value)).length) I L I1.env0 hr.hd un hns kp
    refine PySem.W.kla_codeExpr (thn ((hbody _ _ s1 H1 (hr.deeper _) (guards_deeper hgd)).run [] _ _ H1 Q J ht) ?_)
    rintro v s' ⟨w', H', J', rv, q⟩
    exact ⟨w', H', J'.os, J'.bare, J'.base, J'.hok, rv, q⟩
  refine PySem.W.callWith_F0 ⟨_, _, _, _, there⟩ (wpAny_call (codeAny_mono go fun r s' z => ?_))
  cases r with
  | error e => exact passes_call tk hW pinsZ σZ H1 s1 e s' I1 z
  | ok fl => cases fl with
    | ret u => exact I1.after z
    | _ => exact False.elim z
/-- y(lambda: body), y's body: try: return a() / except e: return r -/
def fMet (j : Nat) (x q : Str) (h : Str → Option Bool) (d : D) (f : EvX) : EvE := fun S => match S.μ[j]? with
  | some (.tab x' q') => if x' = x ∧ q' = q then match f S with
    | some (.v y, μ1) => some (y, μ1)
    | some (.x n none, μ1) => if h n = some true then some (d, μ1) else none
    | _ => none
    else none
  | _ => none
theorem de_met {st : Stmt} {g c P CS : Addr} {fd : FuncData} {Ng : List Str} {y a x q en : Str} {params : Arguments} {body er : Expr} {scope : Scope} {lpos pos p p1 p2 p3 p4 p6 p7 p8 : Pos} {j k : Nat} {h : Str → Option Bool} {w : V} {d : D} {f : EvX}
    (Fu : Fun X.K y y st g fd) (Sg : FnScope Ng [a] (defScope st)) (hB : ∀ (kV doc pm : Value) (an : Option Addr) (cdv ct : Value) (us : List Value), us.length = [a].length → bindArgs (PySem.W.fnOf y y (defArgs st) (defBody st) (defScope st) .none kV doc pm an cdv ct) ⟨us, []⟩ = pure ([a].zip us))
    (hbd : defBody st = [.Try [.Return (some (.Call (.Name a p1) [] [] p2)) p3] [.ExceptHandler (some (.Name en p4)) none [.Return (some er) p6] p7] [] [] p8]) (hN : Ng[0]? = some a) (hv : Vis (defScope st) a) (hge : (defScope st).names.lookup en = some .globalImplicit) (hme : X.mg en = some (.ref CS))
    (hh : ∀ n C, h n = some true → X.mg n = some C → PySem.W.exmOne X.K C (.ref CS) = some true) (her : ∀ Z : Cx, PE Z er (tC w)) (rw' : ∀ as H, Rep X.K as H w d)
    (hg : Gl X y) (hm : X.mg y = some (.ref g)) (TB : TabB X.base X.mg c P) (ht : PySem.W.tabIn X.K x = some (c, P)) (hcode : X.env.code = .ref c) (hq : X.env.qual ++ "<lambda>" = q) (hr : Room (k + 2) X.A) (hgd : X.A.guards = some []) (L : LamS X.env.scope scope) (nd : defaultsOf params X.env = ([], []))
    (nob : ∀ (cl : List (Str × Addr)) (pm cv ctv : Value), bindArgs (PySem.W.kla_fn "<lambda>" q params body scope cl pm cv ctv) ⟨[], []⟩ = pure [])
    (hbody : ∀ (A : Around) (outer : List Env) (s1 : Shared) (H1 : Hp) (E : XK) (f1 c' : Addr), Room k (A.deeper (lamEnv X scope s1.heap.objs.size f1 c')) → A.guards = some [] → PE (lamCx X A outer s1 H1 E scope f1 c') body (tFX X.K X.mg (fun cls d _ H => E cls d H) f))
    (hdb : (y == ("__debug__" : Str)) = false := by decide) (hd : (a == ("__debug__" : Str)) = false := by decide) (hcd : (a == ("__classdict__" : Str)) = false := by decide) (hde : (en == ("__debug__" : Str)) = false := by decide) :
    PE X (.Call (.Name y p) [.Lambda params body scope lpos] [] pos) (tF X.K (fMet j x q h d f)) := by
  refine ⟨fun pins s σ H Q I ⟨as, S, z, μ', E, ed, qq⟩ => ?_⟩
  unfold fMet at ed
  split at ed
  rotate_left
  · cases ed
  rename_i x' q' em
  split at ed
  rotate_left
  · cases ed
  rename_i hx
  obtain ⟨rfl, rfl⟩ := hx
  have hj : j < as.c.length := by rw [E.sto.len]; exact (List.getElem?_eq_some_iff.mp em).1
  obtain ⟨P', hP'⟩ : ∃ P', as.c[j]? = some P' := ⟨_, List.getElem?_eq_getElem hj⟩
  obtain ⟨c0, ps, t1, t2, t3, t4⟩ := E.sto.at_ j P' _ hP' em
  obtain ⟨rfl, rfl⟩ := pr_inj (t1.symm.trans ht)
  obtain ⟨oc, od, kV, doc, pm, an, cdv, ct, osl, rfl, lk, hcg⟩ := Fu.ex
  refine wpAny_Call_Name_kw (ld_glob I hg hm ?_ hdb)
  refine PySem.W.callWith_K (h₀ := X.base) I.ok.mod.kin Fu.kp ?_ (by rfl) (by rfl)
  show wpAny _ _ (spliced ((false, eval (.Lambda params body scope lpos) X.env) :: backTo pos (starEach [] X.env))) _ _ s
  refine Calls.spliced_cons (lam_new I TB hcode hq t2 t3 (fun pp cv w => let ⟨e, e1, e2, _⟩ := t4 pp cv w; ⟨e, e1, e2⟩) nd (L.has I.ok) fun f1 c' pm' ctv H1 s' I1 LA hf nf of => ?_)
  obtain ⟨X1, s1, hco⟩ := LA.sto E.sto hP' em t2
  have E1 : ER X.K as σ H1 S := ⟨E.env.mv X1, s1⟩
  refine Calls.spliced_nil ⟨I1.kIn, ?_⟩
  refine wpAny_call (codeAny_mono (run_ofS (CX := C8.CX0) (E := C8.E0) (N := Ng) (ps := [a]) (us := [.ref f1]) (vs := [.ref f1]) (Q := Q) lk hcg Sg hr I1.env0 ((Fu.binds hB) s' [.ref f1] I1.kIn rfl) (.cons rfl .nil) rfl fun hr' => ?_) fun r s2 rr => ?_)
  · rw [hbd]
    refine ⟨_, (pss_one (ps_try_only (X := (cxOf C8.CX0 X.prog X.w X.K X.mg X.base Ng y (defScope st) g cdv X.A X.stack s' H1 C8.E0).nox) (c := .ref CS)
      (tb := fun W D σ2 H2 => ∃ Ech : XK, (∀ cls d σ' H', Ech cls d H' → W cls d σ' H') ∧ σ2[0]? = some (some (.ref f1)) ∧ H2 c' = some (CodeO c' (X.env.qual ++ "<lambda>")) ∧ tFX X.K X.mg (fun cls d _ H => Ech cls d H) f σ H2 D.rt)
      rfl rfl ⟨hge, hde, .inl hme⟩ takes0 (fun W pn xe tk _ => ?_) (fun a oe cls d pn _ _ => pss_one (ps_ret (her _))))).nox, ?_⟩
    · refine ⟨fun pins2 s2 σ2 H2 D I2 ⟨Ech, hW, h1, h2, h3⟩ => ?_⟩
      exact (pss_one (ps_ret (pos := p3) (act_any (k := k) (tb := tFX X.K X.mg (fun cls d _ H => Ech cls d H) f) (p1 := p1) (p2 := p2) I1 L rfl (hq ▸ hf) nf of (by rw [hq]; exact nob) tk hW hr' hgd hN hv hd hcd fun A outer s3 H3 r3 g3 => hbody A outer s3 H3 Ech f1 c' r3 g3))).run pins2 s2 σ2 H2 D I2 ⟨h1, h2, h3⟩
    · have h0 : (L2.start Ng [V.ref f1])[0]? = some (some (V.ref f1)) := rfl
      split at ed
      · rename_i y0 μ1 ef
        obtain ⟨rfl, rfl⟩ := pr_inj ed
        exact ⟨fun _ _ _ => False, fun cls d σ' H' z => z.elim, h0, by rw [hq]; exact hco, as, S, .v y0, μ1, E1, ef, fun v as2 H2 X2 r2 s2 => qq v as2 H2 (X1.trans X2 E.sto.trk) r2 s2⟩
      · rename_i n μ1 ef
        split at ed
        · rename_i hn
          obtain ⟨rfl, rfl⟩ := pr_inj ed
          exact ⟨fun cls _ H' => PySem.W.exmOne X.K cls (.ref CS) = some true ∧ Q w H', fun cls d σ' H' ⟨e1, e2⟩ => ⟨true, e1, fun _ _ _ => e2, fun z => nomatch z⟩, h0, by rw [hq]; exact hco, as, S, .x n none, μ1, E1, ef,
            fun as2 H2 C dx X2 s2 ec _ => ⟨hh n C hn ec, qq w as2 H2 (X1.trans X2 E.sto.trk) (rw' _ _) s2⟩⟩
        · cases ed
      · cases ed
  · cases r with
    | error e => exact (show False from rr).elim
    | ok fl => cases fl with
      | ret u => exact I1.after rr
      | _ => exact False.elim rr
end
end DL
/-! Defs called with any number of arguments (def f(a, *b) among them), classes as values, ==, len, str of the program's own. -/
namespace DL
open PySem PySem.Spec PyProof.Rows L2
/-- what a def promises, whatever the number of arguments -/
def spR (K : PySem.W.Frag) (mg : Str → Option Value) (F : FnF) : Sp := fun vs H Q E => ∃ as μ ds o μ', Reps K as H vs ds ∧ StoR K as H μ ∧ F ds μ = some (o, μ') ∧ outD K mg as H Q E o μ'
structure FR (P : Program) (w : World) (K : PySem.W.Frag) (mg : Str → Option Value) (base : Heap) (k : Nat) (f : Addr) (F : FnF) : Prop where
  kp : PySem.W.keepIn K (.ref f) = true
  run : ∀ (A : Around) (stk : List Env) (st : Shared) (H : Hp) (us : List Value) (vs : List V) (Q : VK) (E : XK), Room k A → A.guards = some [] → Env0 P w K mg base A stk st H → Vals vs us → spR K mg F vs H Q E →
    codeAny (model P w) A (.call (.ref f) ⟨us, []⟩) (CR (CX P w) stk P w H st Q E) st
/-- .. of so many -/
def only (n : Nat) (F : FnF) : FnF := fun ds μ => if ds.length = n then F ds μ else none
theorem only_out {n : Nat} {F : FnF} {ds : List D} {μ : List Cell} {r : Ov × List Cell} (e : only n F ds μ = some r) : ds.length = n ∧ F ds μ = some r := by
  unfold only at e
  split at e
  · rename_i h; exact ⟨h, e⟩
  · cases e
section
variable {P : Program} {w : World} {K : PySem.W.Frag} {mg : Str → Option Value} {base : Heap}
theorem FG.fr {k n : Nat} {f : Addr} {fd : FuncData} {F : FnF} (G : FG P w K mg base k f fd n F) : FR P w K mg base k f (only n F) := by
  obtain ⟨ps, hn, hb, hk, run⟩ := G.ps
  refine ⟨hk, fun A stk st H us vs Q E hr hgd e0 r ⟨as, μ, ds, o, μ', rs, sto, ef, q⟩ => ?_⟩
  obtain ⟨hl, ef⟩ := only_out ef
  have hv : vs.length = n := rs.length.trans hl
  have kin : K.In st.heap := e0.mod.kin.keeps fun b o e => (e0.bs b o e).1
  have z := run A stk st H ⟨us, []⟩ (us ++ []) vs Q E hr hgd e0 (hb st us kin (by rw [List.append_nil, ← r.length, hv, hn])) (by rw [List.append_nil]; exact r) ⟨as, μ, ds, o, μ', hv, rs, sto, ef, q⟩
  exact z
theorem FR.mono {j k : Nat} {f : Addr} {F : FnF} (h : FR P w K mg base j f F) (hk : j ≤ k) : FR P w K mg base k f F := ⟨h.kp, fun A stk st H us vs Q E hr => h.run A stk st H us vs Q E (hr.mono hk)⟩
/-- the entry of a def: its parameters' data -/
theorem start_env {as : Ar} {H : Hp} {N : List Str} {vs : List V} {ds : List D} (rs : Reps K as H vs ds) (hl : ds.length ≤ N.length) : EnvR K as H (L2.start N vs) (ds.map some ++ List.replicate (N.length - ds.length) none) := by
  have e := rs.length
  refine ⟨by unfold L2.start; simp [e], fun i d h => ?_⟩
  unfold L2.start
  by_cases hi : i < ds.length
  · rw [List.getElem?_append_left (by simpa using hi), List.getElem?_map] at h
    obtain ⟨d2, e2, e3⟩ := Option.map_eq_some_iff.mp h
    cases e3
    obtain ⟨v, hv, rv⟩ := rs.get e2
    exact ⟨v, by rw [List.getElem?_append_left (by rw [List.length_map, e]; exact hi), List.getElem?_map, hv]; rfl, rv⟩
  · rw [List.getElem?_append_right (by simpa using hi), List.getElem?_replicate] at h
    split at h <;> cases h
/-- how a body's end is a def's -/
theorem fnF_out {n m : Nat} {g : EvS} {ds : List D} {μ μ' : List Cell} {o : Ov} {as : Ar} {H : Hp} {Q : VK} {E : XK} (ef : fnF n m g ds μ = some (o, μ')) (q : outD K mg as H Q E o μ') :
    ∃ fl S', g ⟨ds.map some ++ List.replicate (m - n) none, μ⟩ = some (fl, S') ∧ endS K mg (WfD E) as H { nx := fun _ H' => Q .non H', rt := Q } fl S' := by
  unfold fnF at ef
  split at ef
  · rename_i d2 S2 e2
    obtain ⟨rfl, rfl⟩ := pr_inj ef
    exact ⟨.rt d2, S2, e2, fun as' v H' X' rv s' => q v as' H' X' rv s'⟩
  · rename_i S2 e2
    obtain ⟨rfl, rfl⟩ := pr_inj ef
    exact ⟨.nx, S2, e2, fun as' σ' H' X' E' => q .non as' H' X' .non E'.sto⟩
  · rename_i n2 p2 S2 e2
    obtain ⟨rfl, rfl⟩ := pr_inj ef
    exact ⟨.ex n2 p2, S2, e2, fun as' σ' H' C dx X' E' ec xr => q as' H' C dx X' E'.sto ec xr⟩
  · cases ef
/-- def f(a, .., *b): what is left over is a tuple -/
def starF (n m : Nat) (g : EvS) : FnF := fun ds μ => if n ≤ ds.length ∧ ds.length - n ≤ sizeLine then fnF (n + 1) m g (ds.take n ++ [.tup (ds.drop n)]) μ else none
theorem fr_star {x qual : Str} {st : Stmt} {f : Addr} {fd : FuncData} {N ps : List Str} {pv : Str} {k : Nat} {g : EvS} (Fu : Fun K x qual st f fd) (S : FnScope N (ps ++ [pv]) (defScope st))
    (hB : ∀ (kV doc pm : Value) (an : Option Addr) (cdv ct : Value) (us rest : List Value), us.length = ps.length → bindArgs (PySem.W.fnOf x qual (defArgs st) (defBody st) (defScope st) .none kV doc pm an cdv ct) ⟨us ++ rest, []⟩ = (newTuple rest >>= fun t => pure (ps.zip us ++ [(pv, t)])))
    (hbody : ∀ (cdv : Value) (A : Around) (stk : List Env) (s : Shared) (H : Hp) (E : XK), Room k (cxB P w K mg base N qual st f cdv A stk s H E).A → (cxB P w K mg base N qual st f cdv A stk s H E).A.guards = some [] → PSs (cxB P w K mg base N qual st f cdv A stk s H E) (defBody st) (tFS K mg (WfD E) g)) :
    FR P w K mg base (k + 1) f (starF ps.length N.length g) := by
  refine ⟨Fu.kp, fun A stk s H us vs Q E hr hgd e0 r ⟨as, μ, ds, o, μ', rs, sto, ef, q⟩ => ?_⟩
  obtain ⟨oc, od, kV, doc, pm, an, cdv, ct, osl, rfl, lk, hcd⟩ := Fu.ex
  unfold starF at ef
  split at ef
  rotate_left
  · cases ef
  rename_i hn
  have fresh : H s.heap.objs.size = none := e0.hok.fresh (Nat.le_refl _)
  have lv := rs.length
  have e1 : vs.take ps.length ++ vs.drop ps.length = vs := List.take_append_drop _ _
  obtain ⟨u1, u2, eu, r1, r2⟩ := StX.vals_split (ws := vs.take ps.length) (rest := vs.drop ps.length) (us := us) (by rw [e1]; exact r)
  subst eu
  have l1 : (vs.take ps.length).length = ps.length := by rw [List.length_take, lv]; omega
  have l1' : u1.length = ps.length := by rw [← r1.length]; exact l1
  have l2 : (vs.drop ps.length).length ≤ sizeLine := by rw [List.length_drop, lv]; exact hn.2
  have l2' : u2.length ≤ sizeLine := by rw [← r2.length]; exact l2
  refine StX.run_bnd lk hcd S hr e0 (G := fun xs H2 => ∃ p, H p = none ∧ xs = vs.take ps.length ++ [V.ref p] ∧ H2 = upd H p (.tup (vs.drop ps.length))) (fun A' Ex Q' h => ?_) fun s2 H2 xs ⟨p, hp, ex, eH⟩ hr' => ?_
  · rw [hB kV doc pm an cdv ct u1 u2 l1']
    refine wpAny_bind (wpAny_newTuple (wpAny_pure ?_) l2')
    have lay : ObjOk P w (upd H s.heap.objs.size (HO.tup (vs.drop ps.length))) (s.heap.push ({ cls := .type "tuple", data := .seq u2.toArray } : Obj)) s.heap.objs.size (HO.tup (vs.drop ps.length)) := ⟨l2, u2, r2, ⟨_, Heap.get?_push_size _ rfl, rfl, _, rfl⟩⟩
    have un := StX.un_laid (fs := frs stk) (s := s) (o := ({ cls := .type "tuple", data := .seq u2.toArray } : Obj)) (u := .tup (vs.drop ps.length)) fresh
    have z := h _ _ (vs.take ps.length ++ [V.ref s.heap.objs.size]) (u1 ++ [Value.ref s.heap.objs.size]) (StX.env0_laid e0 lay) un rfl (fun e s' => StX.cxUp stk s H _ _ E e s' un (fun b o q => Heap.get?_push_of_some _ q) rfl) (r1.append (.cons rfl .nil)) (by simp [l1]) ⟨_, fresh, rfl, rfl⟩
    rw [List.zip_append l1'.symm] at z
    exact z
  · subst ex eH
    have X1 : Ext as H as (upd H p (.tup (vs.drop ps.length))) := Ext.new hp (sto.out hp)
    have rs2 : Reps K as (upd H p (.tup (vs.drop ps.length))) (vs.take ps.length ++ [V.ref p]) (ds.take ps.length ++ [.tup (ds.drop ps.length)]) :=
      ((rs.take _).mv X1).append (.cons (.tup (.inl ⟨.inl upd_same, sto.out hp⟩) ((rs.drop _).mv X1)) .nil)
    obtain ⟨fl, S', eg, hq⟩ := fnF_out ef q
    have hlen : (ds.take ps.length ++ [D.tup (ds.drop ps.length)]).length = ps.length + 1 := by
      rw [List.length_append, List.length_take, List.length_singleton]; omega
    have hN : ps.length + 1 ≤ N.length := by
      have c := congrArg List.length S.pre
      rw [List.length_take, List.length_append, List.length_singleton] at c
      omega
    have en := start_env (N := N) rs2 (by rw [hlen]; exact hN)
    rw [hlen] at en
    exact ⟨_, hbody cdv A stk s2 _ E hr' (guards_deeper hgd), ⟨as, ⟨_, μ⟩, fl, S', ⟨en, sto.new hp⟩, eg, endS_mv hq X1 sto.trk⟩⟩
end
section
variable {X : Cx} {k : Nat} {f C : Addr} {F : FnF} {pins : List (Addr × Obj)} {σ : L2.St} {H : Hp} {s : Shared} {Q : VK} {E : XK} {us : List Value} {vs : List V}
theorem code_fr (G : FR X.prog X.w X.K X.mg X.base k f F) (hr : Room k X.A) (hgd : X.A.guards = some []) (I : Inv X pins σ H s) (r : Vals vs us) (hx : PassesAt (L2.CX X.prog X.w) X σ E) (h : spR X.K X.mg F vs H Q E) :
    codeAny (model X.prog X.w) X.A (.call (.ref f) ⟨us, []⟩) (wants (EP X pins σ Q) X.xe) s := by
  refine codeAny_mono (G.run X.A X.stack s H us vs Q E hr hgd I.env0 r h) fun res s' hq => ?_
  cases res with
  | error e => exact hx pins H s e s' I hq
  | ok fl => cases fl with
    | ret u => exact I.after hq
    | _ => exact False.elim hq
theorem run_fr (G : FR X.prog X.w X.K X.mg X.base k f F) (hr : Room k X.A) (hgd : X.A.guards = some []) (I : Inv X pins σ H s) (r : Vals vs us) (hx : PassesAt (L2.CX X.prog X.w) X σ E) (h : spR X.K X.mg F vs H Q E) :
    wpAny (model X.prog X.w) X.A (call (.ref f) us) (EP X pins σ Q) X.xe s := wpAny_call (code_fr G hr hgd I r hx h)
/-- a class called -/
theorem run_mkR {x : Str} {as : Ar} {ds : List D} {μ μ' : List Cell} {o : Ov} (M : Mk X.K C f) (G : FR X.prog X.w X.K X.mg X.base k f F) (hr : Room (k + 1) X.A) (hgd : X.A.guards = some []) (hc : PySem.W.nsIn X.K mainGlobals x = some (some (.ref C))) (I : Inv X pins σ H s) (r : Vals vs us) (hx : PassesAt (L2.CX X.prog X.w) X σ E)
    (rs : Reps X.K as H vs ds) (sto : StoR X.K as H μ) (ef : F (.h μ.length :: ds) (μ ++ [.obj x []]) = some (o, μ'))
    (q : match o with
      | .v d => d = .non ∧ ∀ v as' H', Ext as H as' H' → Rep X.K as' H' v (.h μ.length) → StoR X.K as' H' μ' → Q v H'
      | .x m pp => ∀ as' H' C dx, Ext as H as' H' → StoR X.K as' H' μ' → X.mg m = some C → XR X.K as' H' dx pp → E C dx H') :
    wpAny (model X.prog X.w) X.A (call (.ref C) us) (EP X pins σ Q) X.xe s := by
  have x0 : H s.heap.objs.size = none := I.hok.fresh (Nat.le_refl _)
  have x1 : H (s.heap.objs.size + 1) = none := I.hok.fresh (Nat.le_succ _)
  have I2 := Inv.made (C := C) I
  have X1 := Ext.new (o := HO.own (s.heap.objs.size + 1)) x0 (sto.out x0)
  have s1 := sto.new (o := HO.own (s.heap.objs.size + 1)) x0
  have x2 : upd H s.heap.objs.size (HO.own (s.heap.objs.size + 1)) (s.heap.objs.size + 1) = none := by rw [upd_ne (Nat.succ_ne_self _)]; exact x1
  obtain ⟨X2, s2⟩ := s1.grow1 (o := .ins C s.heap.objs.size []) (c' := .obj x []) x2 ⟨C, s.heap.objs.size, [], hc, upd_same, rfl, .nil⟩
  have X12 := X1.trans X2 sto.trk
  have me : Rep X.K ⟨as.c ++ [s.heap.objs.size + 1], as.b⟩ (upd (upd H s.heap.objs.size (HO.own (s.heap.objs.size + 1))) (s.heap.objs.size + 1) (.ins C s.heap.objs.size [])) (.ref (s.heap.objs.size + 1)) (.h μ.length) := .h (by
    rw [List.getElem?_append_right (by rw [sto.len]; exact Nat.le_refl _), sto.len]
    simp)
  refine wpAny_call (make_map (f := f) I.kIn M.makes M.init (beq_iff_eq.mp M.fn) (codeAny_mono (G.run _ X.stack _ _ (Value.ref (s.heap.objs.size + 1) :: us) (.ref (s.heap.objs.size + 1) :: vs) (fun v H2 => v = .non ∧ Q (.ref (s.heap.objs.size + 1)) H2) E (hr.make C us []) (under_guards hgd)
    (I2.env0.make C us []) (.cons rfl r) ⟨_, _, .h μ.length :: ds, o, μ', .cons me (rs.mv X12), s2, ef, ?_⟩) fun r s' hq' => ?_))
  · cases o with
    | v d =>
      obtain ⟨rfl, q⟩ := q
      intro v as' H' Z rv sv
      cases rv
      exact ⟨rfl, q _ as' H' (X12.trans Z sto.trk) (me.mv Z) sv⟩
    | x m pp => exact fun as' H' C dx Z sv em xr => q as' H' C dx (X12.trans Z sto.trk) sv em xr
  · cases r with
    | error e => exact hx pins _ _ e s' I2 hq'
    | ok fl =>
      cases fl with
      | ret u =>
        obtain ⟨v, H', I3, rv, ev, q3⟩ := I2.after hq'
        subst ev
        exact ⟨rv, ⟨V.ref (s.heap.objs.size + 1), H', I3, rfl, q3⟩⟩
      | _ => exact False.elim hq'
end
/-- what is made, behind its __init__ -/
def mkOv (k : Nat) : Ov × List Cell → Option (Ov × List Cell)
  | (.v .non, μ) => some (.v (.h k), μ)
  | (.x n q, μ) => some (.x n q, μ)
  | _ => none
/-- C called: C by its name -/
def mkF (x : Str) (F : FnF) : FnF := fun ds μ => (F (.h μ.length :: ds) (μ ++ [.obj x []])).bind (mkOv μ.length)
theorem mkF_out {x : Str} {F : FnF} {ds : List D} {μ μ' : List Cell} {r : Ov} (e : mkF x F ds μ = some (r, μ')) : ∃ o, F (.h μ.length :: ds) (μ ++ [.obj x []]) = some (o, μ') ∧ ((o = .v .non ∧ r = .v (.h μ.length)) ∨ ∃ m q, o = .x m q ∧ r = .x m q) := by
  unfold mkF at e
  obtain ⟨⟨o, μ1⟩, e1, e2⟩ := Option.bind_eq_some_iff.mp e
  unfold mkOv at e2
  split at e2
  · rename_i μ2 eo
    cases eo
    obtain ⟨rfl, rfl⟩ := pr_inj e2
    exact ⟨_, e1, .inl ⟨rfl, rfl⟩⟩
  · rename_i n q μ2 eo
    cases eo
    obtain ⟨rfl, rfl⟩ := pr_inj e2
    exact ⟨_, e1, .inr ⟨_, _, rfl, rfl⟩⟩
  · cases e2
theorem outD_mv {K : PySem.W.Frag} {mg : Str → Option Value} {as as1 : Ar} {H H1 : Hp} {Q : VK} {E : XK} {o : Ov} {μ' : List Cell} (q : outD K mg as H Q E o μ') (X1 : Ext as H as1 H1) (tr : ∀ a, a ∈ as.c → H a ≠ none) : outD K mg as1 H1 Q E o μ' := by
  cases o with
  | v d => exact fun v as2 H2 X2 r2 s2 => q v as2 H2 (X1.trans X2 tr) r2 s2
  | x m pp => exact fun as2 H2 C dx X2 s2 ec xr => q as2 H2 C dx (X1.trans X2 tr) s2 ec xr
section
variable {X : Cx} {o e : Expr} {es : List Expr} {x m : Str} {p apos pos : Pos} {fa : EvE} {fs : EvA} {W : WX} {k : Nat} {f C : Addr} {F : FnF} {pins : List (Addr × Obj)} {σ : L2.St} {H : Hp} {s : Shared} {Q : VK} {E : XK} {as : Ar} {S : Sg} {r : Ov} {μ' : List Cell}
/-- a call: its arguments' data first -/
def fCallR (F : FnF) (fs : EvA) : EvX := fun S => (fs S).bind fun z => F z.1 z.2
theorem fCallR_out (e : fCallR F fs S = some (r, μ')) : ∃ ds μ1, fs S = some (ds, μ1) ∧ F ds μ1 = some (r, μ') := by
  obtain ⟨⟨ds, μ1⟩, e1, e2⟩ := Option.bind_eq_some_iff.mp e
  exact ⟨ds, μ1, e1, e2⟩
theorem mk_run {us : List Value} {vs : List V} {ds : List D} {μ1 : List Cell} (M : Mk X.K C f) (G : FR X.prog X.w X.K X.mg X.base k f F) (hr : Room (k + 1) X.A) (hgd : X.A.guards = some []) (hc : PySem.W.nsIn X.K mainGlobals x = some (some (.ref C))) (I : Inv X pins σ H s) (rv : Vals vs us) (hx : PassesAt (L2.CX X.prog X.w) X σ E)
    (rs : Reps X.K as H vs ds) (sto : StoR X.K as H μ1) (ef : mkF x F ds μ1 = some (r, μ')) (q : outD X.K X.mg as H Q E r μ') : wpAny (model X.prog X.w) X.A (call (.ref C) us) (EP X pins σ Q) X.xe s := by
  obtain ⟨ov, e1, ho⟩ := mkF_out ef
  refine run_mkR M G hr hgd hc I rv hx rs sto e1 ?_
  rcases ho with ⟨rfl, rfl⟩ | ⟨m, pp, rfl, rfl⟩
  · exact ⟨rfl, q⟩
  · exact q
/-- C(e, ..), C a class of the module -/
theorem cnew_any (M : Mk X.K C f) (G : FR X.prog X.w X.K X.mg X.base k f F) (hr : Room (k + 1) X.A) (hgd : X.A.guards = some []) (hc : PySem.W.nsIn X.K mainGlobals x = some (some (.ref C))) (hg : Gl X x) (hm : X.mg x = some (.ref C)) (ha : PA X (e :: es) (tFA X.K fs)) (hdb : (x == ("__debug__" : Str)) = false)
    (he : starEach (e :: es) X.env = (false, eval e X.env) :: starEach es X.env) (hpl : (backTo pos (starEach es X.env)).any (·.1) = false) (I : Inv X pins σ H s) (ee : ER X.K as σ H S) (ed : fCallR (mkF x F) fs S = some (r, μ')) (hx : PassesAt (L2.CX X.prog X.w) X σ E) (q : outD X.K X.mg as H Q E r μ') :
    wpAny (model X.prog X.w) X.A (eval (.Call (.Name x p) (e :: es) [] pos) X.env) (EP X pins σ Q) X.xe s := by
  obtain ⟨ds, μ1, ea, ef⟩ := fCallR_out ed
  refine wpAny_Call_Name_kw (ld_glob I hg hm ?_ hdb)
  exact PySem.W.callWith_K (h₀ := X.base) I.ok.mod.kin M.kp (thn (ha.run pos pins s σ H (fun vs H1 => ∃ as1, Ext as H as1 H1 ∧ Reps X.K as1 H1 vs ds ∧ StoR X.K as1 H1 μ1) I ⟨as, S, _, _, ee, ea, fun vs as1 H1 X1 r1 s1 => ⟨as1, X1, r1, s1⟩⟩) fun us s1 ⟨vs, H1, I1, r1, as1, X1, rs, st⟩ => ⟨I1.kIn, mk_run M G hr hgd hc I1 r1 hx rs st ef (outD_mv q X1 ee.sto.trk)⟩) he hpl
theorem de_new (M : Mk X.K C f) (G : FR X.prog X.w X.K X.mg X.base k f F) (hr : Room (k + 1) X.A) (hgd : X.A.guards = some []) (hc : PySem.W.nsIn X.K mainGlobals x = some (some (.ref C))) (hg : Gl X x) (hm : X.mg x = some (.ref C)) (ha : PA X (e :: es) (tFA X.K fs)) (hdb : (x == ("__debug__" : Str)) = false := by decide)
    (he : starEach (e :: es) X.env = (false, eval e X.env) :: starEach es X.env := by rfl) (hpl : (backTo pos (starEach es X.env)).any (·.1) = false := by rfl) : PE X (.Call (.Name x p) (e :: es) [] pos) (tF X.K (fNox (fCallR (mkF x F) fs))) :=
  ⟨fun pins s σ H Q I ⟨as, S, d, μ', E, ed, q⟩ => cnew_any M G hr hgd hc hg hm ha hdb he hpl I E (fNox_out ed) passF q⟩
theorem outD_of {o : Ov} (q : match o with
    | .v d => ∀ v as' H', Ext as H as' H' → Rep X.K as' H' v d → StoR X.K as' H' μ' → Q v H'
    | .x n p => ∀ as' H' C dx, Ext as H as' H' → StoR X.K as' H' μ' → X.mg n = some C → XR X.K as' H' dx p → W C dx σ H') : outD X.K X.mg as H Q (L2.WE W σ) o μ' := by
  cases o with
  | v d => exact q
  | x m pp => exact q
theorem de_newX (tk : Takes X W) (M : Mk X.K C f) (G : FR X.prog X.w X.K X.mg X.base k f F) (hr : Room (k + 1) X.A) (hgd : X.A.guards = some []) (hc : PySem.W.nsIn X.K mainGlobals x = some (some (.ref C))) (hg : Gl X x) (hm : X.mg x = some (.ref C)) (ha : PA X (e :: es) (tFA X.K fs)) (hdb : (x == ("__debug__" : Str)) = false := by decide)
    (he : starEach (e :: es) X.env = (false, eval e X.env) :: starEach es X.env := by rfl) (hpl : (backTo pos (starEach es X.env)).any (·.1) = false := by rfl) : PE X (.Call (.Name x p) (e :: es) [] pos) (tFX X.K X.mg W (fCallR (mkF x F) fs)) :=
  ⟨fun pins s σ H Q I ⟨as, S, o, μ', E, ed, q⟩ => cnew_any (E := L2.WE W σ) M G hr hgd hc hg hm ha hdb he hpl I E ed (passAt tk σ) (outD_of q)⟩
/-- c(e, .., *y), c a name in slot i that holds the class x -/
def fLocNew (i : Nat) (x : Str) (F : FnF) (fs : EvA) : EvX := fun S => match S.ρ[i]? with
  | some (some (.cls y)) => if y = x then fCallR (mkF x F) fs S else none
  | _ => none
theorem de_locNewX {c : Str} {i : Nat} (tk : Takes X W) (hN : X.N[i]? = some c) (hv : Vis X.env.scope c) (M : Mk X.K C f) (G : FR X.prog X.w X.K X.mg X.base k f F) (hr : Room (k + 1) X.A) (hgd : X.A.guards = some []) (hc : PySem.W.nsIn X.K mainGlobals x = some (some (.ref C))) (ha : PA X (e :: es) (tFA X.K fs))
    (he : starEach (e :: es) X.env = (false, eval e X.env) :: starEach es X.env := by rfl) (hst : (backTo pos (starEach es X.env)).any (·.1) = true := by rfl) (hd : (c == ("__debug__" : Str)) = false := by decide) (hcd : (c == ("__classdict__" : Str)) = false := by decide) :
    PE X (.Call (.Name c p) (e :: es) [] pos) (tFX X.K X.mg W (fLocNew i x F fs)) := by
  refine ⟨fun pins s σ H Q I ⟨as, S, o, μ', E, ed, q⟩ => ?_⟩
  unfold fLocNew at ed
  split at ed
  · rename_i y ei
    split at ed
    · rename_i hy
      subst hy
      obtain ⟨ds, μ1, ea, ef⟩ := fCallR_out ed
      obtain ⟨v, hvv, rv⟩ := E.env.2 i _ ei
      cases rv with
      | @cls C' _ hc' =>
        have z := hc.symm.trans hc'
        injection z with z
        injection z with z
        injection z with z
        subst z
        refine wpAny_Call_Name_kw (thn ((pe_var (pos := p) (i := i) hN hv hd hcd).run pins s σ H (fun v H1 => v = .ref C ∧ H1 = H) I ⟨.ref C, hvv, rfl, rfl⟩) fun u s1 ⟨v, H1, I1, r1, q1⟩ => ?_)
        obtain ⟨rfl, rfl⟩ := q1
        obtain rfl : u = Value.ref C := r1
        exact PySem.W.callWith_S2 (h₀ := X.base) I1.ok.mod.kin M.kp (thn (ha.run pos pins s1 σ H1 (fun vs H2 => ∃ as1, Ext as H1 as1 H2 ∧ Reps X.K as1 H2 vs ds ∧ StoR X.K as1 H2 μ1) I1 ⟨as, S, _, _, E, ea, fun vs as1 H1 X1 r1 s1 => ⟨as1, X1, r1, s1⟩⟩) fun us s2 ⟨vs, H2, I2, r2, as2, X2, rs, st⟩ => ⟨I2.kIn, mk_run M G hr hgd hc I2 r2 (passAt tk σ) rs st ef (outD_mv (outD_of q) X2 E.sto.trk)⟩) he hst
    · cases ed
  · cases ed
/-- x.m(e, ..), x a class of the module, m its classmethod -/
def clsF (x : Str) (F : FnF) : FnF := fun ds μ => F (.cls x :: ds) μ
theorem cmeth_any {pl : Sem Bool} {mc : Value} {pr : Addr} (r0 : ClX.CRead X.K C mc) (c : ClX.CMet X.K C mc m pr f) (G : FR X.prog X.w X.K X.mg X.base k f F) (hr : Room k X.A) (hgd : X.A.guards = some []) (hc : PySem.W.nsIn X.K mainGlobals x = some (some (.ref C))) (hg : Gl X x) (hm : X.mg x = some (.ref C)) (ha : PA X (e :: es) (tFA X.K fs))
    (hst : starEach (e :: es) X.env = (false, eval e X.env) :: starEach es X.env) (hpl : (backTo pos (starEach es X.env)).any (·.1) = false) (hdb : (x == ("__debug__" : Str)) = false)
    (ht : eval (.Call (.Attribute (.Name x p) m apos) (e :: es) [] pos) X.env = (do
      let ov ← eval (.Name x p) X.env
      standAt apos.atName
      let (f, first) ← holding [ov] (getMethod ov m pl)
      callWith pos f first (backTo pos (starEach (e :: es) X.env)) (backToKw pos (keywordEach [] X.env))))
    (I : Inv X pins σ H s) (ee : ER X.K as σ H S) (ed : fCallR (clsF x F) fs S = some (r, μ')) (hx : PassesAt (L2.CX X.prog X.w) X σ E) (q : outD X.K X.mg as H Q E r μ') : wpAny (model X.prog X.w) X.A (eval (.Call (.Attribute (.Name x p) m apos) (e :: es) [] pos) X.env) (EP X pins σ Q) X.xe s := by
  obtain ⟨ds, μ1, ea, ef⟩ := fCallR_out ed
  refine PySem.W.methodCall_KW (pl := pl) (ld_glob I hg hm ?_ hdb) ht
  refine ClX.getmethcm_ok I r0 c fun s2 I2 => ?_
  refine ClX.callwith_cm I2 (ClX.base_none I (Nat.le_refl _)) c.fi (thn (ha.run pos _ s2 σ H (fun vs H2 => ∃ as1, Ext as H as1 H2 ∧ Reps X.K as1 H2 vs ds ∧ StoR X.K as1 H2 μ1) I2 ⟨as, S, _, _, ee, ea, fun vs as1 H1 X1 r1 s1 => ⟨as1, X1, r1, s1⟩⟩) fun us s3 ⟨vs, H2, I3, rv, as1, X1, rs, st⟩ => ⟨⟨ClX.pin_at I3, I3.kIn⟩, ?_⟩) hst hpl
  have z := code_fr (us := .ref C :: us) (vs := .ref C :: vs) G hr hgd I3 (.cons rfl rv) hx ⟨as1, μ1, .cls x :: ds, r, μ', .cons (.cls hc) rs, st, ef, outD_mv q X1 ee.sto.trk⟩
  exact thn (wpAny_call (PySem.W.method_call (ClX.pin_at I3) z)) fun _ _ y => ClX.unpinE y
theorem de_cmeth {pl : Sem Bool} {mc : Value} {pr : Addr} (r0 : ClX.CRead X.K C mc) (c : ClX.CMet X.K C mc m pr f) (G : FR X.prog X.w X.K X.mg X.base k f F) (hr : Room k X.A) (hgd : X.A.guards = some []) (hc : PySem.W.nsIn X.K mainGlobals x = some (some (.ref C))) (hg : Gl X x) (hm : X.mg x = some (.ref C)) (ha : PA X (e :: es) (tFA X.K fs))
    (hst : starEach (e :: es) X.env = (false, eval e X.env) :: starEach es X.env := by rfl) (hpl : (backTo pos (starEach es X.env)).any (·.1) = false := by rfl) (hdb : (x == ("__debug__" : Str)) = false := by decide)
    (ht : eval (.Call (.Attribute (.Name x p) m apos) (e :: es) [] pos) X.env = (do
      let ov ← eval (.Name x p) X.env
      standAt apos.atName
      let (f, first) ← holding [ov] (getMethod ov m pl)
      callWith pos f first (backTo pos (starEach (e :: es) X.env)) (backToKw pos (keywordEach [] X.env))) := by rfl) : PE X (.Call (.Attribute (.Name x p) m apos) (e :: es) [] pos) (tF X.K (fNox (fCallR (clsF x F) fs))) :=
  ⟨fun pins s σ H Q I ⟨as, S, d, μ', E, ed, q⟩ => cmeth_any r0 c G hr hgd hc hg hm ha hst hpl hdb ht I E (fNox_out ed) passF q⟩
theorem de_cmethX {pl : Sem Bool} {mc : Value} {pr : Addr} (tk : Takes X W) (r0 : ClX.CRead X.K C mc) (c : ClX.CMet X.K C mc m pr f) (G : FR X.prog X.w X.K X.mg X.base k f F) (hr : Room k X.A) (hgd : X.A.guards = some []) (hc : PySem.W.nsIn X.K mainGlobals x = some (some (.ref C))) (hg : Gl X x) (hm : X.mg x = some (.ref C)) (ha : PA X (e :: es) (tFA X.K fs))
    (hst : starEach (e :: es) X.env = (false, eval e X.env) :: starEach es X.env := by rfl) (hpl : (backTo pos (starEach es X.env)).any (·.1) = false := by rfl) (hdb : (x == ("__debug__" : Str)) = false := by decide)
    (ht : eval (.Call (.Attribute (.Name x p) m apos) (e :: es) [] pos) X.env = (do
      let ov ← eval (.Name x p) X.env
      standAt apos.atName
      let (f, first) ← holding [ov] (getMethod ov m pl)
      callWith pos f first (backTo pos (starEach (e :: es) X.env)) (backToKw pos (keywordEach [] X.env))) := by rfl) : PE X (.Call (.Attribute (.Name x p) m apos) (e :: es) [] pos) (tFX X.K X.mg W (fCallR (clsF x F) fs)) :=
  ⟨fun pins s σ H Q I ⟨as, S, o, μ', E, ed, q⟩ => cmeth_any (E := L2.WE W σ) r0 c G hr hgd hc hg hm ha hst hpl hdb ht I E ed (passAt tk σ) (outD_of q)⟩
end
end DL
/-! ==, !=, len, str by the program's own methods. -/
namespace DL
open PySem PySem.Spec PyProof.Rows L2
/-- a comparison that may make things -/
abbrev GX := D → D → List Cell → Option (D × List Cell)
def rDM (K : PySem.W.Frag) (G : GX) : R2 := fun x y H Q => ∃ as d e μ z μ', Rep K as H x d ∧ Rep K as H y e ∧ StoR K as H μ ∧ G d e μ = some (z, μ') ∧ ∀ v as' H', Ext as H as' H' → Rep K as' H' v z → StoR K as' H' μ' → Q v H'
def fBM (G : GX) (fa fb : EvE) : EvE := fun S => (fa S).bind fun a => (fb { S with μ := a.2 }).bind fun b => G a.1 b.1 b.2
theorem tF_bm {K : PySem.W.Frag} {G : GX} {fa fb : EvE} : ∀ σ H Q, tF K (fBM G fa fb) σ H Q → tOp (rDM K G) (tF K fa) (tF K fb) σ H Q := fun σ H Q ⟨as, S, d, μ', E, e, q⟩ => by
  obtain ⟨⟨x, μ1⟩, e1, e⟩ := Option.bind_eq_some_iff.mp e
  obtain ⟨⟨y, μ2⟩, e2, e⟩ := Option.bind_eq_some_iff.mp e
  refine ⟨as, S, x, μ1, E, e1, fun v as1 H1 X1 r1 s1 => ⟨as1, _, y, μ2, E.mvE X1 s1, e2, fun u as2 H2 X2 r2 s2 => ⟨as2, x, y, μ2, d, μ', r1.mv X2, r2, s2, e, fun w as3 H3 X3 r3 s3 => ?_⟩⟩⟩
  exact q w as3 H3 (X1.trans (X2.trans X3 s1.trk) E.sto.trk) r3 s3
section
variable {X : Cx}
theorem de_cmpM {a b : Expr} {fa fb : EvE} {pos : Pos} {op : CmpOp} {G : GX} (ho : OpR X (compareOp op) (rDM X.K G)) (ha : PE X a (tF X.K fa)) (hb : PE X b (tF X.K fb)) (hm : behindInMarks op b = false) : PE X (.Compare a [op] [b] pos) (tF X.K (fBM G fa fb)) :=
  (pe_cmpR ho ha hb hm).imp tF_bm
/-- an object of this class -/
def isO (nm : Str) (x : D) (μ : List Cell) : Bool := match x with
  | .h k => match μ[k]? with
    | some (.obj n _) => decide (n = nm)
    | _ => false
  | _ => false
theorem isO_ok {K : PySem.W.Frag} {as : Ar} {H : Hp} {μ : List Cell} {v : V} {d : D} {nm : Str} {C : Addr} (hc : PySem.W.nsIn K mainGlobals nm = some (some (.ref C))) (r : Rep K as H v d) (s : StoR K as H μ) (e : isO nm d μ = true) : ∃ a dx fv, v = .ref a ∧ H a = some (.ins C dx fv) := by
  unfold isO at e
  split at e
  · split at e
    · rename_i n' fs ec
      obtain rfl := of_decide_eq_true e
      obtain ⟨a, C', dx, fv, rfl, _, hn, ha, _⟩ := h_obj r s ec
      have z := hc.symm.trans hn
      injection z with z
      injection z with z
      injection z with z
      subst z
      exact ⟨a, dx, fv, rfl, ha⟩
    · cases e
  · cases e
/-- what may stand at the right of such a == -/
def isR (nm : Str) (y : D) (μ : List Cell) : Bool := match y with
  | .non | .str _ | .tup _ => true
  | y => isO nm y μ
theorem sub_bt {K : PySem.W.Frag} {T : String} {C : Addr} {l : List String} (e : fastBuiltinMro T = some (l.map .type)) : PySem.W.subIn K (.type T) (.ref C) = some false := by
  show (fastBuiltinMro T).map (·.contains (.ref C)) = some false
  rw [e]
  simp
theorem typ_ok {pins : List (Addr × Obj)} {σ : L2.St} {H : Hp} {s : Shared} {as : Ar} {μ : List Cell} {y : V} {u : Value} {e : D} {nm : Str} {C : Addr} (hc : PySem.W.nsIn X.K mainGlobals nm = some (some (.ref C))) (I : Inv X pins σ H s) (ry : RelV y u) (re : Rep X.K as H y e) (sto : StoR X.K as H μ) (h : isR nm e μ = true) :
    ∃ tb, PySem.W.Looks (model X.prog X.w) s.heap (typeOf u) tb ∧ PySem.W.notFirst X.K C tb = true := by
  have built : ∀ {T : String} {l : List String}, (∀ s' : Shared, (∀ b o, s.heap.get? b = some o → s'.heap.get? b = some o) → s'.TypeIs u T) → fastBuiltinMro T = some (l.map .type) → ∃ tb, PySem.W.Looks (model X.prog X.w) s.heap (typeOf u) tb ∧ PySem.W.notFirst X.K C tb = true := fun {T l} ht e =>
    ⟨.type T, fun A Q E s' k q => wpAny_typeOf (ht s' k) q, by unfold PySem.W.notFirst; rw [sub_bt e]; simp⟩
  unfold isR at h
  split at h
  · cases re
    cases ry
    exact built (T := "NoneType") (l := ["NoneType", "object"]) (fun _ _ => rfl) (by decide +kernel)
  · cases re
    obtain ⟨t, rfl⟩ := ry
    exact built (T := "str") (l := ["str", "object"]) (fun _ _ => rfl) (by decide +kernel)
  · cases re with
    | tup t rs =>
      obtain ⟨its, r, e, z⟩ := I.tuple t.sq
      obtain rfl := ry
      obtain ⟨o, ho, hcl, _⟩ := e
      exact built (T := "tuple") (l := ["tuple", "object"]) (fun s' k => ⟨o, k _ _ ho, hcl⟩) (by decide +kernel)
  · obtain ⟨a, dx, fv, rfl, ha⟩ := isO_ok hc re sto h
    obtain rfl : u = Value.ref a := ry
    obtain ⟨mA, J, _⟩ := ins_get I.hok ha
    obtain ⟨od, J, _⟩ := J.look
    exact ⟨.ref C, J.type, by simp [PySem.W.notFirst]⟩
variable {k : Nat} {f C : Addr} {F : FnF} {pins : List (Addr × Obj)} {σ : L2.St} {H : Hp} {s : Shared} {Q : VK} {us : List Value} {vs : List V}
theorem run_frA {A : Around} (fr : A.frames = X.A.frames) (G : FR X.prog X.w X.K X.mg X.base k f F) (hr : Room k A) (hgd : A.guards = some []) (I : Inv X pins σ H s) (r : Vals vs us) (h : spR X.K X.mg F vs H Q (fun _ _ _ => False)) :
    wpAny (model X.prog X.w) A (call (.ref f) us) (EP X pins σ Q) X.xe s := by
  have e := I.env0
  refine wpAny_call (codeAny_mono (G.run A X.stack s H us vs Q _ hr hgd ⟨by rw [fr]; exact e.frames, e.mod, e.bs, e.bsz, e.funs, e.frf, e.hok, e.bare⟩ r h) fun res s' hq => ?_)
  cases res with
  | error e => exact passF pins H s e s' I hq
  | ok fl => cases fl with
    | ret u => exact I.after hq
    | _ => exact False.elim hq
def gOwn (nm : Str) (F : FnF) (g : Bool → Bool) : GX := fun x y μ => if isO nm x μ && isR nm y μ then match F [x, y] μ with
  | some (.v (.bl b), μ') => some (.bl (g b), μ')
  | _ => none
  else none
theorem gOwn_out {nm : Str} {g : Bool → Bool} {x y z : D} {μ μ' : List Cell} (e : gOwn nm F g x y μ = some (z, μ')) : isO nm x μ = true ∧ isR nm y μ = true ∧ ∃ b, F [x, y] μ = some (.v (.bl b), μ') ∧ z = .bl (g b) := by
  unfold gOwn at e
  split at e
  · rename_i h
    rw [Bool.and_eq_true] at h
    split at e
    · rename_i b μ1 ef
      obtain ⟨rfl, rfl⟩ := pr_inj e
      exact ⟨h.1, h.2, b, ef, rfl⟩
    · cases e
  · cases e
/-- x == y by an own __eq__ -/
theorem op_eqO {nm : Str} (hc : PySem.W.nsIn X.K mainGlobals nm = some (some (.ref C))) (hs : PySem.W.findIn X.K (.ref C) "__eq__" = some (some (.ref f))) (hf : PySem.W.isFn X.K (.ref f) = true) (G : FR X.prog X.w X.K X.mg X.base k f F) (hr : Room k X.A) (hgd : X.A.guards = some []) :
    OpR X (compareOp .Eq) (rDM X.K (gOwn nm F id)) := by
  intro pins s σ H x y v u Q I rx ry ⟨as, d, e, μ, z, μ', rd, re, sto, ez, q⟩
  obtain ⟨h1, h2, b, ef, rfl⟩ := gOwn_out ez
  obtain ⟨a, dx, fv, rfl, ha⟩ := isO_ok hc rd sto h1
  obtain rfl : v = Value.ref a := rx
  obtain ⟨tb, htb, hnf⟩ := typ_ok hc I ry re sto h2
  obtain ⟨mA, J, _⟩ := ins_get I.hok ha
  obtain ⟨od, J, _⟩ := J.look
  obtain ⟨m, hF⟩ := I.fr
  show wpAny (model X.prog X.w) X.A (richCompare .Eq (.ref a) u) (EP X pins σ Q) X.xe s
  refine PySem.W.cmp_K (op := .Eq) (tb := tb) hr.units0 hF I.ok.mod.kin J htb hnf hs hf ?_
  refine wpAny_mono (run_frA (us := [.ref a, u]) (vs := [.ref a, y]) (Q := fun v H' => v = .bl b ∧ Q (.bl b) H') rfl G hr hgd I (.cons rfl (.cons ry .nil)) ⟨as, μ, [d, e], .v (.bl b), μ', .cons rd (.cons re .nil), sto, ef, fun v as' H' X' r' s' => by cases r'; exact ⟨rfl, q _ as' H' X' (.bl _) s'⟩⟩) (fun r s' hq => ?_) fun _ _ x => x
  obtain ⟨w, H', I', rw', ew, hq⟩ := hq
  subst ew
  cases rw'
  exact ⟨.bl b, H', I', rfl, hq⟩
theorem bound_ne {M : Model} {A : Around} {E : Value → Shared → Prop} {K : PySem.W.Frag} {x : Addr} {ox : Obj} {od : Option Obj} {args : List Value} {R : Option Value → Shared → Prop} (X0 : K.In s.heap) (J : PySem.W.InstAt s.heap x ox C od) (hs : PySem.W.findIn K (.ref C) "__ne__" = some (some (.builtin "object.__ne__")))
    (h : wpAny M A (call (.builtin "object.__ne__") (.ref x :: args)) (fun v => R (some v)) E s) : wpAny M A (callSpecialIfBound? (.ref x) "__ne__" args) R E s := by
  have last : wpAny M A (call (.builtin "object.__ne__") ([.ref x] ++ args) >>= fun v => pure (some v)) R E s := wpAny_bind (thn h fun v s' z => wpAny_pure z)
  unfold callSpecialIfBound? bindSpecialIfBound?
  refine wpAny_holding (wpAny_bind (wpAny_bind (wpAny_bind (J.type.here ((PySem.W.looks_findIn X0 hs).here ?_)))))
  refine wpAny_bind (wpAny_askSetting (wpAny_ite ?_))
  split
  · exact wpAny_bind (wpAny_of_eq (F.cmp_object.ne.bind _) (wpAny_pure (by exact last)))
  · exact wpAny_tryCatch (wpAny_bind (wpAny_of_eq (F.cmp_object.ne.bind _) (wpAny_pure (by exact last))))
open Builtin in
theorem call_ne {prog : Program} {w : World} {A : Around} {E : Value → Shared → Prop} {K : PySem.W.Frag} {x : Addr} {ox : Obj} {od : Option Obj} {b : Value} {R : Value → Shared → Prop} (hu : A.in1.units < cLine) (X0 : K.In s.heap) (J : PySem.W.InstAt s.heap x ox C od) (hm : PySem.W.mroIn K C (.type "object") = some true)
    (hs : PySem.W.findIn K (.ref C) "__eq__" = some (some (.ref f))) (hf : PySem.W.isFn K (.ref f) = true) (h : wpAny (model prog w) A.in1 (call (.ref f) [.ref x, b]) (fun v s' => ∃ k, v = .bool k ∧ R (.bool !k) s') E s) :
    wpAny (model prog w) A (call (.builtin "object.__ne__") [.ref x, b]) R E s := by
  refine wpAny_call (codeAny_call_builtin F.cmp_object.ne.plain F.cmpEntry_ne (PySem.W.check_slot F.cmpKind_ne F.cmpSplit_ne (J.type.andThen (PySem.W.looks_mroIn X0 hm)) (F.cmpArgs_ne _ _) ?_))
  unfold Builtin.«object.__ne__»
  refine wpAny_bind (m := slotArgs "__ne__" 1 _) (wpAny_pure ?_)
  refine wpAny_bind (m := cRoomFor _ _) (wpAny_cRoomFor hu ?_)
  refine wpAny_bind (m := callSpecialIfBound? (.ref x) (Str.ofString "__eq__") _) (PySem.W.ifBound_K X0 J hs hf (thn h fun r s' ⟨k, er, z⟩ => ?_))
  subst er
  exact wpAny_bind (wpAny_truthy_bool (wpAny_pure z))
/-- x != y by an own __eq__ -/
theorem op_neO {nm : Str} (hc : PySem.W.nsIn X.K mainGlobals nm = some (some (.ref C))) (hs : PySem.W.findIn X.K (.ref C) "__eq__" = some (some (.ref f))) (hf : PySem.W.isFn X.K (.ref f) = true) (hne : PySem.W.findIn X.K (.ref C) "__ne__" = some (some (.builtin "object.__ne__"))) (hmr : PySem.W.mroIn X.K C (.type "object") = some true)
    (G : FR X.prog X.w X.K X.mg X.base k f F) (hr : Room (k + 1) X.A) (hgd : X.A.guards = some []) : OpR X (compareOp .NotEq) (rDM X.K (gOwn nm F not)) := by
  intro pins s σ H x y v u Q I rx ry ⟨as, d, e, μ, z, μ', rd, re, sto, ez, q⟩
  obtain ⟨h1, h2, b, ef, rfl⟩ := gOwn_out ez
  obtain ⟨a, dx, fv, rfl, ha⟩ := isO_ok hc rd sto h1
  obtain rfl : v = Value.ref a := rx
  obtain ⟨tb, htb, hnf⟩ := typ_ok hc I ry re sto h2
  obtain ⟨mA, J, _⟩ := ins_get I.hok ha
  obtain ⟨od, J, _⟩ := J.look
  have one : wpAny (model X.prog X.w) X.A (tryCompare (.ref a) "__ne__" u) (fun r s' => ∃ w, r = some w ∧ EP X pins σ Q w s') X.xe s := by
    unfold tryCompare
    refine wpAny_bind (bound_ne I.kIn J hne (call_ne hr.in1.units0 I.kIn J hmr hs hf (thn (run_frA (A := X.A.in1) (us := [.ref a, u]) (vs := [.ref a, y]) (Q := fun v H' => v = .bl b ∧ Q (.bl !b) H') rfl G hr.in1 hgd I (.cons rfl (.cons ry .nil)) ⟨as, μ, [d, e], .v (.bl b), μ', .cons rd (.cons re .nil), sto, ef, fun v as' H' X' r' s' => by cases r'; exact ⟨rfl, q _ as' H' X' (.bl _) s'⟩⟩) fun r s' hq => ?_)))
    obtain ⟨w, H', I', rw', ew, hq⟩ := hq
    subst ew
    cases rw'
    exact ⟨b, rfl, wpAny_pure ⟨_, rfl, .bl !b, H', I', rfl, hq⟩⟩
  show wpAny (model X.prog X.w) X.A (richCompare .NotEq (.ref a) u) (EP X pins σ Q) X.xe s
  unfold richCompare
  simp only [oneThing_ref]
  refine wpAny_holding (wpAny_bind (wpAny_cRoomFor hr.units0 ?_))
  refine wpAny_bind (J.type.here (wpAny_bind (htb.here ?_)))
  split
  · rename_i hq
    have e : PySem.W.subIn X.K tb (.ref C) = some false := (Bool.or_eq_true_iff.mp hnf).elim (fun e => by rw [beq_iff_eq.mp e] at hq; simp at hq) fun e => beq_iff_eq.mp e
    refine wpAny_bind ((PySem.W.looks_subIn I.kIn e).here ?_)
    rw [if_neg Bool.false_ne_true]
    refine wpAny_bind (thn one fun r s' ⟨w, er, hq⟩ => ?_)
    subst er
    exact wpAny_pure hq
  · refine wpAny_bind (wpAny_pure ?_)
    rw [if_neg Bool.false_ne_true]
    refine wpAny_bind (thn one fun r s' ⟨w, er, hq⟩ => ?_)
    subst er
    exact wpAny_pure hq
/-! len(x), str(x) -/
abbrev GC := List D → List Cell → Option (D × List Cell)
def rCM (K : PySem.W.Frag) (G : GC) : List V → Hp → VK → Prop := fun xs H Q => ∃ as ds μ z μ', Reps K as H xs ds ∧ StoR K as H μ ∧ G ds μ = some (z, μ') ∧ ∀ v as' H', Ext as H as' H' → Rep K as' H' v z → StoR K as' H' μ' → Q v H'
def fAppM (G : GC) (fs : EvA) : EvE := fun S => (fs S).bind fun z => G z.1 z.2
theorem tF_appM {K : PySem.W.Frag} {G : GC} {fs : EvA} : ∀ σ H Q, tF K (fAppM G fs) σ H Q → tCB (rCM K G) (tFA K fs) σ H Q := fun σ H Q ⟨as, S, d, μ', E, e, q⟩ => by
  obtain ⟨⟨ds, μ1⟩, e1, e⟩ := Option.bind_eq_some_iff.mp e
  exact ⟨as, S, ds, μ1, E, e1, fun vs as1 H1 X1 r1 s1 => ⟨as1, ds, μ1, d, μ', r1, s1, e, fun v as2 H2 X2 r2 s2 => q v as2 H2 (X1.trans X2 E.sto.trk) r2 s2⟩⟩
theorem de_callBM {x : Str} {p pos : Pos} {id : String} {G : GC} {a : Expr} {es : List Expr} {fs : EvA} (hc : CallR X (.builtin id) (rCM X.K G)) (hg : Gl X x) (hm : X.mg x = none) (hv : bootBuiltins x = some (.builtin id)) (ha : PA X (a :: es) (tFA X.K fs)) (hn : x ≠ "__name__" := by decide)
    (hdb : (x == ("__debug__" : Str)) = false := by decide) (he : starEach (a :: es) X.env = (false, eval a X.env) :: starEach es X.env := by rfl) (hpl : (backTo pos (starEach es X.env)).any (·.1) = false := by rfl) :
    PE X (.Call (.Name x p) (a :: es) [] pos) (tF X.K (fAppM G fs)) := (pe_callB hc hg hm hv ha hn hdb he hpl).imp tF_appM
theorem de_callTyM {x : Str} {p pos : Pos} {T : String} {G : GC} {a : Expr} {es : List Expr} {fs : EvA} (hc : CallR X (.type T) (rCM X.K G)) (hg : Gl X x) (hm : X.mg x = none) (hv : bootBuiltins x = some (.type T)) (ha : PA X (a :: es) (tFA X.K fs)) (hn : x ≠ "__name__" := by decide)
    (hdb : (x == ("__debug__" : Str)) = false := by decide) (he : starEach (a :: es) X.env = (false, eval a X.env) :: starEach es X.env := by rfl) (hpl : (backTo pos (starEach es X.env)).any (·.1) = false := by rfl) :
    PE X (.Call (.Name x p) (a :: es) [] pos) (tF X.K (fAppM G fs)) := (pe_callTy hc hg hm hv ha hn hdb he hpl).imp tF_appM
def okLen : D → Bool
  | .int n => decide (0 ≤ n ∧ n < 2 ^ 63)
  | _ => false
def okStr : D → Bool
  | .str _ => true
  | _ => false
/-- one object's own method, whose answer is of a kind -/
def gOwn1 (nm : Str) (F : FnF) (ok : D → Bool) : GC := fun ds μ => match ds with
  | [x] => if isO nm x μ then match F [x] μ with
    | some (.v z, μ') => if ok z then some (z, μ') else none
    | _ => none
    else none
  | _ => none
theorem gOwn1_out {nm : Str} {ok : D → Bool} {ds : List D} {z : D} {μ μ' : List Cell} (e : gOwn1 nm F ok ds μ = some (z, μ')) : ∃ x, ds = [x] ∧ isO nm x μ = true ∧ F [x] μ = some (.v z, μ') ∧ ok z = true := by
  unfold gOwn1 at e
  split at e
  · split at e
    · rename_i x ho
      split at e
      · split at e
        · rename_i h
          obtain ⟨rfl, rfl⟩ := pr_inj e
          exact ⟨x, rfl, ho, by assumption, h⟩
        · cases e
      · cases e
    · cases e
  · cases e
theorem call_lenO {nm : Str} (hc : PySem.W.nsIn X.K mainGlobals nm = some (some (.ref C))) (hs : PySem.W.findIn X.K (.ref C) "__len__" = some (some (.ref f))) (hf : PySem.W.isFn X.K (.ref f) = true) (G : FR X.prog X.w X.K X.mg X.base k f F) (hr : Room (k + 1) X.A) (hgd : X.A.guards = some []) :
    CallR X (.builtin "len") (rCM X.K (gOwn1 nm F okLen)) := by
  intro pins s σ H xs us Q I rv ⟨as, ds, μ, z, μ', rs, sto, ez, q⟩
  obtain ⟨x, rfl, ho, ef, hz⟩ := gOwn1_out ez
  cases rs with
  | cons rd rn =>
  cases rn
  cases rv with
  | cons r1 rn =>
  cases rn
  obtain ⟨a, dx, fv, rfl, ha⟩ := isO_ok hc rd sto ho
  obtain rfl := r1
  obtain ⟨mA, J, _⟩ := ins_get I.hok ha
  obtain ⟨od, J, _⟩ := J.look
  unfold okLen at hz
  split at hz
  rotate_left
  · cases hz
  rename_i n
  obtain ⟨h0, h1⟩ := of_decide_eq_true hz
  refine Calls.call_function_entry kind_len plain_len entry_len (args_len1 _) ?_
  unfold Builtin.«len»
  refine wpAny_bind (m := oneArg "len" _) (wpAny_pure ?_)
  refine wpAny_bind (m := callSpecial? (.ref a) (Str.ofString "__len__")) (PySem.W.special_fn I.kIn J hs (beq_iff_eq.mp hf) (thn (run_frA (A := X.A.in1) (us := [.ref a]) (vs := [.ref a]) (Q := fun v H' => v = .int n ∧ Q (.int n) H') rfl G hr.in1 hgd I (.cons rfl .nil) ⟨as, μ, [x], .v (.int n), μ', .cons rd .nil, sto, ef, fun v as' H' X' r' s' => by cases r'; exact ⟨rfl, q _ as' H' X' (.int _) s'⟩⟩) fun r s' ⟨w, H', I', rw', ew, hq⟩ => ?_))
  subst ew
  obtain ⟨t, rfl⟩ := rw'
  refine wpAny_bind (wpAny_holding (wpAny_pure ?_))
  refine wpAny_bind (wpAny_letGo ?_)
  show wpAny _ _ (if n < 0 then _ else _) _ _ _
  rw [if_neg (Int.not_lt.mpr h0)]
  show wpAny _ _ (if n ≥ 2 ^ 63 then _ else _) _ _ _
  rw [if_neg (Int.not_le.mpr h1)]
  exact wpAny_bind (wpAny_mkInt (wpAny_pure ⟨_, rfl, .int n, H', I'.tok _, ⟨_, rfl⟩, hq⟩))
open Builtin Builtin.Str in
theorem call_strO {nm : Str} (hc : PySem.W.nsIn X.K mainGlobals nm = some (some (.ref C))) (hs : PySem.W.findIn X.K (.ref C) "__str__" = some (some (.ref f))) (hf : PySem.W.isFn X.K (.ref f) = true) (G : FR X.prog X.w X.K X.mg X.base k f F) (hr : Room (k + 2) X.A) (hgd : X.A.guards = some []) :
    CallR X (.type "str") (rCM X.K (gOwn1 nm F okStr)) := by
  intro pins s σ H xs us Q I rv ⟨as, ds, μ, z, μ', rs, sto, ez, q⟩
  obtain ⟨x, rfl, ho, ef, hz⟩ := gOwn1_out ez
  cases rs with
  | cons rd rn =>
  cases rn
  cases rv with
  | cons r1 rn =>
  cases rn
  obtain ⟨a, dx, fv, rfl, ha⟩ := isO_ok hc rd sto ho
  obtain rfl := r1
  obtain ⟨mA, J, _⟩ := ins_get I.hok ha
  obtain ⟨od, J, _⟩ := J.look
  unfold okStr at hz
  split at hz
  rotate_left
  · cases hz
  rename_i tx
  have own : wpAny (model X.prog X.w) X.A.in1.in1 (PySem.Builtin.Str.strOf (.ref a)) (fun r s₁ => ∃ y u, r = .str y u ∧ EP X pins σ Q r s₁) X.xe s := by
    unfold PySem.Builtin.Str.strOf
    rw [show isExactStr (.ref a) = false from rfl]
    refine wpAny_bind (m := cRoomFor _ _) (wpAny_cRoomFor hr.in1.in1.units0 ?_)
    refine wpAny_bind (m := callSpecial? (.ref a) (Str.ofString "__str__")) (PySem.W.special_fn I.kIn J hs (beq_iff_eq.mp hf) (thn (run_frA (A := X.A.in1.in1) (us := [.ref a]) (vs := [.ref a]) (Q := fun v H' => v = .str tx ∧ Q (.str tx) H') rfl G hr.in1.in1 hgd I (.cons rfl .nil) ⟨as, μ, [x], .v (.str tx), μ', .cons rd .nil, sto, ef, fun v as' H' X' r' s' => by cases r'; exact ⟨rfl, q _ as' H' X' (.str _) s'⟩⟩) fun r s' ⟨w, H', I', rw', ew, hq⟩ => ?_))
    subst ew
    obtain ⟨t, rfl⟩ := rw'
    exact wpAny_pure ⟨_, _, rfl, .str tx, H', I', ⟨t, rfl⟩, hq⟩
  refine callType_codes (T := "str") (Bi := Builtin.«object.__init__») (Q₁ := fun r s₁ => ∃ y u, r = .str y u ∧ EP X pins σ Q r s₁) PySem.F.called_str (PySem.F.typeCall_str_1 _) PySem.F.entry_object_init (codeAny_of_tree ?_) ?_
  · show wpAny _ X.A.in1.in1 (do checkBuiltinCall "str.__new__" ⟨[.type "str", .ref a], []⟩; again (.builtin "str.__new__" ⟨[.type "str", .ref a], []⟩)) _ _ s
    refine wpAny_bind (wpAny_of_eq (PySem.F.newCall_str_1 _) (wpAny_pure ⟨plainId_quiet (by decide +kernel) _, codeAny_builtin PySem.F.entry_str_new ?_⟩))
    rw [Around.under_plainId (by decide +kernel) _, PySem.str_new_tree]
    exact wpAny_bind (wpAny_pure (wpAny_bind (wpAny_of_eq isSubtype_str_str (wpAny_bind (thn own fun r s₁ z => wpAny_pure z)))))
  · rintro obj s₁ ⟨y, u, rfl, hq⟩
    exact ⟨typeIs_str _ _ _, PySem.F.args_object_init_2 _ _, object_init_meets PySem.F.called_str.init.lookup PySem.F.called_str.made (by decide) X.prog X.w X.A.in1 _ s₁ ⟨typeIs_str _ _ _, rfl, hq⟩⟩
end
end DL
set_option maxHeartbeats 2000000
/-! A class of the program over any built-in exception, called: B gives it its __new__. -/
namespace DL
open PySem PySem.Spec PyProof.Rows L2 Builtin Builtin.ObjectAttr
abbrev keMro : List Value := [.type "KeyError", .type "LookupError", .type "Exception", .type "BaseException", .type "object"]
theorem keStore : StoreFacts "KeyError" keMro "object.__setattr__" "object" :=
  { mro := by kernel_rfl, slot := .of (owner := "object") (n := "__setattr__") (by rw [typeLookup_type, builtinLookup_eq_fast]; kernel_rfl) (by decide +kernel) (by decide +kernel) (by decide +kernel) (by first | exact .inl (by decide +kernel) | exact .inr (by decide +kernel)) (by rw [isSubtype_type]; kernel_rfl),
    entry := PySem.F.entry_object_sa, kind := by decide +kernel, split := by decide +kernel, hasOwner := by decide +kernel, args := fun a b c => by (unfold argsOk; kernel_rfl), passes := fun _ => by kernel_rfl }
end DL
namespace PySem
namespace DLX
open Builtin Builtin.ObjectAttr
/-- the mro of the class behind itself, so far as it matters -/
structure Bm (B : String) (bm : List Value) : Prop where
  b : bm.contains (.type B) = true
  a : bm.contains (.type "AttributeError") = false
  n : bm.contains (.type "NameError") = false
section
variable {prog : Program} {w : World} {A : Around} {E : Value → Shared → Prop} {R : Result → Shared → Prop} {h0 : Heap} {gs : Array GenState} {dr : Drawn} {tk : Nat} {os : OsState}
variable {nm qn : Str} {C N : Addr} {bs bm bmB : List Value} {hdct : Bool} {sn : List Str} {sub : List Value} {ab : Bool} {col : Option Bool} {dd : Option Addr} {k0 k1 k2 k3 k5 : Option Value} {B newId initId : String} {args : List Value} {fI : Addr}
theorem cons_has (T : Bm B bm) : (Value.ref C :: bm).contains (.type B) = true ∧ (Value.ref C :: bm).contains (.type "AttributeError") = false ∧ (Value.ref C :: bm).contains (.type "NameError") = false ∧ (Value.ref C :: bm).contains (.ref C) = true :=
  ⟨by rw [List.contains_cons, T.b, Bool.or_true], by rw [List.contains_cons, T.a]; rfl, by rw [List.contains_cons, T.n]; rfl, by simp⟩
theorem own_check {M : Model} {Q : Unit → Shared → Prop} (F : ExcBaseFacts B newId initId bmB) (T : Bm B bm) (cl : h0.get? C = some (excClassObj nm qn C N bs bm hdct sn sub ab col dd k0 k1 k2 k3 k5 newId)) (fin : Q () ⟨h0, gs, dr, tk, os⟩) :
    wpAny M A (checkBuiltinCall newId ⟨.ref C :: args, []⟩) Q E ⟨h0, gs, dr, tk, os⟩ := by
  have y1 := (cons_has (C := C) T).1
  have y2 := F.noStar
  simp only [checkBuiltinCall, F.newSplit, F.newRow, F.newKind]
  repeat (first
    | refine wpAny_loadPart_at cl ?_ | refine wpAny_staticBase_exc cl ?_ | refine wpAny_madeBy_exc cl ?_
    | (refine wpAny_isSubtype_exc cl ?_; rw [y1]) | simp only [bne_self_eq_false, Bool.false_eq_true, if_false]
    | wp_step)
  exact fin
theorem own_new (F : ExcBaseFacts B newId initId bmB) (T : Bm B bm) (cl : h0.get? C = some (excClassObj nm qn C N bs bm hdct sn sub ab col dd k0 k1 k2 k3 k5 newId)) (few : args.length ≤ sizeLine)
    (fin : R (.ok (.ret (.ref (h0.objs.size + 1)))) ⟨(h0.push (PySem.W.kdv_tup args)).push (PySem.HandSPX.excO C h0.objs.size), gs, dr, tk, os⟩) :
    codeAny (model prog w) A (.builtin newId ⟨.ref C :: args, []⟩) R ⟨h0, gs, dr, tk, os⟩ := by
  have y0 := F.ends
  obtain ⟨y1, y2, y3, _⟩ := cons_has (C := C) T
  refine codeAny_builtinAt F.entry ?_
  unfold Builtin.«BaseException.__new__»
  refine wpAt_bind (show wpAt _ _ _ (stack >>= _) _ _ _ from wpAt_bind (wpAt_stack fun p below => wpAt_of_wpAny ?_))
  wp_walk
  refine wpAt_of_wpAny ?_
  rw [F.owner]
  repeat (first
    | with_reducible refine wpAny_madeHere_exc F.canon cl ?_ | with_reducible refine wpAny_loadPart_at cl ?_
    | (with_reducible refine wpAny_isSubtype_exc cl ?_; first | rw [y1] | rw [y2] | rw [y3])
    | wp_step)
  show R _ _
  rw [Heap.size_push]
  exact fin
theorem own_typeCall {Q : Fin → Shared → Prop} (F : ExcBaseFacts B newId initId bmB) (T : Bm B bm) (cl : h0.get? C = some (excClassObj nm qn C N bs bm hdct sn sub ab col dd k0 k1 k2 k3 k5 newId)) (few : args.length ≤ sizeLine)
    (li : PySem.W.Looks (model prog w) h0 (typeLookup (.ref C) "__init__") (some (.ref fI))) (lb : ∀ self, PySem.W.Looks (model prog w) h0 (bindSpecial (.ref fI) self) (.ref fI, [self]))
    (fin : codeAny (model prog w) A (.call (.ref fI) ⟨.ref (h0.objs.size + 1) :: args, []⟩) (fun r s' => match r with
      | .ok (.ret v) => v = .none ∧ Q (.done (.ret (.ref (h0.objs.size + 1)))) s'
      | .ok _ => False
      | .error e => E e s') ⟨(h0.push (PySem.W.kdv_tup args)).push (PySem.HandSPX.excO C h0.objs.size), gs, dr, tk, os⟩) :
    wpAny (model prog w) A (Builtin.«type.__call__» ⟨.ref C :: args, []⟩) Q E ⟨h0, gs, dr, tk, os⟩ := by
  repeat (first
    | with_reducible refine wpAny_loadPart_at cl ?_ | with_reducible refine wpAny_madeBy_exc cl ?_
    | wp_step)
  refine codeAny_call_builtin_code (Code.quiet_builtin _ F.quiet) (own_check F T cl (own_new F T cl few ?_))
  show wpAny _ _ _ _ _ _
  have more : ∀ b o, h0.get? b = some o → ((h0.push (PySem.W.kdv_tup args)).push (PySem.HandSPX.excO C h0.objs.size)).get? b = some o := fun b o e => Heap.get?_push_of_some _ (Heap.get?_push_of_some _ e)
  have cl2 := more _ _ cl
  have at2 : ((h0.push (PySem.W.kdv_tup args)).push (PySem.HandSPX.excO C h0.objs.size)).get? (h0.objs.size + 1) = some (PySem.HandSPX.excO C h0.objs.size) := by heap_get
  have y4 := (cons_has (C := C) T).2.2.2
  have li2 := li.keeps more
  have lb2 := (lb (.ref (h0.objs.size + 1))).keeps more
  unfold isInstance
  repeat (first
    | with_reducible refine wpAny_loadPart_at at2 ?_
    | (with_reducible refine wpAny_isSubtype_exc cl2 ?_; rw [y4])
    | wp_step)
  refine (show wpAny _ _ (typeLookup (.ref C) _) _ _ _ from li2.at (wpAny_holding (wpAny_bind (lb2.at (wpAny_bind (wpAny_call (codeAny_mono fin fun r s' zz => ?_)))))))
  rcases r with er | (vv | _ | _ | _) <;> first
    | exact zz | exact zz.elim
    | skip
  obtain ⟨rfl, zz⟩ := zz
  first
    | exact wpAny_pure (wpAny_pure zz) | (wp_walk
                                          exact zz)
    | (wp_walk
       done)
theorem own_call (F : ExcBaseFacts B newId initId bmB) (T : Bm B bm) (cl : h0.get? C = some (excClassObj nm qn C N bs bm hdct sn sub ab col dd k0 k1 k2 k3 k5 newId)) (few : args.length ≤ sizeLine)
    (li : PySem.W.Looks (model prog w) h0 (typeLookup (.ref C) "__init__") (some (.ref fI))) (lb : ∀ self, PySem.W.Looks (model prog w) h0 (bindSpecial (.ref fI) self) (.ref fI, [self]))
    (fin : codeAny (model prog w) (A.under (.builtin "type.__call__" ⟨.ref C :: args, []⟩)) (.call (.ref fI) ⟨.ref (h0.objs.size + 1) :: args, []⟩) (PySem.W.InitBack (h0.objs.size + 1) R) ⟨(h0.push (PySem.W.kdv_tup args)).push (PySem.HandSPX.excO C h0.objs.size), gs, dr, tk, os⟩) :
    codeAny (model prog w) A (.call (.ref C) ⟨args, []⟩) R ⟨h0, gs, dr, tk, os⟩ := by
  have z1 := tc_lookup
  have z2 := tc_bind (.ref C)
  have z3 : (⟨h0, gs, dr, tk, os⟩ : Shared).TypeIs (.ref C) "type" := ⟨_, cl, rfl⟩
  refine codeAny_of_tree (show wpAny _ _ (callAny (.ref C) _) _ _ _ from ?_)
  repeat (any_goals (first
    | assumption | with_reducible refine wpAny_loadPart_at cl ?_
    | wp_step))
  refine ⟨rfl, codeAny_call_builtin_at (Code.quiet_builtin _ (by decide +kernel)) entry_typeCall (wpAny_check_type_call_sub cl (own_typeCall F T cl few li lb (codeAny_mono fin fun r s' z => ?_)))⟩
  rcases r with e | (v | _ | _ | _)
  all_goals exact z
end
end DLX
end PySem
set_option maxHeartbeats 2000000
/-! Exceptions of any base, held as values. -/
namespace DL
open PySem PySem.Spec PyProof.Rows L2 Builtin Builtin.ObjectAttr
section
variable {prog : Program} {w : World} {A : Around} {E : Value → Shared → Prop} {R : Result → Shared → Prop} {hp : Heap} {g : Array GenState} {d : Drawn} {t : Nat} {os : OsState} {K : PySem.W.Frag} {x C : Addr} {fv : Array Value} {name : Str} {tk : Tok} {v : Value} {cd : ClassData} {B newId : String} {bmB : List Value}
/-- the first field of an exception without a dict -/
theorem osa_first (SF : StoreFacts B bmB "object.__setattr__" "object") (X : K.In hp) (hx : hp.get? x = some { cls := .ref C, data := .fields fv }) (hcd : PySem.W.clsIn K C = some cd) (ov : PySem.W.excOver K C bmB = true) (hh : cd.hasDict = true) (ht : PySem.W.takerIn K C name = some none)
    (hq : ∀ (h' : Heap) (tk' : Nat) (dx : Addr), (∀ b o, b ≠ x → hp.get? b = some o → h'.get? b = some o) → hp.objs.size ≤ dx → dx ≠ x → h'.get? x = some { cls := .ref C, dict := some dx, data := .fields fv } → h'.Ns1 dx (fun y => if y = name then some v else none) → R (.ok (.ret .none)) ⟨h', g, d, tk', os⟩) :
    codeAny (model prog w) A (.call (.builtin "object.__setattr__") ⟨[.ref x, .str name tk, v], []⟩) R ⟨hp, g, d, t, os⟩ := by
  have ne : x ≠ hp.objs.size := Nat.ne_of_lt (Heap.lt_size hx)
  have cl : PySem.W.Looks (model prog w) hp (classData C) cd := PySem.W.looks_clsIn X hcd
  refine PySem.W.osa_openX (s := ⟨hp, g, d, t, os⟩) SF X (ox := { cls := .ref C, data := .fields fv }) (od := none) ⟨hx, rfl, rfl, trivial⟩ ov ht fun b => ?_
  dsimp only
  obtain ⟨a1, a2, a3, a4, a5, hd, a7, a8, a9, a10, a11⟩ := cd
  dsimp only at hh; subst hh
  unfold storeInOwnDict ownDictForStores
  cases b <;> (repeat (first | with_reducible refine PySem.HandSPX.store_in_new ?_ ?_ | with_reducible refine wpAny_loadPart_at hx ?_ | with_reducible refine cl.at ?_ | wp_step)) <;> first
    | (exact ⟨_, #[], _, (Heap.get?_update_ne _ _ _ _ ne.symm).trans (Heap.get?_push_at rfl rfl), rfl, fun e he => absurd he (by simp), fun _ => rfl⟩)
    | (intro h' tk' hn' hs
       refine hq h' tk' hp.objs.size (fun b o hb ho => (hs.2 b (Nat.ne_of_lt (Heap.lt_size ho))).trans ((Heap.get?_update_ne _ _ _ _ hb).trans (Heap.get?_push_of_some _ ho))) (Nat.le_refl _) ne.symm ((hs.2 x ne).trans (Heap.get?_update_self _ (Heap.get?_push_of_some _ hx) rfl)) hn')
end

/-- what is asked of a class whose __init__ stores one field -/
structure XCls (K : PySem.W.Frag) (C : Addr) (bmB : List Value) (newId : String) : Prop where
  ini : PySem.W.excInitIn K C bmB newId = true
  over : PySem.W.excOver K C bmB = true
  dct : PySem.W.hasDictIn K C = true
  sa : PySem.W.findIn K (.ref C) "__setattr__" = some (some (.builtin "object.__setattr__"))
  kp : PySem.W.keepIn K (.ref C) = true
section
variable {X : Cx} {pins : List (Addr × Obj)} {σ : L2.St} {H : Hp} {s : Shared} {a C dx : Addr} {f : Str} {y : V} {u : Value} {Q : Unit → Shared → Prop} {E : Value → Shared → Prop} {A : Around} {B newId initId : String} {bmB : List Value}
theorem ost_first (SF : StoreFacts B bmB "object.__setattr__" "object") (T : XCls X.K C bmB newId) (I : Inv X pins σ H s) (e : H a = some (exo a C none)) (hno : PySem.W.takerIn X.K C f = some none) (ry : RelV y u)
    (h : ∀ dx s', H dx = none → dx ≠ a → Inv X pins σ (upd (upd H dx (exd dx [(f, y)])) a (exo a C (some dx))) s' → Q () s') : wpAny (model X.prog X.w) A (setAttr (.ref a) f u) Q E s := by
  obtain ⟨cd, hc, hd⟩ := PySem.W.any_some T.dct
  obtain ⟨t1, ho⟩ := exo_at I.hok e
  obtain ⟨hp, g, dr, t, os⟩ := s
  refine PySem.W.set_plain I.kIn (ox := { cls := .ref C, dict := none, data := .fields #[.ref t1, .none, .none, .none, .bool false, .none] }) (od := none) ⟨ho, rfl, rfl, trivial⟩ T.sa (osa_first SF I.kIn ho hc T.over hd hno fun h' tk' dx k dn dne hx hn => ?_)
  have fr : H dx = none := I.hok.fresh dn
  have ndx : ∀ {b : Addr} {o : Obj}, hp.get? b = some o → b ≠ dx := fun q z => absurd (Heap.lt_size q) (by rw [z]; exact Nat.not_lt.mpr dn)
  have nax : ∀ {b : Addr}, H b = none → b ≠ a := fun n z => by rw [z, e] at n; cases n
  refine h dx _ fr dne (I.un (t' := tk') ⟨fun b o q n _ _ => k b o (nax n) q, fun b o q n _ _ => ⟨o.slots, k b o (nax n) q⟩, fun b o q n _ => ?_, fun b o q _ => ?_, fun b xs q => ?_, fun b o v q => ?_, fun b ps q => ⟨#[], ?_⟩⟩ fun b o q => ?_)
  · rw [upd_ne (nax n), upd_ne (ndx q), n]
  · by_cases hb : b = a
    · subst hb; exact ⟨_, hx⟩
    · exact ⟨o, k b o hb q⟩
  · rw [upd_ne (at_ne e q exo_tup), upd_ne (ne_of_none q fr), q]
  · rw [upd_ne (at_ne e q exo_frz), upd_ne (ne_of_none q fr), q]
  · rw [upd_ne (at_ne e q exo_tbl), upd_ne (ne_of_none q fr), q]; simp
  · by_cases hb : b = a
    · subst hb
      rw [upd_same] at q
      cases q
      exact exo_ok hx
    · rw [upd_ne hb] at q
      by_cases hd : b = dx
      · subst hd
        rw [upd_same] at q
        cases q
        exact exd_ok hn (relO_put (fs := []) ry fun _ => trivial)
      · rw [upd_ne hd] at q
        refine (I.hok b o q).stay (fun c v hc z => k c v ?_ z) (fun c hc => ?_) fun c xs hc => ?_
        · rcases hc with hc | hc
          · rw [hc]; exact hb
          · exact at_ne e hc exo_own
        · rw [upd_ne (at_ne e hc exo_own), upd_ne (ne_of_none hc fr), hc]
        · rw [upd_ne (at_ne e hc exo_tup), upd_ne (ne_of_none hc fr), hc]
/-- the def __init__(self, x): self.f = x -/
def spF (K : PySem.W.Frag) (C : Addr) (f : Str) : Sp := fun vs H Q _ => ∃ (self : Addr) (y : V), vs = [.ref self, y] ∧ H self = some (exo self C none) ∧ ∀ dx, H dx = none → dx ≠ self → Q .non (upd (upd H dx (exd dx [(f, y)])) self (exo self C (some dx)))
def tF1 (K : PySem.W.Frag) (C : Addr) (f : Str) : TS := fun D σ H => ∃ (self : Addr) (y : V), σ[0]? = some (some (.ref self)) ∧ σ[1]? = some (some y) ∧ H self = some (exo self C none) ∧ ∀ dx, H dx = none → dx ≠ self → D.nx σ (upd (upd H dx (exd dx [(f, y)])) self (exo self C (some dx)))
theorem ps_first {p1 p2 p3 pos : Pos} {ns nx : Str} (SF : StoreFacts B bmB "object.__setattr__" "object") (T : XCls X.K C bmB newId) (hno : PySem.W.takerIn X.K C f = some none) (p0 : PE X (.Name ns p2) (tVar 0)) (pn1 : PE X (.Name nx p1) (tVar 1))
    (hs : swapsWith (.Name nx p1) (some (.Attribute (.Name ns p2) f p3)) pos.line X.env = pure false := by rfl) : PS X (.Assign [.Attribute (.Name ns p2) f p3] (.Name nx p1) pos) (tF1 X.K C f) := by
  refine ⟨fun pins s σ H D I ⟨self, y, e0, e1, hH, q⟩ => ?_⟩
  refine plainObj_wpAny_Assign_Attribute (thn (pn1.run pins s σ H (fun v H1 => v = y ∧ H = H1) I ⟨y, e1, rfl, rfl⟩) fun v s1 ⟨x, H1, I1, r1, ex, eH⟩ => ?_) hs
  subst ex eH
  refine thn (p0.run pins s1 σ H (fun v H1 => v = .ref self ∧ H = H1) I1 ⟨.ref self, e0, rfl, rfl⟩) fun u s2 ⟨x, H1, I2, r2, ex, eH⟩ => ?_
  subst ex eH
  obtain rfl : u = Value.ref self := r2
  exact ost_first SF T I2 hH hno r1 fun dx s' n ne J => ⟨σ, _, J, q dx n ne⟩
end

section
variable {P : Program} {w : World} {K : PySem.W.Frag} {mg : Str → Option Value} {base : Heap} {CX : CXT} {k : Nat} {B newId initId : String} {bmB : List Value}
/-- __init__(self, x): self.f = x keeps spF -/
theorem fn_first {qual nx fl : Str} {st : Stmt} {f C : Addr} {fd : FuncData} {p1 p2 p3 pos : Pos} (SF : StoreFacts B bmB "object.__setattr__" "object") (T : XCls K C bmB newId) (hno : PySem.W.takerIn K C fl = some none) (Fu : Fun K "__init__" qual st f fd) (S : FnScope ["self", nx] ["self", nx] (defScope st))
    (hb : defBody st = [.Assign [.Attribute (.Name "self" p2) fl p3] (.Name nx p1) pos])
    (h0 : ∀ (cdv : Value) (A : Around) (stk : List Env) (s : Shared) (H : Hp) (E : XK), PE (cxOf CX P w K mg base ["self", nx] qual (defScope st) f cdv A stk s H E) (.Name "self" p2) (tVar 0))
    (h1 : ∀ (cdv : Value) (A : Around) (stk : List Env) (s : Shared) (H : Hp) (E : XK), PE (cxOf CX P w K mg base ["self", nx] qual (defScope st) f cdv A stk s H E) (.Name nx p1) (tVar 1))
    (hs : ∀ env : Env, swapsWith (.Name nx p1) (some (.Attribute (.Name "self" p2) fl p3)) pos.line env = pure false) :
    FnOk P w K mg base CX (k + 1) f fd ["self", nx] (spF K C fl) := by
  obtain ⟨oc, od, kV, doc, pm, an, cdv, ct, osl, rfl, lk, hcd⟩ := Fu.ex
  refine fn_of lk hcd S (fun vs H Q E ⟨self, y, ev, _⟩ => by subst ev; rfl) fun A outer s H vs Q E hr ⟨self, y, ev, hH, q⟩ => ?_
  subst ev
  rw [hb]
  exact ⟨_, pss_one (ps_first SF T hno (h0 cdv A outer s H E) (h1 cdv A outer s H E) (hs _)), self, y, rfl, rfl, hH, fun dx n ne => q dx n ne⟩
end
section
variable {X : Cx} {CX : CXT} {k : Nat} {B newId initId : String} {bmB : List Value} {C fI : Addr} {fd : FuncData} {ps : List Str} {x fl : Str} {e : Expr} {te : TE} {p pos : Pos}
/-- C(e): a new exception with its field, as a value -/
theorem pe_mkF {bmN : List Value} (FB : ExcBaseFacts B newId initId bmN) (hB : PySem.DLX.Bm B bmB) (T : XCls X.K C bmB newId) (iC : PySem.W.findIn X.K (.ref C) "__init__" = some (some (.ref fI))) (tI : PySem.W.typeIn X.K (.ref fI) = some (.type "function"))
    (F1 : FnOk X.prog X.w X.K X.mg X.base CX k fI fd ps (spF X.K C fl)) (hr : Room (k + 1) X.A) (hb : Binds X.K fd ps []) (hx : Passes CX X (fun _ _ _ => False)) (hg : Gl X x) (hm : X.mg x = some (.ref C)) (he : PE X e te)
    (hdb : (x == ("__debug__" : Str)) = false := by decide) (hs : starEach [e] X.env = (false, eval e X.env) :: starEach [] X.env := by rfl) (hpl : (backTo pos (starEach [] X.env)).any (·.1) = false := by rfl) :
    PE X (.Call (.Name x p) [e] [] pos) (fun σ H Q => te σ H fun y H1 => ∀ a dx, H1 a = none → H1 dx = none → dx ≠ a → Q (.ref a) (upd (upd (upd H1 a (exo a C none)) dx (exd dx [(fl, y)])) a (exo a C (some dx)))) := by
  refine ⟨fun pins s σ H Q I h => ?_⟩
  refine wpAny_Call_Name_kw (ld_glob I hg hm ?_ hdb)
  refine PySem.W.callWith_K (h₀ := X.base) I.ok.mod.kin T.kp (thn ((pa_cons he pa_nil hs).run pos pins s σ H (fun vs H1 => match vs with
    | [y] => ∀ a dx, H1 a = none → H1 dx = none → dx ≠ a → Q (.ref a) (upd (upd (upd H1 a (exo a C none)) dx (exd dx [(fl, y)])) a (exo a C (some dx)))
    | _ => False) I h) fun us s1 ⟨vs, H1, I1, r1, q1⟩ => ⟨I1.kIn, ?_⟩) hs hpl
  · obtain ⟨y, ev⟩ : ∃ y, vs = [y] := by
      match vs, q1 with
      | [y], _ => exact ⟨y, rfl⟩
    show wpAny _ _ (call (.ref C) us) _ _ _
    subst ev
    have hl1 : us.length = 1 := (Paired.length r1).symm
    obtain ⟨nm, N, qn, bs, bm, hdct, sn, sub, ab, col, dd, k0, k1, k2, k3, k5, hC, hT⟩ := PySem.W.excInit_of I1.kIn T.ini
    obtain ⟨hp, g, dr, tk, os⟩ := s1
    have hsz : hp.objs.size ≤ hp.objs.size + 1 := Nat.le_succ _
    have hn : H1 (hp.objs.size + 1) = none := I1.hok.fresh hsz
    have I2 : Inv X pins σ (upd H1 (hp.objs.size + 1) (exo (hp.objs.size + 1) C none)) ⟨(hp.push (PySem.W.kdv_tup us)).push (PySem.HandSPX.excO C hp.objs.size), g, dr, tk, os⟩ :=
      I1.laid (t' := tk) (fun b o z => Heap.get?_push_of_some _ (Heap.get?_push_of_some _ z)) hsz (exo_ok (by heap_get))
    have r2 : Vals [V.ref (hp.objs.size + 1), y] (Value.ref (hp.objs.size + 1) :: us) := .cons rfl r1
    have hl : (Value.ref (hp.objs.size + 1) :: us ++ []).length = ps.length := by
      have z := F1.len [V.ref (hp.objs.size + 1), y] (upd H1 (hp.objs.size + 1) (exo (hp.objs.size + 1) C none)) (fun _ _ => True) (fun _ _ _ => False) ⟨_, y, rfl, upd_same, fun _ _ _ => trivial⟩
      rw [← z, List.append_nil, List.length_cons, hl1]; rfl
    refine wpAny_call (PySem.DLX.own_call FB ⟨by rw [hT]; exact hB.b, by rw [hT]; exact hB.a, by rw [hT]; exact hB.n⟩ hC (by rw [hl1, sizeLine_eq]; omega) (PySem.W.looks_findIn I1.kIn iC) (fun self => PySem.W.bind_fn I1.kIn self tI)
      (codeAny_mono (F1.run _ X.stack _ _ ⟨Value.ref (hp.objs.size + 1) :: us, []⟩ (Value.ref (hp.objs.size + 1) :: us ++ []) _ (fun v H2 => v = .non ∧ Q (.ref (hp.objs.size + 1)) H2) (fun _ _ _ => False) (hr.make C us []) (I2.env0.make C us []) (hb _ (Value.ref (hp.objs.size + 1) :: us) I2.kIn hl) (by rw [List.append_nil]; exact r2)
        ⟨_, y, rfl, upd_same, fun dx n ne => ⟨rfl, q1 _ dx hn (by rw [upd_ne ne] at n; exact n) ne⟩⟩) fun r s' hq' => ?_))
    cases r with
    | error er => exact hx pins σ _ _ er s' I2 hq'
    | ok fl =>
      cases fl with
      | ret u =>
        obtain ⟨v, H2, J, rv, ev, q2⟩ := I2.after hq'
        subst ev
        exact ⟨rv, .ref (hp.objs.size + 1), H2, J, rfl, q2⟩
      | next => exact False.elim hq'
      | brk => exact False.elim hq'
      | cont => exact False.elim hq'
end

/-! ### isinstance, fields of such values -/
structure XQ (K : PySem.W.Frag) (C : Addr) : Prop extends ExcC K C where
  cl : (PySem.W.clsIn K C).isSome = true
def xqB (K : PySem.W.Frag) (C : Addr) : Bool := decide (PySem.W.findIn K (.ref C) "__getattribute__" = some (some (.builtin "BaseException.__getattribute__"))) && (decide (PySem.W.findIn K (.ref C) "__getattr__" = some none) && (decide (PySem.W.subIn K (.ref C) (.type "BaseException") = some true) &&
  (PySem.W.hasDictIn K C && (decide (PySem.W.findIn K (.ref C) "__class__" = some (some (.builtin "object.__class__"))) && (decide (PySem.W.specialIn K (.builtin "object.__class__") "__get__" = some (some (.builtin "getset_descriptor.__get__"))) && (decide (PySem.W.takesIn K (.builtin "object.__class__") = some true) && (decide (PySem.W.mroIn K C (.type "object") = some true) && (PySem.W.clsIn K C).isSome)))))))
theorem xqB_ok {K : PySem.W.Frag} {C : Addr} (h : xqB K C = true) : XQ K C := by
  unfold xqB at h
  simp only [Bool.and_eq_true, decide_eq_true_eq] at h
  obtain ⟨h1, h2, h3, h4, h5, h6, h7, h8, h9⟩ := h
  exact ⟨⟨h1, h2, h3, h4, h5, h6, h7, h8⟩, h9⟩
/-- an exception of the class at C lies at a -/
def AtX (H : Hp) (a C : Addr) : Prop := H a = some (ExO (.ref C) a) ∨ ∃ dx fs, H a = some (exo a C (some dx)) ∧ H dx = some (exd dx fs)
section
variable {X : Cx} {pins : List (Addr × Obj)} {σ : L2.St} {H : Hp} {s : Shared} {a C : Addr}
theorem atx_inst (I : Inv X pins σ H s) (h : AtX H a C) : ∃ oe od, PySem.W.InstAt s.heap a oe C od := by
  rcases h with h | ⟨dx, fs, h, hd⟩
  · obtain ⟨⟨oe, vs, ho, ⟨hz1, hz2⟩, hdt, _⟩, _⟩ := I.hok a _ h
    obtain ⟨oc, od, oda, osl⟩ := oe
    dsimp only at hz1 hz2 hdt
    subst hz1 hz2 hdt
    exact ⟨_, none, ho, rfl, rfl, trivial⟩
  · obtain ⟨t1, ho⟩ := exo_at I.hok h
    obtain ⟨mA, hns, _⟩ := exd_at I.hok hd
    obtain ⟨od, hod, _⟩ := lookIn_ns hns
    exact ⟨_, some od, ho, rfl, rfl, hod⟩
def rIsX (K : PySem.W.Frag) : List V → Hp → VK → Prop := fun xs H Q => ∃ (a C : Addr) (c : V) (cv : Value) (b : Bool), xs = [.ref a, c] ∧ AtX H a C ∧ XQ K C ∧ (∀ u, RelV c u → u = cv) ∧ PySem.W.kitOne K (.ref C) cv = some b ∧ Q (.bl b) H
theorem call_isX : CallR X (.builtin "isinstance") (rIsX X.K) := by
  intro pins s σ H xs us Q I r ⟨a, C, c, cv, b, ev, hat, xq, hcv, e, q⟩
  subst ev
  cases r with
  | cons rx rr =>
  cases rr with
  | cons rt rr =>
  cases rr
  cases rx
  have ec := hcv _ rt
  subst ec
  obtain ⟨oe, od, J⟩ := atx_inst I hat
  exact PySem.W.kia_one (PySem.W.kitx_exc xq.cl xq.hg xq.hk xq.hs xq.ha xq.hn xq.ht xq.hm) I.kIn J e (fun z => nomatch z) fun tk => ⟨.bl b, H, I.kept (t' := tk) fun _ _ z => z, rfl, q⟩
/-- e.f -/
def tGetF (K : PySem.W.Frag) (fl : Str) (te : TE) : TE := fun σ H Q => te σ H fun x H1 => ∃ (a C dx : Addr) (v : V), x = .ref a ∧ H1 a = some (exo a C (some dx)) ∧ H1 dx = some (exd dx [(fl, v)]) ∧ XQ K C ∧ PySem.W.findIn K (.ref C) fl = some none ∧ Q v H1
theorem pe_getF {e : Expr} {te : TE} {fl : Str} {pos : Pos} (he : PE X e te) (hb : attributeBase e fl X.env (eval e X.env) = eval e X.env := by rfl) : PE X (.Attribute e fl pos) (tGetF X.K fl te) := by
  refine ⟨fun pins s σ H Q I h => attr_of hb (thn (he.run pins s σ H _ I h) fun u s1 ⟨x, H1, I1, rx, a, C, dx, v, ex, ea, ed, xq, hno, q⟩ => ?_)⟩
  subst ex
  obtain rfl : u = Value.ref a := rx
  obtain ⟨t1, ho⟩ := exo_at I1.hok ea
  obtain ⟨mA, hns, hr⟩ := exd_at I1.hok ed
  obtain ⟨od, hod, hl⟩ := lookIn_ns hns
  obtain ⟨u, hu, ru⟩ := RelO.some_of (v := v) (o := mA fl) (by have z := hr fl; rw [lookup_put, if_pos rfl] at z; exact z)
  exact HandSPX.exc_get I1.kIn (⟨ho, rfl, rfl, hod⟩ : PySem.W.InstAt s1.heap a _ C (some od)) xq.hg xq.hk xq.hs (PySem.W.findObj_own xq.hd hno rfl (by rw [hl, hu])) (handed_of ru) ⟨v, H1, I1.tok _, ru, q⟩
end
/-! ### on data -/
section
variable {X : Cx} {e : Expr} {fa : EvE} {p p1 p2 pos : Pos} {x fl : Str}
theorem Rep.atx {K : PySem.W.Frag} {as : Ar} {H : Hp} {v : V} {d : D} {n : Str} (r : Rep K as H v d) (h : d = .exc n ∨ ∃ f x, d = .exf n f x) : ∃ a C, v = .ref a ∧ PySem.W.nsIn K mainGlobals n = some (some (.ref C)) ∧ AtX H a C := by
  rcases h with rfl | ⟨f, x, rfl⟩
  · cases r with
    | exc e t n => exact ⟨_, _, rfl, e, .inl t⟩
  · cases r with
    | exf e t n t2 n2 r => exact ⟨_, _, rfl, e, .inr ⟨_, _, t, t2⟩⟩
/-- C(e) without an own __init__ -/
def dExc (x : Str) : D → List Cell → Option D := fun _ _ => some (.exc x)
theorem de_exc {C : Addr} {bmB : List Value} {B newId initId : String} (F : ExcBaseFacts B newId initId bmB) (q : PySem.W.excIn X.K C bmB newId = true) (gC : X.mg x = some (.ref C)) (hn : PySem.W.nsIn X.K mainGlobals x = some (some (.ref C))) (kC : PySem.W.keepIn X.K (.ref C) = true) (hg : Gl X x)
    (he : PE X e (tF X.K fa)) (hs : starEach [e] X.env = (false, eval e X.env) :: starEach [] X.env := by rfl) (hdb : (x == ("__debug__" : Str)) = false := by decide) : PE X (.Call (.Name x p) [e] [] pos) (tF X.K (fU (dExc x) fa)) :=
  (pe_exc1 F q gC kC hg he hs hdb).imp fun σ H Q ⟨as, S, d, μ', E, ed, k⟩ => by
    obtain ⟨y, ey, ez⟩ := fU_out ed
    cases Option.some.inj ez
    exact ⟨as, S, y, μ', E, ey, fun v as1 H1 X1 r1 s1 a ha => k _ as1 _ (X1.trans (Ext.new ha (s1.out ha)) E.sto.trk) (.exc hn upd_same (s1.out ha)) (s1.new ha)⟩
/-- .. with one that stores its argument -/
def dExf (x fl : Str) : D → List Cell → Option D := fun d _ => some (.exf x fl d)
theorem de_exf {CX : CXT} {k : Nat} {fI C : Addr} {fd : FuncData} {ps : List Str} {bmB bmN : List Value} {B newId initId : String} (FB : ExcBaseFacts B newId initId bmN) (hB : PySem.DLX.Bm B bmB) (T : XCls X.K C bmB newId) (iC : PySem.W.findIn X.K (.ref C) "__init__" = some (some (.ref fI))) (tI : PySem.W.typeIn X.K (.ref fI) = some (.type "function"))
    (F1 : FnOk X.prog X.w X.K X.mg X.base CX k fI fd ps (spF X.K C fl)) (hr : Room (k + 1) X.A) (hb : Binds X.K fd ps []) (hx : Passes CX X (fun _ _ _ => False)) (hg : Gl X x) (hm : X.mg x = some (.ref C)) (hn : PySem.W.nsIn X.K mainGlobals x = some (some (.ref C)))
    (he : PE X e (tF X.K fa)) (hdb : (x == ("__debug__" : Str)) = false := by decide) (hs : starEach [e] X.env = (false, eval e X.env) :: starEach [] X.env := by rfl) (hpl : (backTo pos (starEach [] X.env)).any (·.1) = false := by rfl) : PE X (.Call (.Name x p) [e] [] pos) (tF X.K (fU (dExf x fl) fa)) :=
  (pe_mkF FB hB T iC tI F1 hr hb hx hg hm he hdb hs hpl).imp fun σ H Q ⟨as, S, d, μ', E, ed, kq⟩ => by
    obtain ⟨y, ey, ez⟩ := fU_out ed
    cases Option.some.inj ez
    refine ⟨as, S, y, μ', E, ey, fun v as1 H1 X1 r1 s1 a dx ha hd hne => ?_⟩
    have X2 := Ext.new (o := exo a C none) ha (s1.out ha)
    have s2 := s1.new (o := exo a C none) ha
    have hd2 : upd H1 a (exo a C none) dx = none := by rw [upd_ne hne]; exact hd
    have X3 := Ext.new (o := exd dx [(fl, v)]) hd2 (s2.out hd2)
    have s3 := s2.new (o := exd dx [(fl, v)]) hd2
    -- the object's second look
    have eq : upd (upd (upd H1 a (exo a C none)) dx (exd dx [(fl, v)])) a (exo a C (some dx)) = upd (upd H1 a (exo a C (some dx))) dx (exd dx [(fl, v)]) := by
      funext b
      by_cases h1 : b = a
      · subst h1; rw [upd_same, upd_ne (Ne.symm hne), upd_same]
      · rw [upd_ne h1]
        by_cases h2 : b = dx
        · subst h2; rw [upd_same, upd_same]
        · rw [upd_ne h2, upd_ne h2, upd_ne h1, upd_ne h1]
    rw [eq]
    have Y2 := Ext.new (o := exo a C (some dx)) ha (s1.out ha)
    have t2 := s1.new (o := exo a C (some dx)) ha
    have hd3 : upd H1 a (exo a C (some dx)) dx = none := by rw [upd_ne hne]; exact hd
    have Y3 := Ext.new (o := exd dx [(fl, v)]) hd3 (t2.out hd3)
    have t3 := t2.new (o := exd dx [(fl, v)]) hd3
    have Y := Y2.trans Y3 s1.trk
    exact kq _ as1 _ (X1.trans Y E.sto.trk) (.exf hn (by rw [upd_ne (Ne.symm hne), upd_same]) (s1.out ha) upd_same (t2.out hd3) (r1.mv Y)) t3
/-- isinstance(e, c) of such a value -/
def dIsx (tab : Str → Option Bool) : D → List Cell → Option D
  | .exc n, _ => (tab n).map .bl
  | .exf n _ _, _ => (tab n).map .bl
  | _, _ => none
theorem de_isx {c : V} {cv : Value} {x2 : Expr} {tab : Str → Option Bool} (hg : Gl X "isinstance") (hm : X.mg "isinstance" = none) (he : PE X e (tF X.K fa)) (hc : PE X x2 (tC c)) (hcv : ∀ u, RelV c u → u = cv)
    (hk : ∀ n C b, tab n = some b → PySem.W.nsIn X.K mainGlobals n = some (some (.ref C)) → XQ X.K C ∧ PySem.W.kitOne X.K (.ref C) cv = some b)
    (hs : starEach [e, x2] X.env = (false, eval e X.env) :: starEach [x2] X.env := by rfl) (hs2 : starEach [x2] X.env = (false, eval x2 X.env) :: starEach [] X.env := by rfl) (hpl : (backTo pos (starEach [x2] X.env)).any (·.1) = false := by rfl) :
    PE X (.Call (.Name "isinstance" p) [e, x2] [] pos) (tF X.K (fU (dIsx tab) fa)) :=
  (pe_callB call_isX hg hm (by decide +kernel) (pa_cons he (pa_cons hc pa_nil hs2) hs) (by decide) (by decide) hs hpl).imp fun σ H Q ⟨as, S, d, μ', E, ed, q⟩ => by
    obtain ⟨y, ey, ez⟩ := fU_out ed
    have ⟨n, b, hy, ht, eb⟩ : ∃ n b, (y = .exc n ∨ ∃ f z, y = .exf n f z) ∧ tab n = some b ∧ d = .bl b := by
      unfold dIsx at ez
      split at ez
      · obtain ⟨b, hb, rfl⟩ := Option.map_eq_some_iff.mp ez
        exact ⟨_, b, .inl rfl, hb, rfl⟩
      · obtain ⟨b, hb, rfl⟩ := Option.map_eq_some_iff.mp ez
        exact ⟨_, b, .inr ⟨_, _, rfl⟩, hb, rfl⟩
      · cases ez
    subst eb
    refine ⟨as, S, y, μ', E, ey, fun v as1 H1 X1 r1 s1 => ?_⟩
    obtain ⟨a, C, rfl, hn, hat⟩ := r1.atx hy
    obtain ⟨xq, hkk⟩ := hk n C b ht hn
    exact ⟨a, C, c, cv, b, rfl, hat, xq, hcv, hkk, q _ as1 H1 X1 (.bl b) s1⟩
/-- e.f of such a value -/
def dGetF (ns : List Str) (fl : Str) : D → List Cell → Option D
  | .exf n f x, _ => if n ∈ ns ∧ f = fl then some x else none
  | _, _ => none
theorem de_getF (he : PE X e (tF X.K fa)) {ns : List Str} (hk : ∀ n C, n ∈ ns → PySem.W.nsIn X.K mainGlobals n = some (some (.ref C)) → XQ X.K C ∧ PySem.W.findIn X.K (.ref C) fl = some none) (hb : attributeBase e fl X.env (eval e X.env) = eval e X.env := by rfl) :
    PE X (.Attribute e fl pos) (tF X.K (fU (dGetF ns fl) fa)) := (pe_getF he hb).imp fun σ H Q ⟨as, S, d, μ', E, ed, q⟩ => by
  obtain ⟨y, ey, ez⟩ := fU_out ed
  unfold dGetF at ez
  split at ez
  · split at ez
    · rename_i hf
      obtain ⟨hf1, hf⟩ := hf
      subst hf
      cases Option.some.inj ez
      refine ⟨as, S, _, μ', E, ey, fun v as1 H1 X1 r1 s1 => ?_⟩
      cases r1 with
      | exf e t n1 t2 n2 r =>
        obtain ⟨xq, hno⟩ := hk _ _ hf1 e
        exact ⟨_, _, _, _, rfl, t, t2, xq, hno, q _ as1 H1 X1 r s1⟩
    · cases ez
  · cases ez
end
end DL
set_option maxHeartbeats 2000000
/-! == where a dict stands against something else. -/
namespace PySem
namespace DLQ
open SeqAt MeetsSeq
open AutoSeq1 (wpAny_loadPart')
abbrev dob (dd : Option Addr) (es : Array DictEntry) (n : Nat) (sl : Array (Option Value)) : Obj := { cls := .type "dict", dict := dd, data := .dict es n, slots := sl }
abbrev sob (c : Value) (dd : Option Addr) (es : Array Value) (n : Nat) (sl : Array (Option Value)) : Obj := { cls := c, dict := dd, data := .seq es n, slots := sl }
section
variable (l k : Addr) (es : Array DictEntry) (n m : Nat) (dd dk : Option Addr) (sl sk : Array (Option Value)) (vs : Array Value)
theorem d_none : Meets (Builtin.«dict.__eq__» ⟨[.ref l, .none], []⟩) (fun _ R s => s.heap.get? l = some (dob dd es n sl) ∧ R (.ok (.ret .notImplemented)) s) :=
  .of_wp fun prog w A R s h => by (obtain ⟨hp, g, d, tk, os⟩ := s; obtain ⟨hl, h⟩ := h; have f1 := F.sub_NoneType_dict; wp_walk using wpAny_loadPart' hl; exact ⟨_, rfl, h⟩)
theorem d_bool (b : Bool) : Meets (Builtin.«dict.__eq__» ⟨[.ref l, .bool b], []⟩) (fun _ R s => s.heap.get? l = some (dob dd es n sl) ∧ R (.ok (.ret .notImplemented)) s) :=
  .of_wp fun prog w A R s h => by (obtain ⟨hp, g, d, tk, os⟩ := s; obtain ⟨hl, h⟩ := h; have f1 := F.sub_bool_dict; wp_walk using wpAny_loadPart' hl; exact ⟨_, rfl, h⟩)
theorem d_int (b : Int) (u : Tok) : Meets (Builtin.«dict.__eq__» ⟨[.ref l, .int b u], []⟩) (fun _ R s => s.heap.get? l = some (dob dd es n sl) ∧ R (.ok (.ret .notImplemented)) s) :=
  .of_wp fun prog w A R s h => by (obtain ⟨hp, g, d, tk, os⟩ := s; obtain ⟨hl, h⟩ := h; have f1 := F.sub_int_dict; wp_walk using wpAny_loadPart' hl; exact ⟨_, rfl, h⟩)
theorem d_str (b : Str) (u : Tok) : Meets (Builtin.«dict.__eq__» ⟨[.ref l, .str b u], []⟩) (fun _ R s => s.heap.get? l = some (dob dd es n sl) ∧ R (.ok (.ret .notImplemented)) s) :=
  .of_wp fun prog w A R s h => by (obtain ⟨hp, g, d, tk, os⟩ := s; obtain ⟨hl, h⟩ := h; have f1 := F.sub_str_dict; wp_walk using wpAny_loadPart' hl; exact ⟨_, rfl, h⟩)
theorem d_list : Meets (Builtin.«dict.__eq__» ⟨[.ref l, .ref k], []⟩) (fun _ R s => s.heap.get? l = some (dob dd es n sl) ∧ s.heap.get? k = some (sob (.type "list") dk vs m sk) ∧ R (.ok (.ret .notImplemented)) s) :=
  .of_wp fun prog w A R s h => by (obtain ⟨hp, g, d, tk, os⟩ := s; obtain ⟨hl, hk, h⟩ := h; have f1 := F.sub_list_dict; wp_walk using wpAny_loadPart' hl, wpAny_loadPart' hk; exact ⟨_, rfl, h⟩)
theorem list_d : Meets (Builtin.«list.__eq__» ⟨[.ref k, .ref l], []⟩) (fun _ R s => s.heap.get? k = some (sob (.type "list") dk vs m sk) ∧ s.heap.get? l = some (dob dd es n sl) ∧ R (.ok (.ret .notImplemented)) s) :=
  .of_wp fun prog w A R s h => by (obtain ⟨hp, g, d, tk, os⟩ := s; obtain ⟨hk, hl, h⟩ := h; have f1 := F.sub_dict_list; wp_walk using wpAny_loadPart' hl, wpAny_loadPart' hk; exact ⟨_, rfl, h⟩)
theorem d_tuple : Meets (Builtin.«dict.__eq__» ⟨[.ref l, .ref k], []⟩) (fun _ R s => s.heap.get? l = some (dob dd es n sl) ∧ s.heap.get? k = some (sob (.type "tuple") dk vs m sk) ∧ R (.ok (.ret .notImplemented)) s) :=
  .of_wp fun prog w A R s h => by (obtain ⟨hp, g, d, tk, os⟩ := s; obtain ⟨hl, hk, h⟩ := h; have f1 := F.sub_tuple_dict; wp_walk using wpAny_loadPart' hl, wpAny_loadPart' hk; exact ⟨_, rfl, h⟩)
theorem tuple_d : Meets (Builtin.«tuple.__eq__» ⟨[.ref k, .ref l], []⟩) (fun _ R s => s.heap.get? k = some (sob (.type "tuple") dk vs m sk) ∧ s.heap.get? l = some (dob dd es n sl) ∧ R (.ok (.ret .notImplemented)) s) :=
  .of_wp fun prog w A R s h => by (obtain ⟨hp, g, d, tk, os⟩ := s; obtain ⟨hk, hl, h⟩ := h; have f1 := F.sub_dict_tuple; wp_walk using wpAny_loadPart' hl, wpAny_loadPart' hk; exact ⟨_, rfl, h⟩)
theorem bool_d (b : Bool) : Meets (Builtin.«int.__eq__» ⟨[.bool b, .ref l], []⟩) (fun _ R s => s.heap.get? l = some (dob dd es n sl) ∧ R (.ok (.ret .notImplemented)) s) :=
  .of_wp fun prog w A R s h => by (obtain ⟨hp, g, d, tk, os⟩ := s; obtain ⟨hl, h⟩ := h; wp_walk using wpAny_loadPart' hl, wpAny_load hl; exact ⟨_, rfl, h⟩)
theorem int_d (b : Int) (u : Tok) : Meets (Builtin.«int.__eq__» ⟨[.int b u, .ref l], []⟩) (fun _ R s => s.heap.get? l = some (dob dd es n sl) ∧ R (.ok (.ret .notImplemented)) s) :=
  .of_wp fun prog w A R s h => by (obtain ⟨hp, g, d, tk, os⟩ := s; obtain ⟨hl, h⟩ := h; wp_walk using wpAny_loadPart' hl, wpAny_load hl; exact ⟨_, rfl, h⟩)
theorem str_d (b : Str) (u : Tok) : Meets (Builtin.«str.__eq__» ⟨[.str b u, .ref l], []⟩) (fun _ R s => s.heap.get? l = some (dob dd es n sl) ∧ R (.ok (.ret .notImplemented)) s) :=
  .of_wp fun prog w A R s h => by (obtain ⟨hp, g, d, tk, os⟩ := s; obtain ⟨hl, h⟩ := h; wp_walk using wpAny_loadPart' hl, wpAny_load hl; exact ⟨_, rfl, h⟩)
end
section
variable {A : Around} {s : Shared} {l k : Addr} {od : Obj}
/-- two objects that are not the same, where not both are tuples -/
theorem same_refs {M : Model} {E : Value → Shared → Prop} {x y : Addr} {ox oy : Obj} {R : Bool → Shared → Prop} (hxy : x ≠ y) (hx : s.heap.get? x = some ox) (hy : s.heap.get? y = some oy) (hnt : ox.cls ≠ .type "tuple" ∨ oy.cls ≠ .type "tuple") (h : R false s) : wpAny M A (isSame (.ref x) (.ref y)) R E s := by
  show wpAny M A (if (x == y) = true then pure true else _) R E s
  rw [if_neg (by simpa using hxy)]
  refine wpAny_bind (wpAny_load hx (wpAny_bind (wpAny_load hy ?_)))
  split
  · rename_i h1 h2 _ _
    rcases hnt with z | z
    · first | exact absurd h1 z | exact absurd h2 z
    · first | exact absurd h2 z | exact absurd h1 z
  · exact wpAny_pure h
/-- an exact dict lies at l -/
def IsD (s : Shared) (l : Addr) : Prop := ∃ dd es n sl, s.heap.get? l = some (dob dd es n sl)
theorem EqAt.of_rcL {b : Value} {q : Bool} (hne : (Value.ref l) ≠ b) (h : RcAt A s (.ref l) b q) : EqAt A s (.ref l) b q := fun prog w E Q hq => by
  unfold eqBool
  exact wpAny_holding (wpAny_ite_split (fun hab => absurd (eq_of_beq hab) hne) fun _ => wpAny_bind (h prog w E _ (wpAny_truthy_bool hq)))
theorem EqAt.of_rcR {a : Value} {q : Bool} (hf : ∀ x t, a ≠ .float x t) (hne : a ≠ .ref l) (h : RcAt A s a (.ref l) q) : EqAt A s a (.ref l) q := fun prog w E Q hq => by
  unfold eqBool
  cases a with
  | float x t => exact absurd rfl (hf x t)
  | _ => exact wpAny_holding (wpAny_ite_split (fun hab => absurd (eq_of_beq hab) hne) fun _ => wpAny_bind (h prog w E _ (wpAny_truthy_bool hq)))
theorem r_d_none (hl : IsD s l) (hu : A.units < cLine) : RcAt A s (.ref l) (.none) false := by
  obtain ⟨dd, es, n, sl, ho⟩ := hl
  exact fun prog w E Q h => rc_eq_decline_or (k := false) ⟨_, ho, rfl⟩ rfl (by decide) F.sub_NoneType_dict F.slot_dict_eq F.slot_NoneType_eq_refl (fun _ hq => call_meets F.slot_dict_eq ⟨_, ho, rfl⟩ F.entry_dict_eq (F.args_dict_eq_2 _ _) (d_none l es n dd sl) ⟨ho, hq⟩) (fun _ hq => call_gives F.slot_NoneType_eq_refl rfl F.entry_NoneType_eq (F.args_NoneType_eq_2 _ _) (NoneType___eq___none_ref_0 l) hq) (fun _ hq => wpAny_of_eq (rfl : isSame (.ref l) (.none) = pure false) hq) (.inr hu) h
theorem e_d_none (hl : IsD s l) (hu : A.units < cLine) : EqAt A s (.ref l) (.none) false := EqAt.of_rcL nofun (r_d_none hl hu)
theorem r_none_d (hl : IsD s l) (hu : A.units < cLine) : RcAt A s (.none) (.ref l) false := by
  obtain ⟨dd, es, n, sl, ho⟩ := hl
  exact fun prog w E Q h => rc_eq_decline_or (k := false) rfl ⟨_, ho, rfl⟩ (by decide) F.sub_dict_NoneType F.slot_NoneType_eq F.slot_dict_eq_refl (fun _ hq => call_gives F.slot_NoneType_eq rfl F.entry_NoneType_eq (F.args_NoneType_eq_2 _ _) (NoneType___eq___none_ref_0 l) hq) (fun _ hq => call_meets F.slot_dict_eq_refl ⟨_, ho, rfl⟩ F.entry_dict_eq (F.args_dict_eq_2 _ _) (d_none l es n dd sl) ⟨ho, hq⟩) (fun _ hq => wpAny_of_eq (rfl : isSame (.none) (.ref l) = pure false) hq) (.inr hu) h
theorem e_none_d (hl : IsD s l) (hu : A.units < cLine) : EqAt A s (.none) (.ref l) false := EqAt.of_rcR nofun nofun (r_none_d hl hu)
theorem r_d_bool (b : Bool) (hl : IsD s l) (hu : A.units < cLine) : RcAt A s (.ref l) (.bool b) false := by
  obtain ⟨dd, es, n, sl, ho⟩ := hl
  exact fun prog w E Q h => rc_eq_decline_or (k := false) ⟨_, ho, rfl⟩ rfl (by decide) F.sub_bool_dict F.slot_dict_eq F.slot_bool_eq_refl (fun _ hq => call_meets F.slot_dict_eq ⟨_, ho, rfl⟩ F.entry_dict_eq (F.args_dict_eq_2 _ _) (d_bool l es n dd sl b) ⟨ho, hq⟩) (fun _ hq => call_meets F.slot_bool_eq_refl rfl F.entry_int_eq (F.args_int_eq_2 _ _) (bool_d l es n dd sl b) ⟨ho, hq⟩) (fun _ hq => wpAny_of_eq (rfl : isSame (.ref l) (.bool b) = pure false) hq) (.inr hu) h
theorem e_d_bool (b : Bool) (hl : IsD s l) (hu : A.units < cLine) : EqAt A s (.ref l) (.bool b) false := EqAt.of_rcL nofun (r_d_bool b hl hu)
theorem r_bool_d (b : Bool) (hl : IsD s l) (hu : A.units < cLine) : RcAt A s (.bool b) (.ref l) false := by
  obtain ⟨dd, es, n, sl, ho⟩ := hl
  exact fun prog w E Q h => rc_eq_decline_or (k := false) rfl ⟨_, ho, rfl⟩ (by decide) F.sub_dict_bool F.slot_bool_eq F.slot_dict_eq_refl (fun _ hq => call_meets F.slot_bool_eq rfl F.entry_int_eq (F.args_int_eq_2 _ _) (bool_d l es n dd sl b) ⟨ho, hq⟩) (fun _ hq => call_meets F.slot_dict_eq_refl ⟨_, ho, rfl⟩ F.entry_dict_eq (F.args_dict_eq_2 _ _) (d_bool l es n dd sl b) ⟨ho, hq⟩) (fun _ hq => wpAny_of_eq (rfl : isSame (.bool b) (.ref l) = pure false) hq) (.inr hu) h
theorem e_bool_d (b : Bool) (hl : IsD s l) (hu : A.units < cLine) : EqAt A s (.bool b) (.ref l) false := EqAt.of_rcR nofun nofun (r_bool_d b hl hu)
theorem r_d_int (b : Int) (u : Tok) (hl : IsD s l) (hu : A.units < cLine) : RcAt A s (.ref l) (.int b u) false := by
  obtain ⟨dd, es, n, sl, ho⟩ := hl
  exact fun prog w E Q h => rc_eq_decline_or (k := false) ⟨_, ho, rfl⟩ rfl (by decide) F.sub_int_dict F.slot_dict_eq F.slot_int_eq_refl (fun _ hq => call_meets F.slot_dict_eq ⟨_, ho, rfl⟩ F.entry_dict_eq (F.args_dict_eq_2 _ _) (d_int l es n dd sl b u) ⟨ho, hq⟩) (fun _ hq => call_meets F.slot_int_eq_refl rfl F.entry_int_eq (F.args_int_eq_2 _ _) (int_d l es n dd sl b u) ⟨ho, hq⟩) (fun _ hq => wpAny_of_eq (rfl : isSame (.ref l) (.int b u) = pure false) hq) (.inr hu) h
theorem e_d_int (b : Int) (u : Tok) (hl : IsD s l) (hu : A.units < cLine) : EqAt A s (.ref l) (.int b u) false := EqAt.of_rcL nofun (r_d_int b u hl hu)
theorem r_int_d (b : Int) (u : Tok) (hl : IsD s l) (hu : A.units < cLine) : RcAt A s (.int b u) (.ref l) false := by
  obtain ⟨dd, es, n, sl, ho⟩ := hl
  exact fun prog w E Q h => rc_eq_decline_or (k := false) rfl ⟨_, ho, rfl⟩ (by decide) F.sub_dict_int F.slot_int_eq F.slot_dict_eq_refl (fun _ hq => call_meets F.slot_int_eq rfl F.entry_int_eq (F.args_int_eq_2 _ _) (int_d l es n dd sl b u) ⟨ho, hq⟩) (fun _ hq => call_meets F.slot_dict_eq_refl ⟨_, ho, rfl⟩ F.entry_dict_eq (F.args_dict_eq_2 _ _) (d_int l es n dd sl b u) ⟨ho, hq⟩) (fun _ hq => wpAny_of_eq (rfl : isSame (.int b u) (.ref l) = pure false) hq) (.inr hu) h
theorem e_int_d (b : Int) (u : Tok) (hl : IsD s l) (hu : A.units < cLine) : EqAt A s (.int b u) (.ref l) false := EqAt.of_rcR nofun nofun (r_int_d b u hl hu)
theorem r_d_str (b : Str) (u : Tok) (hl : IsD s l) (hu : A.units < cLine) : RcAt A s (.ref l) (.str b u) false := by
  obtain ⟨dd, es, n, sl, ho⟩ := hl
  exact fun prog w E Q h => rc_eq_decline_or (k := false) ⟨_, ho, rfl⟩ (typeIs_str s b u) (by decide) F.sub_str_dict F.slot_dict_eq F.slot_str_eq_refl (fun _ hq => call_meets F.slot_dict_eq ⟨_, ho, rfl⟩ F.entry_dict_eq (F.args_dict_eq_2 _ _) (d_str l es n dd sl b u) ⟨ho, hq⟩) (fun _ hq => call_meets F.slot_str_eq_refl (typeIs_str s b u) F.entry_str_eq (F.args_str_eq_2 _ _) (str_d l es n dd sl b u) ⟨ho, hq⟩) (fun _ hq => wpAny_of_eq (rfl : isSame (.ref l) (.str b u) = pure false) hq) (.inr hu) h
theorem e_d_str (b : Str) (u : Tok) (hl : IsD s l) (hu : A.units < cLine) : EqAt A s (.ref l) (.str b u) false := EqAt.of_rcL nofun (r_d_str b u hl hu)
theorem r_str_d (b : Str) (u : Tok) (hl : IsD s l) (hu : A.units < cLine) : RcAt A s (.str b u) (.ref l) false := by
  obtain ⟨dd, es, n, sl, ho⟩ := hl
  exact fun prog w E Q h => rc_eq_decline_or (k := false) (typeIs_str s b u) ⟨_, ho, rfl⟩ (by decide) F.sub_dict_str F.slot_str_eq F.slot_dict_eq_refl (fun _ hq => call_meets F.slot_str_eq (typeIs_str s b u) F.entry_str_eq (F.args_str_eq_2 _ _) (str_d l es n dd sl b u) ⟨ho, hq⟩) (fun _ hq => call_meets F.slot_dict_eq_refl ⟨_, ho, rfl⟩ F.entry_dict_eq (F.args_dict_eq_2 _ _) (d_str l es n dd sl b u) ⟨ho, hq⟩) (fun _ hq => wpAny_of_eq (rfl : isSame (.str b u) (.ref l) = pure false) hq) (.inr hu) h
theorem e_str_d (b : Str) (u : Tok) (hl : IsD s l) (hu : A.units < cLine) : EqAt A s (.str b u) (.ref l) false := EqAt.of_rcR nofun nofun (r_str_d b u hl hu)
theorem r_d_list {items : Array Value} (hl : IsD s l) (hk : s.heap.IsList k items) (hu : A.units < cLine) : RcAt A s (.ref l) (.ref k) false := by
  obtain ⟨dd, es, n, sl, ho⟩ := hl
  obtain ⟨⟨c2, dk, data2, sk⟩, ho2, hc2, m, hd2⟩ := id hk
  simp only at hc2 hd2
  subst hc2 hd2
  have hne : l ≠ k := fun z => by rw [z, ho2] at ho; injection ho with ho; injection ho with ho; injection ho with ho; exact absurd ho (by decide)
  exact fun prog w E Q h => rc_eq_decline_or (k := false) ⟨_, ho, rfl⟩ ⟨_, ho2, rfl⟩ (by decide) F.sub_list_dict F.slot_dict_eq F.slot_list_eq_refl (fun _ hq => call_meets F.slot_dict_eq ⟨_, ho, rfl⟩ F.entry_dict_eq (F.args_dict_eq_2 _ _) (d_list l k es n m dd dk sl sk items) ⟨ho, ho2, hq⟩) (fun _ hq => call_meets F.slot_list_eq_refl ⟨_, ho2, rfl⟩ F.entry_list_eq (F.args_list_eq_2 _ _) (list_d l k es n m dd dk sl sk items) ⟨ho2, ho, hq⟩) (fun _ hq => same_refs hne ho ho2 (.inl (by show Value.type "dict" ≠ Value.type "tuple"; decide)) hq) (.inr hu) h
theorem e_d_list {items : Array Value} (hl : IsD s l) (hk : s.heap.IsList k items) (hu : A.units < cLine) : EqAt A s (.ref l) (.ref k) false := by
  have z := r_d_list hl hk hu
  obtain ⟨dd, es, n, sl, ho⟩ := hl
  obtain ⟨⟨c2, dk, data2, sk⟩, ho2, hc2, m, hd2⟩ := id hk
  simp only at hc2 hd2
  subst hc2 hd2
  have hne : l ≠ k := fun z => by rw [z, ho2] at ho; injection ho with ho; injection ho with ho; injection ho with ho; exact absurd ho (by decide)
  exact EqAt.of_refs hne z
theorem r_list_d {items : Array Value} (hl : IsD s l) (hk : s.heap.IsList k items) (hu : A.units < cLine) : RcAt A s (.ref k) (.ref l) false := by
  obtain ⟨dd, es, n, sl, ho⟩ := hl
  obtain ⟨⟨c2, dk, data2, sk⟩, ho2, hc2, m, hd2⟩ := id hk
  simp only at hc2 hd2
  subst hc2 hd2
  have hne : l ≠ k := fun z => by rw [z, ho2] at ho; injection ho with ho; injection ho with ho; injection ho with ho; exact absurd ho (by decide)
  exact fun prog w E Q h => rc_eq_decline_or (k := false) ⟨_, ho2, rfl⟩ ⟨_, ho, rfl⟩ (by decide) F.sub_dict_list F.slot_list_eq F.slot_dict_eq_refl (fun _ hq => call_meets F.slot_list_eq ⟨_, ho2, rfl⟩ F.entry_list_eq (F.args_list_eq_2 _ _) (list_d l k es n m dd dk sl sk items) ⟨ho2, ho, hq⟩) (fun _ hq => call_meets F.slot_dict_eq_refl ⟨_, ho, rfl⟩ F.entry_dict_eq (F.args_dict_eq_2 _ _) (d_list l k es n m dd dk sl sk items) ⟨ho, ho2, hq⟩) (fun _ hq => same_refs (Ne.symm hne) ho2 ho (.inr (by show Value.type "dict" ≠ Value.type "tuple"; decide)) hq) (.inr hu) h
theorem e_list_d {items : Array Value} (hl : IsD s l) (hk : s.heap.IsList k items) (hu : A.units < cLine) : EqAt A s (.ref k) (.ref l) false := by
  have z := r_list_d hl hk hu
  obtain ⟨dd, es, n, sl, ho⟩ := hl
  obtain ⟨⟨c2, dk, data2, sk⟩, ho2, hc2, m, hd2⟩ := id hk
  simp only at hc2 hd2
  subst hc2 hd2
  have hne : l ≠ k := fun z => by rw [z, ho2] at ho; injection ho with ho; injection ho with ho; injection ho with ho; exact absurd ho (by decide)
  exact EqAt.of_refs (Ne.symm hne) z
theorem r_d_tuple {items : Array Value} (hl : IsD s l) (hk : s.heap.IsTuple k items) (hu : A.units < cLine) : RcAt A s (.ref l) (.ref k) false := by
  obtain ⟨dd, es, n, sl, ho⟩ := hl
  obtain ⟨⟨c2, dk, data2, sk⟩, ho2, hc2, m, hd2⟩ := id hk
  simp only at hc2 hd2
  subst hc2 hd2
  have hne : l ≠ k := fun z => by rw [z, ho2] at ho; injection ho with ho; injection ho with ho; injection ho with ho; exact absurd ho (by decide)
  exact fun prog w E Q h => rc_eq_decline_or (k := false) ⟨_, ho, rfl⟩ ⟨_, ho2, rfl⟩ (by decide) F.sub_tuple_dict F.slot_dict_eq F.slot_tuple_eq_refl (fun _ hq => call_meets F.slot_dict_eq ⟨_, ho, rfl⟩ F.entry_dict_eq (F.args_dict_eq_2 _ _) (d_tuple l k es n m dd dk sl sk items) ⟨ho, ho2, hq⟩) (fun _ hq => call_meets F.slot_tuple_eq_refl ⟨_, ho2, rfl⟩ F.entry_tuple_eq (F.args_tuple_eq_2 _ _) (tuple_d l k es n m dd dk sl sk items) ⟨ho2, ho, hq⟩) (fun _ hq => same_refs hne ho ho2 (.inl (by show Value.type "dict" ≠ Value.type "tuple"; decide)) hq) (.inr hu) h
theorem e_d_tuple {items : Array Value} (hl : IsD s l) (hk : s.heap.IsTuple k items) (hu : A.units < cLine) : EqAt A s (.ref l) (.ref k) false := by
  have z := r_d_tuple hl hk hu
  obtain ⟨dd, es, n, sl, ho⟩ := hl
  obtain ⟨⟨c2, dk, data2, sk⟩, ho2, hc2, m, hd2⟩ := id hk
  simp only at hc2 hd2
  subst hc2 hd2
  have hne : l ≠ k := fun z => by rw [z, ho2] at ho; injection ho with ho; injection ho with ho; injection ho with ho; exact absurd ho (by decide)
  exact EqAt.of_refs hne z
theorem r_tuple_d {items : Array Value} (hl : IsD s l) (hk : s.heap.IsTuple k items) (hu : A.units < cLine) : RcAt A s (.ref k) (.ref l) false := by
  obtain ⟨dd, es, n, sl, ho⟩ := hl
  obtain ⟨⟨c2, dk, data2, sk⟩, ho2, hc2, m, hd2⟩ := id hk
  simp only at hc2 hd2
  subst hc2 hd2
  have hne : l ≠ k := fun z => by rw [z, ho2] at ho; injection ho with ho; injection ho with ho; injection ho with ho; exact absurd ho (by decide)
  exact fun prog w E Q h => rc_eq_decline_or (k := false) ⟨_, ho2, rfl⟩ ⟨_, ho, rfl⟩ (by decide) F.sub_dict_tuple F.slot_tuple_eq F.slot_dict_eq_refl (fun _ hq => call_meets F.slot_tuple_eq ⟨_, ho2, rfl⟩ F.entry_tuple_eq (F.args_tuple_eq_2 _ _) (tuple_d l k es n m dd dk sl sk items) ⟨ho2, ho, hq⟩) (fun _ hq => call_meets F.slot_dict_eq_refl ⟨_, ho, rfl⟩ F.entry_dict_eq (F.args_dict_eq_2 _ _) (d_tuple l k es n m dd dk sl sk items) ⟨ho, ho2, hq⟩) (fun _ hq => same_refs (Ne.symm hne) ho2 ho (.inr (by show Value.type "dict" ≠ Value.type "tuple"; decide)) hq) (.inr hu) h
theorem e_tuple_d {items : Array Value} (hl : IsD s l) (hk : s.heap.IsTuple k items) (hu : A.units < cLine) : EqAt A s (.ref k) (.ref l) false := by
  have z := r_tuple_d hl hk hu
  obtain ⟨dd, es, n, sl, ho⟩ := hl
  obtain ⟨⟨c2, dk, data2, sk⟩, ho2, hc2, m, hd2⟩ := id hk
  simp only at hc2 hd2
  subst hc2 hd2
  have hne : l ≠ k := fun z => by rw [z, ho2] at ho; injection ho with ho; injection ho with ho; injection ho with ho; exact absurd ho (by decide)
  exact EqAt.of_refs (Ne.symm hne) z
end
end DLQ
end PySem
set_option maxHeartbeats 2000000
/-! == of data with empty dicts in one side. -/
namespace PySem
namespace DLQ
open SeqAt MeetsSeq
mutual
def okX : PyData → Bool
  | .none | .bool _ | .int _ => true
  | .str x => PyData.strOk x
  | .list xs | .tuple xs => okXs xs
  | .dict [] => true
  | .dict _ => false
def okXs : List PyData → Bool
  | [] => true
  | x :: xs => okX x && okXs xs
end
theorem min_swap {u a b : Nat} (h : u + min a b < cLine) : u + min b a < cLine := by rw [Nat.min_comm]; exact h
theorem isD_of {s : Shared} {a : Addr} {o : Obj} {es : Array DictEntry} {n : Nat} (h1 : s.heap.get? a = some o) (h2 : o.cls = .type "dict") (h3 : o.data = .dict es n) : IsD s a := by
  obtain ⟨c, d, dt, sl⟩ := o
  dsimp only at h2 h3
  subst h2 h3
  exact ⟨d, es, n, sl, h1⟩
mutual
theorem eqX : ∀ (da db : PyData) (A : Around) (s : Shared) (a b : Value) (as bs : List Addr), Reads s.heap a da as → Reads s.heap b db bs → okX da = true → db.canLay0 = true → A.units + min da.depth db.depth < cLine → EqAt A s a b (PyData.eqv da db) ∧ EqAt A s b a (PyData.eqv db da)
  | .none, db, A, s, a, b, as, bs, ra, rb, _, hb, hu => ⟨eqAt_reads _ _ A s _ _ _ _ ra rb rfl hb hu, eqAt_reads _ _ A s _ _ _ _ rb ra hb rfl (min_swap hu)⟩
  | .bool x, db, A, s, a, b, as, bs, ra, rb, _, hb, hu => ⟨eqAt_reads _ _ A s _ _ _ _ ra rb rfl hb hu, eqAt_reads _ _ A s _ _ _ _ rb ra hb rfl (min_swap hu)⟩
  | .int x, db, A, s, a, b, as, bs, ra, rb, _, hb, hu => ⟨eqAt_reads _ _ A s _ _ _ _ ra rb rfl hb hu, eqAt_reads _ _ A s _ _ _ _ rb ra hb rfl (min_swap hu)⟩
  | .str x, db, A, s, a, b, as, bs, ra, rb, ha, hb, hu =>
    have hx : (PyData.str x).canLay0 = true := by simpa [okX, PyData.canLay0] using ha
    ⟨eqAt_reads _ _ A s _ _ _ _ ra rb hx hb hu, eqAt_reads _ _ A s _ _ _ _ rb ra hb hx (min_swap hu)⟩
  | .dict kvs, db, A, s, a, b, as, bs, ra, rb, ha, hb, hu => by
    have hr := room_here hu
    cases ra with
    | dict h1 h2 h3 h4 h5 =>
      have hd := isD_of h1 h2 h3
      cases rb with
      | none => exact ⟨e_d_none hd hr, e_none_d hd hr⟩
      | bool y => exact ⟨e_d_bool y hd hr, e_bool_d y hd hr⟩
      | int y u => exact ⟨e_d_int y u hd hr, e_int_d y u hd hr⟩
      | str y u => exact ⟨e_d_str y u hd hr, e_str_d y u hd hr⟩
      | list k1 k2 k3 k4 => exact ⟨e_d_list hd ⟨_, k1, k2, _, k3⟩ hr, e_list_d hd ⟨_, k1, k2, _, k3⟩ hr⟩
      | tuple k1 k2 k3 k4 => exact ⟨e_d_tuple hd ⟨_, k1, k2, _, k3⟩ hr, e_tuple_d hd ⟨_, k1, k2, _, k3⟩ hr⟩
      | dict => exact nomatch hb
  | .list xs, db, A, s, a, b, as, bs, ra, rb, ha, hb, hu => by
    by_cases hc : (PyData.list xs).canLay0 = true
    · exact ⟨eqAt_reads _ _ A s _ _ _ _ ra rb hc hb hu, eqAt_reads _ _ A s _ _ _ _ rb ra hb hc (min_swap hu)⟩
    have hr := room_here hu
    cases ra with
    | @list l o vs n _ as1 h1 h2 h3 h4 =>
      have hl : s.heap.IsList l vs := ⟨_, h1, h2, _, h3⟩
      cases rb with
      | none => exact ⟨EqAt.list_none hl hr, EqAt.none_list hl hr⟩
      | bool y => exact ⟨EqAt.list_bool y hl hr, EqAt.bool_list y hl hr⟩
      | int y u => exact ⟨EqAt.list_int y u hl hr, EqAt.int_list y u hl hr⟩
      | str y u => exact ⟨EqAt.list_str y u hl hr, EqAt.str_list y u hl hr⟩
      | tuple k1 k2 k3 k4 => exact ⟨EqAt.list_tuple hl ⟨_, k1, k2, _, k3⟩ hr, EqAt.tuple_list ⟨_, k1, k2, _, k3⟩ hl hr⟩
      | dict => exact nomatch hb
      | @list l' o' vs' n' ys bs1 k1 k2 k3 k4 =>
        have hl' : s.heap.IsList l' vs' := ⟨_, k1, k2, _, k3⟩
        have n1 : vs.size = xs.length := by simpa using ReadsAll.length _ _ _ h4
        have n2 : vs'.size = ys.length := by simpa using ReadsAll.length _ _ _ k4
        have hne : l ≠ l' := fun z => by
          subst z
          have e := SeqAt.Reads.unique (PyData.list ys) (PyData.list xs) _ _ _ hb (.list k1 k2 k3 k4) (.list h1 h2 h3 h4)
          rw [← e] at hc
          exact hc hb
        show EqAt A s (.ref l) (.ref l') (PyData.eqvAll xs ys) ∧ EqAt A s (.ref l') (.ref l) (PyData.eqvAll ys xs)
        by_cases hsz : vs.size = vs'.size
        · have it := eqXs xs ys A.in1 s vs.toList vs'.toList _ _ h4 k4 ha hb (room_in hu)
          rw [← eqvAll_same_length (by omega : xs.length = ys.length), ← eqvAll_same_length (by omega : ys.length = xs.length), ← n1, ← n2]
          exact ⟨EqAt.of_refs hne (RcAt.lists hl hl' hsz hr fun j j1 j2 => by
              have z := (it j (by simpa using j1) (by simpa using j2)).1
              simpa using z),
            EqAt.of_refs (Ne.symm hne) (RcAt.lists hl' hl hsz.symm hr fun j j1 j2 => by
              have z := (it j (by simpa using j2) (by simpa using j1)).2
              simpa using z)⟩
        · rw [eqvAll_other_length (by omega : xs.length ≠ ys.length), eqvAll_other_length (by omega : ys.length ≠ xs.length)]
          exact ⟨EqAt.of_refs hne (RcAt.lists_lengths hl hl' (by simpa using hsz) hr), EqAt.of_refs (Ne.symm hne) (RcAt.lists_lengths hl' hl (by simpa using Ne.symm hsz) hr)⟩
  | .tuple xs, db, A, s, a, b, as, bs, ra, rb, ha, hb, hu => by
    by_cases hc : (PyData.tuple xs).canLay0 = true
    · exact ⟨eqAt_reads _ _ A s _ _ _ _ ra rb hc hb hu, eqAt_reads _ _ A s _ _ _ _ rb ra hb hc (min_swap hu)⟩
    have hr := room_here hu
    cases ra with
    | @tuple l o vs n _ as1 h1 h2 h3 h4 =>
      have hl : s.heap.IsTuple l vs := ⟨_, h1, h2, _, h3⟩
      cases rb with
      | none => exact ⟨EqAt.tuple_none hl hr, EqAt.none_tuple hl hr⟩
      | bool y => exact ⟨EqAt.tuple_bool y hl hr, EqAt.bool_tuple y hl hr⟩
      | int y u => exact ⟨EqAt.tuple_int y u hl hr, EqAt.int_tuple y u hl hr⟩
      | str y u => exact ⟨EqAt.tuple_str y u hl hr, EqAt.str_tuple y u hl hr⟩
      | list k1 k2 k3 k4 => exact ⟨EqAt.tuple_list hl ⟨_, k1, k2, _, k3⟩ hr, EqAt.list_tuple ⟨_, k1, k2, _, k3⟩ hl hr⟩
      | dict => exact nomatch hb
      | @tuple l' o' vs' n' ys bs1 k1 k2 k3 k4 =>
        have hl' : s.heap.IsTuple l' vs' := ⟨_, k1, k2, _, k3⟩
        have n1 : vs.size = xs.length := by simpa using ReadsAll.length _ _ _ h4
        have n2 : vs'.size = ys.length := by simpa using ReadsAll.length _ _ _ k4
        have hne : l ≠ l' := fun z => by
          subst z
          have e := SeqAt.Reads.unique (PyData.tuple ys) (PyData.tuple xs) _ _ _ hb (.tuple k1 k2 k3 k4) (.tuple h1 h2 h3 h4)
          rw [← e] at hc
          exact hc hb
        show EqAt A s (.ref l) (.ref l') (PyData.eqvAll xs ys) ∧ EqAt A s (.ref l') (.ref l) (PyData.eqvAll ys xs)
        have it := eqXs xs ys A.in1 s vs.toList vs'.toList _ _ h4 k4 ha hb (room_in hu)
        rw [← eqvAll_eq xs ys, ← eqvAll_eq ys xs, ← n1, ← n2]
        exact ⟨EqAt.of_refs hne (RcAt.tuples hl hl' hr fun j j1 j2 => by
              have z := (it j (by simpa using j1) (by simpa using j2)).1
              simpa using z),
          EqAt.of_refs (Ne.symm hne) (RcAt.tuples hl' hl hr fun j j1 j2 => by
              have z := (it j (by simpa using j2) (by simpa using j1)).2
              simpa using z)⟩
theorem eqXs : ∀ (xs ys : List PyData) (A : Around) (s : Shared) (vs ws : List Value) (as bs : List Addr), ReadsAll s.heap vs xs as → ReadsAll s.heap ws ys bs → okXs xs = true → PyData.canLayAll0 ys = true → A.units + min (PyData.depthAll xs) (PyData.depthAll ys) < cLine →
    ∀ j (h1 : j < vs.length) (h2 : j < ws.length), EqAt A s vs[j] ws[j] (pairEq xs ys j) ∧ EqAt A s ws[j] vs[j] (pairEq ys xs j)
  | [], _, _, _, _, _, _, _, ra, _, _, _, _, j, h1, _ => by cases ra; exact absurd h1 (Nat.not_lt_zero _)
  | _ :: _, [], _, _, _, _, _, _, _, rb, _, _, _, j, _, h2 => by cases rb; exact absurd h2 (Nat.not_lt_zero _)
  | x :: xs, y :: ys, A, s, _, _, _, _, ra, rb, ha, hb, hu, j, h1, h2 => by
    have ha' : okX x = true ∧ okXs xs = true := by simpa [okXs] using ha
    have hb' : y.canLay0 = true ∧ PyData.canLayAll0 ys = true := by simpa [PyData.canLayAll0] using hb
    cases ra with
    | cons r rs =>
    cases rb with
    | cons r' rs' =>
    cases j with
    | zero => exact eqX x y A s _ _ _ _ r r' ha'.1 hb'.1 (room_head hu)
    | succ j => exact eqXs xs ys A s _ _ _ _ rs rs' ha'.2 hb'.2 (room_tail hu) j (Nat.lt_of_succ_lt_succ h1) (Nat.lt_of_succ_lt_succ h2)
end
end DLQ
end PySem
namespace DL
open PySem L2
/-! ### what is wanted of data functions, from the left -/
def WE (f : EvE) (S : Sg) (P : D → List Cell → Prop) : Prop := ∃ d μ', f S = some (d, μ') ∧ P d μ'
def WT (f : EvT) (S : Sg) (P : Bool → List Cell → Prop) : Prop := ∃ b μ', f S = some (b, μ') ∧ P b μ'
def WA (f : EvA) (S : Sg) (P : List D → List Cell → Prop) : Prop := ∃ ds μ', f S = some (ds, μ') ∧ P ds μ'
def WS (g : EvS) (S : Sg) (P : Fl → Sg → Prop) : Prop := ∃ fl S', g S = some (fl, S') ∧ P fl S'
def WB (b : Bd) (d : D) (S : Sg) (P : Sg → Prop) : Prop := ∃ S', b d S = some S' ∧ P S'
def WBs (b : Bds) (d : List D) (S : Sg) (P : Sg → Prop) : Prop := ∃ S', b d S = some S' ∧ P S'
def W2 (g : D → D → List Cell → Option D) (x y : D) (μ : List Cell) (P : D → Prop) : Prop := ∃ z, g x y μ = some z ∧ P z
def W1 (g : D → List Cell → Option D) (x : D) (μ : List Cell) (P : D → Prop) : Prop := ∃ z, g x μ = some z ∧ P z
def WL (g : List D → List Cell → Option D) (x : List D) (μ : List Cell) (P : D → Prop) : Prop := ∃ z, g x μ = some z ∧ P z
def WF (F : FnF) (ds : List D) (μ : List Cell) (P : D → List Cell → Prop) : Prop := ∃ d μ', F ds μ = some (.v d, μ') ∧ P d μ'
/-- .. of any end -/
def WFX (F : FnF) (ds : List D) (μ : List Cell) (P : Ov → List Cell → Prop) : Prop := ∃ o μ', F ds μ = some (o, μ') ∧ P o μ'
def WEX (f : EvX) (S : Sg) (P : Ov → List Cell → Prop) : Prop := ∃ o μ', f S = some (o, μ') ∧ P o μ'
def WI (f : EvI) (S : Sg) (P : List D → List Cell → Prop) : Prop := ∃ ds μ', f S = some (ds, μ') ∧ P ds μ'
def WTr (d : D) (μ : List Cell) (P : Bool → Prop) : Prop := ∃ b, dTru d μ = some b ∧ P b
section
variable {S : Sg} {P : D → List Cell → Prop} {Q : Bool → List Cell → Prop} {R : List D → List Cell → Prop} {U : Fl → Sg → Prop} {V : D → Prop} {B : Sg → Prop} {fa fb fc : EvE} {fs : EvA} {t u : EvT} {g g' : EvS} {b : Bd} {bs : Bds} {μ : List Cell} {ρ : List (Option D)} {d x y : D} {ds : List D} {i j k : Nat}
theorem W1.of {f : D → List Cell → Option D} {z : D} (e : f x μ = some z) (p : V z) : W1 f x μ V := ⟨z, e, p⟩
theorem WF.mono {F : FnF} {P' : D → List Cell → Prop} (h : WF F ds μ P) (q : ∀ d μ', P d μ' → P' d μ') : WF F ds μ P' := let ⟨d, μ', e, p⟩ := h; ⟨d, μ', e, q d μ' p⟩
theorem WS.mono {U' : Fl → Sg → Prop} (h : WS g S U) (q : ∀ d μ', U d μ' → U' d μ') : WS g S U' := let ⟨d, μ', e, p⟩ := h; ⟨d, μ', e, q d μ' p⟩
theorem we_V : WE (fV i) ⟨ρ, μ⟩ P ↔ ∃ d, ρ[i]? = some (some d) ∧ P d μ := by
  constructor
  · rintro ⟨d, μ', e, p⟩
    unfold fV at e
    split at e
    · rename_i d' he
      obtain ⟨rfl, rfl⟩ := pr_inj e
      exact ⟨d', he, p⟩
    · cases e
  · rintro ⟨d, e, p⟩
    have e' : (⟨ρ, μ⟩ : Sg).ρ[i]? = some (some d) := e
    exact ⟨d, μ, by unfold fV; rw [e'], p⟩
theorem we_C : WE (fC d) ⟨ρ, μ⟩ P ↔ P d μ := ⟨fun ⟨d', μ', e, p⟩ => by obtain ⟨rfl, rfl⟩ := pr_inj e; exact p, fun p => ⟨d, μ, rfl, p⟩⟩
theorem we_B {f : D → D → List Cell → Option D} : WE (fB f fa fb) ⟨ρ, μ⟩ P ↔ WE fa ⟨ρ, μ⟩ fun x μ1 => WE fb ⟨ρ, μ1⟩ fun y μ2 => W2 f x y μ2 fun z => P z μ2 := by
  constructor
  · rintro ⟨d, μ', e, p⟩
    obtain ⟨x, μ1, y, ea, eb, ez⟩ := fB_out e
    exact ⟨x, μ1, ea, y, μ', eb, d, ez, p⟩
  · rintro ⟨x, μ1, ea, y, μ2, eb, z, ez, p⟩
    exact ⟨z, μ2, by unfold fB; rw [ea]; simp only; rw [eb]; simp only; rw [ez], p⟩
theorem we_U {f : D → List Cell → Option D} : WE (fU f fa) ⟨ρ, μ⟩ P ↔ WE fa ⟨ρ, μ⟩ fun x μ1 => W1 f x μ1 fun z => P z μ1 := by
  constructor
  · rintro ⟨d, μ', e, p⟩
    obtain ⟨x, ea, ez⟩ := fU_out e
    exact ⟨x, μ', ea, d, ez, p⟩
  · rintro ⟨x, μ1, ea, z, ez, p⟩
    exact ⟨z, μ1, by unfold fU; rw [ea]; simp only; rw [ez], p⟩
theorem we_App {f : List D → List Cell → Option D} : WE (fApp f fs) ⟨ρ, μ⟩ P ↔ WA fs ⟨ρ, μ⟩ fun xs μ1 => WL f xs μ1 fun z => P z μ1 := by
  constructor
  · rintro ⟨d, μ', e, p⟩
    obtain ⟨x, ea, ez⟩ := fApp_out e
    exact ⟨x, μ', ea, d, ez, p⟩
  · rintro ⟨x, μ1, ea, z, ez, p⟩
    exact ⟨z, μ1, by unfold fApp; rw [ea]; simp only; rw [ez], p⟩
theorem wa_nil : WA fNil ⟨ρ, μ⟩ R ↔ R [] μ := ⟨fun ⟨d', μ', e, p⟩ => by obtain ⟨rfl, rfl⟩ := pr_inj e; exact p, fun p => ⟨[], μ, rfl, p⟩⟩
theorem wa_cons : WA (fCons fa fs) ⟨ρ, μ⟩ R ↔ WE fa ⟨ρ, μ⟩ fun x μ1 => WA fs ⟨ρ, μ1⟩ fun xs μ2 => R (x :: xs) μ2 := by
  constructor
  · rintro ⟨d, μ', e, p⟩
    unfold fCons at e
    split at e
    · rename_i x μ1 ea
      split at e
      · rename_i xs μ2 eb
        obtain ⟨rfl, rfl⟩ := pr_inj e
        exact ⟨x, μ1, ea, xs, μ2, eb, p⟩
      · cases e
    · cases e
  · rintro ⟨x, μ1, ea, xs, μ2, eb, p⟩
    exact ⟨x :: xs, μ2, by unfold fCons; rw [ea]; simp only; rw [eb], p⟩
theorem wl_1 {f : D → List Cell → Option D} : WL (g1 f) [x] μ V ↔ W1 f x μ V := Iff.rfl
theorem wl_2 {f : D → D → List Cell → Option D} : WL (g2 f) [x, y] μ V ↔ W2 f x y μ V := Iff.rfl
theorem wl_lst : WL gLst ds μ V ↔ ds.length ≤ sizeLine ∧ V (.lst ds) := by
  constructor
  · rintro ⟨z, e, p⟩
    unfold gLst at e
    split at e
    · rename_i h; cases e; exact ⟨h, p⟩
    · cases e
  · rintro ⟨h, p⟩
    exact ⟨_, by unfold gLst; rw [if_pos h], p⟩
theorem wl_tup : WL gTup ds μ V ↔ ds.length ≤ sizeLine ∧ V (.tup ds) := by
  constructor
  · rintro ⟨z, e, p⟩
    unfold gTup at e
    split at e
    · rename_i h; cases e; exact ⟨h, p⟩
    · cases e
  · rintro ⟨h, p⟩
    exact ⟨_, by unfold gTup; rw [if_pos h], p⟩
theorem we_newC : WE (fNewC fs) ⟨ρ, μ⟩ P ↔ WA fs ⟨ρ, μ⟩ fun xs μ1 => xs.length ≤ sizeLine ∧ P (.h μ1.length) (μ1 ++ [.lst xs]) := by
  constructor
  · rintro ⟨d, μ', e, p⟩
    unfold fNewC at e
    split at e
    · rename_i xs μ1 ea
      split at e
      · rename_i h
        obtain ⟨rfl, rfl⟩ := pr_inj e
        exact ⟨xs, μ1, ea, h, p⟩
      · cases e
    · cases e
  · rintro ⟨xs, μ1, ea, h, p⟩
    exact ⟨_, _, by unfold fNewC; rw [ea]; simp only; rw [if_pos h], p⟩
theorem we_call {F : FnF} : WE (fCall F fs) ⟨ρ, μ⟩ P ↔ WA fs ⟨ρ, μ⟩ fun ds μ1 => WF F ds μ1 P := by
  constructor
  · rintro ⟨d, μ', e, p⟩
    have e := fNox_out e
    unfold fCallX at e
    split at e
    · rename_i ds μ1 ea
      exact ⟨ds, μ1, ea, d, μ', e, p⟩
    · cases e
  · rintro ⟨ds, μ1, ea, d, μ', e, p⟩
    exact ⟨d, μ', by unfold fCall fNox fCallX; rw [ea]; simp only; rw [e], p⟩
theorem wx_call {F : FnF} {Y : Ov → List Cell → Prop} : WEX (fCallX F fs) ⟨ρ, μ⟩ Y ↔ WA fs ⟨ρ, μ⟩ fun ds μ1 => WFX F ds μ1 Y := by
  constructor
  · rintro ⟨d, μ', e, p⟩
    unfold fCallX at e
    split at e
    · rename_i ds μ1 ea
      exact ⟨ds, μ1, ea, d, μ', e, p⟩
    · cases e
  · rintro ⟨ds, μ1, ea, d, μ', e, p⟩
    exact ⟨d, μ', by unfold fCallX; rw [ea]; exact e, p⟩
theorem wf_x {F : FnF} : WF F ds μ P ↔ WFX F ds μ fun o μ' => match o with
    | .v d => P d μ'
    | .x _ _ => False := by
  constructor
  · rintro ⟨d, μ', e, p⟩
    exact ⟨.v d, μ', e, p⟩
  · rintro ⟨o, μ', e, p⟩
    cases o with
    | v d => exact ⟨d, μ', e, p⟩
    | x n q => exact p.elim
theorem we_nox {fx : EvX} : WE (fNox fx) S P ↔ WEX fx S fun o μ' => match o with
    | .v d => P d μ'
    | .x _ _ => False := by
  constructor
  · rintro ⟨d, μ', e, p⟩
    exact ⟨.v d, μ', fNox_out e, p⟩
  · rintro ⟨o, μ', e, p⟩
    cases o with
    | v d => exact ⟨d, μ', by unfold fNox; rw [e], p⟩
    | x n q => exact p.elim
theorem wa_len {n : Nat} : WA (fLen n fs) ⟨ρ, μ⟩ R ↔ WA fs ⟨ρ, μ⟩ fun ds μ1 => ds.length = n ∧ R ds μ1 := by
  constructor
  · rintro ⟨d, μ', e, p⟩
    unfold fLen at e
    split at e
    · rename_i ds μ1 ea
      split at e
      · rename_i h
        obtain ⟨rfl, rfl⟩ := pr_inj e
        exact ⟨ds, μ1, ea, h, p⟩
      · cases e
    · cases e
  · rintro ⟨ds, μ1, ea, h, p⟩
    exact ⟨_, _, by unfold fLen; rw [ea]; simp only; rw [if_pos h], p⟩
/-! tests -/
theorem wt_Tru : WT (fTru fa) ⟨ρ, μ⟩ Q ↔ WE fa ⟨ρ, μ⟩ fun x μ1 => WTr x μ1 fun k => Q k μ1 := by
  constructor
  · rintro ⟨d, μ', e, p⟩
    unfold fTru at e
    split at e
    · rename_i x μ1 ea
      split at e
      · rename_i k ek
        obtain ⟨rfl, rfl⟩ := pr_inj e
        exact ⟨x, μ1, ea, k, ek, p⟩
      · cases e
    · cases e
  · rintro ⟨x, μ1, ea, k, ek, p⟩
    exact ⟨k, μ1, by unfold fTru; rw [ea]; simp only; rw [ek], p⟩
theorem wt_Not : WT (fNot t) ⟨ρ, μ⟩ Q ↔ WT t ⟨ρ, μ⟩ fun k μ1 => Q (!k) μ1 := by
  constructor
  · rintro ⟨d, μ', e, p⟩
    unfold fNot at e
    split at e
    · rename_i k μ1 ea
      obtain ⟨rfl, rfl⟩ := pr_inj e
      exact ⟨k, μ1, ea, p⟩
    · cases e
  · rintro ⟨k, μ1, ea, p⟩
    exact ⟨!k, μ1, by unfold fNot; rw [ea], p⟩
theorem wt_And : WT (fAnd t u) ⟨ρ, μ⟩ Q ↔ WT t ⟨ρ, μ⟩ fun k μ1 => if k = true then WT u ⟨ρ, μ1⟩ Q else Q false μ1 := by
  constructor
  · rintro ⟨d, μ', e, p⟩
    unfold fAnd at e
    split at e
    · rename_i μ1 ea; exact ⟨true, μ1, ea, iteT ⟨d, μ', e, p⟩⟩
    · rename_i μ1 ea
      obtain ⟨rfl, rfl⟩ := pr_inj e
      exact ⟨false, μ1, ea, iteF p⟩
    · cases e
  · rintro ⟨k, μ1, ea, p⟩
    cases k with
    | true =>
      obtain ⟨d, μ', e, p⟩ := (if_pos rfl : (if true = true then WT u ⟨ρ, μ1⟩ Q else Q false μ1) = _) ▸ p
      exact ⟨d, μ', by unfold fAnd; rw [ea]; exact e, p⟩
    | false => exact ⟨false, μ1, by unfold fAnd; rw [ea], by simpa using p⟩
theorem wt_Or : WT (fOr t u) ⟨ρ, μ⟩ Q ↔ WT t ⟨ρ, μ⟩ fun k μ1 => if k = true then Q true μ1 else WT u ⟨ρ, μ1⟩ Q := by
  constructor
  · rintro ⟨d, μ', e, p⟩
    unfold fOr at e
    split at e
    · rename_i μ1 ea
      obtain ⟨rfl, rfl⟩ := pr_inj e
      exact ⟨true, μ1, ea, iteT p⟩
    · rename_i μ1 ea; exact ⟨false, μ1, ea, iteF ⟨d, μ', e, p⟩⟩
    · cases e
  · rintro ⟨k, μ1, ea, p⟩
    cases k with
    | true => exact ⟨true, μ1, by unfold fOr; rw [ea], by simpa using p⟩
    | false =>
      obtain ⟨d, μ', e, p⟩ := (if_neg Bool.false_ne_true : (if false = true then Q true μ1 else WT u ⟨ρ, μ1⟩ Q) = _) ▸ p
      exact ⟨d, μ', by unfold fOr; rw [ea]; exact e, p⟩
theorem wt_true : WT (fun S => some (true, S.μ)) ⟨ρ, μ⟩ Q ↔ Q true μ := ⟨fun ⟨d', μ', e, p⟩ => by obtain ⟨rfl, rfl⟩ := pr_inj e; exact p, fun p => ⟨true, μ, rfl, p⟩⟩
theorem we_AndV : WE (fAndV fa fb) ⟨ρ, μ⟩ P ↔ WE fa ⟨ρ, μ⟩ fun x μ1 => WTr x μ1 fun k => if k = true then WE fb ⟨ρ, μ1⟩ P else P x μ1 := by
  constructor
  · rintro ⟨d, μ', e, p⟩
    unfold fAndV at e
    split at e
    · rename_i x μ1 ea
      split at e
      · rename_i ek; exact ⟨x, μ1, ea, true, ek, iteT ⟨d, μ', e, p⟩⟩
      · rename_i ek
        obtain ⟨rfl, rfl⟩ := pr_inj e
        exact ⟨x, μ1, ea, false, ek, iteF p⟩
      · cases e
    · cases e
  · rintro ⟨x, μ1, ea, k, ek, p⟩
    cases k with
    | true =>
      obtain ⟨d, μ', e, p⟩ := (if_pos rfl : (if true = true then WE fb ⟨ρ, μ1⟩ P else P x μ1) = _) ▸ p
      exact ⟨d, μ', by unfold fAndV; rw [ea]; simp only; rw [ek]; exact e, p⟩
    | false => exact ⟨x, μ1, by unfold fAndV; rw [ea]; simp only; rw [ek], by simpa using p⟩
theorem we_OrV : WE (fOrV fa fb) ⟨ρ, μ⟩ P ↔ WE fa ⟨ρ, μ⟩ fun x μ1 => WTr x μ1 fun k => if k = true then P x μ1 else WE fb ⟨ρ, μ1⟩ P := by
  constructor
  · rintro ⟨d, μ', e, p⟩
    unfold fOrV at e
    split at e
    · rename_i x μ1 ea
      split at e
      · rename_i ek
        obtain ⟨rfl, rfl⟩ := pr_inj e
        exact ⟨x, μ1, ea, true, ek, iteT p⟩
      · rename_i ek; exact ⟨x, μ1, ea, false, ek, iteF ⟨d, μ', e, p⟩⟩
      · cases e
    · cases e
  · rintro ⟨x, μ1, ea, k, ek, p⟩
    cases k with
    | true => exact ⟨x, μ1, by unfold fOrV; rw [ea]; simp only; rw [ek], by simpa using p⟩
    | false =>
      obtain ⟨d, μ', e, p⟩ := (if_neg Bool.false_ne_true : (if false = true then P x μ1 else WE fb ⟨ρ, μ1⟩ P) = _) ▸ p
      exact ⟨d, μ', by unfold fOrV; rw [ea]; simp only; rw [ek]; exact e, p⟩
theorem we_IfE : WE (fIfE t fa fb) ⟨ρ, μ⟩ P ↔ WT t ⟨ρ, μ⟩ fun k μ1 => if k = true then WE fa ⟨ρ, μ1⟩ P else WE fb ⟨ρ, μ1⟩ P := by
  constructor
  · rintro ⟨d, μ', e, p⟩
    unfold fIfE at e
    split at e
    · rename_i μ1 ea; exact ⟨true, μ1, ea, iteT ⟨d, μ', e, p⟩⟩
    · rename_i μ1 ea; exact ⟨false, μ1, ea, iteF ⟨d, μ', e, p⟩⟩
    · cases e
  · rintro ⟨k, μ1, ea, p⟩
    cases k with
    | true =>
      obtain ⟨d, μ', e, p⟩ := (if_pos rfl : (if true = true then WE fa ⟨ρ, μ1⟩ P else WE fb ⟨ρ, μ1⟩ P) = _) ▸ p
      exact ⟨d, μ', by unfold fIfE; rw [ea]; exact e, p⟩
    | false =>
      obtain ⟨d, μ', e, p⟩ := (if_neg Bool.false_ne_true : (if false = true then WE fa ⟨ρ, μ1⟩ P else WE fb ⟨ρ, μ1⟩ P) = _) ▸ p
      exact ⟨d, μ', by unfold fIfE; rw [ea]; exact e, p⟩
theorem we_Ch {f f' : D → D → List Cell → Option D} : WE (fCh f f' fa fb fc) ⟨ρ, μ⟩ P ↔ WE fa ⟨ρ, μ⟩ fun x μ1 => WE fb ⟨ρ, μ1⟩ fun y μ2 => W2 f x y μ2 fun z => (z = .bl true ∧ WE fc ⟨ρ, μ2⟩ fun w μ3 => W2 f' y w μ3 fun z => P z μ3) ∨ (z = .bl false ∧ P (.bl false) μ2) := by
  constructor
  · rintro ⟨d, μ', e, p⟩
    unfold fCh at e
    split at e
    · rename_i x μ1 ea
      split at e
      · rename_i y μ2 eb
        split at e
        · rename_i ez
          split at e
          · rename_i w μ3 ec
            split at e
            · rename_i z ew
              obtain ⟨rfl, rfl⟩ := pr_inj e
              exact ⟨x, μ1, ea, y, μ2, eb, _, ez, .inl ⟨rfl, w, μ3, ec, z, ew, p⟩⟩
            · cases e
          · cases e
        · rename_i ez
          obtain ⟨rfl, rfl⟩ := pr_inj e
          exact ⟨x, μ1, ea, y, μ2, eb, _, ez, .inr ⟨rfl, p⟩⟩
        · cases e
      · cases e
    · cases e
  · rintro ⟨x, μ1, ea, y, μ2, eb, z, ez, h⟩
    rcases h with ⟨rfl, w, μ3, ec, z, ew, p⟩ | ⟨rfl, p⟩
    · exact ⟨z, μ3, by unfold fCh; rw [ea]; simp only; rw [eb]; simp only; rw [ez]; simp only; rw [ec]; simp only; rw [ew], p⟩
    · exact ⟨_, μ2, by unfold fCh; rw [ea]; simp only; rw [eb]; simp only; rw [ez], p⟩
/-! statements -/
theorem ws_then : WS (bThen b fa) ⟨ρ, μ⟩ U ↔ WE fa ⟨ρ, μ⟩ fun d μ1 => WB b d ⟨ρ, μ1⟩ fun S' => U .nx S' := by
  constructor
  · rintro ⟨fl, S', e, p⟩
    unfold bThen at e
    split at e
    · rename_i d μ1 ea
      split at e
      · rename_i S1 eb
        obtain ⟨rfl, rfl⟩ := pr_inj e
        exact ⟨d, μ1, ea, S1, eb, p⟩
      · cases e
    · cases e
  · rintro ⟨d, μ1, ea, S1, eb, p⟩
    exact ⟨.nx, S1, by unfold bThen; rw [ea]; simp only; rw [eb], p⟩
theorem wb_name : WB (bName i) d ⟨ρ, μ⟩ B ↔ i < ρ.length ∧ B ⟨ρ.set i (some d), μ⟩ := by
  constructor
  · rintro ⟨S', e, p⟩
    obtain ⟨h, rfl⟩ := bName_out e
    exact ⟨h, p⟩
  · rintro ⟨h, p⟩
    exact ⟨_, by unfold bName; rw [if_pos h], p⟩
theorem wb_sub : WB (bSub fa fb) d ⟨ρ, μ⟩ B ↔ WE fa ⟨ρ, μ⟩ fun o μ1 => WE fb ⟨ρ, μ1⟩ fun i μ2 => ∃ μ3, cSet o i d μ2 = some μ3 ∧ B ⟨ρ, μ3⟩ := by
  constructor
  · rintro ⟨S', e, p⟩
    unfold bSub at e
    split at e
    · rename_i o μ1 ea
      split at e
      · rename_i i μ2 eb
        split at e
        · rename_i μ3 ec
          cases Option.some.inj e
          exact ⟨o, μ1, ea, i, μ2, eb, μ3, ec, p⟩
        · cases e
      · cases e
    · cases e
  · rintro ⟨o, μ1, ea, i, μ2, eb, μ3, ec, p⟩
    exact ⟨_, by unfold bSub; rw [ea]; simp only; rw [eb]; simp only; rw [ec], p⟩
theorem cSet_iff {z : Int} {C : List Cell → Prop} : (∃ μ3, cSet (.h k) (.int z) d μ = some μ3 ∧ C μ3) ↔ ∃ xs n, μ[k]? = some (.lst xs) ∧ ixN xs.length z = some n ∧ C (μ.set k (.lst (xs.set n d))) := by
  constructor
  · rintro ⟨μ3, e, p⟩
    obtain ⟨k', j, xs, n, e1, e2, ex, en, rfl⟩ := cSet_out e
    cases e1
    cases e2
    exact ⟨xs, n, ex, en, p⟩
  · rintro ⟨xs, n, ex, en, p⟩
    exact ⟨_, by unfold cSet; simp only; rw [ex]; simp only; rw [en], p⟩
theorem wb_tup {n : Nat} : WB (bTup n bs) (.tup ds) ⟨ρ, μ⟩ B ↔ ds.length = n ∧ WBs bs ds ⟨ρ, μ⟩ B := by
  constructor
  · rintro ⟨S', e, p⟩
    unfold bTup at e
    simp only at e
    split at e
    · rename_i h; exact ⟨h, S', e, p⟩
    · cases e
  · rintro ⟨h, S', e, p⟩
    exact ⟨S', by unfold bTup; simp only; rw [if_pos h]; exact e, p⟩
theorem wbs_nil : WBs bsNil [] ⟨ρ, μ⟩ B ↔ B ⟨ρ, μ⟩ := ⟨fun ⟨S', e, p⟩ => by cases Option.some.inj e; exact p, fun p => ⟨_, rfl, p⟩⟩
theorem wbs_cons : WBs (bsCons b bs) (d :: ds) S B ↔ WB b d S fun S1 => WBs bs ds S1 B := by
  constructor
  · rintro ⟨S', e, p⟩
    unfold bsCons at e
    simp only at e
    split at e
    · rename_i S1 e1; exact ⟨S1, e1, S', e, p⟩
    · cases e
  · rintro ⟨S1, e1, S', e, p⟩
    exact ⟨S', by unfold bsCons; simp only; rw [e1]; exact e, p⟩
theorem ws_drop : WS (sDrop fa) ⟨ρ, μ⟩ U ↔ WE fa ⟨ρ, μ⟩ fun _ μ1 => U .nx ⟨ρ, μ1⟩ := by
  constructor
  · rintro ⟨fl, S', e, p⟩
    unfold sDrop at e
    split at e
    · rename_i d μ1 ea
      obtain ⟨rfl, rfl⟩ := pr_inj e
      exact ⟨d, μ1, ea, p⟩
    · cases e
  · rintro ⟨d, μ1, ea, p⟩
    exact ⟨_, _, by unfold sDrop; rw [ea], p⟩
theorem ws_nx : WS sNx S U ↔ U .nx S := ⟨fun ⟨fl, S', e, p⟩ => by obtain ⟨rfl, rfl⟩ := pr_inj e; exact p, fun p => ⟨_, _, rfl, p⟩⟩
theorem ws_bk : WS sBk S U ↔ U .bk S := ⟨fun ⟨fl, S', e, p⟩ => by obtain ⟨rfl, rfl⟩ := pr_inj e; exact p, fun p => ⟨_, _, rfl, p⟩⟩
theorem ws_ct : WS sCt S U ↔ U .ct S := ⟨fun ⟨fl, S', e, p⟩ => by obtain ⟨rfl, rfl⟩ := pr_inj e; exact p, fun p => ⟨_, _, rfl, p⟩⟩
theorem ws_ret : WS (sRet fa) ⟨ρ, μ⟩ U ↔ WE fa ⟨ρ, μ⟩ fun d μ1 => U (.rt d) ⟨ρ, μ1⟩ := by
  constructor
  · rintro ⟨fl, S', e, p⟩
    unfold sRet at e
    split at e
    · rename_i d μ1 ea
      obtain ⟨rfl, rfl⟩ := pr_inj e
      exact ⟨d, μ1, ea, p⟩
    · cases e
  · rintro ⟨d, μ1, ea, p⟩
    exact ⟨_, _, by unfold sRet; rw [ea], p⟩
def Ox (U : Fl → Sg → Prop) (k : D → List Cell → Prop) (ρ : List (Option D)) (o : Ov) (μ' : List Cell) : Prop := match o with
  | .v d => k d μ'
  | .x n p => U (.ex n p) ⟨ρ, μ'⟩
theorem Ox_v {k : D → List Cell → Prop} : Ox U k ρ (.v d) μ ↔ k d μ := Iff.rfl
theorem Ox_x {k : D → List Cell → Prop} {n : Str} {p : Option D} : Ox U k ρ (.x n p) μ ↔ U (.ex n p) ⟨ρ, μ⟩ := Iff.rfl
theorem ws_retX {fx : EvX} : WS (sRetX fx) ⟨ρ, μ⟩ U ↔ WEX fx ⟨ρ, μ⟩ (Ox U (fun d μ1 => U (.rt d) ⟨ρ, μ1⟩) ρ) := by
  constructor
  · rintro ⟨fl, S', e, p⟩
    unfold sRetX at e
    split at e
    · rename_i d μ1 ea
      obtain ⟨rfl, rfl⟩ := pr_inj e
      exact ⟨_, _, ea, p⟩
    · rename_i n q μ1 ea
      obtain ⟨rfl, rfl⟩ := pr_inj e
      exact ⟨_, _, ea, p⟩
    · cases e
  · rintro ⟨o, μ1, ea, p⟩
    cases o with
    | v d => exact ⟨_, _, by unfold sRetX; rw [ea], p⟩
    | x n q => exact ⟨_, _, by unfold sRetX; rw [ea], p⟩
theorem ws_dropX {fx : EvX} : WS (sDropX fx) ⟨ρ, μ⟩ U ↔ WEX fx ⟨ρ, μ⟩ (Ox U (fun _ μ1 => U .nx ⟨ρ, μ1⟩) ρ) := by
  constructor
  · rintro ⟨fl, S', e, p⟩
    unfold sDropX at e
    split at e
    · rename_i d μ1 ea
      obtain ⟨rfl, rfl⟩ := pr_inj e
      exact ⟨_, _, ea, p⟩
    · rename_i n q μ1 ea
      obtain ⟨rfl, rfl⟩ := pr_inj e
      exact ⟨_, _, ea, p⟩
    · cases e
  · rintro ⟨o, μ1, ea, p⟩
    cases o with
    | v d => exact ⟨_, _, by unfold sDropX; rw [ea], p⟩
    | x n q => exact ⟨_, _, by unfold sDropX; rw [ea], p⟩
theorem ws_thenX {fx : EvX} : WS (bThenX b fx) ⟨ρ, μ⟩ U ↔ WEX fx ⟨ρ, μ⟩ (Ox U (fun d μ1 => WB b d ⟨ρ, μ1⟩ fun S' => U .nx S') ρ) := by
  constructor
  · rintro ⟨fl, S', e, p⟩
    unfold bThenX at e
    split at e
    · rename_i d μ1 ea
      split at e
      · rename_i S1 eb
        obtain ⟨rfl, rfl⟩ := pr_inj e
        exact ⟨_, _, ea, _, eb, p⟩
      · cases e
    · rename_i n q μ1 ea
      obtain ⟨rfl, rfl⟩ := pr_inj e
      exact ⟨_, _, ea, p⟩
    · cases e
  · rintro ⟨o, μ1, ea, p⟩
    cases o with
    | v d =>
      obtain ⟨S1, eb, p⟩ := p
      exact ⟨_, _, by unfold bThenX; rw [ea]; simp only; rw [eb], p⟩
    | x n q => exact ⟨_, _, by unfold bThenX; rw [ea], p⟩
theorem ws_raise {n : Str} : WS (sRaise n) S U ↔ U (.ex n none) S := ⟨fun ⟨fl, S', e, p⟩ => by obtain ⟨rfl, rfl⟩ := pr_inj e; exact p, fun p => ⟨_, _, rfl, p⟩⟩
theorem ws_try {h : Str → Option Bool} {gs : EvS} (p : WS g S fun fl S1 => match fl with
    | .ex n x => (h n = some true ∧ WS gs S1 fun fl' S' => (∀ n p, fl' ≠ .ex n p) ∧ U fl' S') ∨ (h n = some false ∧ U (.ex n x) S1)
    | fl => U fl S1) : WS (sTry h g gs) S U := by
  obtain ⟨fl, S1, e, q⟩ := p
  cases fl with
  | ex n x =>
    rcases q with ⟨eh, fl', S', e', hn, u⟩ | ⟨eh, u⟩
    · refine ⟨fl', S', ?_, u⟩
      unfold sTry
      rw [e]
      simp only
      rw [eh]
      simp only
      rw [e']
      cases fl' with
      | ex n p => exact (hn n p rfl).elim
      | _ => rfl
    · refine ⟨_, _, ?_, u⟩
      unfold sTry
      rw [e]
      simp only
      rw [eh]
  | _ => exact ⟨_, _, by unfold sTry; rw [e], q⟩
theorem ws_if : WS (sIf t g g') ⟨ρ, μ⟩ U ↔ WT t ⟨ρ, μ⟩ fun k μ1 => if k = true then WS g ⟨ρ, μ1⟩ U else WS g' ⟨ρ, μ1⟩ U := by
  constructor
  · rintro ⟨fl, S', e, p⟩
    unfold sIf at e
    split at e
    · rename_i μ1 ea; exact ⟨true, μ1, ea, iteT ⟨fl, S', e, p⟩⟩
    · rename_i μ1 ea; exact ⟨false, μ1, ea, iteF ⟨fl, S', e, p⟩⟩
    · cases e
  · rintro ⟨k, μ1, ea, p⟩
    cases k with
    | true =>
      obtain ⟨d, μ', e, p⟩ := (if_pos rfl : (if true = true then WS g ⟨ρ, μ1⟩ U else WS g' ⟨ρ, μ1⟩ U) = _) ▸ p
      exact ⟨d, μ', by unfold sIf; rw [ea]; exact e, p⟩
    | false =>
      obtain ⟨d, μ', e, p⟩ := (if_neg Bool.false_ne_true : (if false = true then WS g ⟨ρ, μ1⟩ U else WS g' ⟨ρ, μ1⟩ U) = _) ▸ p
      exact ⟨d, μ', by unfold sIf; rw [ea]; exact e, p⟩
/-- what is wanted behind the first of two -/
def Nx (U : Fl → Sg → Prop) (g' : EvS) (fl : Fl) (S1 : Sg) : Prop := match fl with
  | .nx => WS g' S1 U
  | fl => U fl S1
theorem ws_seq : WS (sSeq g g') S U ↔ WS g S (Nx U g') := by
  constructor
  · rintro ⟨fl, S', e, p⟩
    unfold sSeq at e
    split at e
    · rename_i S1 e1
      exact ⟨.nx, S1, e1, fl, S', e, p⟩
    · rename_i hn
      refine ⟨fl, S', e, ?_⟩
      cases fl with
      | nx => exact (hn S' e).elim
      | _ => exact p
  · rintro ⟨fl, S1, e1, h⟩
    cases fl with
    | nx =>
      obtain ⟨fl', S', e, p⟩ := h
      exact ⟨fl', S', by unfold sSeq; rw [e1]; exact e, p⟩
    | _ => exact ⟨_, S1, by unfold sSeq; rw [e1], h⟩
theorem Nx_nx : Nx U g' .nx S ↔ WS g' S U := Iff.rfl
theorem Nx_rt : Nx U g' (.rt d) S ↔ U (.rt d) S := Iff.rfl
theorem Nx_bk : Nx U g' .bk S ↔ U .bk S := Iff.rfl
theorem Nx_ct : Nx U g' .ct S ↔ U .ct S := Iff.rfl
theorem Nx_ex {n : Str} {p : Option D} : Nx U g' (.ex n p) S ↔ U (.ex n p) S := Iff.rfl
/-- a def's end -/
def Fe (P : D → List Cell → Prop) (fl : Fl) (S' : Sg) : Prop := match fl with
  | .rt d => P d S'.μ
  | .nx => P .non S'.μ
  | _ => False
theorem wf_fn {n N : Nat} : WF (fnF n N g) ds μ P ↔ WS g ⟨ds.map some ++ List.replicate (N - n) none, μ⟩ (Fe P) := by
  constructor
  · rintro ⟨d, μ', e, p⟩
    unfold fnF at e
    split at e
    · rename_i d S' e1
      obtain ⟨e0, rfl⟩ := pr_inj e
      cases e0
      exact ⟨_, S', e1, p⟩
    · rename_i S' e1
      obtain ⟨e0, rfl⟩ := pr_inj e
      cases e0
      exact ⟨_, S', e1, p⟩
    · cases (pr_inj e).1
    · cases e
  · rintro ⟨fl, S', e1, h⟩
    cases fl with
    | rt d => exact ⟨d, S'.μ, by unfold fnF; rw [e1], h⟩
    | nx => exact ⟨.non, S'.μ, by unfold fnF; rw [e1], h⟩
    | _ => exact h.elim
/-- .. of any end -/
def FeX (Y : Ov → List Cell → Prop) (fl : Fl) (S' : Sg) : Prop := match fl with
  | .rt d => Y (.v d) S'.μ
  | .nx => Y (.v .non) S'.μ
  | .ex n p => Y (.x n p) S'.μ
  | _ => False
theorem wfx_fn {n N : Nat} {Y : Ov → List Cell → Prop} : WFX (fnF n N g) ds μ Y ↔ WS g ⟨ds.map some ++ List.replicate (N - n) none, μ⟩ (FeX Y) := by
  constructor
  · rintro ⟨d, μ', e, p⟩
    unfold fnF at e
    split at e
    · rename_i d S' e1
      obtain ⟨rfl, rfl⟩ := pr_inj e
      exact ⟨_, S', e1, p⟩
    · rename_i S' e1
      obtain ⟨rfl, rfl⟩ := pr_inj e
      exact ⟨_, S', e1, p⟩
    · rename_i n2 p2 S' e1
      obtain ⟨rfl, rfl⟩ := pr_inj e
      exact ⟨_, S', e1, p⟩
    · cases e
  · rintro ⟨fl, S', e1, h⟩
    cases fl with
    | rt d => exact ⟨.v d, S'.μ, by unfold fnF; rw [e1], h⟩
    | nx => exact ⟨.v .non, S'.μ, by unfold fnF; rw [e1], h⟩
    | ex n p => exact ⟨.x n p, S'.μ, by unfold fnF; rw [e1], h⟩
    | _ => exact h.elim
theorem FeX_rt {Y : Ov → List Cell → Prop} : FeX Y (.rt d) ⟨ρ, μ⟩ ↔ Y (.v d) μ := Iff.rfl
theorem FeX_nx {Y : Ov → List Cell → Prop} : FeX Y .nx ⟨ρ, μ⟩ ↔ Y (.v .non) μ := Iff.rfl
theorem FeX_ex {Y : Ov → List Cell → Prop} {n : Str} {p : Option D} : FeX Y (.ex n p) ⟨ρ, μ⟩ ↔ Y (.x n p) μ := Iff.rfl
theorem Fe_rt : Fe P (.rt d) ⟨ρ, μ⟩ ↔ P d μ := Iff.rfl
theorem Fe_nx : Fe P .nx ⟨ρ, μ⟩ ↔ P .non μ := Iff.rfl
/-! loops -/
theorem wi_seq {gs : D → Option (List D)} : WI (itOf gs fa) ⟨ρ, μ⟩ R ↔ WE fa ⟨ρ, μ⟩ fun d μ1 => ∃ ds, gs d = some ds ∧ R ds μ1 := by
  constructor
  · rintro ⟨ds, μ', e, p⟩
    obtain ⟨d, ef, ed⟩ := itOf_out e
    exact ⟨d, μ', ef, ds, ed, p⟩
  · rintro ⟨d, μ', ef, ds, ed, p⟩
    exact ⟨ds, μ', by unfold itOf; rw [ef]; simp only; rw [ed], p⟩
theorem wi_rng1 : WI (gRng1 fs) ⟨ρ, μ⟩ R ↔ WA fs ⟨ρ, μ⟩ fun ds μ1 => ∃ j, ds = [.int j] ∧ -(2 ^ 62) ≤ j ∧ j < 2 ^ 62 ∧ R (rngD 0 j.toNat) μ1 := by
  constructor
  · rintro ⟨ds, μ', e, p⟩
    unfold gRng1 at e
    split at e
    · rename_i j μ1 ef
      split at e
      · rename_i hj
        obtain ⟨rfl, rfl⟩ := pr_inj e
        exact ⟨_, _, ef, j, rfl, hj.1, hj.2, p⟩
      · cases e
    · cases e
  · rintro ⟨ds, μ1, ef, j, rfl, h1, h2, p⟩
    exact ⟨_, _, by unfold gRng1; rw [ef]; simp only; rw [if_pos ⟨h1, h2⟩], p⟩
theorem ws_for {it : EvI} : WS (sFor it b g) ⟨ρ, μ⟩ U ↔ WI it ⟨ρ, μ⟩ fun ds μ1 => WS (forL b g ds) ⟨ρ, μ1⟩ U := by
  constructor
  · rintro ⟨fl, S', e, p⟩
    unfold sFor at e
    split at e
    · rename_i ds μ1 ei; exact ⟨ds, μ1, ei, fl, S', e, p⟩
    · cases e
  · rintro ⟨ds, μ1, ei, fl, S', e, p⟩
    exact ⟨fl, S', by unfold sFor; rw [ei]; exact e, p⟩
/-- what is wanted behind a turn -/
def Tn (U : Fl → Sg → Prop) (again : Sg → Prop) (fl : Fl) (S' : Sg) : Prop := match fl with
  | .nx => again S'
  | .ct => again S'
  | .bk => U .nx S'
  | .rt d => U (.rt d) S'
  | .ex n p => U (.ex n p) S'
theorem ws_forNil : WS (forL b g []) S U ↔ U .nx S := ws_nx
theorem ws_forCons : WS (forL b g (d :: ds)) S U ↔ WB b d S fun S1 => WS g S1 (Tn U fun S2 => WS (forL b g ds) S2 U) := by
  constructor
  · rintro ⟨fl, S', e, p⟩
    unfold forL at e
    split at e
    · rename_i S1 eb
      split at e
      · rename_i S2 eg; exact ⟨S1, eb, .nx, S2, eg, fl, S', e, p⟩
      · rename_i S2 eg; exact ⟨S1, eb, .ct, S2, eg, fl, S', e, p⟩
      · rename_i S2 eg
        obtain ⟨rfl, rfl⟩ := pr_inj e
        exact ⟨S1, eb, .bk, S2, eg, p⟩
      · rename_i x S2 eg
        obtain ⟨rfl, rfl⟩ := pr_inj e
        exact ⟨S1, eb, .rt x, S2, eg, p⟩
      · rename_i n x S2 eg
        obtain ⟨rfl, rfl⟩ := pr_inj e
        exact ⟨S1, eb, .ex n x, S2, eg, p⟩
      · cases e
    · cases e
  · rintro ⟨S1, eb, fl, S2, eg, h⟩
    cases fl with
    | nx => obtain ⟨fl, S', e, p⟩ := h; exact ⟨fl, S', by unfold forL; rw [eb]; simp only; rw [eg]; exact e, p⟩
    | ct => obtain ⟨fl, S', e, p⟩ := h; exact ⟨fl, S', by unfold forL; rw [eb]; simp only; rw [eg]; exact e, p⟩
    | bk => exact ⟨.nx, S2, by unfold forL; rw [eb]; simp only; rw [eg], h⟩
    | rt x => exact ⟨.rt x, S2, by unfold forL; rw [eb]; simp only; rw [eg], h⟩
    | ex n x => exact ⟨.ex n x, S2, by unfold forL; rw [eb]; simp only; rw [eg], h⟩
/-- a loop by its invariant, over the items that are left -/
theorem ws_forInv (I : List D → Sg → Prop) (h : ∀ d r S, I (d :: r) S → WB b d S fun S1 => WS g S1 (Tn U (I r))) (h0 : ∀ S, I [] S → U .nx S) : ∀ (ds : List D) (S : Sg), I ds S → WS (forL b g ds) S U
  | [], S, p => ws_forNil.mpr (h0 S p)
  | d :: ds, S, p => by
    refine ws_forCons.mpr ?_
    obtain ⟨S1, e1, fl, S2, e2, q⟩ := h d ds S p
    refine ⟨S1, e1, fl, S2, e2, ?_⟩
    cases fl with
    | nx => exact ws_forInv I h h0 ds S2 q
    | ct => exact ws_forInv I h h0 ds S2 q
    | bk => exact q
    | rt d => exact q
    | ex n p => exact q
theorem Tn_nx {A : Sg → Prop} : Tn U A .nx S ↔ A S := Iff.rfl
theorem Tn_ct {A : Sg → Prop} : Tn U A .ct S ↔ A S := Iff.rfl
theorem Tn_bk {A : Sg → Prop} : Tn U A .bk S ↔ U .nx S := Iff.rfl
theorem Tn_rt {A : Sg → Prop} : Tn U A (.rt d) S ↔ U (.rt d) S := Iff.rfl
/-! comprehensions -/
def WLc (b : Bd) (t : EvT) (f : EvE) (ρ : List (Option D)) (ds : List D) (μ : List Cell) (R : List D → List Cell → Prop) : Prop := ∃ xs μ', lcL b t f ρ ds μ = some (xs, μ') ∧ R xs μ'
theorem we_Lc {it : EvI} {ws : List Nat} : WE (fLc it b t fa ws) ⟨ρ, μ⟩ P ↔ WI it ⟨ρ, μ⟩ fun ds μ1 => WLc b t fa (wipeR ρ ws) ds μ1 fun xs μ2 => xs.length ≤ sizeLine ∧ P (.lst xs) μ2 := by
  constructor
  · rintro ⟨d, μ', e, p⟩
    unfold fLc at e
    split at e
    · rename_i ds μ1 ei
      split at e
      · rename_i xs μ2 el
        split at e
        · rename_i h
          obtain ⟨rfl, rfl⟩ := pr_inj e
          exact ⟨ds, μ1, ei, xs, μ2, el, h, p⟩
        · cases e
      · cases e
    · cases e
  · rintro ⟨ds, μ1, ei, xs, μ2, el, h, p⟩
    exact ⟨_, _, by unfold fLc; rw [ei]; simp only; rw [el]; simp only; rw [if_pos h], p⟩
theorem wlc_nil : WLc b t fa ρ [] μ R ↔ R [] μ := ⟨fun ⟨d', μ', e, p⟩ => by obtain ⟨rfl, rfl⟩ := pr_inj e; exact p, fun p => ⟨[], μ, rfl, p⟩⟩
theorem wlc_cons : WLc b t fa ρ (d :: ds) μ R ↔ WB b d ⟨ρ, μ⟩ fun S1 => WT t S1 fun k μ1 => if k = true then WE fa ⟨S1.ρ, μ1⟩ fun x μ2 => WLc b t fa ρ ds μ2 fun xs μ3 => R (x :: xs) μ3 else WLc b t fa ρ ds μ1 R := by
  constructor
  · rintro ⟨xs, μ', e, p⟩
    unfold lcL at e
    split at e
    · rename_i S1 eb
      split at e
      · rename_i μ1 et
        split at e
        · rename_i x μ2 ef
          split at e
          · rename_i ys μ3 er
            obtain ⟨rfl, rfl⟩ := pr_inj e
            exact ⟨S1, eb, true, μ1, et, iteT ⟨x, μ2, ef, ys, μ3, er, p⟩⟩
          · cases e
        · cases e
      · rename_i μ1 et
        exact ⟨S1, eb, false, μ1, et, iteF ⟨xs, μ', e, p⟩⟩
      · cases e
    · cases e
  · rintro ⟨S1, eb, k, μ1, et, h⟩
    cases k with
    | true =>
      obtain ⟨x, μ2, ef, ys, μ3, er, p⟩ : WE fa ⟨S1.ρ, μ1⟩ fun x μ2 => WLc b t fa ρ ds μ2 fun xs μ3 => R (x :: xs) μ3 := by simpa using h
      exact ⟨x :: ys, μ3, by unfold lcL; rw [eb]; simp only; rw [et]; simp only; rw [ef]; simp only; rw [er], p⟩
    | false =>
      obtain ⟨xs, μ', e, p⟩ : WLc b t fa ρ ds μ1 R := by simpa using h
      exact ⟨xs, μ', by unfold lcL; rw [eb]; simp only; rw [et]; exact e, p⟩
/-- a comprehension by its invariant: the items left, those made -/
theorem wlc_inv (I : List D → List D → List Cell → Prop) (h : ∀ d r xs μ, I (d :: r) xs μ → WB b d ⟨ρ, μ⟩ fun S1 => WT t S1 fun k μ1 => if k = true then WE fa ⟨S1.ρ, μ1⟩ fun x μ2 => I r (xs ++ [x]) μ2 else I r xs μ1) :
    ∀ (ds xs : List D) (μ : List Cell), I ds xs μ → WLc b t fa ρ ds μ fun ys μ' => I [] (xs ++ ys) μ'
  | [], xs, μ, p => wlc_nil.mpr (by rw [List.append_nil]; exact p)
  | d :: ds, xs, μ, p => by
    refine wlc_cons.mpr ?_
    obtain ⟨S1, e1, k, μ1, e2, q⟩ := h d ds xs μ p
    refine ⟨S1, e1, k, μ1, e2, ?_⟩
    cases k with
    | true =>
      obtain ⟨x, μ2, e3, q⟩ : WE fa ⟨S1.ρ, μ1⟩ fun x μ2 => I ds (xs ++ [x]) μ2 := by simpa using q
      obtain ⟨ys, μ3, e4, q⟩ := wlc_inv I h ds (xs ++ [x]) μ2 q
      exact iteT ⟨x, μ2, e3, ys, μ3, e4, by rw [List.append_assoc] at q; exact q⟩
    | false =>
      have q : I ds xs μ1 := by simpa using q
      exact iteF (wlc_inv I h ds xs μ1 q)
end
/-! ### operations on plain values -/
section
variable {V : D → Prop} {μ : List Cell} {i j : Int} {s z : Str} {x y : D} {xs ys : List D} {k : Nat} {p q : Bool} {T : String}
theorem w2_addI : W2 dAdd (.int i) (.int j) μ V ↔ V (.int (i + j)) := ⟨fun ⟨z, e, p⟩ => by cases e; exact p, fun p => ⟨_, rfl, p⟩⟩
theorem w2_addS : W2 dAdd (.str s) (.str z) μ V ↔ s.length + z.length ≤ sizeLine ∧ V (.str (s ++ z)) := by
  constructor
  · rintro ⟨w, e, p⟩
    unfold dAdd at e
    simp only at e
    split at e
    · rename_i h; cases e; exact ⟨h, p⟩
    · cases e
  · rintro ⟨h, p⟩
    exact ⟨_, by unfold dAdd; simp only; rw [if_pos h], p⟩
theorem w2_addL : W2 dAdd (.lst xs) (.lst ys) μ V ↔ xs.length + ys.length ≤ sizeLine ∧ V (.lst (xs ++ ys)) := by
  constructor
  · rintro ⟨w, e, p⟩
    unfold dAdd asL at e
    simp only at e
    split at e
    · rename_i h; cases e; exact ⟨h, p⟩
    · cases e
  · rintro ⟨h, p⟩
    exact ⟨_, by unfold dAdd asL; simp only; rw [if_pos h], p⟩
theorem w2_II {g : Int → Int → Option D} : W2 (dII g) (.int i) (.int j) μ V ↔ ∃ z, g i j = some z ∧ V z := Iff.rfl
theorem gSub_iff : (∃ z, gSub i j = some z ∧ V z) ↔ V (.int (i - j)) := ⟨fun ⟨z, e, p⟩ => by cases e; exact p, fun p => ⟨_, rfl, p⟩⟩
theorem gMod_iff : (∃ z, gMod i j = some z ∧ V z) ↔ j ≠ 0 ∧ V (.int (i.fmod j)) := by
  constructor
  · rintro ⟨z, e, p⟩
    unfold gMod at e
    split at e
    · rename_i h; cases e; exact ⟨h, p⟩
    · cases e
  · rintro ⟨h, p⟩
    exact ⟨_, by unfold gMod; rw [if_pos h], p⟩
theorem gFdiv_iff : (∃ z, gFdiv i j = some z ∧ V z) ↔ (j ≠ 0 ∧ j.natAbs < 1073741824) ∧ V (.int (i.fdiv j)) := by
  constructor
  · rintro ⟨z, e, p⟩
    unfold gFdiv at e
    split at e
    · rename_i h; cases e; exact ⟨h, p⟩
    · cases e
  · rintro ⟨h, p⟩
    exact ⟨_, by unfold gFdiv; rw [if_pos h], p⟩
theorem gPow_iff : (∃ z, gPow i j = some z ∧ V z) ↔ (0 ≤ j ∧ (Builtin.Int.intBits i : Int) * j ≤ 2 ^ 27) ∧ V (.int (i ^ j.toNat)) := by
  constructor
  · rintro ⟨z, e, p⟩
    unfold gPow at e
    split at e
    · rename_i h; cases e; exact ⟨h, p⟩
    · cases e
  · rintro ⟨h, p⟩
    exact ⟨_, by unfold gPow; rw [if_pos h], p⟩
theorem w2_mulI : W2 dMul (.int i) (.int j) μ V ↔ ((-(2 ^ 64) < i ∧ i < 2 ^ 64) ∨ (-(2 ^ 64) < j ∧ j < 2 ^ 64)) ∧ V (.int (i * j)) := by
  constructor
  · rintro ⟨z, e, p⟩
    unfold dMul at e
    simp only at e
    split at e
    · rename_i h; cases e; exact ⟨h, p⟩
    · cases e
  · rintro ⟨h, p⟩
    exact ⟨_, by unfold dMul; simp only; rw [if_pos h], p⟩
theorem w1_neg : W1 dNeg (.int i) μ V ↔ V (.int (-i)) := ⟨fun ⟨z, e, p⟩ => by cases e; exact p, fun p => ⟨_, rfl, p⟩⟩
theorem w2_ordI {gi : Int → Int → Bool} {gs : Str → Str → Bool} : W2 (dOrd gi gs) (.int i) (.int j) μ V ↔ V (.bl (gi i j)) := ⟨fun ⟨z, e, p⟩ => by cases e; exact p, fun p => ⟨_, rfl, p⟩⟩
theorem w2_ordS {gi : Int → Int → Bool} {gs : Str → Str → Bool} : W2 (dOrd gi gs) (.str s) (.str z) μ V ↔ V (.bl (gs s z)) := ⟨fun ⟨z, e, p⟩ => by cases e; exact p, fun p => ⟨_, rfl, p⟩⟩
theorem w2_is : W2 dIs x y μ V ↔ ∃ k, isB x y μ = some k ∧ V (.bl k) := by
  constructor
  · rintro ⟨z, e, p⟩
    obtain ⟨k, ek, rfl⟩ := Option.map_eq_some_iff.mp e
    exact ⟨k, ek, p⟩
  · rintro ⟨k, ek, p⟩
    exact ⟨_, by unfold dIs; rw [ek]; rfl, p⟩
theorem w2_isNot : W2 dIsNot x y μ V ↔ ∃ k, isB x y μ = some k ∧ V (.bl !k) := by
  constructor
  · rintro ⟨z, e, p⟩
    obtain ⟨k, ek, rfl⟩ := Option.map_eq_some_iff.mp e
    exact ⟨k, ek, p⟩
  · rintro ⟨k, ek, p⟩
    exact ⟨_, by unfold dIsNot; rw [ek]; rfl, p⟩
theorem w2_eq : W2 dEq x y μ V ↔ ∃ k, eqB x y μ = some k ∧ V (.bl k) := by
  constructor
  · rintro ⟨z, e, p⟩
    obtain ⟨k, ek, rfl⟩ := Option.map_eq_some_iff.mp e
    exact ⟨k, ek, p⟩
  · rintro ⟨k, ek, p⟩
    exact ⟨_, by unfold dEq; rw [ek]; rfl, p⟩
theorem w2_ne : W2 dNe x y μ V ↔ ∃ k, eqB x y μ = some k ∧ V (.bl !k) := by
  constructor
  · rintro ⟨z, e, p⟩
    obtain ⟨k, ek, rfl⟩ := Option.map_eq_some_iff.mp e
    exact ⟨k, ek, p⟩
  · rintro ⟨k, ek, p⟩
    exact ⟨_, by unfold dNe; rw [ek]; rfl, p⟩
theorem w2_ixL : W2 dIx (.lst xs) (.int i) μ V ↔ ∃ d, atI xs i = some d ∧ V d := Iff.rfl
theorem w2_ixR : W2 dIx (.rl xs) (.int i) μ V ↔ ∃ d, atI xs i = some d ∧ V d := Iff.rfl
theorem w2_ixT : W2 dIx (.tup xs) (.int i) μ V ↔ ∃ d, atI xs i = some d ∧ V d := Iff.rfl
theorem w2_ixS : W2 dIx (.str s) (.int i) μ V ↔ s.length ≤ sizeLine ∧ ∃ c, atI s.cps.toList i = some c ∧ V (.str ⟨#[c]⟩) := by
  constructor
  · rintro ⟨z, e, p⟩
    unfold dIx at e
    simp only at e
    split at e
    · rename_i h
      obtain ⟨c, ec, rfl⟩ := Option.map_eq_some_iff.mp e
      exact ⟨h, c, ec, p⟩
    · cases e
  · rintro ⟨h, c, ec, p⟩
    exact ⟨_, by unfold dIx; simp only; rw [if_pos h, ec]; rfl, p⟩
theorem w2_ixH : W2 dIx (.h k) (.int i) μ V ↔ ∃ xs, μ[k]? = some (.lst xs) ∧ ∃ d, atI xs i = some d ∧ V d := by
  constructor
  · rintro ⟨z, e, p⟩
    unfold dIx asSL asL at e
    simp only at e
    split at e
    · rename_i xs ex
      split at ex
      · rename_i ys ey
        cases ex
        exact ⟨_, ey, z, e, p⟩
      · cases ex
    · cases e
  · rintro ⟨xs, ex, d, ed, p⟩
    exact ⟨d, by unfold dIx asSL asL; simp only; rw [ex]; exact ed, p⟩
theorem w1_abs : W1 dAbs (.int i) μ V ↔ V (.int (if i < 0 then -i else i)) := ⟨fun ⟨z, e, p⟩ => by cases e; exact p, fun p => ⟨_, rfl, p⟩⟩
theorem w1_intI : W1 dInt1 (.int i) μ V ↔ V (.int i) := ⟨fun ⟨z, e, p⟩ => by cases e; exact p, fun p => ⟨_, rfl, p⟩⟩
theorem w1_intB : W1 dInt1 (.bl p) μ V ↔ V (.int (if p then 1 else 0)) := ⟨fun ⟨z, e, p⟩ => by cases e; exact p, fun p => ⟨_, rfl, p⟩⟩
theorem w2_max : W2 dMax2 (.int i) (.int j) μ V ↔ V (.int (if j > i then j else i)) := ⟨fun ⟨z, e, p⟩ => by cases e; exact p, fun p => ⟨_, rfl, p⟩⟩
theorem w2_min : W2 dMin2 (.int i) (.int j) μ V ↔ V (.int (if j < i then j else i)) := ⟨fun ⟨z, e, p⟩ => by cases e; exact p, fun p => ⟨_, rfl, p⟩⟩
theorem w1_str : W1 dStr1 (.int i) μ V ↔ i.natAbs.log2 < 1920 ∧ V (.str (toString i)) := by
  constructor
  · rintro ⟨z, e, p⟩
    unfold dStr1 at e
    simp only at e
    split at e
    · rename_i h; cases e; exact ⟨h, p⟩
    · cases e
  · rintro ⟨h, p⟩
    exact ⟨_, by unfold dStr1; simp only; rw [if_pos h], p⟩
theorem w1_lenS : W1 dLen (.str s) μ V ↔ s.length ≤ sizeLine ∧ V (.int s.length) := by
  constructor
  · rintro ⟨z, e, p⟩
    unfold dLen at e
    simp only at e
    split at e
    · rename_i h; cases e; exact ⟨h, p⟩
    · cases e
  · rintro ⟨h, p⟩
    exact ⟨_, by unfold dLen; simp only; rw [if_pos h], p⟩
theorem w1_lenL : W1 dLen (.lst xs) μ V ↔ V (.int xs.length) := ⟨fun ⟨z, e, p⟩ => by cases e; exact p, fun p => ⟨_, rfl, p⟩⟩
theorem w1_lenR : W1 dLen (.rl xs) μ V ↔ V (.int xs.length) := ⟨fun ⟨z, e, p⟩ => by cases e; exact p, fun p => ⟨_, rfl, p⟩⟩
theorem w1_lenT : W1 dLen (.tup xs) μ V ↔ V (.int xs.length) := ⟨fun ⟨z, e, p⟩ => by cases e; exact p, fun p => ⟨_, rfl, p⟩⟩
theorem w1_type : W1 dType x μ V ↔ ∃ T, tyOf x μ = some T ∧ V (.ty T) := by
  constructor
  · rintro ⟨z, e, p⟩
    obtain ⟨k, ek, rfl⟩ := Option.map_eq_some_iff.mp e
    exact ⟨k, ek, p⟩
  · rintro ⟨k, ek, p⟩
    exact ⟨_, by unfold dType; rw [ek]; rfl, p⟩
theorem w2_isi : W2 dIsi x (.ty T) μ V ↔ ∃ U, tyOf x μ = some U ∧ ∃ b, kitB U T = some b ∧ V (.bl b) := by
  constructor
  · rintro ⟨z, e, p⟩
    unfold dIsi at e
    simp only at e
    split at e
    · rename_i U eU
      obtain ⟨b, eb, rfl⟩ := Option.map_eq_some_iff.mp e
      exact ⟨U, eU, b, eb, p⟩
    · cases e
  · rintro ⟨U, eU, b, eb, p⟩
    exact ⟨_, by unfold dIsi; simp only; rw [eU]; simp only; rw [eb]; rfl, p⟩
theorem w1_repr0 : W1 dRepr0 (.bl p) μ V ↔ V (.str (reprB p)) := ⟨fun ⟨z, e, p⟩ => by cases e; exact p, fun p => ⟨_, rfl, p⟩⟩
theorem w1_not : W1 dNot x μ V ↔ WTr x μ fun k => V (.bl !k) := by
  constructor
  · rintro ⟨z, e, p⟩
    obtain ⟨k, ek, rfl⟩ := Option.map_eq_some_iff.mp e
    exact ⟨k, ek, p⟩
  · rintro ⟨k, ek, p⟩
    exact ⟨_, by unfold dNot; rw [ek]; rfl, p⟩
theorem w1_S0 {Pz : Str → Bool} {g : Str → D} : W1 (dS0 Pz g) (.str s) μ V ↔ Pz s = true ∧ V (g s) := by
  constructor
  · rintro ⟨z, e, p⟩
    obtain ⟨y, e1, e2, rfl⟩ := dS0_out e
    cases e1
    exact ⟨e2, p⟩
  · rintro ⟨h, p⟩
    exact ⟨_, by unfold dS0; simp only; rw [if_pos h], p⟩
theorem w2_join : W2 dJoin (.str s) (.lst xs) μ V ↔ ∃ zs, strsOf xs = some zs ∧ (zs.map (·.length)).sum + zs.length * s.length ≤ 16777216 ∧ V (.str (Txt.join s zs)) := by
  constructor
  · rintro ⟨z, e, p⟩
    obtain ⟨t, ys, zs, e1, h1, h2, h3, rfl⟩ := dJoin_out e
    cases e1
    cases h1
    exact ⟨zs, h2, h3, p⟩
  · rintro ⟨zs, h2, h3, p⟩
    exact ⟨_, by unfold dJoin asSq asSL asL; simp only; rw [h2]; simp only; rw [if_pos h3], p⟩
variable {Q : Bool → Prop}
theorem wtr_bl : WTr (.bl p) μ Q ↔ Q p := ⟨fun ⟨z, e, p⟩ => by cases e; exact p, fun p => ⟨_, rfl, p⟩⟩
end
end DL
set_option maxHeartbeats 2000000
/-! repr of data in which empty dicts may stand. -/
namespace DL
open PySem L2
section
variable {P : Program} {w : World} {h : Heap} {a : Addr} {o : Obj} {vs : Array Value} {n : Nat} {ps : List PyData}
/-- read, and shown -/
def Shd (P : Program) (w : World) (h : Heap) (u : Value) (p : PyData) : Prop := (∃ as, Reads h u p as) ∧ ∃ bs, ReadAtMost h p.depth bs ∧ ReprK P w bs h p.depth u p.shown
def ShdAll (P : Program) (w : World) (h : Heap) (us : List Value) (ps : List PyData) : Prop := (∃ as, ReadsAll h us ps as) ∧ ∃ bs, ReadAtMost h (PyData.depthAll ps) bs ∧ ReprAllK P w bs h (PyData.depthAll ps) us (PyData.shownAll ps)
theorem shd_list (h1 : h.get? a = some o) (h2 : o.cls = .type "list") (h3 : o.data = .seq vs n) (k : ShdAll P w h vs.toList ps) : Shd P w h (.ref a) (.list ps) := by
  obtain ⟨⟨as, r⟩, bs, hb, hk⟩ := k
  have rr : Reads h (.ref a) (.list ps) _ := .list h1 h2 h3 r
  have out := not_mem_of_deeper rr (by simp only [PyData.depth]; omega) hb
  refine ⟨⟨_, rr⟩, a :: bs, ReadAtMost.cons rr (by simp only [PyData.depth]; omega) hb, ?_⟩
  simp only [PyData.depth, PyData.shown]
  obtain ⟨l⟩ := vs
  cases l with
  | nil =>
    have r' : ReadsAll h [] ps as := r
    cases r'
    simp only [PyData.shownAll, listText_nil]
    exact ReprK.listEmpty h1 h2 h3
  | cons x l => exact ReprK.list h1 h2 h3 out (by simpa using hk.length_eq) fun i y e => hk.item i y (by simpa using e)
theorem shd_tuple (h1 : h.get? a = some o) (h2 : o.cls = .type "tuple") (h3 : o.data = .seq vs n) (k : ShdAll P w h vs.toList ps) : Shd P w h (.ref a) (.tuple ps) := by
  obtain ⟨⟨as, r⟩, bs, hb, hk⟩ := k
  have rr : Reads h (.ref a) (.tuple ps) _ := .tuple h1 h2 h3 r
  have out := not_mem_of_deeper rr (by simp only [PyData.depth]; omega) hb
  refine ⟨⟨_, rr⟩, a :: bs, ReadAtMost.cons rr (by simp only [PyData.depth]; omega) hb, ?_⟩
  simp only [PyData.depth, PyData.shown]
  exact ReprK.tuple h1 h2 h3 out hk
theorem shd_cons {u : Value} {us : List Value} {p : PyData} (x : Shd P w h u p) (y : ShdAll P w h us ps) : ShdAll P w h (u :: us) (p :: ps) := by
  obtain ⟨⟨as, r⟩, b1, hb1, k1⟩ := x
  obtain ⟨⟨bs, rs⟩, b2, hb2, k2⟩ := y
  refine ⟨⟨_, .cons r rs⟩, b1 ++ b2, ?_, ?_⟩
  · simp only [PyData.depthAll]
    exact (hb1.mono (Nat.le_max_left _ _)).append (hb2.mono (Nat.le_max_right _ _))
  · simp only [PyData.depthAll, PyData.shownAll]
    exact .cons ((k1.more fun b hb => List.mem_append_left _ hb).level_le (Nat.le_max_left _ _)) (k2.more_le (fun b hb => List.mem_append_right _ hb) (Nat.le_max_right _ _))
theorem shd_nil : ShdAll P w h [] [] := ⟨⟨_, .nil⟩, [], fun _ z => (nomatch z), .nil⟩
theorem shd_dict0 {ep : Nat} {es : Array DictEntry} (h1 : h.get? a = some o) (h2 : o.cls = .type "dict") (h3 : o.data = .dict es ep) (he : es.toList = []) (hs : (a == sysModules) = false) : Shd P w h (.ref a) (.dict []) := by
  have rr : Reads h (.ref a) (.dict []) _ := .dict (kvs := []) h1 h2 h3 (by rw [he]; exact .nil) (by rw [he]; exact .nil)
  refine ⟨⟨_, rr⟩, [a], ReadAtMost.cons (n := 0) rr (Nat.zero_le _) (fun _ z => nomatch z), ?_⟩
  simp only [PyData.depth, PyData.depthKv, PyData.shown, PyData.shownKv]
  exact ReprK.dict h1 h2 h3 hs (fun z => nomatch z) (by rw [he]; exact .nil)
theorem shd_of_is {u : Value} {p : PyData} {as : List Addr} (r : Reads h u p as) (k : ReprIs P w u p.shown) : Shd P w h u p := ⟨⟨_, r⟩, [], fun _ z => (nomatch z), .of_is k _ _ _⟩
end
mutual
def toR : D → Option PyData
  | .non => some .none
  | .bl b => some (.bool b)
  | .int i => some (.int i)
  | .str s => some (.str s)
  | .lst xs | .rl xs => (toRs xs).map .list
  | .tup xs => (toRs xs).map .tuple
  | .dct [] => some (.dict [])
  | _ => none
def toRs : List D → Option (List PyData)
  | [] => some []
  | d :: ds => match toR d, toRs ds with
    | some p, some ps => some (p :: ps)
    | _, _ => none
end
section
variable {X : Cx} {pins : List (Addr × Obj)} {σ : L2.St} {H : Hp} {s : Shared} {as : Ar}
mutual
theorem Rep.shd (I : Inv X pins σ H s) : ∀ {v : V} {d : D} {p : PyData} {u : Value}, Rep X.K as H v d → toR d = some p → RelV v u → p.showable = true → p.shown.length ≤ sizeLine → Shd X.prog X.w s.heap u p
  | _, _, _, u, .non, e, r, hs, hz => by simp only [toR] at e; cases e; cases r; exact shd_of_is .none (by simp only [PyData.shown]; exact ReprIs.none)
  | _, _, _, u, .bl b, e, r, hs, hz => by simp only [toR] at e; cases e; cases r; exact shd_of_is (.bool b) (by simp only [PyData.shown]; exact ReprIs.bool b)
  | _, _, _, u, .int i, e, r, hs, hz => by
    simp only [toR] at e; cases e
    obtain ⟨t, rfl⟩ := r
    exact shd_of_is (.int i t) (by simp only [PyData.shown]; exact ReprIs.int t (by simpa [PyData.showable] using hs))
  | _, _, _, u, .str x, e, r, hs, hz => by
    simp only [toR] at e; cases e
    obtain ⟨t, rfl⟩ := r
    exact shd_of_is (.str x t) (by simp only [PyData.shown]; exact ReprIs.str x t (by simpa only [PyData.shown] using hz))
  | _, _, _, u, .ty n, e, _, _, _ => by simp only [toR] at e; cases e
  | _, _, _, u, .h _, e, _, _, _ => by simp only [toR] at e; cases e
  | _, _, _, u, .exc _ _ _, e, _, _, _ => by simp only [toR] at e; cases e
  | _, _, _, u, .exf _ _ _ _ _ _, e, _, _, _ => by simp only [toR] at e; cases e
  | _, _, _, u, .cls _, e, _, _, _ => by simp only [toR] at e; cases e
  | _, _, _, u, .lst t n rs, e, r, hs, hz => by
    simp only [toR] at e
    obtain ⟨ps, e1, rfl⟩ := Option.map_eq_some_iff.mp e
    cases r
    obtain ⟨its, rv, ⟨o, n, ho, hc, _, hd⟩, _⟩ := I.list (SqL.of t)
    exact shd_list ho hc hd (Reps.shd I rs e1 rv (by simpa [PyData.showable] using hs) fun t ht => Nat.le_trans (listText_mem_le ht) (by simpa only [PyData.shown] using hz))
  | _, _, _, u, .rl t rs, e, r, hs, hz => by
    simp only [toR] at e
    obtain ⟨ps, e1, rfl⟩ := Option.map_eq_some_iff.mp e
    cases r
    obtain ⟨its, rv, ⟨o, n, ho, hc, _, hd⟩, _⟩ := I.list t.sq
    exact shd_list ho hc hd (Reps.shd I rs e1 rv (by simpa [PyData.showable] using hs) fun t ht => Nat.le_trans (listText_mem_le ht) (by simpa only [PyData.shown] using hz))
  | _, _, _, u, .tup t rs, e, r, hs, hz => by
    simp only [toR] at e
    obtain ⟨ps, e1, rfl⟩ := Option.map_eq_some_iff.mp e
    cases r
    obtain ⟨its, rv, ⟨o, ho, hc, n, hd⟩, _⟩ := I.tuple t.sq
    exact shd_tuple ho hc hd (Reps.shd I rs e1 rv (by simpa [PyData.showable] using hs) fun t ht => Nat.le_trans (tupleText_mem_le ht) (by simpa only [PyData.shown] using hz))
  | _, .dct ds, _, u, .dct (kvs := kvs) t n ek rs, e, r, hs, hz => by
    cases ds with
    | cons _ _ => simp only [toR] at e; cases e
    | nil =>
      simp only [toR] at e
      cases e
      cases r
      have ek' : kvs = [] := by simpa using ek
      subst ek'
      obtain ⟨_, hsys, vs, rel, o, es, ep, h1, hx, h3, _, pr, _⟩ := dk_of I.hok t
      cases rel
      have he : es.toList = [] := by
        generalize es.toList = l at pr
        cases pr
        rfl
      exact shd_dict0 h1 hx.1 h3 he hsys
theorem Reps.shd (I : Inv X pins σ H s) : ∀ {vs : List V} {ds : List D} {ps : List PyData} {us : List Value}, Reps X.K as H vs ds → toRs ds = some ps → Vals vs us → PyData.showableAll ps = true → (∀ t ∈ PyData.shownAll ps, t.length ≤ sizeLine) → ShdAll X.prog X.w s.heap us ps
  | _, _, _, _, .nil, e, r, _, _ => by simp only [toRs] at e; cases e; cases r; exact shd_nil
  | _, _, _, _, .cons h t, e, r, hs, hz => by
    simp only [toRs] at e
    split at e
    · rename_i p ps e1 e2
      cases e
      cases r with
      | cons r1 r2 =>
        have hs' : p.showable = true ∧ PyData.showableAll ps = true := by simpa [PyData.showableAll] using hs
        exact shd_cons (Rep.shd I h e1 r1 hs'.1 (hz _ (by simp only [PyData.shownAll]; exact List.mem_cons_self))) (Reps.shd I t e2 r2 hs'.2 fun z hm => hz z (by simp only [PyData.shownAll]; exact List.mem_cons_of_mem _ hm))
    · cases e
end
end

section
variable {P : Program} {w : World} {h : Heap} {a : Addr} {o : Obj} {vs : Array Value} {n : Nat} {ps : List PyData}
theorem shows_list (h1 : h.get? a = some o) (h2 : o.cls = .type "list") (h3 : o.data = .seq vs n) (k : ShdAll P w h vs.toList ps) (hz : (PyData.list ps).shown.length ≤ sizeLine) : ShowsBy P w h a (.list ps) "list" "list.__repr__" := by
  obtain ⟨⟨as, r⟩, bs, hb, hk⟩ := k
  have rr : Reads h (.ref a) (.list ps) _ := .list h1 h2 h3 r
  have out := not_mem_of_deeper rr (by simp only [PyData.depth]; omega) hb
  refine ⟨F.slot_list_repr.toG, F.slot_list_str, F.slot_list_format, fun s hk0 => ⟨o, hk0 _ _ h1, h2⟩, fun A E s Q hg hu hk0 hQ => ?_⟩
  simp only [PyData.depth] at hu
  simp only [PyData.shown] at hQ hz
  obtain ⟨l⟩ := vs
  cases l with
  | nil =>
    have r' : ReadsAll h [] ps as := r
    cases r'
    simp only [PyData.shownAll, listText_nil] at hQ
    exact call_list_repr_empty ⟨o, hk0 _ _ h1, h2⟩ (hk0 _ _ h1) h3 (hQ s.heap _ _ fun _ _ e => e)
  | cons x l => exact call_list_reprK h1 h2 h3 out (by simpa using hk.length_eq) (fun i y e => hk.item i y (by simpa using e)) hg (fun b _ => Clear.nil b) hu hk0 hQ hz
theorem shows_tuple (h1 : h.get? a = some o) (h2 : o.cls = .type "tuple") (h3 : o.data = .seq vs n) (k : ShdAll P w h vs.toList ps) (hz : (PyData.tuple ps).shown.length ≤ sizeLine) : ShowsBy P w h a (.tuple ps) "tuple" "tuple.__repr__" := by
  obtain ⟨⟨as, r⟩, bs, hb, hk⟩ := k
  have rr : Reads h (.ref a) (.tuple ps) _ := .tuple h1 h2 h3 r
  have out := not_mem_of_deeper rr (by simp only [PyData.depth]; omega) hb
  refine ⟨F.slot_tuple_repr, F.slot_tuple_str, F.slot_tuple_format, fun s hk0 => ⟨o, hk0 _ _ h1, h2⟩, fun A E s Q hg hu hk0 hQ => ?_⟩
  simp only [PyData.depth] at hu
  simp only [PyData.shown] at hQ hz
  exact call_tuple_reprK h1 h2 h3 out hk hg (fun b _ => Clear.nil b) hu hk0 hQ hz
end
section
variable {X : Cx}
def dReprR : D → List Cell → Option D
  | .bl b, _ => some (.str (reprB b))
  | .lst xs, _ => match toRs xs with
    | some ps => if PyData.showableAll ps = true ∧ (PyData.list ps).depth ≤ 62 ∧ (PyData.list ps).shown.length ≤ sizeLine then some (.str (PyData.list ps).shown) else none
    | none => none
  | .tup xs, _ => match toRs xs with
    | some ps => if PyData.showableAll ps = true ∧ (PyData.tuple ps).depth ≤ 62 ∧ (PyData.tuple ps).shown.length ≤ sizeLine then some (.str (PyData.tuple ps).shown) else none
    | none => none
  | _, _ => none
theorem call_reprRD (hgd : X.A.guards = some []) (hu : X.A.units + 64 < cLine) : CallR X (.builtin "repr") (rCD X.K (g1 dReprR)) := call1 fun pins s σ H x us Q as d μ z I r rd sto ez q => by
  unfold dReprR at ez
  obtain ⟨u, rfl, ru⟩ := Vals.one r
  split at ez
  · cases Option.some.inj ez
    cases rd
    cases ru
    exact PySem.P.repr_of_bool ⟨.str _, H, I.tok _, ⟨_, rfl⟩, q _ H .refl (.str _) sto⟩
  · split at ez
    · rename_i ps e1
      split at ez
      · rename_i hs
        cases Option.some.inj ez
        cases rd with
        | @lst a vs ds t n rs =>
          cases ru
          obtain ⟨its, rv, ⟨o, m, ho, hc, _, hd⟩, _⟩ := I.list (SqL.of t)
          have S := shows_list (P := X.prog) (w := X.w) ho hc hd (Reps.shd I rs e1 rv hs.1 fun t ht => Nat.le_trans (listText_mem_le ht) (by simpa only [PyData.shown] using hs.2.2)) hs.2.2
          exact call_repr_slot (by omega) (S.typeIs s fun _ _ e => e) S.slotRepr (S.call X.A.in1 _ s _ hgd (by show X.A.units + 1 + (PyData.list ps).depth < cLine; omega) (fun _ _ e => e) fun h' u' tk hk => ⟨_, _, rfl, .str _, H, I.kept hk, ⟨_, rfl⟩, q _ H .refl (.str _) sto⟩)
      · cases ez
    · cases ez
  · split at ez
    · rename_i ps e1
      split at ez
      · rename_i hs
        cases Option.some.inj ez
        cases rd with
        | @tup a vs ds t rs =>
          cases ru
          obtain ⟨its, rv, ⟨o, ho, hc, m, hd⟩, _⟩ := I.tuple t.sq
          have S := shows_tuple (P := X.prog) (w := X.w) ho hc hd (Reps.shd I rs e1 rv hs.1 fun t ht => Nat.le_trans (tupleText_mem_le ht) (by simpa only [PyData.shown] using hs.2.2)) hs.2.2
          exact call_repr_slot (by omega) (S.typeIs s fun _ _ e => e) S.slotRepr (S.call X.A.in1 _ s _ hgd (by show X.A.units + 1 + (PyData.tuple ps).depth < cLine; omega) (fun _ _ e => e) fun h' u' tk hk => ⟨_, _, rfl, .str _, H, I.kept hk, ⟨_, rfl⟩, q _ H .refl (.str _) sto⟩)
      · cases ez
    · cases ez
  · cases ez
end

section
variable {X : Cx} {W : WX} {fs : EvA}
/-- a, b = x, y -/
def sPar (i j : Nat) (fs : EvA) : EvS := fun S => match fs S with
  | some ([d, e], μ1) => if i < S.ρ.length ∧ j < S.ρ.length then some (.nx, ⟨(S.ρ.set i (some d)).set j (some e), μ1⟩) else none
  | _ => none
theorem ds_par {i j : Nat} {x y : Str} {a b : Expr} {px py pt pos : Pos} {kt k2 pt2} (hc : X.calm = true) (hN : X.N.Nodup) (hi : X.N[i]? = some x) (hj : X.N[j]? = some y) (hij : i ≠ j) (hx : X.env.scope.names.lookup x = some .local) (hy : X.env.scope.names.lookup y = some .local) (ha : PA X [a, b] (tFA X.K fs))
    (hw : swappedStores [.Tuple [.Name x px, .Name y py] kt pt] (.Tuple [a, b] k2 pt2) X.env = pure (some [x, y])) (hs : swapsWithSole [.Tuple [.Name x px, .Name y py] kt pt] (.Tuple [a, b] k2 pt2) pos.line X.env = pure false := by rfl) :
    PS X (.Assign [.Tuple [.Name x px, .Name y py] kt pt] (.Tuple [a, b] k2 pt2) pos) (tFS X.K X.mg W (sPar i j fs)) := (ps_par hc hN hi hj hij hx hy ha hw hs).imp fun D σ H ⟨as, S, fl, S', E, e, q⟩ => by
  unfold sPar at e
  split at e
  · rename_i d1 d2 μ1 ef
    split at e
    · rename_i hl
      obtain ⟨rfl, rfl⟩ := pr_inj e
      refine ⟨as, S, _, μ1, E, ef, fun vs as1 H1 X1 r1 s1 => ?_⟩
      cases r1 with
      | cons r1 rt =>
      cases rt with
      | cons r2 rt =>
      cases rt
      exact ⟨_, _, rfl, q as1 _ H1 X1 ⟨((E.env.mv X1).set r1 hl.1).set r2 (by rw [List.length_set]; exact hl.2), s1⟩⟩
    · cases e
  · cases e
theorem ws_par {i j : Nat} {ρ : List (Option D)} {μ : List Cell} {U : Fl → Sg → Prop} : WS (sPar i j fs) ⟨ρ, μ⟩ U ↔ WA fs ⟨ρ, μ⟩ fun ds μ1 => ∃ d e, ds = [d, e] ∧ (i < ρ.length ∧ j < ρ.length) ∧ U .nx ⟨(ρ.set i (some d)).set j (some e), μ1⟩ := by
  constructor
  · rintro ⟨fl, S', e, p⟩
    unfold sPar at e
    split at e
    · rename_i d1 d2 μ1 ef
      split at e
      · rename_i hl
        obtain ⟨rfl, rfl⟩ := pr_inj e
        exact ⟨_, μ1, ef, d1, d2, rfl, hl, p⟩
      · cases e
    · cases e
  · rintro ⟨ds, μ1, ef, d1, d2, rfl, hl, p⟩
    exact ⟨_, _, by unfold sPar; rw [ef]; simp only; rw [if_pos hl], p⟩
end
end DL
set_option maxHeartbeats 2000000
/-! ==, != and in where empty dicts stand in the left. -/
namespace PySem
namespace DLQ
open SeqAt MeetsSeq
open AutoSeq1 (wpAny_loadPart')
section
variable (l : Addr) (es : Array DictEntry) (n : Nat) (dd : Option Addr) (sl : Array (Option Value))
theorem dn_str (b : Str) (u : Tok) : Meets (Builtin.«dict.__ne__» ⟨[.ref l, .str b u], []⟩) (fun _ R s => s.heap.get? l = some (dob dd es n sl) ∧ R (.ok (.ret .notImplemented)) s) :=
  .of_wp fun prog w A R s h => by (obtain ⟨hp, g, d, tk, os⟩ := s; obtain ⟨hl, h⟩ := h; have f1 := F.sub_str_dict; wp_walk using wpAny_loadPart' hl; exact ⟨_, rfl, h⟩)
theorem strn_d (b : Str) (u : Tok) : Meets (Builtin.«str.__ne__» ⟨[.str b u, .ref l], []⟩) (fun _ R s => s.heap.get? l = some (dob dd es n sl) ∧ R (.ok (.ret .notImplemented)) s) :=
  .of_wp fun prog w A R s h => by (obtain ⟨hp, g, d, tk, os⟩ := s; obtain ⟨hl, h⟩ := h; wp_walk using wpAny_loadPart' hl, wpAny_load hl; exact ⟨_, rfl, h⟩)
end
section
variable {A : Around} {s : Shared} {l k : Addr}
theorem rn_d_str (b : Str) (u : Tok) (hl : IsD s l) (hu : A.units < cLine) : RcNeAt A s (.ref l) (.str b u) true := by
  obtain ⟨dd, es, n, sl, ho⟩ := hl
  exact fun prog w E Q h => rc_ne_decline_or (k := false) ⟨_, ho, rfl⟩ (typeIs_str s b u) (by decide) F.sub_str_dict F.slot_dict_ne F.slot_str_ne_refl (fun _ hq => call_meets F.slot_dict_ne ⟨_, ho, rfl⟩ F.entry_dict_ne (F.args_dict_ne_2 _ _) (dn_str l es n dd sl b u) ⟨ho, hq⟩) (fun _ hq => call_meets F.slot_str_ne_refl (typeIs_str s b u) F.entry_str_ne (F.args_str_ne_2 _ _) (strn_d l es n dd sl b u) ⟨ho, hq⟩) (fun _ hq => wpAny_of_eq (rfl : isSame (.ref l) (.str b u) = pure false) hq) (.inr hu) h
theorem size_all {h : Heap} {vs : Array Value} {xs : List PyData} {as : List Addr} (r : ReadsAll h vs.toList xs as) : vs.size = xs.length := by simpa using ReadsAll.length _ _ _ r
theorem rcX : ∀ (da db : PyData) {a b : Value} {as bs : List Addr}, Reads s.heap a da as → Reads s.heap b db bs → okX da = true → da.canLay0 = false → db.canLay0 = true → A.units + min da.depth db.depth < cLine → RcAt A s a b (PyData.eqv da db)
  | .none, _, _, _, _, _, _, _, _, h, _, _ => nomatch h
  | .bool _, _, _, _, _, _, _, _, _, h, _, _ => nomatch h
  | .int _, _, _, _, _, _, _, _, _, h, _, _ => nomatch h
  | .str x, _, _, _, _, _, _, _, ho, h, _, _ => by
    have z : (PyData.str x).canLay0 = true := by simpa [okX, PyData.canLay0] using ho
    rw [z] at h
    cases h
  | .dict kvs, db, a, b, as, bs, ra, rb, _, _, hb, hu => by
    have hr := room_here hu
    cases ra with
    | dict h1 h2 h3 h4 h5 =>
      have hd := isD_of h1 h2 h3
      cases rb with
      | none => exact r_d_none hd hr
      | bool y => exact r_d_bool y hd hr
      | int y u => exact r_d_int y u hd hr
      | str y u => exact r_d_str y u hd hr
      | list k1 k2 k3 k4 => exact r_d_list hd ⟨_, k1, k2, _, k3⟩ hr
      | tuple k1 k2 k3 k4 => exact r_d_tuple hd ⟨_, k1, k2, _, k3⟩ hr
      | dict => exact nomatch hb
  | .list xs, db, a, b, as, bs, ra, rb, ho, _, hb, hu => by
    have hr := room_here hu
    cases ra with
    | @list l o vs n _ as1 h1 h2 h3 h4 =>
      have hl : s.heap.IsList l vs := ⟨_, h1, h2, _, h3⟩
      cases rb with
      | none => exact RcAt.list_none hl hr
      | bool y => exact RcAt.list_bool y hl hr
      | int y u => exact RcAt.list_int y u hl hr
      | str y u => exact RcAt.list_str y u hl hr
      | tuple k1 k2 k3 k4 => exact RcAt.list_tuple hl ⟨_, k1, k2, _, k3⟩ hr
      | dict => exact nomatch hb
      | @list l' o' vs' n' ys bs1 k1 k2 k3 k4 =>
        have hl' : s.heap.IsList l' vs' := ⟨_, k1, k2, _, k3⟩
        have n1 := size_all h4
        have n2 := size_all k4
        show RcAt A s (.ref l) (.ref l') (PyData.eqvAll xs ys)
        by_cases hsz : vs.size = vs'.size
        · have it := eqXs xs ys A.in1 s vs.toList vs'.toList _ _ h4 k4 ho hb (room_in hu)
          rw [← eqvAll_same_length (by omega : xs.length = ys.length), ← n1]
          exact RcAt.lists hl hl' hsz hr fun j j1 j2 => by
            have z := (it j (by simpa using j1) (by simpa using j2)).1
            simpa using z
        · rw [eqvAll_other_length (by omega : xs.length ≠ ys.length)]
          exact RcAt.lists_lengths hl hl' (by simpa using hsz) hr
  | .tuple xs, db, a, b, as, bs, ra, rb, ho, _, hb, hu => by
    have hr := room_here hu
    cases ra with
    | @tuple l o vs n _ as1 h1 h2 h3 h4 =>
      have hl : s.heap.IsTuple l vs := ⟨_, h1, h2, _, h3⟩
      cases rb with
      | none => exact RcAt.tuple_none hl hr
      | bool y => exact RcAt.tuple_bool y hl hr
      | int y u => exact RcAt.tuple_int y u hl hr
      | str y u => exact RcAt.tuple_str y u hl hr
      | list k1 k2 k3 k4 => exact RcAt.tuple_list hl ⟨_, k1, k2, _, k3⟩ hr
      | dict => exact nomatch hb
      | @tuple l' o' vs' n' ys bs1 k1 k2 k3 k4 =>
        have hl' : s.heap.IsTuple l' vs' := ⟨_, k1, k2, _, k3⟩
        have it := eqXs xs ys A.in1 s vs.toList vs'.toList _ _ h4 k4 ho hb (room_in hu)
        show RcAt A s (.ref l) (.ref l') (PyData.eqvAll xs ys)
        rw [← eqvAll_eq xs ys, ← size_all h4, ← size_all k4]
        exact RcAt.tuples hl hl' hr fun j j1 j2 => by
            have z := (it j (by simpa using j1) (by simpa using j2)).1
            simpa using z
def isDictD : PyData → Bool
  | .dict _ => true
  | _ => false
def isStrD : PyData → Bool
  | .str _ => true
  | _ => false
theorem rcNeX : ∀ (da db : PyData) {a b : Value} {as bs : List Addr}, Reads s.heap a da as → Reads s.heap b db bs → okX da = true → da.canLay0 = false → db.canLay0 = true → (isDictD da = true → isStrD db = true) → A.units + min da.depth db.depth < cLine → RcNeAt A s a b (!PyData.eqv da db)
  | .none, _, _, _, _, _, _, _, _, h, _, _, _ => nomatch h
  | .bool _, _, _, _, _, _, _, _, _, h, _, _, _ => nomatch h
  | .int _, _, _, _, _, _, _, _, _, h, _, _, _ => nomatch h
  | .str x, _, _, _, _, _, _, _, ho, h, _, _, _ => by
    have z : (PyData.str x).canLay0 = true := by simpa [okX, PyData.canLay0] using ho
    rw [z] at h
    cases h
  | .dict kvs, db, a, b, as, bs, ra, rb, _, _, hb, hs, hu => by
    have hr := room_here hu
    cases ra with
    | dict h1 h2 h3 h4 h5 =>
      have hd := isD_of h1 h2 h3
      cases rb with
      | str y u => exact rn_d_str y u hd hr
      | _ => exact nomatch hs rfl
  | .list xs, db, a, b, as, bs, ra, rb, ho, _, hb, _, hu => by
    have hr := room_here hu
    cases ra with
    | @list l o vs n _ as1 h1 h2 h3 h4 =>
      have hl : s.heap.IsList l vs := ⟨_, h1, h2, _, h3⟩
      cases rb with
      | none => exact RcNeAt.list_none hl hr
      | bool y => exact RcNeAt.list_bool y hl hr
      | int y u => exact RcNeAt.list_int y u hl hr
      | str y u => exact RcNeAt.list_str y u hl hr
      | tuple k1 k2 k3 k4 => exact RcNeAt.list_tuple hl ⟨_, k1, k2, _, k3⟩ hr
      | dict => exact nomatch hb
      | @list l' o' vs' n' ys bs1 k1 k2 k3 k4 =>
        have hl' : s.heap.IsList l' vs' := ⟨_, k1, k2, _, k3⟩
        have n1 := size_all h4
        have n2 := size_all k4
        show RcNeAt A s (.ref l) (.ref l') (!PyData.eqvAll xs ys)
        by_cases hsz : vs.size = vs'.size
        · have it := eqXs xs ys A.in1 s vs.toList vs'.toList _ _ h4 k4 ho hb (room_in hu)
          rw [← eqvAll_same_length (by omega : xs.length = ys.length), ← n1]
          exact RcNeAt.lists hl hl' hsz hr fun j j1 j2 => by
            have z := (it j (by simpa using j1) (by simpa using j2)).1
            simpa using z
        · rw [eqvAll_other_length (by omega : xs.length ≠ ys.length)]
          exact RcNeAt.lists_lengths hl hl' (by simpa using hsz) hr
  | .tuple xs, db, a, b, as, bs, ra, rb, ho, _, hb, _, hu => by
    have hr := room_here hu
    cases ra with
    | @tuple l o vs n _ as1 h1 h2 h3 h4 =>
      have hl : s.heap.IsTuple l vs := ⟨_, h1, h2, _, h3⟩
      cases rb with
      | none => exact RcNeAt.tuple_none hl hr
      | bool y => exact RcNeAt.tuple_bool y hl hr
      | int y u => exact RcNeAt.tuple_int y u hl hr
      | str y u => exact RcNeAt.tuple_str y u hl hr
      | list k1 k2 k3 k4 => exact RcNeAt.tuple_list hl ⟨_, k1, k2, _, k3⟩ hr
      | dict => exact nomatch hb
      | @tuple l' o' vs' n' ys bs1 k1 k2 k3 k4 =>
        have hl' : s.heap.IsTuple l' vs' := ⟨_, k1, k2, _, k3⟩
        have it := eqXs xs ys A.in1 s vs.toList vs'.toList _ _ h4 k4 ho hb (room_in hu)
        show RcNeAt A s (.ref l) (.ref l') (!PyData.eqvAll xs ys)
        rw [← eqvAll_eq xs ys, ← size_all h4, ← size_all k4]
        exact RcNeAt.tuples hl hl' hr fun j j1 j2 => by
            have z := (it j (by simpa using j1) (by simpa using j2)).1
            simpa using z
/-- x in a tuple: x with empty dicts -/
theorem itemsX {vs : Array Value} {xs : List PyData} {as bs : List Addr} {x : Value} {d : PyData} (rs : ReadsAll s.heap vs.toList xs as) (rx : Reads s.heap x d bs) (hxs : PyData.canLayAll0 xs = true) (hd : okX d = true) (hu : A.units + 1 + min (PyData.depthAll xs) d.depth < cLine) :
    ∀ y, y ∈ vs → EqAt A.in1 s y x (PyData.eqv (readOf s.heap y) d) := fun y hy => by
  obtain ⟨dy, cs, ry, hcy, hle⟩ := readsAll_mem xs _ _ hxs rs y (by simpa using hy)
  rw [readOf_eq hcy ry]
  refine (eqX d dy A.in1 s x y _ _ rx ry hd hcy ?_).2
  have h1 : min d.depth dy.depth ≤ min (PyData.depthAll xs) d.depth := Nat.le_min.mpr ⟨Nat.le_trans (Nat.min_le_right _ _) hle, Nat.min_le_left _ _⟩
  show A.units + 1 + min d.depth dy.depth < cLine
  omega
end
end DLQ
end PySem
namespace DL
open PySem L2 PySem.DLQ
section
variable {X : Cx} {pins : List (Addr × Obj)} {σ : L2.St} {H : Hp} {s : Shared} {as : Ar}
mutual
theorem Rep.rds (I : Inv X pins σ H s) : ∀ {v : V} {d : D} {p : PyData} {u : Value}, Rep X.K as H v d → toR d = some p → RelV v u → ∃ bs, Reads s.heap u p bs
  | _, _, _, u, .non, e, r => by simp only [toR] at e; cases e; cases r; exact ⟨_, .none⟩
  | _, _, _, u, .bl b, e, r => by simp only [toR] at e; cases e; cases r; exact ⟨_, .bool b⟩
  | _, _, _, u, .int i, e, r => by
    simp only [toR] at e; cases e
    obtain ⟨t, rfl⟩ := r
    exact ⟨_, .int i t⟩
  | _, _, _, u, .str x, e, r => by
    simp only [toR] at e; cases e
    obtain ⟨t, rfl⟩ := r
    exact ⟨_, .str x t⟩
  | _, _, _, u, .ty n, e, _ => by simp only [toR] at e; cases e
  | _, _, _, u, .h _, e, _ => by simp only [toR] at e; cases e
  | _, _, _, u, .exc _ _ _, e, _ => by simp only [toR] at e; cases e
  | _, _, _, u, .exf _ _ _ _ _ _, e, _ => by simp only [toR] at e; cases e
  | _, _, _, u, .cls _, e, _ => by simp only [toR] at e; cases e
  | _, _, _, u, .lst t n rs, e, r => by
    simp only [toR] at e
    obtain ⟨ps, e1, rfl⟩ := Option.map_eq_some_iff.mp e
    cases r
    obtain ⟨its, rv, ⟨o, n, ho, hc, _, hd⟩, _⟩ := I.list (SqL.of t)
    obtain ⟨bs, q⟩ := Reps.rds I rs e1 rv
    exact ⟨_, .list ho hc hd q⟩
  | _, _, _, u, .rl t rs, e, r => by
    simp only [toR] at e
    obtain ⟨ps, e1, rfl⟩ := Option.map_eq_some_iff.mp e
    cases r
    obtain ⟨its, rv, ⟨o, n, ho, hc, _, hd⟩, _⟩ := I.list t.sq
    obtain ⟨bs, q⟩ := Reps.rds I rs e1 rv
    exact ⟨_, .list ho hc hd q⟩
  | _, _, _, u, .tup t rs, e, r => by
    simp only [toR] at e
    obtain ⟨ps, e1, rfl⟩ := Option.map_eq_some_iff.mp e
    cases r
    obtain ⟨its, rv, ⟨o, ho, hc, n, hd⟩, _⟩ := I.tuple t.sq
    obtain ⟨bs, q⟩ := Reps.rds I rs e1 rv
    exact ⟨_, .tuple ho hc hd q⟩
  | _, .dct ds, _, u, .dct (kvs := kvs) t n ek rs, e, r => by
    cases ds with
    | cons _ _ => simp only [toR] at e; cases e
    | nil =>
      simp only [toR] at e
      cases e
      cases r
      have ek' : kvs = [] := by simpa using ek
      subst ek'
      obtain ⟨_, hsys, vs, rel, o, es, ep, h1, hx, h3, _, pr, _⟩ := dk_of I.hok t
      cases rel
      have he : es.toList = [] := by
        generalize es.toList = l at pr
        cases pr
        rfl
      exact ⟨_, .dict (kvs := []) h1 hx.1 h3 (by rw [he]; exact .nil) (by rw [he]; exact .nil)⟩
theorem Reps.rds (I : Inv X pins σ H s) : ∀ {vs : List V} {ds : List D} {ps : List PyData} {us : List Value}, Reps X.K as H vs ds → toRs ds = some ps → Vals vs us → ∃ bs, ReadsAll s.heap us ps bs
  | _, _, _, _, .nil, e, r => by simp only [toRs] at e; cases e; cases r; exact ⟨_, .nil⟩
  | _, _, _, _, .cons h t, e, r => by
    simp only [toRs] at e
    split at e
    · rename_i p ps e1 e2
      cases e
      cases r with
      | cons r1 r2 =>
        obtain ⟨b1, q1⟩ := Rep.rds I h e1 r1
        obtain ⟨b2, q2⟩ := Reps.rds I t e2 r2
        exact ⟨_, .cons q1 q2⟩
    · cases e
end
end
/-- == where the plain one says nothing -/
def eqR (x y : D) : Option Bool := match toR x, toR y with
  | some p, some q => if okX p = true ∧ p.canLay0 = false ∧ q.canLay0 = true ∧ q.depth ≤ 60 then some (PyData.eqv p q) else none
  | _, _ => none
def neR (x y : D) : Option Bool := match toR x, toR y with
  | some p, some q => if okX p = true ∧ p.canLay0 = false ∧ q.canLay0 = true ∧ q.depth ≤ 60 ∧ (isDictD p = true → isStrD q = true) then some (!PyData.eqv p q) else none
  | _, _ => none
def eqW (x y : D) (μ : List Cell) : Option Bool := (eqB x y μ).or (eqR x y)
def neW (x y : D) (μ : List Cell) : Option Bool := ((eqB x y μ).map (!·)).or (neR x y)
def dEqW : D → D → List Cell → Option D := fun x y μ => (eqW x y μ).map .bl
def dNeW : D → D → List Cell → Option D := fun x y μ => (neW x y μ).map .bl
theorem dEqW_bl : ∀ x y μ z, dEqW x y μ = some z → ∃ k, z = .bl k := fun _ _ _ _ e => map_bl (f := fun k => k) e
theorem dNeW_bl : ∀ x y μ z, dNeW x y μ = some z → ∃ k, z = .bl k := fun _ _ _ _ e => map_bl (f := fun k => k) e
def inR (x y : D) : Option Bool := match toR x, toR y with
  | some p, some (.tuple ps) => if okX p = true ∧ PyData.canLayAll0 ps = true ∧ PyData.depthAll ps ≤ 60 then some (ps.any fun q => PyData.eqv q p) else none
  | _, _ => none
def dInR : D → D → List Cell → Option D := fun x y μ => (inR x y).map .bl
theorem dInR_bl : ∀ x y μ z, dInR x y μ = some z → ∃ k, z = .bl k := fun _ _ _ _ e => map_bl (f := fun k => k) e
section
variable {X : Cx}
theorem or_out {α : Type} {a b : Option α} {k : α} (e : a.or b = some k) : a = some k ∨ b = some k := by
  cases a with
  | none => exact .inr (by simpa using e)
  | some x => exact .inl (by simpa using e)
theorem op_eqW (hu : X.A.units + 64 < cLine) : OpR X (compareOp .Eq) (rD X.K dEqW) := by
  intro pins s σ H x y v u Q I rx ry ⟨as, d, e, μ, z, rd, re, sto, ez, q⟩
  obtain ⟨k, ek, rfl⟩ := Option.map_eq_some_iff.mp ez
  rcases or_out ek with ek | ek
  · exact op_eqDD hu pins s σ H x y v u Q I rx ry ⟨as, d, e, μ, .bl k, rd, re, sto, by unfold dEq; rw [ek]; rfl, q⟩
  · unfold eqR at ek
    split at ek
    · rename_i p r e1 e2
      split at ek
      · rename_i hs
        cases Option.some.inj ek
        obtain ⟨b1, r1⟩ := rd.rds I e1 rx
        obtain ⟨b2, r2⟩ := re.rds I e2 ry
        have hm : min p.depth r.depth ≤ 60 := Nat.le_trans (Nat.min_le_right _ _) hs.2.2.2
        exact rcX p r r1 r2 hs.1 hs.2.1 hs.2.2.1 (by omega) X.prog X.w X.xe _ ⟨.bl _, H, I, rfl, q _ H .refl (.bl _) sto⟩
      · cases ek
    · cases ek
theorem op_neW (hu : X.A.units + 64 < cLine) : OpR X (compareOp .NotEq) (rD X.K dNeW) := by
  intro pins s σ H x y v u Q I rx ry ⟨as, d, e, μ, z, rd, re, sto, ez, q⟩
  obtain ⟨k, ek, rfl⟩ := Option.map_eq_some_iff.mp ez
  rcases or_out ek with ek | ek
  · obtain ⟨b, eb, rfl⟩ := Option.map_eq_some_iff.mp ek
    exact op_neDD hu pins s σ H x y v u Q I rx ry ⟨as, d, e, μ, .bl (!b), rd, re, sto, by unfold dNe; rw [eb]; rfl, q⟩
  · unfold neR at ek
    split at ek
    · rename_i p r e1 e2
      split at ek
      · rename_i hs
        cases Option.some.inj ek
        obtain ⟨b1, r1⟩ := rd.rds I e1 rx
        obtain ⟨b2, r2⟩ := re.rds I e2 ry
        have hm : min p.depth r.depth ≤ 60 := Nat.le_trans (Nat.min_le_right _ _) hs.2.2.2.1
        exact rcNeX p r r1 r2 hs.1 hs.2.1 hs.2.2.1 hs.2.2.2.2 (by omega) X.prog X.w X.xe _ ⟨.bl _, H, I, rfl, q _ H .refl (.bl _) sto⟩
      · cases ek
    · cases ek
theorem op_inR (hu : X.A.units + 64 < cLine) : OpR X (compareOp .In) (rD X.K dInR) := by
  intro pins s σ H x y v u Q I rx ry ⟨as, d, e, μ, z, rd, re, sto, ez, q⟩
  obtain ⟨k, ek, rfl⟩ := Option.map_eq_some_iff.mp ez
  unfold inR at ek
  split at ek
  · rename_i p ps e1 e2
    split at ek
    · rename_i hs
      cases Option.some.inj ek
      obtain ⟨b1, r1⟩ := rd.rds I e1 rx
      obtain ⟨b2, r2⟩ := re.rds I e2 ry
      cases r2 with
      | tuple h1 h2 h3 h4 =>
        have hm : min (PyData.depthAll ps) p.depth ≤ 60 := Nat.le_trans (Nat.min_le_left _ _) hs.2.2
        exact SeqAt.in_tupleAt _ ⟨_, h1, h2, _, h3⟩ (itemsX h4 r1 hs.2.1 hs.1 (by omega)) (by rw [SeqAt.any_by_data h4 hs.2.1]; exact ⟨.bl _, H, I, rfl, q _ H .refl (.bl _) sto⟩)
    · cases ek
  · cases ek
end
end DL
set_option maxHeartbeats 2000000
namespace DL
open PySem L2
/-! ### in ascending order, each once -/
def ins (x : Int) : List Int → List Int
  | [] => [x]
  | y :: r => if x < y then x :: y :: r else if x = y then y :: r else y :: ins x r
def sortU : List Int → List Int
  | [] => []
  | x :: r => ins x (sortU r)
theorem mem_ins {x k : Int} : ∀ {l : List Int}, k ∈ ins x l ↔ k = x ∨ k ∈ l
  | [] => by simp [ins]
  | y :: r => by
    unfold ins
    split
    · simp
    · split
      · rename_i h; subst h; simp
      · rw [List.mem_cons, mem_ins, List.mem_cons]
        constructor
        · rintro (h | h | h)
          · exact .inr (.inl h)
          · exact .inl h
          · exact .inr (.inr h)
        · rintro (h | h | h)
          · exact .inr (.inl h)
          · exact .inl h
          · exact .inr (.inr h)
theorem mem_sortU {k : Int} : ∀ {l : List Int}, k ∈ sortU l ↔ k ∈ l
  | [] => by simp [sortU]
  | x :: r => by unfold sortU; rw [mem_ins, mem_sortU, List.mem_cons]
theorem pw_ins {x : Int} : ∀ {l : List Int}, l.Pairwise (· < ·) → (ins x l).Pairwise (· < ·)
  | [], _ => by simp [ins]
  | y :: r, h => by
    have h' := List.pairwise_cons.mp h
    unfold ins
    split
    · rename_i hx
      refine List.pairwise_cons.mpr ⟨fun z hz => ?_, h⟩
      rcases List.mem_cons.mp hz with rfl | hz
      · exact hx
      · exact Int.lt_trans hx (h'.1 z hz)
    · split
      · exact h
      · refine List.pairwise_cons.mpr ⟨fun z hz => ?_, pw_ins h'.2⟩
        rcases mem_ins.mp hz with rfl | hz
        · omega
        · exact h'.1 z hz
theorem pw_sortU : ∀ l : List Int, (sortU l).Pairwise (· < ·)
  | [] => .nil
  | x :: r => pw_ins (pw_sortU r)
theorem pw_eq : ∀ {l1 l2 : List Int}, l1.Pairwise (· < ·) → l2.Pairwise (· < ·) → (∀ k, k ∈ l1 ↔ k ∈ l2) → l1 = l2
  | [], [], _, _, _ => rfl
  | [], b :: r, _, _, h => absurd ((h b).mpr List.mem_cons_self) (by simp)
  | a :: r, [], _, _, h => absurd ((h a).mp List.mem_cons_self) (by simp)
  | a :: r1, b :: r2, h1, h2, h => by
    have g1 := List.pairwise_cons.mp h1
    have g2 := List.pairwise_cons.mp h2
    have e : a = b := by
      rcases List.mem_cons.mp ((h a).mp List.mem_cons_self) with e | m
      · exact e
      · rcases List.mem_cons.mp ((h b).mpr List.mem_cons_self) with e | m'
        · exact e.symm
        · have := g2.1 a m
          have := g1.1 b m'
          omega
    subst e
    congr 1
    refine pw_eq g1.2 g2.2 fun k => ⟨fun m => ?_, fun m => ?_⟩
    · rcases List.mem_cons.mp ((h k).mp (List.mem_cons_of_mem _ m)) with e | m'
      · have := g1.1 k m; omega
      · exact m'
    · rcases List.mem_cons.mp ((h k).mpr (List.mem_cons_of_mem _ m)) with e | m'
      · have := g2.1 k m; omega
      · exact m'
section
variable {X : Cx} {a : Expr} {fa : EvE} {p p2 pos q2 : Pos}
/-- set(a tuple of ints) -/
def rSetTI (K : PySem.W.Frag) (w : World) : List V → Hp → VK → Prop := fun vs H Q => ∃ (l : Addr) (ns : List Int), vs = [V.ref l] ∧ SqT K H l (ns.map V.int) ∧ ns.length < 64 ∧ ∀ (b : Addr) (c : Nat), H b = none → c ≤ ns.length → Q (.ref b) (upd H b (SetO w b (fun j => decide (j ∈ ns)) c))
theorem cr_setTI (hc : X.calm = true) : CallR X (.type "set") (rSetTI X.K X.w) := by
  intro pins s σ H vs us Q I r ⟨l, ns, ev, hq, h64, q⟩
  subst ev
  rw [Vals.ref1 r]
  obtain ⟨its, rv, pl, _⟩ := I.tuple hq
  refine call_set_tupI ns (I.ok.hd hc) pl (intsAre_of (by simpa using rv)) (Nat.lt_trans (show ns.length + 1 < 100 by omega) (by decide +kernel)) fun h' tk c R hcl k => ?_
  have hn : H s.heap.objs.size = none := I.hok.fresh (Nat.le_refl _)
  exact ⟨.ref s.heap.objs.size, _, I.laid (t' := tk) k (Nat.le_refl _) (setO_new R), rfl, q _ c hn hcl⟩
/-- sorted(set(a tuple of ints)) -/
def fSortSet (fa : EvE) : EvE := fun S => match fa S with
  | some (.tup xs, μ1) => match intsOf xs with
    | some ns => if ns.length < 64 then some (.lst ((sortU ns).map D.int), μ1) else none
    | none => none
  | _ => none
theorem de_sortSet (hc : X.calm = true) (hg : Gl X "sorted") (hm : X.mg "sorted" = none) (hg2 : Gl X "set") (hm2 : X.mg "set" = none) (ha : PE X a (tF X.K fa)) (he : starEach [a] X.env = (false, eval a X.env) :: starEach [] X.env := by rfl)
    (he2 : starEach [.Call (.Name "set" p2) [a] [] q2] X.env = (false, eval (.Call (.Name "set" p2) [a] [] q2) X.env) :: starEach [] X.env := by rfl) (hpl : (backTo q2 (starEach [] X.env)).any (·.1) = false := by rfl) (hpl2 : (backTo pos (starEach [] X.env)).any (·.1) = false := by rfl) :
    PE X (.Call (.Name "sorted" p) [.Call (.Name "set" p2) [a] [] q2] [] pos) (tF X.K (fSortSet fa)) :=
  (pe_callB (cr_sortedSet hc) hg hm (by decide +kernel) (pa_cons (pe_callTy (cr_setTI hc) hg2 hm2 (by decide +kernel) (pa_cons ha pa_nil he) (by decide) (by decide) he hpl) pa_nil he2) (by decide) (by decide) he2 hpl2).imp fun σ H Q ⟨as, S, d, μ', E, ed, q⟩ => by
    unfold fSortSet at ed
    split at ed
    · rename_i xs μ1 e1
      split at ed
      · rename_i ns e2
        split at ed
        · rename_i hl
          obtain ⟨rfl, rfl⟩ := pr_inj ed
          refine ⟨as, S, _, μ1, E, e1, fun v as1 H1 X1 r1 s1 => ?_⟩
          cases r1 with
          | @tup b vs ds t rs =>
            have ev := intsOf_ok rs e2
            subst ev
            refine ⟨b, ns, rfl, t.sq, hl, fun sa c hsa hcl => ⟨sa, _, c, rfl, upd_same, Nat.lt_of_le_of_lt hcl hl, fun ns' pp hs hmem _ hpp => ?_⟩⟩
            have e3 : ns' = sortU ns := pw_eq hs (pw_sortU ns) fun k => by rw [hmem k, mem_sortU, decide_eq_true_eq]
            subst e3
            have Y1 := Ext.new (o := SetO X.w sa (fun j => decide (j ∈ ns)) c) hsa (s1.out hsa)
            have t1 := s1.new (o := SetO X.w sa (fun j => decide (j ∈ ns)) c) hsa
            exact q _ as1 _ (X1.trans (Y1.trans (Ext.new hpp (t1.out hpp)) s1.trk) E.sto.trk) (.newL t1 hpp Reps.ints) (t1.new hpp)
        · cases ed
      · cases ed
    · cases ed
end

/-! ### unpacking any list or tuple -/
theorem PG.or {X : Cx} {e : Expr} {t u : TG} (h1 : PG X e t) (h2 : PG X e u) : PG X e (fun v σ H Q => t v σ H Q ∨ u v σ H Q) := ⟨fun pins s σ H v w Q I r z => z.elim (h1.run pins s σ H v w Q I r) (h2.run pins s σ H v w Q I r)⟩
def bSeq (n : Nat) (bs : Bds) : Bd := fun d S => match asQ d S.μ with
  | some xs => if xs.length = n then bs xs S else none
  | none => none
theorem dg_seq {X : Cx} {es : List Expr} {k : Nat} {pos : Pos} {bs : Bds} {ix : List Nat} {n : Nat} (hc : X.calm = true) (h : PGs X es (tGs X.K bs ix)) (hn : (assignEach es X.env).length = n := by rfl) (hst : (assignEach es X.env).findIdx? (·.1) = none := by rfl) :
    PG X (.Tuple es k pos) (tG X.K (bSeq n bs) ix) := PG.imp (PG.or (pg_tup hc h hn hst) (pg_lst hc h hn hst)) fun v σ H Q ⟨as, S, d, S', E, r, e, q⟩ => by
  unfold bSeq at e
  split at e
  · rename_i xs ex
    split at e
    · rename_i hl
      obtain ⟨a, vs, rfl, hq, rs⟩ := asQ_ok r E.sto ex
      rcases hq with hq | hq
      · exact .inr ⟨a, vs, rfl, hq, rs.length.trans hl, as, S, _, S', E, rs, e, q⟩
      · exact .inl ⟨a, vs, rfl, hq, rs.length.trans hl, as, S, _, S', E, rs, e, q⟩
    · cases e
  · cases e
end DL
set_option maxHeartbeats 3200000
/-! sorted(set(..)) of a list or tuple of pairs. -/
namespace L2
open PySem PySem.Spec PyProof.Rows
section
variable {P : Program} {w : World} {A : Around} {E : Value → Shared → Prop} {s : Shared}
/-- a set as it is made -/
abbrev set0 (w : World) : Obj := { cls := .type "set", dict := none, data := .set #[] 0 (.fresh 0 0 (!w.params.followText "set-order")) }
/-- set(a tuple of tuples) -/
theorem set_of_tup {l : Addr} {its : Array Value} (ks : List (Addr × List Int)) {Q : Value → Shared → Prop} (hh : A.handled = none) (hl : s.heap.IsTuple l its) (hit : its.toList = ks.map fun p => Value.ref p.1) (hk : ∀ p ∈ ks, IsT P w s.heap p.2 p.1) (few : ks.length < 64) (hu : A.units + 3 < cLine)
    (h : ∀ (h' : Heap) (tk : Nat) L es ep t, SetTR P w h' s.heap.objs.size L es ep t → Got ks ks.length L → (∀ b o, s.heap.get? b = some o → h'.get? b = some o) → Q (.ref s.heap.objs.size) { s with heap := h', toks := tk }) : wpAny (model P w) A (call (.type "set") [.ref l]) Q E s := by
  have sz : its.size = ks.length := by
    have q := congrArg List.length hit
    simpa using q
  obtain ⟨c, tl, mro⟩ := F.called_set.mro
  have made_ := F.called_set.made
  have sub_ := F.called_set.sub
  refine wpAny_call (codeAny_of_tree (show wpAny _ _ (callAny (.type "set") _) _ _ _ from ?_))
  refine wpAny_pure ⟨Code.quiet_builtin _ (by decide +kernel), codeAny_builtin F.entry_type_call ?_⟩
  rw [Around.under_plain (weight_type_call_type "set" [.ref l] []) rfl]
  have n1 := F.called_set.notType
  have n2 := F.called_set.canCreate
  have n3 := F.typeCall_set_1 (.ref l)
  repeat (any_goals (first | assumption | wp_step))

  refine codeAny_mono (code_set_led1 (.ref l) (E := E) (Q₁ := fun obj s₁ => obj = .ref s.heap.objs.size ∧ s₁ = { s with heap := s.heap.push (set0 w) }) ⟨rfl, rfl⟩) fun r s₁ hr => ?_
  cases r with
  | error e => exact hr
  | ok fl =>
    cases fl with
    | ret obj =>
      obtain ⟨rfl, rfl⟩ := hr
      have hS : (s.heap.push (set0 w)).get? s.heap.objs.size = some (set0 w) := Heap.get?_push_size _ rfl
      have hT : Shared.TypeIs { s with heap := s.heap.push (set0 w) } (.ref s.heap.objs.size) "set" := ⟨_, hS, rfl⟩
      have i1 := F.called_set.init.lookup
      have i2 := F.called_set.init.bind (.ref s.heap.objs.size)
      repeat (any_goals (first | assumption | wp_step))

      refine codeAny_mono (codeAny_call_builtin (R := wants (fun r s₂ => r = .none ∧ ∃ h' tk L es ep t, s₂ = { s with heap := h', toks := tk } ∧ SetTR P w h' s.heap.objs.size L es ep t ∧ Got ks ks.length L ∧ (∀ b o, s.heap.get? b = some o → h'.get? b = some o)) E) F.called_set.init.plain F.entry_set_init (check_set_init_1 hT ?_)) fun r₂ s₂ hr₂ => ?_
      · obtain ⟨⟨c0, d0, dt, sl⟩, hol, hcl, nl, hdl⟩ := hl
        simp only at hcl hdl
        subst hcl hdl
        have at1 : (s.heap.push (set0 w)).get? l = some { cls := .type "tuple", dict := d0, data := .seq its nl, slots := sl } := Heap.get?_push_of_some _ hol
        have s1 := F.sub_tuple_set
        have s2 := F.sub_tuple_frozenset
        have s3 : (Value.type "tuple" == Value.type "dict") = false := by decide
        have isT : (s.heap.push (set0 w)).IsTuple l its := ⟨_, at1, rfl, nl, rfl⟩
        unfold Builtin.«set.__init__» noKeywords Builtin.Frozenset.updateFrom
        generalize hPI : pyIter = PI
        wp_walk
        subst hPI

        refine wpAny_pyIter_tuple isT (wpAny_bind (wpAny_runValue ?_))
        have hlS : l < s.heap.objs.size := Heap.lt_size hol
        have hd3 : A.in1.in1.in1.handled = none := by simp [hh]
        have neI : l ≠ (s.heap.push (set0 w)).objs.size := by
          rw [Heap.size_push]
          exact fun z => Nat.lt_irrefl _ (Nat.lt_of_le_of_lt (Nat.le_of_eq z.symm) (Nat.lt_succ_of_lt hlS))
        have out : s.heap.objs.size ∉ [(s.heap.push (set0 w)).objs.size, l] := by
          rw [Heap.size_push]; simp only [List.mem_cons, List.not_mem_nil, or_false, not_or]
          exact ⟨fun z => Nat.lt_irrefl _ (Nat.lt_of_lt_of_le (Nat.lt_succ_self _) (Nat.le_of_eq z.symm)), fun z => Nat.lt_irrefl _ (Nat.lt_of_lt_of_le hlS (Nat.le_of_eq z))⟩
        have val : ∀ (i : Nat) (v : Value), its[i]? = some v → ∃ p, ks[i]? = some p ∧ v = .ref p.1 := fun i v hv => by
          have q : its.toList[i]? = some v := (Array.getElem?_toList ..).trans hv
          rw [hit, List.getElem?_map] at q
          obtain ⟨p, e1, e2⟩ := Option.map_eq_some_iff.mp q
          exact ⟨p, e1, e2.symm⟩
        have fresh : ∀ b, s.heap.objs.size ≤ b → s.heap.get? b = none := fun b hb => by
          cases q : s.heap.get? b with
          | none => rfl
          | some o => exact absurd (Heap.lt_size q) (Nat.not_lt.mpr hb)
        refine set_update_tups ((Walks.tuple hd3 _ l neI its).toS) s.heap.objs.size out ks sz few val s.heap hk (fresh _ (Nat.le_refl _)) (fun b hb => fresh b (by rw [List.mem_singleton.mp hb, Heap.size_push]; omega)) hu (its.size - 0) 0 _ (by omega) (Nat.zero_le _)
          ⟨⟨_, Heap.get?_push_size _ rfl, rfl, rfl⟩, (isT.push _)⟩ (fun b o e => Heap.get?_push_of_some _ (Heap.get?_push_of_some _ e)) ?first ?last
        case first => exact ⟨[], #[], 0, _, setTR_fresh (Heap.get?_push_of_some _ hS), Got.zero ks⟩
        case last =>
          intro s' L es ep t hm hS' got keep
          obtain ⟨h', g2, d', tk', os'⟩ := s'
          have z1 : g2 = s.gens := hm.gens
          have z2 : d' = s.drawn := hm.drawn
          have z3 : os' = s.os := hm.os
          subst z1 z2 z3
          refine wpAny_pure (show wpAny _ _ (ret Value.none) _ _ _ from ?_)
          rw [sz] at got
          exact wpAny_pure ⟨rfl, h', tk', L, es, ep, t, rfl, hS', got, keep⟩

      · cases r₂ with
        | error e => exact hr₂
        | ok fl₂ =>
          cases fl₂ with
          | ret r =>
            obtain ⟨rfl, h', tk, L, es, ep, t, rfl, hS', got, keep⟩ := hr₂
            repeat (any_goals (first | assumption | wp_step))
            exact h _ _ _ _ _ _ hS' got keep
          | _ => exact hr₂.elim
    | _ => exact hr.elim
end
section
variable {X : Cx}
/-- set(a tuple, or a list, of tuples of ints) -/
def rSetTT (K : PySem.W.Frag) (P : Program) (w : World) : List V → Hp → VK → Prop := fun xs H Q => ∃ (l : Addr) (ks : List (Addr × List Int)), xs = [V.ref l] ∧ (SqL K H l (ks.map fun p => V.ref p.1) ∨ SqT K H l (ks.map fun p => V.ref p.1)) ∧ (∀ p ∈ ks, SqT K H p.1 (p.2.map V.int)) ∧ ks.length < 64 ∧
  ∀ a L, H a = none → (∀ p ∈ L, p ∈ ks) → (∀ p ∈ ks, p.2 ∈ L.map (·.2)) → Q (.ref a) (upd H a (SetTO P w a L))
theorem cr_setTT (hc : X.calm = true) (hu : X.A.units + 64 < cLine) : CallR X (.type "set") (rSetTT X.K X.prog X.w) := by
  intro pins s σ H xs us Q I r ⟨l, ks, e, hl, hk, few, q⟩
  subst e
  rcases hl with hl | hl
  · exact cr_setOfT hc hu pins s σ H _ us Q I r ⟨l, ks, rfl, hl, hk, few, q⟩
  · rw [Vals.ref1 r]
    obtain ⟨its, rv, pl, hz⟩ := I.tuple hl
    have hn : H s.heap.objs.size = none := I.hok.fresh (Nat.le_refl _)
    refine set_of_tup (P := X.prog) (w := X.w) ks (I.ok.hd hc) pl (by simpa using refs_of_vals rv) (fun p hp => I.isT (hk p hp)) few (by omega) fun h' tk L es ep t R g k => ?_
    exact ⟨.ref s.heap.objs.size, _, I.laid (t' := tk) k (Nat.le_refl _) (setTO_new R.t0), rfl, q _ L hn (fun p hp => List.mem_of_mem_take (g.sub p hp)) fun p hp => g.all p (by rw [List.take_length]; exact hp)⟩
end
end L2
namespace DL
open PySem L2
theorem intsOf_map : ∀ l : List Int, intsOf (l.map D.int) = some l
  | [] => rfl
  | x :: l => by
    show (intsOf (l.map D.int)).map (x :: ·) = some (x :: l)
    rw [intsOf_map l]
    rfl
/-- pairs of numbers below 64 -/
def pairOf : D → Option (Int × Int)
  | .tup [.int a, .int b] => if 0 ≤ a ∧ a < 64 ∧ 0 ≤ b ∧ b < 64 then some (a, b) else none
  | _ => none
def pairsOf : List D → Option (List (Int × Int))
  | [] => some []
  | d :: ds => match pairOf d, pairsOf ds with
    | some p, some ps => some (p :: ps)
    | _, _ => none
def pD (p : Int × Int) : D := .tup [.int p.1, .int p.2]
def cdP (p : Int × Int) : Int := p.1 * 64 + p.2
def unP (c : Int) : Int × Int := (c / 64, c % 64)
def okP (p : Int × Int) : Prop := 0 ≤ p.1 ∧ p.1 < 64 ∧ 0 ≤ p.2 ∧ p.2 < 64
theorem un_cd {p : Int × Int} (h : okP p) : unP (cdP p) = p := by
  obtain ⟨a, b⟩ := p
  obtain ⟨h1, h2, h3, h4⟩ := h
  simp only at h1 h2 h3 h4
  unfold unP cdP
  ext <;> simp only <;> omega
/-- in ascending order, each once -/
def sortP (ps : List (Int × Int)) : List (Int × Int) := (sortU (ps.map cdP)).map unP
theorem pairOf_out {d : D} {p : Int × Int} (e : pairOf d = some p) : d = pD p ∧ okP p := by
  unfold pairOf at e
  split at e
  · split at e
    · rename_i h
      cases e
      exact ⟨rfl, h⟩
    · cases e
  · cases e
theorem pairsOf_out : ∀ {ds : List D} {ps : List (Int × Int)}, pairsOf ds = some ps → ds = ps.map pD ∧ ∀ p ∈ ps, okP p
  | [], ps, e => by cases e; exact ⟨rfl, by simp⟩
  | d :: ds, ps, e => by
    unfold pairsOf at e
    split at e
    · rename_i p qs e1 e2
      cases e
      obtain ⟨rfl, h1⟩ := pairOf_out e1
      obtain ⟨rfl, h2⟩ := pairsOf_out e2
      exact ⟨rfl, fun x hx => (List.mem_cons.mp hx).elim (fun z => z ▸ h1) (h2 x)⟩
    · cases e
theorem reps_pairs {K : PySem.W.Frag} {as : Ar} {H : Hp} : ∀ {ps : List (Int × Int)} {vs : List V}, Reps K as H vs (ps.map pD) → ∃ ks : List (Addr × List Int), vs = ks.map (fun p => V.ref p.1) ∧ ks.map (·.2) = ps.map (fun p => [p.1, p.2]) ∧ ∀ p ∈ ks, SqT K H p.1 (p.2.map V.int) ∧ Rep K as H (.ref p.1) (.tup (p.2.map D.int))
  | [], _, r => by cases r; exact ⟨[], rfl, rfl, by simp⟩
  | p :: ps, _, r => by
    cases r with
    | cons r1 r2 =>
    obtain ⟨ks, e1, e2, e3⟩ := reps_pairs r2
    cases r1 with
    | @tup a vs ds t rs =>
      have ev : vs = [p.1, p.2].map V.int := by
        cases rs with
        | cons a1 a2 =>
        cases a2 with
        | cons b1 b2 =>
        cases b2
        cases a1
        cases b1
        rfl
      subst ev
      refine ⟨(a, [p.1, p.2]) :: ks, by rw [e1]; rfl, by rw [List.map_cons, e2]; rfl, fun x hx => ?_⟩
      rcases List.mem_cons.mp hx with rfl | hx
      · exact ⟨t.sq, .tup t rs⟩
      · exact e3 x hx
section
variable {X : Cx} {a : Expr} {fa : EvE} {p p2 pos q2 : Pos}
def fSortSetP (fa : EvE) : EvE := fun S => match fa S with
  | some (x, μ1) => match asQ x μ1 with
    | some xs => match pairsOf xs with
      | some ps => if ps.length < 64 then some (.lst ((sortP ps).map pD), μ1) else none
      | none => none
    | none => none
  | _ => none
/-- the sorted set's items, by the kit's words of them -/
theorem sorted_items {ps : List (Int × Int)} {ks L L' : List (Addr × List Int)} (hp : ∀ p ∈ ps, okP p) (e : ks.map (·.2) = ps.map fun p => [p.1, p.2]) (s1 : ∀ p ∈ L, p ∈ ks) (s2 : ∀ p ∈ ks, p.2 ∈ L.map (·.2)) (pm : L'.Perm L) (nd : (L'.map (·.2)).Nodup) (pw : L'.Pairwise fun q r => TS.code 64 q.2 ≤ TS.code 64 r.2) :
    L'.map (fun q => D.tup (q.2.map D.int)) = (sortP ps).map pD := by
  have shape : ∀ q ∈ ks, ∃ p ∈ ps, q.2 = [p.1, p.2] := fun q hq => by
    have z : q.2 ∈ ks.map (·.2) := List.mem_map.mpr ⟨q, hq, rfl⟩
    rw [e] at z
    obtain ⟨p, h1, h2⟩ := List.mem_map.mp z
    exact ⟨p, h1, h2.symm⟩
  have shape' : ∀ q ∈ L', ∃ p ∈ ps, q.2 = [p.1, p.2] := fun q hq => shape q (s1 q (pm.mem_iff.mp hq))
  have cd : ∀ p : Int × Int, TS.code 64 [p.1, p.2] = cdP p := fun p => code_pair p.1 p.2
  have key : L'.map (fun q => TS.code 64 q.2) = sortU (ps.map cdP) := by
    refine pw_eq ?_ (pw_sortU _) fun k => ?_
    · rw [List.pairwise_map]
      have nd' : L'.Pairwise fun q r => q.2 ≠ r.2 := by
        have z := nd
        rw [List.Nodup, List.pairwise_map] at z
        exact z
      refine (pw.and nd').imp_of_mem fun {q r} hq hr ⟨h1, h2⟩ => ?_
      obtain ⟨p1, m1, e1⟩ := shape' q hq
      obtain ⟨p3, m2, e2⟩ := shape' r hr
      rw [e1, e2] at h1 h2 ⊢
      rw [cd, cd] at h1 ⊢
      refine Int.lt_iff_le_and_ne.mpr ⟨h1, fun z => h2 ?_⟩
      have z2 := congrArg unP z
      rw [un_cd (hp _ m1), un_cd (hp _ m2)] at z2
      rw [z2]
    · rw [mem_sortU, List.mem_map, List.mem_map]
      constructor
      · rintro ⟨q, hq, rfl⟩
        obtain ⟨p, m, ep⟩ := shape' q hq
        exact ⟨p, m, by rw [ep, cd]⟩
      · rintro ⟨p, m, rfl⟩
        have z : [p.1, p.2] ∈ ks.map (·.2) := by rw [e]; exact List.mem_map.mpr ⟨p, m, rfl⟩
        obtain ⟨q, hq, eq⟩ := List.mem_map.mp z
        obtain ⟨q', hq', eq'⟩ := List.mem_map.mp (s2 q hq)
        exact ⟨q', pm.mem_iff.mpr hq', by rw [eq', eq, cd]⟩
  unfold sortP
  rw [← key, List.map_map, List.map_map]
  refine List.map_congr_left fun q hq => ?_
  obtain ⟨p, m, ep⟩ := shape' q hq
  show D.tup (q.2.map D.int) = pD (unP (TS.code 64 q.2))
  rw [ep, cd, un_cd (hp p m)]
  rfl
theorem de_sortSetP (hc : X.calm = true) (hu : X.A.units + 64 < cLine) (hg : Gl X "sorted") (hm : X.mg "sorted" = none) (hg2 : Gl X "set") (hm2 : X.mg "set" = none) (ha : PE X a (tF X.K fa)) (he : starEach [a] X.env = (false, eval a X.env) :: starEach [] X.env := by rfl)
    (he2 : starEach [.Call (.Name "set" p2) [a] [] q2] X.env = (false, eval (.Call (.Name "set" p2) [a] [] q2) X.env) :: starEach [] X.env := by rfl) (hpl : (backTo q2 (starEach [] X.env)).any (·.1) = false := by rfl) (hpl2 : (backTo pos (starEach [] X.env)).any (·.1) = false := by rfl) :
    PE X (.Call (.Name "sorted" p) [.Call (.Name "set" p2) [a] [] q2] [] pos) (tF X.K (fSortSetP fa)) :=
  (pe_callB (cr_sortedT hc) hg hm (by decide +kernel) (pa_cons (pe_callTy (cr_setTT hc hu) hg2 hm2 (by decide +kernel) (pa_cons ha pa_nil he) (by decide) (by decide) he hpl) pa_nil he2) (by decide) (by decide) he2 hpl2).imp fun σ H Q ⟨as, S, d, μ', E, ed, q⟩ => by
    unfold fSortSetP at ed
    split at ed
    · rename_i x μ1 e1
      split at ed
      · rename_i xs ex
        split at ed
        · rename_i ps e2
          split at ed
          · rename_i hl
            obtain ⟨rfl, rfl⟩ := pr_inj ed
            obtain ⟨rfl, hp⟩ := pairsOf_out e2
            refine ⟨as, S, _, μ1, E, e1, fun v as1 H1 X1 r1 s1 => ?_⟩
            obtain ⟨b, vs, rfl, hq, rs⟩ := asQ_ok r1 s1 ex
            obtain ⟨ks, rfl, k2, k3⟩ := reps_pairs rs
            have hlen : ks.length < 64 := by
              have z := congrArg List.length k2
              simp only [List.length_map] at z
              omega
            refine ⟨b, ks, rfl, hq, fun p hp => (k3 p hp).1, hlen, fun sa L hsa sub all => ?_⟩
            have Y1 := Ext.new (o := SetTO X.prog X.w sa L) hsa (s1.out hsa)
            have t1 := s1.new (o := SetTO X.prog X.w sa L) hsa
            have el : ∀ p ∈ L, p.2.length = 2 ∧ TS.Bd 64 p.2 := fun p hpL => by
              have z : p.2 ∈ ks.map (·.2) := List.mem_map.mpr ⟨p, sub p hpL, rfl⟩
              rw [k2] at z
              obtain ⟨pp, m, e⟩ := List.mem_map.mp z
              rw [← e]
              obtain ⟨g1, g2, g3, g4⟩ := hp pp m
              refine ⟨rfl, fun n hn => ?_⟩
              rcases List.mem_cons.mp hn with rfl | hn
              · exact ⟨g1, g2⟩
              · rw [List.mem_singleton.mp hn]
                exact ⟨g3, g4⟩
            refine ⟨sa, L, 2, 64, rfl, upd_same, fun p hpL => ?_, by decide, el, fun L' pp pm nd few pw hpp => ?_⟩
            · have r := ((k3 p (sub p hpL)).2).mv Y1
              cases r with
              | @tup _ vs2 _ t rs2 =>
                have ev := intsOf_ok (bs := p.2) rs2 (intsOf_map _)
                subst ev
                exact t.sq
            · have rl : Reps X.K as1 (upd (upd H1 sa (SetTO X.prog X.w sa L)) pp (.lst (L'.map fun q => V.ref q.1))) (L'.map fun q => V.ref q.1) (L'.map fun q => D.tup (q.2.map D.int)) := by
                have Z := Ext.new (o := .lst (L'.map fun q => V.ref q.1)) hpp (t1.out hpp)
                have all' : ∀ q ∈ L', Rep X.K as1 (upd (upd H1 sa (SetTO X.prog X.w sa L)) pp (.lst (L'.map fun q => V.ref q.1))) (.ref q.1) (.tup (q.2.map D.int)) := fun q hq => (((k3 q (sub q (pm.mem_iff.mp hq))).2).mv Y1).mv Z
                have go : ∀ M : List (Addr × List Int), (∀ q ∈ M, q ∈ L') → Reps X.K as1 (upd (upd H1 sa (SetTO X.prog X.w sa L)) pp (.lst (L'.map fun q => V.ref q.1))) (M.map fun q => V.ref q.1) (M.map fun q => D.tup (q.2.map D.int)) := by
                  intro M
                  induction M with
                  | nil => intro _; exact .nil
                  | cons q M ih => intro h; exact .cons (all' q (h q List.mem_cons_self)) (ih fun z hz => h z (List.mem_cons_of_mem _ hz))
                exact go L' fun _ h => h
              rw [← sorted_items hp k2 sub all pm nd pw] at q
              have W := t1.new (o := .lst (L'.map fun q => V.ref q.1)) hpp
              exact q _ as1 _ (X1.trans (Y1.trans (Ext.new hpp (t1.out hpp)) s1.trk) E.sto.trk) (.lst upd_same (t1.out hpp) rl) W
          · cases ed
        · cases ed
      · cases ed
    · cases ed
end
end DL
set_option maxHeartbeats 2000000
/-! Tuples: max, order, +, *; get of a written table; classes by name. -/
namespace DL
open PySem PySem.Spec PyProof.Rows L2
section
variable {X : Cx}
/-! ### max of a tuple -/
def dMaxA : D → List Cell → Option D := fun x μ => match x with
  | .tup xs => match intsOf xs with
    | some (n :: ns) => some (.int (ns.foldl max n))
    | _ => none
  | x => dMaxL x μ
theorem reads_ints {h : Heap} : ∀ {us : List Value} {ns : List Int}, Vals (ns.map V.int) us → ∃ as, ReadsAll h us (ns.map PyData.int) as
  | _, [], r => by cases r; exact ⟨_, .nil⟩
  | _, n :: ns, r => by
    cases r with
    | cons r1 r2 =>
    obtain ⟨t, rfl⟩ := r1
    obtain ⟨as, q⟩ := reads_ints (h := h) r2
    exact ⟨_, .cons (.int n t) q⟩
theorem alike_ints (ns : List Int) : PySem.W.AlikeAll (ns.map PyData.int) := by
  refine ⟨fun x hx y hy => ?_, fun x hx => ?_⟩
  · obtain ⟨i, _, rfl⟩ := List.mem_map.mp hx
    obtain ⟨j, _, rfl⟩ := List.mem_map.mp hy
    rfl
  · obtain ⟨i, _, rfl⟩ := List.mem_map.mp hx
    exact nofun
theorem depth_ints : ∀ ns : List Int, PyData.depthAll (ns.map PyData.int) = 0
  | [] => rfl
  | n :: ns => by
    show max (PyData.int n).depth (PyData.depthAll (ns.map PyData.int)) = 0
    rw [depth_ints ns]
    rfl
theorem call_maxAD (hc : X.calm = true) (hu : X.A.units + 64 < cLine) : CallR X (.builtin "max") (rCD X.K (g1 dMaxA)) := call1 fun pins s σ H x us Q as d μ z I r rd sto ez q => by
  unfold dMaxA at ez
  split at ez
  · split at ez
    · rename_i n ns e1
      cases Option.some.inj ez
      obtain ⟨u, rfl, ru⟩ := Vals.one r
      cases rd with
      | @tup a vs _ t rs =>
        have ev := intsOf_ok rs e1
        subst ev
        cases ru
        obtain ⟨its, rv, pl, _⟩ := I.tuple t.sq
        obtain ⟨bs, rr⟩ := reads_ints (h := s.heap) (ns := n :: ns) rv
        refine PySem.W.max_tuple_data (x := .int n) (xs := ns.map PyData.int) (I.ok.hd hc) pl (by simpa using rr) (alike_ints (n :: ns)) (by rw [show PyData.int n :: ns.map PyData.int = (n :: ns).map PyData.int from rfl, depth_ints]; omega) fun i v h' tk cs hv rd' k => ?_
        rw [PySem.W.maxD_ints] at rd'
        cases rd' with
        | int _ t' => exact ⟨.int _, H, I.kept k, ⟨t', rfl⟩, q _ H .refl (.int _) sto⟩
    · cases ez
  · exact call_maxLD hc pins s σ H _ us Q I r ⟨as, [d], μ, z, .cons rd .nil, sto, ez, q⟩
/-! ### the order of tuples of ints -/
def ltT (x y : D) : Option Bool := match x, y with
  | .tup xs, .tup ys => match intsOf xs, intsOf ys with
    | some ns, some ms => some (HT.lexLt ns ms)
    | _, _ => none
  | _, _ => none
def dLtA : D → D → List Cell → Option D := fun x y μ => (dLt x y μ).or ((ltT x y).map .bl)
theorem dLtA_bl : ∀ x y μ z, dLtA x y μ = some z → ∃ k, z = .bl k := fun x y μ z e => by
  rcases or_out e with e | e
  · exact dOrd_bl x y μ z e
  · exact map_bl (f := fun k => k) e
theorem op_ltAD (hu : X.A.units < cLine) : OpR X (compareOp .Lt) (rD X.K dLtA) := by
  intro pins s σ H x y v u Q I rx ry ⟨as, d, e, μ, z, rd, re, sto, ez, q⟩
  rcases or_out ez with ez | ez
  · exact op_ltD pins s σ H x y v u Q I rx ry ⟨as, d, e, μ, z, rd, re, sto, ez, q⟩
  · obtain ⟨k, ek, rfl⟩ := Option.map_eq_some_iff.mp ez
    unfold ltT at ek
    split at ek
    · split at ek
      · rename_i ns ms e1 e2
        cases Option.some.inj ek
        cases rd with
        | tup t1 r1 =>
        cases re with
        | tup t2 r2 =>
        have z1 := intsOf_ok r1 e1
        have z2 := intsOf_ok r2 e2
        subst z1 z2
        exact op_ltT hu pins s σ H _ _ v u Q I rx ry ⟨_, _, ns, ms, rfl, rfl, t1.sq, t2.sq, q _ H .refl (.bl _) sto⟩
      · cases ek
    · cases ek
/-! ### + -/
def dAddA : D → D → List Cell → Option D := fun x y μ => match x, y with
  | .tup xs, .tup ys => if xs.length + ys.length ≤ sizeLine then some (.tup (xs ++ ys)) else none
  | x, y => dAdd x y μ
theorem op_addAD : OpR X (binaryOp .Add) (rD X.K dAddA) := by
  intro pins s σ H x y v u Q I rx ry ⟨as, d, e, μ, z, rd, re, sto, ez, q⟩
  unfold dAddA at ez
  split at ez
  · rename_i xs ys
    split at ez
    · rename_i hl
      cases Option.some.inj ez
      cases rd with
      | @tup a vs _ t1 r1 =>
      cases re with
      | @tup b ws _ t2 r2 =>
      have l1 := r1.length
      have l2 := r2.length
      refine op_catA pins s σ H _ _ v u Q I rx ry ⟨a, b, vs, ws, rfl, rfl, t1.sq, t2.sq, by omega, fun h1 => ?_, fun h1 h2 => ?_, fun h1 h2 p hp => ?_⟩
      · subst h1
        cases r1
        exact q _ H .refl (.tup t2 r2) sto
      · subst h2
        cases r2
        rw [List.append_nil] at q
        exact q _ H .refl (.tup t1 r1) sto
      · have X1 := Ext.new (o := .tup (vs ++ ws)) hp (sto.out hp)
        exact q _ _ X1 (.tup (.inl ⟨.inl upd_same, sto.out hp⟩) ((r1.append r2).mv X1)) (sto.new hp)
    · cases ez
  · exact op_addD pins s σ H x y v u Q I rx ry ⟨as, d, e, μ, z, rd, re, sto, ez, q⟩
/-! ### a class by its name -/
theorem de_gcls {x : Str} {C : Addr} {pos : Pos} (hc : PySem.W.nsIn X.K mainGlobals x = some (some (.ref C))) (hg : Gl X x) (hm : X.mg x = some (.ref C)) (hdb : (x == ("__debug__" : Str)) = false := by decide) : PE X (.Name x pos) (tF X.K (fC (.cls x))) :=
  (pe_glob (v := .ref C) hg hm rfl (hd := hdb)).imp (tF_c fun _ _ => .cls hc)
/-- isinstance(x, C): by the table, for values of built-in types -/
def dIsC (nm : Str) (tab : String → Option Bool) : D → D → List Cell → Option D
  | d, .cls n, μ => if n = nm then (if isO nm d μ then some (.bl true) else match tyOf d μ with
    | some T => (tab T).map .bl
    | none => none) else none
  | _, _, _ => none
end
/-! ### d.get(x), d a written table from texts to ints -/
def KEnt (P : Params) : List DictEntry → List (Str × Int) → Prop
  | [], [] => True
  | e :: es, (x, i) :: l => (∃ t, e.key = .str x t ∧ e.hash = PyData.keyHash P x) ∧ (∃ t, e.val = .int i t) ∧ KEnt P es l
  | _, _ => False
theorem KEnt.lit {P : Params} : ∀ {es : List DictEntry} {l : List (Str × Int)}, KEnt P es l → PySem.W.KeysLit P es
  | [], [], _ => trivial
  | _ :: _, [], h => h.elim
  | [], _ :: _, h => h.elim
  | e :: es, (x, i) :: l, h => ⟨⟨x, h.1⟩, KEnt.lit h.2.2⟩
theorem KEnt.find {P : Params} (z : Str) : ∀ {es : List DictEntry} {l : List (Str × Int)}, KEnt P es l → (∀ i, l.lookup z = some i → ∃ e t, es.find? (·.key.isStr z) = some e ∧ e.val = .int i t) ∧ (l.lookup z = none → es.find? (·.key.isStr z) = none ∧ es.any (·.refKey) = false)
  | [], [], _ => ⟨fun i e => by simp at e, fun _ => ⟨rfl, rfl⟩⟩
  | _ :: _, [], h => h.elim
  | [], _ :: _, h => h.elim
  | e :: es, (x, i) :: l, h => by
    obtain ⟨⟨t, ek, _⟩, ⟨u, ev⟩, hr⟩ := h
    obtain ⟨ih1, ih2⟩ := KEnt.find z hr
    have hk : e.key.isStr z = (x == z) := by rw [ek]; rfl
    have hrk : e.refKey = false := by unfold DictEntry.refKey; rw [ek]
    by_cases hz : x = z
    · subst hz
      have e1 : (x == x) = true := beq_self_eq_true x
      refine ⟨fun j hj => ?_, fun hj => ?_⟩
      · rw [List.lookup_cons, e1] at hj
        cases hj
        exact ⟨e, u, by rw [List.find?_cons, hk, e1], ev⟩
      · rw [List.lookup_cons, e1] at hj
        cases hj
    · have e1 : (x == z) = false := beq_eq_false_iff_ne.mpr hz
      have e2 : (z == x) = false := beq_eq_false_iff_ne.mpr (Ne.symm hz)
      refine ⟨fun j hj => ?_, fun hj => ?_⟩
      · rw [List.lookup_cons, e2] at hj
        obtain ⟨e', t', a, b⟩ := ih1 j hj
        exact ⟨e', t', by rw [List.find?_cons, hk, e1]; exact a, b⟩
      · rw [List.lookup_cons, e2] at hj
        obtain ⟨a, b⟩ := ih2 hj
        exact ⟨by rw [List.find?_cons, hk, e1]; exact a, by rw [List.any_cons, hrk, b]; rfl⟩
structure KTab (K : PySem.W.Frag) (P : Params) (a : Addr) (l : List (Str × Int)) : Prop where
  ex : ∃ es n, K.lookup a = some ⟨.type "dict", none, .dict es n, #[]⟩ ∧ KEnt P es.toList l
  low : (a == sysModules) = false
section
variable {X : Cx} {a : Expr} {fa : EvE} {p apos cpos : Pos} {x : Str} {l : List (Str × Int)} {d : Addr}
def dKGet (l : List (Str × Int)) : D → List Cell → Option D
  | .str z, _ => some (match l.lookup z with
    | some i => .int i
    | none => .non)
  | _, _ => none
theorem de_kget (hg : Gl X x) (hm : X.mg x = some (.ref d)) (T : KTab X.K X.w.params d l) (he : PE X a (tF X.K fa)) (hdb : (x == ("__debug__" : Str)) = false := by decide) (base : attributeBase (.Name x p) "get" X.env (eval (.Name x p) X.env) = eval (.Name x p) X.env := by rfl)
    (few : ((backTo cpos (starEach [a] X.env)).all (fun x => !x.1) && (backToKw cpos (keywordEach [] X.env)).all (fun x => x.1.isSome) && decide (([a] : List Expr).length + ([] : List Keyword).length + (if ([] : List Keyword).isEmpty then 0 else 1) < 30)) = true := by rfl)
    (line : (apos.endLine == cpos.line) = true := by rfl) (trees : backTo cpos (starEach [a] X.env) = [(false, eval a X.env)] := by rfl) : PE X (.Call (.Attribute (.Name x p) "get" apos) [a] [] cpos) (tF X.K (fU (dKGet l) fa)) := by
  refine ⟨fun pins s σ H Q I ⟨as, S, r, μ', E, ed, q⟩ => ?_⟩
  obtain ⟨y, ey, ez⟩ := fU_out ed
  obtain ⟨⟨es, n, hl, ke⟩, low⟩ := T
  have hmap := PySem.W.mapOf_K (prog := X.prog) (w := X.w) I.kIn hl ke.lit
  refine wpAny_Call_method base few line PySem.F.plainAttrs_dict PySem.F.slot_dict_get PySem.F.type_dict_get (ld_glob I hg hm ⟨hmap.typeIs, fun b e => ?_, ?_⟩ hdb)
  · cases e
    exact ⟨_, I.kIn _ _ hl, rfl⟩
  · rw [trees]
    refine Calls.callWith_builtin rfl (Calls.evalArgs_plain (Calls.spliced_cons (thn (he.run pins s σ H (fun v H1 => ∃ as1, Ext as H as1 H1 ∧ Rep X.K as1 H1 v y ∧ StoR X.K as1 H1 μ') I ⟨as, S, y, μ', E, ey, fun v as1 H1 X1 r1 s1 => ⟨as1, X1, r1, s1⟩⟩) fun iv s2 ⟨v, H2, I2, rv, as1, X1, r1, s1⟩ => Calls.spliced_nil ?_)))
    unfold dKGet at ez
    split at ez
    · rename_i zz _
      cases Option.some.inj ez
      cases r1
      obtain ⟨t, rfl⟩ := rv
      have hmap2 := PySem.W.mapOf_K (prog := X.prog) (w := X.w) I2.kIn hl ke.lit
      refine call_meetsIn PySem.F.slot_dict_get hmap2.typeIs PySem.F.entry_dict_get (PySem.F.args_dict_get_2 _ _) (meets_dict_get (strKind X.prog X.w) d (strKind_is X.prog X.w zz t) low) ⟨_, hmap2, ?_⟩
      obtain ⟨k1, k2⟩ := KEnt.find zz ke
      cases e : l.lookup zz with
      | some i =>
        obtain ⟨en, t', f1, f2⟩ := k1 i e
        have hn : PySem.W.nsIn X.K d zz = some (some en.val) := by unfold PySem.W.nsIn; rw [hl]; dsimp only; rw [f1]
        rw [PySem.W.find_K hl hn, f2]
        exact ⟨.int i, H2, I2.tok _, ⟨t', rfl⟩, by rw [e] at q; exact q _ as1 H2 X1 (.int i) s1⟩
      | none =>
        obtain ⟨f1, f2⟩ := k2 e
        have hn : PySem.W.nsIn X.K d zz = some none := by unfold PySem.W.nsIn; rw [hl]; dsimp only; rw [f1]; dsimp only; rw [f2]; rfl
        rw [PySem.W.find_K hl hn]
        exact ⟨.non, H2, I2.tok _, rfl, by rw [e] at q; exact q _ as1 H2 X1 .non s1⟩
    · cases ez
end
end DL
set_option maxHeartbeats 4000000
namespace DL
open PySem PySem.Spec PyProof.Rows L2
open AutoSeq1 (wpAny_loadPart')
section
variable (l : Addr) (its : Array Value) (n : Nat) (dd : Option Addr) (sl : Array (Option Value)) (u : Tok)
theorem tuple_mul1 : Meets (Builtin.«tuple.__mul__» ⟨[.ref l, .int 1 u], []⟩) (fun _ R s => s.heap.get? l = some { cls := .type "tuple", dict := dd, data := .seq its n, slots := sl } ∧ R (.ok (.ret (Value.ref l))) s) :=
  .of_wp fun prog w A R s h => by
    obtain ⟨hp, g, d, tk, os⟩ := s
    obtain ⟨hl, h⟩ := h
    have f1 := AutoSeq1.idx_int
    have c0 : (decide ((1 : Int) < -(2 ^ 63)) || decide ((1 : Int) ≥ 2 ^ 63)) = false := by decide
    have c1 : (its.isEmpty || (1 : Int) == 1) = true := by simp
    wp_walk using wpAny_loadPart' hl
    repeat (first
      | (refine wpAny_ite_false (decide_eq_false (by rw [c0]; exact Bool.false_ne_true)) ?_; wp_walk using wpAny_loadPart' hl)
      | (refine wpAny_ite_true (decide_eq_true (by rw [c1])) ?_; wp_walk using wpAny_loadPart' hl))
    exact ⟨_, rfl, h⟩
theorem tuple_mul0 (c1 : its.isEmpty = false) : Meets (Builtin.«tuple.__mul__» ⟨[.ref l, .int 0 u], []⟩) (fun _ R s => s.heap.get? l = some { cls := .type "tuple", dict := dd, data := .seq its n, slots := sl } ∧ R (.ok (.ret (Value.ref s.heap.objs.size))) { s with heap := s.heap.push { cls := Value.type "tuple", data := Data.seq #[] }, toks := s.toks }) :=
  .of_wp fun prog w A R s h => by
    obtain ⟨hp, g, d, tk, os⟩ := s
    obtain ⟨hl, h⟩ := h
    have f1 := AutoSeq1.idx_int
    have c0 : (decide ((0 : Int) < -(2 ^ 63)) || decide ((0 : Int) ≥ 2 ^ 63)) = false := by decide
    have c2 : (its.isEmpty || (0 : Int) == 1) = false := by rw [c1]; rfl
    have c3 : (decide ((0 : Int) ≤ 0) || its.isEmpty) = true := by rw [c1]; rfl
    wp_walk using wpAny_loadPart' hl
    repeat (first
      | (refine wpAny_ite_false (decide_eq_false (by rw [c0]; exact Bool.false_ne_true)) ?_; wp_walk using wpAny_loadPart' hl)
      | (refine wpAny_ite_false (decide_eq_false (by rw [c2]; exact Bool.false_ne_true)) ?_; wp_walk using wpAny_loadPart' hl)
      | (refine wpAny_ite_true (decide_eq_true (by rw [c3])) ?_; wp_walk using wpAny_loadPart' hl))
    exact ⟨_, rfl, h⟩
end
section
variable {X : Cx}
def dMulA : D → D → List Cell → Option D := fun x y μ => match x, y with
  | .tup xs, .int k => if xs ≠ [] ∧ 0 ≤ k ∧ k ≤ 1000 ∧ xs.length ≤ 1000 then some (.tup (List.replicate k.toNat xs).flatten) else none
  | x, y => dMul x y μ
theorem op_mulAD : OpR X (binaryOp .Mult) (rD X.K dMulA) := by
  intro pins s σ H x y v u Q I rx ry ⟨as, d, e, μ, z, rd, re, sto, ez, q⟩
  unfold dMulA at ez
  split at ez
  · rename_i xs k
    split at ez
    · rename_i hk
      obtain ⟨hne, h0, h1, hz⟩ := hk
      cases Option.some.inj ez
      cases re
      cases rd with
      | @tup a vs _ t rs =>
      have lv := rs.length
      have vne : vs ≠ [] := fun z => by subst z; cases rs; exact hne rfl
      by_cases k2 : 2 ≤ k
      · refine op_repT pins s σ H _ _ v u Q I rx ry ⟨a, k, vs, rfl, rfl, t.sq, vne, k2, h1, by omega, fun p hp => ?_⟩
        have X1 := Ext.new (o := .tup (List.replicate k.toNat vs).flatten) hp (sto.out hp)
        exact q _ _ X1 (.tup (.inl ⟨.inl upd_same, sto.out hp⟩) ((rs.reps k.toNat).mv X1)) (sto.new hp)
      · cases rx
        obtain ⟨tk, rfl⟩ := ry
        obtain ⟨its, r, ⟨⟨cls, dd, data, sl⟩, ho, hc, n, hd⟩, hs⟩ := I.tuple t.sq
        simp only at hc hd
        subst hc hd
        have hi : its.toArray.isEmpty = false := by
          cases its with
          | nil => cases r; exact absurd rfl vne
          | cons a b => rfl
        have hk : k = 0 ∨ k = 1 := by omega
        rcases hk with rfl | rfl
        · refine wpAny_binaryOp_repeat_ref (T := "tuple") (U := "int") (by decide) ⟨_, ho, rfl⟩ (fun s' => typeIs_int s' 0 tk) noFill_tuple_mul F.fills_int_mul F.slot_int_rmul repeat_tuple F.slot_int_index.lookup (call_meets F.slot_int_rmul (typeIs_int s 0 tk) F.entry_int_rmul (F.args_int_rmul_2 _ _) (int_rmul_tuple 0 tk a its.toArray n dd sl)
            ⟨ho, rfl, ⟨_, ho, rfl⟩, call_meets F.slot_tuple_mul ⟨_, ho, rfl⟩ F.entry_tuple_mul (F.args_tuple_mul_2 _ _) (tuple_mul0 a its.toArray n dd sl tk hi) ⟨ho, ?_⟩⟩)
          have hp := I.hok.fresh (Nat.le_refl s.heap.objs.size)
          refine ⟨.ref s.heap.objs.size, _, I.laid (t' := s.toks) (o := .tup []) (fun b ob q => Heap.get?_push_of_some _ q) (Nat.le_refl _) ⟨Nat.zero_le _, [], .nil, IsTup.new _ _⟩, rfl, ?_⟩
          exact q _ _ (Ext.new hp (sto.out hp)) (.tup (.inl ⟨.inl upd_same, sto.out hp⟩) .nil) (sto.new hp)
        · refine wpAny_binaryOp_repeat_ref (T := "tuple") (U := "int") (by decide) ⟨_, ho, rfl⟩ (fun s' => typeIs_int s' 1 tk) noFill_tuple_mul F.fills_int_mul F.slot_int_rmul repeat_tuple F.slot_int_index.lookup (call_meets F.slot_int_rmul (typeIs_int s 1 tk) F.entry_int_rmul (F.args_int_rmul_2 _ _) (int_rmul_tuple 1 tk a its.toArray n dd sl)
            ⟨ho, rfl, ⟨_, ho, rfl⟩, call_meets F.slot_tuple_mul ⟨_, ho, rfl⟩ F.entry_tuple_mul (F.args_tuple_mul_2 _ _) (tuple_mul1 a its.toArray n dd sl tk) ⟨ho, ?_⟩⟩)
          refine ⟨.ref a, H, I, rfl, ?_⟩
          have e1 : (List.replicate (1 : Int).toNat xs).flatten = xs := by simp
          rw [e1] at q
          exact q _ H .refl (.tup t rs) sto
    · cases ez
  · exact op_mulD pins s σ H x y v u Q I rx ry ⟨as, d, e, μ, z, rd, re, sto, ez, q⟩
theorem call_isCD {nm : Str} {tab : String → Option Bool} {C : Addr} (hc : PySem.W.nsIn X.K mainGlobals nm = some (some (.ref C))) (c : C8.InsC X.K C) (ht : ∀ T b, tab T = some b → PySem.W.kitOne X.K (.type T) (.ref C) = some b) : CallR X (.builtin "isinstance") (rCD X.K (g2 (dIsC nm tab))) := call2 fun pins s σ H x y us Q as d e μ z I r rd re sto ez q => by
  unfold dIsC at ez
  split at ez
  · rename_i n
    split at ez
    · rename_i hn
      subst hn
      cases re with
      | @cls C' _ hc' =>
        have zz := hc.symm.trans hc'
        injection zz with zz
        injection zz with zz
        injection zz with zz
        subst zz
        split at ez
        · rename_i ho
          cases Option.some.inj ez
          obtain ⟨a, dx, fv, rfl, ha⟩ := isO_ok hc rd sto ho
          exact C8.call_isC c pins s σ H _ us Q I r ⟨a, dx, fv, rfl, ha, q _ H .refl (.bl _) sto⟩
        · split at ez
          · rename_i T eT
            obtain ⟨b, eb, rfl⟩ := Option.map_eq_some_iff.mp ez
            exact call_isi pins s σ H _ us Q I r ⟨x, _, _, _, b, rfl, .own C, (tyOf_ok rd sto eT).2, ht T b eb, q _ H .refl (.bl b) sto⟩
          · cases ez
    · cases ez
  · cases ez
end
end DL
set_option maxHeartbeats 2000000
/-! t[::-1] -/
namespace DL
open PySem PySem.Spec PyProof.Rows L2 HT
section
variable {prog : Program} {w : World} {A : Around} {E : Value → Shared → Prop} {s : Shared}
theorem adjust_rev (n : Nat) : Builtin.Slice.sliceAdjust none none (-1) (n : Int) = ((n : Int) - 1, -1) := by
  unfold Builtin.Slice.sliceAdjust
  simp
theorem places_rev (n : Nat) : Builtin.Slice.slicePlaces ((n : Int) - 1) (-1) (-1) = n := by
  unfold Builtin.Slice.slicePlaces
  simp
  all_goals omega
theorem applied_rev {sl : Addr} {vl vu vs : Value} {n : Nat} {Q : Int × Int × Nat → Shared → Prop} (hs : s.heap.IsSliceOf sl vl vu vs) (pl : IsPart vl none) (pu : IsPart vu none) (ps : IsPart vs (some (-1))) (h : Q ((n : Int) - 1, -1, n) s) :
    wpAny (model prog w) A (Builtin.Slice.sliceApplied (.ref sl) (pure (n : Int))) Q E s := by
  obtain ⟨os, o1, o2, o3⟩ := id hs
  unfold Builtin.Slice.sliceApplied Builtin.Slice.sliceFields
  refine wpAny_bind (wpAny_bind (wpAny_field o1 o3 (x := vl) rfl (wpAny_bind (wpAny_field o1 o3 (x := vu) rfl (wpAny_bind (wpAny_field o1 o3 (x := vs) rfl (wpAny_pure ?_)))))))
  refine wpAny_bind (slicePart_ ps ?_)
  show wpAny _ _ (if ((-1 : Int) == 0) = true then _ else _) _ _ s
  rw [if_neg (by decide)]
  refine wpAny_bind (slicePart_ pl (wpAny_bind (slicePart_ pu (wpAny_bind (wpAny_pure ?_)))))
  show wpAny _ _ (match Builtin.Slice.sliceAdjust none none (-1) (n : Int) with | (lo, hi) => pure (lo, (-1 : Int), Builtin.Slice.slicePlaces lo hi (-1))) _ _ s
  rw [adjust_rev n]
  show wpAny _ _ (pure ((n : Int) - 1, (-1 : Int), Builtin.Slice.slicePlaces ((n : Int) - 1) (-1) (-1))) _ _ s
  rw [places_rev]
  exact wpAny_pure h
theorem fm_congr {α β : Type} {f g : α → Option β} : ∀ {l : List α}, (∀ k ∈ l, f k = g k) → l.filterMap f = l.filterMap g
  | [], _ => rfl
  | x :: l, h => by
    rw [List.filterMap_cons, List.filterMap_cons, h x List.mem_cons_self, fm_congr fun k hk => h k (List.mem_cons_of_mem _ hk)]
theorem pick_rev (xs : Array Value) : ((List.range xs.size).filterMap fun (k : Nat) => xs[((xs.size : Int) - 1 + (k : Int) * (-1)).toNat]?).toArray = xs.toList.reverse.toArray := by
  have z := PySem.pick_run xs.toList.reverse.toArray 0 xs.size
  rw [List.filterMap_map] at z
  have e : (List.range xs.size).filterMap (fun (k : Nat) => xs[((xs.size : Int) - 1 + (k : Int) * (-1)).toNat]?) = (List.range xs.size).filterMap ((fun k => xs.toList.reverse.toArray[k]?) ∘ fun k => 0 + k) := by
    refine fm_congr fun k hk => ?_
    have hk' : k < xs.size := List.mem_range.mp hk
    have i : ((xs.size : Int) - 1 + (k : Int) * (-1)).toNat = xs.size - 1 - k := by omega
    rw [i]
    show xs[xs.size - 1 - k]? = xs.toList.reverse.toArray[0 + k]?
    have e1 : xs.toList.reverse.toArray[0 + k]? = xs.toList.reverse[k]? := by rw [Nat.zero_add]; simp
    rw [e1, List.getElem?_reverse (show k < xs.toList.length by rw [Array.length_toList]; exact hk'), Array.length_toList, Array.getElem?_toList]
  rw [e, z]
  congr 1
  rw [List.drop_zero]
  show List.take xs.size xs.toList.reverse = xs.toList.reverse
  exact List.take_of_length_le (by rw [List.length_reverse, Array.length_toList]; exact Nat.le_refl _)
theorem item_rev {t sl : Addr} {its : Array Value} {vl vu vs : Value} {Q : Value → Shared → Prop} (ht : IsTup s.heap t its) (hs : s.heap.IsSliceOf sl vl vu vs) (pl : IsPart vl none) (pu : IsPart vu none) (ps : IsPart vs (some (-1)))
    (h : Q (.ref s.heap.objs.size) { s with heap := s.heap.push { cls := .type "tuple", data := .seq its.toList.reverse.toArray } }) (hz : its.size ≤ sizeLine) : wpAny (model prog w) A (getItem (.ref t) (.ref sl)) Q E s := by
  have okz : sizeOk (.seq its.toList.reverse.toArray) := by
    show its.toList.reverse.toArray.size ≤ sizeLine
    simpa using hz
  obtain ⟨os, o1, o2, o3⟩ := id hs
  have tS : s.TypeIs (.ref sl) "slice" := ⟨os, o1, o2⟩
  unfold getItem
  try with_reducible refine wpAny_holding ?_
  first | refine wpAny_bind (wpAny_pure ?_) | skip
  refine wpAny_bind (wpAny_sequenceKey ht.typeIs (by decide) (wpAny_bind (wpAny_callSpecial?_slot (name := Str.ofString "__getitem__") ht.typeIs PyProof.Rows.slot_tuple_getitem (wpAny_call_entry PyProof.Rows.slot_tuple_getitem ht.typeIs entry_tuple_getitem ?_ (args_tuple_getitem _ _)))))
  show wpAny _ _ (Builtin.Tuple.tupleItemsOf (.ref t) >>= _) _ _ s
  refine wpAny_bind (tupleItemsOf_ ht (wpAny_bind (wpAny_typeOf tS ?_)))
  rw [if_pos (by decide)]
  refine wpAny_bind (applied_rev hs pl pu ps ?_)
  have no : ¬ ((((its.size : Int) - 1) == 0 && (-1 : Int) == 1 && its.size == its.size) = true) := by simp
  show wpAny _ _ (if (((its.size : Int) - 1) == 0 && (-1 : Int) == 1 && its.size == its.size) = true then _ else _) _ _ s
  rw [if_neg no, pick_rev]
  first
    | exact wpAny_bind (m := Builtin.Tuple.tupleExact _) (wpAny_newObj_type (wpAny_pure ⟨_, rfl, wpAny_pure h⟩) okz)
    | exact wpAny_bind (m := Builtin.Tuple.tupleExact _) (wpAny_newObj_type (wpAny_bind (wpAny_pure (wpAny_pure ⟨_, rfl, wpAny_pure h⟩))) okz)
    | exact wpAny_bind (wpAny_bind (m := Builtin.Tuple.tupleExact _) (wpAny_newObj_type (wpAny_pure (wpAny_pure ⟨_, rfl, wpAny_pure h⟩)) okz))
    | exact wpAny_bind (wpAny_bind (m := Builtin.Tuple.tupleExact _) (wpAny_newObj_type (wpAny_pure ⟨_, rfl, wpAny_pure h⟩) okz))
end
section
variable {X : Cx}
def dRev : D → List Cell → Option D
  | .tup xs, _ => some (.tup xs.reverse)
  | _, _ => none
theorem Reps.rev {K : PySem.W.Frag} {as : Ar} {H : Hp} : ∀ {vs : List V} {ds : List D}, Reps K as H vs ds → Reps K as H vs.reverse ds.reverse
  | _, _, .nil => .nil
  | _, _, .cons h t => by
    rw [List.reverse_cons, List.reverse_cons]
    exact t.rev.append (.cons h .nil)
theorem de_rev {e : Expr} {fa : EvE} {k : Nat} {p1 p2 p3 pos : Pos} (he : PE X e (tF X.K fa)) : PE X (.Subscript e (.Slice none none (some (.UnaryOp .USub (.Constant (.int 1) k p1) p2)) p3) pos) (tF X.K (fU dRev fa)) := by
  refine ⟨fun pins s σ H Q I ⟨as, S, d, μ', E, ed, q⟩ => ?_⟩
  obtain ⟨y, ey, ez⟩ := fU_out ed
  unfold dRev at ez
  split at ez
  rotate_left
  · cases ez
  rename_i xs
  cases Option.some.inj ez
  refine Subscript_ (thn (he.run pins s σ H (fun v H1 => ∃ as1, Ext as H as1 H1 ∧ Rep X.K as1 H1 v (.tup xs) ∧ StoR X.K as1 H1 μ') I ⟨as, S, _, μ', E, ey, fun v as1 H1 X1 r1 s1 => ⟨as1, X1, r1, s1⟩⟩) fun u s1 ⟨v, H1, I1, rv, as1, X1, r1, st1⟩ => ?_)
  cases r1 with
  | @tup a vs _ t rs =>
  cases rv
  have part : PO X (some (.UnaryOp .USub (.Constant (.int 1) k p1) p2)) (tPart (tUn (rU fun i => .int (-i)) (tC (.int 1)))) := po_some (pe_un un_neg pe_int)
  refine wpAny_Slice (thn (po_none.run pins s1 σ H1 (fun o H2 => o = none ∧ H2 = H1) I1 ⟨rfl, rfl⟩) fun vl s2 ⟨l, H2, I2, pl, el, e2⟩ => ?_)
  subst el e2
  refine thn (po_none.run pins s2 σ H2 (fun o H3 => o = none ∧ H3 = H2) I2 ⟨rfl, rfl⟩) fun vu s3 ⟨u, H3, I3, pu, eu, e3⟩ => ?_
  subst eu e3
  refine thn (part.run pins s3 σ H3 (fun o H4 => o = some (-1) ∧ H4 = H3) I3 ⟨1, rfl, -1, rfl, rfl, rfl⟩) fun vs4 s4 ⟨o, H4, I4, ps, eo, e4⟩ => ?_
  subst eo e4
  have I5 : Inv X pins σ H4 { s4 with heap := s4.heap.push { cls := .type "slice", data := .fields #[vl, vu, vs4] } } := I4.kept (t' := s4.toks) fun b ob q => Heap.get?_push_of_some _ q
  obtain ⟨its, r, ht, hz⟩ := I5.tuple t.sq
  have hlen := r.length
  show wpAny (model X.prog X.w) X.A (subscriptTail e (.Slice none none (some (.UnaryOp .USub (.Constant (.int 1) k p1) p2)) p3) (.ref a) (.ref s4.heap.objs.size)) (EP X pins σ Q) X.xe { s4 with heap := s4.heap.push { cls := .type "slice", data := .fields #[vl, vu, vs4] } }
  refine tail_any (ops := [.ref a, .ref s4.heap.objs.size]) ht.typeIs (PyProof.Rows.slot_tuple_getitem.lookup) ?_ (by with_unfolding_all rfl)
  refine item_rev ht (Heap.IsSliceOf.new _ vl vu vs4) pl pu ps ?_ (by rw [List.size_toArray]; omega)
  have hp := I5.hok.fresh (Nat.le_refl _)
  refine ⟨.ref _, _, I5.laid (t' := s4.toks) (o := .tup vs.reverse) (fun b ob q => Heap.get?_push_of_some _ q) (Nat.le_refl _) ⟨by rw [List.length_reverse]; exact hz, _, r.reverse, IsTup.new _ _⟩, rfl, ?_⟩
  exact q _ as1 _ (X1.trans (Ext.new hp (st1.out hp)) E.sto.trk) (.tup (.inl ⟨.inl upd_same, st1.out hp⟩) (rs.rev.mv (Ext.new hp (st1.out hp)))) (st1.new hp)
end
end DL
set_option maxHeartbeats 2000000
/-! Defs that make lambdas; the law's own call with the tables of their code objects. -/
namespace DL
open PySem PySem.Spec PyProof.Rows L2
/-- the name that a lambda of the def x bears -/
def qL (x : Str) : Str := x ++ ".<locals>." ++ "<lambda>"
theorem code_is {K : PySem.W.Frag} {x : Str} {f c P : Addr} {oc cd' : Value} {od : Option Addr} {fd : FuncData} {osl : Array (Option Value)} (hn : PySem.W.nsIn K mainGlobals x = some (some (.ref f))) (lk : K.lookup f = some ⟨oc, od, .func fd, osl⟩) (ht : PySem.W.tabIn K x = some (c, P)) : fd.code = .ref c := by
  unfold PySem.W.tabIn at ht
  rw [hn] at ht
  dsimp only at ht
  rw [lk] at ht
  dsimp only at ht
  split at ht
  · rename_i c2 hc
    split at ht
    · split at ht
      · cases ht
        exact hc
      · cases ht
    · cases ht
  · cases ht
section
variable {P : Program} {w : World} {K : PySem.W.Frag} {mg : Str → Option Value} {base : Heap}
/-- fg_def where the code object is known -/
theorem fg_defT {x qual : Str} {st : Stmt} {f c Pt : Addr} {fd : FuncData} {N ps : List Str} {k : Nat} {g : EvS} (Fu : Fun K x qual st f fd) (S : FnScope N ps (defScope st)) (hn : PySem.W.nsIn K mainGlobals x = some (some (.ref f))) (ht : PySem.W.tabIn K x = some (c, Pt))
    (hB : ∀ (kV doc pm : Value) (an : Option Addr) (cdv ct : Value) (us : List Value), us.length = ps.length → bindArgs (PySem.W.fnOf x qual (defArgs st) (defBody st) (defScope st) .none kV doc pm an cdv ct) ⟨us, []⟩ = pure (ps.zip us))
    (hbody : ∀ (A : Around) (stk : List Env) (s : Shared) (H : Hp) (E : XK), Room k (cxB P w K mg base N qual st f (.ref c) A stk s H E).A → (cxB P w K mg base N qual st f (.ref c) A stk s H E).A.guards = some [] → PSs (cxB P w K mg base N qual st f (.ref c) A stk s H E) (defBody st) (tFS K mg (WfD E) g)) :
    FG P w K mg base (k + 1) f fd ps.length (fnF ps.length N.length g) := by
  refine ⟨⟨ps, rfl, Fu.binds hB, Fu.kp, fun A stk st' H ar us vs Q E hr hgd e0 hbind r ⟨as, μ, ds, o, μ', hl, rs, sto, ef, q⟩ => ?_⟩⟩
  obtain ⟨oc, od, kV, doc, pm, an, cdv, ct, osl, rfl, lk, hcd⟩ := Fu.ex
  have ec : cdv = .ref c := code_is (cd' := cdv) hn lk ht
  subst ec
  have KX : K.In st'.heap := e0.mod.kin.keeps fun b o e => (e0.bs b o e).1
  have lim : st'.heap.NoLimit := e0.mod.nolimit.keeps fun b o e => (e0.bs b o e).1
  have seen : ∀ y ∈ ps.zip us, (defScope st).names.lookup y.1 = some .local ∨ ((defScope st).names.lookup y.1 = some .cell ∧ ((cellsFrom (st'.heap.objs.size + 1) (defScope st).names []).lookup y.1).isSome = true) := fun ⟨n, v⟩ hy =>
    (S.par n (List.of_mem_zip hy).1).elim .inl fun z => .inr ⟨z, PySem.W.cellsFrom_some _ _ _ (.inl z)⟩
  refine codeAny_call_function hr.depth (KX _ _ lk) rfl S.co S.gen rfl (PySem.W.codeRec_of KX hcd) (hbind _ _ _ _ (wpAny_newFunctionEnv_cells S.kind seen fun env he s1 ic => ?_))
  subst he
  refine ⟨lim.keeps ic.toInCall.keep, codeAny_func ?_⟩
  have I0 : Inv (cxB P w K mg base N qual st f (.ref c) A stk st' H E) [] (L2.start N vs) H s1 := inv_start S hr.hd e0 hl r ic
  have hN : ps.length ≤ N.length := by
    have c := congrArg List.length S.pre
    rw [List.length_take] at c
    omega
  have hlen : ds.length = ps.length := rs.length.symm.trans hl
  have en : EnvR K as H (L2.start N vs) (ds.map some ++ List.replicate (N.length - ps.length) none) := by
    have e := rs.length
    refine ⟨by unfold L2.start; simp [e, hlen], fun i d h => ?_⟩
    unfold L2.start
    by_cases hi : i < ds.length
    · rw [List.getElem?_append_left (by simpa using hi), List.getElem?_map] at h
      obtain ⟨d2, e2, e3⟩ := Option.map_eq_some_iff.mp h
      cases e3
      obtain ⟨v, hv, rv⟩ := rs.get e2
      exact ⟨v, by rw [List.getElem?_append_left (by rw [List.length_map, e]; exact hi), List.getElem?_map, hv]; rfl, rv⟩
    · rw [List.getElem?_append_right (by simpa using hi), List.getElem?_replicate] at h
      split at h <;> cases h
  obtain ⟨fl, S', eg, hq⟩ : ∃ fl S', g ⟨ds.map some ++ List.replicate (N.length - ps.length) none, μ⟩ = some (fl, S') ∧ endS K mg (WfD E) as H { nx := fun _ H' => Q .non H', rt := Q } fl S' := by
    unfold fnF at ef
    split at ef
    · rename_i d2 S2 e2
      obtain ⟨rfl, rfl⟩ := pr_inj ef
      exact ⟨.rt d2, S2, e2, fun as' v H' X' rv s' => q v as' H' X' rv s'⟩
    · rename_i S2 e2
      obtain ⟨rfl, rfl⟩ := pr_inj ef
      exact ⟨.nx, S2, e2, fun as' σ' H' X' E' => q .non as' H' X' .non E'.sto⟩
    · rename_i n2 p2 S2 e2
      obtain ⟨rfl, rfl⟩ := pr_inj ef
      exact ⟨.ex n2 p2, S2, e2, fun as' σ' H' C dx X' E' ec xr => q as' H' C dx X' E'.sto ec xr⟩
    · cases ef
  refine wpAny_mono ((hbody A stk st' H E (hr.deeper _) (guards_deeper hgd)).run [] s1 (L2.start N vs) H { nx := fun _ H' => Q .non H', rt := Q } I0 ⟨as, ⟨_, μ⟩, fl, S', ⟨en, sto⟩, eg, hq⟩) (fun fl' s' z => ?_) fun e s' z => z
  cases fl' with
  | ret u =>
    obtain ⟨v, σ', H', J, rv, y⟩ := z
    exact ⟨v, H', J.os, J.bare, J.base, J.hok, rv, y⟩
  | next =>
    obtain ⟨σ', H', J, y⟩ := z
    exact ⟨.non, H', J.os, J.bare, J.base, J.hok, rfl, y⟩
  | brk => obtain ⟨_, _, _, y⟩ := z; exact y.elim
  | cont => obtain ⟨_, _, _, y⟩ := z; exact y.elim
end
/-- what is known of the makers of lambdas: their names, code objects, tables -/
structure Mkrs (K : PySem.W.Frag) (h : Heap) (cs : List (Str × Addr × Addr)) : Prop where
  tb : ∀ t ∈ cs, h.get? t.2.2 = some (PySem.W.tabObj #[])
  nk : ∀ t ∈ cs, K.lookup t.2.2 = none
  hd : ∀ t ∈ cs, PySem.W.CodeHd h t.2.1 t.2.2
  ti : ∀ t ∈ cs, PySem.W.tabIn K t.1 = some t.2
  nd : (cs.map (·.2.2)).Nodup
def mu0 (xs : List Str) : List Cell := xs.map fun x => .tab x (qL x)
theorem law_dataT {P : Program} {w : World} {K : PySem.W.Frag} {mg mb : Str → Option Value} {k : Nat} {fa a : Addr} {fd : FuncData} {F : FnF} {s : Shared} {us : List Value} {ns : List Int} {cs : List (Str × Addr × Addr)}
    (kin : K.In s.heap) (gl : s.heap.Ns mainGlobals mg) (bl : s.heap.Ns builtinsNs mb) (bb : ∀ x : Str, x ≠ "__name__" → mb x = bootBuiltins x) (nl : s.heap.NoLimit) (gens : s.gens = #[]) (M : Mkrs K s.heap cs)
    (hbm : ∃ (bm : Addr) (ob : Obj), mg "__builtins__" = some (.ref bm) ∧ bm ≠ builtinsNs ∧ s.heap.get? bm = some ob ∧ ob.cls = .type "module" ∧ ob.dict = some builtinsNs ∧ ob.data = .plain)
    (hobj : s.heap.get? a = some { cls := .type "list", data := .seq us.toArray }) (hints : IntsAre us ns) (few : ns.length ≤ sizeLine) (hr : Room k callerA)
    (G : ∀ base : Heap, K.In base → base.Ns mainGlobals mg → (∀ t ∈ cs, LamX.TabB base mg t.2.1 t.2.2) → FG P w K mg base k fa fd 1 F)
    (val : ∃ μ', F [.rl (ns.map D.int)] (mu0 (cs.map (·.1))) = some (.v (.bl true), μ')) :
    codeAny (model P w) callerA (.call (.ref fa) ⟨[.ref a], []⟩) (fun r s' => r = .ok (.ret (.bool true)) ∧ OldK s.heap s'.heap ∧ s'.os = s.os ∧ AllBare s'.gens) s := by
  have rv := vals_ints hints
  obtain ⟨μ', val⟩ := val
  have tabAt : ∀ b, b ∈ cs.map (·.2.2) → s.heap.get? b = some (PySem.W.tabObj #[]) := fun b hb => by
    obtain ⟨t, ht, rfl⟩ := List.mem_map.mp hb
    exact M.tb t ht
  have aOut : a ∉ cs.map (·.2.2) := fun z => by
    have q := tabAt a z
    rw [hobj] at q
    cases q
  have core : ∀ H : Hp, (∀ b ∈ cs.map (·.2.2), H b = some (.tbl #[])) → (∀ b u, H b = some u → b ∈ cs.map (·.2.2) ∨ (b = a ∧ ∃ o vs, u = .frz o (.lst vs))) → TrL K ⟨cs.map (·.2.2), []⟩ H a (ns.map V.int) → HOk P w H s.heap → (H a ≠ none → K.lookup a = none) →
      codeAny (model P w) callerA (.call (.ref fa) ⟨[.ref a], []⟩) (fun r s' => r = .ok (.ret (.bool true)) ∧ OldK s.heap s'.heap ∧ s'.os = s.os ∧ AllBare s'.gens) s := by
    intro H isT only tr hok hK
    have hid : ∀ {b : Addr} {o : Obj}, s.heap.get? b = some o → H b = none → (hidT s.heap H).get? b = some o := fun e n => hidT_get e n
    have free : ∀ {b : Addr} {o : Obj}, s.heap.get? b = some o → (∀ vs n, o.data ≠ .seq vs n) → o.data ≠ .fields #[] → H b = none := fun {b o} e h1 h2 => by
      cases q : H b with
      | none => rfl
      | some u =>
        rcases only b u q with z | ⟨rfl, _⟩
        · rw [tabAt b z] at e
          cases e
          exact (h2 rfl).elim
        · rw [hobj] at e
          cases e
          exact (h1 _ _ rfl).elim
    have freeD : ∀ {b : Addr} {o : Obj} {es : Array DictEntry} {ep : Nat}, s.heap.get? b = some o → o.data = .dict es ep → H b = none := fun {b o es ep} e d => free e (fun vs n z => by rw [d] at z; cases z) fun z => by rw [d] at z; cases z
    have ns1 : ∀ {b : Addr} {m : Str → Option Value}, s.heap.Ns b m → (hidT s.heap H).Ns b m := fun {b m} ⟨o, es, ep, e, d, r⟩ => ⟨o, es, ep, hid e (freeD e d), d, r⟩
    have kin1 : K.In (hidT s.heap H) := fun b o e => hid (kin b o e) (by
      cases q : H b with
      | none => rfl
      | some u =>
        rcases only b u q with z | ⟨rfl, _⟩
        · obtain ⟨t, ht, rfl⟩ := List.mem_map.mp z
          rw [M.nk t ht] at e
          cases e
        · rw [hK (by rw [q]; simp)] at e
          cases e)
    have md : Mod K mg (hidT s.heap H) := ⟨kin1, ns1 gl, ⟨mb, ns1 bl, bb⟩, nl.elim fun mc z => ⟨mc, ns1 z.1, z.2⟩⟩
    have TB : ∀ t ∈ cs, LamX.TabB (hidT s.heap H) mg t.2.1 t.2.2 := fun t ht => by
      have at1 := M.tb t ht
      have nG : mainGlobals ≠ t.2.2 := fun z => by
        obtain ⟨o, es, ep, e, d, _⟩ := gl
        rw [z, at1] at e
        cases e
        cases d
      refine ⟨?_, ?_, nG⟩
      · obtain ⟨o, vs, file, tf, flags, tg, inF, text, tt, e1, r1, r2, r3, r⟩ := M.hd t ht
        exact ⟨o, vs, file, tf, flags, tg, inF, text, tt, hid e1 (free e1 (fun vs n z => by rw [r2] at z; cases z) fun z => by rw [r2] at z; cases z; simp at r3), r1, r2, r3, r⟩
      · obtain ⟨bm, ob, b1, b2, b3, b4, b5, b6⟩ := hbm
        refine ⟨bm, ob, b1, b2, fun q => ?_, fun q => ?_, hid b3 (free b3 (fun vs n z => by rw [b6] at z; cases z) fun z => by rw [b6] at z; cases z), b4, b5, b6⟩
        · obtain ⟨o, es, ep, e, d, _⟩ := gl
          rw [q, e] at b3
          cases b3
          rw [d] at b6
          cases b6
        · rw [q, at1] at b3
          cases b3
          cases b6
    have en : Env0 P w K mg (hidT s.heap H) callerA [] s H := ⟨rfl, md, fun b o e => of_hidT e, by rw [hidT_size]; exact Nat.le_refl _, trivial, fun b hb => (List.not_mem_nil hb).elim, hok, .of_eq gens⟩
    obtain ⟨ps, hn, hb, hk, run⟩ := (G _ kin1 (ns1 gl) TB).ps
    have hbd : BindsTo s fd ⟨[.ref a], []⟩ (ps.zip [.ref a]) := by
      have z := hb s [.ref a] kin (by simp [hn])
      simpa using z
    have st0 : StoR K ⟨cs.map (·.2.2), []⟩ H (mu0 (cs.map (·.1))) := by
      refine ⟨by simp [mu0], fun j b c ej ec => ?_, M.nd, fun b hb => (List.not_mem_nil hb).elim⟩
      have ej' : (cs.map (·.2.2))[j]? = some b := ej
      unfold mu0 at ec
      rw [List.getElem?_map] at ej'
      rw [List.getElem?_map, List.getElem?_map] at ec
      obtain ⟨t, e1, rfl⟩ := Option.map_eq_some_iff.mp ej'
      rw [e1] at ec
      cases ec
      have ht := List.mem_of_getElem? e1
      exact ⟨t.2.1, #[], M.ti t ht, isT _ (List.mem_map.mpr ⟨t, ht, rfl⟩), trivial, fun pos cv z => by
        have z' : codeAmong pos [] = some cv := z
        simp [codeAmong] at z'⟩
    refine codeAny_mono (run callerA [] s H ⟨[.ref a], []⟩ [.ref a] [.ref a] (fun v _ => v = .bl true) (fun _ _ _ => False) hr room_caller en hbd (.cons rfl .nil)
      ⟨⟨cs.map (·.2.2), []⟩, _, [.rl (ns.map D.int)], .v (.bl true), μ', rfl, .cons (.rl tr Reps.ints) .nil, st0, val, fun v as' H' X' r s' => by cases r; rfl⟩) fun r s' h => ?_
    cases r with
    | error e =>
      obtain ⟨_, _, _, _, _, _, _, _, _, _, _, _, z⟩ := h
      exact z.elim
    | ok fl => cases fl with
      | ret u =>
        obtain ⟨v, H', eos, bare, un, hok', ru, q⟩ := h
        subst q
        cases ru
        have stay : ∀ b o, b ∉ cs.map (·.2.2) → s.heap.get? b = some o → s'.heap.get? b = some o := fun b o nb e => by
          cases z : H b with
          | none => exact un.keep b o e z (fun y => (List.not_mem_nil y).elim) (by simp)
          | some u =>
            rcases only b u z with y | ⟨rfl, ob, vs, rfl⟩
            · exact (nb y).elim
            · obtain ⟨e1, _⟩ := hok b _ z
              obtain ⟨e2, _⟩ := hok' b _ (un.frzs b ob _ z)
              rw [e] at e1
              cases e1
              exact e2
        have grown : ∀ t ∈ cs, ∃ more : Array Value, s'.heap.get? t.2.2 = some { cls := .none, data := .fields more } := fun t ht => by
          obtain ⟨more, z⟩ := un.tbls t.2.2 #[] (isT _ (List.mem_map.mpr ⟨t, ht, rfl⟩))
          exact ⟨_, hok' t.2.2 _ z⟩
        refine ⟨rfl, ⟨fun b o e => ?_, fun b o e => ?_⟩, eos, bare⟩
        · by_cases hb : b ∈ cs.map (·.2.2)
          · obtain ⟨t, ht, rfl⟩ := List.mem_map.mp hb
            obtain ⟨more, hm⟩ := grown t ht
            rw [M.tb t ht] at e
            cases e
            exact .inr (.inl ⟨((M.hd t ht).tab (M.tb t ht)).isCodeTable, rfl, #[], more, rfl, by rw [Array.empty_append]; exact hm⟩)
          · exact .inl (stay b o hb e)
        · by_cases hb : b ∈ cs.map (·.2.2)
          · obtain ⟨t, ht, rfl⟩ := List.mem_map.mp hb
            obtain ⟨more, hm⟩ := grown t ht
            exact ⟨_, hm⟩
          · exact ⟨o, stay b o hb e⟩
      | _ => exact False.elim h
  have lenV : ns.length = us.length := by
    have z := rv.length
    rw [List.length_map] at z
    exact z
  have tabs : ∀ {b : Addr}, b ∈ cs.map (·.2.2) → ObjOk P w (fun b => if b ∈ cs.map (·.2.2) then some (HO.tbl #[]) else none) s.heap b (.tbl #[]) := fun hb => tabAt _ hb
  cases hk : K.lookup a with
  | some o =>
    have e := kin a o hk
    rw [hobj] at e
    cases e
    refine core (fun b => if b ∈ cs.map (·.2.2) then some (.tbl #[]) else none) (fun b hb => if_pos hb) (fun b u z => ?_) (.inr fun H' => .inr ⟨_, us.toArray, _, hk, rfl, rfl, rfl, by rw [List.size_toArray, ← lenV]; exact few, by simpa using rv⟩) (fun b u z => ?_) fun z => absurd (if_neg aOut) z
    · by_cases hb : b ∈ cs.map (·.2.2)
      · exact .inl hb
      · cases (if_neg hb).symm.trans z
    · by_cases hb : b ∈ cs.map (·.2.2)
      · cases (if_pos hb).symm.trans z
        exact tabAt b hb
      · cases (if_neg hb).symm.trans z
  | none =>
    refine core (fun b => if b = a then some (.frz { cls := .type "list", data := .seq us.toArray } (.lst (ns.map V.int))) else if b ∈ cs.map (·.2.2) then some (.tbl #[]) else none) (fun b hb => (if_neg (show ¬ b = a from fun z => aOut (by rw [← z]; exact hb))).trans (if_pos hb)) (fun b u z => ?_) (.inl ⟨.inr ⟨_, if_pos rfl⟩, aOut, List.not_mem_nil⟩) (fun b u z => ?_) fun _ => hk
    · by_cases hb : b = a
      · exact .inr ⟨hb, _, _, (Option.some.inj ((if_pos hb).symm.trans z)).symm⟩
      · by_cases hc : b ∈ cs.map (·.2.2)
        · exact .inl hc
        · cases (if_neg hb).symm.trans z |>.symm.trans (if_neg hc) |>.symm
    · by_cases hb : b = a
      · subst hb
        cases (if_pos rfl).symm.trans z
        exact ⟨hobj, by rw [List.length_map]; exact few, us, _, rv, hobj⟩
      · by_cases hc : b ∈ cs.map (·.2.2)
        · have z2 := ((if_neg hb).symm.trans z)
          cases (if_pos hc).symm.trans z2
          exact tabAt b hc
        · have z2 := ((if_neg hb).symm.trans z)
          cases (if_neg hc).symm.trans z2
theorem walkT {l : PySem.W.OpenLaw} {n k : Nat} {q : Program} {loose : List Str} {XP : (Str → Option Value) → Heap → Prop} {YP : World → Heap → Prop} {d : DefRec} {K : Params → PySem.W.Frag} {F : FnF} {xs : List Str}
    (hn : l.most = some n) (hn2 : n ≤ sizeLine) (hdf : d.params.defaults = []) (hr : Room k callerA) (hY : ∀ (w : World) (h : Heap), YP w h → (K w.params).In h)
    (G : ∀ (w : World) (mg : Str → Option Value) (fa : Addr) (h : Heap), YP w h → (K w.params).In h → h.Ns mainGlobals mg → mg d.name = some (.ref fa) →
      ∃ (fd : FuncData) (cs : List (Str × Addr × Addr)), cs.map (·.1) = xs ∧ Mkrs (K w.params) h cs ∧ ∀ base : Heap, (K w.params).In base → base.Ns mainGlobals mg → (∀ t ∈ cs, LamX.TabB base mg t.2.1 t.2.2) → FG l.prog w (K w.params) mg base k fa fd 1 F)
    (val : ∀ ns : List Int, ns.length ≤ n → ∃ μ', F [.rl (ns.map D.int)] (mu0 xs) = some (.v (.bl true), μ')) :
    PySem.W.WalkO q loose XP YP l.row.toRowW d [] (fun f vs => PySem.call f vs) :=
  Att.attach_call hn hdf fun w s₀ s₁ mg mb fa o pm cd doc a vs ns T Y ho hd hcd hmg hobj hints hlen gens => by
    have kin := hY w _ Y
    obtain ⟨fd, cs, rfl, M, hF⟩ := G w mg fa _ Y kin T.T.g hmg
    exact law_dataT kin T.T.g T.T.b T.T.builtins T.T.nolimit gens M T.T.bmain hobj hints (Nat.le_trans hlen hn2) hr hF (val ns hlen)
end DL
namespace DL
open PySem L2
theorem tab_ok {K : PySem.W.Frag} {cv : Value} : ∀ {names : List Str} {cs : List Addr} {bs : List Bool}, (names.map fun n => PySem.W.nsIn K mainGlobals n) = (cs.map fun C => some (some (Value.ref C))) → cs.all (xqB K) = true → (cs.map fun C => PySem.W.kitOne K (.ref C) cv) = bs.map some →
    ∀ n C b, List.lookup n (names.zip bs) = some b → PySem.W.nsIn K mainGlobals n = some (some (.ref C)) → XQ K C ∧ PySem.W.kitOne K (.ref C) cv = some b
  | [], cs, bs, _, _, _, n, C, b, e, _ => by simp at e
  | m :: names, [], bs, h1, _, _, n, C, b, e, _ => by simp at h1
  | m :: names, c :: cs, [], _, _, h3, n, C, b, e, _ => by simp at h3
  | m :: names, c :: cs, q :: bs, h1, h2, h3, n, C, b, e, hn => by
    simp only [List.map_cons, List.cons.injEq] at h1 h3
    rw [List.all_cons, Bool.and_eq_true] at h2
    rw [List.zip_cons_cons, List.lookup_cons] at e
    split at e
    · rename_i hm
      have hm' : n = m := by simpa using hm
      subst hm'
      have hb : q = b := Option.some.inj e
      subst hb
      have z := h1.1.symm.trans hn
      injection z with z
      injection z with z
      injection z with z
      subst z
      exact ⟨xqB_ok h2.1, h3.1⟩
    · exact tab_ok h1.2 h2.2 h3.2 n C b e hn
/-- what is asked of a class with a field at once -/
def clB (K : PySem.W.Frag) (C : Addr) (bm : List Value) (newId : String) (fl : Str) : Bool := PySem.W.excInitIn K C bm newId && (PySem.W.excOver K C bm && (PySem.W.hasDictIn K C && (decide (PySem.W.findIn K (.ref C) "__setattr__" = some (some (.builtin "object.__setattr__"))) && (PySem.W.keepIn K (.ref C) && (decide (PySem.W.takerIn K C fl = some none) && (decide (PySem.W.findIn K (.ref C) fl = some none) && xqB K C))))))
theorem clB_ok {K : PySem.W.Frag} {C : Addr} {bm : List Value} {newId : String} {fl : Str} (h : clB K C bm newId fl = true) : XCls K C bm newId ∧ PySem.W.takerIn K C fl = some none ∧ PySem.W.findIn K (.ref C) fl = some none ∧ XQ K C := by
  unfold clB at h
  simp only [Bool.and_eq_true, decide_eq_true_eq] at h
  obtain ⟨h1, h2, h3, h4, h5, h6, h7, h8⟩ := h
  exact ⟨⟨h1, h2, h3, h4, h5⟩, h6, h7, xqB_ok h8⟩
theorem gf_ok {K : PySem.W.Frag} {c : Addr} {bm : List Value} {newId : String} {fl m : Str} (a : PySem.W.nsIn K mainGlobals m = some (some (.ref c))) (h : clB K c bm newId fl = true) : ∀ n C, n ∈ [m] → PySem.W.nsIn K mainGlobals n = some (some (.ref C)) → XQ K C ∧ PySem.W.findIn K (.ref C) fl = some none := by
  intro n C hn hns
  have hn' : n = m := by simpa using hn
  subst hn'
  have z := a.symm.trans hns
  injection z with z
  injection z with z
  injection z with z
  subst z
  exact ⟨(clB_ok h).2.2.2, (clB_ok h).2.2.1⟩
end DL
namespace DL
open PySem L2
/-! Dicts with texts or integers as keys, as cells. -/
section
variable {K : PySem.W.Frag} {as as' : Ar} {H H' : Hp} {μ : List Cell}
def keyD : D → Option Key
  | .str s => some (.inr s)
  | .int i => some (.inl i)
  | _ => none
theorem key_ok {v : V} {d : D} {k : Key} (e : keyD d = some k) (r : Rep K as H v d) : v = kV k := by
  cases r <;> first | (cases e; done) | (cases e; rfl)
def lookK (k : Key) : List (Key × D) → Option D
  | [] => none
  | (k', x) :: r => if k' = k then some x else lookK k r
theorem look_ok {k : Key} : ∀ {kvs : List (Key × V)} {ds : List (Key × D)}, kvs.map (·.1) = ds.map (·.1) → Reps K as H (kvs.map (·.2)) (ds.map (·.2)) → match lookK k ds with
    | some d => ∃ v, valV kvs k = some v ∧ Rep K as H v d
    | none => valV kvs k = none
  | [], [], _, _ => rfl
  | [], _ :: _, h, _ => by simp at h
  | _ :: _, [], h, _ => by simp at h
  | (g, v) :: kvs, (g', x) :: ds, h, r => by
    simp only [List.map_cons, List.cons.injEq] at h
    obtain ⟨rfl, h⟩ := h
    cases r with
    | cons r1 r2 =>
      unfold lookK
      by_cases hg : g = k
      · rw [if_pos hg]
        exact ⟨v, valV_pos hg, r1⟩
      · rw [if_neg hg, valV_neg hg]
        exact look_ok h r2
def putKD (ds : List (Key × D)) (k : Key) (d : D) : List (Key × D) :=
  if (ds.any fun kv => decide (kv.1 = k)) = true then ds.map (fun kv => if kv.1 = k then (kv.1, d) else kv) else ds ++ [(k, d)]
theorem any_keys {α β : Type} (k : Key) : ∀ {xs : List (Key × α)} {ys : List (Key × β)}, xs.map (·.1) = ys.map (·.1) → (xs.any fun kv => decide (kv.1 = k)) = (ys.any fun kv => decide (kv.1 = k))
  | [], [], _ => rfl
  | [], _ :: _, h => by simp at h
  | _ :: _, [], h => by simp at h
  | x :: xs, y :: ys, h => by
    simp only [List.map_cons, List.cons.injEq] at h
    rw [List.any_cons, List.any_cons, any_keys k h.2, h.1]
theorem map_keys {k : Key} {v : V} {d : D} (rv : Rep K as H v d) : ∀ {kvs : List (Key × V)} {ds : List (Key × D)}, kvs.map (·.1) = ds.map (·.1) → Reps K as H (kvs.map (·.2)) (ds.map (·.2)) →
    ((kvs.map fun kv => if kv.1 = k then (kv.1, v) else kv).map (·.1) = (ds.map fun kv => if kv.1 = k then (kv.1, d) else kv).map (·.1)) ∧ Reps K as H ((kvs.map fun kv => if kv.1 = k then (kv.1, v) else kv).map (·.2)) ((ds.map fun kv => if kv.1 = k then (kv.1, d) else kv).map (·.2))
  | [], [], _, _ => ⟨rfl, .nil⟩
  | [], _ :: _, h, _ => by simp at h
  | _ :: _, [], h, _ => by simp at h
  | (g, x) :: kvs, (g', y) :: ds, h, r => by
    simp only [List.map_cons, List.cons.injEq] at h
    obtain ⟨rfl, h⟩ := h
    cases r with
    | cons r1 r2 =>
      obtain ⟨a, b⟩ := map_keys (k := k) rv h r2
      by_cases hg : g = k
      · simp only [List.map_cons, hg, if_true, List.cons.injEq, true_and]
        exact ⟨a, .cons rv b⟩
      · simp only [List.map_cons, hg, if_false, List.cons.injEq, true_and]
        exact ⟨a, .cons r1 b⟩
theorem reps_app1 {v : V} {d : D} (rv : Rep K as H v d) : ∀ {vs : List V} {ds : List D}, Reps K as H vs ds → Reps K as H (vs ++ [v]) (ds ++ [d])
  | _, _, .nil => .cons rv .nil
  | _, _, .cons a b => .cons a (reps_app1 rv b)
theorem put_rep {k : Key} {v : V} {d : D} (rv : Rep K as H v d) {kvs : List (Key × V)} {ds : List (Key × D)} (h : kvs.map (·.1) = ds.map (·.1)) (r : Reps K as H (kvs.map (·.2)) (ds.map (·.2))) :
    (putK kvs k v).map (·.1) = (putKD ds k d).map (·.1) ∧ Reps K as H ((putK kvs k v).map (·.2)) ((putKD ds k d).map (·.2)) := by
  unfold putK putKD
  rw [any_keys k h]
  split
  · exact map_keys rv h r
  · refine ⟨by rw [List.map_append, List.map_append, h]; rfl, ?_⟩
    rw [List.map_append, List.map_append]
    exact reps_app1 rv r
theorem h_dctR {k : Nat} {v : V} {ds : List (Key × D)} (r : Rep K as H v (.h k)) (s : StoR K as H μ) (e : μ[k]? = some (.dct ds) ∨ μ[k]? = some (.lck ds)) :
    ∃ p kvs, v = .ref p ∧ Rd H p (.dK kvs) ∧ kvs.map (·.1) = ds.map (·.1) ∧ Reps K as H (kvs.map (·.2)) (ds.map (·.2)) := by
  cases r with
  | @h _ p ep =>
    rcases e with e | e
    · obtain ⟨kvs, hv, hl, rs⟩ := s.at_ k p _ ep e
      exact ⟨p, kvs, rfl, .inl hv, hl, rs⟩
    · obtain ⟨od, kvs, hv, hl, rs⟩ := s.at_ k p _ ep e
      exact ⟨p, kvs, rfl, .inr ⟨od, hv⟩, hl, rs⟩
theorem h_dct {k : Nat} {v : V} {ds : List (Key × D)} (r : Rep K as H v (.h k)) (s : StoR K as H μ) (e : μ[k]? = some (.dct ds)) :
    ∃ p kvs, v = .ref p ∧ as.c[k]? = some p ∧ H p = some (.dK kvs) ∧ kvs.map (·.1) = ds.map (·.1) ∧ Reps K as H (kvs.map (·.2)) (ds.map (·.2)) := by
  cases r with
  | @h _ p ep =>
    obtain ⟨kvs, hv, hl, rs⟩ := s.at_ k p _ ep e
    exact ⟨p, kvs, rfl, ep, hv, hl, rs⟩
end
section
variable {X : Cx} {o i e : Expr} {pos pos' : Pos} {fa fb fc : EvE} {W : WX}
/-- what stands in a dict at a key -/
def atK (x y : D) (μ : List Cell) : Option (Option D) := match x with
  | .h k => match keyD y with
    | some key => match μ[k]? with
      | some (.dct ds) => some (lookK key ds)
      | some (.lck ds) => some (lookK key ds)
      | _ => none
    | none => none
  | _ => none
def fDGet (fo fk : EvE) : EvE := fun S => (fo S).bind fun a => (fk { S with μ := a.2 }).bind fun b => match atK a.1 b.1 b.2 with
  | some (some d) => some (d, b.2)
  | _ => none
theorem atK_ok {as : Ar} {H : Hp} {μ : List Cell} {u v : V} {x y : D} {r : Option D} (e : atK x y μ = some r) (ru : Rep X.K as H u x) (rv : Rep X.K as H v y) (s : StoR X.K as H μ) : ∃ p ov, u = .ref p ∧ DGet H p v ov ∧ (∀ d, r = some d → ∃ w, ov = some w ∧ Rep X.K as H w d) ∧ ov.isSome = r.isSome := by
  have key : ∃ k ke ds, x = .h k ∧ keyD y = some ke ∧ (μ[k]? = some (.dct ds) ∨ μ[k]? = some (.lck ds)) ∧ lookK ke ds = r := by
    unfold atK at e
    split at e
    · rename_i k
      split at e
      · rename_i ke hk
        split at e
        · rename_i ds ed
          exact ⟨k, ke, ds, rfl, hk, .inl ed, Option.some.inj e⟩
        · rename_i ds ed
          exact ⟨k, ke, ds, rfl, hk, .inr ed, Option.some.inj e⟩
        · cases e
      · cases e
    · cases e
  obtain ⟨k, ke, ds, rfl, hk, ed, e⟩ := key
  obtain ⟨p, kvs, rfl, hp, hl, rs⟩ := h_dctR ru s ed
  obtain rfl := key_ok hk rv
  refine ⟨p, _, rfl, .inl ⟨kvs, ke, hp, rfl, rfl⟩, ?_⟩
  have q := look_ok (k := ke) hl rs
  rw [e] at q
  cases r with
  | none =>
    have q : valV kvs ke = none := q
    rw [q]
    exact ⟨fun d h => (by cases h), rfl⟩
  | some d =>
    obtain ⟨w, q1, q2⟩ : ∃ w, valV kvs ke = some w ∧ Rep X.K as H w d := q
    rw [q1]
    exact ⟨fun d' h => by cases h; exact ⟨w, rfl, q2⟩, rfl⟩
theorem PC.to {op : CmpOp} {a b : Expr} {t t' : TE} (h : PC X op a b t) (k : ∀ σ H Q, t' σ H Q → t σ H Q) : PC X op a b t' := ⟨fun pins s σ H Q I w => h.run pins s σ H Q I (k σ H Q w)⟩
theorem de_dget (hu : X.A.units + 1 < cLine) (ho : PE X o (tF X.K fa)) (hi : PE X i (tF X.K fb)) (hs : NoSl i) : PE X (.Subscript o i pos) (tF X.K (fDGet fa fb)) := (pe_dget hu ho hi hs).imp fun σ H Q ⟨as, S, d, μ', E, ed, q⟩ => by
  unfold fDGet at ed
  obtain ⟨⟨x, μ1⟩, e1, ed⟩ := Option.bind_eq_some_iff.mp ed
  obtain ⟨⟨y, μ2⟩, e2, ed⟩ := Option.bind_eq_some_iff.mp ed
  simp only at ed
  split at ed
  · rename_i d' e3
    obtain ⟨rfl, rfl⟩ := pr_inj ed
    refine ⟨as, S, x, μ1, E, e1, fun u as1 H1 X1 r1 s1 => ⟨as1, _, y, μ2, E.mvE X1 s1, e2, fun v as2 H2 X2 r2 s2 => ?_⟩⟩
    obtain ⟨p, ov, rfl, g, hr, _⟩ := atK_ok e3 (r1.mv X2) r2 s2
    obtain ⟨w, rfl, rw'⟩ := hr _ rfl
    exact ⟨p, w, rfl, g, q w as2 H2 (X1.trans X2 E.sto.trk) rw' s2⟩
  · cases ed
/-- k in d -/
def fDIn (g : Bool → Bool) (fk fo : EvE) : EvE := fun S => (fk S).bind fun a => (fo { S with μ := a.2 }).bind fun b => (atK b.1 a.1 b.2).map fun r => (.bl (g r.isSome), b.2)
theorem dc_din (hu : X.A.units + 1 < cLine) (hi : PE X i (tF X.K fa)) (ho : PE X o (tF X.K fb)) : PC X .In i o (tF X.K (fDIn id fa fb)) := PC.to (pc_din hu hi ho) fun σ H Q ⟨as, S, d, μ', E, ed, q⟩ => by
  unfold fDIn at ed
  obtain ⟨⟨y, μ1⟩, e1, ed⟩ := Option.bind_eq_some_iff.mp ed
  obtain ⟨⟨x, μ2⟩, e2, ed⟩ := Option.bind_eq_some_iff.mp ed
  obtain ⟨r, e3, ed⟩ := Option.map_eq_some_iff.mp ed
  obtain ⟨rfl, rfl⟩ := Prod.mk.inj ed
  refine ⟨as, S, y, μ1, E, e1, fun u as1 H1 X1 r1 s1 => ⟨as1, _, x, μ2, E.mvE X1 s1, e2, fun v as2 H2 X2 r2 s2 => ?_⟩⟩
  obtain ⟨p, ov, rfl, g, _, e⟩ := atK_ok e3 r2 (r1.mv X2) s2
  refine ⟨p, ov, rfl, g, ?_⟩
  rw [e]
  exact q _ as2 H2 (X1.trans X2 E.sto.trk) (.bl _) s2
theorem dc_dnotin (hu : X.A.units + 1 < cLine) (hi : PE X i (tF X.K fa)) (ho : PE X o (tF X.K fb)) : PC X .NotIn i o (tF X.K (fDIn not fa fb)) := PC.to (pc_dnotin hu hi ho) fun σ H Q ⟨as, S, d, μ', E, ed, q⟩ => by
  unfold fDIn at ed
  obtain ⟨⟨y, μ1⟩, e1, ed⟩ := Option.bind_eq_some_iff.mp ed
  obtain ⟨⟨x, μ2⟩, e2, ed⟩ := Option.bind_eq_some_iff.mp ed
  obtain ⟨r, e3, ed⟩ := Option.map_eq_some_iff.mp ed
  obtain ⟨rfl, rfl⟩ := Prod.mk.inj ed
  refine ⟨as, S, y, μ1, E, e1, fun u as1 H1 X1 r1 s1 => ⟨as1, _, x, μ2, E.mvE X1 s1, e2, fun v as2 H2 X2 r2 s2 => ?_⟩⟩
  obtain ⟨p, ov, rfl, g, _, e⟩ := atK_ok e3 r2 (r1.mv X2) s2
  refine ⟨p, ov, rfl, g, ?_⟩
  rw [e]
  exact q _ as2 H2 (X1.trans X2 E.sto.trk) (.bl _) s2
/-- d[k] = e -/
def cDPut (x y d : D) (μ : List Cell) : Option (List Cell) := match x with
  | .h k => match keyD y with
    | some key => match μ[k]? with
      | some (.dct ds) => if ds.length < 1000 then some (μ.set k (.dct (putKD ds key d))) else none
      | _ => none
    | none => none
  | _ => none
def sDPutD (fo fk fe : EvE) : EvS := fun S => (fe S).bind fun a => (fo { S with μ := a.2 }).bind fun b => (fk { S with μ := b.2 }).bind fun c => (cDPut b.1 c.1 a.1 c.2).map fun μ3 => (.nx, { S with μ := μ3 })
theorem ds_dput (hu : X.A.units + 1 < cLine) (ho : PE X o (tF X.K fa)) (hi : PE X i (tF X.K fb)) (he : PE X e (tF X.K fc)) (hs : swapsWith e (some (.Subscript o i pos')) pos.line X.env = pure false := by rfl) : PS X (.Assign [.Subscript o i pos'] e pos) (tFS X.K X.mg W (sDPutD fa fb fc)) := (ps_dput hu ho hi he hs).imp fun Z σ H ⟨as, S, f, S', E, ed, q⟩ => by
  unfold sDPutD at ed
  obtain ⟨⟨d, μ1⟩, e1, ed⟩ := Option.bind_eq_some_iff.mp ed
  obtain ⟨⟨x, μ2⟩, e2, ed⟩ := Option.bind_eq_some_iff.mp ed
  obtain ⟨⟨y, μ3⟩, e3, ed⟩ := Option.bind_eq_some_iff.mp ed
  obtain ⟨μ4, e4, ed⟩ := Option.map_eq_some_iff.mp ed
  obtain ⟨rfl, rfl⟩ := Prod.mk.inj ed
  refine ⟨as, S, d, μ1, E, e1, fun w as1 H1 X1 r1 s1 => ⟨as1, _, x, μ2, E.mvE X1 s1, e2, fun u as2 H2 X2 r2 s2 => ⟨as2, _, y, μ3, (E.mvE X1 s1).mvE X2 s2, e3, fun v as3 H3 X3 r3 s3 => ?_⟩⟩⟩
  have e4 : cDPut x y d μ3 = some μ4 := e4
  unfold cDPut at e4
  split at e4
  · split at e4
    · rename_i k _ key hk
      split at e4
      · rename_i ds ec
        split at e4
        · rename_i hlen
          cases Option.some.inj e4
          obtain ⟨p, kvs, rfl, ea, hp, hl, rs⟩ := h_dct (r2.mv X3) s3 ec
          obtain rfl := key_ok hk r3
          have X12 := X1.trans X2 E.sto.trk
          have X13 := X12.trans X3 E.sto.trk
          have rd := r1.mv (X2.trans X3 s1.trk)
          obtain ⟨X4, s4⟩ := s3.upd1 (o := .dK (putK kvs key w)) (c' := .dct (putKD ds key d)) ea (fun o u e => by rw [hp] at e; cases e) fun {as' H'} Y hz => by
            obtain ⟨m1, m2⟩ := put_rep (k := key) (rd.mv Y) hl (rs.mv Y)
            exact ⟨_, hz, m1, m2⟩
          have hkv : kvs.length < sizeLine := by
            have z := congrArg List.length hl
            simp only [List.length_map] at z
            exact Nat.lt_of_lt_of_le (show kvs.length < 1000 by omega) (by decide)
          have X14 := X13.trans X4 E.sto.trk
          exact ⟨p, _, rfl, DPut.k hp hkv, q as3 σ _ X14 (E.mvE X14 s4)⟩
        · cases e4
      · cases e4
    · cases e4
  · cases e4
/-- {} -/
def fDNew : EvE := fun S => some (.h S.μ.length, S.μ ++ [.dct []])
theorem de_dnew : PE X (.Dict [] [] pos) (tF X.K fDNew) := pe_dnewK.imp fun σ H Q ⟨as, S, d, μ', E, ed, q⟩ p hp => by
  obtain ⟨rfl, rfl⟩ := pr_inj ed
  obtain ⟨X1, s1⟩ := E.sto.grow1 (o := .dK []) (c' := .dct []) hp ⟨[], upd_same, rfl, .nil⟩
  refine q (.ref p) _ _ X1 (.h ?_) s1
  rw [← E.sto.len]
  exact List.getElem?_concat_length
end
end DL
namespace DL
open PySem L2
/-- the pairs of a display, from the left -/
def pairsL : List (EvE × EvE) → Sg → Option (List (Key × D) × List Cell)
  | [], S => some ([], S.μ)
  | (fk, fv) :: r, S => (fk S).bind fun a => (fv { S with μ := a.2 }).bind fun b => (keyD a.1).bind fun k => (pairsL r { S with μ := b.2 }).map fun c => ((k, b.1) :: c.1, c.2)
theorem pairsL_ok {K : PySem.W.Frag} {σ : St} {Q : List (V × V) → Hp → Prop} {ps : List (Key × D)} {μ' : List Cell} : ∀ {fs : List (EvE × EvE)} {as : Ar} {H : Hp} {S : Sg}, ER K as σ H S → pairsL fs S = some (ps, μ') →
    (∀ as' H' (kvs : List (Key × V)), Ext as H as' H' → StoR K as' H' μ' → kvs.map (·.1) = ps.map (·.1) → Reps K as' H' (kvs.map (·.2)) (ps.map (·.2)) → Q (kvs.map fun kv => (kV kv.1, kv.2)) H') → tPairs (fs.map fun f => (tF K f.1, tF K f.2)) σ H Q
  | [], as, H, S, E, e, q => by
    obtain ⟨rfl, rfl⟩ := pr_inj e
    exact q as H [] .refl E.sto rfl .nil
  | (fk, fv) :: r, as, H, S, E, e, q => by
    unfold pairsL at e
    obtain ⟨⟨a, μ1⟩, e1, e⟩ := Option.bind_eq_some_iff.mp e
    obtain ⟨⟨b, μ2⟩, e2, e⟩ := Option.bind_eq_some_iff.mp e
    obtain ⟨k, e3, e⟩ := Option.bind_eq_some_iff.mp e
    obtain ⟨⟨c, μ3⟩, e4, e⟩ := Option.map_eq_some_iff.mp e
    obtain ⟨rfl, rfl⟩ := Prod.mk.inj e
    refine ⟨as, S, a, μ1, E, e1, fun u as1 H1 X1 r1 s1 => ⟨as1, _, b, μ2, E.mvE X1 s1, e2, fun v as2 H2 X2 r2 s2 => ?_⟩⟩
    refine pairsL_ok ((E.mvE X1 s1).mvE X2 s2) e4 fun as3 H3 kvs X3 s3 hk rs => ?_
    have q' := q as3 H3 ((k, v) :: kvs) ((X1.trans X2 E.sto.trk).trans X3 E.sto.trk) s3 (by simp only [List.map_cons, hk]) (.cons (r2.mv X3) rs)
    rw [List.map_cons] at q'
    obtain rfl := key_ok e3 r1
    exact q'
def mergeD (ds more : List (Key × D)) : List (Key × D) := more.foldl (fun acc kv => putKD acc kv.1 kv.2) ds
theorem merge_rep {K : PySem.W.Frag} {as : Ar} {H : Hp} : ∀ {more : List (Key × V)} {moreD : List (Key × D)} {kvs : List (Key × V)} {ds : List (Key × D)}, more.map (·.1) = moreD.map (·.1) → Reps K as H (more.map (·.2)) (moreD.map (·.2)) → kvs.map (·.1) = ds.map (·.1) → Reps K as H (kvs.map (·.2)) (ds.map (·.2)) →
    (mergeK kvs more).map (·.1) = (mergeD ds moreD).map (·.1) ∧ Reps K as H ((mergeK kvs more).map (·.2)) ((mergeD ds moreD).map (·.2))
  | [], [], _, _, _, _, h, r => ⟨h, r⟩
  | [], _ :: _, _, _, h, _, _, _ => by simp at h
  | _ :: _, [], _, _, h, _, _, _ => by simp at h
  | (g, v) :: more, (g', x) :: moreD, kvs, ds, hm, rm, h, r => by
    simp only [List.map_cons, List.cons.injEq] at hm
    obtain ⟨rfl, hm⟩ := hm
    cases rm with
    | cons r1 r2 =>
      obtain ⟨a, b⟩ := put_rep (k := g) r1 h r
      exact merge_rep (more := more) (moreD := moreD) hm r2 a b
section
variable {X : Cx} {a : Expr} {pos : Pos} {fa : EvE}
/-- {k: e, ..} -/
def fDisp (fs : List (EvE × EvE)) : EvE := fun S => (pairsL fs { S with μ := S.μ ++ [.dct []] }).bind fun c => match c.2[S.μ.length]? with
  | some (.dct []) => some (.h S.μ.length, c.2.set S.μ.length (.dct (mergeD [] c.1)))
  | _ => none
theorem pairsL_len : ∀ {fs : List (EvE × EvE)} {S : Sg} {ps : List (Key × D)} {μ' : List Cell}, pairsL fs S = some (ps, μ') → ps.length = fs.length
  | [], _, _, _, e => by obtain ⟨rfl, rfl⟩ := pr_inj e; rfl
  | (fk, fv) :: r, S, ps, μ', e => by
    unfold pairsL at e
    obtain ⟨⟨a, μ1⟩, e1, e⟩ := Option.bind_eq_some_iff.mp e
    obtain ⟨⟨b, μ2⟩, e2, e⟩ := Option.bind_eq_some_iff.mp e
    obtain ⟨k, e3, e⟩ := Option.bind_eq_some_iff.mp e
    obtain ⟨⟨c, μ3⟩, e4, e⟩ := Option.map_eq_some_iff.mp e
    obtain ⟨rfl, rfl⟩ := Prod.mk.inj e
    simp only [List.length_cons, pairsL_len e4]
theorem de_disp {keys : List (Option Expr)} {values : List Expr} {fs : List (EvE × EvE)} (h : PPs X pos keys values (fs.map fun f => (tF X.K f.1, tF X.K f.2))) (hall : keys.all (·.isSome) = true) (hl : keys.length = values.length) (h0 : keys ≠ []) (h15 : keys.length ≤ 15) (hf : fs.length ≤ 15) :
    PE X (.Dict keys values pos) (tF X.K (fDisp fs)) := (pe_disp h hall hl h0 h15).imp fun σ H Q ⟨as, S, d, μ', E, ed, q⟩ p hp => by
  unfold fDisp at ed
  obtain ⟨⟨ps, μ2⟩, e1, ed⟩ := Option.bind_eq_some_iff.mp ed
  simp only at ed
  split at ed
  · rename_i ec
    obtain ⟨rfl, rfl⟩ := pr_inj ed
    obtain ⟨X1, s1⟩ := E.sto.grow1 (o := .dK []) (c' := .dct []) hp ⟨[], upd_same, rfl, .nil⟩
    refine pairsL_ok (E.mvE X1 s1) e1 fun as2 H2 kvs X2 s2 hk rs => ?_
    have ep : (⟨as.c ++ [p], as.b⟩ : Ar).c[S.μ.length]? = some p := by
      rw [← E.sto.len]
      exact List.getElem?_concat_length
    have ep2 : as2.c[S.μ.length]? = some p := by
      obtain ⟨more, m1, _⟩ := X2.pre
      rw [m1, List.getElem?_append_left (List.getElem?_eq_some_iff.mp ep).1]
      exact ep
    obtain ⟨kv0, hv, hz, _⟩ := s2.at_ _ p _ ep2 ec
    have : kv0 = [] := by cases kv0 with
      | nil => rfl
      | cons x r => simp at hz
    subst this
    have hlen : kvs.length ≤ 15 := by
      have z := congrArg List.length hk
      simp only [List.length_map] at z
      rw [z, pairsL_len e1]
      exact hf
    obtain ⟨X3, s3⟩ := s2.upd1 (o := .dK (mergeK [] kvs)) (c' := .dct (mergeD [] ps)) ep2 (fun o u e => by rw [hv] at e; cases e) fun {as' H'} Y hz => by
      obtain ⟨m1, m2⟩ := merge_rep (kvs := []) (ds := []) hk (rs.mv Y) rfl .nil
      exact ⟨_, hz, m1, m2⟩
    exact ⟨hv, kvs, rfl, hlen, q (.ref p) as2 _ ((X1.trans X2 E.sto.trk).trans X3 E.sto.trk) (.h ep2) s3⟩
  · cases ed
/-- len of a dict -/
def dLenK : D → List Cell → Option D
  | .h k, μ => match μ[k]? with
    | some (.dct ds) => some (.int ds.length)
    | _ => none
  | _, _ => none
theorem call_lenK : CallR X (.builtin "len") (rCD X.K (g1 dLenK)) := call1 fun pins s σ H x us Q as d μ z I r rd sto ez q => by
  unfold dLenK at ez
  split at ez
  · split at ez
    · rename_i k _ ds ed
      cases ez
      obtain ⟨p, kvs, rfl, _, hp, hl, rs⟩ := h_dct rd sto ed
      have hn : kvs.length = ds.length := by simpa using congrArg List.length hl
      refine L2.call_lenD pins s σ H _ us Q I r ⟨p, kvs, rfl, hp, ?_⟩
      rw [hn]
      exact q _ _ .refl (.int _) sto
    · cases ez
  · cases ez
end
end DL
namespace DL
open PySem L2
/-! A dict comprehension makes a new cell. -/
def dcL (k : Nat) (b : Bd) (t : EvT) (fk fv : EvE) (ρ : List (Option D)) : List D → List Cell → Option (List Cell)
  | [], μ => some μ
  | d :: ds, μ => match b d ⟨ρ, μ⟩ with
    | some S1 => match t S1 with
      | some (true, μ1) => match fk { S1 with μ := μ1 } with
        | some (x, μ2) => match fv { S1 with μ := μ2 } with
          | some (y, μ3) => match cDPut (.h k) x y μ3 with
            | some μ4 => dcL k b t fk fv ρ ds μ4
            | none => none
          | none => none
        | none => none
      | some (false, μ1) => dcL k b t fk fv ρ ds μ1
      | none => none
    | none => none
def fDc (it : EvI) (b : Bd) (t : EvT) (fk fv : EvE) (ws : List Nat) : EvE := fun S => match it S with
  | some (ds, μ1) => match dcL μ1.length b t fk fv (wipeR S.ρ ws) ds (μ1 ++ [.dct []]) with
    | some μ2 => some (.h μ1.length, μ2)
    | none => none
  | none => none
theorem cDPut_ok {K : PySem.W.Frag} {as : Ar} {H : Hp} {μ μ' : List Cell} {k : Nat} {p : Addr} {y z : V} {dy dz : D} (e : cDPut (.h k) dy dz μ = some μ') (s : StoR K as H μ) (ep : as.c[k]? = some p) (ry : Rep K as H y dy) (rz : Rep K as H z dz) :
    ∃ kvs key, y = kV key ∧ H p = some (.dK kvs) ∧ kvs.length < sizeLine ∧ Ext as H as (upd H p (.dK (putK kvs key z))) ∧ StoR K as (upd H p (.dK (putK kvs key z))) μ' := by
  unfold cDPut at e
  simp only at e
  split at e
  · rename_i key hk
    split at e
    · rename_i ds ec
      split at e
      · rename_i hlen
        cases Option.some.inj e
        obtain ⟨kvs, hp, hl, rs⟩ := s.at_ k p _ ep ec
        obtain rfl := key_ok hk ry
        obtain ⟨X4, s4⟩ := s.upd1 (o := .dK (putK kvs key z)) (c' := .dct (putKD ds key dz)) ep (fun o u e => by rw [hp] at e; cases e) fun {as' H'} Y hz => by
          obtain ⟨m1, m2⟩ := put_rep (k := key) (rz.mv Y) hl (rs.mv Y)
          exact ⟨_, hz, m1, m2⟩
        have hkv : kvs.length < sizeLine := by
          have z := congrArg List.length hl
          simp only [List.length_map] at z
          exact Nat.lt_of_lt_of_le (show kvs.length < 1000 by omega) (by decide)
        exact ⟨kvs, key, rfl, hp, hkv, X4, s4⟩
      · cases e
    · cases e
  · cases e
theorem tF_dc {K : PySem.W.Frag} {it : EvI} {b : Bd} {t : EvT} {fk fv : EvE} {ix ws : List Nat} (hix : ∀ j ∈ ix, j ∈ ws) : ∀ σ H Q, tF K (fDc it b t fk fv ws) σ H Q → tDc (tI K it) (tG K b ix) (tFT K t) (tF K fk) (tF K fv) ws σ H Q := fun σ H Q ⟨as, S, d, μ', E, e, q⟩ => by
  unfold fDc at e
  split at e
  · rename_i ds μ1 ei
    split at e
    · rename_i μ2 el
      obtain ⟨rfl, rfl⟩ := pr_inj e
      refine ⟨as, S, ds, μ1, E, ei, fun J as1 H1 X1 s1 it1 p hp => ?_⟩
      obtain ⟨X0, s0⟩ := s1.grow1 (o := .dK []) (c' := .dct []) hp ⟨[], upd_same, rfl, .nil⟩
      have ep0 : (⟨as1.c ++ [p], as1.b⟩ : Ar).c[μ1.length]? = some p := by
        rw [← s1.len]
        exact List.getElem?_concat_length
      have tr1 := s1.trk
      let Pv : Nat → Hp → Prop := fun i H2 => ∃ as2 μ3, Ext as1 H1 as2 H2 ∧ EnvR K as2 H2 (L2.wipe σ ws) (wipeR S.ρ ws) ∧ StoR K as2 H2 μ3 ∧ as2.c[μ1.length]? = some p ∧ dcL μ1.length b t fk fv (wipeR S.ρ ws) (ds.drop i) μ3 = some μ2
      refine ⟨fun i m H2 => m = ds.length - i ∧ i ≤ ds.length ∧ Pv i H2, ⟨_, rfl, Nat.zero_le _, _, _, X0, ((E.env.mv X1).mv X0).wipe ws, s0, ep0, el⟩, ?_⟩
      rintro i m H2 ⟨rfl, hi, as2, μ3, X2, E2, s2, ep2, el2⟩
      have later : ∀ {as6 : Ar} {H6 : Hp}, Ext as2 H2 as6 H6 → as6.c[μ1.length]? = some p := fun {as6 H6} Z => by
        obtain ⟨more, m1, _⟩ := Z.pre
        rw [m1, List.getElem?_append_left (List.getElem?_eq_some_iff.mp ep2).1]
        exact ep2
      by_cases hlt : i < ds.length
      · refine .inr ⟨it1.go i as2 H2 X2 hlt, Pv (i + 1), fun H3 z => ⟨_, by omega, rfl, hlt, z⟩, fun x H3 y => ?_⟩
        obtain ⟨d0, ed, X3, r3, s3⟩ := it1.yld i as2 H2 μ3 x H3 X2 s2 hlt y
        have hd : ds.drop i = d0 :: ds.drop (i + 1) := by
          rw [List.drop_eq_getElem_cons hlt]
          rw [List.getElem?_eq_getElem hlt] at ed
          cases ed
          rfl
        rw [hd] at el2
        unfold dcL at el2
        split at el2
        · rename_i S3 eb
          have E3 : ER K as2 (L2.wipe σ ws) H3 ⟨wipeR S.ρ ws, μ3⟩ := ⟨E2.mv X3, s3⟩
          refine ⟨as2, _, d0, S3, E3, r3, eb, fun as4 σ4 H4 X4 E4 l4 g4 => ⟨?_, ?_⟩⟩
          · refine (wipe_agree (l4.trans rfl) fun j hj => g4 j fun z => hj (hix j z)).trans ?_
            refine wipe_agree (wipe_length σ ws) fun j hj => ?_
            exact wipe_out hj
          have X24 := X3.trans X4 s2.trk
          split at el2
          · rename_i μ4 et
            refine ⟨as4, S3, true, μ4, E4, et, fun as5 H5 X5 s5 => iteT ?_⟩
            split at el2
            · rename_i x5 μ5 ef
              split at el2
              · rename_i y5 μ6 eg
                split at el2
                · rename_i μ7 ep
                  refine ⟨as5, _, x5, μ5, E4.mvE X5 s5, ef, fun y6 as6 H6 X6 r6 s6 => ⟨as6, _, y5, μ6, (E4.mvE X5 s5).mvE X6 s6, eg, fun z7 as7 H7 X7 r7 s7 => ?_⟩⟩
                  have X27 := X24.trans ((X5.trans X6 E4.sto.trk).trans X7 E4.sto.trk) s2.trk
                  obtain ⟨kvs, key, rfl, hp7, hl7, X8, s8⟩ := cDPut_ok ep s7 (later X27) (r6.mv X7) r7
                  refine ⟨kvs, key, rfl, hp7, hl7, as7, μ7, X2.trans (X27.trans X8 s2.trk) tr1, E2.mv (X27.trans X8 s2.trk), s8, later X27, el2⟩
                · cases el2
              · cases el2
            · cases el2
          · rename_i μ4 et
            refine ⟨as4, S3, false, μ4, E4, et, fun as5 H5 X5 s5 => iteF ?_⟩
            have X25 := X24.trans X5 s2.trk
            exact ⟨as5, μ4, X2.trans X25 tr1, E2.mv X25, s5, later X25, el2⟩
          · cases el2
        · cases el2
      · have hn : i = ds.length := by omega
        subst hn
        rw [List.drop_length] at el2
        cases Option.some.inj el2
        exact .inl ⟨it1.stop as2 H2 X2, q (.ref p) as2 H2 (X1.trans X2 E.sto.trk) (.h ep2) s2⟩
    · cases e
  · cases e
section
variable {X : Cx} {kx vx tg iter : Expr} {ifs : List Expr} {pos : Pos} {it : EvI} {b : Bd} {t : EvT} {fk fv : EvE} {ix : List Nat}
theorem de_dc {scope : Scope} {own : List (Str × Nat)} (hc : X.calm = true) (hN : X.N.Nodup) (hi : PI X tg iter (tI X.K it)) (ok : BlkOk X.N X.env.scope scope own)
    (hg : ∀ (s : Shared) (H : Hp) (C : Addr) (cl : List (Str × Addr)) (fp : List Addr), PG (X.blk s H scope (compEnvC scope cl C X.env) fp) tg (tG X.K b ix))
    (ht : ∀ (s : Shared) (H : Hp) (C : Addr) (cl : List (Str × Addr)) (fp : List Addr), PTs (X.blk s H scope (compEnvC scope cl C X.env) fp) ifs (tFT X.K t))
    (hk : ∀ (s : Shared) (H : Hp) (C : Addr) (cl : List (Str × Addr)) (fp : List Addr), PE (X.blk s H scope (compEnvC scope cl C X.env) fp) kx (tF X.K fk))
    (hv : ∀ (s : Shared) (H : Hp) (C : Addr) (cl : List (Str × Addr)) (fp : List Addr), PE (X.blk s H scope (compEnvC scope cl C X.env) fp) vx (tF X.K fv))
    (hix : ∀ j ∈ ix, j ∈ own.map (·.2) := by decide) (hs : ∀ x, foldedSetIterable iter X.env x = pure x := by intro _; rfl) :
    PE X (.DictComp kx vx [⟨tg, iter, ifs, 0⟩] scope pos) (tF X.K (fDc it b t fk fv (own.map (·.2)))) := (pe_dc hc hN hi ok hg ht hk hv hs).imp (tF_dc hix)
end
end DL
namespace DL
open PySem L2 PySem.Spec PyProof.Rows
/-! enumerate of a tuple -/
abbrev enO (n : Nat) : Obj := { cls := .type "enumerate", data := .fields #[.none, .bool false, .ref n, rawInt 0, .none, .none] }
set_option maxHeartbeats 1000000 in
theorem enum1_new {u : Value} {ob : Obj} {Z : Heap → Prop} (Bg : Begins u ob Z) : Meets (Builtin.«enumerate.__new__» ⟨[.type "enumerate", u], []⟩) (fun _ W st => Z st.heap ∧ W (.ok (.ret (.ref (st.heap.push ob).objs.size))) { st with heap := (st.heap.push ob).push (enO st.heap.objs.size) }) :=
  .of_wp fun pr wo Ar W st z => by
    obtain ⟨hp, gg, dd, tt, oo⟩ := st
    obtain ⟨z1, z2⟩ := z
    have hs := sub_enumerate
    have go : ∀ {A2 : Around} {E2 Q2 : Value → Shared → Prop}, Q2 (.ref hp.objs.size) ⟨hp.push ob, gg, dd, tt, oo⟩ → wpAny (model pr wo) A2 (pyIter u) Q2 E2 ⟨hp, gg, dd, tt, oo⟩ := fun q => Bg.iter pr wo _ _ ⟨hp, gg, dd, tt, oo⟩ _ z1 q
    wp_walk using go
    refine wpAny_stack_any fun sk => wpAny_pure ?_
    split
    · rename_i c _ _ _ _ _
      cases (c == Value.type "enumerate") <;> (wp_walk using go; exact ⟨_, rfl, z2⟩)
    · wp_walk using go
      exact ⟨_, rfl, z2⟩
theorem enum1_call {pr : Program} {wo : World} {A : Around} {E Q : Value → Shared → Prop} {s : Shared} {u : Value} {ob : Obj} {Z : Heap → Prop} (Bg : Begins u ob Z) (z : Z s.heap)
    (q : ∀ h', IsEnum h' (s.heap.objs.size + 1) s.heap.objs.size 0 .none → h'.get? s.heap.objs.size = some ob → (∀ b o, s.heap.get? b = some o → h'.get? b = some o) → Q (.ref (s.heap.objs.size + 1)) { s with heap := h' }) : wpAny (model pr wo) A (call (.type "enumerate") [u]) Q E s := by
  refine callType_new F.called_enumerate (by decide) (F.typeCall_enumerate_1 _) (F.newCall_enumerate_1 _) (fun obj => F.args_object_init_2 obj _) F.entry_enumerate_new (enum1_new Bg) ⟨z, ?_⟩
  have hz : (s.heap.push ob).objs.size = s.heap.objs.size + 1 := Heap.size_push ..
  show _ ∧ _
  rw [hz]
  have en : IsEnum ((s.heap.push ob).push (enO s.heap.objs.size)) (s.heap.objs.size + 1) s.heap.objs.size 0 .none := by
    have w := Heap.get?_push_size (s.heap.push ob) (o := enO s.heap.objs.size) rfl
    rw [hz] at w
    exact w
  exact ⟨⟨_, en, rfl⟩, q _ en (Heap.get?_push_of_some _ (Heap.get?_push_size _ Bg.free)) fun b o x => Heap.get?_push_of_some _ (Heap.get?_push_of_some _ x)⟩
/-- the tuple at a as it stands at each turn, each item in a new pair -/
def IteT (K : PySem.W.Frag) (a : Addr) : It :=
  ⟨fun i H => ∃ (xs : List V) (x : V), SqT K H a xs ∧ xs[i]? = some x, fun i H v H' => ∃ N x, v = .ref N ∧ H N = none ∧ H' = upd H N (.tup [.int (i : Nat), x]) ∧ ∀ xs, SqT K H a xs → xs[i]? = some x, fun i H => ∃ xs : List V, SqT K H a xs ∧ xs.length = i⟩
theorem turn_enumT {P : Program} {w : World} {K : PySem.W.Frag} {elts : List Expr} {kk : Nat} {tpos : Pos} (a e it : Addr) (hai : a ≠ it) (hae : a ≠ e) :
    Turn P w K (.Tuple elts kk tpos) (IteT K a) [e, it] e (fun i h => (∃ old, IsEnum h e it ((i : Nat) : Int) old) ∧ h.IsTupleIter it a i ∧ e ≠ it) where
  mem := by simp
  obj := fun i h st b hb => by
    obtain ⟨⟨old, he⟩, ⟨o, ho, _, hd⟩, _⟩ := st
    rcases (show b = e ∨ b = it by simpa using hb) with z | z
    · rw [z]; exact ⟨_, he, fun v q => nomatch q⟩
    · rw [z]; exact ⟨o, ho, fun v q => by rw [hd] at q; cases q⟩
  keep := fun i h h' st k => ⟨let ⟨old, he⟩ := st.1; ⟨old, k e (by simp) _ he⟩, st.2.1.at fun o q => k it (by simp) o q, st.2.2⟩
  item := by
    intro X hP hw hK hc i pins s σ H E I hf st hg
    subst hP hw hK
    obtain ⟨⟨old, he⟩, hit, hne⟩ := st
    obtain ⟨xs, x, hq, hx⟩ := hg
    obtain ⟨its, rv, p, _⟩ := I.tuple hq
    obtain ⟨u, hu, ru⟩ := rv.get hx
    have hel : e < s.heap.objs.size := Heap.lt_size he
    have hil : it < s.heap.objs.size := by obtain ⟨_, q, _⟩ := hit; exact Heap.lt_size q
    have hi : i < its.toArray.size := by
      have := (List.getElem?_eq_some_iff.mp hu).1
      simpa using this
    have D := Draws.tuple (prog := X.prog) (w := X.w) (A := X.A.in1) (I.ok.hd hc) it a hai its.toArray
    refine wpAny_pyNext_enum_itemD D he ⟨hit, p⟩ hi hne (fun z => by simp at z; rcases z with z | z; exact hne z; exact hae z.symm) fun y h' tk hy ho hst hT hsz hk => ?_
    have ey : y = u := by
      have hy : its.toArray[i]? = some y := hy
      rw [List.getElem?_toArray, hu] at hy
      exact (Option.some.inj hy).symm
    subst ey
    refine ⟨_, rfl, wpAny_letOwnedTupleGo_enum (s := { s with heap := h', toks := tk + 1 }) ho fun h'' he' sb => ?_⟩
    have hT2 : h''.get? s.heap.objs.size = some { cls := .type "tuple", data := .seq #[.int i tk, y] } := (sb.2 _ (Nat.ne_of_gt hel)).trans hT
    have new : ObjOk X.prog X.w (upd H s.heap.objs.size (.tup [.int (i : Nat), x])) h'' s.heap.objs.size (.tup [.int (i : Nat), x]) := ⟨by show 2 ≤ sizeLine; decide, [.int i tk, y], .cons ⟨_, rfl⟩ (.cons ru .nil), ⟨_, hT2, rfl, _, rfl⟩⟩
    have I1 : Inv X pins σ (upd H s.heap.objs.size (.tup [.int (i : Nat), x])) { s with heap := h'', toks := tk + 1 } :=
      I.turnedNew (ch := [e, it]) (fun b ob hb q => (sb.2 b (fun z => hb (by rw [z]; simp))).trans (hk b ob (fun z => hb (by rw [z]; simp)) (fun z => hb (by rw [z]; simp)) q)) hf (Nat.le_refl _) new
    refine ⟨.ref s.heap.objs.size, _, I1, rfl, ⟨_, x, rfl, I.hok.fresh (Nat.le_refl _), rfl, fun ys hy => by rw [I.tuple_inj hy hq]; exact hx⟩, ⟨⟨y, ?_⟩, hst.1.at fun o q => (sb.2 it (Ne.symm hne)).trans q, hne⟩, fun b hb => ?_⟩
    · have e1 : ((i + 1 : Nat) : Int) = (i : Int) + 1 := by omega
      rw [e1]
      exact he'
    · have hb' : b < s.heap.objs.size := by
        rcases (show b = e ∨ b = it by simpa using hb) with z | z
        · rw [z]; exact hel
        · rw [z]; exact hil
      rw [upd_ne (Nat.ne_of_lt hb')]
      exact (hf b hb).1
  done := by
    intro X hP hw hK hc i pins s σ H E I hf st hg
    subst hP hw hK
    obtain ⟨⟨old, he⟩, hit, hne⟩ := st
    obtain ⟨xs, hq, hx⟩ := hg
    obtain ⟨its, rv, p, _⟩ := I.tuple hq
    have hl := rv.length
    have D := Draws.tuple (prog := X.prog) (w := X.w) (A := X.A.in1) (I.ok.hd hc) it a hai its.toArray
    obtain ⟨f0, f1, f2, f3, f4, f5⟩ := hf it (by simp)
    have hn : its.toArray.size = i := by
      rw [List.size_toArray]
      omega
    refine wpAny_pyNext_enum_endD D he ?_ fun h' eb => ⟨rfl, I.turned (t' := s.toks) (fun b o hb q => eb b o hb q) f0 f1 f3 f4 f5⟩
    rw [hn]
    exact ⟨hit, p⟩
  self := fun A i s Q E st h => let ⟨⟨_, he⟩, _⟩ := st; wpAny_pyIter_enum he h
def iEnumT (K : PySem.W.Frag) (ta : TA) : TI := fun σ H R => ta σ H fun vs H1 => ∃ a xs, vs = [.ref a] ∧ SqT K H1 a xs ∧ R (IteT K a) H1
theorem pi_enumT {X : Cx} {e : Expr} {ta : TA} {p pos tpos : Pos} {elts : List Expr} {kk : Nat} (hg : Gl X "enumerate") (hm : X.mg "enumerate" = none) (ha : PA X [e] ta) (hs : starEach [e] X.env = [(false, eval e X.env)] := by rfl) : PI X (.Tuple elts kk tpos) (.Call (.Name "enumerate" p) [e] [] pos) (iEnumT X.K ta) := by
  refine ⟨fun pins s σ H R I h => ?_⟩
  refine Call_ (ld_blt I hg hm boot_enumerate (PyProof.Rows.callWith_type1 (thn (ha.run pos pins s σ H _ I h) fun us s1 ⟨vs, H1, I1, r1, a, xs, ex, hq, q⟩ => ?_) hs rfl))
  subst ex
  cases r1 with
  | cons r rr =>
    cases rr
    cases r
    obtain ⟨its, rv, pt, _⟩ := I1.tuple hq
    have la : a < s1.heap.objs.size := by obtain ⟨_, z, _⟩ := id pt; exact Heap.lt_size z
    refine enum1_call (begins_tuple a its.toArray) pt fun h' en hit hk => wpAny_pyIter_enum en ?_
    have I2 : Inv X pins σ H1 { s1 with heap := h' } := I1.kept (t' := s1.toks) hk
    refine ⟨s1.heap.objs.size + 1, [s1.heap.objs.size + 1, s1.heap.objs.size], _, _, H1, rfl, I2, turn_enumT a (s1.heap.objs.size + 1) s1.heap.objs.size (Nat.ne_of_lt la) (Nat.ne_of_lt (Nat.lt_succ_of_lt la)), ⟨⟨.none, en⟩, ⟨_, hit, rfl, rfl⟩, Nat.succ_ne_self _⟩, fun b hb => ?_, q⟩
    have hle : s1.heap.objs.size ≤ b := by
      rcases (show b = s1.heap.objs.size + 1 ∨ b = s1.heap.objs.size by simpa using hb) with z | z
      · rw [z]; exact Nat.le_succ _
      · rw [z]; exact Nat.le_refl _
    exact I1.fpOk hle (I1.hok.fresh hle)
/-- the pairs of an enumerate -/
def enumD (xs : List D) : List D := (List.range xs.length).zipWith (fun (i : Nat) x => D.tup [.int i, x]) xs
theorem enumD_len (xs : List D) : (enumD xs).length = xs.length := by simp [enumD]
theorem enumD_get {xs : List D} {i : Nat} {x : D} (h : xs[i]? = some x) : (enumD xs)[i]? = some (.tup [.int i, x]) := by
  unfold enumD
  have hl := (List.getElem?_eq_some_iff.mp h).1
  rw [List.getElem?_zipWith, h, List.getElem?_range hl]
def gEnum (fs : EvA) : EvI := fun S => match fs S with
  | some ([.tup xs], μ1) => some (enumD xs, μ1)
  | _ => none
theorem di_enumT {X : Cx} {e : Expr} {fs : EvA} {p pos tpos : Pos} {elts : List Expr} {kk : Nat} (hg : Gl X "enumerate") (hm : X.mg "enumerate" = none) (ha : PA X [e] (tFA X.K fs)) (hs : starEach [e] X.env = [(false, eval e X.env)] := by rfl) :
    PI X (.Tuple elts kk tpos) (.Call (.Name "enumerate" p) [e] [] pos) (tI X.K (gEnum fs)) := PI.imp (pi_enumT hg hm ha hs) fun σ H R ⟨as, S, ds, μ', E, ed, q⟩ => by
  unfold gEnum at ed
  split at ed
  · rename_i xs μ1 ef
    obtain ⟨rfl, rfl⟩ := pr_inj ed
    refine ⟨as, S, _, μ1, E, ef, fun vs as1 H1 X1 r1 s1 => ?_⟩
    cases r1 with
    | cons ra rt =>
    cases rt
    cases ra with
    | @tup u us _ t1 q1 =>
    refine ⟨u, us, rfl, t1.sq, q _ as1 H1 X1 s1 ⟨fun i as' H' X' hi => ?_, fun as' H' X' => ⟨us, (t1.mv X').sq, by rw [enumD_len, q1.length]⟩, fun i as' H' μ x H'' X' s' hi y => ?_⟩⟩
    · rw [enumD_len] at hi
      have h1 : i < us.length := by rw [q1.length]; exact hi
      exact ⟨us, us[i], (t1.mv X').sq, List.getElem?_eq_getElem h1⟩
    · obtain ⟨N, x', rfl, hN, rfl, hx⟩ := y
      obtain ⟨dx, ex, rx⟩ := (q1.mv X').getV (hx us (t1.mv X').sq)
      exact ⟨_, enumD_get ex, Ext.new hN (s'.out hN), .newT s' hN (.cons (.int _) (.cons rx .nil)), s'.new hN⟩
  · cases ed
end DL
namespace DL
open PySem L2 PySem.Spec PyProof.Rows
/-! in, not in and o[k] by an object's own methods (that raise nothing here) -/
section
variable {X : Cx} {k : Nat} {f C : Addr} {F : FnF}
def gIn (nm : Str) (F : FnF) (g : Bool → Bool) : GX := fun x o μ => if isO nm o μ then match F [o, x] μ with
  | some (.v (.bl b), μ') => some (.bl (g b), μ')
  | _ => none
  else none
theorem gIn_out {nm : Str} {g : Bool → Bool} {x o z : D} {μ μ' : List Cell} (e : gIn nm F g x o μ = some (z, μ')) : isO nm o μ = true ∧ ∃ b, F [o, x] μ = some (.v (.bl b), μ') ∧ z = .bl (g b) := by
  unfold gIn at e
  split at e
  · rename_i h
    split at e
    · rename_i b μ1 ef
      obtain ⟨rfl, rfl⟩ := pr_inj e
      exact ⟨h, b, ef, rfl⟩
    · cases e
  · cases e
theorem op_inO {nm : Str} (hc : PySem.W.nsIn X.K mainGlobals nm = some (some (.ref C))) (hs : PySem.W.findIn X.K (.ref C) "__contains__" = some (some (.ref f))) (hf : PySem.W.isFn X.K (.ref f) = true) (G : FR X.prog X.w X.K X.mg X.base k f F) (hr : Room k X.A) (hgd : X.A.guards = some []) :
    OpR X (compareOp .In) (rDM X.K (gIn nm F id)) := by
  intro pins s σ H x y v u Q I rx ry ⟨as, d, e, μ, z, μ', rd, re, sto, ez, q⟩
  obtain ⟨h1, b, ef, rfl⟩ := gIn_out ez
  obtain ⟨a, dx, fv, rfl, ha⟩ := isO_ok hc re sto h1
  obtain rfl : u = Value.ref a := ry
  obtain ⟨mA, J, _⟩ := ins_get I.hok ha
  obtain ⟨od, J, _⟩ := J.look
  obtain ⟨m, hF⟩ := I.fr
  refine PySem.W.in_K hF I.ok.mod.kin J hs hf ?_
  refine wpAny_mono (run_frA (us := [.ref a, v]) (vs := [.ref a, x]) (Q := fun w H' => w = .bl b ∧ Q (.bl b) H') rfl G hr hgd I (.cons rfl (.cons rx .nil)) ⟨as, μ, [e, d], .v (.bl b), μ', .cons re (.cons rd .nil), sto, ef, fun w as' H' X' r' s' => by cases r'; exact ⟨rfl, q _ as' H' X' (.bl _) s'⟩⟩) (fun r s' hq => ?_) fun _ _ x => x
  obtain ⟨w, H', I', rw', ew, hq⟩ := hq
  subst ew
  cases rw'
  exact wpAny_truthy_bool ⟨.bl b, H', I', rfl, hq⟩
theorem op_notInO {nm : Str} (hc : PySem.W.nsIn X.K mainGlobals nm = some (some (.ref C))) (hs : PySem.W.findIn X.K (.ref C) "__contains__" = some (some (.ref f))) (hf : PySem.W.isFn X.K (.ref f) = true) (G : FR X.prog X.w X.K X.mg X.base k f F) (hr : Room k X.A) (hgd : X.A.guards = some []) :
    OpR X (compareOp .NotIn) (rDM X.K (gIn nm F not)) := by
  intro pins s σ H x y v u Q I rx ry ⟨as, d, e, μ, z, μ', rd, re, sto, ez, q⟩
  obtain ⟨h1, b, ef, rfl⟩ := gIn_out ez
  obtain ⟨a, dx, fv, rfl, ha⟩ := isO_ok hc re sto h1
  obtain rfl : u = Value.ref a := ry
  obtain ⟨mA, J, _⟩ := ins_get I.hok ha
  obtain ⟨od, J, _⟩ := J.look
  obtain ⟨m, hF⟩ := I.fr
  refine PySem.W.notIn_K hF I.ok.mod.kin J hs hf ?_
  refine wpAny_mono (run_frA (us := [.ref a, v]) (vs := [.ref a, x]) (Q := fun w H' => w = .bl b ∧ Q (.bl (!b)) H') rfl G hr hgd I (.cons rfl (.cons rx .nil)) ⟨as, μ, [e, d], .v (.bl b), μ', .cons re (.cons rd .nil), sto, ef, fun w as' H' X' r' s' => by cases r'; exact ⟨rfl, q _ as' H' X' (.bl _) s'⟩⟩) (fun r s' hq => ?_) fun _ _ x => x
  obtain ⟨w, H', I', rw', ew, hq⟩ := hq
  subst ew
  cases rw'
  exact wpAny_truthy_bool ⟨.bl (!b), H', I', rfl, hq⟩
/-- o[k] -/
def gGet (nm : Str) (F : FnF) : GX := fun o x μ => if isO nm o μ then match F [o, x] μ with
  | some (.v z, μ') => some (z, μ')
  | _ => none
  else none
theorem de_getO {nm : Str} {o i : Expr} {fa fb : EvE} {pos : Pos} (hc : PySem.W.nsIn X.K mainGlobals nm = some (some (.ref C))) (hs : PySem.W.findIn X.K (.ref C) "__getitem__" = some (some (.ref f))) (hf : PySem.W.isFn X.K (.ref f) = true) (hfn : PySem.W.fnIn X.K f = true) (G : FR X.prog X.w X.K X.mg X.base k f F) (hr : Room (k + 1) X.A) (hgd : X.A.guards = some [])
    (ho : PE X o (tF X.K fa)) (hi : PE X i (tF X.K fb)) (hsl : ∀ u v : Value, subscripted i true u v = runValue (.builtin "lifetime.subscript" ⟨[u, v], []⟩) := by intro _ _; with_unfolding_all rfl) : PE X (.Subscript o i pos) (tF X.K (fBM (gGet nm F) fa fb)) := by
  refine ⟨fun pins s σ H Q I ⟨as, S, d, μ', E, e, q⟩ => ?_⟩
  obtain ⟨⟨x, μ1⟩, e1, e⟩ := Option.bind_eq_some_iff.mp e
  obtain ⟨⟨y, μ2⟩, e2, e⟩ := Option.bind_eq_some_iff.mp e
  have e : gGet nm F x y μ2 = some (d, μ') := e
  unfold gGet at e
  split at e
  · rename_i h1
    split at e
    · rename_i z μ3 ef
      obtain ⟨rfl, rfl⟩ := pr_inj e
      refine Subscript_ (thn (ho.run pins s σ H (fun u H1 => ∃ as1, Ext as H as1 H1 ∧ Rep X.K as1 H1 u x ∧ StoR X.K as1 H1 μ1) I ⟨as, S, x, μ1, E, e1, fun v as1 H1 X1 r1 s1 => ⟨as1, X1, r1, s1⟩⟩) fun vo s1 ⟨u, H1, I1, ru, as1, X1, r1, st1⟩ => ?_)
      refine thn (hi.run pins s1 σ H1 (fun v H2 => ∃ as2, Ext as1 H1 as2 H2 ∧ Rep X.K as2 H2 v y ∧ StoR X.K as2 H2 μ2) I1 ⟨as1, _, y, μ2, E.mvE X1 st1, e2, fun v as2 H2 X2 r2 s2 => ⟨as2, X2, r2, s2⟩⟩) fun vi s2 ⟨v, H2, I2, rv, as2, X2, r2, st2⟩ => ?_
      obtain ⟨a, dx, fv, rfl, ha⟩ := isO_ok hc (r1.mv X2) st2 h1
      obtain rfl : vo = Value.ref a := ru
      obtain ⟨mA, J, _⟩ := ins_get I2.hok ha
      obtain ⟨od, J, _⟩ := J.look
      obtain ⟨m, hF⟩ := I2.fr
      refine PySem.W.sub_K hF I2.ok.mod.kin J hs hfn hf ?_ (hsl _ _)
      refine wpAny_mono (run_frA (A := X.A.in1) (us := [.ref a, vi]) (vs := [.ref a, v]) (Q := Q) rfl G hr.in1 hgd I2 (.cons rfl (.cons rv .nil)) ⟨as2, μ2, [x, y], .v _, _, .cons (r1.mv X2) (.cons r2 .nil), st2, ef, fun w as' H' X' r' s' => q w as' H' ((X1.trans X2 E.sto.trk).trans X' E.sto.trk) r' s'⟩) (fun r s' hq => hq) fun _ _ x => x
    · cases e
  · cases e
end
end DL
namespace DL
open PySem L2
section
variable {X : Cx} {o e : Expr} {fa fb : EvE}
/-- l.extend(m), m a list -/
def cExt (x d : D) (μ : List Cell) : Option (List Cell) := match x with
  | .h k => match μ[k]? with
    | some (.lst xs) => match asL d μ with
      | some ys => if xs.length + ys.length ≤ sizeLine then some (μ.set k (.lst (xs ++ ys))) else none
      | none => none
    | _ => none
  | _ => none
def fExt (fo fd : EvE) : EvE := fun S => (fo S).bind fun a => if isLst a.1 a.2 = true then (fd { S with μ := a.2 }).bind fun b => (cExt a.1 b.1 b.2).map fun μ3 => (.non, μ3) else none
theorem reps_app {K : PySem.W.Frag} {as : Ar} {H : Hp} : ∀ {us vs : List V} {xs ys : List D}, Reps K as H us xs → Reps K as H vs ys → Reps K as H (us ++ vs) (xs ++ ys)
  | _, _, _, _, .nil, r => r
  | _, _, _, _, .cons a b, r => .cons a (reps_app b r)
theorem de_extend {apos cpos : Pos} (ho : PE X o (tF X.K fa)) (he : PE X e (tF X.K fb)) (hbase : attributeBase o "extend" X.env (eval o X.env) = eval o X.env := by rfl)
    (hfew : ((backTo cpos (starEach [e] X.env)).all (fun x => !x.1) && (backToKw cpos (keywordEach [] X.env)).all (fun x => x.1.isSome) && decide ([e].length + ([] : List Keyword).length + (if ([] : List Keyword).isEmpty then 0 else 1) < 30)) = true := by rfl)
    (hline : (apos.endLine == cpos.line) = true := by rfl) (hs : starEach [e] X.env = (false, eval e X.env) :: starEach [] X.env := by rfl) (hplain : (backTo cpos (starEach [] X.env)).any (·.1) = false := by rfl) :
    PE X (.Call (.Attribute o "extend" apos) [e] [] cpos) (tF X.K (fExt fa fb)) :=
  (pe_bm PySem.F.plainAttrs_list PySem.F.slot_list_extend PySem.F.type_list_extend mt_extend ho (da_cons he da_nil hs) hbase hfew hline hs hplain).imp fun σ H Q ⟨as, S, d, μ', E, ed, q⟩ => by
    unfold fExt at ed
    obtain ⟨⟨x, μ1⟩, ea, ed⟩ := Option.bind_eq_some_iff.mp ed
    have ed : (if isLst x μ1 = true then (fb { S with μ := μ1 }).bind fun b => (cExt x b.1 b.2).map fun μ3 => (D.non, μ3) else none) = some (d, μ') := ed
    split at ed
    · rename_i hil
      obtain ⟨⟨y, μ2⟩, eb, ed⟩ := Option.bind_eq_some_iff.mp ed
      obtain ⟨μ3, ec, eq⟩ := Option.map_eq_some_iff.mp ed
      obtain ⟨rfl, rfl⟩ := Prod.mk.inj eq
      have ec : cExt x y μ2 = some μ3 := ec
      refine ⟨as, S, _, μ1, E, ea, fun v as1 H1 X1 r1 s1 => ⟨cell_ty r1 s1 hil, as1, _, [y], μ2, E.mvE X1 s1, by unfold fCons fNil; rw [eb], fun vs as2 H2 X2 r2 s2 => ?_⟩⟩
      unfold cExt at ec
      split at ec
      · split at ec
        · rename_i k _ xs ex
          split at ec
          · rename_i ys ey
            split at ec
            · rename_i hz
              cases Option.some.inj ec
              cases r2 with
              | cons r2 rt =>
              cases rt
              obtain ⟨p, ws, rfl, ep, hv, rs⟩ := h_list (r1.mv X2) s2 ex
              obtain ⟨b, us, rfl, hb, ru⟩ := asL_ok r2 s2 ey
              have X12 := X1.trans X2 E.sto.trk
              obtain ⟨X3, s3⟩ := s2.upd ep (nofrz hv) (reps_app rs ru)
              exact ⟨p, b, ws, us, rfl, rfl, hv, hb, by rw [rs.length, ru.length]; exact hz, q .non as2 _ (X12.trans X3 E.sto.trk) .non s3⟩
            · cases ec
          · cases ec
        · cases ec
      · cases ec
    · cases ed
end
end DL
namespace DL
open PySem L2
section
variable {X : Cx}
def keyV : Key → D
  | .inl i => .int i
  | .inr s => .str s
theorem keyV_rep {K : PySem.W.Frag} {as : Ar} {H : Hp} (k : Key) : Rep K as H (kV k) (keyV k) := by
  cases k with
  | inl i => exact .int i
  | inr s => exact .str s
/-- list(d): the keys -/
def dListK : D → List Cell → Option D
  | .h k, μ => match μ[k]? with
    | some (.dct ds) => some (.lst (ds.map fun kv => keyV kv.1))
    | _ => none
  | _, _ => none
theorem keys_rep {K : PySem.W.Frag} {as : Ar} {H : Hp} : ∀ {kvs : List (Key × V)} {ds : List (Key × D)}, kvs.map (·.1) = ds.map (·.1) → Reps K as H (kvs.map fun kv => kV kv.1) (ds.map fun kv => keyV kv.1)
  | [], [], _ => .nil
  | [], _ :: _, h => by simp at h
  | _ :: _, [], h => by simp at h
  | (g, v) :: kvs, (g', x) :: ds, h => by
    simp only [List.map_cons, List.cons.injEq] at h
    obtain ⟨rfl, h⟩ := h
    exact .cons (keyV_rep g) (keys_rep h)
theorem call_listK (hc : X.calm = true) : CallR X (.type "list") (rCD X.K (g1 dListK)) := call1 fun pins s σ H x us Q as d μ z I r rd sto ez q => by
  unfold dListK at ez
  split at ez
  · split at ez
    · rename_i k _ ds ed
      cases ez
      obtain ⟨p, kvs, rfl, _, hp, hl, rs⟩ := h_dct rd sto ed
      refine L2.call_list_dK hc pins s σ H _ us Q I r ⟨p, kvs, rfl, hp, fun n hn => ?_⟩
      have X1 := Ext.new (o := HO.lst (kvs.map fun kv => kV kv.1)) hn (sto.out hn)
      exact q _ _ X1 (.lst upd_same (sto.out hn) (keys_rep hl)) (sto.new hn)
    · cases ez
  · cases ez
end
end DL
namespace DL
open PySem L2
/-! for over the keys of a dict, which is locked meanwhile -/
section
variable {K : PySem.W.Frag} {as : Ar} {H : Hp}
mutual
/-- what stands in a cell does not matter to data -/
theorem Rep.recell {p : Addr} {o : HO} (hp : p ∈ as.c) : ∀ {v : V} {d : D}, Rep K as H v d → Rep K as (upd H p o) v d
  | _, _, .non => .non
  | _, _, .bl b => .bl b
  | _, _, .int i => .int i
  | _, _, .str s => .str s
  | _, _, .ty n => .ty n
  | _, _, .h e => .h e
  | _, _, .lst t n r => .lst (by rw [upd_ne fun e => n.1 (by rw [e]; exact hp)]; exact t) n (Reps.recell hp r)
  | _, _, .rl t r => .rl (t.elim (fun z => .inl ⟨by unfold Rd; rw [upd_ne fun e => z.2.1 (by rw [e]; exact hp)]; exact z.1, z.2⟩) .inr) (Reps.recell hp r)
  | _, _, .tup t r => .tup (t.elim (fun z => .inl ⟨by unfold Rd; rw [upd_ne fun e => z.2.1 (by rw [e]; exact hp)]; exact z.1, z.2⟩) .inr) (Reps.recell hp r)
  | _, _, .dct t n e r => .dct (by rw [upd_ne fun e => n.1 (by rw [e]; exact hp)]; exact t) n e (Reps.recell hp r)
  | _, _, .exc e t n => .exc e (by rw [upd_ne fun e => n.1 (by rw [e]; exact hp)]; exact t) n
  | _, _, .exf e t n t2 n2 r => .exf e (by rw [upd_ne fun e => n.1 (by rw [e]; exact hp)]; exact t) n (by rw [upd_ne fun e => n2.1 (by rw [e]; exact hp)]; exact t2) n2 (Rep.recell hp r)
  | _, _, .cls e => .cls e
theorem Reps.recell {p : Addr} {o : HO} (hp : p ∈ as.c) : ∀ {vs : List V} {ds : List D}, Reps K as H vs ds → Reps K as (upd H p o) vs ds
  | _, _, .nil => .nil
  | _, _, .cons h t => .cons (Rep.recell hp h) (Reps.recell hp t)
end
end
section
variable {X : Cx} {e tg : Expr} {fo : EvE} {W : WX}
def gKeys (fo : EvE) : EvI := fun S => match fo S with
  | some (.h k, μ1) => match μ1[k]? with
    | some (.lck ds) => some (ds.map fun kv => keyV kv.1, μ1)
    | _ => none
  | _ => none
theorem di_keys (he : PE X e (tF X.K fo)) : PI X tg e (tI X.K (gKeys fo)) := PI.imp (pi_keys he) fun σ H R ⟨as, S, ds, μ', E, ed, q⟩ => by
  unfold gKeys at ed
  split at ed
  · rename_i k μ1 ef
    split at ed
    · rename_i ds ec
      obtain ⟨rfl, rfl⟩ := pr_inj ed
      refine ⟨as, S, _, μ1, E, ef, fun v as1 H1 X1 r1 s1 => ?_⟩
      cases r1 with
      | @h _ p ep =>
        obtain ⟨od, kvs, hv, hl, rs⟩ := s1.at_ k p _ ep ec
        have hn : kvs.length = ds.length := by simpa using congrArg List.length hl
        refine ⟨p, od, rfl, .inl ⟨kvs, hv, q _ as1 H1 X1 s1 ⟨fun i as' H' X' hi => ⟨X'.frz _ _ _ hv, by simpa [hn] using hi⟩, fun as' H' X' => ⟨X'.frz _ _ _ hv, by simp [hn]⟩, fun i as' H' μ x H'' X' s' hi y => ?_⟩⟩⟩
        obtain ⟨rfl, g, w, hg, rfl⟩ := y
        have hk : (ds.map (·.1))[i]? = some g := by
          rw [← hl, List.getElem?_map, hg]
          rfl
        rw [List.getElem?_map] at hk
        obtain ⟨kv, h1, rfl⟩ := Option.map_eq_some_iff.mp hk
        exact ⟨keyV kv.1, by rw [List.getElem?_map, h1]; rfl, .refl, keyV_rep _, s'⟩
    · cases ed
  · cases ed
/-- a statement while the dict in cell k is locked -/
def sLock (fk : Sg → Option Nat) (g : EvS) : EvS := fun S => (fk S).bind fun k => match S.μ[k]? with
  | some (.dct ds) => match g { S with μ := S.μ.set k (.lck ds) } with
    | some (.ex _ _, _) => none
    | some (fl, S') => match S'.μ[k]? with
      | some (.lck ds') => some (fl, { S' with μ := S'.μ.set k (.dct ds') })
      | _ => none
    | none => none
  | _ => none
theorem unlock_ok {K : PySem.W.Frag} {as as' : Ar} {H H' : Hp} {μ' : List Cell} {k : Nat} {p : Addr} {od : Obj} {kvs : List (Key × V)} {ds : List (Key × D)} (ep : as.c[k]? = some p) (hv : H p = some (.dK kvs)) (Y : Ext as (upd H p (.frz od (.dK kvs))) as' H') (s : StoR K as' H' μ') (em : μ'[k]? = some (.lck ds)) :
    p ∈ as'.c ∧ H' p = some (.frz od (.dK kvs)) ∧ Ext as H as' (upd H' p (.dK kvs)) ∧ StoR K as' (upd H' p (.dK kvs)) (μ'.set k (.dct ds)) := by
  have pc : p ∈ as.c := List.mem_of_getElem? ep
  have hf : H' p = some (.frz od (.dK kvs)) := Y.frz p od _ upd_same
  obtain ⟨more, m1, m2⟩ := Y.pre
  have ep' : as'.c[k]? = some p := by
    rw [m1, List.getElem?_append_left (List.getElem?_eq_some_iff.mp ep).1]
    exact ep
  have pc' : p ∈ as'.c := List.mem_of_getElem? ep'
  have free : ∀ a, (upd H p (.frz od (.dK kvs))) a = none → H a = none := fun a z => by
    by_cases e : a = p
    · rw [e, upd_same] at z; cases z
    · rwa [upd_ne e] at z
  refine ⟨pc', hf, ⟨⟨more, m1, fun a ha => free a (m2 a ha)⟩, ?_, fun a o ha h => ?_, fun a ha h => ?_, fun a o u h => ?_⟩, ⟨by rw [List.length_set]; exact s.len, fun j a c ej ec => ?_, s.nd, fun a ha => ?_⟩⟩
  · obtain ⟨nb, n1, n2⟩ := Y.blk
    exact ⟨nb, n1, fun a ha => free a (n2 a ha)⟩
  · have ne : a ≠ p := fun z => ha (z ▸ pc)
    rw [upd_ne ne]
    exact Y.old a o ha (by rw [upd_ne ne]; exact h)
  · by_cases z : a = p
    · rw [z, upd_same]; simp
    · rw [upd_ne z]; exact Y.cel a ha (by rw [upd_ne z]; exact h)
  · have ne : a ≠ p := fun z => by rw [z, hv] at h; cases h
    rw [upd_ne ne]
    exact Y.frz a o u (by rw [upd_ne ne]; exact h)
  · by_cases hj : k = j
    · subst hj
      have hk := (List.getElem?_eq_some_iff.mp em).1
      rw [List.getElem?_set_self hk] at ec
      cases ec
      rw [ep'] at ej
      cases ej
      obtain ⟨od2, kv2, h2, hl, rs⟩ := s.at_ k p _ ep' em
      rw [hf] at h2
      cases h2
      exact ⟨kvs, upd_same, hl, rs.recell pc'⟩
    · rw [List.getElem?_set_ne hj] at ec
      have ne : a ≠ p := fun z => hj (by subst z; exact nodup_ix s.nd ep' ej)
      exact (s.at_ j a c ej ec).map (upd_ne ne) (fun r => r.recell pc') fun b q hb h => ⟨by rw [upd_ne fun (z : b = p) => hb (by rw [z]; exact pc')]; exact h, hb⟩
  · by_cases z : a = p
    · rw [z, upd_same]; simp
    · rw [upd_ne z]; exact s.bl a ha
theorem ds_lock {st : Stmt} {g : EvS} {fk : Sg → Option Nat} (h : PS X st (tFS X.K X.mg W g)) : PS X st (tFS X.K X.mg W (sLock fk g)) := (ps_lock h).imp fun D σ H ⟨as, S, fl, S', E, e, q⟩ => by
  unfold sLock at e
  obtain ⟨k, ek, e⟩ := Option.bind_eq_some_iff.mp e
  split at e
  · rename_i ds ec
    have hk : k < as.c.length := by rw [E.sto.len]; exact (List.getElem?_eq_some_iff.mp ec).1
    have ep : as.c[k]? = some as.c[k] := List.getElem?_eq_getElem hk
    generalize as.c[k] = p at ep
    obtain ⟨kvs, hv, hl, rs⟩ := E.sto.at_ k p _ ep ec
    refine ⟨p, .dK kvs, hv, trivial, fun od => ?_⟩
    obtain ⟨X1, s1⟩ := E.sto.upd1 (o := .frz od (.dK kvs)) (c' := .lck ds) ep (fun o u z => by rw [hv] at z; cases z) fun {as' H'} Y hz => ⟨od, kvs, hz, hl, rs.mv Y⟩
    split at e
    · cases e
    · rename_i fl1 S1 hne eg
      split at e
      · rename_i ds' em
        obtain ⟨rfl, rfl⟩ := pr_inj e
        refine ⟨as, { S with μ := S.μ.set k (.lck ds) }, fl1, S1, ⟨E.env.mv X1, s1⟩, eg, ?_⟩
        have env : ∀ {as' : Ar} {σ' : St} {H' : Hp}, p ∈ as'.c → EnvR X.K as' H' σ' S1.ρ → EnvR X.K as' (upd H' p (.dK kvs)) σ' S1.ρ := fun {as' σ' H'} pc z => ⟨z.1, fun i d hd => let ⟨v, a, b⟩ := z.2 i d hd; ⟨v, a, b.recell pc⟩⟩
        cases fl1 with
        | nx => exact fun as' σ' H' Y E' => let ⟨a, b, c, d⟩ := unlock_ok ep hv Y E'.sto em; ⟨b, q as' σ' _ c ⟨env a E'.env, d⟩⟩
        | bk => exact fun as' σ' H' Y E' => let ⟨a, b, c, d⟩ := unlock_ok ep hv Y E'.sto em; ⟨b, q as' σ' _ c ⟨env a E'.env, d⟩⟩
        | ct => exact fun as' σ' H' Y E' => let ⟨a, b, c, d⟩ := unlock_ok ep hv Y E'.sto em; ⟨b, q as' σ' _ c ⟨env a E'.env, d⟩⟩
        | rt x => exact fun as' v H' Y r s' => let ⟨a, b, c, d⟩ := unlock_ok ep hv Y s' em; ⟨b, q as' v _ c (r.recell a) d⟩
        | ex n x => exact (hne _ _ rfl).elim
      · cases e
    · cases e
  · cases e
/-- a statement that is not reached (its data function has no answer) -/
theorem ds_never {st : Stmt} : PS X st (tFS X.K X.mg W fun _ => none) := ⟨fun pins s σ H D I ⟨as, S, fl, S', E, e, q⟩ => by cases e⟩
end
end DL
namespace DL
open PySem L2 PySem.Spec PyProof.Rows
/-! while; operators on bits; bit_length; divmod -/
section
variable {X : Cx} {pos : Pos} {W : WX}
/-- so many turns at the most -/
def whL (t : EvT) (body : EvS) : Nat → Sg → Option (Fl × Sg)
  | 0, _ => none
  | n + 1, S => match t S with
    | some (false, μ1) => some (.nx, { S with μ := μ1 })
    | some (true, μ1) => match body { S with μ := μ1 } with
      | some (.nx, S2) => whL t body n S2
      | some (.ct, S2) => whL t body n S2
      | some (.bk, S2) => some (.nx, S2)
      | some (.rt x, S2) => some (.rt x, S2)
      | some (.ex n p, S2) => some (.ex n p, S2)
      | none => none
    | none => none
def sWhile (n : Nat) (t : EvT) (body : EvS) : EvS := whL t body n
theorem ds_while {n : Nat} {c : Expr} {ss : List Stmt} {t : EvT} {g : EvS} (hp : PassesOwn (model X.prog X.w) X.A X.env X.xe) (hc : PT X c (tFT X.K t)) (hb : PSs X ss (tFS X.K X.mg W g)) :
    PS X (.While c ss [] pos) (tFS X.K X.mg W (sWhile n t g)) := by
  refine (ps_while hp hc hb).imp fun D σ H ⟨as, S, fl, S', E, e, q⟩ => ?_
  refine ⟨fun m σ2 H2 => ∃ as2 S2, Ext as H as2 H2 ∧ ER X.K as2 σ2 H2 S2 ∧ whL t g m S2 = some (fl, S'), ⟨n, as, S, .refl, E, e⟩, ?_⟩
  rintro m σ2 H2 ⟨as2, S2, X2, E2, e2⟩
  cases m with
  | zero => cases e2
  | succ m =>
    unfold whL at e2
    split at e2
    · rename_i μ1 et
      obtain ⟨rfl, rfl⟩ := pr_inj e2
      refine ⟨as2, S2, false, μ1, E2, et, fun as3 H3 X3 s3 => ?_⟩
      show (if false = true then _ else D.nx σ2 H3)
      rw [if_neg (by decide)]
      exact q as3 σ2 H3 (X2.trans X3 E.sto.trk) (E2.mvE X3 s3)
    · rename_i μ1 et
      refine ⟨as2, S2, true, μ1, E2, et, fun as3 H3 X3 s3 => ?_⟩
      show (if true = true then _ else _)
      rw [if_pos rfl]
      have E3 := E2.mvE X3 s3
      have X13 := X2.trans X3 E.sto.trk
      refine ⟨fun σ' H' => ∃ as4 S4, Ext as H as4 H' ∧ ER X.K as4 σ' H' S4 ∧ whL t g m S4 = some (fl, S'), fun σ' H' ⟨as4, S4, X4, E4, e4⟩ => ⟨m, Nat.lt_succ_self m, as4, S4, X4, E4, e4⟩, ?_⟩
      split at e2
      · rename_i S5 eg
        exact ⟨as3, _, .nx, S5, E3, eg, fun as5 σ5 H5 X5 E5 => ⟨as5, S5, X13.trans X5 E.sto.trk, E5, e2⟩⟩
      · rename_i S5 eg
        exact ⟨as3, _, .ct, S5, E3, eg, fun as5 σ5 H5 X5 E5 => ⟨as5, S5, X13.trans X5 E.sto.trk, E5, e2⟩⟩
      · rename_i S5 eg
        obtain ⟨rfl, rfl⟩ := pr_inj e2
        exact ⟨as3, _, .bk, S5, E3, eg, fun as5 σ5 H5 X5 E5 => q as5 σ5 H5 (X13.trans X5 E.sto.trk) E5⟩
      · rename_i x5 S5 eg
        obtain ⟨rfl, rfl⟩ := pr_inj e2
        exact ⟨as3, _, .rt x5, S5, E3, eg, fun as5 v5 H5 X5 r5 s5 => q as5 v5 H5 (X13.trans X5 E.sto.trk) r5 s5⟩
      · rename_i n5 p5 S5 eg
        obtain ⟨rfl, rfl⟩ := pr_inj e2
        exact ⟨as3, _, .ex n5 p5, S5, E3, eg, fun as5 σ5 H5 C dx X5 E5 ec xr => q as5 σ5 H5 C dx (X13.trans X5 E.sto.trk) E5 ec xr⟩
      · cases e2
    · cases e2

/-! ### operators -/
def gShl (i j : Int) : Option D := if 0 ≤ j ∧ (Builtin.Int.intBits i : Int) + j ≤ 2 ^ 27 then some (.int (i * 2 ^ j.toNat)) else none
def gShr (i j : Int) : Option D := if 0 ≤ j then some (.int (i / 2 ^ j.toNat)) else none
def gAnd (i j : Int) : Option D := some (.int (Builtin.bitAnd i j))
def gOr (i j : Int) : Option D := some (.int (Builtin.bitOr i j))
def gXor (i j : Int) : Option D := some (.int (Builtin.bitXor i j))
theorem op_shlD : OpR X (binaryOp .LShift) (rD X.K (dII gShl)) := opD_ii fun pins s σ H i j v u Q z I rx ry e q => by
  unfold gShl at e
  split at e
  · rename_i hj
    exact op_shlW pins s σ H _ _ v u Q I rx ry ⟨i, j, rfl, rfl, hj, q _ fun _ => by cases Option.some.inj e; exact .int _⟩
  · cases e
theorem op_shrD : OpR X (binaryOp .RShift) (rD X.K (dII gShr)) := opD_ii fun pins s σ H i j v u Q z I rx ry e q => by
  unfold gShr at e
  split at e
  · rename_i hj
    exact op_shr pins s σ H _ _ v u Q I rx ry ⟨i, j, rfl, rfl, hj, q _ fun _ => by cases Option.some.inj e; exact .int _⟩
  · cases e
theorem op_andD : OpR X (binaryOp .BitAnd) (rD X.K (dII gAnd)) := opD_ii fun pins s σ H i j v u Q z I rx ry e q =>
  op_and pins s σ H _ _ v u Q I rx ry ⟨i, j, rfl, rfl, q _ fun _ => by cases Option.some.inj e; exact .int _⟩
theorem op_orD : OpR X (binaryOp .BitOr) (rD X.K (dII gOr)) := opD_ii fun pins s σ H i j v u Q z I rx ry e q =>
  op_or pins s σ H _ _ v u Q I rx ry ⟨i, j, rfl, rfl, q _ fun _ => by cases Option.some.inj e; exact .int _⟩
theorem op_xorD : OpR X (binaryOp .BitXor) (rD X.K (dII gXor)) := opD_ii fun pins s σ H i j v u Q z I rx ry e q =>
  op_xor pins s σ H _ _ v u Q I rx ry ⟨i, j, rfl, rfl, q _ fun _ => by cases Option.some.inj e; exact .int _⟩
def dInv : D → List Cell → Option D
  | .int i, _ => some (.int (Builtin.bitNot i))
  | _, _ => none
theorem un_invD : UnR X (unaryOp .Invert) (rU1 X.K dInv) := by
  intro pins s σ H x v Q I rx ⟨as, d, μ, z, rd, sto, ez, q⟩
  unfold dInv at ez
  split at ez
  · cases rd
    cases Option.some.inj ez
    exact un_inv pins s σ H _ v Q I rx ⟨_, rfl, q _ H .refl (.int _) sto⟩
  · cases ez
/-! ### bit_length, divmod -/
def dBits : D → List Cell → Option D
  | .int i, _ => some (.int (Builtin.Int.intBits i : Nat))
  | _, _ => none
theorem de_bits {o : Expr} {fa : EvE} {apos : Pos} (ho : PE X o (tF X.K fa)) (hbase : attributeBase o "bit_length" X.env (eval o X.env) = eval o X.env := by rfl) (hline : (apos.endLine == pos.line) = true := by rfl) :
    PE X (.Call (.Attribute o "bit_length" apos) [] [] pos) (tF X.K (fU dBits fa)) := (pe_bits ho hbase hline).imp fun σ H Q ⟨as, S, d, μ', E, e, q⟩ => by
  obtain ⟨x, ea, ez⟩ := fU_out e
  unfold dBits at ez
  split at ez
  · cases Option.some.inj ez
    exact ⟨as, S, _, μ', E, ea, fun v as1 H1 X1 r1 s1 => by cases r1; exact ⟨_, rfl, q _ as1 H1 X1 (.int _) s1⟩⟩
  · cases ez
def gDivmod (i j : Int) : Option D := if 0 < j ∧ Builtin.divisionGoesByPylong i j = false then some (.tup [.int (i / j), .int (i % j)]) else none
def dDivmod : D → D → List Cell → Option D := dII gDivmod
theorem call_divmodD : CallR X (.builtin "divmod") (rCD X.K (g2 dDivmod)) := call2 fun pins s σ H x y us Q as d e μ z I r rd re sto ez q => by
  unfold dDivmod dII at ez
  split at ez
  · unfold gDivmod at ez
    split at ez
    · rename_i hj
      cases Option.some.inj ez
      cases rd; cases re
      exact call_divmodW pins s σ H _ us Q I r ⟨_, _, rfl, hj, fun p hp => q _ _ (Ext.new hp (sto.out hp)) (.newT sto hp (.cons (.int _) (.cons (.int _) .nil))) (sto.new hp)⟩
    · cases ez
  · cases ez
end
end DL
namespace DL
open PySem L2 PySem.Spec PyProof.Rows
section
open Builtin Builtin.Int Builtin.Float
/-! f'{x:b}' -/
def binS (i : Int) : Str := ⟨((Nat.toDigits 2 i.natAbs).map Char.toNat).toArray⟩
section
variable {pr : Program} {wo : World} {A : Around} {E : Value → Shared → Prop} {s : Shared}
theorem spec_b : parseFormatSpec (Str.ofString "b").cps.toList "int" 62 = .ok { align := 62, type := some 98 } := by rfl
theorem as_b : (((Str.ofString "b").cps.toList.drop 1).any (· ≥ 128) || ((Str.ofString "b").cps.getD 0 0 ≥ 128 && !([60, 62, 61, 94] : List Nat).contains ((Str.ofString "b").cps.getD 1 0))) = false := by rfl
set_option maxHeartbeats 2000000 in
theorem fmt_bin {i : Int} {t : Tok} {Q : Value → Shared → Prop} (h0 : 0 ≤ i) (hl : (binS i).length ≤ sizeLine) (q : Q (.str (binS i) (s.toks + 1)) { s with toks := s.toks + 1 + 1 }) :
    wpAny (model pr wo) A (formatField (.int i t) (Str.ofString "b")) Q E s := by
  have hb : (Str.ofString "b").length ≤ sizeLine := by decide
  have nb : ((Str.ofString "b").length == 0) = false := rfl
  have ab := as_b
  have pb := spec_b
  generalize Str.ofString "b" = sp at *
  show wpAny _ _ (holding [.int i t] (pyFormat (.int i t) sp)) Q E s
  refine wpAny_holding (?_ : wpAny _ _ (pyFormat _ _) Q E s)
  unfold pyFormat
  refine wpAny_bind (wpAny_mkStr ?_ hb)
  refine wpAny_bind (m := callSpecial? _ (Str.ofString "__format__") _) (wpAny_callSpecial?_slot (name := Str.ofString "__format__") (typeIs_int _ i t) PySem.F.slot_int_format ?_)
  refine wpAny_call (codeAny_call_builtin PySem.F.slot_int_format.plain PySem.F.entry_int_format (PySem.F.slot_int_format.check _ _ _ _ _ _ _ _ (typeIs_int _ i t) (PySem.F.args_int_format_2 _ _) ?_))
  unfold Builtin.«int.__format__»
  simp only [selfAndOne, noKeywords, Int.intOfSelf, asInt?, asStr?, pure_bind, bind_pure, bind_assoc, List.isEmpty_nil, if_true, Bool.false_eq_true, if_false, show (Value.str sp s.toks == Value.none) = false from rfl, nb, ab]
  refine wpAny_bind (wpAny_typeNameOf (T := "str") (typeIs_str _ _ _) (by decide) fun _ => ?_)
  refine wpAny_bind (wpAny_typeNameOfCut_int ?_)
  simp only [pb, Option.getD_some]
  rw [if_pos (by decide)]
  show wpAny _ _ (retStr _) _ _ _
  have hi : decide (i < 0) = false := decide_eq_false (by omega)
  rw [hi]
  have hd : ∃ d r, (Nat.toDigits 2 i.natAbs).map Char.toNat = d :: r := by
    cases e : (Nat.toDigits 2 i.natAbs).map Char.toNat with
    | nil => rw [List.map_eq_nil_iff] at e; have := tDigits_len_ge 2 i.natAbs; rw [e] at this; cases this
    | cons d r => exact ⟨d, r, rfl⟩
  unfold binS at hl q
  have hm : (Nat.toDigits 2 i.natAbs).map (fun c => (if (98 == 88) = true then c.toUpper else c).toNat) = (Nat.toDigits 2 i.natAbs).map Char.toNat := List.map_congr_left fun c _ => by rw [if_neg (by decide)]
  obtain ⟨d, r, e⟩ := hd
  rw [e] at hl q hm
  rw [hm]
  have ef : intField' { align := 62, type := some 98 } false [] (d :: r) [] 4 = ⟨(d :: r).toArray⟩ := by
    unfold intField'
    simp
    omega
  show wpAny _ _ (retStr (intField' { align := 62, type := some 98 } false [] (d :: r) [] 4)) _ _ _
  rw [ef]
  refine wpAny_bind (wpAny_mkStr (wpAny_pure ?_) hl)
  exact wpAny_bind (wpAny_isInstance (typeIs_str _ _ _) isSubtype_str_str (wpAny_pure q))
end
end
section
variable {X : Cx} {o e a : Expr} {fa fb : EvE} {apos cpos pos : Pos}
def dBin : D → List Cell → Option D
  | .int i, _ => if 0 ≤ i ∧ (binS i).length ≤ sizeLine then some (.str (binS i)) else none
  | _, _ => none
theorem de_fmtB {p1 p2 : Pos} {k : Nat} (he : PE X e (tF X.K fa)) : PE X (.FormattedValue e (-1) (some (.JoinedStr [.Constant (.str "b") k p1] p2)) pos) (tF X.K (fU dBin fa)) := by
  refine ⟨fun pins s σ H Q I ⟨as, S, d, μ', E, ed, q⟩ => ?_⟩
  obtain ⟨x, ea, ez⟩ := fU_out ed
  unfold dBin at ez
  split at ez
  · rename_i i
    split at ez
    · rename_i hi
      cases Option.some.inj ez
      refine wpAny_FormattedValue_spec (thn (he.run pins s σ H (fun v H1 => ∃ as1, Ext as H as1 H1 ∧ Rep X.K as1 H1 v (.int i) ∧ StoR X.K as1 H1 μ') I ⟨as, S, _, μ', E, ea, fun v as1 H1 X1 r1 s1 => ⟨as1, X1, r1, s1⟩⟩) fun u s1 ⟨v, H1, I1, rv, as1, X1, r1, st1⟩ => ?_)
      cases r1
      obtain ⟨t, rfl⟩ := _root_.id rv
      have hs : PE X (.JoinedStr [.Constant (.str "b") k p1] p2) (tC (.str "b")) := pe_joined1 pe_str
      refine thn (hs.run pins s1 σ H1 (fun v H2 => v = .str "b" ∧ H2 = H1) I1 ⟨rfl, rfl⟩) fun r s2 ⟨v2, H2, I2, rv2, e1, e2⟩ => ?_
      subst e1 e2
      obtain ⟨t2, rfl⟩ := _root_.id rv2
      exact ⟨_, _, rfl, fmt_bin hi.1 hi.2 ⟨.str (binS i), H2, I2.tok _, ⟨_, rfl⟩, q _ as1 _ X1 (.str _) st1⟩⟩
    · cases ez
  · cases ez

/-! ### s.count(x), s.find(x), s.find(x, i) -/
def dSS (g : Str → Str → Option D) : D → D → List Cell → Option D
  | .str a, .str b, _ => g a b
  | _, _, _ => none
theorem fB_cut {g : D → D → List Cell → Option D} {fa fb : EvE} {S : Sg} {d : D} {μ' : List Cell} (h : fB g fa fb S = some (d, μ')) : ∃ x μ1 y, fa S = some (x, μ1) ∧ fb { S with μ := μ1 } = some (y, μ') ∧ g x y μ' = some d := by
  unfold fB at h
  split at h
  · rename_i x μ1 ea
    split at h
    · rename_i y μ2 eb
      split at h
      · rename_i z ez
        obtain ⟨rfl, rfl⟩ := pr_inj h
        exact ⟨x, μ1, y, ea, eb, ez⟩
      · cases h
    · cases h
  · cases h
theorem de_sm1 {id : String} {name : Str} {g : Str → Str → Option D} (slot : Slot "str" name id) (ty : typeOf (.builtin id) = pure (.type "method_descriptor"))
    (rule : MtR X id (fun x xs H Q => ∃ a b z, x = .str a ∧ xs = [.str b] ∧ g a b = some z ∧ ∀ v, (∀ as, Rep X.K as H v z) → Q v H)) (ho : PE X o (tF X.K fa)) (he : PE X e (tF X.K fb))
    (hs : starEach [e] X.env = [(false, eval e X.env)] := by rfl) (hbase : attributeBase o name X.env (eval o X.env) = eval o X.env := by rfl) (hline : (apos.endLine == pos.line) = true := by rfl) :
    PE X (.Call (.Attribute o name apos) [e] [] pos) (tF X.K (fB (dSS g) fa fb)) := (pe_m1 slot ty rule ho he hs hbase hline).imp fun σ H Q ⟨as, S, d, μ', E, ed, q⟩ => by
  obtain ⟨x, μ1, y, ea, eb, ez⟩ := fB_cut ed
  unfold dSS at ez
  split at ez
  · refine ⟨as, S, _, μ1, E, ea, fun v as1 H1 X1 r1 s1 => ?_⟩
    cases r1
    refine ⟨⟨_, rfl⟩, as1, _, _, μ', E.mvE X1 s1, eb, fun v2 as2 H2 X2 r2 s2 => ?_⟩
    cases r2
    exact ⟨_, _, _, rfl, rfl, ez, fun v r => q v as2 H2 (X1.trans X2 E.sto.trk) (r as2) s2⟩
  · cases ez
theorem ss_rule {id : String} {g : Str → Str → V} {gd : Str → Str → D} {P : Str → Str → Prop} [∀ a b, Decidable (P a b)] (h : MtR X id (fun x xs H Q => ∃ a b, x = .str a ∧ xs = [.str b] ∧ P a b ∧ Q (g a b) H)) (hg : ∀ a b as H, Rep X.K as H (g a b) (gd a b)) :
    MtR X id (fun x xs H Q => ∃ a b z, x = .str a ∧ xs = [.str b] ∧ (if P a b then some (gd a b) else none) = some z ∧ ∀ v, (∀ as, Rep X.K as H v z) → Q v H) := fun pins s σ H x xs v us Q I rx rs ⟨a, b, z, e1, e2, e3, q⟩ => by
  split at e3
  · rename_i hp
    cases Option.some.inj e3
    exact h pins s σ H x xs v us Q I rx rs ⟨a, b, e1, e2, hp, q _ fun as => hg a b as H⟩
  · cases e3
def dCount : D → D → List Cell → Option D := dSS fun a b => if True then some (.int (Txt.count a b)) else none
def dFind : D → D → List Cell → Option D := dSS fun a b => if True then some (.int (Txt.find a b)) else none
def dRemSuf : D → D → List Cell → Option D := dSS fun a b => if a.length ≤ sizeLine then some (.str (Txt.removesuffix a b)) else none
theorem de_count (ho : PE X o (tF X.K fa)) (he : PE X e (tF X.K fb)) (hs : starEach [e] X.env = [(false, eval e X.env)] := by rfl) (hbase : attributeBase o "count" X.env (eval o X.env) = eval o X.env := by rfl) (hline : (apos.endLine == pos.line) = true := by rfl) :
    PE X (.Call (.Attribute o "count" apos) [e] [] pos) (tF X.K (fB dCount fa fb)) :=
  de_sm1 PySem.F.slot_str_count PySem.F.type_str_count (ss_rule (P := fun _ _ => True) (fun pins s σ H x xs v us Q I rx rs ⟨a, b, e1, e2, _, q⟩ => mt_count pins s σ H x xs v us Q I rx rs ⟨a, b, e1, e2, q⟩) fun a b as H => .int _) ho he hs hbase hline
theorem de_find (ho : PE X o (tF X.K fa)) (he : PE X e (tF X.K fb)) (hs : starEach [e] X.env = [(false, eval e X.env)] := by rfl) (hbase : attributeBase o "find" X.env (eval o X.env) = eval o X.env := by rfl) (hline : (apos.endLine == pos.line) = true := by rfl) :
    PE X (.Call (.Attribute o "find" apos) [e] [] pos) (tF X.K (fB dFind fa fb)) :=
  de_sm1 PySem.F.slot_str_find PySem.F.type_str_find (ss_rule (P := fun _ _ => True) (fun pins s σ H x xs v us Q I rx rs ⟨a, b, e1, e2, _, q⟩ => mt_find pins s σ H x xs v us Q I rx rs ⟨a, b, e1, e2, q⟩) fun a b as H => .int _) ho he hs hbase hline
/-- s.find(x, i) -/
def dFind3 : D → List D → Option D
  | .str a, [.str b, .int i] => some (.int (Txt.find3 a b i))
  | _, _ => none
theorem dFind3_out {z : Str} {xs : List D} {w : D} (h : dFind3 (.str z) xs = some w) : ∃ b i, xs = [.str b, .int i] ∧ w = .int (Txt.find3 z b i) := by
  unfold dFind3 at h
  split at h
  · rename_i a b i e1
    cases e1
    cases Option.some.inj h
    exact ⟨_, _, rfl, rfl⟩
  · cases h
def fFind3 (fa : EvE) (fs : EvA) : EvE := fun S => (fa S).bind fun x => if (match x.1 with | .str _ => true | _ => false) then (fs { S with μ := x.2 }).bind fun y => (dFind3 x.1 y.1).map fun z => (z, y.2) else none
theorem de_find3 {es : List Expr} {fs : EvA} (ho : PE X o (tF X.K fa)) (ha : PA X (e :: es) (tFA X.K fs)) (hbase : attributeBase o "find" X.env (eval o X.env) = eval o X.env := by rfl)
    (hfew : ((backTo cpos (starEach (e :: es) X.env)).all (fun x => !x.1) && (backToKw cpos (keywordEach [] X.env)).all (fun x => x.1.isSome) && decide ((e :: es).length + ([] : List Keyword).length + (if ([] : List Keyword).isEmpty then 0 else 1) < 30)) = true := by rfl)
    (hline : (apos.endLine == cpos.line) = true := by rfl) (hs : starEach (e :: es) X.env = (false, eval e X.env) :: starEach es X.env := by rfl) (hplain : (backTo cpos (starEach es X.env)).any (·.1) = false := by rfl) :
    PE X (.Call (.Attribute o "find" apos) (e :: es) [] cpos) (tF X.K (fFind3 fa fs)) := (pe_bm PySem.F.plainAttrs_str PySem.F.slot_str_find PySem.F.type_str_find mt_find3 ho ha hbase hfew hline hs hplain).imp fun σ H Q ⟨as, S, d, μ', E, ed, q⟩ => by
  obtain ⟨⟨x, μ1⟩, ea, ed⟩ := Option.bind_eq_some_iff.mp ed
  cases x with
  | str z =>
    have ed : ((fs { S with μ := μ1 }).bind fun y => (dFind3 (.str z) y.1).map fun z => (z, y.2)) = some (d, μ') := ed
    obtain ⟨⟨xs, μ2⟩, eb, ed⟩ := Option.bind_eq_some_iff.mp ed
    obtain ⟨w, ez, e2⟩ := Option.map_eq_some_iff.mp ed
    obtain ⟨rfl, rfl⟩ := Prod.mk.inj e2
    refine ⟨as, S, _, μ1, E, ea, fun v as1 H1 X1 r1 s1 => ?_⟩
    cases r1
    refine ⟨rfl, as1, _, _, _, E.mvE X1 s1, eb, fun vs as2 H2 X2 r2 s2 => ?_⟩
    obtain ⟨b, i, e5, e6⟩ := dFind3_out (z := z) (xs := xs) ez
    subst e5 e6
    · skip
      cases r2 with
      | cons r3 rt =>
      cases rt with
      | cons r4 rt =>
      cases rt
      cases r3; cases r4
      exact ⟨_, _, _, rfl, rfl, q _ as2 H2 (X1.trans X2 E.sto.trk) (.int _) s2⟩
  | _ => cases ed

/-! ### s[::-1] -/
def revS (x : Str) : Str := ⟨x.cps.toList.reverse.toArray⟩
def dRevS : D → List Cell → Option D
  | .str x, _ => if x.length ≤ sizeLine then some (.str (revS x)) else none
  | _, _ => none
theorem idx_revS (n : Nat) : Builtin.Str.strSliceIndices none none (-1) n = (List.range n).map fun k => n - 1 - k := by
  unfold Builtin.Str.strSliceIndices sliceRange
  simp only [show ¬ ((-1 : Int) > 0) by decide, if_false]
  by_cases hn : n = 0
  · subst hn; decide
  · have h1 : (n : Int) - 1 > -1 := by omega
    rw [if_pos h1]
    have h2 : (((n : Int) - 1 - -1 - -1 - 1) / (- -1)).toNat = n := by simp
    rw [h2]
    refine List.map_congr_left fun k hk => ?_
    have := List.mem_range.mp hk
    omega
theorem pick_revS (x : Str) : ((Builtin.Str.strSliceIndices none none (-1) x.length).filterMap (x.cps[·]?)).toArray = x.cps.toList.reverse.toArray := by
  rw [idx_revS]
  congr 1
  refine List.ext_getElem? fun i => ?_
  rw [List.filterMap_map]
  have hl : x.length = x.cps.toList.length := Array.length_toList.symm
  by_cases hi : i < x.length
  · have e : ∀ m, m ≤ x.length → (List.range m).filterMap ((fun k => x.cps[k]?) ∘ fun k => x.length - 1 - k) = (List.range m).map fun k => x.cps.toList.getD (x.length - 1 - k) 0 := fun m hm => by
      induction m with
      | zero => rfl
      | succ m ih =>
        rw [List.range_succ, List.filterMap_append, List.map_append, ih (by omega)]
        congr 1
        have q : x.cps[x.length - 1 - m]? = some (x.cps.toList.getD (x.length - 1 - m) 0) := by
          rw [← Array.getElem?_toList, List.getD_eq_getElem?_getD, List.getElem?_eq_getElem (by omega)]
          rfl
        simp only [List.filterMap_cons, Function.comp_apply, q, List.filterMap_nil, List.map_cons, List.map_nil]
    rw [e _ (Nat.le_refl _), List.getElem?_map, List.getElem?_range hi, List.getElem?_reverse (by omega), Option.map_some, List.getD_eq_getElem?_getD, ← hl, List.getElem?_eq_getElem (by omega)]
    rfl
  · rw [List.getElem?_eq_none, List.getElem?_eq_none]
    · rw [List.length_reverse]; omega
    · exact Nat.le_trans (List.length_filterMap_le _ _) (by rw [List.length_range]; omega)
theorem de_revS {k : Nat} {p1 p2 p3 : Pos} (he : PE X e (tF X.K fa)) : PE X (.Subscript e (.Slice none none (some (.UnaryOp .USub (.Constant (.int 1) k p1) p2)) p3) pos) (tF X.K (fU dRevS fa)) := by
  refine ⟨fun pins s σ H Q I ⟨as, S, d, μ', E, ed, q⟩ => ?_⟩
  obtain ⟨y, ey, ez⟩ := fU_out ed
  unfold dRevS at ez
  split at ez
  rotate_left
  · cases ez
  rename_i x
  split at ez
  rotate_left
  · cases ez
  rename_i hx
  cases Option.some.inj ez
  refine Subscript_ (thn (he.run pins s σ H (fun v H1 => ∃ as1, Ext as H as1 H1 ∧ Rep X.K as1 H1 v (.str x) ∧ StoR X.K as1 H1 μ') I ⟨as, S, _, μ', E, ey, fun v as1 H1 X1 r1 s1 => ⟨as1, X1, r1, s1⟩⟩) fun u s1 ⟨v, H1, I1, rv, as1, X1, r1, st1⟩ => ?_)
  cases r1
  obtain ⟨t, rfl⟩ := _root_.id rv
  have part : PO X (some (.UnaryOp .USub (.Constant (.int 1) k p1) p2)) (tPart (tUn (rU fun i => .int (-i)) (tC (.int 1)))) := po_some (pe_un un_neg pe_int)
  refine wpAny_Slice (thn (po_none.run pins s1 σ H1 (fun o H2 => o = none ∧ H2 = H1) I1 ⟨rfl, rfl⟩) fun vl s2 ⟨l, H2, I2, pl, el, e2⟩ => ?_)
  subst el e2
  refine thn (po_none.run pins s2 σ H2 (fun o H3 => o = none ∧ H3 = H2) I2 ⟨rfl, rfl⟩) fun vu s3 ⟨u, H3, I3, pu, eu, e3⟩ => ?_
  subst eu e3
  refine thn (part.run pins s3 σ H3 (fun o H4 => o = some (-1) ∧ H4 = H3) I3 ⟨1, rfl, -1, rfl, rfl, rfl⟩) fun vs4 s4 ⟨o, H4, I4, ps, eo, e4⟩ => ?_
  subst eo e4
  have I5 : Inv X pins σ H4 { s4 with heap := s4.heap.push { cls := .type "slice", data := .fields #[vl, vu, vs4] } } := I4.kept (t' := s4.toks) fun b ob q => Heap.get?_push_of_some _ q
  obtain ⟨l', rfl, e1⟩ := IsPart.raw pl
  obtain ⟨u', rfl, e2⟩ := IsPart.raw pu
  obtain ⟨w', rfl, e3⟩ := IsPart.raw ps
  cases l' with
  | some z => cases e1
  | none =>
  cases u' with
  | some z => cases e2
  | none =>
  show wpAny (model X.prog X.w) X.A (subscriptTail e (.Slice none none (some (.UnaryOp .USub (.Constant (.int 1) k p1) p2)) p3) (.str x t) (.ref s4.heap.objs.size)) (EP X pins σ Q) X.xe _
  refine tail_any (ops := [.str x t, .ref s4.heap.objs.size]) (typeIs_str _ _ _) PySem.F.slot_str_getitem.lookup ?_ (by with_unfolding_all rfl)
  refine wpAny_getItem_str_slice (l := none) (u := none) (st := w') ⟨_, Heap.get?_push_size _ rfl, rfl, rfl⟩ (by rw [e3]; rfl) ?_
  have e4 : (w'.map (·.1)).getD 1 = -1 := by rw [e3]; rfl
  unfold sliceMade slicePicked
  rw [e4]
  show Made.post (if ((-1 : Int) == 1 && _) = true then _ else _) _ _
  rw [show ((-1 : Int) == 1) = false from rfl, Bool.false_and, if_neg Bool.false_ne_true]
  have hp := pick_revS x
  show Made.post (.str ⟨((Builtin.Str.strSliceIndices none none (-1) x.length).filterMap (x.cps[·]?)).toArray⟩) _ _
  rw [hp]
  have hl : (revS x).length ≤ sizeLine := by
    show x.cps.toList.reverse.toArray.size ≤ sizeLine
    rw [List.size_toArray, List.length_reverse, Array.length_toList]
    exact hx
  exact ⟨hl, .str (revS x), H4, I5.tok _, ⟨_, rfl⟩, q _ as1 _ X1 (.str _) st1⟩
end
end DL
namespace DL
open PySem L2 PySem.Spec PyProof.Rows
/-! enumerate of a text -/
/-- the signs, each in a new pair -/
def IteS (x : Str) : It :=
  ⟨fun i H => i < x.cps.size, fun i H v H' => ∃ N c, v = .ref N ∧ H N = none ∧ x.cps[i]? = some c ∧ H' = upd H N (.tup [.int (i : Nat), .str ⟨#[c]⟩]), fun i H => x.cps.size = i⟩
theorem turn_enumS {P : Program} {w : World} {K : PySem.W.Frag} {elts : List Expr} {kk : Nat} {tpos : Pos} (x : Str) (t : Tok) (e it : Addr) :
    Turn P w K (.Tuple elts kk tpos) (IteS x) [e, it] e (fun i h => (∃ old, IsEnum h e it ((i : Nat) : Int) old) ∧ h.IsStrIter it (strIterType x) x t i ∧ e ≠ it) where
  mem := by simp
  obj := fun i h st b hb => by
    obtain ⟨⟨old, he⟩, ⟨o, ho, _, hd⟩, _⟩ := st
    rcases (show b = e ∨ b = it by simpa using hb) with z | z
    · rw [z]; exact ⟨_, he, fun v q => nomatch q⟩
    · rw [z]; exact ⟨o, ho, fun v q => by rw [hd] at q; cases q⟩
  keep := fun i h h' st k => ⟨let ⟨old, he⟩ := st.1; ⟨old, k e (by simp) _ he⟩, (let ⟨o, ho, r⟩ := st.2.1; ⟨o, k it (by simp) o ho, r⟩), st.2.2⟩
  item := by
    intro X hP hw hK hc i pins s σ H E I hf st hi
    subst hP hw hK
    obtain ⟨⟨old, he⟩, hit, hne⟩ := st
    have hel : e < s.heap.objs.size := Heap.lt_size he
    have hil : it < s.heap.objs.size := by obtain ⟨_, q, _⟩ := hit; exact Heap.lt_size q
    have D := Draws.text (prog := X.prog) (w := X.w) (A := X.A.in1) (I.ok.hd hc) it x t
    refine wpAny_pyNext_enum_itemD D he hit hi hne (fun z => by simp at z; exact hne z) fun y h' tk hy ho hst hT hsz hk => ?_
    obtain ⟨c, u, hcx, rfl⟩ := hy
    refine ⟨_, rfl, wpAny_letOwnedTupleGo_enum (s := { s with heap := h', toks := tk + 1 }) ho fun h'' he' sb => ?_⟩
    have hT2 : h''.get? s.heap.objs.size = some { cls := .type "tuple", data := .seq #[.int i tk, .str ⟨#[c]⟩ u] } := (sb.2 _ (Nat.ne_of_gt hel)).trans hT
    have new : ObjOk X.prog X.w (upd H s.heap.objs.size (.tup [.int (i : Nat), .str ⟨#[c]⟩])) h'' s.heap.objs.size (.tup [.int (i : Nat), .str ⟨#[c]⟩]) := ⟨by show 2 ≤ sizeLine; decide, [.int i tk, .str ⟨#[c]⟩ u], .cons ⟨_, rfl⟩ (.cons ⟨_, rfl⟩ .nil), ⟨_, hT2, rfl, _, rfl⟩⟩
    have I1 : Inv X pins σ (upd H s.heap.objs.size (.tup [.int (i : Nat), .str ⟨#[c]⟩])) { s with heap := h'', toks := tk + 1 } :=
      I.turnedNew (ch := [e, it]) (fun b ob hb q => (sb.2 b (fun z => hb (by rw [z]; simp))).trans (hk b ob (fun z => hb (by rw [z]; simp)) (fun z => hb (by rw [z]; simp)) q)) hf (Nat.le_refl _) new
    refine ⟨.ref s.heap.objs.size, _, I1, rfl, ⟨_, c, rfl, I.hok.fresh (Nat.le_refl _), hcx, rfl⟩, ⟨⟨.str ⟨#[c]⟩ u, ?_⟩, (let ⟨o, ho, r⟩ := hst; ⟨o, (sb.2 it (Ne.symm hne)).trans ho, r⟩), hne⟩, fun b hb => ?_⟩
    · have e1 : ((i + 1 : Nat) : Int) = (i : Int) + 1 := by omega
      rw [e1]
      exact he'
    · have hb' : b < s.heap.objs.size := by
        rcases (show b = e ∨ b = it by simpa using hb) with z | z
        · rw [z]; exact hel
        · rw [z]; exact hil
      rw [upd_ne (Nat.ne_of_lt hb')]
      exact (hf b hb).1
  done := by
    intro X hP hw hK hc i pins s σ H E I hf st hg
    subst hP hw hK
    obtain ⟨⟨old, he⟩, hit, hne⟩ := st
    have D := Draws.text (prog := X.prog) (w := X.w) (A := X.A.in1) (I.ok.hd hc) it x t
    obtain ⟨f0, f1, f2, f3, f4, f5⟩ := hf it (by simp)
    refine wpAny_pyNext_enum_endD D he ?_ fun h' eb => ⟨rfl, I.turned (t' := s.toks) (fun b o hb q => eb b o hb q) f0 f1 f3 f4 f5⟩
    rw [show x.cps.size = i from hg]
    exact hit
  self := fun A i s Q E st h => let ⟨⟨_, he⟩, _⟩ := st; wpAny_pyIter_enum he h
def iEnumS (ta : TA) : TI := fun σ H R => ta σ H fun vs H1 => ∃ x, vs = [.str x] ∧ R (IteS x) H1
theorem pi_enumS {X : Cx} {e : Expr} {ta : TA} {p pos tpos : Pos} {elts : List Expr} {kk : Nat} (hg : Gl X "enumerate") (hm : X.mg "enumerate" = none) (ha : PA X [e] ta) (hs : starEach [e] X.env = [(false, eval e X.env)] := by rfl) : PI X (.Tuple elts kk tpos) (.Call (.Name "enumerate" p) [e] [] pos) (iEnumS ta) := by
  refine ⟨fun pins s σ H R I h => ?_⟩
  refine Call_ (ld_blt I hg hm boot_enumerate (PyProof.Rows.callWith_type1 (thn (ha.run pos pins s σ H _ I h) fun us s1 ⟨vs, H1, I1, r1, x, ex, q⟩ => ?_) hs rfl))
  subst ex
  cases r1 with
  | cons r rr =>
    cases rr
    obtain ⟨t, rfl⟩ := _root_.id r
    refine enum1_call (begins_text x t) trivial fun h' en hit hk => wpAny_pyIter_enum en ?_
    have I2 : Inv X pins σ H1 { s1 with heap := h' } := I1.kept (t' := s1.toks) hk
    refine ⟨s1.heap.objs.size + 1, [s1.heap.objs.size + 1, s1.heap.objs.size], _, _, H1, rfl, I2, turn_enumS x t (s1.heap.objs.size + 1) s1.heap.objs.size, ⟨⟨.none, en⟩, ⟨_, hit, rfl, rfl⟩, Nat.succ_ne_self _⟩, fun b hb => ?_, q⟩
    have hle : s1.heap.objs.size ≤ b := by
      rcases (show b = s1.heap.objs.size + 1 ∨ b = s1.heap.objs.size by simpa using hb) with z | z
      · rw [z]; exact Nat.le_succ _
      · rw [z]; exact Nat.le_refl _
    exact I1.fpOk hle (I1.hok.fresh hle)
def sgD (c : Nat) : D := .str ⟨#[c]⟩
def gEnumS (fs : EvA) : EvI := fun S => match fs S with
  | some ([.str x], μ1) => some (enumD (x.cps.toList.map sgD), μ1)
  | _ => none
theorem di_enumS {X : Cx} {e : Expr} {fs : EvA} {p pos tpos : Pos} {elts : List Expr} {kk : Nat} (hg : Gl X "enumerate") (hm : X.mg "enumerate" = none) (ha : PA X [e] (tFA X.K fs)) (hs : starEach [e] X.env = [(false, eval e X.env)] := by rfl) :
    PI X (.Tuple elts kk tpos) (.Call (.Name "enumerate" p) [e] [] pos) (tI X.K (gEnumS fs)) := PI.imp (pi_enumS hg hm ha hs) fun σ H R ⟨as, S, ds, μ', E, ed, q⟩ => by
  unfold gEnumS at ed
  split at ed
  · rename_i x μ1 ef
    obtain ⟨rfl, rfl⟩ := pr_inj ed
    refine ⟨as, S, _, μ1, E, ef, fun vs as1 H1 X1 r1 s1 => ?_⟩
    cases r1 with
    | cons ra rt =>
    cases rt
    cases ra
    have hl : (enumD (x.cps.toList.map sgD)).length = x.cps.size := by rw [enumD_len, List.length_map, Array.length_toList]
    refine ⟨x, rfl, q _ as1 H1 X1 s1 ⟨fun i as' H' X' hi => by rw [hl] at hi; exact hi, fun as' H' X' => hl.symm, fun i as' H' μ v H'' X' s' hi y => ?_⟩⟩
    obtain ⟨N, c, rfl, hN, hc, rfl⟩ := y
    refine ⟨_, enumD_get (x := sgD c) (by rw [List.getElem?_map, Array.getElem?_toList, hc]; rfl), Ext.new hN (s'.out hN), .newT s' hN (.cons (.int _) (.cons (.str _) .nil)), s'.new hN⟩
  · cases ed
end DL
namespace DL
open PySem L2
section
variable {X : Cx} {o e : Expr} {fa : EvE} {fl : Str} {pos apos : Pos}
/-! a target that is a field of an object -/
def bFld (ns : List Str) (fl : Str) (fo : EvE) : Bd := fun d S => (fo S).bind fun z => (cFld ns fl z.1 d z.2).map fun μ3 => { S with μ := μ3 }
theorem cFld_out {ns : List Str} {ob d : D} {μ μ' : List Cell} (h : cFld ns fl ob d μ = some μ') : ∃ k n fs, ob = .h k ∧ μ[k]? = some (.obj n fs) ∧ n ∈ ns ∧ fs.length < 1000 ∧ μ' = μ.set k (.obj n (putD fl d fs)) := by
  unfold cFld at h
  split at h
  · split at h
    · split at h
      · rename_i hn
        exact ⟨_, _, _, rfl, by assumption, hn.1, hn.2, (Option.some.inj h).symm⟩
      · cases h
    · cases h
  · cases h
theorem dg_fld {ns : List Str} (hk : FldOk X.K ns fl) (ho : PE X o (tF X.K fa)) (ha : ∀ v, assign (.Attribute o fl pos) X.env v = (do
    let ov ← holding [v] (eval o X.env)
    standAt pos.atName
    holding [v, ov] (setAttr ov fl v)
    release [v, ov] []) := by intro _; rfl) : PG X (.Attribute o fl pos) (tG X.K (bFld ns fl fa) []) := by
  refine ⟨fun pins s σ H v u Q I r ⟨as, S, d, S', E, rd, ed, q⟩ => ?_⟩
  unfold bFld at ed
  obtain ⟨⟨ob, μ2⟩, e2, ed⟩ := Option.bind_eq_some_iff.mp ed
  obtain ⟨μ3, e3, e4⟩ := Option.map_eq_some_iff.mp ed
  subst e4
  obtain ⟨k, n, fs, e5, ec, hn, hlt, e6⟩ := cFld_out e3
  have e5 : ob = .h k := e5
  subst e5 e6
  rw [ha]
  refine wpAny_bind (wpAny_holding (thn (ho.run pins s σ H (fun v H1 => ∃ as1, Ext as H as1 H1 ∧ Rep X.K as1 H1 v (.h k) ∧ StoR X.K as1 H1 μ2) I ⟨as, S, _, μ2, E, e2, fun v as1 H1 X1 r1 s1 => ⟨as1, X1, r1, s1⟩⟩) fun ov s1 ⟨x, H1, I1, r1, as1, X1, ro, st1⟩ => ?_))
  obtain ⟨a, C, dx, fv, rfl, ea, hc, hA, hl, rs⟩ := h_obj ro st1 ec
  obtain rfl : ov = Value.ref a := r1
  obtain ⟨k1, k2⟩ := hk n C hn hc
  have ry := rd.mv X1
  obtain ⟨X3, s3⟩ := st1.upd1 (o := .ins C dx (putF fl v fv)) (c' := .obj n (putD fl d fs)) ea (fun o u e => by rw [hA] at e; cases e) fun {as' H'} Z hz => by
    obtain ⟨m1, m2⟩ := put_map (f := fl) (ry.mv Z) hl (rs.mv Z)
    exact ⟨C, dx, _, hc, hz, m1, m2⟩
  have hlen : fv.length < 1000 := by
    have z := congrArg List.length hl
    simp only [List.length_map] at z
    omega
  have X13 := X1.trans X3 E.sto.trk
  refine wpAny_bind (wpAny_standAt (wpAny_bind (wpAny_holding (setattr_ok I1 hA k1 k2 hlen r fun s3 I3 => ?_))))
  exact wpAny_release ⟨σ, _, I3, q as1 σ _ X13 (E.mvE X13 ‹_›) rfl fun _ _ => rfl⟩
/-! o.m() -/
theorem de_meth0 {pl : Sem Bool} {nm m : Str} {C f : Addr} {fd : FuncData} {F : FnF} {k : Nat} (c : Cls X.K C) (hm : Meth X.K C m f) (G : FG X.prog X.w X.K X.mg X.base k f fd 1 F) (hr : Room k X.A) (hgd : X.A.guards = some []) (hc : PySem.W.nsIn X.K mainGlobals nm = some (some (.ref C))) (ho : PE X o (tF X.K fa))
    (ht : eval (.Call (.Attribute o m apos) [] [] pos) X.env = (do
      let ov ← eval o X.env
      standAt apos.atName
      let (f, first) ← holding [ov] (getMethod ov m pl)
      callWith pos f first (backTo pos (starEach [] X.env)) (backToKw pos (keywordEach [] X.env))) := by rfl) : PE X (.Call (.Attribute o m apos) [] [] pos) (tF X.K (fNox (fMethX nm m F fa (fLen 0 fNil)))) :=
  ⟨fun pins s σ H Q I ⟨as, S, d, μ', E, ed, q⟩ => meth_any0 c hm G hr hgd hc ho ht I E (fNox_out ed) passF q⟩
/-! a tuple of the program -/
theorem de_gtup {x : Str} {p : Addr} {vs : List V} {ds : List D} (hg : Gl X x) (hm : X.mg x = some (.ref p)) (ht : ∀ H' : Hp, SqT X.K H' p vs) (hv : ∀ as H, Reps X.K as H vs ds) (hdb : (x == ("__debug__" : Str)) = false := by decide) : PE X (.Name x pos) (tF X.K (fC (.tup ds))) :=
  (pe_glob hg hm (v := .ref p) rfl hdb).imp (tF_c fun as H => .tup (.inr ht) (hv as H))
end
end DL
namespace DL
open PySem L2
section
variable {X : Cx} {e : Expr} {es : List Expr} {fs : EvA} {p pos : Pos} {W : WX} {C f : Addr} {k : Nat} {F : FnF} {x : Str}
/-- c(e, ..), c a name in slot i that holds the class x -/
theorem de_locNewP {c : Str} {i : Nat} (tk : Takes X W) (hN : X.N[i]? = some c) (hv : Vis X.env.scope c) (M : Mk X.K C f) (G : FR X.prog X.w X.K X.mg X.base k f F) (hr : Room (k + 1) X.A) (hgd : X.A.guards = some []) (hc : PySem.W.nsIn X.K mainGlobals x = some (some (.ref C))) (ha : PA X (e :: es) (tFA X.K fs))
    (he : starEach (e :: es) X.env = (false, eval e X.env) :: starEach es X.env := by rfl) (hst : (backTo pos (starEach es X.env)).any (·.1) = false := by rfl) (hd : (c == ("__debug__" : Str)) = false := by decide) (hcd : (c == ("__classdict__" : Str)) = false := by decide) :
    PE X (.Call (.Name c p) (e :: es) [] pos) (tFX X.K X.mg W (fLocNew i x F fs)) := by
  refine ⟨fun pins s σ H Q I ⟨as, S, o, μ', E, ed, q⟩ => ?_⟩
  unfold fLocNew at ed
  split at ed
  · rename_i y ei
    split at ed
    · rename_i hy
      subst hy
      obtain ⟨ds, μ1, ea, ef⟩ := fCallR_out ed
      obtain ⟨v, hvv, rv⟩ := E.env.2 i _ ei
      cases rv with
      | @cls C' _ hc' =>
        have z := hc.symm.trans hc'
        injection z with z
        injection z with z
        injection z with z
        subst z
        refine wpAny_Call_Name_kw (thn ((pe_var (pos := p) (i := i) hN hv hd hcd).run pins s σ H (fun v H1 => v = .ref C ∧ H1 = H) I ⟨.ref C, hvv, rfl, rfl⟩) fun u s1 ⟨v, H1, I1, r1, q1⟩ => ?_)
        obtain ⟨rfl, rfl⟩ := q1
        obtain rfl : u = Value.ref C := r1
        exact PySem.W.callWith_K (h₀ := X.base) I1.ok.mod.kin M.kp (thn (ha.run pos pins s1 σ H1 (fun vs H2 => ∃ as1, Ext as H1 as1 H2 ∧ Reps X.K as1 H2 vs ds ∧ StoR X.K as1 H2 μ1) I1 ⟨as, S, _, _, E, ea, fun vs as1 H1 X1 r1 s1 => ⟨as1, X1, r1, s1⟩⟩) fun us s2 ⟨vs, H2, I2, r2, as2, X2, rs, st⟩ => ⟨I2.kIn, mk_run M G hr hgd hc I2 r2 (passAt tk σ) rs st ef (outD_mv (outD_of q) X2 E.sto.trk)⟩) he hst
    · cases ed
  · cases ed
end
end DL
namespace DL
open PySem L2
/-! `is` of truths, too -/
def isW (x y : D) (μ : List Cell) : Option Bool := match x, y with
  | .bl a, .bl b => some (decide (a = b))
  | x, y => isB x y μ
def dIsW : D → D → List Cell → Option D := fun x y μ => (isW x y μ).map .bl
theorem dIsW_bl : ∀ x y μ z, dIsW x y μ = some z → ∃ k, z = .bl k := fun _ _ _ _ e => map_bl (f := fun k => k) e
theorem op_isWD {X : Cx} : OpR X (compareOp .Is) (rD X.K dIsW) := by
  intro pins s σ H x y v u Q I rx ry ⟨as, d, e, μ, z, rd, re, sto, ez, q⟩
  obtain ⟨k, ek, rfl⟩ := Option.map_eq_some_iff.mp ez
  unfold isW at ek
  split at ek
  · rename_i a b
    cases rd; cases re
    cases Option.some.inj ek
    exact op_isBl pins s σ H _ _ v u Q I rx ry ⟨a, b, rfl, rfl, q _ H .refl (.bl _) sto⟩
  · exact op_isD pins s σ H x y v u Q I rx ry ⟨as, _, _, μ, _, rd, re, sto, by unfold dIs; rw [ek]; rfl, q⟩
end DL
namespace DL
open PySem L2 PySem.Spec PyProof.Rows
/-! objects against any plain data; operators and truth by an object's own methods; o.m() of a class -/
section
variable {X : Cx} {k : Nat} {f C : Addr} {F : FnF}
def isR2 (nm : Str) (y : D) (μ : List Cell) : Bool := match y with
  | .int _ | .bl _ | .lst _ | .dct _ => true
  | y => isR nm y μ
theorem typ_ok2 {pins : List (Addr × Obj)} {σ : L2.St} {H : Hp} {s : Shared} {as : Ar} {μ : List Cell} {y : V} {u : Value} {e : D} {nm : Str} {C : Addr} (hc : PySem.W.nsIn X.K mainGlobals nm = some (some (.ref C))) (I : Inv X pins σ H s) (ry : RelV y u) (re : Rep X.K as H y e) (sto : StoR X.K as H μ) (h : isR2 nm e μ = true) :
    ∃ tb, PySem.W.Looks (model X.prog X.w) s.heap (typeOf u) tb ∧ PySem.W.notFirst X.K C tb = true := by
  have built : ∀ {T : String} {l : List String}, (∀ s' : Shared, (∀ b o, s.heap.get? b = some o → s'.heap.get? b = some o) → s'.TypeIs u T) → fastBuiltinMro T = some (l.map .type) → ∃ tb, PySem.W.Looks (model X.prog X.w) s.heap (typeOf u) tb ∧ PySem.W.notFirst X.K C tb = true := fun {T l} ht e =>
    ⟨.type T, fun A Q E s' k q => wpAny_typeOf (ht s' k) q, by unfold PySem.W.notFirst; rw [sub_bt e]; simp⟩
  unfold isR2 at h
  split at h
  · cases re
    obtain ⟨t, rfl⟩ := ry
    exact built (T := "int") (l := ["int", "object"]) (fun _ _ => rfl) (by decide +kernel)
  · cases re
    cases ry
    exact built (T := "bool") (l := ["bool", "int", "object"]) (fun _ _ => rfl) (by decide +kernel)
  · cases re with
    | lst hl ho rs =>
      obtain rfl := ry
      obtain ⟨its, rv, hg, _⟩ := I.list (.inl (.inl hl))
      obtain ⟨o, _, q1, q2, _⟩ := hg
      exact built (T := "list") (l := ["list", "object"]) (fun s' k => ⟨o, k _ _ q1, q2⟩) (by decide +kernel)
  · cases re with
    | dct hl ho e rs =>
      obtain rfl := ry
      obtain ⟨_, _, _, _, o, es, ep, q1, q2, _⟩ := I.hok _ _ hl
      exact built (T := "dict") (l := ["dict", "object"]) (fun s' k => ⟨o, k _ _ q1, q2.1⟩) (by decide +kernel)
  · exact typ_ok hc I ry re sto h
def gOwn2 (nm : Str) (F : FnF) (g : Bool → Bool) : GX := fun x y μ => if isO nm x μ && isR2 nm y μ then match F [x, y] μ with
  | some (.v (.bl b), μ') => some (.bl (g b), μ')
  | _ => none
  else none
theorem gOwn2_out {nm : Str} {g : Bool → Bool} {x y z : D} {μ μ' : List Cell} (e : gOwn2 nm F g x y μ = some (z, μ')) : isO nm x μ = true ∧ isR2 nm y μ = true ∧ ∃ b, F [x, y] μ = some (.v (.bl b), μ') ∧ z = .bl (g b) := by
  unfold gOwn2 at e
  split at e
  · rename_i h
    rw [Bool.and_eq_true] at h
    split at e
    · rename_i b μ1 ef
      obtain ⟨rfl, rfl⟩ := pr_inj e
      exact ⟨h.1, h.2, b, ef, rfl⟩
    · cases e
  · cases e
theorem op_eqO2 {nm : Str} (hc : PySem.W.nsIn X.K mainGlobals nm = some (some (.ref C))) (hs : PySem.W.findIn X.K (.ref C) "__eq__" = some (some (.ref f))) (hf : PySem.W.isFn X.K (.ref f) = true) (G : FR X.prog X.w X.K X.mg X.base k f F) (hr : Room k X.A) (hgd : X.A.guards = some []) :
    OpR X (compareOp .Eq) (rDM X.K (gOwn2 nm F id)) := by
  intro pins s σ H x y v u Q I rx ry ⟨as, d, e, μ, z, μ', rd, re, sto, ez, q⟩
  obtain ⟨h1, h2, b, ef, rfl⟩ := gOwn2_out ez
  obtain ⟨a, dx, fv, rfl, ha⟩ := isO_ok hc rd sto h1
  obtain rfl : v = Value.ref a := rx
  obtain ⟨tb, htb, hnf⟩ := typ_ok2 hc I ry re sto h2
  obtain ⟨mA, J, _⟩ := ins_get I.hok ha
  obtain ⟨od, J, _⟩ := J.look
  obtain ⟨m, hF⟩ := I.fr
  show wpAny (model X.prog X.w) X.A (richCompare .Eq (.ref a) u) (EP X pins σ Q) X.xe s
  refine PySem.W.cmp_K (op := .Eq) (tb := tb) hr.units0 hF I.ok.mod.kin J htb hnf hs hf ?_
  refine wpAny_mono (run_frA (us := [.ref a, u]) (vs := [.ref a, y]) (Q := fun v H' => v = .bl b ∧ Q (.bl b) H') rfl G hr hgd I (.cons rfl (.cons ry .nil)) ⟨as, μ, [d, e], .v (.bl b), μ', .cons rd (.cons re .nil), sto, ef, fun v as' H' X' r' s' => by cases r'; exact ⟨rfl, q _ as' H' X' (.bl _) s'⟩⟩) (fun r s' hq => ?_) fun _ _ x => x
  obtain ⟨w, H', I', rw', ew, hq⟩ := hq
  subst ew
  cases rw'
  exact ⟨.bl b, H', I', rfl, hq⟩
theorem op_neO2 {nm : Str} (hc : PySem.W.nsIn X.K mainGlobals nm = some (some (.ref C))) (hs : PySem.W.findIn X.K (.ref C) "__eq__" = some (some (.ref f))) (hf : PySem.W.isFn X.K (.ref f) = true) (hne : PySem.W.findIn X.K (.ref C) "__ne__" = some (some (.builtin "object.__ne__"))) (hmr : PySem.W.mroIn X.K C (.type "object") = some true)
    (G : FR X.prog X.w X.K X.mg X.base k f F) (hr : Room (k + 1) X.A) (hgd : X.A.guards = some []) : OpR X (compareOp .NotEq) (rDM X.K (gOwn2 nm F not)) := by
  intro pins s σ H x y v u Q I rx ry ⟨as, d, e, μ, z, μ', rd, re, sto, ez, q⟩
  obtain ⟨h1, h2, b, ef, rfl⟩ := gOwn2_out ez
  obtain ⟨a, dx, fv, rfl, ha⟩ := isO_ok hc rd sto h1
  obtain rfl : v = Value.ref a := rx
  obtain ⟨tb, htb, hnf⟩ := typ_ok2 hc I ry re sto h2
  obtain ⟨mA, J, _⟩ := ins_get I.hok ha
  obtain ⟨od, J, _⟩ := J.look
  have one : wpAny (model X.prog X.w) X.A (tryCompare (.ref a) "__ne__" u) (fun r s' => ∃ w, r = some w ∧ EP X pins σ Q w s') X.xe s := by
    unfold tryCompare
    refine wpAny_bind (bound_ne I.kIn J hne (call_ne hr.in1.units0 I.kIn J hmr hs hf (thn (run_frA (A := X.A.in1) (us := [.ref a, u]) (vs := [.ref a, y]) (Q := fun v H' => v = .bl b ∧ Q (.bl !b) H') rfl G hr.in1 hgd I (.cons rfl (.cons ry .nil)) ⟨as, μ, [d, e], .v (.bl b), μ', .cons rd (.cons re .nil), sto, ef, fun v as' H' X' r' s' => by cases r'; exact ⟨rfl, q _ as' H' X' (.bl _) s'⟩⟩) fun r s' hq => ?_)))
    obtain ⟨w, H', I', rw', ew, hq⟩ := hq
    subst ew
    cases rw'
    exact ⟨b, rfl, wpAny_pure ⟨_, rfl, .bl !b, H', I', rfl, hq⟩⟩
  show wpAny (model X.prog X.w) X.A (richCompare .NotEq (.ref a) u) (EP X pins σ Q) X.xe s
  unfold richCompare
  simp only [oneThing_ref]
  refine wpAny_holding (wpAny_bind (wpAny_cRoomFor hr.units0 ?_))
  refine wpAny_bind (J.type.here (wpAny_bind (htb.here ?_)))
  split
  · rename_i hq
    have e : PySem.W.subIn X.K tb (.ref C) = some false := (Bool.or_eq_true_iff.mp hnf).elim (fun e => by rw [beq_iff_eq.mp e] at hq; simp at hq) fun e => beq_iff_eq.mp e
    refine wpAny_bind ((PySem.W.looks_subIn I.kIn e).here ?_)
    rw [if_neg Bool.false_ne_true]
    refine wpAny_bind (thn one fun r s' ⟨w, er, hq⟩ => ?_)
    subst er
    exact wpAny_pure hq
  · refine wpAny_bind (wpAny_pure ?_)
    rw [if_neg Bool.false_ne_true]
    refine wpAny_bind (thn one fun r s' ⟨w, er, hq⟩ => ?_)
    subst er
    exact wpAny_pure hq
/-! x op y, both of the class -/
def isHd : D → Bool
  | .h _ => true
  | _ => false
def gBinO (nm : Str) (F : FnF) : GX := fun x y μ => if isO nm x μ && isO nm y μ then match F [x, y] μ with
  | some (.v z, μ') => if isHd z = true then some (z, μ') else none
  | _ => none
  else none
theorem gBinO_out {nm : Str} {x y z : D} {μ μ' : List Cell} (e : gBinO nm F x y μ = some (z, μ')) : isO nm x μ = true ∧ isO nm y μ = true ∧ F [x, y] μ = some (.v z, μ') ∧ ∃ j, z = .h j := by
  unfold gBinO at e
  split at e
  · rename_i h
    rw [Bool.and_eq_true] at h
    split at e
    · rename_i b μ1 ef
      split at e
      · rename_i hz
        obtain ⟨rfl, rfl⟩ := pr_inj e
        cases b with
        | h j => exact ⟨h.1, h.2, ef, j, rfl⟩
        | _ => cases hz
      · cases e
    · cases e
  · cases e
theorem op_binO {nm : Str} {op : Operator} (hc : PySem.W.nsIn X.K mainGlobals nm = some (some (.ref C))) (sf : PySem.W.selfFirst X.K C = true) (hs : PySem.W.findIn X.K (.ref C) (PySem.dunder op.info.2) = some (some (.ref f))) (hf : PySem.W.isFn X.K (.ref f) = true) (G : FR X.prog X.w X.K X.mg X.base k f F) (hr : Room k X.A) (hgd : X.A.guards = some []) :
    OpR X (binaryOp op) (rDM X.K (gBinO nm F)) := by
  intro pins s σ H x y v u Q I rx ry ⟨as, d, e, μ, z, μ', rd, re, sto, ez, q⟩
  obtain ⟨h1, h2, ef, j, ej⟩ := gBinO_out ez
  obtain ⟨a, dx, fv, rfl, ha⟩ := isO_ok hc rd sto h1
  obtain ⟨b, dx2, fv2, rfl, hb⟩ := isO_ok hc re sto h2
  obtain rfl : v = Value.ref a := rx
  obtain rfl : u = Value.ref b := ry
  obtain ⟨mA, J, _⟩ := ins_get I.hok ha
  obtain ⟨od, J, _⟩ := J.look
  obtain ⟨mB, J2, _⟩ := ins_get I.hok hb
  obtain ⟨od2, J2, _⟩ := J2.look
  obtain ⟨m, hF⟩ := I.fr
  refine PySem.W.binop_K hF I.ok.mod.kin J J2.type sf hs hf ?_
  refine wpAny_mono (run_frA (us := [.ref a, .ref b]) (vs := [.ref a, .ref b]) (Q := fun v H' => (∃ p, v = .ref p) ∧ Q v H') rfl G hr hgd I (.cons rfl (.cons rfl .nil)) ⟨as, μ, [d, e], .v z, μ', .cons rd (.cons re .nil), sto, ef, fun v as' H' X' r' s' => ⟨by subst ej; cases r'; exact ⟨_, rfl⟩, q _ as' H' X' r' s'⟩⟩) (fun r s' hq => ?_) fun _ _ x => x
  obtain ⟨w, H', I', rw', ⟨p, ew⟩, hq⟩ := hq
  subst ew
  obtain rfl : r = Value.ref p := rw'
  exact ⟨.ref p, H', I', rfl, hq⟩
theorem de_binM {a b : Expr} {fa fb : EvE} {pos : Pos} {op : Operator} {G : GX} (ho : OpR X (binaryOp op) (rDM X.K G)) (ha : PE X a (tF X.K fa)) (hb : PE X b (tF X.K fb)) : PE X (.BinOp a op b pos) (tF X.K (fBM G fa fb)) := (pe_op ho ha hb).imp tF_bm
/-! ~x -/
def gInvO (nm : Str) (F : FnF) : GC := fun ds μ => match ds with
  | [x] => if isO nm x μ then match F [x] μ with
    | some (.v z, μ') => some (z, μ')
    | _ => none
    else none
  | _ => none
def fUM (G : GC) (fa : EvE) : EvE := fun S => (fa S).bind fun z => G [z.1] z.2
theorem gInvO_out {nm : Str} {x z : D} {μ μ' : List Cell} (e : gInvO nm F [x] μ = some (z, μ')) : isO nm x μ = true ∧ F [x] μ = some (.v z, μ') := by
  unfold gInvO at e
  simp only at e
  split at e
  · rename_i h
    split at e
    · rename_i b μ1 ef
      obtain ⟨rfl, rfl⟩ := pr_inj e
      exact ⟨h, ef⟩
    · cases e
  · cases e
theorem de_invO {nm : Str} {a : Expr} {fa : EvE} {pos : Pos} (hc : PySem.W.nsIn X.K mainGlobals nm = some (some (.ref C))) (hs : PySem.W.findIn X.K (.ref C) "__invert__" = some (some (.ref f))) (hf : PySem.W.isFn X.K (.ref f) = true) (G : FR X.prog X.w X.K X.mg X.base k f F) (hr : Room k X.A) (hgd : X.A.guards = some []) (ha : PE X a (tF X.K fa)) :
    PE X (.UnaryOp .Invert a pos) (tF X.K (fUM (gInvO nm F) fa)) := by
  have un : UnR X (unaryOp .Invert) (fun x H Q => ∃ as d μ z μ', Rep X.K as H x d ∧ StoR X.K as H μ ∧ gInvO nm F [d] μ = some (z, μ') ∧ ∀ v as' H', Ext as H as' H' → Rep X.K as' H' v z → StoR X.K as' H' μ' → Q v H') := by
    intro pins s σ H x v Q I rx ⟨as, d, μ, z, μ', rd, sto, ez, q⟩
    obtain ⟨h1, ef⟩ := gInvO_out ez
    obtain ⟨a, dx, fv, rfl, ha⟩ := isO_ok hc rd sto h1
    obtain rfl : v = Value.ref a := rx
    obtain ⟨mA, J, _⟩ := ins_get I.hok ha
    obtain ⟨od, J, _⟩ := J.look
    unfold unaryOp
    refine wpAny_holding ?_
    show wpAny (model X.prog X.w) X.A (callSpecial? (.ref a) (Str.ofString "__invert__") >>= _) _ _ s
    refine wpAny_bind (m := callSpecial? (.ref a) (Str.ofString "__invert__")) (PySem.W.special_fn I.kIn J hs (beq_iff_eq.mp hf) (thn (run_frA (A := X.A) (us := [.ref a]) (vs := [.ref a]) (Q := Q) rfl G hr hgd I (.cons rfl .nil) ⟨as, μ, [d], .v z, μ', .cons rd .nil, sto, ef, fun v as' H' X' r' s' => q v as' H' X' r' s'⟩) fun r s' hq => ?_))
    exact wpAny_pure hq
  exact (pe_un un ha).imp fun σ H Q ⟨as, S, d, μ', E, e, q⟩ => by
    unfold fUM at e
    obtain ⟨⟨x, μ1⟩, ea, e⟩ := Option.bind_eq_some_iff.mp e
    exact ⟨as, S, x, μ1, E, ea, fun v as1 H1 X1 r1 s1 => ⟨as1, x, μ1, d, μ', r1, s1, e, fun w as' H' X' r' s' => q w as' H' (X1.trans X' E.sto.trk) r' s'⟩⟩
/-! bool(x) by an own __bool__ -/
def okBl : D → Bool
  | .bl _ => true
  | _ => false
theorem call_boolO {nm : Str} (hc : PySem.W.nsIn X.K mainGlobals nm = some (some (.ref C))) (hs : PySem.W.findIn X.K (.ref C) "__bool__" = some (some (.ref f))) (hf : PySem.W.isFn X.K (.ref f) = true) (G : FR X.prog X.w X.K X.mg X.base k f F) (hr : Room (k + 2) X.A) (hgd : X.A.guards = some []) :
    CallR X (.type "bool") (rCM X.K (gOwn1 nm F okBl)) := by
  intro pins s σ H xs us Q I rv ⟨as, ds, μ, z, μ', rs, sto, ez, q⟩
  obtain ⟨x, rfl, ho, ef, hz⟩ := gOwn1_out ez
  cases rs with
  | cons rd rn =>
  cases rn
  cases rv with
  | cons r1 rn =>
  cases rn
  obtain ⟨a, dx, fv, rfl, ha⟩ := isO_ok hc rd sto ho
  obtain rfl := r1
  obtain ⟨mA, J, _⟩ := ins_get I.hok ha
  obtain ⟨od, J, _⟩ := J.look
  obtain ⟨m, hF⟩ := I.fr
  cases z with
  | bl b =>
    have own : wpAny (model X.prog X.w) X.A.in1.in1 (truthy (.ref a)) (fun r s₁ => EP X pins σ Q (.bool r) s₁) X.xe s := by
      refine PySem.W.truthy_K hF I.ok.mod.kin J hs hf ?_
      refine thn (run_frA (A := X.A.in1.in1) (us := [.ref a]) (vs := [.ref a]) (Q := fun v H' => v = .bl b ∧ Q (.bl b) H') rfl G hr.in1.in1 hgd I (.cons rfl .nil) ⟨as, μ, [x], .v (.bl b), μ', .cons rd .nil, sto, ef, fun v as' H' X' r' s' => by cases r'; exact ⟨rfl, q _ as' H' X' (.bl _) s'⟩⟩) fun r s' ⟨w, H', I', rw', ew, hq⟩ => ?_
      subst ew
      obtain rfl : r = Value.bool b := rw'
      exact ⟨.bl b, H', I', rfl, hq⟩
    refine callType_codes (T := "bool") (Bi := Builtin.«object.__init__») (Q₁ := fun r s₁ => ∃ y, r = .bool y ∧ EP X pins σ Q r s₁) PySem.F.called_bool (PySem.F.typeCall_bool_1 _) PySem.F.entry_object_init (codeAny_of_tree ?_) ?_
    · show wpAny _ X.A.in1.in1 (do checkBuiltinCall "bool.__new__" ⟨[.type "bool", .ref a], []⟩; again (.builtin "bool.__new__" ⟨[.type "bool", .ref a], []⟩)) _ _ s
      refine wpAny_bind (wpAny_of_eq (PySem.F.newCall_bool_1 _) (wpAny_pure ⟨plainId_quiet (by decide +kernel) _, codeAny_builtin PySem.F.entry_bool_new ?_⟩))
      rw [Around.under_plainId (by decide +kernel) _]
      unfold Builtin.«bool.__new__»
      refine wpAny_bind (wpAny_of_eq (a := true) rfl ?_)
      refine wpAny_bind (wpAny_of_eq PySem.F.conv_sub_bool ?_)
      refine wpAny_bind (m := someArgs "bool" 0 1 { pos := [Value.ref a] }) (wpAny_of_eq (a := [Value.ref a]) rfl ?_)
      refine wpAny_bind (thn own fun r s₁ z => ?_)
      exact wpAny_pure ⟨r, rfl, z⟩
    · rintro obj s₁ ⟨y, rfl, hq⟩
      exact ⟨rfl, PySem.F.args_object_init_2 _ _, object_init_meets PySem.F.called_bool.init.lookup PySem.F.called_bool.made (by decide) X.prog X.w X.A.in1 _ s₁ ⟨rfl, rfl, hq⟩⟩
  | _ => cases hz
end
end DL
namespace DL
open PySem L2 PySem.Spec PyProof.Rows
section
variable {X : Cx} {k : Nat} {f C : Addr} {F : FnF} {x m : Str} {p apos pos : Pos} {W : WX}
/-- C.m() -/
theorem cmeth_any0 {pl : Sem Bool} {mc : Value} {pr : Addr} {pins : List (Addr × Obj)} {s : Shared} {σ : L2.St} {H : Hp} {Q : VK} {E : XK} {as : Ar} {S : Sg} {r : Ov} {μ' : List Cell} (r0 : ClX.CRead X.K C mc) (c : ClX.CMet X.K C mc m pr f) (G : FR X.prog X.w X.K X.mg X.base k f F) (hr : Room k X.A) (hgd : X.A.guards = some []) (hc : PySem.W.nsIn X.K mainGlobals x = some (some (.ref C))) (hg : Gl X x) (hm : X.mg x = some (.ref C))
    (hdb : (x == ("__debug__" : Str)) = false)
    (ht : eval (.Call (.Attribute (.Name x p) m apos) [] [] pos) X.env = (do
      let ov ← eval (.Name x p) X.env
      standAt apos.atName
      let (f, first) ← holding [ov] (getMethod ov m pl)
      callWith pos f first (backTo pos (starEach [] X.env)) (backToKw pos (keywordEach [] X.env))))
    (I : Inv X pins σ H s) (ee : ER X.K as σ H S) (ed : fCallR (clsF x F) fNil S = some (r, μ')) (hx : PassesAt (L2.CX X.prog X.w) X σ E) (q : outD X.K X.mg as H Q E r μ') : wpAny (model X.prog X.w) X.A (eval (.Call (.Attribute (.Name x p) m apos) [] [] pos) X.env) (EP X pins σ Q) X.xe s := by
  obtain ⟨ds, μ1, ea, ef⟩ := fCallR_out ed
  obtain ⟨rfl, rfl⟩ := pr_inj ea
  refine PySem.W.methodCall_KW (pl := pl) (ld_glob I hg hm ?_ hdb) ht
  refine ClX.getmethcm_ok I r0 c fun s2 I2 => ?_
  refine PySem.W.callWith_M0 (first := []) ⟨ClX.pin_at I2, I2.kIn⟩ c.fi ?_
  have z := code_fr (us := [.ref C]) (vs := [.ref C]) G hr hgd I2 (.cons rfl .nil) hx ⟨as, S.μ, [.cls x], r, μ', .cons (.cls hc) .nil, ee.sto, ef, q⟩
  exact thn (wpAny_call (PySem.W.method_call (ClX.pin_at I2) z)) fun _ _ y => ClX.unpinE y
theorem de_cmeth0 {pl : Sem Bool} {mc : Value} {pr : Addr} (r0 : ClX.CRead X.K C mc) (c : ClX.CMet X.K C mc m pr f) (G : FR X.prog X.w X.K X.mg X.base k f F) (hr : Room k X.A) (hgd : X.A.guards = some []) (hc : PySem.W.nsIn X.K mainGlobals x = some (some (.ref C))) (hg : Gl X x) (hm : X.mg x = some (.ref C))
    (hdb : (x == ("__debug__" : Str)) = false := by decide)
    (ht : eval (.Call (.Attribute (.Name x p) m apos) [] [] pos) X.env = (do
      let ov ← eval (.Name x p) X.env
      standAt apos.atName
      let (f, first) ← holding [ov] (getMethod ov m pl)
      callWith pos f first (backTo pos (starEach [] X.env)) (backToKw pos (keywordEach [] X.env))) := by rfl) : PE X (.Call (.Attribute (.Name x p) m apos) [] [] pos) (tF X.K (fNox (fCallR (clsF x F) fNil))) :=
  ⟨fun pins s σ H Q I ⟨as, S, d, μ', E, ed, q⟩ => cmeth_any0 r0 c G hr hgd hc hg hm hdb ht I E (fNox_out ed) passF q⟩
theorem dt_cmpM {a b : Expr} {fa fb : EvE} {pos : Pos} {op : CmpOp} {G : GX} (ho : OpR X (compareOp op) (rDM X.K G)) (ha : PE X a (tF X.K fa)) (hb : PE X b (tF X.K fb)) (hm : behindInMarks op b = false) (hbl : ∀ x y μ z μ', G x y μ = some (z, μ') → ∃ k, z = .bl k) :
    PT X (.Compare a [op] [b] pos) (tFT X.K (fTru (fBM G fa fb))) := by
  refine (pt_cmpR ho ha hb hm).imp fun σ H Q ⟨as, S, k, μ', E, e, q⟩ => ?_
  unfold fTru at e
  split at e
  · rename_i x μ1 ea
    split at e
    · rename_i k' ek
      injection e with e
      injection e with e1 e2
      subst e1 e2
      obtain ⟨kb, rfl⟩ : ∃ k, x = .bl k := by
        obtain ⟨⟨x1, m1⟩, e1, ea'⟩ := Option.bind_eq_some_iff.mp ea
        obtain ⟨⟨y1, m2⟩, e2, ea'⟩ := Option.bind_eq_some_iff.mp ea'
        exact hbl _ _ _ _ _ ea'
      have ek' : kb = k' := Option.some.inj ek
      subst ek'
      refine tF_bm (K := X.K) σ H _ ⟨as, S, .bl kb, μ1, E, ea, fun v as1 H1 X1 r1 s1 => ?_⟩
      cases r1
      exact ⟨kb, rfl, q as1 H1 X1 s1⟩
    · cases e
  · cases e
theorem gOwn2_bl {nm : Str} {F : FnF} {g : Bool → Bool} : ∀ x y μ z μ', gOwn2 nm F g x y μ = some (z, μ') → ∃ k, z = .bl k := fun x y μ z μ' e => by
  unfold gOwn2 at e
  split at e
  · split at e
    · exact ⟨_, (pr_inj e).1.symm⟩
    · cases e
  · cases e
theorem gIn_bl {nm : Str} {F : FnF} {g : Bool → Bool} : ∀ x y μ z μ', gIn nm F g x y μ = some (z, μ') → ∃ k, z = .bl k := fun x y μ z μ' e => by
  unfold gIn at e
  split at e
  · split at e
    · exact ⟨_, (pr_inj e).1.symm⟩
    · cases e
  · cases e
end
end DL
namespace DL
open PySem L2 PySem.Spec PyProof.Rows
/-! == of lists of objects with an own __eq__, which are equal; lcm -/
section
variable {X : Cx} {k : Nat} {f C : Addr} {F : FnF}
def EqP (nm : Str) (F : FnF) (μ : List Cell) (x y : D) : Prop := isO nm x μ = true ∧ isO nm y μ = true ∧ F [x, y] μ = some (.v (.bl true), μ)
open Classical in
noncomputable def gEqL (nm : Str) (F : FnF) : GX := fun x y μ => match x, y with
  | .lst xs, .lst ys => if xs.length = ys.length ∧ ∀ (i : Nat) (x y : D), xs[i]? = some x → ys[i]? = some y → EqP nm F μ x y then some (.bl true, μ) else none
  | _, _ => none
theorem gEqL_out {nm : Str} {x y z : D} {μ μ' : List Cell} (e : gEqL nm F x y μ = some (z, μ')) : ∃ xs ys, x = .lst xs ∧ y = .lst ys ∧ z = .bl true ∧ μ' = μ ∧ xs.length = ys.length ∧ ∀ (i : Nat) (x y : D), xs[i]? = some x → ys[i]? = some y → EqP nm F μ x y := by
  unfold gEqL at e
  split at e
  · split at e
    · rename_i h
      obtain ⟨rfl, rfl⟩ := pr_inj e
      exact ⟨_, _, rfl, rfl, rfl, rfl, h.1, h.2⟩
    · cases e
  · cases e
theorem own_eqA {A : Around} {nm : Str} {pins : List (Addr × Obj)} {s : Shared} {σ : L2.St} {H : Hp} {x y : V} {v u : Value} {as : Ar} {d e : D} {μ : List Cell} (fr : A.frames = X.A.frames) (hc : PySem.W.nsIn X.K mainGlobals nm = some (some (.ref C))) (hs : PySem.W.findIn X.K (.ref C) "__eq__" = some (some (.ref f))) (hf : PySem.W.isFn X.K (.ref f) = true) (G : FR X.prog X.w X.K X.mg X.base k f F) (hr : Room k A) (hgd : A.guards = some [])
    (I : Inv X pins σ H s) (rx : RelV x v) (ry : RelV y u) (rd : Rep X.K as H x d) (re : Rep X.K as H y e) (sto : StoR X.K as H μ) (p : EqP nm F μ d e) :
    wpAny (model X.prog X.w) A (eqBool v u) (fun r s' => r = true ∧ ∃ as' H', Inv X pins σ H' s' ∧ Ext as H as' H' ∧ StoR X.K as' H' μ) X.xe s := by
  obtain ⟨h1, h2, ef⟩ := p
  obtain ⟨a, dx, fv, rfl, ha⟩ := isO_ok hc rd sto h1
  obtain ⟨b, dx2, fv2, rfl, hb⟩ := isO_ok hc re sto h2
  obtain rfl : v = Value.ref a := rx
  obtain rfl : u = Value.ref b := ry
  by_cases hab : a = b
  · subst hab
    exact SeqAt.EqAt.same (A := A) (s := s) (.ref a) X.prog X.w X.xe _ ⟨rfl, as, H, I, .refl, sto⟩
  · obtain ⟨mA, J, _⟩ := ins_get I.hok ha
    obtain ⟨od, J, _⟩ := J.look
    obtain ⟨mB, J2, _⟩ := ins_get I.hok hb
    obtain ⟨od2, J2, _⟩ := J2.look
    obtain ⟨m, hF⟩ := I.fr
    refine GQ.eqBool_refG hab (PySem.W.cmp_K (op := .Eq) (tb := .ref C) hr.units0 hF I.ok.mod.kin J J2.type (by simp [PySem.W.notFirst]) hs hf ?_)
    refine wpAny_mono (run_frA (us := [.ref a, .ref b]) (vs := [.ref a, .ref b]) (Q := fun v H' => v = .bl true ∧ ∃ as', Ext as H as' H' ∧ StoR X.K as' H' μ) fr G hr hgd I (.cons rfl (.cons rfl .nil)) ⟨as, μ, [d, e], .v (.bl true), μ, .cons rd (.cons re .nil), sto, ef, fun v as' H' X' r' s' => by cases r'; exact ⟨rfl, as', X', s'⟩⟩) (fun r s' hq => ?_) fun _ _ x => x
    obtain ⟨w, H', I', rw', ew, as', X', s''⟩ := hq
    subst ew
    cases rw'
    exact ⟨true, rfl, rfl, as', H', I', X', s''⟩
theorem op_eqLO {nm : Str} (hc : PySem.W.nsIn X.K mainGlobals nm = some (some (.ref C))) (hs : PySem.W.findIn X.K (.ref C) "__eq__" = some (some (.ref f))) (hf : PySem.W.isFn X.K (.ref f) = true) (G : FR X.prog X.w X.K X.mg X.base k f F) (hr : Room (k + 1) X.A) (hgd : X.A.guards = some []) :
    OpR X (compareOp .Eq) (rDM X.K (gEqL nm F)) := by
  intro pins s σ H x y v u Q I rx ry ⟨as, d, e, μ, z, μ', rd, re, sto, ez, q⟩
  obtain ⟨xs, ys, rfl, rfl, rfl, rfl, hl, hp⟩ := gEqL_out ez
  cases rd with
  | @lst a vs _ ha oa ra =>
  cases re with
  | @lst b ws _ hb ob rb =>
  obtain rfl : v = Value.ref a := rx
  obtain rfl : u = Value.ref b := ry
  show wpAny (model X.prog X.w) X.A (richCompare .Eq (.ref a) (.ref b)) (EP X pins σ Q) X.xe s
  refine GQ.rc_listG (N := vs.length) hr.units0 (fun _ s' => ∃ as' H', Inv X pins σ H' s' ∧ Ext as H as' H' ∧ StoR X.K as' H' μ') (fun i s' h' => ?_) (fun s' ⟨as', H', I', X', st'⟩ => ⟨.bl true, H', I', rfl, q _ as' H' X' (.bl true) st'⟩) ⟨as, H, I, .refl, sto⟩
  obtain ⟨as1, H1, I1, X1, st1⟩ := h'
  have ha1 := X1.old a _ oa.1 ha
  have hb1 := X1.old b _ ob.1 hb
  obtain ⟨z, its, n1, r1, e1⟩ := I1.hok a _ ha1
  obtain ⟨z2, its2, n2, r2, e2⟩ := I1.hok b _ hb1
  have l1 := ra.length
  have l2 := rb.length
  refine ⟨its.toArray, its2.toArray, n1, n2, e1, e2, by rw [List.size_toArray, ← r1.length], by rw [List.size_toArray, ← r2.length]; omega, fun h1 h2 => ?_⟩
  have g1 : its[i]? = some its.toArray[i] := by
    have h1' : i < its.length := by simpa using h1
    rw [List.getElem?_eq_getElem h1']; simp
  have g2 : its2[i]? = some its2.toArray[i] := by
    have h2' : i < its2.length := by simpa using h2
    rw [List.getElem?_eq_getElem h2']; simp
  have k1 : i < vs.length := by rw [r1.length]; simpa using h1
  have k2 : i < ws.length := by rw [r2.length]; simpa using h2
  obtain ⟨u1, hu1, ru1⟩ := r1.get (List.getElem?_eq_getElem k1)
  obtain ⟨v1, hv1, rv1⟩ := r2.get (List.getElem?_eq_getElem k2)
  rw [g1] at hu1
  rw [g2] at hv1
  obtain ⟨d1, ed1, rd1⟩ := (ra.mv X1).getV (List.getElem?_eq_getElem k1)
  obtain ⟨d2, ed2, rd2⟩ := (rb.mv X1).getV (List.getElem?_eq_getElem k2)
  rw [Option.some.inj hu1, Option.some.inj hv1]
  refine wpAny_mono (own_eqA (A := X.A.in1) rfl hc hs hf G hr.in1 hgd I1 ru1 rv1 rd1 rd2 st1 (hp i d1 d2 ed1 ed2)) (fun r s2 ⟨hr2, as2, H2, I2, X2, st2⟩ => ⟨hr2, as2, H2, I2, X1.trans X2 sto.trk, st2⟩) fun _ _ x => x

/-! ### lcm -/
def gLcm (i j : Int) : Option D := if i.natAbs ≤ 4000 ∧ j.natAbs ≤ 4000 then some (.int (Nat.lcm i.natAbs j.natAbs : Nat)) else none
theorem call_lcmD : CallR X (.builtin "math.lcm") (rCD X.K (g2 (dII gLcm))) := call2 fun pins s σ H x y us Q as d e μ z I r rd re sto ez q => by
  unfold dII at ez
  split at ez
  · rename_i i j
    unfold gLcm at ez
    split at ez
    · rename_i hij
      cases Option.some.inj ez
      cases rd; cases re
      obtain ⟨t, u, rfl⟩ := Vals.int2 r
      have hle : Nat.lcm i.natAbs j.natAbs ≤ 16000000 := by
        rcases Nat.eq_zero_or_pos (i.natAbs * j.natAbs) with z | z
        · have h0 : Nat.lcm i.natAbs j.natAbs = 0 := by
            unfold Nat.lcm
            rw [z, Nat.zero_div]
          omega
        · have h1 := Nat.le_of_dvd z (Nat.lcm_dvd_mul i.natAbs j.natAbs)
          have h2 : i.natAbs * j.natAbs ≤ 4000 * 4000 := Nat.mul_le_mul hij.1 hij.2
          omega
      have hsz : ((Nat.lcm i.natAbs j.natAbs : Nat) : Int).natAbs.log2 < bitsLine := by
        rw [Int.natAbs_natCast]
        by_cases h0 : Nat.lcm i.natAbs j.natAbs = 0
        · rw [h0]; decide
        · have : Nat.lcm i.natAbs j.natAbs < 2 ^ 24 := by omega
          have := (Nat.log2_lt h0).mpr this
          have h3 : 24 ≤ bitsLine := by decide
          omega
      have e1 : Nat.lcm 1 i.natAbs = i.natAbs := Nat.lcm_one_left _
      refine PySem.W.mg_lcm (by omega) (by omega) (by rw [e1]; exact hsz) ?_
      rw [e1]
      exact ⟨.int _, H, I.tok _, ⟨_, rfl⟩, q _ H .refl (.int _) sto⟩
    · cases ez
  · cases ez
/-! ### bool of a whole number -/
def dBool : D → List Cell → Option D
  | .int i, _ => some (.bl (i != 0))
  | _, _ => none
theorem call_boolD : CallR X (.type "bool") (rCD X.K (g1 dBool)) := call1 fun pins s σ H x us Q as d μ z I r rd sto ez q => by
  unfold dBool at ez
  split at ez
  · cases rd
    cases Option.some.inj ez
    obtain ⟨v, rfl, t, rfl⟩ := Vals.one r
    exact PySem.call_bool_int ⟨.bl _, H, I, rfl, q _ H .refl (.bl _) sto⟩
  · cases ez
theorem w1_bool {i : Int} {μ : List Cell} {V : D → Prop} : W1 dBool (.int i) μ V ↔ V (.bl (i != 0)) := ⟨fun ⟨z, e, p⟩ => by cases e; exact p, fun p => ⟨_, rfl, p⟩⟩
theorem de_callBf {x : Str} {p pos : Pos} {id : String} {g : List D → List Cell → Option D} {a : Expr} {es : List Expr} {fs : EvA} (hc : CallR X (.builtin id) (rCD X.K g)) (hg : Gl X x) (hm : X.mg x = some (.builtin id)) (ha : PA X (a :: es) (tFA X.K fs)) (hdb : (x == ("__debug__" : Str)) = false := by decide)
    (he : starEach (a :: es) X.env = (false, eval a X.env) :: starEach es X.env := by rfl) (hpl : (backTo pos (starEach es X.env)).any (·.1) = false := by rfl) : PE X (.Call (.Name x p) (a :: es) [] pos) (tF X.K (fApp g fs)) :=
  (pe_callBfun hc hg hm ha hdb he hpl).imp tF_app
end
end DL
set_option maxHeartbeats 4000000
namespace DL
open PySem L2 PySem.Spec PyProof.Rows
/-! ### set(a list of ints) -/
abbrev eSet (w : World) : Obj := ⟨.type "set", none, .set #[] 0 (.fresh 0 0 (!w.params.followText "set-order")), #[]⟩
abbrev hSet (w : World) (s : Shared) : Heap := s.heap.push (eSet w)
section
variable {P : Program} {w : World} {A : Around} {E : Value → Shared → Prop} {s : Shared}
theorem setL_init {l : Addr} {xs : Array Value} (ns : List Int) (hh : A.handled = none) (hl : s.heap.IsList l xs) (hn : xs.size = ns.length) (hv : ∀ (i : Nat) (v : Value), xs[i]? = some v → ∃ k t, ns[i]? = some k ∧ v = .int k t) (hb : ns.length + 1 < scanBound) :
    codeAny (model P w) A (.call (.builtin "set.__init__") ⟨[.ref s.heap.objs.size, .ref l], []⟩) (wants (fun r s2 => r = .none ∧ ∃ h2 tk c, s2 = { s with heap := h2, toks := tk } ∧ SetR w h2 s.heap.objs.size (fun j => decide (j ∈ ns)) c ∧ c ≤ ns.length ∧ ∀ b o, s.heap.get? b = some o → h2.get? b = some o) E) { s with heap := hSet w s } := by
  have g0 : (hSet w s).get? s.heap.objs.size = some (eSet w) := Heap.get?_push_size _ rfl
  have ty : Shared.TypeIs { s with heap := hSet w s } (.ref s.heap.objs.size) "set" := ⟨_, g0, rfl⟩
  refine codeAny_call_builtin PySem.F.called_set.init.plain PySem.F.entry_set_init (check_set_init_1 ty ?_)
  obtain ⟨⟨oc, od, ot, os⟩, g1, e1, z, e2⟩ := hl
  dsimp only at e1 e2
  cases e1
  cases e2
  have g2 : (hSet w s).get? l = some ⟨.type "list", od, .seq xs z, os⟩ := Heap.get?_push_of_some _ g1
  have f1 := PySem.F.sub_list_set
  have f2 := PySem.F.sub_list_frozenset
  have f3 : (Value.type "list" == Value.type "dict") = false := rfl
  have lk : (hSet w s).IsList l xs := ⟨_, g2, rfl, z, rfl⟩
  have lt := Heap.lt_size g1
  have sz : (hSet w s).objs.size = s.heap.objs.size + 1 := Heap.size_push ..
  unfold Builtin.«set.__init__» noKeywords Builtin.Frozenset.updateFrom
  generalize hI : pyIter = I
  wp_walk
  subst hI
  refine wpAny_pyIter_list lk (wpAny_bind (wpAny_runValue ?_))
  have a0 : A.in1.in1.handled = none := by simp [hh]
  have n1 : l ≠ (hSet w s).objs.size := by rw [sz]; exact Nat.ne_of_lt (Nat.lt_succ_of_lt lt)
  have n2 : s.heap.objs.size ∉ [(hSet w s).objs.size, l] := by
    intro m
    rcases List.mem_cons.mp m with m | m
    · rw [sz] at m; exact absurd m (Nat.ne_of_lt (Nat.lt_succ_self _))
    · exact absurd (List.mem_singleton.mp m) (Nat.ne_of_gt lt)
  refine set_update_ints ((Walks.list a0 _ l n1 xs).toS) s.heap.objs.size n2 ns hn hb hv _ 0 _ rfl (Nat.zero_le _) ?h2 ⟨0, Nat.le_refl 0, ?h0⟩ ?h1
  case h0 => exact setR_new_at (Heap.get?_push_of_some _ g0)
  case h2 => exact ⟨⟨_, Heap.get?_push_size _ rfl, rfl, rfl⟩, lk.push _⟩
  case h1 =>
    rintro ⟨h2, gg, dd, tt, oo⟩ c mv hc hR
    have q1 : gg = s.gens := mv.gens
    have q2 : dd = s.drawn := mv.drawn
    have q3 : oo = s.os := mv.os
    cases q1; cases q2; cases q3
    rw [hn] at hc
    show wpAny _ _ _ _ _ _
    refine wpAny_pure ?_
    refine wpAny_pure ⟨rfl, h2, tt, c, rfl, hR, hc, fun b o e => ?_⟩
    have l1 : b < s.heap.objs.size := Heap.lt_size e
    have l2 : b ∉ [s.heap.objs.size, (hSet w s).objs.size] := fun m => by
      rcases List.mem_cons.mp m with m | m
      · exact absurd m (Nat.ne_of_lt l1)
      · have m := List.mem_singleton.mp m
        rw [sz] at m
        exact absurd m (Nat.ne_of_lt (Nat.lt_succ_of_lt l1))
    exact mv.heap b o l2 (Heap.get?_push_of_some _ (Heap.get?_push_of_some _ e))
theorem setL_call {l : Addr} {xs : Array Value} {Q : Value → Shared → Prop} (ns : List Int) (hh : A.handled = none) (hl : s.heap.IsList l xs) (hi : IntsAre xs.toList ns) (hb : ns.length + 1 < scanBound)
    (h : ∀ (h2 : Heap) (tk c : Nat), SetR w h2 s.heap.objs.size (fun j => decide (j ∈ ns)) c → c ≤ ns.length → (∀ b o, s.heap.get? b = some o → h2.get? b = some o) → Q (.ref s.heap.objs.size) { s with heap := h2, toks := tk }) :
    wpAny (model P w) A (call (.type "set") [.ref l]) Q E s := by
  have hn : xs.size = ns.length := by rw [← IntsAre.length hi, Array.length_toList]
  have hv : ∀ (i : Nat) (v : Value), xs[i]? = some v → ∃ k t, ns[i]? = some k ∧ v = .int k t := fun i v e => by
    have hi2 : i < ns.length := by rw [← hn]; exact (Array.getElem?_eq_some_iff.mp e).1
    obtain ⟨t, e2⟩ := IntsAre.int_at hi i v (by rw [Array.getElem?_toList]; exact e)
    exact ⟨ns[i], t, List.getElem?_eq_getElem hi2, by rw [e2, List.getD_eq_getElem?_getD, List.getElem?_eq_getElem hi2]; rfl⟩
  have S := PySem.F.called_set
  obtain ⟨c, tl, q0⟩ := S.mro
  have q1 := S.made
  have q2 := S.sub
  have q3 := S.notType
  have q4 := S.canCreate
  have q5 := PySem.F.typeCall_set_1 (.ref l)
  refine wpAny_call (codeAny_of_tree (wpAny_pure ⟨Code.quiet_builtin _ (by decide +kernel), codeAny_builtin PySem.F.entry_type_call ?_⟩))
  rw [Around.under_plain (weight_type_call_type "set" [.ref l] []) rfl]
  repeat (any_goals (first | assumption | wp_step))
  refine codeAny_mono (code_set_led1 (.ref l) (E := E) (Q₁ := fun v s1 => v = .ref s.heap.objs.size ∧ s1 = { s with heap := hSet w s }) ⟨rfl, rfl⟩) fun r s1 hr => ?_
  match r, hr with
  | .error _, hr => exact hr
  | .ok (.ret v), ⟨e1, e2⟩ =>
    subst e1 e2
    have g0 : (hSet w s).get? s.heap.objs.size = some (eSet w) := Heap.get?_push_size _ rfl
    have ty : Shared.TypeIs { s with heap := hSet w s } (.ref s.heap.objs.size) "set" := ⟨_, g0, rfl⟩
    have q6 := S.init.lookup
    have q7 := S.init.bind (.ref s.heap.objs.size)
    repeat (any_goals (first | assumption | wp_step))
    refine codeAny_mono (setL_init (E := E) ns (by simpa using hh) hl hn hv hb) fun r2 s2 hr2 => ?_
    match r2, hr2 with
    | .error _, hr2 => exact hr2
    | .ok (.ret v2), ⟨e1, h2, tk, c2, e2, x1, x2, x3⟩ =>
      subst e1 e2
      repeat (any_goals (first | assumption | wp_step))
      exact h _ _ _ x1 x2 x3
end
section
variable {X : Cx} {a : Expr} {fa : EvE} {p p2 pos q2 : Pos}
def rSetLI (K : PySem.W.Frag) (w : World) : List V → Hp → VK → Prop := fun vs H Q => ∃ (l : Addr) (ns : List Int), vs = [V.ref l] ∧ SqL K H l (ns.map V.int) ∧ ns.length < 64 ∧ ∀ (b : Addr) (c : Nat), H b = none → c ≤ ns.length → Q (.ref b) (upd H b (SetO w b (fun j => decide (j ∈ ns)) c))
theorem cr_setLI (hc : X.calm = true) : CallR X (.type "set") (rSetLI X.K X.w) := by
  rintro pins s σ H _ us Q I r ⟨l, ns, rfl, hq, h64, q⟩
  rw [Vals.ref1 r]
  obtain ⟨its, rv, pl, _⟩ := I.list hq
  refine setL_call ns (I.ok.hd hc) pl.isList (intsAre_of (by simpa using rv)) (Nat.lt_trans (show ns.length + 1 < 100 by omega) (by decide +kernel)) fun h2 tk c R hcl k => ?_
  have hn : H s.heap.objs.size = none := I.hok.fresh (Nat.le_refl _)
  exact ⟨.ref s.heap.objs.size, upd H s.heap.objs.size (SetO X.w s.heap.objs.size (fun j => decide (j ∈ ns)) c), I.laid (t' := tk) k (Nat.le_refl _) (setO_new R), rfl, q _ c hn hcl⟩
/-- sorted(set(a list of ints)) -/
def fSortSetL (fa : EvE) : EvE := fun S => match fa S with
  | some (.lst xs, μ1) => match intsOf xs with
    | some ns => if ns.length < 64 then some (.lst ((sortU ns).map D.int), μ1) else none
    | none => none
  | _ => none
theorem de_sortSetL (hc : X.calm = true) (hg : Gl X "sorted") (hm : X.mg "sorted" = none) (hg2 : Gl X "set") (hm2 : X.mg "set" = none) (ha : PE X a (tF X.K fa)) (he : starEach [a] X.env = (false, eval a X.env) :: starEach [] X.env := by rfl)
    (he2 : starEach [.Call (.Name "set" p2) [a] [] q2] X.env = (false, eval (.Call (.Name "set" p2) [a] [] q2) X.env) :: starEach [] X.env := by rfl) (hpl : (backTo q2 (starEach [] X.env)).any (·.1) = false := by rfl) (hpl2 : (backTo pos (starEach [] X.env)).any (·.1) = false := by rfl) :
    PE X (.Call (.Name "sorted" p) [.Call (.Name "set" p2) [a] [] q2] [] pos) (tF X.K (fSortSetL fa)) :=
  (pe_callB (cr_sortedSet hc) hg hm (by decide +kernel) (pa_cons (pe_callTy (cr_setLI hc) hg2 hm2 (by decide +kernel) (pa_cons ha pa_nil he) (by decide) (by decide) he hpl) pa_nil he2) (by decide) (by decide) he2 hpl2).imp fun σ H Q ⟨as, S, d, μ', E, ed, q⟩ => by
    unfold fSortSetL at ed
    split at ed
    · rename_i xs μ1 e1
      split at ed
      · rename_i ns e2
        split at ed
        · rename_i hl
          obtain ⟨rfl, rfl⟩ := pr_inj ed
          refine ⟨as, S, _, μ1, E, e1, fun v as1 H1 X1 r1 s1 => ?_⟩
          cases r1 with
          | lst hl1 ho1 rs =>
            have ev := intsOf_ok rs e2
            subst ev
            refine ⟨_, ns, rfl, .inl (.inl hl1), hl, fun sa c hsa hcl => ⟨sa, _, c, rfl, upd_same, Nat.lt_of_le_of_lt hcl hl, fun ns' pp hs hmem _ hpp => ?_⟩⟩
            have e3 : ns' = sortU ns := pw_eq hs (pw_sortU ns) fun k => by rw [hmem k, mem_sortU, decide_eq_true_eq]
            subst e3
            have Y1 := Ext.new (o := SetO X.w sa (fun j => decide (j ∈ ns)) c) hsa (s1.out hsa)
            have t1 := s1.new (o := SetO X.w sa (fun j => decide (j ∈ ns)) c) hsa
            exact q _ as1 _ (X1.trans (Y1.trans (Ext.new hpp (t1.out hpp)) s1.trk) E.sto.trk) (.newL t1 hpp Reps.ints) (t1.new hpp)
        · cases ed
      · cases ed
    · cases ed
end
end DL
set_option maxHeartbeats 1000000
namespace DL
open PySem L2 PySem.Spec PyProof.Rows
/-! ### an exception with a field: raised, caught under a name -/
section
variable {X : Cx} {CX : CXT} {k : Nat} {B newId initId : String} {bmB : List Value} {C fI : Addr} {fd : FuncData} {ps : List Str} {x fl : Str} {e : Expr} {te : TE} {p pos : Pos}
theorem pmk_exf {bmN : List Value} (FB : ExcBaseFacts B newId initId bmN) (hB : PySem.DLX.Bm B bmB) (T : XCls X.K C bmB newId) (iC : PySem.W.findIn X.K (.ref C) "__init__" = some (some (.ref fI))) (tI : PySem.W.typeIn X.K (.ref fI) = some (.type "function"))
    (F1 : FnOk X.prog X.w X.K X.mg X.base CX k fI fd ps (spF X.K C fl)) (hr : Room (k + 1) X.A) (hb : Binds X.K fd ps []) (hx : Passes CX X (fun _ _ _ => False)) (rs : Raises X (.ref C)) (hg : Gl X x) (hm : X.mg x = some (.ref C)) (he : PE X e te)
    (hdb : (x == ("__debug__" : Str)) = false := by decide) (hs : starEach [e] X.env = (false, eval e X.env) :: starEach [] X.env := by rfl) (hpl : (backTo pos (starEach [] X.env)).any (·.1) = false := by rfl) :
    PMk X (.Call (.Name x p) [e] [] pos) (fun σ H Q => te σ H fun y H1 => ∀ dx, H1 dx = none → Q (.ref C) (some dx) (upd H1 dx (.xd [(fl, y)]))) := by
  intro pins s σ H Q I h
  refine wpAny_Call_Name_kw (ld_glob I hg hm ?_ hdb)
  refine PySem.W.callWith_K (h₀ := X.base) I.ok.mod.kin T.kp (thn ((pa_cons he pa_nil hs).run pos pins s σ H (fun vs H1 => match vs with
    | [y] => ∀ dx, H1 dx = none → Q (.ref C) (some dx) (upd H1 dx (.xd [(fl, y)]))
    | _ => False) I h) fun us s1 ⟨vs, H1, I1, r1, q1⟩ => ⟨I1.kIn, ?_⟩) hs hpl
  · obtain ⟨y, ev⟩ : ∃ y, vs = [y] := by
      match vs, q1 with
      | [y], _ => exact ⟨y, rfl⟩
    show wpAny _ _ (call (.ref C) us) _ _ _
    subst ev
    have hl1 : us.length = 1 := (Paired.length r1).symm
    obtain ⟨nm, N, qn, bs, bm, hdct, sn, sub, ab, col, dd, k0, k1, k2, k3, k5, hC, hT⟩ := PySem.W.excInit_of I1.kIn T.ini
    obtain ⟨hp, g, dr, tk, os⟩ := s1
    have hsz : hp.objs.size ≤ hp.objs.size + 1 := Nat.le_succ _
    have hn : H1 (hp.objs.size + 1) = none := I1.hok.fresh hsz
    have kk : ∀ b o, hp.get? b = some o → ((hp.push (PySem.W.kdv_tup us)).push (PySem.HandSPX.excO C hp.objs.size)).get? b = some o := fun b o z => Heap.get?_push_of_some _ (Heap.get?_push_of_some _ z)
    have I2 : Inv X pins σ (upd H1 (hp.objs.size + 1) (exo (hp.objs.size + 1) C none)) ⟨(hp.push (PySem.W.kdv_tup us)).push (PySem.HandSPX.excO C hp.objs.size), g, dr, tk, os⟩ :=
      I1.laid (t' := tk) kk hsz (exo_ok (by heap_get))
    have r2 : Vals [V.ref (hp.objs.size + 1), y] (Value.ref (hp.objs.size + 1) :: us) := .cons rfl r1
    have hl : (Value.ref (hp.objs.size + 1) :: us ++ []).length = ps.length := by
      have z := F1.len [V.ref (hp.objs.size + 1), y] (upd H1 (hp.objs.size + 1) (exo (hp.objs.size + 1) C none)) (fun _ _ => True) (fun _ _ _ => False) ⟨_, y, rfl, upd_same, fun _ _ _ => trivial⟩
      rw [← z, List.append_nil, List.length_cons, hl1]; rfl
    have eqH : ∀ dx, H1 dx = none → dx ≠ hp.objs.size + 1 → upd (del (upd (upd (upd H1 (hp.objs.size + 1) (exo (hp.objs.size + 1) C none)) dx (exd dx [(fl, y)])) (hp.objs.size + 1) (exo (hp.objs.size + 1) C (some dx))) (hp.objs.size + 1)) dx (.xd [(fl, y)]) = upd H1 dx (.xd [(fl, y)]) := fun dx n ne => by
      funext b
      by_cases h2 : b = dx
      · rw [h2, upd_same, upd_same]
      · rw [upd_ne h2, upd_ne h2]
        by_cases h1 : b = hp.objs.size + 1
        · rw [h1, del_same, hn]
        · rw [del_ne h1, upd_ne h1, upd_ne h2, upd_ne h1]
    refine wpAny_call (PySem.DLX.own_call FB ⟨by rw [hT]; exact hB.b, by rw [hT]; exact hB.a, by rw [hT]; exact hB.n⟩ hC (by rw [hl1, sizeLine_eq]; omega) (PySem.W.looks_findIn I1.kIn iC) (fun self => PySem.W.bind_fn I1.kIn self tI)
      (codeAny_mono (F1.run _ X.stack _ _ ⟨Value.ref (hp.objs.size + 1) :: us, []⟩ (Value.ref (hp.objs.size + 1) :: us ++ []) _
        (fun v H2 => v = .non ∧ ∃ d fs, H2 (hp.objs.size + 1) = some (exo (hp.objs.size + 1) C (some d)) ∧ H2 d = some (exd d fs) ∧ H1 d = none ∧ Q (.ref C) (some d) (upd (del H2 (hp.objs.size + 1)) d (.xd fs))) (fun _ _ _ => False) (hr.make C us []) (I2.env0.make C us []) (hb _ (Value.ref (hp.objs.size + 1) :: us) I2.kIn hl) (by rw [List.append_nil]; exact r2)
        ⟨_, y, rfl, upd_same, fun dx n ne => ?_⟩) fun r s' hq' => ?_))
    · rw [upd_ne ne] at n
      exact ⟨rfl, dx, _, upd_same, by rw [upd_ne ne, upd_same], n, by rw [eqH dx n ne]; exact q1 dx n⟩
    · cases r with
      | error er => exact hx pins σ _ _ er s' I2 hq'
      | ok fl =>
        cases fl with
        | ret u =>
          obtain ⟨v, H2, os2, bare2, un2, hok2, rv, ev, d, fs, ea, ed, hd1, q2⟩ := hq'
          subst ev
          obtain ⟨h2, g2, d2, t2, os'⟩ := s'
          exact ⟨rv, mk_end rs I1 hsz kk un2 hok2 os2 bare2 ea ed hd1 q2⟩
        | next => exact False.elim hq'
        | brk => exact False.elim hq'
        | cont => exact False.elim hq'
/-- raise C(e) -/
def sRaiseF (n fl : Str) (fa : EvE) : EvS := fun S => match fa S with
  | some (d, μ1) => some (.ex n (some (.exf n fl d)), { S with μ := μ1 })
  | none => none
theorem ds_raiseF {fa : EvE} {W : WX} {pos2 : Pos} {bmN : List Value} (hc : X.calm = true) (tk : Takes X W) (FB : ExcBaseFacts B newId initId bmN) (hB : PySem.DLX.Bm B bmB) (T : XCls X.K C bmB newId) (iC : PySem.W.findIn X.K (.ref C) "__init__" = some (some (.ref fI))) (tI : PySem.W.typeIn X.K (.ref fI) = some (.type "function"))
    (F1 : FnOk X.prog X.w X.K X.mg X.base CX k fI fd ps (spF X.K C fl)) (hr : Room (k + 1) X.A) (hb : Binds X.K fd ps []) (hx : Passes CX X (fun _ _ _ => False)) (rs : Raises X (.ref C)) (hg : Gl X x) (hm : X.mg x = some (.ref C)) (he : PE X e (tF X.K fa))
    (hdb : (x == ("__debug__" : Str)) = false := by decide) (hs : starEach [e] X.env = (false, eval e X.env) :: starEach [] X.env := by rfl) (hpl : (backTo pos (starEach [] X.env)).any (·.1) = false := by rfl) :
    PS X (.Raise (some (.Call (.Name x p) [e] [] pos)) none pos2) (tFS X.K X.mg W (sRaiseF x fl fa)) :=
  (ps_raise hc tk (pmk_exf FB hB T iC tI F1 hr hb hx rs hg hm he hdb hs hpl)).imp fun D σ H ⟨as, S, f, S', E, ed, q⟩ => by
    unfold sRaiseF at ed
    split at ed
    · rename_i d μ1 ea
      obtain ⟨rfl, rfl⟩ := pr_inj ed
      refine ⟨as, S, d, μ1, E, ea, fun v as1 H1 X1 r1 s1 dx hdx => ?_⟩
      have Y := Ext.new (o := .xd [(fl, v)]) hdx (s1.out hdx)
      exact q as1 σ _ (.ref C) (some dx) (X1.trans Y E.sto.trk) (E.mvE (X1.trans Y E.sto.trk) (s1.new hdx)) hm ⟨dx, v, rfl, upd_same, s1.out hdx, r1.mv Y⟩
    · cases ed
end
/-! the suite's expression -/
section
variable {X : Cx} {a C : Addr} {oe : Obj} {d : Option Addr} {pn : List (Addr × Obj)} {i : Nat} {nm n fl : Str} {p p1 p2 pos : Pos}
theorem pe_exHole (xq : XQ X.K C) (hno : PySem.W.findIn X.K (.ref C) fl = some none) (hz : Zc (.ref C) d oe) (hf : ∃ vs, oe.data = .fields vs) (hN : X.N[i]? = some nm) (hv : Vis X.env.scope nm) (hd : (nm == ("__debug__" : Str)) = false := by decide) (hcd : (nm == ("__classdict__" : Str)) = false := by decide)
    (hb : attributeBase (.Name nm p) fl X.env (eval (.Name nm p) X.env) = eval (.Name nm p) X.env := by rfl) :
    PE (X.suite a ((a, oe) :: pn)) (.Attribute (.Name nm p) fl pos) (fun σ H Q => σ[i]? = some (some (.ref a)) ∧ ∃ dd v, d = some dd ∧ H dd = some (.xd [(fl, v)]) ∧ Q v H) := by
  refine ⟨fun pins s σ H Q I ⟨h0, dd, v, ed, ea, q⟩ => ?_⟩
  have pv : PE (X.suite a ((a, oe) :: pn)) (.Name nm p) (tVar i) := pe_var hN hv hd hcd
  refine attr_of hb (thn (pv.run pins s σ H (fun x H1 => x = .ref a ∧ H1 = H) I ⟨.ref a, h0, rfl, rfl⟩) fun u s1 ⟨x, H1, I1, rx, ex, eH⟩ => ?_)
  subst ex eH ed
  obtain rfl : u = Value.ref a := rx
  obtain ⟨ha, _⟩ := I1.pin (a, oe) (List.mem_append_left _ List.mem_cons_self)
  obtain ⟨vs, hdt⟩ := hf
  obtain ⟨mA, hns, hr⟩ := (I1.hok dd _ ea : ObjOk X.prog X.w H1 s1.heap dd (.xd [(fl, v)]))
  obtain ⟨od, ho, hl⟩ := lookIn_ns hns
  obtain ⟨u, hu, ru⟩ := RelO.some_of (v := v) (o := mA fl) (by have z := hr fl; rw [show List.lookup fl [(fl, v)] = some v by simp [List.lookup]] at z; exact z)
  have J : PySem.W.InstAt s1.heap a oe C (some od) := ⟨ha, hz.1, by unfold PySem.W.notCls; rw [hdt] <;> rfl, by rw [hz.2]; exact ho⟩
  exact HandSPX.exc_get I1.kIn J xq.hg xq.hk xq.hs (PySem.W.findObj_own xq.hd hno rfl (by rw [hl, hu])) (handed_of ru) ⟨v, H1, I1.tok _, ru, q⟩
end
end DL
namespace DL
open PySem L2 PySem.Spec PyProof.Rows
section
variable {X : Cx} {a C : Addr} {oe : Obj} {d : Option Addr} {pn : List (Addr × Obj)} {i j : Nat} {nm n fl lit : Str} {p p1 p2 p3 p4 pos : Pos}
/-- an expression of the suite that speaks of the field alone -/
def tXE (K : PySem.W.Frag) (n fl : Str) (i : Nat) (a : Addr) (d : Option Addr) (r : D → List Cell → Option D) : TE := fun σ H Q => ∃ as μ x z, StoR K as H μ ∧ XR K as H d (some (.exf n fl x)) ∧ σ[i]? = some (some (.ref a)) ∧ r x μ = some z ∧ ∀ v as' H', Ext as H as' H' → Rep K as' H' v z → StoR K as' H' μ → Q v H'
/-- repr, of ints too -/
def dReprZ : D → List Cell → Option D
  | .int i, _ => if i.natAbs.log2 < 1920 then some (.str (toString i)) else none
  | x, μ => dReprR x μ
theorem call_reprZ (hgd : X.A.guards = some []) (hu : X.A.units + 64 < cLine) : CallR X (.builtin "repr") (rCD X.K (g1 dReprZ)) := fun pins s σ H xs us Q I r ⟨as, ds, μ, z, rd, sto, ez, q⟩ => by
  match ds, rd, ez with
  | [.int i], .cons rd .nil, ez =>
    have ez : dReprZ (.int i) μ = some z := ez
    unfold dReprZ at ez
    simp only at ez
    split at ez
    · rename_i hz
      cases Option.some.inj ez
      cases rd
      exact SkE.call_repr_int pins s σ H _ us Q I r ⟨_, rfl, hz, q _ H .refl (.str _) sto⟩
    · cases ez
  | [.bl b], rd, ez => exact call_reprRD hgd hu pins s σ H xs us Q I r ⟨as, _, μ, z, rd, sto, ez, q⟩
  | [.lst b], rd, ez => exact call_reprRD hgd hu pins s σ H xs us Q I r ⟨as, _, μ, z, rd, sto, ez, q⟩
  | [.tup b], rd, ez => exact call_reprRD hgd hu pins s σ H xs us Q I r ⟨as, _, μ, z, rd, sto, ez, q⟩
  | [.non], rd, ez => cases ez
  | [.str _], rd, ez => cases ez
  | [.rl _], rd, ez => cases ez
  | [.dct _], rd, ez => cases ez
  | [.h _], rd, ez => cases ez
  | [.ty _], rd, ez => cases ez
  | [.exc _], rd, ez => cases ez
  | [.exf _ _ _], rd, ez => cases ez
  | [.cls _], rd, ez => cases ez
  | [], rd, ez => cases ez
  | _ :: _ :: _, rd, ez => cases ez
def rReprIs (lit : Str) : D → List Cell → Option D := fun x μ => (dReprZ x μ).bind fun y => dEqW y (.str lit) μ
theorem de_reprIs (hgd : X.A.guards = some []) (hu : X.A.units + 64 < cLine) (xq : XQ X.K C) (hno : PySem.W.findIn X.K (.ref C) fl = some none) (hz : Zc (.ref C) d oe) (hf : ∃ vs, oe.data = .fields vs) (hN : X.N[i]? = some nm) (hv : Vis X.env.scope nm)
    (hg : Gl X "repr") (hm : X.mg "repr" = none) (hd : (nm == ("__debug__" : Str)) = false := by decide) (hcd : (nm == ("__classdict__" : Str)) = false := by decide)
    (hb : attributeBase (.Name nm p) fl X.env (eval (.Name nm p) X.env) = eval (.Name nm p) X.env := by rfl) (he : starEach [.Attribute (.Name nm p) fl pos] X.env = (false, eval (.Attribute (.Name nm p) fl pos) X.env) :: starEach [] X.env := by rfl) (hpl : (backTo p2 (starEach [] X.env)).any (·.1) = false := by rfl) :
    PE (X.suite a ((a, oe) :: pn)) (.Compare (.Call (.Name "repr" p1) [.Attribute (.Name nm p) fl pos] [] p2) [.Eq] [.Constant (.str lit) j p3] p4) (tXE X.K n fl i a d (rReprIs lit)) :=
  (pe_cmpR (X := X.suite a ((a, oe) :: pn)) (op_eqW hu) (pe_callB (X := X.suite a ((a, oe) :: pn)) (call_reprZ hgd hu) hg hm (by decide +kernel) (pa_cons (pe_exHole xq hno hz hf hN hv hd hcd hb) pa_nil he) (by decide) (by decide) he hpl) pe_str (nomark _)).imp fun σ H Q ⟨as, μ, x, z, sto, xr, h0, ez, q⟩ => by
    obtain ⟨dd, v, ed, hdd, ho, rv⟩ := xr
    obtain ⟨y, ey, ez⟩ := Option.bind_eq_some_iff.mp ez
    refine ⟨h0, dd, v, ed, hdd, ?_⟩
    exact ⟨as, [x], μ, y, .cons rv .nil, sto, ey, fun w H1 X1 r1 s1 => ⟨as, y, .str lit, μ, z, r1, .str _, s1, ez, fun v' H2 X2 r2 s2 => q v' as H2 (X1.trans X2 sto.trk) r2 s2⟩⟩
end
section
open LamX
variable {X : Cx}
/-- y(lambda: body), y's body: try: a() / except e as n: return r(n's field) / return d -/
def fMetR (j : Nat) (x q : Str) (h : Str → Option Bool) (fl : Str) (d : D) (r : D → List Cell → Option D) (f : EvX) : EvE := fun S => match S.μ[j]? with
  | some (.tab x' q') => if x' = x ∧ q' = q then match f S with
    | some (.v _, μ1) => some (d, μ1)
    | some (.x n (some (.exf _ fl' z)), μ1) => if h n = some true ∧ fl' = fl then (r z μ1).map fun y => (y, μ1) else none
    | _ => none
    else none
  | _ => none
theorem takes_len {Y : Cx} {W : WX} (tk : Takes Y W) : Takes Y (fun cls d σ H => σ.length = Y.N.length → W cls d σ H) := fun u s' ⟨a, B, sI, pins, σ, H, cls, d, e, I, nb, up, sky, na, os, ag, w⟩ =>
  tk u s' ⟨a, B, sI, pins, σ, H, cls, d, e, I, nb, up, sky, na, os, ag, w I.len⟩
theorem de_metR {st : Stmt} {g c P CS : Addr} {fd : FuncData} {Ng : List Str} {y a x q en nm fl lit : Str} {params : Arguments} {body er2 : Expr} {scope : Scope} {lpos pos p p1 p2 p3 p4 p6 p7 p8 p9 p10 p11 p12 p13 p14 p15 : Pos} {j2 j k : Nat} {h : Str → Option Bool} {w : V} {d : D} {f : EvX}
    (Fu : Fun X.K y y st g fd) (Sg : FnScope Ng [a] (defScope st)) (hB : ∀ (kV doc pm : Value) (an : Option Addr) (cdv ct : Value) (us : List Value), us.length = [a].length → bindArgs (PySem.W.fnOf y y (defArgs st) (defBody st) (defScope st) .none kV doc pm an cdv ct) ⟨us, []⟩ = pure ([a].zip us))
    (hbd : defBody st = [.Try [.Expr (.Call (.Name a p1) [] [] p2) p3] [.ExceptHandler (some (.Name en p4)) (some nm) [.Return (some (.Compare (.Call (.Name "repr" p9) [.Attribute (.Name nm p10) fl p11] [] p12) [.Eq] [.Constant (.str lit) j2 p13] p14)) p6] p7] [] [] p8, .Return (some er2) p15])
    (hNg : Ng = [a, nm]) (hne : a ≠ nm) (hv : Vis (defScope st) a) (hl1 : (defScope st).names.lookup nm = some .local) (hge : (defScope st).names.lookup en = some .globalImplicit) (hgr : (defScope st).names.lookup ("repr" : Str) = some .globalImplicit) (hmr : X.mg "repr" = none) (hme : X.mg en = some (.ref CS))
    (hsw : ∀ env : Env, swapsWith (.Call (.Name a p1) [] [] p2) none p3.line env = pure false) (hat : ∀ env : Env, attributeBase (.Name nm p10) fl env (eval (.Name nm p10) env) = eval (.Name nm p10) env)
    (hh : ∀ n C, h n = some true → X.mg n = some C → C = .ref CS) (hex : PySem.W.exmOne X.K (.ref CS) (.ref CS) = some true) (xq : XQ X.K CS) (hno : PySem.W.findIn X.K (.ref CS) fl = some none) 
    (her : ∀ Z : Cx, PE Z er2 (tC w)) (rw' : ∀ as H, Rep X.K as H w d)
    (hg : Gl X y) (hm : X.mg y = some (.ref g)) (TB : TabB X.base X.mg c P) (ht : PySem.W.tabIn X.K x = some (c, P)) (hcode : X.env.code = .ref c) (hq : X.env.qual ++ "<lambda>" = q) (hr : Room (k + 2) X.A) (hgd : X.A.guards = some []) (L : LamS X.env.scope scope) (nd : defaultsOf params X.env = ([], []))
    (nob : ∀ (cl : List (Str × Addr)) (pm cv ctv : Value), bindArgs (PySem.W.kla_fn "<lambda>" q params body scope cl pm cv ctv) ⟨[], []⟩ = pure [])
    (hbody : ∀ (A : Around) (outer : List Env) (s1 : Shared) (H1 : Hp) (E : XK) (f1 c' : Addr), Room k (A.deeper (lamEnv X scope s1.heap.objs.size f1 c')) → A.guards = some [] → PE (lamCx X A outer s1 H1 E scope f1 c') body (tFX X.K X.mg (fun cls d _ H => E cls d H) f))
    (hdb : (y == ("__debug__" : Str)) = false := by decide) (hd : (a == ("__debug__" : Str)) = false := by decide) (hcd : (a == ("__classdict__" : Str)) = false := by decide) (hde : (en == ("__debug__" : Str)) = false := by decide) (hd1 : (nm == ("__debug__" : Str)) = false := by decide) (hcd1 : (nm == ("__classdict__" : Str)) = false := by decide) :
    PE X (.Call (.Name y p) [.Lambda params body scope lpos] [] pos) (tF X.K (fMetR j x q h fl d (rReprIs lit) f)) := by
  subst hNg
  refine ⟨fun pins s σ H Q I ⟨as, S, z, μ', E, ed, qq⟩ => ?_⟩
  unfold fMetR at ed
  split at ed
  rotate_left
  · cases ed
  rename_i x' q' em
  split at ed
  rotate_left
  · cases ed
  rename_i hx
  obtain ⟨rfl, rfl⟩ := hx
  have hj : j < as.c.length := by rw [E.sto.len]; exact (List.getElem?_eq_some_iff.mp em).1
  obtain ⟨P', hP'⟩ : ∃ P', as.c[j]? = some P' := ⟨_, List.getElem?_eq_getElem hj⟩
  obtain ⟨c0, ps, t1, t2, t3, t4⟩ := E.sto.at_ j P' _ hP' em
  obtain ⟨rfl, rfl⟩ := pr_inj (t1.symm.trans ht)
  obtain ⟨oc, od, kV, doc, pm, an, cdv, ct, osl, rfl, lk, hcg⟩ := Fu.ex
  refine wpAny_Call_Name_kw (ld_glob I hg hm ?_ hdb)
  refine PySem.W.callWith_K (h₀ := X.base) I.ok.mod.kin Fu.kp ?_ (by rfl) (by rfl)
  show wpAny _ _ (spliced ((false, eval (.Lambda params body scope lpos) X.env) :: backTo pos (starEach [] X.env))) _ _ s
  refine Calls.spliced_cons (lam_new I TB hcode hq t2 t3 (fun pp cv w => let ⟨e, e1, e2, _⟩ := t4 pp cv w; ⟨e, e1, e2⟩) nd (L.has I.ok) fun f1 c' pm' ctv H1 s' I1 LA hf nf of => ?_)
  obtain ⟨X1, s1, hco⟩ := LA.sto E.sto hP' em t2
  have E1 : ER X.K as σ H1 S := ⟨E.env.mv X1, s1⟩
  refine Calls.spliced_nil ⟨I1.kIn, ?_⟩
  refine wpAny_call (codeAny_mono (run_ofS (CX := C8.CX0) (E := C8.E0) (N := [a, nm]) (ps := [a]) (us := [.ref f1]) (vs := [.ref f1]) (Q := Q) lk hcg Sg hr I1.env0 ((Fu.binds hB) s' [.ref f1] I1.kIn rfl) (.cons rfl .nil) rfl fun hr' => ?_) fun r s2 rr => ?_)
  · rw [hbd]
    refine ⟨_, (pss_cons (ps_try_as (X := (cxOf C8.CX0 X.prog X.w X.K X.mg X.base [a, nm] y (defScope st) g cdv X.A X.stack s' H1 C8.E0).nox) (c := .ref CS) (i := 1)
      (tb := fun W D σ2 H2 => ∃ Ech : XK, (∀ cls d σ' H', Ech cls d H' → σ'.length = 2 → W cls d σ' H') ∧ σ2[0]? = some (some (.ref f1)) ∧ H2 c' = some (CodeO c' (X.env.qual ++ "<lambda>")) ∧ tFX X.K X.mg (fun cls d _ H => Ech cls d H) f σ H2 (fun _ H3 => D.nx σ2 H3))
      (ts := fun a cls d D σ H => cls = .ref CS ∧ ∃ n, tXE X.K n fl 1 a d (rReprIs lit) σ H D.rt)
      rfl rfl (by show [a, nm].Nodup; simpa using hne) rfl hl1 ⟨hge, hde, .inl hme⟩ takes0 (fun W pn xe tk _ => ?_) (fun a9 oe cls d9 pn hz hf => ?_)) (pss_one (ps_ret (her _)))).nox, ?_⟩
    · refine ⟨fun pins2 s2 σ2 H2 D I2 ⟨Ech, hW, h1, h2, h3⟩ => ?_⟩
      exact (pss_one (ps_expr (pos := p3) (act_any (k := k) (tb := tFX X.K X.mg (fun cls d _ H => Ech cls d H) f) (p1 := p1) (p2 := p2) (W := fun cls d σ H => σ.length = 2 → W cls d σ H) I1 L rfl (hq ▸ hf) nf of (by rw [hq]; exact nob) (takes_len tk) hW hr' hgd rfl hv hd hcd fun A outer s3 H3 r3 g3 => hbody A outer s3 H3 Ech f1 c' r3 g3) (hsw _))).run pins2 s2 σ2 H2 D I2 ⟨h1, h2, h3⟩
    · refine ⟨fun pins2 s2 σ2 H2 D I2 ⟨ec, n, h1⟩ => ?_⟩
      subst ec
      exact (pss_one (ps_ret (de_reprIs (X := (cxOf C8.CX0 X.prog X.w X.K X.mg X.base [a, nm] y (defScope st) g cdv X.A X.stack s' H1 C8.E0).nox) (n := n) (i := 1) hgd hr'.units xq hno hz hf rfl (.inl hl1) hgr hmr hd1 hcd1 (hat _)))).run pins2 s2 σ2 H2 D I2 h1
    · have h0 : (L2.start [a, nm] [V.ref f1])[0]? = some (some (V.ref f1)) := rfl
      split at ed
      · rename_i y0 μ1 ef
        obtain ⟨rfl, rfl⟩ := pr_inj ed
        exact ⟨fun _ _ _ => False, fun cls d σ' H' z => z.elim, h0, by rw [hq]; exact hco, as, S, .v y0, μ1, E1, ef, fun v as2 H2 X2 r2 s2 => qq w as2 H2 (X1.trans X2 E.sto.trk) (rw' _ _) s2⟩
      · rename_i n n' fl' z0 μ1 ef
        split at ed
        · rename_i hn
          obtain ⟨hn, rfl⟩ := hn
          obtain ⟨y0, ey, ed⟩ := Option.map_eq_some_iff.mp ed
          obtain ⟨rfl, rfl⟩ := Prod.mk.inj ed
          exact ⟨fun cls d H' => cls = .ref CS ∧ ∃ as', StoR X.K as' H' μ1 ∧ XR X.K as' H' d (some (.exf n' fl' z0)) ∧ ∀ v as2 H2, Ext as' H' as2 H2 → Rep X.K as2 H2 v y0 → StoR X.K as2 H2 μ1 → Q v H2,
            fun cls d σ' H' ⟨e1, as', e2, e3, e4⟩ hl => ⟨true, by rw [e1]; exact hex, fun _ a0 _ => ⟨e1, n', as', μ1, z0, y0, e2, e3, List.getElem?_set_self (by rw [hl]; decide), ey, fun v as2 H2 X2 r2 s2 => e4 v as2 H2 X2 r2 s2⟩, fun z => nomatch z⟩, h0, by rw [hq]; exact hco, as, S, .x n (some (.exf n' fl' z0)), μ1, E1, ef,
            fun as2 H2 C dx X2 s2 ec xr => ⟨hh n C hn ec, as2, s2, xr, fun v as3 H3 X3 r3 s3 => qq v as3 H3 (X1.trans (X2.trans X3 s1.trk) E.sto.trk) r3 s3⟩⟩
        · cases ed
      · cases ed
  · cases r with
    | error e => exact (show False from rr).elim
    | ok fl => cases fl with
      | ret u => exact I1.after rr
      | _ => exact False.elim rr
end
end DL
namespace DLN
open PySem PySem.SeqAt GQ
open AutoSeq1 (wpAny_loadPart')
open MeetsSeq MeetsSeq2 MeetsSeq3 SeqRoads2
/-! ### != of lists of objects, which are equal one by one -/
section
variable {prog : Program} {w : World} {A : Around} {R : Result → Shared → Prop}
theorem ne_turns {l b : Addr} {N : Nat} {I : Nat → Shared → Prop} (hl : ListI prog w A (fun e t => R (.error e) t) l b N I) (fin : ∀ t, I N t → R (.ok (.ret (.bool false))) t) : ∀ (k i : Nat), i + k = N → ∀ t, I i t →
    wpAny (model prog w) A.in1 (Builtin.«list.__eq__.loop» ⟨[.ref l, .ref b, rawInt i, rawInt 3], []⟩) (FinOf prog w A R) (fun e t => R (.error e) t) t
  | 0, i, e, t, q => by
    obtain ⟨xs, ys, n1, n2, g1, g2, z1, z2, _⟩ := hl _ _ q
    obtain rfl : i = N := by omega
    have f := fin t q
    have o1 : xs[((i : Nat) : Int).toNat]? = none := by simp; omega
    have o2 : ys[((i : Nat) : Int).toNat]? = none := by simp; omega
    obtain ⟨h0, gg, dd, tt, oo⟩ := t
    wp_walk using wpAny_loadPart' g1, wpAny_loadPart' g2
    rw [o1, o2]
    wp_walk using wpAny_loadPart' g1, wpAny_loadPart' g2
    show R (.ok (.ret (.bool (xs.size != ys.size)))) _
    rw [z1, z2, bne_self_eq_false]
    exact f
  | k + 1, i, e, t, q => by
    obtain ⟨xs, ys, n1, n2, g1, g2, z1, z2, turn⟩ := hl _ _ q
    have b1 : i < xs.size := by omega
    have b2 : i < ys.size := by omega
    have one := turn b1 b2
    have o1 : xs[((i : Nat) : Int).toNat]? = some xs[i] := by simp [b1]
    have o2 : ys[((i : Nat) : Int).toNat]? = some ys[i] := by simp [b2]
    have o3 : ((i : Int) + 1) = ((i + 1 : Nat) : Int) := rfl
    have rest := ne_turns hl fin k (i + 1) (by omega)
    obtain ⟨h0, gg, dd, tt, oo⟩ := t
    wp_walk using wpAny_loadPart' g1, wpAny_loadPart' g2
    rw [o1, o2]
    refine wpAny_bind (wpAny_mono one (fun r t2 ⟨er, q2⟩ => ?_) fun _ _ z => z)
    cases er
    have rest := rest t2 q2
    obtain ⟨h3, gg3, dd3, tt3, oo3⟩ := t2
    wp_walk
    rw [o3]
    refine ⟨plainId_quiet plain_eq_loop _, codeAny_builtin entry_eq_loop ?_⟩
    rw [Around.under_plainId plain_eq_loop _]
    exact rest
theorem list_neL {l b : Addr} {N : Nat} {I : Nat → Shared → Prop} (hl : ListI prog w A (fun e t => R (.error e) t) l b N I) (fin : ∀ t, I N t → R (.ok (.ret (.bool false))) t) {t : Shared} (q : I 0 t) :
    wpAny (model prog w) A.in1 (Builtin.«list.__ne__» ⟨[.ref l, .ref b], []⟩) (FinOf prog w A R) (fun e t => R (.error e) t) t := by
  obtain ⟨xs, ys, n1, n2, g1, g2, z1, z2, _⟩ := hl _ _ q
  have all := ne_turns hl fin N 0 (Nat.zero_add N) t q
  obtain ⟨h0, gg, dd, tt, oo⟩ := t
  have f3 := AutoSeq1.sub_list_list
  have same : ¬ (xs.size != ys.size) = true := by simp [z1, z2]
  wp_walk using wpAny_loadPart' g1, wpAny_loadPart' g2
  refine ⟨plainId_quiet plain_eq_loop _, codeAny_builtin entry_eq_loop ?_⟩
  rw [Around.under_plainId plain_eq_loop _]
  exact all
end
section
variable {prog : Program} {w : World} {A : Around} {E : Value → Shared → Prop} {s : Shared}
theorem rc_listNe {l b : Addr} {N : Nat} {Q : Value → Shared → Prop} (hu : A.units < cLine) (I : Nat → Shared → Prop) (hl : ListI prog w A E l b N I) (fin : ∀ t, I N t → Q (.bool false) t) (q : I 0 s) :
    wpAny (model prog w) A (richCompare .NotEq (.ref l) (.ref b)) Q E s := by
  obtain ⟨xs, ys, n1, n2, g1, g2, _⟩ := hl _ _ q
  refine wpAny_richCompare_same_room (op := .NotEq) ⟨_, g1, rfl⟩ ⟨_, g2, rfl⟩ F.slot_list_ne (call_here F.slot_list_ne ⟨_, g1, rfl⟩ F.entry_list_ne (F.args_list_ne_2 _ _) ?_) hu
  exact list_neL (R := wants (fun v t => v ≠ .notImplemented ∧ Q v t) E) hl (fun t z => ⟨nofun, fin t z⟩) q
end
end DLN
namespace DL
open PySem L2 PySem.Spec PyProof.Rows
section
variable {X : Cx} {k : Nat} {f C : Addr} {F : FnF}
open Classical in
noncomputable def gNeL (nm : Str) (F : FnF) : GX := fun x y μ => match x, y with
  | .lst xs, .lst ys => if xs.length = ys.length ∧ ∀ (i : Nat) (x y : D), xs[i]? = some x → ys[i]? = some y → EqP nm F μ x y then some (.bl false, μ) else none
  | _, _ => none
theorem gNeL_out {nm : Str} {x y z : D} {μ μ' : List Cell} (e : gNeL nm F x y μ = some (z, μ')) : ∃ xs ys, x = .lst xs ∧ y = .lst ys ∧ z = .bl false ∧ μ' = μ ∧ xs.length = ys.length ∧ ∀ (i : Nat) (x y : D), xs[i]? = some x → ys[i]? = some y → EqP nm F μ x y := by
  unfold gNeL at e
  split at e
  · split at e
    · rename_i h
      obtain ⟨rfl, rfl⟩ := pr_inj e
      exact ⟨_, _, rfl, rfl, rfl, rfl, h.1, h.2⟩
    · cases e
  · cases e
theorem gNeL_bl {nm : Str} {F : FnF} : ∀ x y μ z μ', gNeL nm F x y μ = some (z, μ') → ∃ k, z = .bl k := fun x y μ z μ' e => by
  obtain ⟨_, _, _, _, rfl, _⟩ := gNeL_out e
  exact ⟨_, rfl⟩
theorem op_neLO {nm : Str} (hc : PySem.W.nsIn X.K mainGlobals nm = some (some (.ref C))) (hs : PySem.W.findIn X.K (.ref C) "__eq__" = some (some (.ref f))) (hf : PySem.W.isFn X.K (.ref f) = true) (G : FR X.prog X.w X.K X.mg X.base k f F) (hr : Room (k + 1) X.A) (hgd : X.A.guards = some []) :
    OpR X (compareOp .NotEq) (rDM X.K (gNeL nm F)) := by
  intro pins s σ H x y v u Q I rx ry ⟨as, d, e, μ, z, μ', rd, re, sto, ez, q⟩
  obtain ⟨xs, ys, rfl, rfl, rfl, rfl, hl, hp⟩ := gNeL_out ez
  cases rd with
  | @lst a vs _ ha oa ra =>
  cases re with
  | @lst b ws _ hb ob rb =>
  obtain rfl : v = Value.ref a := rx
  obtain rfl : u = Value.ref b := ry
  show wpAny (model X.prog X.w) X.A (richCompare .NotEq (.ref a) (.ref b)) (EP X pins σ Q) X.xe s
  refine DLN.rc_listNe (N := vs.length) hr.units0 (fun _ s' => ∃ as' H', Inv X pins σ H' s' ∧ Ext as H as' H' ∧ StoR X.K as' H' μ') (fun i s' h' => ?_) (fun s' ⟨as', H', I', X', st'⟩ => ⟨.bl false, H', I', rfl, q _ as' H' X' (.bl false) st'⟩) ⟨as, H, I, .refl, sto⟩
  obtain ⟨as1, H1, I1, X1, st1⟩ := h'
  have ha1 := X1.old a _ oa.1 ha
  have hb1 := X1.old b _ ob.1 hb
  obtain ⟨z, its, n1, r1, e1⟩ := I1.hok a _ ha1
  obtain ⟨z2, its2, n2, r2, e2⟩ := I1.hok b _ hb1
  have l1 := ra.length
  have l2 := rb.length
  refine ⟨its.toArray, its2.toArray, n1, n2, e1, e2, by rw [List.size_toArray, ← r1.length], by rw [List.size_toArray, ← r2.length]; omega, fun h1 h2 => ?_⟩
  have g1 : its[i]? = some its.toArray[i] := by
    have h1' : i < its.length := by simpa using h1
    rw [List.getElem?_eq_getElem h1']; simp
  have g2 : its2[i]? = some its2.toArray[i] := by
    have h2' : i < its2.length := by simpa using h2
    rw [List.getElem?_eq_getElem h2']; simp
  have k1 : i < vs.length := by rw [r1.length]; simpa using h1
  have k2 : i < ws.length := by rw [r2.length]; simpa using h2
  obtain ⟨u1, hu1, ru1⟩ := r1.get (List.getElem?_eq_getElem k1)
  obtain ⟨v1, hv1, rv1⟩ := r2.get (List.getElem?_eq_getElem k2)
  rw [g1] at hu1
  rw [g2] at hv1
  obtain ⟨d1, ed1, rd1⟩ := (ra.mv X1).getV (List.getElem?_eq_getElem k1)
  obtain ⟨d2, ed2, rd2⟩ := (rb.mv X1).getV (List.getElem?_eq_getElem k2)
  rw [Option.some.inj hu1, Option.some.inj hv1]
  refine wpAny_mono (own_eqA (A := X.A.in1) rfl hc hs hf G hr.in1 hgd I1 ru1 rv1 rd1 rd2 st1 (hp i d1 d2 ed1 ed2)) (fun r s2 ⟨hr2, as2, H2, I2, X2, st2⟩ => ⟨hr2, as2, H2, I2, X1.trans X2 sto.trk, st2⟩) fun _ _ x => x

end
end DL
namespace G
open PySem L2 DL
def topS (i : Nat) : Stmt := PySem.Challenge.pw_deepenough_k05_sets_moved.main.body.getD i (.Pass ⟨0, 0, 0, 0⟩)
def ns_PRIMES : List Int := [2, 3, 5, 7, 11, 13, 17, 19, 23, 29, 31, 37, 41, 43]
abbrev vs_PRIMES : List V := ns_PRIMES.map V.int
abbrev ds_PRIMES : List D := ns_PRIMES.map D.int
theorem rs_PRIMES {K : PySem.W.Frag} : ∀ (as : Ar) (H : Hp), Reps K as H vs_PRIMES ds_PRIMES := fun _ _ => Reps.ints
def tabP : String → Option Bool := fun T => if T = "NoneType" ∨ T = "str" ∨ T = "tuple" ∨ T = "int" ∨ T = "bool" ∨ T = "list" ∨ T = "dict" then some false else none
structure Txt (mg : Str → Option Value) : Prop where
  n_abs : mg "abs" = none
  n_int : mg "int" = none
  n_isinstance : mg "isinstance" = none
  n_len : mg "len" = none
  n_max : mg "max" = none
  n_min : mg "min" = none
  n_range : mg "range" = none
  n_repr : mg "repr" = none
  n_sum : mg "sum" = none
  n_tuple : mg "tuple" = none
  n_type : mg "type" = none
  b_lcm : mg "lcm" = some (.builtin "math.lcm")
  c_LARGEST : ∃ t, mg "LARGEST" = some (.int 2000 t)
  c_MOST_MEMBERS : ∃ t, mg "MOST_MEMBERS" = some (.int 1000 t)
def clsS (s : Stmt) : Stmt := match s with
  | .ClassDef (body := b) .. => b.getD 0 (.Pass ⟨0, 0, 0, 0⟩)
  | _ => .Pass ⟨0, 0, 0, 0⟩
abbrev si_TooMany : Stmt := clsS (topS 10)
def hTooMany : Str → Option Bool := fun n => if n = "TooMany" then some true else none
abbrev s__law_is_refused : Stmt := topS 37
abbrev N__law_is_refused : List Str := ["call", "error"]
theorem sc__law_is_refused : FnScope N__law_is_refused ["call"] (defScope s__law_is_refused) := ⟨rfl, rfl, rfl, by decide +kernel, rfl, by decide +kernel, by decide +kernel⟩
theorem hB__law_is_refused : ∀ (kV doc pm : Value) (an : Option Addr) (cdv ct : Value) (us : List Value), us.length = (["call"] : List Str).length → bindArgs (PySem.W.fnOf "_law_is_refused" "_law_is_refused" (defArgs s__law_is_refused) (defBody s__law_is_refused) (defScope s__law_is_refused) .none kV doc pm an cdv ct) ⟨us, []⟩ = pure ((["call"] : List Str).zip us) := fun _ _ _ _ _ _ us hl => match us, hl with | [_], _ => rfl
structure Ad where
  c_Limits : Addr
  f_Limits_init : Addr
  f_Limits_moved : Addr
  f_Limits_contains : Addr
  f_Limits_and : Addr
  f_Limits_since : Addr
  f_Limits_eq : Addr
  f_Limits_only : Addr
  f_Limits_every : Addr
  f_Limits_none : Addr
  p_Limits_since : Addr
  p_Limits_only : Addr
  p_Limits_every : Addr
  p_Limits_none : Addr
  t_PRIMES : Addr
  c_TooMany : Addr
  i_TooMany : Addr
  f_met : Addr
  d_Limits_init : FuncData
  d_Limits_moved : FuncData
  d_Limits_contains : FuncData
  d_Limits_and : FuncData
  d_Limits_since : FuncData
  d_Limits_eq : FuncData
  d_Limits_only : FuncData
  d_Limits_every : FuncData
  d_Limits_none : FuncData
  d_TooMany : FuncData
  d_met : FuncData
  mc_Limits : Value
structure TC (P : Program) (w : World) (K : PySem.W.Frag) (mg : Str → Option Value) (base : Heap) (a : Ad) : Prop where
  ns_Limits : PySem.W.nsIn K mainGlobals "Limits" = some (some (.ref a.c_Limits))
  m_Limits : mg "Limits" = some (.ref a.c_Limits)
  mk_Limits : Mk K a.c_Limits a.f_Limits_init
  cl_Limits : Cls K a.c_Limits
  cr_Limits : ClX.CRead K a.c_Limits a.mc_Limits
  me_Limits_moved : Meth K a.c_Limits "moved" a.f_Limits_moved
  s_Limits_contains : PySem.W.findIn K (.ref a.c_Limits) "__contains__" = some (some (.ref a.f_Limits_contains))
  i_Limits_contains : PySem.W.isFn K (.ref a.f_Limits_contains) = true
  s_Limits_and : PySem.W.findIn K (.ref a.c_Limits) "__and__" = some (some (.ref a.f_Limits_and))
  i_Limits_and : PySem.W.isFn K (.ref a.f_Limits_and) = true
  cm_Limits_since : ClX.CMet K a.c_Limits a.mc_Limits "since" a.p_Limits_since a.f_Limits_since
  s_Limits_eq : PySem.W.findIn K (.ref a.c_Limits) "__eq__" = some (some (.ref a.f_Limits_eq))
  i_Limits_eq : PySem.W.isFn K (.ref a.f_Limits_eq) = true
  ne_Limits : PySem.W.findIn K (.ref a.c_Limits) "__ne__" = some (some (.builtin "object.__ne__"))
  mr_Limits : PySem.W.mroIn K a.c_Limits (.type "object") = some true
  cm_Limits_only : ClX.CMet K a.c_Limits a.mc_Limits "only" a.p_Limits_only a.f_Limits_only
  cm_Limits_every : ClX.CMet K a.c_Limits a.mc_Limits "every" a.p_Limits_every a.f_Limits_every
  cm_Limits_none : ClX.CMet K a.c_Limits a.mc_Limits "none" a.p_Limits_none a.f_Limits_none
  fld__cycle : FldOk K ["Limits"] "_cycle"
  fld__span : FldOk K ["Limits"] "_span"
  fld__early : FldOk K ["Limits"] "_early"
  fld__low : FldOk K ["Limits"] "_low"
  fld__few : FldOk K ["Limits"] "_few"
  fld__rests : FldOk K ["Limits"] "_rests"
  m_PRIMES : mg "PRIMES" = some (.ref a.t_PRIMES)
  t_PRIMES : ∀ H' : Hp, SqT K H' a.t_PRIMES vs_PRIMES
  sf_Limits : PySem.W.selfFirst K a.c_Limits = true
  ic_Limits : C8.InsC K a.c_Limits
  kt_Limits : ∀ T b, tabP T = some b → PySem.W.kitOne K (.type T) (.ref a.c_Limits) = some b
  m_TooMany : mg "TooMany" = some (.ref a.c_TooMany)
  x_TooMany : XCls K a.c_TooMany [.type "OverflowError", .type "ArithmeticError", .type "Exception", .type "BaseException", .type "object"] "OverflowError.__new__"
  j_TooMany : PySem.W.findIn K (.ref a.c_TooMany) "__init__" = some (some (.ref a.i_TooMany))
  t_TooMany : PySem.W.typeIn K (.ref a.i_TooMany) = some (.type "function")
  f_TooMany : FnOk P w K mg base CX0 1 a.i_TooMany a.d_TooMany ["self", "limit"] (spF K a.c_TooMany "limit")
  b_TooMany : Binds K a.d_TooMany ["self", "limit"] []
  sb_TooMany : PySem.W.subIn K (.ref a.c_TooMany) (.type "BaseException") = some true
  sy_TooMany : PySem.W.typeIn K (.ref a.c_TooMany) = some (.type "type")
  xq_TooMany : XQ K a.c_TooMany
  no_TooMany : PySem.W.findIn K (.ref a.c_TooMany) "limit" = some none
  hh : ∀ (n : Str) (C : Value), hTooMany n = some true → mg n = some C → C = .ref a.c_TooMany
  hex : PySem.W.exmOne K (.ref a.c_TooMany) (.ref a.c_TooMany) = some true
  mm : mg "_law_is_refused" = some (.ref a.f_met)
  fu_met : Fun K "_law_is_refused" "_law_is_refused" s__law_is_refused a.f_met a.d_met
section
variable {P : Program} {w : World} {K : PySem.W.Frag} {mg : Str → Option Value} {base : Heap} {a : Ad}
/-! _law_urn -/
abbrev s__law_urn : Stmt := topS 31
abbrev N__law_urn : List Str := ["script", "spot", "cell", "great", "seed"]
theorem sc__law_urn : FnScope N__law_urn ((["script", "spot"] : List Str)) (defScope s__law_urn) := ⟨rfl, rfl, rfl, by decide +kernel, rfl, by decide +kernel, by decide +kernel⟩
def g__law_urn : EvS :=
  (sSeq (bThen (bName 2) (fIfE (fTru (fB dLtA (fV 1) (fApp (g1 dLen) (fCons (fV 0) fNil)))) (fB dIx (fV 0) (fV 1)) (fB dAddA (fB dMulA (fC (.int 71)) (fV 1)) (fC (.int 29)))))
  (sSeq (bThen (bName 3) (fB (dII gMod) (fApp (g1 dInt1) (fCons (fApp (g1 dAbs) (fCons (fV 2) fNil)) fNil)) (fB (dII gPow) (fB (dII gPow) (fC (.int 10)) (fC (.int 59))) (fC (.int 10)))))
  (sSeq (bThen (bName 4) (fB (dII gMod) (fApp (g1 dInt1) (fCons (fB dAddA (fB dAddA (fB dAddA (fB dMulA (fV 3) (fC (.int 1000193))) (fB dMulA (fC (.int 9176)) (fV 1))) (fB dMulA (fC (.int 37)) (fApp (g1 dInt1) (fCons (fB dLtA (fV 2) (fC (.int 0))) fNil)))) (fC (.int 11))) fNil)) (fC (.int 1152921504606846803))))
  (sRet (fNewC (fCons (fApp (g2 dMax2) (fCons (fC (.int 0)) (fCons (fB (dII gSub) (fV 3) (fB (dII gPow) (fC (.int 10)) (fC (.int 15)))) fNil))) (fCons (fV 4) (fCons (fC (.int 0)) fNil))))))))
def F__law_urn : FnF := fnF 2 5 g__law_urn
theorem ok__law_urn {f : Addr} {fd : FuncData} (Fu : Fun K "_law_urn" "_law_urn" s__law_urn f fd) (T : Txt mg) (CF : TC P w K mg base a) : FG P w K mg base 1 f fd 2 F__law_urn :=
  fg_def (k := 0) Fu sc__law_urn (fun _ _ _ _ _ _ us hl => match us, hl with | [_, _], _ => rfl) fun cdv A stk s H E hr hgd =>
      (dss_cons (ds_set (i := 2) sc__law_urn.nd rfl (by first | exact .inl rfl | exact .inr rfl) (de_ifE (dt_cmp (op_ltAD hr.units0) (de_var 1) (de_callB call_lenD rfl T.n_len (by decide +kernel) (da_cons (de_var 0) da_nil)) (nomark _) dLtA_bl) (de_ix ix_D (de_var 0) (de_var 1)) (de_bin op_addAD (de_bin op_mulAD de_int (de_var 1)) de_int)))
      (dss_cons (ds_set (i := 3) sc__law_urn.nd rfl (by first | exact .inl rfl | exact .inr rfl) (de_bin op_modD (de_callTy call_intD rfl T.n_int (by decide +kernel) (da_cons (de_callB call_absD rfl T.n_abs (by decide +kernel) (da_cons (de_var 2) da_nil)) da_nil)) (de_bin op_powD (de_bin op_powD de_int de_int) de_int)))
      (dss_cons (ds_set (i := 4) sc__law_urn.nd rfl (by first | exact .inl rfl | exact .inr rfl) (de_bin op_modD (de_callTy call_intD rfl T.n_int (by decide +kernel) (da_cons (de_bin op_addAD (de_bin op_addAD (de_bin op_addAD (de_bin op_mulAD (de_var 3) de_int) (de_bin op_mulAD de_int (de_var 1))) (de_bin op_mulAD de_int (de_callTy call_intD rfl T.n_int (by decide +kernel) (da_cons (de_cmp (op_ltAD hr.units0) (de_var 2) de_int (nomark _)) da_nil)))) de_int) da_nil)) de_int))
      (dss_one (ds_ret (de_lstC (da_cons (de_callB (call_max2D rfl) rfl T.n_max (by decide +kernel) (da_cons de_int (da_cons (de_bin op_subD (de_var 3) (de_bin op_powD de_int de_int)) da_nil))) (da_cons (de_var 4) (da_cons de_int da_nil)))))))))
/-! _law_toss -/
abbrev s__law_toss : Stmt := topS 32
abbrev N__law_toss : List Str := ["urn", "size", "found", "one", "two"]
theorem sc__law_toss : FnScope N__law_toss ((["urn", "size"] : List Str)) (defScope s__law_toss) := ⟨rfl, rfl, rfl, by decide +kernel, rfl, by decide +kernel, by decide +kernel⟩
def g__law_toss : EvS :=
  (sSeq (sIf (fTru (fB dGt (fB dIx (fV 0) (fC (.int 0))) (fC (.int 0)))) (sSeq (bThen (bName 2) (fB (dII gMod) (fApp (g1 dInt1) (fCons (fB dIx (fV 0) (fC (.int 0))) fNil)) (fV 1)))
  (sSeq (bThen (bSub (fV 0) (fC (.int 0))) (fB (dII gFdiv) (fB dIx (fV 0) (fC (.int 0))) (fV 1)))
  (sRet (fV 2)))) sNx)
  (sSeq (bThen (bSub (fV 0) (fC (.int 2))) (fB dAddA (fB dIx (fV 0) (fC (.int 2))) (fC (.int 1))))
  (sSeq (bThen (bName 3) (fB (dII gMod) (fApp (g1 dInt1) (fCons (fB dAddA (fB dIx (fV 0) (fC (.int 1))) (fB dMulA (fC (.int 920419813)) (fB dIx (fV 0) (fC (.int 2))))) fNil)) (fC (.int 2305843009213693907))))
  (sSeq (bThen (bName 4) (fB dAddA (fB dMulA (fB (dII gMod) (fApp (g1 dInt1) (fCons (fB dMulA (fV 3) (fV 3)) fNil)) (fC (.int 1000000000000037))) (fV 3)) (fB dMulA (fC (.int 7411)) (fB dIx (fV 0) (fC (.int 2))))))
  (sRet (fB (dII gMod) (fApp (g1 dInt1) (fCons (fB (dII gFdiv) (fB (dII gMod) (fApp (g1 dInt1) (fCons (fB dAddA (fV 4) (fB dIx (fV 0) (fC (.int 1)))) fNil)) (fC (.int 4398046511093))) (fC (.int 16))) fNil)) (fV 1)))))))
def F__law_toss : FnF := fnF 2 5 g__law_toss
theorem ok__law_toss {f : Addr} {fd : FuncData} (Fu : Fun K "_law_toss" "_law_toss" s__law_toss f fd) (T : Txt mg) (CF : TC P w K mg base a) : FG P w K mg base 1 f fd 2 F__law_toss :=
  fg_def (k := 0) Fu sc__law_toss (fun _ _ _ _ _ _ us hl => match us, hl with | [_, _], _ => rfl) fun cdv A stk s H E hr hgd =>
      (dss_cons (ds_if (dt_cmp op_gtD (de_ix ix_D (de_var 0) de_int) de_int (nomark _) dOrd_bl) (dss_cons (ds_set (i := 2) sc__law_toss.nd rfl (by first | exact .inl rfl | exact .inr rfl) (de_bin op_modD (de_callTy call_intD rfl T.n_int (by decide +kernel) (da_cons (de_ix ix_D (de_var 0) de_int) da_nil)) (de_var 1)))
      (dss_cons (ds_asg (de_bin op_fdivD (de_ix ix_D (de_var 0) de_int) (de_var 1)) (dg_sub (de_var 0) de_int))
      (dss_one (ds_ret (de_var 2))))) dss_nil)
      (dss_cons (ds_asg (de_bin op_addAD (de_ix ix_D (de_var 0) de_int) de_int) (dg_sub (de_var 0) de_int))
      (dss_cons (ds_set (i := 3) sc__law_toss.nd rfl (by first | exact .inl rfl | exact .inr rfl) (de_bin op_modD (de_callTy call_intD rfl T.n_int (by decide +kernel) (da_cons (de_bin op_addAD (de_ix ix_D (de_var 0) de_int) (de_bin op_mulAD de_int (de_ix ix_D (de_var 0) de_int))) da_nil)) de_int))
      (dss_cons (ds_set (i := 4) sc__law_toss.nd rfl (by first | exact .inl rfl | exact .inr rfl) (de_bin op_addAD (de_bin op_mulAD (de_bin op_modD (de_callTy call_intD rfl T.n_int (by decide +kernel) (da_cons (de_bin op_mulAD (de_var 3) (de_var 3)) da_nil)) de_int) (de_var 3)) (de_bin op_mulAD de_int (de_ix ix_D (de_var 0) de_int))))
      (dss_one (ds_ret (de_bin op_modD (de_callTy call_intD rfl T.n_int (by decide +kernel) (da_cons (de_bin op_fdivD (de_bin op_modD (de_callTy call_intD rfl T.n_int (by decide +kernel) (da_cons (de_bin op_addAD (de_var 4) (de_ix ix_D (de_var 0) de_int)) da_nil)) de_int) de_int) da_nil)) (de_var 1))))))))
/-! _law_pick -/
abbrev s__law_pick : Stmt := topS 33
abbrev N__law_pick : List Str := ["urn", "items"]
theorem sc__law_pick : FnScope N__law_pick ((["urn", "items"] : List Str)) (defScope s__law_pick) := ⟨rfl, rfl, rfl, by decide +kernel, rfl, by decide +kernel, by decide +kernel⟩
def g__law_pick : EvS :=
  (sRet (fB dIx (fV 1) (fCall F__law_toss (fLen 2 (fCons (fV 0) (fCons (fApp (g1 dLen) (fCons (fV 1) fNil)) fNil))))))
def F__law_pick : FnF := fnF 2 2 g__law_pick
theorem ok__law_pick {f : Addr} {fd : FuncData} (Fu : Fun K "_law_pick" "_law_pick" s__law_pick f fd) (T : Txt mg) (CF : TC P w K mg base a) (h__law_toss : Has P w K mg base "_law_toss" 1 2 F__law_toss) : FG P w K mg base 2 f fd 2 F__law_pick :=
  fg_def (k := 1) Fu sc__law_pick (fun _ _ _ _ _ _ us hl => match us, hl with | [_, _], _ => rfl) fun cdv A stk s H E hr hgd =>
      (dss_one (ds_ret (de_ix ix_D (de_var 1) (de_callH h__law_toss hr hgd (by decide) rfl (da_cons (de_var 0) (da_cons (de_callB call_lenD rfl T.n_len (by decide +kernel) (da_cons (de_var 1) da_nil)) da_nil))))))
/-! _law_drawn -/
abbrev s__law_drawn : Stmt := topS 34
abbrev N__law_drawn : List Str := ["urn", "first", "period", "few", "way", "rests", "rest", "number"]
theorem sc__law_drawn : FnScope N__law_drawn ((["urn"] : List Str)) (defScope s__law_drawn) := ⟨rfl, rfl, rfl, by decide +kernel, rfl, by decide +kernel, by decide +kernel⟩
def g__law_drawn : EvS :=
  (sSeq (sPar 1 2 (fCons (fCall F__law_pick (fLen 2 (fCons (fV 0) (fCons (fApp gLst (fCons (fC (.int 0)) (fCons (fC (.int 3)) (fCons (fC (.int 1)) (fCons (fC (.int 6)) (fCons (fC (.int 2)) (fCons (fC (.int 9)) fNil))))))) fNil)))) (fCons (fCall F__law_pick (fLen 2 (fCons (fV 0) (fCons (fApp gLst (fCons (fC (.int 1)) (fCons (fC (.int 2)) (fCons (fC (.int 3)) (fCons (fC (.int 6)) (fCons (fC (.int 4)) (fCons (fC (.int 5)) (fCons (fC (.int 12)) fNil)))))))) fNil)))) fNil)))
  (sSeq (bThen (bName 3) (fU dTuple (fLc (gRng1 (fCons (fV 1) fNil)) (bName 7) (fTru (fB dEqW (fCall F__law_toss (fLen 2 (fCons (fV 0) (fCons (fC (.int 2)) fNil)))) (fC (.int 0)))) (fV 7) [7])))
  (sSeq (bThen (bName 4) (fCall F__law_toss (fLen 2 (fCons (fV 0) (fCons (fC (.int 4)) fNil)))))
  (sSeq (bThen (bName 5) (fLc (gRng1 (fCons (fV 2) fNil)) (bName 6) (fOr (fTru (fB dEqW (fV 4) (fC (.int 1)))) (fAnd (fTru (fB dGt (fV 4) (fC (.int 1)))) (fTru (fB dEqW (fCall F__law_toss (fLen 2 (fCons (fV 0) (fCons (fC (.int 2)) fNil)))) (fC (.int 0)))))) (fV 6) [6]))
  (sRet (fApp gLst (fCons (fV 3) (fCons (fV 1) (fCons (fV 2) (fCons (fU dTuple (fV 5)) fNil))))))))))
def F__law_drawn : FnF := fnF 1 8 g__law_drawn
theorem ok__law_drawn {f : Addr} {fd : FuncData} (Fu : Fun K "_law_drawn" "_law_drawn" s__law_drawn f fd) (T : Txt mg) (CF : TC P w K mg base a) (h__law_pick : Has P w K mg base "_law_pick" 2 2 F__law_pick) (h__law_toss : Has P w K mg base "_law_toss" 1 2 F__law_toss) : FG P w K mg base 3 f fd 1 F__law_drawn :=
  fg_def (k := 2) Fu sc__law_drawn (fun _ _ _ _ _ _ us hl => match us, hl with | [_], _ => rfl) fun cdv A stk s H E hr hgd =>
      (dss_cons (ds_par (i := 1) (j := 2) rfl sc__law_drawn.nd rfl rfl (by decide) rfl rfl (da_cons (de_callH h__law_pick hr hgd (by decide) rfl (da_cons (de_var 0) (da_cons (de_lst (da_cons de_int (da_cons de_int (da_cons de_int (da_cons de_int (da_cons de_int (da_cons de_int da_nil))))))) da_nil))) (da_cons (de_callH h__law_pick hr hgd (by decide) rfl (da_cons (de_var 0) (da_cons (de_lst (da_cons de_int (da_cons de_int (da_cons de_int (da_cons de_int (da_cons de_int (da_cons de_int (da_cons de_int da_nil)))))))) da_nil))) da_nil)) rfl)
      (dss_cons (ds_set (i := 3) sc__law_drawn.nd rfl (by first | exact .inl rfl | exact .inr rfl) (de_tuple rfl T.n_tuple (de_lc rfl sc__law_drawn.nd (own := [("number", 7)]) (di_range1 rfl T.n_range (da_cons (de_var 1) da_nil)) (blkOk_by (N := N__law_drawn) (sc := defScope s__law_drawn) (by decide +kernel)) (fun _ _ _ _ _ => (dg_name (i := 7) sc__law_drawn.nd rfl (by first | exact .inl rfl | exact .inr rfl))) (fun _ _ _ _ _ => dts_one (dt_cmp (op_eqW hr.units) (de_callH h__law_toss hr hgd (by decide) rfl (da_cons (de_var 0) (da_cons de_int da_nil))) de_int (nomark _) dEqW_bl)) (fun _ _ _ _ _ => (de_var 7)))))
      (dss_cons (ds_set (i := 4) sc__law_drawn.nd rfl (by first | exact .inl rfl | exact .inr rfl) (de_callH h__law_toss hr hgd (by decide) rfl (da_cons (de_var 0) (da_cons de_int da_nil))))
      (dss_cons (ds_setLc (i := 5) rfl sc__law_drawn.nd rfl rfl (sw_true rfl rfl rfl (by decide +kernel)) (own := [("rest", 6)]) (di_range1 rfl T.n_range (da_cons (de_var 2) da_nil)) (blkOk_by (N := N__law_drawn) (sc := defScope s__law_drawn) (by decide +kernel)) (fun _ _ _ _ _ => (dg_name (i := 6) sc__law_drawn.nd rfl (by first | exact .inl rfl | exact .inr rfl))) (fun _ _ _ _ _ => dts_one (PW.pt (dw_or (dt_cmp (op_eqW hr.units) (de_var 4) de_int (nomark _) dEqW_bl) (dw_or1 (PW.pt (dw_and (dt_cmp op_gtD (de_var 4) de_int (nomark _) dOrd_bl) (dw_and1 (dt_cmp (op_eqW hr.units) (de_callH h__law_toss hr hgd (by decide) rfl (da_cons (de_var 0) (da_cons de_int da_nil))) de_int (nomark _) dEqW_bl)))))))) (fun _ _ _ _ _ => (de_var 6)))
      (dss_one (ds_ret (de_lst (da_cons (de_var 3) (da_cons (de_var 1) (da_cons (de_var 2) (da_cons (de_tuple rfl T.n_tuple (de_var 5)) da_nil)))))))))))
/-! is_whole_within -/
abbrev s_is_whole_within : Stmt := topS 3
abbrev N_is_whole_within : List Str := ["value", "low", "high"]
theorem sc_is_whole_within : FnScope N_is_whole_within ((["value", "low", "high"] : List Str)) (defScope s_is_whole_within) := ⟨rfl, rfl, rfl, by decide +kernel, rfl, by decide +kernel, by decide +kernel⟩
def g_is_whole_within : EvS :=
  (sRet (fAndV (fB dIsW (fApp (g1 dType) (fCons (fV 0) fNil)) (fC (.ty "int"))) (fCh dLe dLe (fV 1) (fV 0) (fV 2))))
def F_is_whole_within : FnF := fnF 3 3 g_is_whole_within
theorem ok_is_whole_within {f : Addr} {fd : FuncData} (Fu : Fun K "is_whole_within" "is_whole_within" s_is_whole_within f fd) (T : Txt mg) (CF : TC P w K mg base a) : FG P w K mg base 1 f fd 3 F_is_whole_within :=
  fg_def (k := 0) Fu sc_is_whole_within (fun _ _ _ _ _ _ us hl => match us, hl with | [_, _, _], _ => rfl) fun cdv A stk s H E hr hgd =>
      (dss_one (ds_ret (de_and (de_cmp op_isWD (de_callTy call_typeD rfl T.n_type (by decide +kernel) (da_cons (de_var 0) da_nil)) (de_gty rfl T.n_int (by decide +kernel)) (nomark _)) (de_one (de_chain op_leD op_leD (de_var 1) (de_var 0) (de_var 2))))))
/-! is_ascending_below -/
abbrev s_is_ascending_below : Stmt := topS 5
abbrev N_is_ascending_below : List Str := ["value", "bound", "last", "item"]
theorem sc_is_ascending_below : FnScope N_is_ascending_below ((["value", "bound"] : List Str)) (defScope s_is_ascending_below) := ⟨rfl, rfl, rfl, by decide +kernel, rfl, by decide +kernel, by decide +kernel⟩
def g_is_ascending_below : EvS :=
  (sSeq (sIf (fNot (fTru (fApp (g2 dIsi) (fCons (fV 0) (fCons (fC (.ty "tuple")) fNil))))) (sRet (fC (.bl false))) sNx)
  (sSeq (bThen (bName 2) (fU dNeg (fC (.int 1))))
  (sSeq (sFor (itOf gSeq (fV 0)) (bName 3) (sSeq (sIf (fOr (fTru (fB dIsNot (fApp (g1 dType) (fCons (fV 3) fNil)) (fC (.ty "int")))) (fTru (fB dLe (fV 3) (fV 2)))) (sRet (fC (.bl false))) sNx)
  (bThen (bName 2) (fV 3))))
  (sRet (fB dLtA (fV 2) (fV 1))))))
def F_is_ascending_below : FnF := fnF 2 4 g_is_ascending_below
theorem ok_is_ascending_below {f : Addr} {fd : FuncData} (Fu : Fun K "is_ascending_below" "is_ascending_below" s_is_ascending_below f fd) (T : Txt mg) (CF : TC P w K mg base a) : FG P w K mg base 1 f fd 2 F_is_ascending_below :=
  fg_def (k := 0) Fu sc_is_ascending_below (fun _ _ _ _ _ _ us hl => match us, hl with | [_, _], _ => rfl) fun cdv A stk s H E hr hgd =>
      (dss_cons (ds_if (dt_not (dt_truth (de_callB call_isiD rfl T.n_isinstance (by decide +kernel) (da_cons (de_var 0) (da_cons (de_gty rfl T.n_tuple (by decide +kernel)) da_nil))))) (dss_one (ds_ret de_bl)) dss_nil)
      (dss_cons (ds_set (i := 2) sc_is_ascending_below.nd rfl (by first | exact .inl rfl | exact .inr rfl) (de_un un_negD de_int))
      (dss_cons (ds_for passB rfl (di_seq (de_var 0)) (dg_name (i := 3) sc_is_ascending_below.nd rfl (by first | exact .inl rfl | exact .inr rfl)) (dss_cons (ds_if (PW.pt (dw_or (dt_cmp op_isNotD (de_callTy call_typeD rfl T.n_type (by decide +kernel) (da_cons (de_var 3) da_nil)) (de_gty rfl T.n_int (by decide +kernel)) (nomark _) dIsNot_bl) (dw_or1 (dt_cmp op_leD (de_var 3) (de_var 2) (nomark _) dOrd_bl)))) (dss_one (ds_ret de_bl)) dss_nil)
      (dss_one (ds_set (i := 2) sc_is_ascending_below.nd rfl (by first | exact .inl rfl | exact .inr rfl) (de_var 3)))))
      (dss_one (ds_ret (de_cmp (op_ltAD hr.units0) (de_var 2) (de_var 1) (nomark _)))))))
/-! _tell_a_set -/
abbrev s__tell_a_set : Stmt := topS 17
abbrev N__tell_a_set : List Str := ["few", "first", "period", "rests"]
theorem sc__tell_a_set : FnScope N__tell_a_set ((["few", "first", "period", "rests"] : List Str)) (defScope s__tell_a_set) := ⟨rfl, rfl, rfl, by decide +kernel, rfl, by decide +kernel, by decide +kernel⟩
def g__tell_a_set : EvS :=
  (sSeq (sIf (fOr (fNot (fTru (fCall F_is_whole_within (fLen 3 (fCons (fV 1) (fCons (fC (.int 0)) (fCons (fC (.int 2000)) fNil))))))) (fNot (fTru (fCall F_is_whole_within (fLen 3 (fCons (fV 2) (fCons (fC (.int 1)) (fCons (fC (.int 2000)) fNil)))))))) (sRet (fC (.bl false))) sNx)
  (sRet (fAndV (fCall F_is_ascending_below (fLen 2 (fCons (fV 0) (fCons (fV 1) fNil)))) (fCall F_is_ascending_below (fLen 2 (fCons (fV 3) (fCons (fV 2) fNil)))))))
def F__tell_a_set : FnF := fnF 4 4 g__tell_a_set
theorem ok__tell_a_set {f : Addr} {fd : FuncData} (Fu : Fun K "_tell_a_set" "_tell_a_set" s__tell_a_set f fd) (T : Txt mg) (CF : TC P w K mg base a) (h_is_ascending_below : Has P w K mg base "is_ascending_below" 1 2 F_is_ascending_below) (h_is_whole_within : Has P w K mg base "is_whole_within" 1 3 F_is_whole_within) : FG P w K mg base 2 f fd 4 F__tell_a_set :=
  fg_def (k := 1) Fu sc__tell_a_set (fun _ _ _ _ _ _ us hl => match us, hl with | [_, _, _, _], _ => rfl) fun cdv A stk s H E hr hgd =>
      (dss_cons (ds_if (PW.pt (dw_or (dt_not (dt_truth (de_callH h_is_whole_within hr hgd (by decide) rfl (da_cons (de_var 1) (da_cons de_int (da_cons (de_gint rfl T.c_LARGEST) da_nil)))))) (dw_or1 (dt_not (dt_truth (de_callH h_is_whole_within hr hgd (by decide) rfl (da_cons (de_var 2) (da_cons de_int (da_cons (de_gint rfl T.c_LARGEST) da_nil))))))))) (dss_one (ds_ret de_bl)) dss_nil)
      (dss_one (ds_ret (de_and (de_callH h_is_ascending_below hr hgd (by decide) rfl (da_cons (de_var 0) (da_cons (de_var 1) da_nil))) (de_one (de_callH h_is_ascending_below hr hgd (by decide) rfl (da_cons (de_var 3) (da_cons (de_var 2) da_nil))))))))
/-! _shorter -/
abbrev s__shorter : Stmt := topS 24
abbrev N__shorter : List Str := ["cycle", "span", "prime", "step"]
theorem sc__shorter : FnScope N__shorter ((["cycle", "span", "prime"] : List Str)) (defScope s__shorter) := ⟨rfl, rfl, rfl, by decide +kernel, rfl, by decide +kernel, by decide +kernel⟩
def g__shorter : EvS :=
  (sSeq (bThen (bName 3) (fB (dII gFdiv) (fV 1) (fV 2)))
  (sSeq (sIf (fTru (fB dEqW (fB (dII gShr) (fV 0) (fV 3)) (fB (dII gAnd) (fV 0) (fB (dII gSub) (fB (dII gShl) (fC (.int 1)) (fB (dII gSub) (fV 1) (fV 3))) (fC (.int 1)))))) (sRet (fApp gTup (fCons (fB (dII gAnd) (fV 0) (fB (dII gSub) (fB (dII gShl) (fC (.int 1)) (fV 3)) (fC (.int 1)))) (fCons (fV 3) fNil)))) sNx)
  (sRet (fApp gTup (fCons (fV 0) (fCons (fV 1) fNil))))))
def F__shorter : FnF := fnF 3 4 g__shorter
theorem ok__shorter {f : Addr} {fd : FuncData} (Fu : Fun K "_shorter" "_shorter" s__shorter f fd) (T : Txt mg) (CF : TC P w K mg base a) : FG P w K mg base 1 f fd 3 F__shorter :=
  fg_def (k := 0) Fu sc__shorter (fun _ _ _ _ _ _ us hl => match us, hl with | [_, _, _], _ => rfl) fun cdv A stk s H E hr hgd =>
      (dss_cons (ds_set (i := 3) sc__shorter.nd rfl (by first | exact .inl rfl | exact .inr rfl) (de_bin op_fdivD (de_var 1) (de_var 2)))
      (dss_cons (ds_if (dt_cmp (op_eqW hr.units) (de_bin op_shrD (de_var 0) (de_var 3)) (de_bin op_andD (de_var 0) (de_bin op_subD (de_bin op_shlD de_int (de_bin op_subD (de_var 1) (de_var 3))) de_int)) (nomark _) dEqW_bl) (dss_one (ds_ret (de_tup (da_cons (de_bin op_andD (de_var 0) (de_bin op_subD (de_bin op_shlD de_int (de_var 3)) de_int)) (da_cons (de_var 3) da_nil))))) dss_nil)
      (dss_one (ds_ret (de_tup (da_cons (de_var 0) (da_cons (de_var 1) da_nil)))))))
/-! _least_cycle -/
abbrev s__least_cycle : Stmt := topS 23
abbrev N__least_cycle : List Str := ["cycle", "span", "left", "prime"]
theorem sc__least_cycle : FnScope N__least_cycle ((["cycle", "span"] : List Str)) (defScope s__least_cycle) := ⟨rfl, rfl, rfl, by decide +kernel, rfl, by decide +kernel, by decide +kernel⟩
def g__least_cycle : EvS :=
  (sSeq (bThen (bName 2) (fV 1))
  (sSeq (sFor (itOf gSeq (fC (.tup ds_PRIMES))) (bName 3) (sSeq (sIf (fTru (fB dEqW (fV 2) (fC (.int 1)))) sBk sNx)
  (sWhile 5000 (fTru (fB dEqW (fB (dII gMod) (fV 2) (fV 3)) (fC (.int 0)))) (sSeq (bThen (bName 2) (fB (dII gFdiv) (fV 2) (fV 3)))
  (bThen (bSeq 2 (bsCons (bName 0) (bsCons (bName 1) bsNil))) (fCall F__shorter (fLen 3 (fCons (fV 0) (fCons (fV 1) (fCons (fV 3) fNil))))))))))
  (sSeq (sIf (fTru (fB dGt (fV 2) (fC (.int 1)))) (sRet (fCall F__shorter (fLen 3 (fCons (fV 0) (fCons (fV 1) (fCons (fV 2) fNil)))))) sNx)
  (sRet (fApp gTup (fCons (fV 0) (fCons (fV 1) fNil)))))))
def F__least_cycle : FnF := fnF 2 4 g__least_cycle
theorem ok__least_cycle {f : Addr} {fd : FuncData} (Fu : Fun K "_least_cycle" "_least_cycle" s__least_cycle f fd) (T : Txt mg) (CF : TC P w K mg base a) (h__shorter : Has P w K mg base "_shorter" 1 3 F__shorter) : FG P w K mg base 2 f fd 2 F__least_cycle :=
  fg_def (k := 1) Fu sc__least_cycle (fun _ _ _ _ _ _ us hl => match us, hl with | [_, _], _ => rfl) fun cdv A stk s H E hr hgd =>
      (dss_cons (ds_set (i := 2) sc__least_cycle.nd rfl (by first | exact .inl rfl | exact .inr rfl) (de_var 1))
      (dss_cons (ds_for passB rfl (di_seq (de_gtup (vs := vs_PRIMES) (ds := ds_PRIMES) rfl CF.m_PRIMES CF.t_PRIMES rs_PRIMES)) (dg_name (i := 3) sc__least_cycle.nd rfl (by first | exact .inl rfl | exact .inr rfl)) (dss_cons (ds_if (dt_cmp (op_eqW hr.units) (de_var 2) de_int (nomark _) dEqW_bl) (dss_one ds_break) dss_nil)
      (dss_one (ds_while (n := 5000) passB (dt_cmp (op_eqW hr.units) (de_bin op_modD (de_var 2) (de_var 3)) de_int (nomark _) dEqW_bl) (dss_cons (ds_set (i := 2) sc__least_cycle.nd rfl (by first | exact .inl rfl | exact .inr rfl) (de_bin op_fdivD (de_var 2) (de_var 3)))
      (dss_one (ds_asg (de_callH h__shorter hr hgd (by decide) rfl (da_cons (de_var 0) (da_cons (de_var 1) (da_cons (de_var 3) da_nil)))) (dg_seq rfl (dgs_cons (dg_name (i := 0) sc__least_cycle.nd rfl (by first | exact .inl rfl | exact .inr rfl)) (dgs_cons (dg_name (i := 1) sc__least_cycle.nd rfl (by first | exact .inl rfl | exact .inr rfl)) dgs_nil))))))))))
      (dss_cons (ds_if (dt_cmp op_gtD (de_var 2) de_int (nomark _) dOrd_bl) (dss_one (ds_ret (de_callH h__shorter hr hgd (by decide) rfl (da_cons (de_var 0) (da_cons (de_var 1) (da_cons (de_var 2) da_nil)))))) dss_nil)
      (dss_one (ds_ret (de_tup (da_cons (de_var 0) (da_cons (de_var 1) da_nil))))))))
/-! _bits -/
abbrev s__bits : Stmt := topS 26
abbrev N__bits : List Str := ["values", "value", "digits"]
theorem sc__bits : FnScope N__bits ((["values"] : List Str)) (defScope s__bits) := ⟨rfl, rfl, rfl, by decide +kernel, rfl, by decide +kernel, by decide +kernel⟩
def g__bits : EvS :=
  (sSeq (sIf (fTru (fB dLtA (fApp (g1 dLen) (fCons (fV 0) fNil)) (fC (.int 16)))) (sRet (fApp (g1 dSum) (fCons (fLc (itOf gSeq (fV 0)) (bName 1) (fun S => some (true, S.μ)) (fB (dII gShl) (fC (.int 1)) (fV 1)) [1]) fNil))) sNx)
  (sSeq (fun _ => none)
  (sSeq (fun _ => none)
  (fun _ => none))))
def F__bits : FnF := fnF 1 3 g__bits
theorem ok__bits {f : Addr} {fd : FuncData} (Fu : Fun K "_bits" "_bits" s__bits f fd) (T : Txt mg) (CF : TC P w K mg base a) : FG P w K mg base 1 f fd 1 F__bits :=
  fg_def (k := 0) Fu sc__bits (fun _ _ _ _ _ _ us hl => match us, hl with | [_], _ => rfl) fun cdv A stk s H E hr hgd =>
      (dss_cons (ds_if (dt_cmp (op_ltAD hr.units0) (de_callB call_lenD rfl T.n_len (by decide +kernel) (da_cons (de_var 0) da_nil)) de_int (nomark _) dLtA_bl) (dss_one (ds_ret (de_callB (call_sumD rfl) rfl T.n_sum (by decide +kernel) (da_cons (de_lc rfl sc__bits.nd (own := [("value", 1)]) (di_seq (de_var 0)) (blkOk_by (N := N__bits) (sc := defScope s__bits) (by decide +kernel)) (fun _ _ _ _ _ => (dg_name (i := 1) sc__bits.nd rfl (by first | exact .inl rfl | exact .inr rfl))) (fun _ _ _ _ _ => dts_nil) (fun _ _ _ _ _ => (de_bin op_shlD de_int (de_var 1)))) da_nil)))) dss_nil)
      (dss_cons ds_never
      (dss_cons ds_never
      (dss_one ds_never))))
/-! _filled -/
abbrev s__filled : Stmt := topS 21
abbrev N__filled : List Str := ["cycle", "span", "size"]
theorem sc__filled : FnScope N__filled ((["cycle", "span", "size"] : List Str)) (defScope s__filled) := ⟨rfl, rfl, rfl, by decide +kernel, rfl, by decide +kernel, by decide +kernel⟩
def g__filled : EvS :=
  (sSeq (sIf (fTru (fB dEqW (fV 1) (fC (.int 1)))) (sRet (fIfE (fTru (fV 0)) (fB (dII gSub) (fB (dII gShl) (fC (.int 1)) (fV 2)) (fC (.int 1))) (fC (.int 0)))) sNx)
  (sSeq (sWhile 5000 (fTru (fB dLtA (fV 1) (fV 2))) (sSeq (bThen (bName 0) (fB (dII gOr) (fV 0) (fB (dII gShl) (fV 0) (fV 1))))
  (bThen (bName 1) (fB dMulA (fV 1) (fC (.int 2))))))
  (sRet (fB (dII gAnd) (fV 0) (fB (dII gSub) (fB (dII gShl) (fC (.int 1)) (fV 2)) (fC (.int 1)))))))
def F__filled : FnF := fnF 3 3 g__filled
theorem ok__filled {f : Addr} {fd : FuncData} (Fu : Fun K "_filled" "_filled" s__filled f fd) (T : Txt mg) (CF : TC P w K mg base a) : FG P w K mg base 1 f fd 3 F__filled :=
  fg_def (k := 0) Fu sc__filled (fun _ _ _ _ _ _ us hl => match us, hl with | [_, _, _], _ => rfl) fun cdv A stk s H E hr hgd =>
      (dss_cons (ds_if (dt_cmp (op_eqW hr.units) (de_var 1) de_int (nomark _) dEqW_bl) (dss_one (ds_ret (de_ifE (dt_truth (de_var 0)) (de_bin op_subD (de_bin op_shlD de_int (de_var 2)) de_int) de_int))) dss_nil)
      (dss_cons (ds_while (n := 5000) passB (dt_cmp (op_ltAD hr.units0) (de_var 1) (de_var 2) (nomark _) dLtA_bl) (dss_cons (ds_set (i := 0) sc__filled.nd rfl (by first | exact .inl rfl | exact .inr rfl) (de_bin op_orD (de_var 0) (de_bin op_shlD (de_var 0) (de_var 1))))
      (dss_one (ds_set (i := 1) sc__filled.nd rfl (by first | exact .inl rfl | exact .inr rfl) (de_bin op_mulAD (de_var 1) de_int)))))
      (dss_one (ds_ret (de_bin op_andD (de_var 0) (de_bin op_subD (de_bin op_shlD de_int (de_var 2)) de_int))))))
/-! _least_early -/
abbrev s__least_early : Stmt := topS 25
abbrev N__least_early : List Str := ["early", "low", "cycle", "span"]
theorem sc__least_early : FnScope N__least_early ((["early", "low", "cycle", "span"] : List Str)) (defScope s__least_early) := ⟨rfl, rfl, rfl, by decide +kernel, rfl, by decide +kernel, by decide +kernel⟩
def g__least_early : EvS :=
  (sSeq (bThen (bName 1) (fU dBits (fB (dII gXor) (fV 0) (fCall F__filled (fLen 3 (fCons (fV 2) (fCons (fV 3) (fCons (fV 1) fNil))))))))
  (sRet (fApp gTup (fCons (fB (dII gAnd) (fV 0) (fB (dII gSub) (fB (dII gShl) (fC (.int 1)) (fV 1)) (fC (.int 1)))) (fCons (fV 1) fNil)))))
def F__least_early : FnF := fnF 4 4 g__least_early
theorem ok__least_early {f : Addr} {fd : FuncData} (Fu : Fun K "_least_early" "_least_early" s__least_early f fd) (T : Txt mg) (CF : TC P w K mg base a) (h__filled : Has P w K mg base "_filled" 1 3 F__filled) : FG P w K mg base 2 f fd 4 F__least_early :=
  fg_def (k := 1) Fu sc__least_early (fun _ _ _ _ _ _ us hl => match us, hl with | [_, _, _, _], _ => rfl) fun cdv A stk s H E hr hgd =>
      (dss_cons (ds_set (i := 1) sc__least_early.nd rfl (by first | exact .inl rfl | exact .inr rfl) (de_bits (de_bin op_xorD (de_var 0) (de_callH h__filled hr hgd (by decide) rfl (da_cons (de_var 2) (da_cons (de_var 3) (da_cons (de_var 1) da_nil)))))))
      (dss_one (ds_ret (de_tup (da_cons (de_bin op_andD (de_var 0) (de_bin op_subD (de_bin op_shlD de_int (de_var 1)) de_int)) (da_cons (de_var 1) da_nil))))))
/-! Limits_init -/
abbrev s_Limits_init : Stmt := inClass (topS 15) 0
abbrev N_Limits_init : List Str := ["self", "few", "first", "period", "rests", "value"]
theorem sc_Limits_init : FnScope N_Limits_init ((["self", "few", "first", "period", "rests"] : List Str)) (defScope s_Limits_init) := ⟨rfl, rfl, rfl, by decide +kernel, rfl, by decide +kernel, by decide +kernel⟩
def g_Limits_init : EvS :=
  (sSeq (sIf (fNot (fTru (fCall F__tell_a_set (fLen 4 (fCons (fV 1) (fCons (fV 2) (fCons (fV 3) (fCons (fV 4) fNil)))))))) (fun _ => none) sNx)
  (sSeq (bThen (bSeq 2 (bsCons (bFld ["Limits"] "_cycle" (fV 0)) (bsCons (bFld ["Limits"] "_span" (fV 0)) bsNil))) (fCall F__least_cycle (fLen 2 (fCons (fCall F__bits (fLen 1 (fCons (fV 4) fNil))) (fCons (fV 3) fNil)))))
  (sSeq (bThen (bSeq 2 (bsCons (bFld ["Limits"] "_early" (fV 0)) (bsCons (bFld ["Limits"] "_low" (fV 0)) bsNil))) (fCall F__least_early (fLen 4 (fCons (fCall F__bits (fLen 1 (fCons (fV 1) fNil))) (fCons (fV 2) (fCons (fU (dFld ["Limits"] "_cycle") (fV 0)) (fCons (fU (dFld ["Limits"] "_span") (fV 0)) fNil)))))))
  (sSeq (sFldD ["Limits"] "_few" (fV 0) (fC .non))
  (sFldD ["Limits"] "_rests" (fV 0) (fC .non))))))
def F_Limits_init : FnF := fnF 5 6 g_Limits_init
theorem ok_Limits_init {f : Addr} {fd : FuncData} (Fu : Fun K "__init__" "Limits.__init__" s_Limits_init f fd) (T : Txt mg) (CF : TC P w K mg base a) (h__bits : Has P w K mg base "_bits" 1 1 F__bits) (h__least_cycle : Has P w K mg base "_least_cycle" 2 2 F__least_cycle) (h__least_early : Has P w K mg base "_least_early" 2 4 F__least_early) (h__tell_a_set : Has P w K mg base "_tell_a_set" 2 4 F__tell_a_set) : FG P w K mg base 3 f fd 5 F_Limits_init :=
  fg_def (k := 2) Fu sc_Limits_init (fun _ _ _ _ _ _ us hl => match us, hl with | [_, _, _, _, _], _ => rfl) fun cdv A stk s H E hr hgd =>
      (dss_cons (ds_if (dt_not (dt_truth (de_callH h__tell_a_set hr hgd (by decide) rfl (da_cons (de_var 1) (da_cons (de_var 2) (da_cons (de_var 3) (da_cons (de_var 4) da_nil))))))) (dss_one ds_never) dss_nil)
      (dss_cons (ds_asg (de_callH h__least_cycle hr hgd (by decide) rfl (da_cons (de_callH h__bits hr hgd (by decide) rfl (da_cons (de_var 4) da_nil)) (da_cons (de_var 3) da_nil))) (dg_seq rfl (dgs_cons (dg_fld CF.fld__cycle (de_var 0)) (dgs_cons (dg_fld CF.fld__span (de_var 0)) dgs_nil))))
      (dss_cons (ds_asg (de_callH h__least_early hr hgd (by decide) rfl (da_cons (de_callH h__bits hr hgd (by decide) rfl (da_cons (de_var 1) da_nil)) (da_cons (de_var 2) (da_cons (de_fld CF.fld__cycle (de_var 0)) (da_cons (de_fld CF.fld__span (de_var 0)) da_nil))))) (dg_seq rfl (dgs_cons (dg_fld CF.fld__early (de_var 0)) (dgs_cons (dg_fld CF.fld__low (de_var 0)) dgs_nil))))
      (dss_cons (ds_fld CF.fld__few (de_var 0) de_non)
      (dss_one (ds_fld CF.fld__rests (de_var 0) de_non))))))
/-! _law_limits -/
abbrev s__law_limits : Stmt := topS 36
abbrev N__law_limits : List Str := ["parts"]
theorem sc__law_limits : FnScope N__law_limits ((["parts"] : List Str)) (defScope s__law_limits) := ⟨rfl, rfl, rfl, by decide +kernel, rfl, by decide +kernel, by decide +kernel⟩
def g__law_limits : EvS :=
  (sRet (fNox (fCallR (mkF "Limits" (only 5 F_Limits_init)) (fCons (fB dIx (fV 0) (fC (.int 0))) (fCons (fB dIx (fV 0) (fC (.int 1))) (fCons (fB dIx (fV 0) (fC (.int 2))) (fCons (fB dIx (fV 0) (fC (.int 3))) fNil)))))))
def F__law_limits : FnF := fnF 1 1 g__law_limits
theorem ok__law_limits {f : Addr} {fd : FuncData} (Fu : Fun K "_law_limits" "_law_limits" s__law_limits f fd) (T : Txt mg) (CF : TC P w K mg base a) (h_Limits_init : FG P w K mg base 3 a.f_Limits_init a.d_Limits_init 5 F_Limits_init) : FG P w K mg base 5 f fd 1 F__law_limits :=
  fg_def (k := 4) Fu sc__law_limits (fun _ _ _ _ _ _ us hl => match us, hl with | [_], _ => rfl) fun cdv A stk s H E hr hgd =>
      (dss_one (ds_ret (de_new CF.mk_Limits h_Limits_init.fr (hr.mono (by decide)) hgd CF.ns_Limits rfl CF.m_Limits (da_cons (de_ix ix_D (de_var 0) de_int) (da_cons (de_ix ix_D (de_var 0) de_int) (da_cons (de_ix ix_D (de_var 0) de_int) (da_cons (de_ix ix_D (de_var 0) de_int) da_nil)))))))
/-! _made -/
abbrev s__made : Stmt := topS 18
abbrev N__made : List Str := ["early", "low", "cycle", "span", "made"]
theorem sc__made : FnScope N__made ((["early", "low", "cycle", "span"] : List Str)) (defScope s__made) := ⟨rfl, rfl, rfl, by decide +kernel, rfl, by decide +kernel, by decide +kernel⟩
def g__made : EvS :=
  (sSeq (bThen (bSeq 2 (bsCons (bName 2) (bsCons (bName 3) bsNil))) (fCall F__least_cycle (fLen 2 (fCons (fV 2) (fCons (fV 3) fNil)))))
  (sSeq (bThen (bSeq 2 (bsCons (bName 0) (bsCons (bName 1) bsNil))) (fCall F__least_early (fLen 4 (fCons (fV 0) (fCons (fV 1) (fCons (fV 2) (fCons (fV 3) fNil)))))))
  (sSeq (bThen (bName 4) (fNox (fCallR (mkF "Limits" (only 5 F_Limits_init)) (fCons (fApp gTup fNil) (fCons (fC (.int 0)) (fCons (fC (.int 1)) (fCons (fApp gTup fNil) fNil)))))))
  (sSeq (sFldD ["Limits"] "_early" (fV 4) (fV 0))
  (sSeq (sFldD ["Limits"] "_low" (fV 4) (fV 1))
  (sSeq (sFldD ["Limits"] "_cycle" (fV 4) (fV 2))
  (sSeq (sFldD ["Limits"] "_span" (fV 4) (fV 3))
  (sRet (fV 4)))))))))
def F__made : FnF := fnF 4 5 g__made
theorem ok__made {f : Addr} {fd : FuncData} (Fu : Fun K "_made" "_made" s__made f fd) (T : Txt mg) (CF : TC P w K mg base a) (h__least_cycle : Has P w K mg base "_least_cycle" 2 2 F__least_cycle) (h__least_early : Has P w K mg base "_least_early" 2 4 F__least_early) (h_Limits_init : FG P w K mg base 3 a.f_Limits_init a.d_Limits_init 5 F_Limits_init) : FG P w K mg base 5 f fd 4 F__made :=
  fg_def (k := 4) Fu sc__made (fun _ _ _ _ _ _ us hl => match us, hl with | [_, _, _, _], _ => rfl) fun cdv A stk s H E hr hgd =>
      (dss_cons (ds_asg (de_callH h__least_cycle hr hgd (by decide) rfl (da_cons (de_var 2) (da_cons (de_var 3) da_nil))) (dg_seq rfl (dgs_cons (dg_name (i := 2) sc__made.nd rfl (by first | exact .inl rfl | exact .inr rfl)) (dgs_cons (dg_name (i := 3) sc__made.nd rfl (by first | exact .inl rfl | exact .inr rfl)) dgs_nil))))
      (dss_cons (ds_asg (de_callH h__least_early hr hgd (by decide) rfl (da_cons (de_var 0) (da_cons (de_var 1) (da_cons (de_var 2) (da_cons (de_var 3) da_nil))))) (dg_seq rfl (dgs_cons (dg_name (i := 0) sc__made.nd rfl (by first | exact .inl rfl | exact .inr rfl)) (dgs_cons (dg_name (i := 1) sc__made.nd rfl (by first | exact .inl rfl | exact .inr rfl)) dgs_nil))))
      (dss_cons (ds_set (i := 4) sc__made.nd rfl (by first | exact .inl rfl | exact .inr rfl) (de_new CF.mk_Limits h_Limits_init.fr (hr.mono (by decide)) hgd CF.ns_Limits rfl CF.m_Limits (da_cons (de_tup da_nil) (da_cons de_int (da_cons de_int (da_cons (de_tup da_nil) da_nil))))))
      (dss_cons (ds_fld CF.fld__early (de_var 4) (de_var 0))
      (dss_cons (ds_fld CF.fld__low (de_var 4) (de_var 1))
      (dss_cons (ds_fld CF.fld__cycle (de_var 4) (de_var 2))
      (dss_cons (ds_fld CF.fld__span (de_var 4) (de_var 3))
      (dss_one (ds_ret (de_var 4))))))))))
/-! _turned -/
abbrev s__turned : Stmt := topS 22
abbrev N__turned : List Str := ["cycle", "span", "number", "shift"]
theorem sc__turned : FnScope N__turned ((["cycle", "span", "number"] : List Str)) (defScope s__turned) := ⟨rfl, rfl, rfl, by decide +kernel, rfl, by decide +kernel, by decide +kernel⟩
def g__turned : EvS :=
  (sSeq (bThen (bName 3) (fB (dII gMod) (fV 2) (fV 1)))
  (sRet (fB (dII gAnd) (fB (dII gOr) (fB (dII gShl) (fV 0) (fV 3)) (fB (dII gShr) (fV 0) (fB (dII gSub) (fV 1) (fV 3)))) (fB (dII gSub) (fB (dII gShl) (fC (.int 1)) (fV 1)) (fC (.int 1))))))
def F__turned : FnF := fnF 3 4 g__turned
theorem ok__turned {f : Addr} {fd : FuncData} (Fu : Fun K "_turned" "_turned" s__turned f fd) (T : Txt mg) (CF : TC P w K mg base a) : FG P w K mg base 1 f fd 3 F__turned :=
  fg_def (k := 0) Fu sc__turned (fun _ _ _ _ _ _ us hl => match us, hl with | [_, _, _], _ => rfl) fun cdv A stk s H E hr hgd =>
      (dss_cons (ds_set (i := 3) sc__turned.nd rfl (by first | exact .inl rfl | exact .inr rfl) (de_bin op_modD (de_var 2) (de_var 1)))
      (dss_one (ds_ret (de_bin op_andD (de_bin op_orD (de_bin op_shlD (de_var 0) (de_var 3)) (de_bin op_shrD (de_var 0) (de_bin op_subD (de_var 1) (de_var 3)))) (de_bin op_subD (de_bin op_shlD de_int (de_var 1)) de_int)))))
/-! Limits_moved -/
abbrev s_Limits_moved : Stmt := inClass (topS 15) 15
abbrev N_Limits_moved : List Str := ["self", "number", "low", "early"]
theorem sc_Limits_moved : FnScope N_Limits_moved ((["self", "number"] : List Str)) (defScope s_Limits_moved) := ⟨rfl, rfl, rfl, by decide +kernel, rfl, by decide +kernel, by decide +kernel⟩
def g_Limits_moved : EvS :=
  (sSeq (sIf (fNot (fTru (fCall F_is_whole_within (fLen 3 (fCons (fV 1) (fCons (fU dNeg (fC (.int 2000))) (fCons (fC (.int 2000)) fNil))))))) (fun _ => none) sNx)
  (sSeq (bThen (bName 2) (fB dAddA (fU (dFld ["Limits"] "_low") (fV 0)) (fV 1)))
  (sSeq (sIf (fTru (fB dGt (fV 2) (fC (.int 2000)))) (sRaiseF "TooMany" "limit" (fC (.int 2000))) sNx)
  (sSeq (bThen (bName 3) (fIfE (fTru (fB dGe (fV 1) (fC (.int 0)))) (fB (dII gShl) (fU (dFld ["Limits"] "_early") (fV 0)) (fV 1)) (fB (dII gShr) (fU (dFld ["Limits"] "_early") (fV 0)) (fU dNeg (fV 1)))))
  (sRet (fCall F__made (fLen 4 (fCons (fV 3) (fCons (fApp (g2 dMax2) (fCons (fC (.int 0)) (fCons (fV 2) fNil))) (fCons (fCall F__turned (fLen 3 (fCons (fU (dFld ["Limits"] "_cycle") (fV 0)) (fCons (fU (dFld ["Limits"] "_span") (fV 0)) (fCons (fV 1) fNil))))) (fCons (fU (dFld ["Limits"] "_span") (fV 0)) fNil)))))))))))
def F_Limits_moved : FnF := fnF 2 4 g_Limits_moved
theorem ok_Limits_moved {f : Addr} {fd : FuncData} (Fu : Fun K "moved" "Limits.moved" s_Limits_moved f fd) (T : Txt mg) (CF : TC P w K mg base a) (h__made : Has P w K mg base "_made" 5 4 F__made) (h__turned : Has P w K mg base "_turned" 1 3 F__turned) (h_is_whole_within : Has P w K mg base "is_whole_within" 1 3 F_is_whole_within) : FG P w K mg base 6 f fd 2 F_Limits_moved :=
  fg_def (k := 5) Fu sc_Limits_moved (fun _ _ _ _ _ _ us hl => match us, hl with | [_, _], _ => rfl) fun cdv A stk s H E hr hgd =>
      (dss_cons (ds_if (dt_not (dt_truth (de_callH h_is_whole_within hr hgd (by decide) rfl (da_cons (de_var 1) (da_cons (de_un un_negD (de_gint rfl T.c_LARGEST)) (da_cons (de_gint rfl T.c_LARGEST) da_nil)))))) (dss_one ds_never) dss_nil)
      (dss_cons (ds_set (i := 2) sc_Limits_moved.nd rfl (by first | exact .inl rfl | exact .inr rfl) (de_bin op_addAD (de_fld CF.fld__low (de_var 0)) (de_var 1)))
      (dss_cons (ds_if (dt_cmp op_gtD (de_var 2) (de_gint rfl T.c_LARGEST) (nomark _) dOrd_bl) (dss_one (ds_raiseF (k := 1) (CX := CX0) rfl takesB PySem.F.excBase_OverflowError ⟨by decide +kernel, by decide +kernel, by decide +kernel⟩ CF.x_TooMany CF.j_TooMany CF.t_TooMany CF.f_TooMany (hr.mono (by decide)) CF.b_TooMany pass0 (raises_own CF.sb_TooMany CF.sy_TooMany) rfl CF.m_TooMany (de_gint rfl T.c_LARGEST))) dss_nil)
      (dss_cons (ds_set (i := 3) sc_Limits_moved.nd rfl (by first | exact .inl rfl | exact .inr rfl) (de_ifE (dt_cmp op_geD (de_var 1) de_int (nomark _) dOrd_bl) (de_bin op_shlD (de_fld CF.fld__early (de_var 0)) (de_var 1)) (de_bin op_shrD (de_fld CF.fld__early (de_var 0)) (de_un un_negD (de_var 1)))))
      (dss_one (ds_ret (de_callH h__made hr hgd (by decide) rfl (da_cons (de_var 3) (da_cons (de_callB (call_max2D rfl) rfl T.n_max (by decide +kernel) (da_cons de_int (da_cons (de_var 2) da_nil))) (da_cons (de_callH h__turned hr hgd (by decide) rfl (da_cons (de_fld CF.fld__cycle (de_var 0)) (da_cons (de_fld CF.fld__span (de_var 0)) (da_cons (de_var 1) da_nil)))) (da_cons (de_fld CF.fld__span (de_var 0)) da_nil)))))))))))
/-! is_whole_from -/
abbrev s_is_whole_from : Stmt := topS 4
abbrev N_is_whole_from : List Str := ["value", "low"]
theorem sc_is_whole_from : FnScope N_is_whole_from ((["value", "low"] : List Str)) (defScope s_is_whole_from) := ⟨rfl, rfl, rfl, by decide +kernel, rfl, by decide +kernel, by decide +kernel⟩
def g_is_whole_from : EvS :=
  (sRet (fAndV (fB dIsW (fApp (g1 dType) (fCons (fV 0) fNil)) (fC (.ty "int"))) (fB dLe (fV 1) (fV 0))))
def F_is_whole_from : FnF := fnF 2 2 g_is_whole_from
theorem ok_is_whole_from {f : Addr} {fd : FuncData} (Fu : Fun K "is_whole_from" "is_whole_from" s_is_whole_from f fd) (T : Txt mg) (CF : TC P w K mg base a) : FG P w K mg base 1 f fd 2 F_is_whole_from :=
  fg_def (k := 0) Fu sc_is_whole_from (fun _ _ _ _ _ _ us hl => match us, hl with | [_, _], _ => rfl) fun cdv A stk s H E hr hgd =>
      (dss_one (ds_ret (de_and (de_cmp op_isWD (de_callTy call_typeD rfl T.n_type (by decide +kernel) (da_cons (de_var 0) da_nil)) (de_gty rfl T.n_int (by decide +kernel)) (nomark _)) (de_one (de_cmp op_leD (de_var 1) (de_var 0) (nomark _))))))
/-! Limits_contains -/
abbrev s_Limits_contains : Stmt := inClass (topS 15) 22
abbrev N_Limits_contains : List Str := ["self", "value"]
theorem sc_Limits_contains : FnScope N_Limits_contains ((["self", "value"] : List Str)) (defScope s_Limits_contains) := ⟨rfl, rfl, rfl, by decide +kernel, rfl, by decide +kernel, by decide +kernel⟩
def g_Limits_contains : EvS :=
  (sSeq (sIf (fNot (fTru (fCall F_is_whole_from (fLen 2 (fCons (fV 1) (fCons (fC (.int 0)) fNil)))))) (sRet (fC (.bl false))) sNx)
  (sSeq (sIf (fTru (fB dLtA (fV 1) (fU (dFld ["Limits"] "_low") (fV 0)))) (sRet (fB dEqW (fB (dII gAnd) (fB (dII gShr) (fU (dFld ["Limits"] "_early") (fV 0)) (fV 1)) (fC (.int 1))) (fC (.int 1)))) sNx)
  (sRet (fB dEqW (fB (dII gAnd) (fB (dII gShr) (fU (dFld ["Limits"] "_cycle") (fV 0)) (fB (dII gMod) (fV 1) (fU (dFld ["Limits"] "_span") (fV 0)))) (fC (.int 1))) (fC (.int 1))))))
def F_Limits_contains : FnF := fnF 2 2 g_Limits_contains
theorem ok_Limits_contains {f : Addr} {fd : FuncData} (Fu : Fun K "__contains__" "Limits.__contains__" s_Limits_contains f fd) (T : Txt mg) (CF : TC P w K mg base a) (h_is_whole_from : Has P w K mg base "is_whole_from" 1 2 F_is_whole_from) : FG P w K mg base 2 f fd 2 F_Limits_contains :=
  fg_def (k := 1) Fu sc_Limits_contains (fun _ _ _ _ _ _ us hl => match us, hl with | [_, _], _ => rfl) fun cdv A stk s H E hr hgd =>
      (dss_cons (ds_if (dt_not (dt_truth (de_callH h_is_whole_from hr hgd (by decide) rfl (da_cons (de_var 1) (da_cons de_int da_nil))))) (dss_one (ds_ret de_bl)) dss_nil)
      (dss_cons (ds_if (dt_cmp (op_ltAD hr.units0) (de_var 1) (de_fld CF.fld__low (de_var 0)) (nomark _) dLtA_bl) (dss_one (ds_ret (de_cmp (op_eqW hr.units) (de_bin op_andD (de_bin op_shrD (de_fld CF.fld__early (de_var 0)) (de_var 1)) de_int) de_int (nomark _)))) dss_nil)
      (dss_one (ds_ret (de_cmp (op_eqW hr.units) (de_bin op_andD (de_bin op_shrD (de_fld CF.fld__cycle (de_var 0)) (de_bin op_modD (de_var 1) (de_fld CF.fld__span (de_var 0)))) de_int) de_int (nomark _))))))
/-! _law_has -/
abbrev s__law_has : Stmt := topS 35
abbrev N__law_has : List Str := ["parts", "number"]
theorem sc__law_has : FnScope N__law_has ((["parts", "number"] : List Str)) (defScope s__law_has) := ⟨rfl, rfl, rfl, by decide +kernel, rfl, by decide +kernel, by decide +kernel⟩
def g__law_has : EvS :=
  (sRet (fIfE (fTru (fB dLtA (fV 1) (fB dIx (fV 0) (fC (.int 1))))) (fB dInR (fV 1) (fB dIx (fV 0) (fC (.int 0)))) (fB dInR (fB (dII gMod) (fV 1) (fB dIx (fV 0) (fC (.int 2)))) (fB dIx (fV 0) (fC (.int 3))))))
def F__law_has : FnF := fnF 2 2 g__law_has
theorem ok__law_has {f : Addr} {fd : FuncData} (Fu : Fun K "_law_has" "_law_has" s__law_has f fd) (T : Txt mg) (CF : TC P w K mg base a) : FG P w K mg base 1 f fd 2 F__law_has :=
  fg_def (k := 0) Fu sc__law_has (fun _ _ _ _ _ _ us hl => match us, hl with | [_, _], _ => rfl) fun cdv A stk s H E hr hgd =>
      (dss_one (ds_ret (de_ifE (dt_cmp (op_ltAD hr.units0) (de_var 1) (de_ix ix_D (de_var 0) de_int) (nomark _) dLtA_bl) (de_cmp (op_inR hr.units) (de_var 1) (de_ix ix_D (de_var 0) de_int) rfl) (de_cmp (op_inR hr.units) (de_bin op_modD (de_var 1) (de_ix ix_D (de_var 0) de_int)) (de_ix ix_D (de_var 0) de_int) rfl))))
/-! _early_below -/
abbrev s__early_below : Stmt := topS 20
abbrev N__early_below : List Str := ["limits", "low"]
theorem sc__early_below : FnScope N__early_below ((["limits", "low"] : List Str)) (defScope s__early_below) := ⟨rfl, rfl, rfl, by decide +kernel, rfl, by decide +kernel, by decide +kernel⟩
def g__early_below : EvS :=
  (sSeq (sIf (fTru (fB dEqW (fU (dFld ["Limits"] "_low") (fV 0)) (fV 1))) (sRet (fU (dFld ["Limits"] "_early") (fV 0))) sNx)
  (sRet (fB (dII gOr) (fU (dFld ["Limits"] "_early") (fV 0)) (fB (dII gShl) (fB (dII gShr) (fCall F__filled (fLen 3 (fCons (fU (dFld ["Limits"] "_cycle") (fV 0)) (fCons (fU (dFld ["Limits"] "_span") (fV 0)) (fCons (fV 1) fNil))))) (fU (dFld ["Limits"] "_low") (fV 0))) (fU (dFld ["Limits"] "_low") (fV 0))))))
def F__early_below : FnF := fnF 2 2 g__early_below
theorem ok__early_below {f : Addr} {fd : FuncData} (Fu : Fun K "_early_below" "_early_below" s__early_below f fd) (T : Txt mg) (CF : TC P w K mg base a) (h__filled : Has P w K mg base "_filled" 1 3 F__filled) : FG P w K mg base 2 f fd 2 F__early_below :=
  fg_def (k := 1) Fu sc__early_below (fun _ _ _ _ _ _ us hl => match us, hl with | [_, _], _ => rfl) fun cdv A stk s H E hr hgd =>
      (dss_cons (ds_if (dt_cmp (op_eqW hr.units) (de_fld CF.fld__low (de_var 0)) (de_var 1) (nomark _) dEqW_bl) (dss_one (ds_ret (de_fld CF.fld__early (de_var 0)))) dss_nil)
      (dss_one (ds_ret (de_bin op_orD (de_fld CF.fld__early (de_var 0)) (de_bin op_shlD (de_bin op_shrD (de_callH h__filled hr hgd (by decide) rfl (da_cons (de_fld CF.fld__cycle (de_var 0)) (da_cons (de_fld CF.fld__span (de_var 0)) (da_cons (de_var 1) da_nil)))) (de_fld CF.fld__low (de_var 0))) (de_fld CF.fld__low (de_var 0)))))))
/-! _aligned -/
abbrev s__aligned : Stmt := topS 19
abbrev N__aligned : List Str := ["one", "other", "span", "low"]
theorem sc__aligned : FnScope N__aligned ((["one", "other"] : List Str)) (defScope s__aligned) := ⟨rfl, rfl, rfl, by decide +kernel, rfl, by decide +kernel, by decide +kernel⟩
def g__aligned : EvS :=
  (sSeq (sIf (fNot (fTru (fApp (g2 (dIsC "Limits" tabP)) (fCons (fV 1) (fCons (fC (.cls "Limits")) fNil))))) (fun _ => none) sNx)
  (sSeq (bThen (bName 2) (fApp (g2 (dII gLcm)) (fCons (fU (dFld ["Limits"] "_span") (fV 0)) (fCons (fU (dFld ["Limits"] "_span") (fV 1)) fNil))))
  (sSeq (sIf (fTru (fB dGt (fV 2) (fC (.int 2000)))) (fun _ => none) sNx)
  (sSeq (bThen (bName 3) (fApp (g2 dMax2) (fCons (fU (dFld ["Limits"] "_low") (fV 0)) (fCons (fU (dFld ["Limits"] "_low") (fV 1)) fNil))))
  (sRet (fApp gTup (fCons (fCall F__early_below (fLen 2 (fCons (fV 0) (fCons (fV 3) fNil)))) (fCons (fCall F__filled (fLen 3 (fCons (fU (dFld ["Limits"] "_cycle") (fV 0)) (fCons (fU (dFld ["Limits"] "_span") (fV 0)) (fCons (fV 2) fNil))))) (fCons (fCall F__early_below (fLen 2 (fCons (fV 1) (fCons (fV 3) fNil)))) (fCons (fCall F__filled (fLen 3 (fCons (fU (dFld ["Limits"] "_cycle") (fV 1)) (fCons (fU (dFld ["Limits"] "_span") (fV 1)) (fCons (fV 2) fNil))))) (fCons (fV 3) (fCons (fV 2) fNil))))))))))))
def F__aligned : FnF := fnF 2 4 g__aligned
theorem ok__aligned {f : Addr} {fd : FuncData} (Fu : Fun K "_aligned" "_aligned" s__aligned f fd) (T : Txt mg) (CF : TC P w K mg base a) (h__early_below : Has P w K mg base "_early_below" 2 2 F__early_below) (h__filled : Has P w K mg base "_filled" 1 3 F__filled) : FG P w K mg base 3 f fd 2 F__aligned :=
  fg_def (k := 2) Fu sc__aligned (fun _ _ _ _ _ _ us hl => match us, hl with | [_, _], _ => rfl) fun cdv A stk s H E hr hgd =>
      (dss_cons (ds_if (dt_not (dt_truth (de_callB (call_isCD CF.ns_Limits CF.ic_Limits CF.kt_Limits) rfl T.n_isinstance (by decide +kernel) (da_cons (de_var 1) (da_cons (de_gcls CF.ns_Limits rfl CF.m_Limits) da_nil))))) (dss_one ds_never) dss_nil)
      (dss_cons (ds_set (i := 2) sc__aligned.nd rfl (by first | exact .inl rfl | exact .inr rfl) (de_callBf call_lcmD rfl T.b_lcm (da_cons (de_fld CF.fld__span (de_var 0)) (da_cons (de_fld CF.fld__span (de_var 1)) da_nil))))
      (dss_cons (ds_if (dt_cmp op_gtD (de_var 2) (de_gint rfl T.c_LARGEST) (nomark _) dOrd_bl) (dss_one ds_never) dss_nil)
      (dss_cons (ds_set (i := 3) sc__aligned.nd rfl (by first | exact .inl rfl | exact .inr rfl) (de_callB (call_max2D rfl) rfl T.n_max (by decide +kernel) (da_cons (de_fld CF.fld__low (de_var 0)) (da_cons (de_fld CF.fld__low (de_var 1)) da_nil))))
      (dss_one (ds_ret (de_tup (da_cons (de_callH h__early_below hr hgd (by decide) rfl (da_cons (de_var 0) (da_cons (de_var 3) da_nil))) (da_cons (de_callH h__filled hr hgd (by decide) rfl (da_cons (de_fld CF.fld__cycle (de_var 0)) (da_cons (de_fld CF.fld__span (de_var 0)) (da_cons (de_var 2) da_nil)))) (da_cons (de_callH h__early_below hr hgd (by decide) rfl (da_cons (de_var 1) (da_cons (de_var 3) da_nil))) (da_cons (de_callH h__filled hr hgd (by decide) rfl (da_cons (de_fld CF.fld__cycle (de_var 1)) (da_cons (de_fld CF.fld__span (de_var 1)) (da_cons (de_var 2) da_nil)))) (da_cons (de_var 3) (da_cons (de_var 2) da_nil)))))))))))))
/-! Limits_and -/
abbrev s_Limits_and : Stmt := inClass (topS 15) 17
abbrev N_Limits_and : List Str := ["self", "other", "early", "cycle", "other_early", "other_cycle", "low", "span"]
theorem sc_Limits_and : FnScope N_Limits_and ((["self", "other"] : List Str)) (defScope s_Limits_and) := ⟨rfl, rfl, rfl, by decide +kernel, rfl, by decide +kernel, by decide +kernel⟩
def g_Limits_and : EvS :=
  (sSeq (bThen (bSeq 6 (bsCons (bName 2) (bsCons (bName 3) (bsCons (bName 4) (bsCons (bName 5) (bsCons (bName 6) (bsCons (bName 7) bsNil))))))) (fCall F__aligned (fLen 2 (fCons (fV 0) (fCons (fV 1) fNil)))))
  (sRet (fCall F__made (fLen 4 (fCons (fB (dII gAnd) (fV 2) (fV 4)) (fCons (fV 6) (fCons (fB (dII gAnd) (fV 3) (fV 5)) (fCons (fV 7) fNil))))))))
def F_Limits_and : FnF := fnF 2 8 g_Limits_and
theorem ok_Limits_and {f : Addr} {fd : FuncData} (Fu : Fun K "__and__" "Limits.__and__" s_Limits_and f fd) (T : Txt mg) (CF : TC P w K mg base a) (h__aligned : Has P w K mg base "_aligned" 3 2 F__aligned) (h__made : Has P w K mg base "_made" 5 4 F__made) : FG P w K mg base 6 f fd 2 F_Limits_and :=
  fg_def (k := 5) Fu sc_Limits_and (fun _ _ _ _ _ _ us hl => match us, hl with | [_, _], _ => rfl) fun cdv A stk s H E hr hgd =>
      (dss_cons (ds_asg (de_callH h__aligned hr hgd (by decide) rfl (da_cons (de_var 0) (da_cons (de_var 1) da_nil))) (dg_seq rfl (dgs_cons (dg_name (i := 2) sc_Limits_and.nd rfl (by first | exact .inl rfl | exact .inr rfl)) (dgs_cons (dg_name (i := 3) sc_Limits_and.nd rfl (by first | exact .inl rfl | exact .inr rfl)) (dgs_cons (dg_name (i := 4) sc_Limits_and.nd rfl (by first | exact .inl rfl | exact .inr rfl)) (dgs_cons (dg_name (i := 5) sc_Limits_and.nd rfl (by first | exact .inl rfl | exact .inr rfl)) (dgs_cons (dg_name (i := 6) sc_Limits_and.nd rfl (by first | exact .inl rfl | exact .inr rfl)) (dgs_cons (dg_name (i := 7) sc_Limits_and.nd rfl (by first | exact .inl rfl | exact .inr rfl)) dgs_nil))))))))
      (dss_one (ds_ret (de_callH h__made hr hgd (by decide) rfl (da_cons (de_bin op_andD (de_var 2) (de_var 4)) (da_cons (de_var 6) (da_cons (de_bin op_andD (de_var 3) (de_var 5)) (da_cons (de_var 7) da_nil))))))))
/-! Limits_since -/
abbrev s_Limits_since : Stmt := inClass (topS 15) 3
abbrev N_Limits_since : List Str := ["cls", "number"]
theorem sc_Limits_since : FnScope N_Limits_since ((["cls", "number"] : List Str)) (defScope s_Limits_since) := ⟨rfl, rfl, rfl, by decide +kernel, rfl, by decide +kernel, by decide +kernel⟩
def g_Limits_since : EvS :=
  (sSeq (sIf (fNot (fTru (fCall F_is_whole_within (fLen 3 (fCons (fV 1) (fCons (fC (.int 0)) (fCons (fC (.int 2000)) fNil))))))) (fun _ => none) sNx)
  (sRetX (fLocNew 0 "Limits" (only 5 F_Limits_init) (fCons (fApp gTup fNil) (fCons (fV 1) (fCons (fC (.int 1)) (fCons (fApp gTup (fCons (fC (.int 0)) fNil)) fNil)))))))
def F_Limits_since : FnF := fnF 2 2 g_Limits_since
theorem ok_Limits_since {f : Addr} {fd : FuncData} (Fu : Fun K "since" "Limits.since" s_Limits_since f fd) (T : Txt mg) (CF : TC P w K mg base a) (h_is_whole_within : Has P w K mg base "is_whole_within" 1 3 F_is_whole_within) (h_Limits_init : FG P w K mg base 3 a.f_Limits_init a.d_Limits_init 5 F_Limits_init) : FG P w K mg base 5 f fd 2 F_Limits_since :=
  fg_def (k := 4) Fu sc_Limits_since (fun _ _ _ _ _ _ us hl => match us, hl with | [_, _], _ => rfl) fun cdv A stk s H E hr hgd =>
      (dss_cons (ds_if (dt_not (dt_truth (de_callH h_is_whole_within hr hgd (by decide) rfl (da_cons (de_var 1) (da_cons de_int (da_cons (de_gint rfl T.c_LARGEST) da_nil)))))) (dss_one ds_never) dss_nil)
      (dss_one (ds_retX (de_locNewP (i := 0) takesB rfl (.inl rfl) CF.mk_Limits h_Limits_init.fr (hr.mono (by decide)) hgd CF.ns_Limits (da_cons (de_tup da_nil) (da_cons (de_var 1) (da_cons de_int (da_cons (de_tup (da_cons de_int da_nil)) da_nil))))))))
/-! Limits_eq -/
abbrev s_Limits_eq : Stmt := inClass (topS 15) 23
abbrev N_Limits_eq : List Str := ["self", "other"]
theorem sc_Limits_eq : FnScope N_Limits_eq ((["self", "other"] : List Str)) (defScope s_Limits_eq) := ⟨rfl, rfl, rfl, by decide +kernel, rfl, by decide +kernel, by decide +kernel⟩
def g_Limits_eq : EvS :=
  (sSeq (sIf (fOr (fNot (fTru (fApp (g2 (dIsC "Limits" tabP)) (fCons (fV 1) (fCons (fC (.cls "Limits")) fNil))))) (fOr (fTru (fB dNeW (fU (dFld ["Limits"] "_low") (fV 0)) (fU (dFld ["Limits"] "_low") (fV 1)))) (fTru (fB dNeW (fU (dFld ["Limits"] "_span") (fV 0)) (fU (dFld ["Limits"] "_span") (fV 1)))))) (sRet (fC (.bl false))) sNx)
  (sRet (fAndV (fB dEqW (fU (dFld ["Limits"] "_early") (fV 0)) (fU (dFld ["Limits"] "_early") (fV 1))) (fB dEqW (fU (dFld ["Limits"] "_cycle") (fV 0)) (fU (dFld ["Limits"] "_cycle") (fV 1))))))
def F_Limits_eq : FnF := fnF 2 2 g_Limits_eq
theorem ok_Limits_eq {f : Addr} {fd : FuncData} (Fu : Fun K "__eq__" "Limits.__eq__" s_Limits_eq f fd) (T : Txt mg) (CF : TC P w K mg base a) : FG P w K mg base 1 f fd 2 F_Limits_eq :=
  fg_def (k := 0) Fu sc_Limits_eq (fun _ _ _ _ _ _ us hl => match us, hl with | [_, _], _ => rfl) fun cdv A stk s H E hr hgd =>
      (dss_cons (ds_if (PW.pt (dw_or (dt_not (dt_truth (de_callB (call_isCD CF.ns_Limits CF.ic_Limits CF.kt_Limits) rfl T.n_isinstance (by decide +kernel) (da_cons (de_var 1) (da_cons (de_gcls CF.ns_Limits rfl CF.m_Limits) da_nil))))) (dw_or (dt_cmp (op_neW hr.units) (de_fld CF.fld__low (de_var 0)) (de_fld CF.fld__low (de_var 1)) (nomark _) dNeW_bl) (dw_or1 (dt_cmp (op_neW hr.units) (de_fld CF.fld__span (de_var 0)) (de_fld CF.fld__span (de_var 1)) (nomark _) dNeW_bl))))) (dss_one (ds_ret de_bl)) dss_nil)
      (dss_one (ds_ret (de_and (de_cmp (op_eqW hr.units) (de_fld CF.fld__early (de_var 0)) (de_fld CF.fld__early (de_var 1)) (nomark _)) (de_one (de_cmp (op_eqW hr.units) (de_fld CF.fld__cycle (de_var 0)) (de_fld CF.fld__cycle (de_var 1)) (nomark _)))))))
/-! _law_right -/
abbrev s__law_right : Stmt := topS 38
abbrev N__law_right : List Str := ["urn", "parts", "number", "one", "moved", "at", "back", "kept"]
theorem sc__law_right : FnScope N__law_right ((["urn"] : List Str)) (defScope s__law_right) := ⟨rfl, rfl, rfl, by decide +kernel, rfl, by decide +kernel, by decide +kernel⟩
def g__law_right : EvS :=
  (sSeq (sPar 1 2 (fCons (fCall F__law_drawn (fLen 1 (fCons (fV 0) fNil))) (fCons (fB (dII gSub) (fCall F__law_toss (fLen 2 (fCons (fV 0) (fCons (fC (.int 61)) fNil)))) (fC (.int 20))) fNil)))
  (sSeq (bThen (bName 3) (fCall F__law_limits (fLen 1 (fCons (fV 1) fNil))))
  (sSeq (bThen (bName 4) (fNox (fMethX "Limits" "moved" F_Limits_moved (fV 3) (fLen 1 (fCons (fV 2) fNil)))))
  (sSeq (sFor (gRng1 (fCons (fC (.int 150)) fNil)) (bName 5) (sIf (fTru (fB dNeW (fBM (gIn "Limits" (only 2 F_Limits_contains) id) (fV 5) (fV 4)) (fAndV (fB dGe (fV 5) (fV 2)) (fCall F__law_has (fLen 2 (fCons (fV 1) (fCons (fB (dII gSub) (fV 5) (fV 2)) fNil))))))) (sRet (fC (.bl false))) sNx))
  (sSeq (bThen (bName 6) (fNox (fMethX "Limits" "moved" F_Limits_moved (fV 4) (fLen 1 (fCons (fB (dII gSub) (fC (.int 0)) (fV 2)) fNil)))))
  (sSeq (bThen (bName 7) (fIfE (fTru (fB dGe (fV 2) (fC (.int 0)))) (fV 3) (fBM (gBinO "Limits" (only 2 F_Limits_and)) (fV 3) (fNox (fCallR (clsF "Limits" (only 2 F_Limits_since)) (fCons (fB (dII gSub) (fC (.int 0)) (fV 2)) fNil))))))
  (sRet (fAndV (fBM (gOwn2 "Limits" (only 2 F_Limits_eq) id) (fV 6) (fV 7)) (fAndV (fBM (gOwn2 "Limits" (only 2 F_Limits_eq) id) (fNox (fMethX "Limits" "moved" F_Limits_moved (fV 3) (fLen 1 (fCons (fC (.int 0)) fNil)))) (fV 3)) (fBM (gOwn2 "Limits" (only 2 F_Limits_eq) id) (fCall F__law_limits (fLen 1 (fCons (fV 1) fNil))) (fV 3)))))))))))
def F__law_right : FnF := fnF 1 8 g__law_right
theorem ok__law_right {f : Addr} {fd : FuncData} (Fu : Fun K "_law_right" "_law_right" s__law_right f fd) (T : Txt mg) (CF : TC P w K mg base a) (h__law_drawn : Has P w K mg base "_law_drawn" 3 1 F__law_drawn) (h__law_has : Has P w K mg base "_law_has" 1 2 F__law_has) (h__law_limits : Has P w K mg base "_law_limits" 5 1 F__law_limits) (h__law_toss : Has P w K mg base "_law_toss" 1 2 F__law_toss) (h_Limits_and : FG P w K mg base 6 a.f_Limits_and a.d_Limits_and 2 F_Limits_and) (h_Limits_contains : FG P w K mg base 2 a.f_Limits_contains a.d_Limits_contains 2 F_Limits_contains) (h_Limits_eq : FG P w K mg base 1 a.f_Limits_eq a.d_Limits_eq 2 F_Limits_eq) (h_Limits_moved : FG P w K mg base 6 a.f_Limits_moved a.d_Limits_moved 2 F_Limits_moved) (h_Limits_since : FG P w K mg base 5 a.f_Limits_since a.d_Limits_since 2 F_Limits_since) : FG P w K mg base 7 f fd 1 F__law_right :=
  fg_def (k := 6) Fu sc__law_right (fun _ _ _ _ _ _ us hl => match us, hl with | [_], _ => rfl) fun cdv A stk s H E hr hgd =>
      (dss_cons (ds_par (i := 1) (j := 2) rfl sc__law_right.nd rfl rfl (by decide) rfl rfl (da_cons (de_callH h__law_drawn hr hgd (by decide) rfl (da_cons (de_var 0) da_nil)) (da_cons (de_bin op_subD (de_callH h__law_toss hr hgd (by decide) rfl (da_cons (de_var 0) (da_cons de_int da_nil))) de_int) da_nil)) rfl)
      (dss_cons (ds_set (i := 3) sc__law_right.nd rfl (by first | exact .inl rfl | exact .inr rfl) (de_callH h__law_limits hr hgd (by decide) rfl (da_cons (de_var 1) da_nil)))
      (dss_cons (ds_set (i := 4) sc__law_right.nd rfl (by first | exact .inl rfl | exact .inr rfl) (de_meth CF.cl_Limits CF.me_Limits_moved h_Limits_moved (hr.mono (by decide)) hgd CF.ns_Limits (de_var 3) (da_cons (de_var 2) da_nil)))
      (dss_cons (ds_for passB rfl (di_range1 rfl T.n_range (da_cons de_int da_nil)) (dg_name (i := 5) sc__law_right.nd rfl (by first | exact .inl rfl | exact .inr rfl)) (dss_one (ds_if (dt_cmp (op_neW hr.units) (de_cmpM (op_inO CF.ns_Limits CF.s_Limits_contains CF.i_Limits_contains h_Limits_contains.fr (hr.mono (by decide)) hgd) (de_var 5) (de_var 4) rfl) (de_and (de_cmp op_geD (de_var 5) (de_var 2) (nomark _)) (de_one (de_callH h__law_has hr hgd (by decide) rfl (da_cons (de_var 1) (da_cons (de_bin op_subD (de_var 5) (de_var 2)) da_nil))))) (nomark _) dNeW_bl) (dss_one (ds_ret de_bl)) dss_nil)))
      (dss_cons (ds_set (i := 6) sc__law_right.nd rfl (by first | exact .inl rfl | exact .inr rfl) (de_meth CF.cl_Limits CF.me_Limits_moved h_Limits_moved (hr.mono (by decide)) hgd CF.ns_Limits (de_var 4) (da_cons (de_bin op_subD de_int (de_var 2)) da_nil)))
      (dss_cons (ds_set (i := 7) sc__law_right.nd rfl (by first | exact .inl rfl | exact .inr rfl) (de_ifE (dt_cmp op_geD (de_var 2) de_int (nomark _) dOrd_bl) (de_var 3) (de_binM (op_binO (op := .BitAnd) CF.ns_Limits CF.sf_Limits CF.s_Limits_and CF.i_Limits_and h_Limits_and.fr (hr.mono (by decide)) hgd) (de_var 3) (de_cmeth CF.cr_Limits CF.cm_Limits_since h_Limits_since.fr (hr.mono (by decide)) hgd CF.ns_Limits rfl CF.m_Limits (da_cons (de_bin op_subD de_int (de_var 2)) da_nil)))))
      (dss_one (ds_ret (de_and (de_cmpM (op_eqO2 CF.ns_Limits CF.s_Limits_eq CF.i_Limits_eq h_Limits_eq.fr (hr.mono (by decide)) hgd) (de_var 6) (de_var 7) (nomark _)) (de_and (de_cmpM (op_eqO2 CF.ns_Limits CF.s_Limits_eq CF.i_Limits_eq h_Limits_eq.fr (hr.mono (by decide)) hgd) (de_meth CF.cl_Limits CF.me_Limits_moved h_Limits_moved (hr.mono (by decide)) hgd CF.ns_Limits (de_var 3) (da_cons de_int da_nil)) (de_var 3) (nomark _)) (de_one (de_cmpM (op_eqO2 CF.ns_Limits CF.s_Limits_eq CF.i_Limits_eq h_Limits_eq.fr (hr.mono (by decide)) hgd) (de_callH h__law_limits hr hgd (by decide) rfl (da_cons (de_var 1) da_nil)) (de_var 3) (nomark _)))))))))))))
/-! Limits_only -/
abbrev s_Limits_only : Stmt := inClass (topS 15) 4
abbrev N_Limits_only : List Str := ["cls", "values"]
theorem sc_Limits_only : FnScope N_Limits_only ((["cls", "values"] : List Str)) (defScope s_Limits_only) := ⟨rfl, rfl, rfl, by decide +kernel, rfl, by decide +kernel, by decide +kernel⟩
def g_Limits_only : EvS :=
  (sRetX (fLocNew 0 "Limits" (only 5 F_Limits_init) (fCons (fV 1) (fCons (fC (.int 2000)) (fCons (fC (.int 1)) (fCons (fApp gTup fNil) fNil))))))
def F_Limits_only : FnF := fnF 2 2 g_Limits_only
theorem ok_Limits_only {f : Addr} {fd : FuncData} (Fu : Fun K "only" "Limits.only" s_Limits_only f fd) (T : Txt mg) (CF : TC P w K mg base a) (h_Limits_init : FG P w K mg base 3 a.f_Limits_init a.d_Limits_init 5 F_Limits_init) : FG P w K mg base 5 f fd 2 F_Limits_only :=
  fg_def (k := 4) Fu sc_Limits_only (fun _ _ _ _ _ _ us hl => match us, hl with | [_, _], _ => rfl) fun cdv A stk s H E hr hgd =>
      (dss_one (ds_retX (de_locNewP (i := 0) takesB rfl (.inl rfl) CF.mk_Limits h_Limits_init.fr (hr.mono (by decide)) hgd CF.ns_Limits (da_cons (de_var 1) (da_cons (de_gint rfl T.c_LARGEST) (da_cons de_int (da_cons (de_tup da_nil) da_nil)))))))
/-! Limits_every -/
abbrev s_Limits_every : Stmt := inClass (topS 15) 1
abbrev N_Limits_every : List Str := ["cls"]
theorem sc_Limits_every : FnScope N_Limits_every ((["cls"] : List Str)) (defScope s_Limits_every) := ⟨rfl, rfl, rfl, by decide +kernel, rfl, by decide +kernel, by decide +kernel⟩
def g_Limits_every : EvS :=
  (sRetX (fLocNew 0 "Limits" (only 5 F_Limits_init) (fCons (fApp gTup fNil) (fCons (fC (.int 0)) (fCons (fC (.int 1)) (fCons (fApp gTup (fCons (fC (.int 0)) fNil)) fNil))))))
def F_Limits_every : FnF := fnF 1 1 g_Limits_every
theorem ok_Limits_every {f : Addr} {fd : FuncData} (Fu : Fun K "every" "Limits.every" s_Limits_every f fd) (T : Txt mg) (CF : TC P w K mg base a) (h_Limits_init : FG P w K mg base 3 a.f_Limits_init a.d_Limits_init 5 F_Limits_init) : FG P w K mg base 5 f fd 1 F_Limits_every :=
  fg_def (k := 4) Fu sc_Limits_every (fun _ _ _ _ _ _ us hl => match us, hl with | [_], _ => rfl) fun cdv A stk s H E hr hgd =>
      (dss_one (ds_retX (de_locNewP (i := 0) takesB rfl (.inl rfl) CF.mk_Limits h_Limits_init.fr (hr.mono (by decide)) hgd CF.ns_Limits (da_cons (de_tup da_nil) (da_cons de_int (da_cons de_int (da_cons (de_tup (da_cons de_int da_nil)) da_nil)))))))
/-! Limits_none -/
abbrev s_Limits_none : Stmt := inClass (topS 15) 2
abbrev N_Limits_none : List Str := ["cls"]
theorem sc_Limits_none : FnScope N_Limits_none ((["cls"] : List Str)) (defScope s_Limits_none) := ⟨rfl, rfl, rfl, by decide +kernel, rfl, by decide +kernel, by decide +kernel⟩
def g_Limits_none : EvS :=
  (sRetX (fLocNew 0 "Limits" (only 5 F_Limits_init) (fCons (fApp gTup fNil) (fCons (fC (.int 0)) (fCons (fC (.int 1)) (fCons (fApp gTup fNil) fNil))))))
def F_Limits_none : FnF := fnF 1 1 g_Limits_none
theorem ok_Limits_none {f : Addr} {fd : FuncData} (Fu : Fun K "none" "Limits.none" s_Limits_none f fd) (T : Txt mg) (CF : TC P w K mg base a) (h_Limits_init : FG P w K mg base 3 a.f_Limits_init a.d_Limits_init 5 F_Limits_init) : FG P w K mg base 5 f fd 1 F_Limits_none :=
  fg_def (k := 4) Fu sc_Limits_none (fun _ _ _ _ _ _ us hl => match us, hl with | [_], _ => rfl) fun cdv A stk s H E hr hgd =>
      (dss_one (ds_retX (de_locNewP (i := 0) takesB rfl (.inl rfl) CF.mk_Limits h_Limits_init.fr (hr.mono (by decide)) hgd CF.ns_Limits (da_cons (de_tup da_nil) (da_cons de_int (da_cons de_int (da_cons (de_tup da_nil) da_nil)))))))
/-! law -/
abbrev s_law : Stmt := topS 39
abbrev N_law : List Str := ["script", "spot", "urn", "odd", "few"]
theorem sc_law : FnScope N_law ((["script"] : List Str)) (defScope s_law) := ⟨rfl, rfl, rfl, by decide +kernel, rfl, by decide +kernel, by decide +kernel⟩
noncomputable def g_law : EvS :=
  (sSeq (sFor (gRng1 (fCons (fApp (g2 dMax2) (fCons (fC (.int 1)) (fCons (fApp (g2 dMin2) (fCons (fC (.int 10)) (fCons (fApp (g1 dLen) (fCons (fV 0) fNil)) fNil))) fNil))) fNil)) (bName 1) (sSeq (bThen (bName 2) (fCall F__law_urn (fLen 2 (fCons (fV 0) (fCons (fV 1) fNil)))))
  (sIf (fOr (fNot (fTru (fCall F__law_right (fLen 1 (fCons (fV 2) fNil))))) (fNot (fTru (fCall F__law_right (fLen 1 (fCons (fV 2) fNil)))))) (sRet (fC (.bl false))) sNx)))
  (sSeq (bThen (bSeq 2 (bsCons (bName 3) (bsCons (bName 4) bsNil))) (fApp gTup (fCons (fNox (fCallR (mkF "Limits" (only 5 F_Limits_init)) (fCons (fApp gTup fNil) (fCons (fC (.int 0)) (fCons (fC (.int 2)) (fCons (fApp gTup (fCons (fC (.int 1)) fNil)) fNil)))))) (fCons (fNox (fCallR (clsF "Limits" (only 2 F_Limits_only)) (fCons (fApp gTup (fCons (fC (.int 1)) (fCons (fC (.int 1999)) fNil))) fNil))) fNil))))
  (sSeq (sIf (fTru (fBM (gNeL "Limits" (only 2 F_Limits_eq)) (fApp gLst (fCons (fNox (fMethX "Limits" "moved" F_Limits_moved (fV 3) (fLen 1 (fCons (fU dNeg (fC (.int 2))) fNil)))) (fCons (fNox (fMethX "Limits" "moved" F_Limits_moved (fV 3) (fLen 1 (fCons (fC (.int 2)) fNil)))) (fCons (fNox (fMethX "Limits" "moved" F_Limits_moved (fV 3) (fLen 1 (fCons (fU dNeg (fC (.int 1))) fNil)))) fNil)))) (fApp gLst (fCons (fV 3) (fCons (fNox (fCallR (mkF "Limits" (only 5 F_Limits_init)) (fCons (fApp gTup fNil) (fCons (fC (.int 2)) (fCons (fC (.int 2)) (fCons (fApp gTup (fCons (fC (.int 1)) fNil)) fNil)))))) (fCons (fNox (fCallR (mkF "Limits" (only 5 F_Limits_init)) (fCons (fApp gTup fNil) (fCons (fC (.int 0)) (fCons (fC (.int 2)) (fCons (fApp gTup (fCons (fC (.int 0)) fNil)) fNil)))))) fNil)))))) (sRet (fC (.bl false))) sNx)
  (sSeq (sIf (fOr (fNot (fTru (fMetR 0 "law" (qL "law") hTooMany "limit" (.bl false) (rReprIs "2000") (fMethX "Limits" "moved" F_Limits_moved (fV 4) (fLen 1 (fCons (fC (.int 1)) fNil)))))) (fOr (fTru (fBM (gOwn2 "Limits" (only 2 F_Limits_eq) not) (fNox (fMethX "Limits" "moved" F_Limits_moved (fV 4) (fLen 1 (fCons (fC (.int 0)) fNil)))) (fV 4))) (fTru (fBM (gOwn2 "Limits" (only 2 F_Limits_eq) not) (fNox (fMethX "Limits" "moved" F_Limits_moved (fV 4) (fLen 1 (fCons (fU dNeg (fC (.int 2))) fNil)))) (fNox (fCallR (clsF "Limits" (only 2 F_Limits_only)) (fCons (fApp gTup (fCons (fC (.int 1997)) fNil)) fNil))))))) (sRet (fC (.bl false))) sNx)
  (sRet (fAndV (fBM (gOwn2 "Limits" (only 2 F_Limits_eq) id) (fNox (fMethX "Limits" "moved" F_Limits_moved (fNox (fCallR (clsF "Limits" (only 2 F_Limits_since)) (fCons (fC (.int 2000)) fNil))) (fLen 1 (fCons (fU dNeg (fC (.int 2000))) fNil)))) (fNox (fCallR (clsF "Limits" (only 1 F_Limits_every)) fNil))) (fBM (gOwn2 "Limits" (only 2 F_Limits_eq) id) (fNox (fMethX "Limits" "moved" F_Limits_moved (fNox (fCallR (clsF "Limits" (only 1 F_Limits_none)) fNil)) (fLen 1 (fCons (fC (.int 2000)) fNil)))) (fNox (fCallR (clsF "Limits" (only 1 F_Limits_none)) fNil)))))))))
noncomputable def F_law : FnF := fnF 1 5 g_law
theorem ok_law {f : Addr} {fd : FuncData} (Fu : Fun K "law" "law" s_law f fd) (T : Txt mg) (CF : TC P w K mg base a) (h__law_right : Has P w K mg base "_law_right" 7 1 F__law_right) (h__law_urn : Has P w K mg base "_law_urn" 1 2 F__law_urn) (h_Limits_eq : FG P w K mg base 1 a.f_Limits_eq a.d_Limits_eq 2 F_Limits_eq) (h_Limits_every : FG P w K mg base 5 a.f_Limits_every a.d_Limits_every 1 F_Limits_every) (h_Limits_init : FG P w K mg base 3 a.f_Limits_init a.d_Limits_init 5 F_Limits_init) (h_Limits_moved : FG P w K mg base 6 a.f_Limits_moved a.d_Limits_moved 2 F_Limits_moved) (h_Limits_none : FG P w K mg base 5 a.f_Limits_none a.d_Limits_none 1 F_Limits_none) (h_Limits_only : FG P w K mg base 5 a.f_Limits_only a.d_Limits_only 2 F_Limits_only) (h_Limits_since : FG P w K mg base 5 a.f_Limits_since a.d_Limits_since 2 F_Limits_since) {cL PL : Addr} (TB : LamX.TabB base mg cL PL) (tt : PySem.W.tabIn K "law" = some (cL, PL)) (an : PySem.W.nsIn K mainGlobals "law" = some (some (.ref f))) : FG P w K mg base 9 f fd 1 F_law :=
  fg_defT (k := 8) Fu sc_law an tt (fun _ _ _ _ _ _ us hl => match us, hl with | [_], _ => rfl) fun A stk s H E hr hgd =>
      (dss_cons (ds_for passB rfl (di_range1 rfl T.n_range (da_cons (de_callB (call_max2D rfl) rfl T.n_max (by decide +kernel) (da_cons de_int (da_cons (de_callB (call_min2D rfl) rfl T.n_min (by decide +kernel) (da_cons de_int (da_cons (de_callB call_lenD rfl T.n_len (by decide +kernel) (da_cons (de_var 0) da_nil)) da_nil))) da_nil))) da_nil)) (dg_name (i := 1) sc_law.nd rfl (by first | exact .inl rfl | exact .inr rfl)) (dss_cons (ds_set (i := 2) sc_law.nd rfl (by first | exact .inl rfl | exact .inr rfl) (de_callH h__law_urn hr hgd (by decide) rfl (da_cons (de_var 0) (da_cons (de_var 1) da_nil))))
      (dss_one (ds_if (PW.pt (dw_or (dt_not (dt_truth (de_callH h__law_right hr hgd (by decide) rfl (da_cons (de_var 2) da_nil)))) (dw_or1 (dt_not (dt_truth (de_callH h__law_right hr hgd (by decide) rfl (da_cons (de_var 2) da_nil))))))) (dss_one (ds_ret de_bl)) dss_nil))))
      (dss_cons (ds_asg (de_tup (da_cons (de_new CF.mk_Limits h_Limits_init.fr (hr.mono (by decide)) hgd CF.ns_Limits rfl CF.m_Limits (da_cons (de_tup da_nil) (da_cons de_int (da_cons de_int (da_cons (de_tup (da_cons de_int da_nil)) da_nil))))) (da_cons (de_cmeth CF.cr_Limits CF.cm_Limits_only h_Limits_only.fr (hr.mono (by decide)) hgd CF.ns_Limits rfl CF.m_Limits (da_cons (de_tup (da_cons de_int (da_cons de_int da_nil))) da_nil)) da_nil))) (dg_seq rfl (dgs_cons (dg_name (i := 3) sc_law.nd rfl (by first | exact .inl rfl | exact .inr rfl)) (dgs_cons (dg_name (i := 4) sc_law.nd rfl (by first | exact .inl rfl | exact .inr rfl)) dgs_nil))))
      (dss_cons (ds_if (dt_cmpM (op_neLO CF.ns_Limits CF.s_Limits_eq CF.i_Limits_eq h_Limits_eq.fr (hr.mono (by decide)) hgd) (de_lst (da_cons (de_meth CF.cl_Limits CF.me_Limits_moved h_Limits_moved (hr.mono (by decide)) hgd CF.ns_Limits (de_var 3) (da_cons (de_un un_negD de_int) da_nil)) (da_cons (de_meth CF.cl_Limits CF.me_Limits_moved h_Limits_moved (hr.mono (by decide)) hgd CF.ns_Limits (de_var 3) (da_cons de_int da_nil)) (da_cons (de_meth CF.cl_Limits CF.me_Limits_moved h_Limits_moved (hr.mono (by decide)) hgd CF.ns_Limits (de_var 3) (da_cons (de_un un_negD de_int) da_nil)) da_nil)))) (de_lst (da_cons (de_var 3) (da_cons (de_new CF.mk_Limits h_Limits_init.fr (hr.mono (by decide)) hgd CF.ns_Limits rfl CF.m_Limits (da_cons (de_tup da_nil) (da_cons de_int (da_cons de_int (da_cons (de_tup (da_cons de_int da_nil)) da_nil))))) (da_cons (de_new CF.mk_Limits h_Limits_init.fr (hr.mono (by decide)) hgd CF.ns_Limits rfl CF.m_Limits (da_cons (de_tup da_nil) (da_cons de_int (da_cons de_int (da_cons (de_tup (da_cons de_int da_nil)) da_nil))))) da_nil)))) (nomark _) gNeL_bl) (dss_one (ds_ret de_bl)) dss_nil)
      (dss_cons (ds_if (PW.pt (dw_or (dt_not (dt_truth (de_metR (k := 6) (j := 0) (h := hTooMany) (w := .bl false) (d := .bl false) CF.fu_met sc__law_is_refused hB__law_is_refused rfl rfl (by decide) (.inl rfl) rfl rfl rfl T.n_repr CF.m_TooMany (fun _ => rfl) (fun _ => rfl) CF.hh CF.hex CF.xq_TooMany CF.no_TooMany (fun _ => pe_bl) (fun _ _ => .bl false) rfl CF.mm TB tt rfl rfl (hr.mono (by decide)) hgd (LamX.lamS_by (sc := defScope s_law) (by decide +kernel)) rfl (fun _ _ _ _ => rfl) (fun _ _ _ _ _ _ _ hr hgd => (de_methX (takes_of rfl rfl rfl rfl) CF.cl_Limits CF.me_Limits_moved h_Limits_moved (hr.mono (by decide)) hgd CF.ns_Limits (de_var 4) (da_cons de_int da_nil)))))) (dw_or (dt_cmpM (op_neO2 CF.ns_Limits CF.s_Limits_eq CF.i_Limits_eq CF.ne_Limits CF.mr_Limits h_Limits_eq.fr (hr.mono (by decide)) hgd) (de_meth CF.cl_Limits CF.me_Limits_moved h_Limits_moved (hr.mono (by decide)) hgd CF.ns_Limits (de_var 4) (da_cons de_int da_nil)) (de_var 4) (nomark _) gOwn2_bl) (dw_or1 (dt_cmpM (op_neO2 CF.ns_Limits CF.s_Limits_eq CF.i_Limits_eq CF.ne_Limits CF.mr_Limits h_Limits_eq.fr (hr.mono (by decide)) hgd) (de_meth CF.cl_Limits CF.me_Limits_moved h_Limits_moved (hr.mono (by decide)) hgd CF.ns_Limits (de_var 4) (da_cons (de_un un_negD de_int) da_nil)) (de_cmeth CF.cr_Limits CF.cm_Limits_only h_Limits_only.fr (hr.mono (by decide)) hgd CF.ns_Limits rfl CF.m_Limits (da_cons (de_tup (da_cons de_int da_nil)) da_nil)) (nomark _) gOwn2_bl))))) (dss_one (ds_ret de_bl)) dss_nil)
      (dss_one (ds_ret (de_and (de_cmpM (op_eqO2 CF.ns_Limits CF.s_Limits_eq CF.i_Limits_eq h_Limits_eq.fr (hr.mono (by decide)) hgd) (de_meth CF.cl_Limits CF.me_Limits_moved h_Limits_moved (hr.mono (by decide)) hgd CF.ns_Limits (de_cmeth CF.cr_Limits CF.cm_Limits_since h_Limits_since.fr (hr.mono (by decide)) hgd CF.ns_Limits rfl CF.m_Limits (da_cons de_int da_nil)) (da_cons (de_un un_negD de_int) da_nil)) (de_cmeth0 CF.cr_Limits CF.cm_Limits_every h_Limits_every.fr (hr.mono (by decide)) hgd CF.ns_Limits rfl CF.m_Limits) (nomark _)) (de_one (de_cmpM (op_eqO2 CF.ns_Limits CF.s_Limits_eq CF.i_Limits_eq h_Limits_eq.fr (hr.mono (by decide)) hgd) (de_meth CF.cl_Limits CF.me_Limits_moved h_Limits_moved (hr.mono (by decide)) hgd CF.ns_Limits (de_cmeth0 CF.cr_Limits CF.cm_Limits_none h_Limits_none.fr (hr.mono (by decide)) hgd CF.ns_Limits rfl CF.m_Limits) (da_cons de_int da_nil)) (de_cmeth0 CF.cr_Limits CF.cm_Limits_none h_Limits_none.fr (hr.mono (by decide)) hgd CF.ns_Limits rfl CF.m_Limits) (nomark _))))))))))
end
end G
namespace DL
open PySem L2
section
variable {S : Sg} {P : D → List Cell → Prop} {R : List D → List Cell → Prop} {U : Fl → Sg → Prop} {fa fb fc : EvE} {fs : EvA} {μ : List Cell} {ρ : List (Option D)}
theorem we_dget : WE (fDGet fa fb) ⟨ρ, μ⟩ P ↔ WE fa ⟨ρ, μ⟩ fun x μ1 => WE fb ⟨ρ, μ1⟩ fun y μ2 => ∃ d, atK x y μ2 = some (some d) ∧ P d μ2 := by
  constructor
  · rintro ⟨d, μ', e, p⟩
    unfold fDGet at e
    obtain ⟨⟨x, μ1⟩, e1, e⟩ := Option.bind_eq_some_iff.mp e
    obtain ⟨⟨y, μ2⟩, e2, e⟩ := Option.bind_eq_some_iff.mp e
    simp only at e
    split at e
    · rename_i d' e3
      obtain ⟨rfl, rfl⟩ := pr_inj e
      exact ⟨x, μ1, e1, y, _, e2, _, e3, p⟩
    · cases e
  · rintro ⟨x, μ1, e1, y, μ2, e2, d, e3, p⟩
    exact ⟨d, μ2, by unfold fDGet; rw [e1]; simp only [Option.bind_some]; rw [e2]; simp only [Option.bind_some]; rw [e3], p⟩
theorem we_din {g : Bool → Bool} : WE (fDIn g fa fb) ⟨ρ, μ⟩ P ↔ WE fa ⟨ρ, μ⟩ fun y μ1 => WE fb ⟨ρ, μ1⟩ fun x μ2 => ∃ r, atK x y μ2 = some r ∧ P (.bl (g r.isSome)) μ2 := by
  constructor
  · rintro ⟨d, μ', e, p⟩
    unfold fDIn at e
    obtain ⟨⟨x, μ1⟩, e1, e⟩ := Option.bind_eq_some_iff.mp e
    obtain ⟨⟨y, μ2⟩, e2, e⟩ := Option.bind_eq_some_iff.mp e
    obtain ⟨r, e3, e⟩ := Option.map_eq_some_iff.mp e
    obtain ⟨rfl, rfl⟩ := Prod.mk.inj e
    exact ⟨x, μ1, e1, y, _, e2, r, e3, p⟩
  · rintro ⟨x, μ1, e1, y, μ2, e2, r, e3, p⟩
    exact ⟨_, μ2, by unfold fDIn; rw [e1]; simp only [Option.bind_some]; rw [e2]; simp only [Option.bind_some]; rw [e3]; rfl, p⟩
theorem ws_dput : WS (sDPutD fa fb fc) ⟨ρ, μ⟩ U ↔ WE fc ⟨ρ, μ⟩ fun d μ1 => WE fa ⟨ρ, μ1⟩ fun x μ2 => WE fb ⟨ρ, μ2⟩ fun y μ3 => ∃ μ4, cDPut x y d μ3 = some μ4 ∧ U .nx ⟨ρ, μ4⟩ := by
  constructor
  · rintro ⟨fl, S', e, p⟩
    unfold sDPutD at e
    obtain ⟨⟨d, μ1⟩, e1, e⟩ := Option.bind_eq_some_iff.mp e
    obtain ⟨⟨x, μ2⟩, e2, e⟩ := Option.bind_eq_some_iff.mp e
    obtain ⟨⟨y, μ3⟩, e3, e⟩ := Option.bind_eq_some_iff.mp e
    obtain ⟨μ4, e4, e⟩ := Option.map_eq_some_iff.mp e
    obtain ⟨rfl, rfl⟩ := Prod.mk.inj e
    exact ⟨d, μ1, e1, x, μ2, e2, y, μ3, e3, μ4, e4, p⟩
  · rintro ⟨d, μ1, e1, x, μ2, e2, y, μ3, e3, μ4, e4, p⟩
    exact ⟨_, _, by unfold sDPutD; rw [e1]; simp only [Option.bind_some]; rw [e2]; simp only [Option.bind_some]; rw [e3]; simp only [Option.bind_some]; rw [e4]; rfl, p⟩
theorem we_dnew : WE fDNew ⟨ρ, μ⟩ P ↔ P (.h μ.length) (μ ++ [.dct []]) := ⟨fun ⟨d, μ', e, p⟩ => by obtain ⟨rfl, rfl⟩ := pr_inj e; exact p, fun p => ⟨_, _, rfl, p⟩⟩
theorem wi_enum : WI (gEnum fs) ⟨ρ, μ⟩ R ↔ WA fs ⟨ρ, μ⟩ fun ds μ1 => ∃ xs, ds = [.tup xs] ∧ R (enumD xs) μ1 := by
  constructor
  · rintro ⟨d, μ', e, p⟩
    unfold gEnum at e
    split at e
    · rename_i xs μ1 ea
      obtain ⟨rfl, rfl⟩ := pr_inj e
      exact ⟨_, _, ea, xs, rfl, p⟩
    · cases e
  · rintro ⟨ds, μ1, ea, xs, rfl, p⟩
    exact ⟨_, μ1, by unfold gEnum; rw [ea], p⟩
theorem we_ext : WE (fExt fa fb) ⟨ρ, μ⟩ P ↔ WE fa ⟨ρ, μ⟩ fun o μ1 => isLst o μ1 = true ∧ WE fb ⟨ρ, μ1⟩ fun d μ2 => ∃ μ3, cExt o d μ2 = some μ3 ∧ P .non μ3 := by
  constructor
  · rintro ⟨d, μ', e, p⟩
    unfold fExt at e
    obtain ⟨⟨x, μ1⟩, e1, e⟩ := Option.bind_eq_some_iff.mp e
    have e : (if isLst x μ1 = true then (fb { ρ := ρ, μ := μ1 }).bind fun b => (cExt x b.1 b.2).map fun μ3 => (D.non, μ3) else none) = some (d, μ') := e
    split at e
    · rename_i h
      obtain ⟨⟨y, μ2⟩, e2, e⟩ := Option.bind_eq_some_iff.mp e
      obtain ⟨μ3, e3, e⟩ := Option.map_eq_some_iff.mp e
      obtain ⟨rfl, rfl⟩ := Prod.mk.inj e
      exact ⟨x, μ1, e1, h, y, μ2, e2, _, e3, p⟩
    · cases e
  · rintro ⟨x, μ1, e1, h, y, μ2, e2, μ3, e3, p⟩
    refine ⟨_, μ3, ?_, p⟩
    unfold fExt
    rw [e1]
    simp only [Option.bind_some]
    rw [if_pos h, e2]
    simp only [Option.bind_some]
    rw [e3]
    rfl
/-- the keys of a dict under its lock -/
theorem wi_keys : WI (gKeys fa) ⟨ρ, μ⟩ R ↔ WE fa ⟨ρ, μ⟩ fun x μ1 => ∃ k ds, x = .h k ∧ μ1[k]? = some (.lck ds) ∧ R (ds.map fun kv => keyV kv.1) μ1 := by
  constructor
  · rintro ⟨d, μ', e, p⟩
    unfold gKeys at e
    split at e
    · rename_i k μ1 ea
      split at e
      · rename_i ds ec
        obtain ⟨rfl, rfl⟩ := pr_inj e
        exact ⟨_, _, ea, k, ds, rfl, ec, p⟩
      · cases e
    · cases e
  · rintro ⟨x, μ1, ea, k, ds, rfl, ec, p⟩
    exact ⟨_, μ1, by unfold gKeys; rw [ea]; simp only [ec], p⟩
end
end DL
namespace DL
open PySem L2 DL PySem.DLQ
/-! plain data, of some depth -/
def fl : D → Bool
  | .non | .bl _ => true
  | .int i => decide (i.natAbs < 10 ^ 40)
  | .str s => PyData.strOk s && decide (s.length ≤ 12)
  | .dct [] => true
  | _ => false
def gs : Nat → D → Bool
  | k + 1, .tup xs => decide (xs.length ≤ 40) && xs.all (gs k)
  | k + 1, .lst xs => decide (xs.length ≤ 40) && xs.all (gs k)
  | _, d => fl d
def wd : Nat → D → Nat
  | k + 1, .tup xs => 1 + (xs.map fun x => wd k x + 1).sum
  | k + 1, .lst xs => 1 + (xs.map fun x => wd k x + 1).sum
  | _, _ => 150
/-- what is known of a datum's image -/
structure Im (k n : Nat) (d : D) (p : PyData) : Prop where
  r : toR d = some p
  x : okX p = true
  s : p.showable = true
  d : p.depth ≤ k
  l : p.leavesShort 50 = true
  w : p.weight ≤ n
structure Ims (k n : Nat) (ds : List D) (ps : List PyData) : Prop where
  r : toRs ds = some ps
  x : okXs ps = true
  s : PyData.showableAll ps = true
  d : PyData.depthAll ps ≤ k
  l : PyData.leavesShortAll 50 ps = true
  w : PyData.weightAll ps ≤ n
theorem ims_of {k : Nat} {g : D → Nat} : ∀ {ds : List D}, (∀ d ∈ ds, ∃ p, Im k (g d) d p) → ∃ ps, Ims k ((ds.map fun x => g x + 1).sum) ds ps
  | [], _ => ⟨[], by simp only [toRs], by simp only [okXs], by simp only [PyData.showableAll], by simp only [PyData.depthAll]; omega, by simp only [PyData.leavesShortAll], by simp only [PyData.weightAll]; omega⟩
  | d :: ds, h => by
    obtain ⟨p, a⟩ := h d List.mem_cons_self
    obtain ⟨ps, b⟩ := ims_of fun x hx => h x (List.mem_cons_of_mem _ hx)
    refine ⟨p :: ps, by simp only [toRs, a.r, b.r], by simp only [okXs, a.x, b.x, Bool.and_self], by simp only [PyData.showableAll, a.s, b.s, Bool.and_self], ?_, by simp only [PyData.leavesShortAll, a.l, b.l, Bool.and_self], ?_⟩
    · simp only [PyData.depthAll]
      have := a.d
      have := b.d
      omega
    · simp only [PyData.weightAll, List.map_cons, List.sum_cons]
      have := a.w
      have := b.w
      omega
theorem fl_im {d : D} (h : fl d = true) : ∃ p, Im 1 150 d p := by
  unfold fl at h
  split at h
  · exact ⟨.none, by simp only [toR], rfl, rfl, by simp only [PyData.depth]; omega, rfl, by simp only [PyData.weight]; omega⟩
  · rename_i b
    exact ⟨.bool b, by simp only [toR], rfl, rfl, by simp only [PyData.depth]; omega, rfl, by simp only [PyData.weight]; omega⟩
  · rename_i i
    have h := of_decide_eq_true h
    have lg : i.natAbs.log2 < 133 := by
      by_cases z : i.natAbs = 0
      · rw [z]; decide
      · exact (Nat.log2_lt z).mpr (Nat.lt_of_lt_of_le h (by decide))
    refine ⟨.int i, by simp only [toR], rfl, ?_, by simp only [PyData.depth]; omega, ?_, ?_⟩
    · simp only [PyData.showable]
      exact decide_eq_true (by omega)
    · simp only [PyData.leavesShort]
      have z := int_text_length_le10 (k := 40) (by decide) h
      refine decide_eq_true ?_
      rw [PyData.shown_int]
      show (Str.ofString (toString i)).length ≤ 50
      rw [ofString_length]
      omega
    · simp only [PyData.weight]
      split <;> omega
  · rename_i s
    rw [Bool.and_eq_true] at h
    have h2 := of_decide_eq_true h.2
    refine ⟨.str s, by simp only [toR], by simp only [okX]; exact h.1, rfl, by simp only [PyData.depth]; omega, ?_, ?_⟩
    · simp only [PyData.leavesShort, List.all_eq_true, decide_eq_true_eq]
      intro c hc
      have h1 : s.cps.all (· < 0x110000) = true := h.1
      have := (Array.all_eq_true_iff_forall_mem.mp h1) c (Array.mem_toList_iff.mp hc)
      have e : (16 : Nat) ^ 8 = 4294967296 := by decide
      simp only [decide_eq_true_eq] at this
      omega
    · simp only [PyData.weight]
      have : s.cps.size ≤ 12 := h2
      omega
  · exact ⟨.dict [], by simp only [toR], rfl, rfl, by simp only [PyData.depth, PyData.depthKv]; omega, rfl, by simp only [PyData.weight, PyData.weightKv]; omega⟩
  · cases h
theorem Im.up {k n m : Nat} {d : D} {p : PyData} (h : Im 1 n d p) (hn : n ≤ m) : Im (k + 1) m d p := ⟨h.r, h.x, h.s, Nat.le_trans h.d (by omega), h.l, Nat.le_trans h.w hn⟩
theorem gs_im : ∀ (k : Nat) {d : D}, gs k d = true → ∃ p, Im (k + 1) (wd k d) d p
  | 0, d, h => by
    have h' : fl d = true := by cases d <;> exact h
    obtain ⟨p, a⟩ := fl_im h'
    exact ⟨p, by have e : wd 0 d = 150 := by cases d <;> rfl
                 rw [e]; exact a⟩
  | k + 1, d, h => by
    have flat : fl d = true → wd (k + 1) d = 150 → ∃ p, Im (k + 2) (wd (k + 1) d) d p := fun h' e => by
      obtain ⟨p, a⟩ := fl_im h'
      exact ⟨p, by rw [e]; exact a.up (Nat.le_refl _)⟩
    cases d with
    | tup xs =>
      have h' : ∀ x ∈ xs, gs k x = true := by
        simp only [gs, Bool.and_eq_true, List.all_eq_true] at h
        exact h.2
      obtain ⟨ps, b⟩ := ims_of (k := k + 1) (g := wd k) fun x hx => gs_im k (h' x hx)
      refine ⟨.tuple ps, by simp only [toR, b.r, Option.map_some], by simp only [okX]; exact b.x, by simp only [PyData.showable]; exact b.s, ?_, by simp only [PyData.leavesShort]; exact b.l, ?_⟩
      · simp only [PyData.depth]; have := b.d; omega
      · simp only [PyData.weight, wd]; have := b.w; omega
    | lst xs =>
      have h' : ∀ x ∈ xs, gs k x = true := by
        simp only [gs, Bool.and_eq_true, List.all_eq_true] at h
        exact h.2
      obtain ⟨ps, b⟩ := ims_of (k := k + 1) (g := wd k) fun x hx => gs_im k (h' x hx)
      refine ⟨.list ps, by simp only [toR, b.r, Option.map_some], by simp only [okX]; exact b.x, by simp only [PyData.showable]; exact b.s, ?_, by simp only [PyData.leavesShort]; exact b.l, ?_⟩
      · simp only [PyData.depth]; have := b.d; omega
      · simp only [PyData.weight, wd]; have := b.w; omega
    | non => exact flat h rfl
    | bl _ => exact flat h rfl
    | int _ => exact flat h rfl
    | str _ => exact flat h rfl
    | dct _ => exact flat h rfl
    | ty _ => cases h
    | h _ => cases h
    | rl _ => cases h
    | exc _ => cases h
    | exf _ _ _ => cases h
    | cls _ => cases h
/-! == of plain data -/
mutual
theorem toP_of {μ : List Cell} : ∀ {d : D} {p : PyData}, toR d = some p → p.canLay0 = true → toP d μ = some p
  | .non, p, e, _ => by simp only [toR] at e; cases e; rfl
  | .bl b, p, e, _ => by simp only [toR] at e; cases e; rfl
  | .int i, p, e, _ => by simp only [toR] at e; cases e; rfl
  | .str s, p, e, _ => by simp only [toR] at e; cases e; rfl
  | .lst xs, p, e, c => by
    simp only [toR] at e
    obtain ⟨ps, e1, rfl⟩ := Option.map_eq_some_iff.mp e
    simp only [toP, toPs_of e1 (by simpa only [PyData.canLay0] using c), Option.map_some]
  | .rl xs, p, e, c => by
    simp only [toR] at e
    obtain ⟨ps, e1, rfl⟩ := Option.map_eq_some_iff.mp e
    simp only [toP, toPs_of e1 (by simpa only [PyData.canLay0] using c), Option.map_some]
  | .tup xs, p, e, c => by
    simp only [toR] at e
    obtain ⟨ps, e1, rfl⟩ := Option.map_eq_some_iff.mp e
    simp only [toP, toPs_of e1 (by simpa only [PyData.canLay0] using c), Option.map_some]
  | .dct [], p, e, c => by simp only [toR] at e; cases e; cases c
  | .dct (_ :: _), p, e, _ => by simp only [toR] at e; cases e
  | .ty _, _, e, _ => by simp only [toR] at e; cases e
  | .h _, _, e, _ => by simp only [toR] at e; cases e
  | .exc _, _, e, _ => by simp only [toR] at e; cases e
  | .exf _ _ _, _, e, _ => by simp only [toR] at e; cases e
  | .cls _, _, e, _ => by simp only [toR] at e; cases e
theorem toPs_of {μ : List Cell} : ∀ {ds : List D} {ps : List PyData}, toRs ds = some ps → PyData.canLayAll0 ps = true → toPs ds μ = some ps
  | [], _, e, _ => by simp only [toRs] at e; cases e; simp only [toPs]
  | d :: ds, _, e, c => by
    simp only [toRs] at e
    split at e
    · rename_i p ps e1 e2
      cases e
      have c' : p.canLay0 = true ∧ PyData.canLayAll0 ps = true := by simpa [PyData.canLayAll0] using c
      simp only [toPs, toP_of e1 c'.1, toPs_of e2 c'.2]
    · cases e
end
theorem toQ_of {μ : List Cell} {d : D} {p : PyData} (e : toR d = some p) (c : p.canLay0 = true) : toQ d μ = some p := by
  unfold toQ
  split
  · simp only [toR] at e; cases e
  · exact toP_of e c
theorem eqP_of {μ : List Cell} {d e : D} {p q : PyData} (e1 : toR d = some p) (e2 : toR e = some q) (c1 : p.canLay0 = true) (c2 : q.canLay0 = true) (h1 : p.depth ≤ 60) (h2 : q.depth ≤ 60) : eqB d e μ = some (PyData.eqv p q) := by
  have key : eqP d e μ = some (PyData.eqv p q) := by
    unfold eqP
    rw [toQ_of e1 c1, toQ_of e2 c2]
    simp only
    rw [if_pos ⟨by unfold SeqAt.shaped; rw [c1, decide_eq_true (by omega)]; rfl, by unfold SeqAt.shaped; rw [c2, decide_eq_true (by omega)]; rfl⟩]
  unfold eqB
  split
  · simp only [toR] at e1 e2
    cases e1
    cases e2
    simp only [PyData.eqv]
    congr 1
  · exact key
mutual
theorem toP_no {μ : List Cell} : ∀ {d : D} {p : PyData}, toR d = some p → okX p = true → p.canLay0 = false → toP d μ = none
  | .non, p, e, _, c => by simp only [toR] at e; cases e; cases c
  | .bl b, p, e, _, c => by simp only [toR] at e; cases e; cases c
  | .int i, p, e, _, c => by simp only [toR] at e; cases e; cases c
  | .str s, p, e, o, c => by
    simp only [toR] at e
    cases e
    have z : (PyData.str s).canLay0 = true := by simpa [okX, PyData.canLay0] using o
    rw [z] at c
    cases c
  | .lst xs, p, e, o, c => by
    simp only [toR] at e
    obtain ⟨ps, e1, rfl⟩ := Option.map_eq_some_iff.mp e
    simp only [toP, toPs_no e1 (by simpa only [okX] using o) (by simpa only [PyData.canLay0] using c), Option.map_none]
  | .rl xs, p, e, o, c => by
    simp only [toR] at e
    obtain ⟨ps, e1, rfl⟩ := Option.map_eq_some_iff.mp e
    simp only [toP, toPs_no e1 (by simpa only [okX] using o) (by simpa only [PyData.canLay0] using c), Option.map_none]
  | .tup xs, p, e, o, c => by
    simp only [toR] at e
    obtain ⟨ps, e1, rfl⟩ := Option.map_eq_some_iff.mp e
    simp only [toP, toPs_no e1 (by simpa only [okX] using o) (by simpa only [PyData.canLay0] using c), Option.map_none]
  | .dct _, p, e, _, c => by simp only [toP]
  | .ty _, _, e, _, _ => by simp only [toR] at e; cases e
  | .h _, _, e, _, _ => by simp only [toR] at e; cases e
  | .exc _, _, e, _, _ => by simp only [toR] at e; cases e
  | .exf _ _ _, _, e, _, _ => by simp only [toR] at e; cases e
  | .cls _, _, e, _, _ => by simp only [toR] at e; cases e
theorem toPs_no {μ : List Cell} : ∀ {ds : List D} {ps : List PyData}, toRs ds = some ps → okXs ps = true → PyData.canLayAll0 ps = false → toPs ds μ = none
  | [], _, e, _, c => by simp only [toRs] at e; cases e; cases c
  | d :: ds, _, e, o, c => by
    simp only [toRs] at e
    split at e
    · rename_i p ps e1 e2
      cases e
      have o' : okX p = true ∧ okXs ps = true := by simpa [okXs] using o
      by_cases hp : p.canLay0 = true
      · have hps : PyData.canLayAll0 ps = false := by
          simp only [PyData.canLayAll0, hp, Bool.true_and] at c
          exact c
        simp only [toPs, toP_of e1 hp, toPs_no e2 o'.2 hps]
      · simp only [toPs, toP_no e1 o'.1 (Bool.eq_false_iff.mpr hp)]
    · cases e
end
theorem eqB_no {x y : D} {μ : List Cell} {p : PyData} (e : toR x = some p) (o : okX p = true) (c : p.canLay0 = false) : eqB x y μ = none := by
  have hq : toQ x μ = none := by
    unfold toQ
    split
    · simp only [toR] at e; cases e
    · exact toP_no e o c
  unfold eqB
  split
  · simp only [toR] at e
    cases e
    rename_i s _
    have z : (PyData.str s).canLay0 = true := by simpa [okX, PyData.canLay0] using o
    rw [z] at c
    cases c
  · unfold eqP
    rw [hq]
/-- ==, the right side without dicts -/
theorem eqW_of {μ : List Cell} {d e : D} {k n m l : Nat} {p q : PyData} (a : Im k n d p) (b : Im m l e q) (c : q.canLay0 = true) (hk : k ≤ 60) (hm : m ≤ 60) : eqW d e μ = some (PyData.eqv p q) := by
  have h1 := a.d
  have h2 := b.d
  unfold eqW
  by_cases hp : p.canLay0 = true
  · rw [eqP_of a.r b.r hp c (by omega) (by omega)]
    rfl
  · have hp' : p.canLay0 = false := Bool.eq_false_iff.mpr hp
    rw [eqB_no a.r a.x hp']
    show eqR d e = _
    unfold eqR
    rw [a.r, b.r]
    simp only
    rw [if_pos ⟨a.x, hp', c, by omega⟩]
theorem neW_of {μ : List Cell} {d e : D} {k n m l : Nat} {p q : PyData} (a : Im k n d p) (b : Im m l e q) (c : q.canLay0 = true) (hk : k ≤ 60) (hm : m ≤ 60) (hd : isDictD p = true → isStrD q = true) : neW d e μ = some (!PyData.eqv p q) := by
  have h1 := a.d
  have h2 := b.d
  unfold neW
  by_cases hp : p.canLay0 = true
  · rw [eqP_of a.r b.r hp c (by omega) (by omega)]
    rfl
  · have hp' : p.canLay0 = false := Bool.eq_false_iff.mpr hp
    rw [eqB_no a.r a.x hp']
    show neR d e = _
    unfold neR
    rw [a.r, b.r]
    simp only
    rw [if_pos ⟨a.x, hp', c, by omega, hd⟩]
/-- repr of a list of plain data -/
theorem repr_of {μ : List Cell} {k : Nat} {xs : List D} (h : ∀ x ∈ xs, gs k x = true) (hk : k ≤ 50) (hw : (xs.map fun x => wd k x + 1).sum ≤ 320000) : ∃ z, dReprR (.lst xs) μ = some (.str z) := by
  obtain ⟨ps, b⟩ := ims_of (k := k + 1) (g := wd k) fun x hx => gs_im k (h x hx)
  have hd := b.d
  have hw' := b.w
  have sh := PyData.shown_le 50 (by decide) (.list ps) (by simp only [PyData.leavesShort]; exact b.l)
  refine ⟨(PyData.list ps).shown, ?_⟩
  have hx : (PyData.list ps).showable = true ∧ (PyData.list ps).depth ≤ 62 ∧ (PyData.list ps).shown.length ≤ sizeLine := by
    refine ⟨by simp only [PyData.showable]; exact b.s, by simp only [PyData.depth]; omega, ?_⟩
    simp only [PyData.weight] at sh
    rw [sizeLine_eq]
    omega
  unfold dReprR
  simp only [b.r]
  exact if_pos (show PyData.showableAll ps = true ∧ _ from ⟨b.s, hx.2⟩)
end DL
namespace DL
open PySem L2 DL PySem.DLQ
section
variable {S : Sg} {P : D → List Cell → Prop} {Q : Bool → List Cell → Prop} {R : List D → List Cell → Prop} {U : Fl → Sg → Prop} {V : D → Prop} {B : Sg → Prop} {Y : Ov → List Cell → Prop} {fa fb fc : EvE} {fs : EvA} {t u : EvT} {g g' : EvS} {b : Bd} {bs : Bds} {μ : List Cell} {ρ : List (Option D)} {d x y : D} {ds xs ys : List D} {i j : Int} {k n : Nat} {s z : Str} {p q : Bool}
theorem wf_eq {F : FnF} {r : D} (h : F ds μ = some (.v r, μ)) : WF F ds μ P ↔ P r μ := ⟨fun ⟨d, μ', e, p⟩ => by rw [h] at e; cases e; exact p, fun p => ⟨r, μ, h, p⟩⟩
theorem to_eq {F : FnF} {r : D} (h : WF F ds μ fun d μ' => d = r ∧ μ' = μ) : F ds μ = some (.v r, μ) := by
  obtain ⟨d, μ', e, rfl, rfl⟩ := h
  exact e
theorem w2_of {f : D → D → List Cell → Option D} {r : D} (h : f x y μ = some r) : W2 f x y μ V ↔ V r := ⟨fun ⟨z, e, p⟩ => by rw [h] at e; cases e; exact p, fun p => ⟨_, h, p⟩⟩
theorem w1_of {f : D → List Cell → Option D} {r : D} (h : f x μ = some r) : W1 f x μ V ↔ V r := ⟨fun ⟨z, e, p⟩ => by rw [h] at e; cases e; exact p, fun p => ⟨_, h, p⟩⟩
theorem w2_if {f : D → D → List Cell → Option D} {r : D} {c : Prop} [Decidable c] (h : f x y μ = if c then some r else none) : W2 f x y μ V ↔ c ∧ V r := by
  constructor
  · rintro ⟨z, e, p⟩
    rw [h] at e
    split at e
    · rename_i h; cases e; exact ⟨h, p⟩
    · cases e
  · rintro ⟨h', p⟩
    exact ⟨_, by rw [h, if_pos h'], p⟩
theorem w2_addAI : W2 dAddA (.int i) (.int j) μ V ↔ V (.int (i + j)) := w2_of rfl
theorem w2_addAS : W2 dAddA (.str s) (.str z) μ V ↔ s.length + z.length ≤ sizeLine ∧ V (.str (s ++ z)) := w2_if rfl
theorem w2_addAT : W2 dAddA (.tup xs) (.tup ys) μ V ↔ xs.length + ys.length ≤ sizeLine ∧ V (.tup (xs ++ ys)) := w2_if rfl
theorem w2_addAL : W2 dAddA (.lst xs) (.lst ys) μ V ↔ xs.length + ys.length ≤ sizeLine ∧ V (.lst (xs ++ ys)) := w2_if rfl
theorem w2_addAH : W2 dAddA (.h k) (.lst ys) μ V ↔ ∃ xs, μ[k]? = some (.lst xs) ∧ xs.length + ys.length ≤ sizeLine ∧ V (.lst (xs ++ ys)) := by
  constructor
  · rintro ⟨z, e, p⟩
    unfold dAddA dAdd asL at e
    simp only at e
    split at e
    · rename_i a c e1 e2
      cases e2
      split at e1
      · rename_i xs ex
        cases e1
        split at e
        · rename_i h; cases e; exact ⟨_, ex, h, p⟩
        · cases e
      · cases e1
    · cases e
  · rintro ⟨xs, ex, h, p⟩
    exact ⟨_, by unfold dAddA dAdd asL; simp only [ex]; rw [if_pos h], p⟩
theorem w2_mulAI : W2 dMulA (.int i) (.int j) μ V ↔ ((-(2 ^ 64) < i ∧ i < 2 ^ 64) ∨ (-(2 ^ 64) < j ∧ j < 2 ^ 64)) ∧ V (.int (i * j)) := w2_if rfl
theorem w2_mulAT : W2 dMulA (.tup xs) (.int j) μ V ↔ (xs ≠ [] ∧ 0 ≤ j ∧ j ≤ 1000 ∧ xs.length ≤ 1000) ∧ V (.tup (List.replicate j.toNat xs).flatten) := w2_if rfl
theorem w2_mulAL : W2 dMulA (.lst xs) (.int j) μ V ↔ (-(2 ^ 63) ≤ j ∧ j < 2 ^ 63 ∧ xs.length * j.toNat ≤ sizeLine) ∧ V (.lst (List.replicate j.toNat xs).flatten) := w2_if rfl
theorem w2_ltAI : W2 dLtA (.int i) (.int j) μ V ↔ V (.bl (decide (i < j))) := w2_of rfl
theorem eqW_int : eqW (.int i) (.int j) μ = some (decide (i = j)) := by
  have e : eqB (.int i) (.int j) μ = some (PyData.eqv (.int i) (.int j)) := eqP_of (d := .int i) (e := .int j) rfl rfl rfl rfl (by simp only [PyData.depth]; omega) (by simp only [PyData.depth]; omega)
  unfold eqW
  rw [e, PyData.eqv.eq_5]
  rfl
theorem w2_eqWI : W2 dEqW (.int i) (.int j) μ V ↔ V (.bl (decide (i = j))) := w2_of (by unfold dEqW; rw [eqW_int]; rfl)
theorem neW_int : neW (.int i) (.int j) μ = some (!decide (i = j)) := by
  have e : eqB (.int i) (.int j) μ = some (PyData.eqv (.int i) (.int j)) := eqP_of (d := .int i) (e := .int j) rfl rfl rfl rfl (by simp only [PyData.depth]; omega) (by simp only [PyData.depth]; omega)
  unfold neW
  rw [e, PyData.eqv.eq_5]
  rfl
theorem w2_neWI : W2 dNeW (.int i) (.int j) μ V ↔ V (.bl (!decide (i = j))) := w2_of (by unfold dNeW; rw [neW_int]; rfl)
theorem neW_non : neW .non (.int j) μ = some true := by
  have e : eqB .non (.int j) μ = some (PyData.eqv .none (.int j)) := eqP_of (d := .non) (e := .int j) rfl rfl rfl rfl (by simp only [PyData.depth]; omega) (by simp only [PyData.depth]; omega)
  unfold neW
  rw [e]
  rfl
theorem w2_neWN : W2 dNeW .non (.int j) μ V ↔ V (.bl true) := w2_of (by unfold dNeW; rw [neW_non]; rfl)
theorem neW_bl : neW (.bl p) (.bl q) μ = some (p != q) := by
  have e : eqB (.bl p) (.bl q) μ = some (PyData.eqv (.bool p) (.bool q)) := eqP_of (d := .bl p) (e := .bl q) rfl rfl rfl rfl (by cases p <;> decide) (by cases q <;> decide)
  unfold neW
  rw [e]
  rfl
theorem w2_neWB : W2 dNeW (.bl p) (.bl q) μ V ↔ V (.bl (p != q)) := w2_of (by unfold dNeW; rw [neW_bl]; rfl)
theorem eqW_str : eqW (.str s) (.str z) μ = some (decide (s = z)) := rfl
theorem neW_str : neW (.str s) (.str z) μ = some (!decide (s = z)) := rfl
theorem w2_eqWS : W2 dEqW (.str s) (.str z) μ V ↔ V (.bl (decide (s = z))) := w2_of rfl
theorem w2_neWS : W2 dNeW (.str s) (.str z) μ V ↔ V (.bl (!decide (s = z))) := w2_of rfl
theorem w2_eqW : W2 dEqW x y μ V ↔ ∃ k, eqW x y μ = some k ∧ V (.bl k) := by
  constructor
  · rintro ⟨z, e, p⟩
    obtain ⟨k, ek, rfl⟩ := Option.map_eq_some_iff.mp e
    exact ⟨k, ek, p⟩
  · rintro ⟨k, ek, p⟩
    exact ⟨_, by unfold dEqW; rw [ek]; rfl, p⟩
theorem w2_neW : W2 dNeW x y μ V ↔ ∃ k, neW x y μ = some k ∧ V (.bl k) := by
  constructor
  · rintro ⟨z, e, p⟩
    obtain ⟨k, ek, rfl⟩ := Option.map_eq_some_iff.mp e
    exact ⟨k, ek, p⟩
  · rintro ⟨k, ek, p⟩
    exact ⟨_, by unfold dNeW; rw [ek]; rfl, p⟩
theorem w1_all {xs : List D} : W1 dAll (.lst xs) μ V ↔ ∃ bs, blsOf xs = some bs ∧ V (.bl (bs.all id)) := by
  constructor
  · rintro ⟨z, e, p⟩
    obtain ⟨bs, eb, rfl⟩ := Option.map_eq_some_iff.mp (show (blsOf xs).map (fun bs => D.bl (bs.all id)) = some z from e)
    exact ⟨bs, eb, p⟩
  · rintro ⟨bs, eb, p⟩
    exact ⟨_, show (blsOf xs).map (fun bs => D.bl (bs.all id)) = some _ by rw [eb]; rfl, p⟩
theorem w1_listT : W1 dList (.tup xs) μ V ↔ V (.lst xs) := w1_of rfl
theorem w1_tupL : W1 dTuple (.lst xs) μ V ↔ V (.tup xs) := w1_of rfl
theorem w1_tupH : W1 dTuple (.h k) μ V ↔ ∃ xs, μ[k]? = some (.lst xs) ∧ V (.tup xs) := by
  constructor
  · rintro ⟨z, e, p⟩
    unfold dTuple asSL asL at e
    simp only at e
    split at e
    · rename_i xs ex; cases e; exact ⟨xs, ex, p⟩
    · cases e
  · rintro ⟨xs, ex, p⟩
    exact ⟨_, by unfold dTuple asSL asL; simp only [ex]; rfl, p⟩
theorem w1_lenH : W1 dLen (.h k) μ V ↔ ∃ xs, μ[k]? = some (.lst xs) ∧ V (.int xs.length) := by
  constructor
  · rintro ⟨z, e, p⟩
    unfold dLen asSL asL at e
    simp only at e
    split at e
    · rename_i xs ex; cases e; exact ⟨xs, ex, p⟩
    · cases e
  · rintro ⟨xs, ex, p⟩
    exact ⟨_, by unfold dLen asSL asL; simp only [ex]; rfl, p⟩
theorem w1_rev : W1 dRev (.tup xs) μ V ↔ V (.tup xs.reverse) := w1_of rfl
/-! slices -/
def WO (f : EvO) (S : Sg) (P : Option Int → List Cell → Prop) : Prop := ∃ d μ', f S = some (d, μ') ∧ P d μ'
theorem wo_no {Z : Option Int → List Cell → Prop} : WO fNo ⟨ρ, μ⟩ Z ↔ Z none μ := ⟨fun ⟨d', μ', e, p⟩ => by obtain ⟨rfl, rfl⟩ := pr_inj e; exact p, fun p => ⟨none, μ, rfl, p⟩⟩
def isI (Z : Option Int → List Cell → Prop) (d : D) (μ : List Cell) : Prop := ∃ i, d = .int i ∧ Z (some i) μ
theorem isI_i {Z : Option Int → List Cell → Prop} : isI Z (.int i) μ ↔ Z (some i) μ := ⟨fun ⟨j, e, p⟩ => by cases e; exact p, fun p => ⟨i, rfl, p⟩⟩
theorem wo_part {Z : Option Int → List Cell → Prop} : WO (fPart fa) ⟨ρ, μ⟩ Z ↔ WE fa ⟨ρ, μ⟩ (isI Z) := by
  constructor
  · rintro ⟨d, μ', e, p⟩
    unfold fPart at e
    split at e
    · rename_i i μ1 ea
      obtain ⟨rfl, rfl⟩ := pr_inj e
      exact ⟨_, _, ea, i, rfl, p⟩
    · cases e
  · rintro ⟨d, μ', ea, i, rfl, p⟩
    exact ⟨_, _, by unfold fPart; rw [ea], p⟩
theorem we_Sl {fl fh : EvO} : WE (fSl fa fl fh) ⟨ρ, μ⟩ P ↔ WE fa ⟨ρ, μ⟩ fun x μ1 => WO fl ⟨ρ, μ1⟩ fun lo μ2 => WO fh ⟨ρ, μ2⟩ fun hi μ3 => ∃ z, dSl x lo hi μ3 = some z ∧ P z μ3 := by
  constructor
  · rintro ⟨d, μ', e, p⟩
    unfold fSl at e
    split at e
    · rename_i x μ1 ea
      split at e
      · rename_i lo μ2 eb
        split at e
        · rename_i hi μ3 ec
          obtain ⟨z, ez, e⟩ := Option.map_eq_some_iff.mp e
          cases e
          exact ⟨x, μ1, ea, lo, μ2, eb, hi, _, ec, _, ez, p⟩
        · cases e
      · cases e
    · cases e
  · rintro ⟨x, μ1, ea, lo, μ2, eb, hi, μ3, ec, z, ez, p⟩
    exact ⟨z, μ3, by unfold fSl; rw [ea]; simp only; rw [eb]; simp only; rw [ec]; simp only; rw [ez]; rfl, p⟩
theorem sl_tup {lo hi : Option Int} : (∃ w, dSl (.tup xs) lo hi μ = some w ∧ V w) ↔ V (.tup (cutD xs lo hi)) := ⟨fun ⟨w, e, p⟩ => by cases e; exact p, fun p => ⟨_, rfl, p⟩⟩
theorem sl_lst {lo hi : Option Int} : (∃ w, dSl (.lst xs) lo hi μ = some w ∧ V w) ↔ V (.lst (cutD xs lo hi)) := ⟨fun ⟨w, e, p⟩ => by cases e; exact p, fun p => ⟨_, rfl, p⟩⟩
/-! lists that change -/
theorem we_Apn : WE (fApn fa fb) ⟨ρ, μ⟩ P ↔ WE fa ⟨ρ, μ⟩ fun o μ1 => isLst o μ1 = true ∧ WE fb ⟨ρ, μ1⟩ fun d μ2 => ∃ μ3, cApp o d μ2 = some μ3 ∧ P .non μ3 := by
  constructor
  · rintro ⟨d, μ', e, p⟩
    unfold fApn at e
    split at e
    · rename_i o μ1 ea
      split at e
      · rename_i h
        split at e
        · rename_i d μ2 eb
          obtain ⟨z, ez, e⟩ := Option.map_eq_some_iff.mp e
          cases e
          exact ⟨o, μ1, ea, h, d, μ2, eb, _, ez, p⟩
        · cases e
      · cases e
    · cases e
  · rintro ⟨o, μ1, ea, h, d, μ2, eb, μ3, ec, p⟩
    exact ⟨_, μ3, by unfold fApn; rw [ea]; simp only; rw [if_pos h, eb]; simp only; rw [ec]; rfl, p⟩
theorem isLst_of {xs : List D} (h : μ[k]? = some (.lst xs)) : isLst (.h k) μ = true := by unfold isLst; simp only [h]
theorem cApp_of {xs : List D} {Z : List Cell → Prop} (h : μ[k]? = some (.lst xs)) (hl : xs.length < sizeLine) : (∃ μ3, cApp (.h k) d μ = some μ3 ∧ Z μ3) ↔ Z (μ.set k (.lst (xs ++ [d]))) := by
  have e : cApp (.h k) d μ = some (μ.set k (.lst (xs ++ [d]))) := by
    unfold cApp
    simp only [h]
    rw [if_pos hl]
  rw [e]
  exact ⟨fun ⟨z, e, p⟩ => by cases e; exact p, fun p => ⟨_, rfl, p⟩⟩
theorem we_Pop : WE (fPop fa fb) ⟨ρ, μ⟩ P ↔ WE fa ⟨ρ, μ⟩ fun o μ1 => isLst o μ1 = true ∧ WE fb ⟨ρ, μ1⟩ fun i μ2 => ∃ z, cPop o i μ2 = some z ∧ P z.1 z.2 := by
  constructor
  · rintro ⟨d, μ', e, p⟩
    unfold fPop at e
    split at e
    · rename_i o μ1 ea
      split at e
      · rename_i h
        split at e
        · rename_i d μ2 eb
          exact ⟨o, μ1, ea, h, _, μ2, eb, _, e, p⟩
        · cases e
      · cases e
    · cases e
  · rintro ⟨o, μ1, ea, h, d, μ2, eb, z, ec, p⟩
    exact ⟨_, _, by unfold fPop; rw [ea]; simp only; rw [if_pos h, eb]; simp only; rw [ec], p⟩
theorem we_ListC : WE (fListC fa) ⟨ρ, μ⟩ P ↔ WE fa ⟨ρ, μ⟩ fun x μ1 => ∃ xs, asQ x μ1 = some xs ∧ P (.h μ1.length) (μ1 ++ [.lst xs]) := by
  constructor
  · rintro ⟨d, μ', e, p⟩
    unfold fListC at e
    split at e
    · rename_i x μ1 ea
      split at e
      · rename_i xs h
        obtain ⟨rfl, rfl⟩ := pr_inj e
        exact ⟨x, μ1, ea, xs, h, p⟩
      · cases e
    · cases e
  · rintro ⟨x, μ1, ea, xs, h, p⟩
    exact ⟨_, _, by unfold fListC; rw [ea]; simp only; rw [h], p⟩
theorem wa_star : WA (fStar fa fs) ⟨ρ, μ⟩ R ↔ WE fa ⟨ρ, μ⟩ fun x μ1 => ∃ xs, asQ x μ1 = some xs ∧ WA fs ⟨ρ, μ1⟩ fun ys μ2 => R (xs ++ ys) μ2 := by
  constructor
  · rintro ⟨d, μ', e, p⟩
    unfold fStar at e
    split at e
    · rename_i x μ1 ea
      split at e
      · rename_i xs h
        split at e
        · rename_i ys μ2 eb
          obtain ⟨rfl, rfl⟩ := pr_inj e
          exact ⟨x, μ1, ea, xs, h, ys, _, eb, p⟩
        · cases e
      · cases e
    · cases e
  · rintro ⟨x, μ1, ea, xs, h, ys, μ2, eb, p⟩
    exact ⟨_, μ2, by unfold fStar; rw [ea]; simp only; rw [h]; simp only; rw [eb], p⟩
theorem asQ_tup : (∃ zs, asQ (.tup xs) μ = some zs ∧ R zs μ) ↔ R xs μ := ⟨fun ⟨z, e, p⟩ => by cases e; exact p, fun p => ⟨_, rfl, p⟩⟩
theorem asQ_lst : (∃ zs, asQ (.lst xs) μ = some zs ∧ R zs μ) ↔ R xs μ := ⟨fun ⟨z, e, p⟩ => by cases e; exact p, fun p => ⟨_, rfl, p⟩⟩
theorem wi_zip : WI (gZip fs) ⟨ρ, μ⟩ R ↔ WA fs ⟨ρ, μ⟩ fun ds μ1 => ∃ xs ys, (ds = [.tup xs, .tup ys] ∨ ds = [.lst xs, .lst ys]) ∧ R (zipD xs ys) μ1 := by
  constructor
  · rintro ⟨d, μ', e, p⟩
    unfold gZip at e
    split at e
    · rename_i xs ys μ1 ea
      obtain ⟨rfl, rfl⟩ := pr_inj e
      exact ⟨_, _, ea, xs, ys, .inl rfl, p⟩
    · rename_i xs ys μ1 ea
      obtain ⟨rfl, rfl⟩ := pr_inj e
      exact ⟨_, _, ea, xs, ys, .inr rfl, p⟩
    · cases e
  · rintro ⟨ds, μ1, ea, xs, ys, rfl | rfl, p⟩
    · exact ⟨_, μ1, by unfold gZip; rw [ea], p⟩
    · exact ⟨_, μ1, by unfold gZip; rw [ea], p⟩
theorem wb_seq {n : Nat} : WB (bSeq n bs) d ⟨ρ, μ⟩ B ↔ ∃ xs, asQ d μ = some xs ∧ xs.length = n ∧ WBs bs xs ⟨ρ, μ⟩ B := by
  constructor
  · rintro ⟨S', e, p⟩
    unfold bSeq at e
    split at e
    · rename_i xs h
      split at e
      · rename_i hl; exact ⟨xs, h, hl, S', e, p⟩
      · cases e
    · cases e
  · rintro ⟨xs, h, hl, S', e, p⟩
    exact ⟨S', by unfold bSeq; simp only [h]; rw [if_pos hl]; exact e, p⟩
theorem Tn_ex {A : Sg → Prop} {nm : Str} {o : Option D} : Tn U A (.ex nm o) S ↔ U (.ex nm o) S := Iff.rfl
end
/-! letters of the walk -/
theorem at0 {α : Type} {a : α} {r : List α} : atI (a :: r) 0 = some a := by simp [atI, ixN]
theorem ixN_lt {n : Nat} {i : Int} (h : 0 ≤ i) (h2 : i < n) : ixN n i = some i.toNat := by
  unfold ixN
  rw [if_pos h, if_pos h2]
theorem at1 {α : Type} {a b : α} {r : List α} : atI (a :: b :: r) 1 = some b := by
  unfold atI
  rw [ixN_lt (by decide) (by simp only [List.length_cons]; omega)]
  rfl
theorem at2 {α : Type} {a b c : α} {r : List α} : atI (a :: b :: c :: r) 2 = some c := by
  unfold atI
  rw [ixN_lt (by decide) (by simp only [List.length_cons]; omega)]
  rfl
theorem at3 {α : Type} {a b c d : α} {r : List α} : atI (a :: b :: c :: d :: r) 3 = some d := by
  unfold atI
  rw [ixN_lt (by decide) (by simp only [List.length_cons]; omega)]
  rfl
theorem at4 {α : Type} {a b c d e : α} {r : List α} : atI (a :: b :: c :: d :: e :: r) 4 = some e := by
  unfold atI
  rw [ixN_lt (by decide) (by simp only [List.length_cons]; omega)]
  rfl
theorem at5 {α : Type} {a b c d e f : α} {r : List α} : atI (a :: b :: c :: d :: e :: f :: r) 5 = some f := by
  unfold atI
  rw [ixN_lt (by decide) (by simp only [List.length_cons]; omega)]
  rfl
theorem atI_lt {α : Type} {xs : List α} {i : Int} (h : 0 ≤ i) (h2 : i < xs.length) : ∃ x, atI xs i = some x ∧ x ∈ xs ∧ xs[i.toNat]? = some x := by
  have hl : i.toNat < xs.length := by omega
  refine ⟨xs[i.toNat], ?_, List.getElem_mem hl, List.getElem?_eq_getElem hl⟩
  unfold atI
  rw [ixN_lt h h2]
  exact List.getElem?_eq_getElem hl
theorem fmod_pos {a b : Int} (h : 0 < b) : 0 ≤ a.fmod b ∧ a.fmod b < b := ⟨Int.fmod_nonneg_of_pos a h, Int.fmod_lt_of_pos a h⟩
theorem ix3 : ixN 3 0 = some 0 ∧ ixN 3 2 = some 2 ∧ ixN 3 1 = some 1 := by decide
theorem set3a {a b c d : D} : [a, b, c].set 0 d = [d, b, c] := rfl
theorem set3c {a b c d : D} : [a, b, c].set 2 d = [a, b, d] := rfl
theorem cell_set {μ : List Cell} {k : Nat} {c d : Cell} (h : μ[k]? = some c) : (μ.set k d)[k]? = some d := List.getElem?_set_self (List.getElem?_eq_some_iff.mp h).1
theorem set_same {μ : List Cell} {k : Nat} {c : Cell} (h : μ[k]? = some c) : μ.set k c = μ := by
  refine List.ext_getElem? fun j => ?_
  by_cases e : k = j
  · subst e
    rw [cell_set h, h]
  · rw [List.getElem?_set_ne e]
theorem set_set {μ : List Cell} {k : Nat} {c d : Cell} : (μ.set k c).set k d = μ.set k d := List.set_set ..
/-- the numbers that are drawn from -/
def Die (k : Nat) (μ : List Cell) : Prop := ∃ x y z : Int, μ[k]? = some (.lst [.int x, .int y, .int z])
/-- the cells behind a draw: those before are as they were, new ones may stand behind -/
structure Dr (k : Nat) (μ μ' : List Cell) : Prop where
  die : Die k μ'
  len : μ.length ≤ μ'.length
  old : ∀ j, j ≠ k → j < μ.length → μ'[j]? = μ[j]?
theorem Dr.trans {k : Nat} {μ μ' μ'' : List Cell} (d : Dr k μ μ') (e : Dr k μ' μ'') : Dr k μ μ'' := ⟨e.die, Nat.le_trans d.len e.len, fun j h l => (e.old j h (Nat.lt_of_lt_of_le l d.len)).trans (d.old j h l)⟩
theorem Dr.self {k : Nat} {μ : List Cell} (d : Die k μ) : Dr k μ μ := ⟨d, Nat.le_refl _, fun _ _ _ => rfl⟩
theorem Dr.at_ {k : Nat} {μ μ' : List Cell} (d : Dr k μ μ') {j : Nat} {c : Cell} (h : j ≠ k) (e : μ[j]? = some c) : μ'[j]? = some c := (d.old j h (List.getElem?_eq_some_iff.mp e).1).trans e
theorem Dr.lt {k : Nat} {μ : List Cell} (d : Die k μ) : k < μ.length := let ⟨_, _, _, e⟩ := d; (List.getElem?_eq_some_iff.mp e).1
theorem Dr.app {k : Nat} {μ : List Cell} (d : Die k μ) (c : Cell) : Dr k μ (μ ++ [c]) := by
  refine ⟨?_, by simp, fun j _ l => List.getElem?_append_left l⟩
  obtain ⟨x, y, z, e⟩ := d
  exact ⟨x, y, z, by rw [List.getElem?_append_left (List.getElem?_eq_some_iff.mp e).1]; exact e⟩
/-- a new cell is changed -/
theorem Dr.set {k j : Nat} {μ μ' : List Cell} (d : Dr k μ μ') (hd : Die k μ) (h : μ.length ≤ j) (c : Cell) : Dr k μ (μ'.set j c) := by
  have hk := Dr.lt hd
  refine ⟨?_, by rw [List.length_set]; exact d.len, fun i hi hl => ?_⟩
  · obtain ⟨x, y, z, e⟩ := d.die
    exact ⟨x, y, z, by rw [List.getElem?_set_ne (by omega)]; exact e⟩
  · rw [List.getElem?_set_ne (by omega)]
    exact d.old i hi hl
end DL
namespace DL
open PySem L2 PySem.DLQ
section
variable {S : Sg} {P : D → List Cell → Prop} {Q : Bool → List Cell → Prop} {R : List D → List Cell → Prop} {U : Fl → Sg → Prop} {V : D → Prop} {B : Sg → Prop} {Y : Ov → List Cell → Prop} {fa fb fc : EvE} {fs : EvA} {t u : EvT} {g g' : EvS} {b : Bd} {bs : Bds} {μ : List Cell} {ρ : List (Option D)} {i j : Int} {ds xs : List D} {x y : D} {s z : Str}
/-- an answer that is known -/
theorem wf_at {F : FnF} {r : D} {μ' : List Cell} (h : F ds μ = some (.v r, μ')) : WF F ds μ P ↔ P r μ' := ⟨fun ⟨d, μ'', e, p⟩ => by rw [h] at e; cases e; exact p, fun p => ⟨r, μ', h, p⟩⟩
/-- a call that hands back one of some answers -/
theorem wf_mono {F : FnF} {P' : D → List Cell → Prop} (h : WF F ds μ P') (q : ∀ d μ', P' d μ' → P d μ') : WF F ds μ P := h.mono q
/-- a test whose answer is known -/
theorem wt_at {v : Bool} {μ' : List Cell} (h : WT t S fun b μ'' => b = v ∧ μ'' = μ') : WT t S Q ↔ Q v μ' := by
  obtain ⟨b, μ1, e, e1, e2⟩ := h
  subst e1 e2
  exact ⟨fun ⟨b', μ2, e', p⟩ => by rw [e] at e'; cases e'; exact p, fun p => ⟨_, _, e, p⟩⟩
theorem we_at {d : D} {μ' : List Cell} (h : WE fa S fun b μ'' => b = d ∧ μ'' = μ') : WE fa S P ↔ P d μ' := by
  obtain ⟨b, μ1, e, e1, e2⟩ := h
  subst e1 e2
  exact ⟨fun ⟨b', μ2, e', p⟩ => by rw [e] at e'; cases e'; exact p, fun p => ⟨_, _, e, p⟩⟩
theorem asQ_t {Z : List D → Prop} : (∃ zs, asQ (.tup xs) μ = some zs ∧ Z zs) ↔ Z xs := ⟨fun ⟨z, e, p⟩ => by cases e; exact p, fun p => ⟨_, rfl, p⟩⟩
theorem asQ_l {Z : List D → Prop} : (∃ zs, asQ (.lst xs) μ = some zs ∧ Z zs) ↔ Z xs := ⟨fun ⟨z, e, p⟩ => by cases e; exact p, fun p => ⟨_, rfl, p⟩⟩
theorem gShl_iff : (∃ z, gShl i j = some z ∧ V z) ↔ (0 ≤ j ∧ (Builtin.Int.intBits i : Int) + j ≤ 2 ^ 27) ∧ V (.int (i * 2 ^ j.toNat)) := by
  unfold gShl
  constructor
  · rintro ⟨z, e, p⟩
    split at e
    · rename_i h; cases e; exact ⟨h, p⟩
    · cases e
  · rintro ⟨h, p⟩
    exact ⟨_, if_pos h, p⟩
theorem gShr_iff : (∃ z, gShr i j = some z ∧ V z) ↔ 0 ≤ j ∧ V (.int (i / 2 ^ j.toNat)) := by
  unfold gShr
  constructor
  · rintro ⟨z, e, p⟩
    split at e
    · rename_i h; cases e; exact ⟨h, p⟩
    · cases e
  · rintro ⟨h, p⟩
    exact ⟨_, if_pos h, p⟩
theorem gAnd_iff : (∃ z, gAnd i j = some z ∧ V z) ↔ V (.int (Builtin.bitAnd i j)) := ⟨fun ⟨z, e, p⟩ => by cases e; exact p, fun p => ⟨_, rfl, p⟩⟩
theorem gOr_iff : (∃ z, gOr i j = some z ∧ V z) ↔ V (.int (Builtin.bitOr i j)) := ⟨fun ⟨z, e, p⟩ => by cases e; exact p, fun p => ⟨_, rfl, p⟩⟩
theorem gXor_iff : (∃ z, gXor i j = some z ∧ V z) ↔ V (.int (Builtin.bitXor i j)) := ⟨fun ⟨z, e, p⟩ => by cases e; exact p, fun p => ⟨_, rfl, p⟩⟩
theorem w1_inv : W1 dInv (.int i) μ V ↔ V (.int (Builtin.bitNot i)) := w1_of rfl
theorem w1_bits : W1 dBits (.int i) μ V ↔ V (.int (Builtin.Int.intBits i : Nat)) := w1_of rfl
theorem w2_divmod : W2 dDivmod (.int i) (.int j) μ V ↔ (0 < j ∧ Builtin.divisionGoesByPylong i j = false) ∧ V (.tup [.int (i / j), .int (i % j)]) := w2_if rfl
theorem w1_bin : W1 dBin (.int i) μ V ↔ (0 ≤ i ∧ (binS i).length ≤ sizeLine) ∧ V (.str (binS i)) := by
  constructor
  · rintro ⟨z, e, p⟩
    have e : (if 0 ≤ i ∧ (binS i).length ≤ sizeLine then some (D.str (binS i)) else none) = some z := e
    split at e
    · rename_i h; cases e; exact ⟨h, p⟩
    · cases e
  · rintro ⟨h, p⟩
    exact ⟨_, if_pos h, p⟩
theorem w1_revS : W1 dRevS (.str s) μ V ↔ s.length ≤ sizeLine ∧ V (.str (revS s)) := by
  constructor
  · rintro ⟨z, e, p⟩
    have e : (if s.length ≤ sizeLine then some (D.str (revS s)) else none) = some z := e
    split at e
    · rename_i h; cases e; exact ⟨h, p⟩
    · cases e
  · rintro ⟨h, p⟩
    exact ⟨_, if_pos h, p⟩
theorem w2_count : W2 dCount (.str s) (.str z) μ V ↔ V (.int (Txt.count s z)) := w2_of rfl
theorem w2_find : W2 dFind (.str s) (.str z) μ V ↔ V (.int (Txt.find s z)) := w2_of rfl
theorem we_find3 : WE (fFind3 fa fs) ⟨ρ, μ⟩ P ↔ WE fa ⟨ρ, μ⟩ fun x μ1 => ∃ s, x = .str s ∧ WA fs ⟨ρ, μ1⟩ fun ys μ2 => ∃ z i, ys = [.str z, .int i] ∧ P (.int (Txt.find3 s z i)) μ2 := by
  constructor
  · rintro ⟨d, μ', e, p⟩
    obtain ⟨⟨x, μ1⟩, ea, ed⟩ := Option.bind_eq_some_iff.mp e
    cases x with
    | str z =>
      have ed : ((fs { ρ := ρ, μ := μ1 }).bind fun y => (dFind3 (.str z) y.1).map fun z => (z, y.2)) = some (d, μ') := ed
      obtain ⟨⟨ys, μ2⟩, eb, ed⟩ := Option.bind_eq_some_iff.mp ed
      obtain ⟨w, ez, e2⟩ := Option.map_eq_some_iff.mp ed
      obtain ⟨rfl, rfl⟩ := Prod.mk.inj e2
      obtain ⟨b, i, e5, e6⟩ := dFind3_out (z := z) (xs := ys) ez
      subst e5 e6
      exact ⟨_, _, ea, z, rfl, _, _, eb, b, i, rfl, p⟩
    | _ => cases ed
  · rintro ⟨x, μ1, ea, s, rfl, ys, μ2, eb, z, i, rfl, p⟩
    refine ⟨_, _, ?_, p⟩
    unfold fFind3
    rw [ea]
    show ((fs { ρ := ρ, μ := μ1 }).bind fun y => (dFind3 (.str s) y.1).map fun z => (z, y.2)) = _
    rw [eb]
    rfl
theorem wi_enumS : WI (gEnumS fs) ⟨ρ, μ⟩ R ↔ WA fs ⟨ρ, μ⟩ fun ds μ1 => ∃ x, ds = [.str x] ∧ R (enumD (x.cps.toList.map sgD)) μ1 := by
  constructor
  · rintro ⟨d, μ', e, p⟩
    unfold gEnumS at e
    split at e
    · rename_i xs μ1 ea
      obtain ⟨rfl, rfl⟩ := pr_inj e
      exact ⟨_, _, ea, xs, rfl, p⟩
    · cases e
  · rintro ⟨ds, μ1, ea, xs, rfl, p⟩
    exact ⟨_, μ1, by unfold gEnumS; rw [ea], p⟩
theorem wi_rng2 : WI (gRng2 fs) ⟨ρ, μ⟩ R ↔ WA fs ⟨ρ, μ⟩ fun ds μ1 => ∃ i j, ds = [.int i, .int j] ∧ (-(2 ^ 62) ≤ i ∧ i < 2 ^ 62 ∧ -(2 ^ 62) ≤ j ∧ j < 2 ^ 62) ∧ R (rngD i (j - i).toNat) μ1 := by
  constructor
  · rintro ⟨d, μ', e, p⟩
    unfold gRng2 at e
    split at e
    · rename_i i j μ1 ea
      split at e
      · rename_i h
        obtain ⟨rfl, rfl⟩ := pr_inj e
        exact ⟨_, _, ea, i, j, rfl, h, p⟩
      · cases e
    · cases e
  · rintro ⟨ds, μ1, ea, i, j, rfl, h, p⟩
    exact ⟨_, μ1, by unfold gRng2; rw [ea]; exact if_pos h, p⟩
/-! ### while -/
theorem ws_while {n : Nat} (I : Nat → Sg → Prop) (h : ∀ m S, I m S → WT t S fun k μ1 => if k = true then WS g { S with μ := μ1 } (Tn U fun S2 => ∃ m', m' < m ∧ I m' S2) else U .nx { S with μ := μ1 }) : ∀ m, m < n → ∀ S, I m S → WS (sWhile n t g) S U := by
  intro m
  induction n generalizing m with
  | zero => intro hm; exact absurd hm (Nat.not_lt_zero _)
  | succ n ih =>
    intro hm S hI
    obtain ⟨k, μ1, et, q⟩ := h m S hI
    cases k with
    | false =>
      rw [if_neg Bool.false_ne_true] at q
      exact ⟨.nx, _, by unfold sWhile whL; rw [et], q⟩
    | true =>
      rw [if_pos rfl] at q
      obtain ⟨fl, S2, eg, q⟩ := q
      cases fl with
      | nx =>
        obtain ⟨m', hl, hI'⟩ := q
        obtain ⟨fl', S3, e3, q3⟩ := ih m' (by omega) S2 hI'
        exact ⟨fl', S3, by unfold sWhile whL; rw [et]; simp only [eg]; exact e3, q3⟩
      | ct =>
        obtain ⟨m', hl, hI'⟩ := q
        obtain ⟨fl', S3, e3, q3⟩ := ih m' (by omega) S2 hI'
        exact ⟨fl', S3, by unfold sWhile whL; rw [et]; simp only [eg]; exact e3, q3⟩
      | bk => exact ⟨.nx, S2, by unfold sWhile whL; rw [et]; simp only [eg], q⟩
      | rt d => exact ⟨.rt d, S2, by unfold sWhile whL; rw [et]; simp only [eg], q⟩
      | ex a b => exact ⟨.ex a b, S2, by unfold sWhile whL; rw [et]; simp only [eg], q⟩
/-! ### objects -/
theorem we_meth {nm m : Str} {F : FnF} : WE (fNox (fMethX nm m F fa fs)) ⟨ρ, μ⟩ P ↔ WE fa ⟨ρ, μ⟩ fun o μ1 => isObjD nm m o μ1 = true ∧ WA fs ⟨ρ, μ1⟩ fun ds μ2 => WF F (o :: ds) μ2 P := by
  constructor
  · rintro ⟨d, μ', e, p⟩
    have e := fNox_out e
    unfold fMethX at e
    split at e
    · rename_i o μ1 ea
      split at e
      · rename_i ho
        split at e
        · rename_i ds μ2 eb
          exact ⟨_, _, ea, ho, _, _, eb, d, μ', e, p⟩
        · cases e
      · cases e
    · cases e
  · rintro ⟨o, μ1, ea, ho, ds, μ2, eb, d, μ', e, p⟩
    refine ⟨d, μ', ?_, p⟩
    unfold fNox fMethX
    simp only [ea, ho, if_true, eb, e]
theorem we_prop {nm : Str} {F : FnF} : WE (fProp nm F fa) ⟨ρ, μ⟩ P ↔ WE fa ⟨ρ, μ⟩ fun x μ1 => ∃ k fs, x = .h k ∧ μ1[k]? = some (.obj nm fs) ∧ WF F [.h k] μ1 P := by
  constructor
  · rintro ⟨d, μ', e, p⟩
    unfold fProp at e
    split at e
    · rename_i k μ1 ea
      split at e
      · rename_i n fs ec
        split at e
        · rename_i hn
          subst hn
          split at e
          · rename_i d2 μ2 ef
            obtain ⟨rfl, rfl⟩ := pr_inj e
            exact ⟨_, _, ea, k, fs, rfl, ec, _, _, ef, p⟩
          · cases e
        · cases e
      · cases e
    · cases e
  · rintro ⟨x, μ1, ea, k, fs, rfl, ec, d, μ', ef, p⟩
    exact ⟨d, μ', by unfold fProp; simp only [ea, ec, if_true, ef], p⟩
theorem ws_fldD {ns : List Str} {fl : Str} : WS (sFldD ns fl fa fb) ⟨ρ, μ⟩ U ↔ WE fb ⟨ρ, μ⟩ fun d μ1 => WE fa ⟨ρ, μ1⟩ fun ob μ2 => ∃ μ3, cFld ns fl ob d μ2 = some μ3 ∧ U .nx ⟨ρ, μ3⟩ := by
  constructor
  · rintro ⟨d, μ', e, p⟩
    unfold sFldD at e
    split at e
    · rename_i x μ1 e1
      split at e
      · rename_i y μ2 e2
        split at e
        · rename_i μ3 e3
          obtain ⟨rfl, rfl⟩ := pr_inj e
          exact ⟨_, _, e1, _, _, e2, _, e3, p⟩
        · cases e
      · cases e
    · cases e
  · rintro ⟨x, μ1, e1, y, μ2, e2, μ3, e3, p⟩
    exact ⟨.nx, _, by unfold sFldD; simp only [e1, e2, e3], p⟩
theorem wb_fld {ns : List Str} {fl : Str} {d : D} : WB (bFld ns fl fa) d ⟨ρ, μ⟩ B ↔ WE fa ⟨ρ, μ⟩ fun ob μ1 => ∃ μ3, cFld ns fl ob d μ1 = some μ3 ∧ B ⟨ρ, μ3⟩ := by
  constructor
  · rintro ⟨S', e, p⟩
    unfold bFld at e
    obtain ⟨⟨ob, μ1⟩, e1, e⟩ := Option.bind_eq_some_iff.mp e
    obtain ⟨μ3, e3, e4⟩ := Option.map_eq_some_iff.mp e
    subst e4
    exact ⟨_, _, e1, μ3, e3, p⟩
  · rintro ⟨ob, μ1, e1, μ3, e3, p⟩
    refine ⟨_, ?_, p⟩
    unfold bFld
    rw [e1]
    show (cFld ns fl ob d μ1).map _ = _
    rw [e3]
    rfl
theorem cFld_at {k : Nat} {n fl : Str} {d : D} {fs : List (Str × D)} {Z : List Cell → Prop} (h : μ[k]? = some (.obj n fs)) (hl : fs.length < 1000) : (∃ μ3, cFld [n] fl (.h k) d μ = some μ3 ∧ Z μ3) ↔ Z (μ.set k (.obj n (putD fl d fs))) := by
  have e : cFld [n] fl (.h k) d μ = some (μ.set k (.obj n (putD fl d fs))) := by
    unfold cFld
    simp only [h]
    exact if_pos ⟨List.mem_singleton.mpr rfl, hl⟩
  constructor
  · rintro ⟨μ3, e3, p⟩
    rw [e] at e3
    cases e3
    exact p
  · intro p; exact ⟨_, e, p⟩
theorem w1_fld {ns : List Str} {fl n : Str} {fs : List (Str × D)} {k : Nat} {d : D} (h : μ[k]? = some (.obj n fs)) (hn : n ∈ ns) (hl : fs.lookup fl = some d) : W1 (dFld ns fl) (.h k) μ V ↔ V d := by
  refine w1_of ?_
  unfold dFld
  simp only [h]
  rw [if_pos hn]
  exact hl
theorem wx_R {F : FnF} : WEX (fCallR F fs) ⟨ρ, μ⟩ Y ↔ WA fs ⟨ρ, μ⟩ fun ds μ1 => WFX F ds μ1 Y := by
  constructor
  · rintro ⟨o, μ', e, p⟩
    obtain ⟨ds, μ1, ea, ef⟩ := fCallR_out e
    exact ⟨_, _, ea, _, _, ef, p⟩
  · rintro ⟨ds, μ1, ea, o, μ', ef, p⟩
    exact ⟨_, _, by unfold fCallR; rw [ea]; exact ef, p⟩
/-- C(..): a new cell, then __init__ -/
theorem wfx_mk {nm : Str} {F : FnF} (h : WF F (.h μ.length :: ds) (μ ++ [.obj nm []]) fun d μ' => d = .non ∧ Y (.v (.h μ.length)) μ') : WFX (mkF nm F) ds μ Y := by
  obtain ⟨d, μ', e, rfl, p⟩ := h
  exact ⟨_, μ', by unfold mkF; rw [e]; rfl, p⟩
theorem wf_only {n : Nat} {F : FnF} (hn : ds.length = n) : WF (only n F) ds μ P ↔ WF F ds μ P := by
  have e : only n F ds μ = F ds μ := if_pos hn
  unfold WF
  rw [e]
/-! ### comprehensions -/
theorem wlc_filter {i : Nat} {p : D → Bool} (hi : i < ρ.length) : ∀ {ds : List D}, (∀ d ∈ ds, WT t ⟨ρ.set i (some d), μ⟩ fun k μ' => k = p d ∧ μ' = μ) → WLc (bName i) t (fV i) ρ ds μ fun xs μ' => xs = ds.filter p ∧ μ' = μ
  | [], _ => wlc_nil.mpr ⟨rfl, rfl⟩
  | d :: ds, h => by
    obtain ⟨k, μ', e, ek, eμ⟩ := h d List.mem_cons_self
    rw [ek, eμ] at e
    have ih := wlc_filter hi fun x hx => h x (List.mem_cons_of_mem _ hx)
    refine wlc_cons.mpr (wb_name.mpr ⟨hi, p d, μ, e, ?_⟩)
    cases hp : p d with
    | false =>
      rw [if_neg Bool.false_ne_true, List.filter_cons_of_neg (by rw [hp]; exact Bool.false_ne_true)]
      exact ih
    | true =>
      rw [if_pos rfl, List.filter_cons_of_pos hp]
      refine we_V.mpr ⟨d, List.getElem?_set_self hi, ?_⟩
      obtain ⟨xs, μ1, e1, ex, e2⟩ := ih
      exact ⟨_, _, e1, by rw [ex], e2⟩
theorem wlc_map {q : D → D} : ∀ {ds : List D}, (∀ d ∈ ds, WB b d ⟨ρ, μ⟩ fun S1 => WE fa ⟨S1.ρ, S1.μ⟩ fun x μ' => x = q d ∧ μ' = μ) → WLc b (fun S => some (true, S.μ)) fa ρ ds μ fun xs μ' => xs = ds.map q ∧ μ' = μ
  | [], _ => wlc_nil.mpr ⟨rfl, rfl⟩
  | d :: ds, h => by
    obtain ⟨S1, e, x, μ', ex, exq, eμ⟩ := h d List.mem_cons_self
    rw [exq, eμ] at ex
    have ih := wlc_map fun x hx => h x (List.mem_cons_of_mem _ hx)
    refine wlc_cons.mpr ⟨S1, e, ?_⟩
    obtain ⟨xs, μ1, e1, e2, e3⟩ := ih
    exact ⟨true, S1.μ, rfl, _, _, ex, _, _, e1, by rw [e2]; rfl, e3⟩
theorem WLc.mono {R' : List D → List Cell → Prop} (h : WLc b t fa ρ ds μ R') (q : ∀ xs μ', R' xs μ' → R xs μ') : WLc b t fa ρ ds μ R := let ⟨xs, μ', e, p⟩ := h; ⟨xs, μ', e, q _ _ p⟩
end
end DL
/-! Sets of integers that come round, as bits: plain mathematics. -/
namespace LM
theorem ext {a b : Nat} (h : ∀ i, a.testBit i = b.testBit i) : a = b := Nat.eq_of_testBit_eq h
/-- the number whose bits below n are those of f -/
def ofB (f : Nat → Bool) : Nat → Nat
  | 0 => 0
  | n + 1 => ofB f n ||| (if f n then 2 ^ n else 0)
theorem tb_ofB (f : Nat → Bool) : ∀ n i, (ofB f n).testBit i = (decide (i < n) && f i)
  | 0, i => by simp [ofB]
  | n + 1, i => by
    unfold ofB
    rw [Nat.testBit_or, tb_ofB f n i]
    by_cases hi : i = n
    · subst hi
      by_cases hf : f i = true
      · simp [hf]
      · simp [hf]
    · have e : (if f n = true then 2 ^ n else 0 : Nat).testBit i = false := by
        split
        · rw [Nat.testBit_two_pow]; simp; omega
        · simp
      rw [e, Bool.or_false]
      by_cases h2 : i < n
      · rw [decide_eq_true h2, decide_eq_true (by omega : i < n + 1)]
      · rw [decide_eq_false h2, decide_eq_false (by omega : ¬ i < n + 1)]
theorem ofB_lt (f : Nat → Bool) (n : Nat) : ofB f n < 2 ^ n := Nat.lt_pow_two_of_testBit _ fun i hi => by rw [tb_ofB, decide_eq_false (by omega), Bool.false_and]
theorem tb_lt {b n i : Nat} (h : b < 2 ^ n) (hi : n ≤ i) : b.testBit i = false := Nat.testBit_lt_two_pow (Nat.lt_of_lt_of_le h (Nat.pow_le_pow_right (by decide) hi))
theorem ofB_self {b n : Nat} (h : b < 2 ^ n) : ofB b.testBit n = b := ext fun i => by
  rw [tb_ofB]
  by_cases hi : i < n
  · rw [decide_eq_true hi, Bool.true_and]
  · rw [decide_eq_false hi, Bool.false_and, tb_lt h (by omega)]
theorem ofB_congr {f g : Nat → Bool} {n : Nat} (h : ∀ i, i < n → f i = g i) : ofB f n = ofB g n := ext fun i => by
  rw [tb_ofB, tb_ofB]
  by_cases hi : i < n
  · rw [h i hi]
  · rw [decide_eq_false hi, Bool.false_and, Bool.false_and]
/-- the numbers of bits, in order -/
def ones (b : Nat) : List Nat := (List.range (b.log2 + 1)).filter b.testBit
theorem lt_log {b : Nat} : b < 2 ^ (b.log2 + 1) := Nat.lt_log2_self
theorem filter_more {p : Nat → Bool} {m : Nat} (h : ∀ i, m ≤ i → p i = false) : ∀ k, (List.range (m + k)).filter p = (List.range m).filter p
  | 0 => rfl
  | k + 1 => by
    rw [← Nat.add_assoc, List.range_succ, List.filter_append, filter_more h k]
    simp [h (m + k) (by omega)]
theorem ones_range {b n : Nat} (h : b < 2 ^ n) : ones b = (List.range n).filter b.testBit := by
  unfold ones
  rcases Nat.le_total n (b.log2 + 1) with q | q
  · obtain ⟨k, e⟩ := Nat.le.dest q
    rw [← e, filter_more fun i hi => tb_lt h hi]
  · obtain ⟨k, e⟩ := Nat.le.dest q
    rw [← e, filter_more fun i hi => tb_lt lt_log hi]
theorem mem_ones {b i : Nat} : i ∈ ones b ↔ b.testBit i = true := by
  unfold ones
  rw [List.mem_filter, List.mem_range]
  refine ⟨fun h => h.2, fun h => ⟨?_, h⟩⟩
  rcases Nat.lt_or_ge i (b.log2 + 1) with q | q
  · exact q
  · rw [tb_lt lt_log q] at h; cases h
theorem pw_ones (b : Nat) : (ones b).Pairwise (· < ·) := List.Pairwise.filter _ List.pairwise_lt_range
theorem ones_zero : ones 0 = [] := by decide
theorem ones_nil {b : Nat} (h : ones b = []) : b = 0 := ext fun i => by
  rw [Nat.zero_testBit]
  cases e : b.testBit i with
  | false => rfl
  | true => have := mem_ones.mpr e; rw [h] at this; cases this
/-- the binary digits from the lowest on, as signs -/
def digs (b : Nat) : List Nat := (List.range (b.log2 + 1)).map fun i => if b.testBit i then 49 else 48
theorem log_half {n : Nat} (h : 2 ≤ n) : n.log2 = (n / 2).log2 + 1 := by
  rw [Nat.log2_def, if_pos h]
theorem digs_half {n : Nat} (h : 2 ≤ n) : digs n = (if n % 2 = 1 then 49 else 48) :: digs (n / 2) := by
  unfold digs
  rw [log_half h, List.range_succ_eq_map, List.map_cons, List.map_map]
  congr 1
  · rw [Nat.testBit_zero]; simp
  · refine List.map_congr_left fun i _ => ?_
    show (if n.testBit (i + 1) = true then _ else _) = _
    rw [Nat.testBit_succ]
theorem core_digs : ∀ (fuel n : Nat) (acc : List Char), n < fuel → (Nat.toDigitsCore 2 fuel n acc).map Char.toNat = (digs n).reverse ++ acc.map Char.toNat
  | 0, n, acc, h => by omega
  | fuel + 1, n, acc, h => by
    unfold Nat.toDigitsCore
    have dg : (Nat.digitChar (n % 2)).toNat = if n % 2 = 1 then 49 else 48 := by
      rcases Nat.mod_two_eq_zero_or_one n with e | e <;> rw [e] <;> decide
    by_cases h2 : n / 2 = 0
    · simp only [h2, if_true]
      have hn : n = 0 ∨ n = 1 := by omega
      rcases hn with rfl | rfl
      · rw [List.map_cons]; rfl
      · rw [List.map_cons]; rfl
    · simp only [h2, if_false]
      rw [core_digs fuel (n / 2) _ (by omega), digs_half (n := n) (by omega), List.map_cons, dg, List.reverse_cons, List.append_assoc]
      rfl
theorem toDigits_digs (n : Nat) : (Nat.toDigits 2 n).map Char.toNat = (digs n).reverse := by
  unfold Nat.toDigits
  rw [core_digs (n + 1) n [] (by omega)]
  simp
theorem digs_len (b : Nat) : (digs b).length = b.log2 + 1 := by unfold digs; rw [List.length_map, List.length_range]
theorem digs_get {b i : Nat} (h : i < b.log2 + 1) : (digs b)[i]? = some (if b.testBit i then 49 else 48) := by
  unfold digs
  rw [List.getElem?_map, List.getElem?_range h]
  rfl

/-! ### a period, turned, filled, made shorter -/
theorem mod_two_pow_tb (a s i : Nat) : (a % 2 ^ s).testBit i = (decide (i < s) && a.testBit i) := Nat.testBit_mod_two_pow ..
def turn (c s k : Nat) : Nat := (c <<< k ||| c >>> (s - k)) % 2 ^ s
theorem turn_lt {c s k : Nat} : turn c s k < 2 ^ s := Nat.mod_lt _ (Nat.two_pow_pos s)
theorem tb_turn {c s k i : Nat} (hc : c < 2 ^ s) (hk : k < s) (hi : i < s) : (turn c s k).testBit i = c.testBit ((i + (s - k)) % s) := by
  unfold turn
  rw [mod_two_pow_tb, decide_eq_true hi, Bool.true_and, Nat.testBit_or, Nat.testBit_shiftLeft, Nat.testBit_shiftRight]
  by_cases h : k ≤ i
  · have e1 : (i + (s - k)) % s = i - k := by
      rw [show i + (s - k) = (i - k) + s by omega, Nat.add_mod_right, Nat.mod_eq_of_lt (by omega)]
    rw [e1, tb_lt hc (show s ≤ s - k + i by omega), Bool.or_false, decide_eq_true (show i ≥ k from h), Bool.true_and]
  · have e1 : (i + (s - k)) % s = i + (s - k) := Nat.mod_eq_of_lt (by omega)
    rw [e1, decide_eq_false (show ¬ i ≥ k from h), Bool.false_and, Bool.false_or, Nat.add_comm]
/-- all numbers below n that have the rests -/
def fill (c s n : Nat) : Nat := ofB (fun i => c.testBit (i % s)) n
theorem tb_fill {c s n i : Nat} : (fill c s n).testBit i = (decide (i < n) && c.testBit (i % s)) := tb_ofB _ _ _
theorem fill_lt {c s n : Nat} : fill c s n < 2 ^ n := ofB_lt _ _
theorem fill_self {c s : Nat} (h : c < 2 ^ s) : fill c s s = c := by
  unfold fill
  rw [ofB_congr (g := c.testBit) fun i hi => by rw [Nat.mod_eq_of_lt hi], ofB_self h]
theorem fill_double {c s k : Nat} : fill c s (s * k) ||| fill c s (s * k) <<< (s * k) = fill c s (s * k * 2) := ext fun i => by
  rw [Nat.testBit_or, Nat.testBit_shiftLeft, tb_fill, tb_fill, tb_fill]
  by_cases h1 : i < s * k
  · rw [decide_eq_true h1, decide_eq_true (show i < s * k * 2 by omega), decide_eq_false (show ¬ i ≥ s * k by omega)]
    simp
  · rw [decide_eq_false h1, decide_eq_true (show i ≥ s * k by omega)]
    have e : (i - s * k) % s = i % s := by
      conv => rhs; rw [show i = (i - s * k) + s * k by omega, Nat.add_mul_mod_self_left]
    rw [e]
    by_cases h2 : i < s * k * 2
    · rw [decide_eq_true h2, decide_eq_true (show i - s * k < s * k by omega)]; simp
    · rw [decide_eq_false h2, decide_eq_false (show ¬ i - s * k < s * k by omega)]; simp
theorem fill_cut {c s m n : Nat} (h : n ≤ m) : fill c s m % 2 ^ n = fill c s n := ext fun i => by
  rw [mod_two_pow_tb, tb_fill, tb_fill]
  by_cases h1 : i < n
  · rw [decide_eq_true h1, decide_eq_true (show i < m by omega)]; simp
  · rw [decide_eq_false h1]; simp
/-- d is a period of the rests -/
def Per (c s d : Nat) : Prop := ∀ i, c.testBit (i % s) = c.testBit ((i + d) % s)
theorem Per.self (c s : Nat) : Per c s s := fun i => by rw [Nat.add_mod_right]
theorem Per.mul {c s d : Nat} (h : Per c s d) : ∀ k, Per c s (d * k)
  | 0 => fun i => by simp
  | k + 1 => fun i => by rw [Per.mul h k i, h (i + d * k), Nat.add_assoc, Nat.mul_succ]
theorem Per.mod_self {c s d i : Nat} (hp : Per c s d) : c.testBit (i % s) = c.testBit ((i % d) % s) := by
  rw [hp.mul (i / d) (i % d), Nat.mod_add_div]
theorem Per.gcd {c s d : Nat} (hs : 0 < s) (h : Per c s d) : Per c s (Nat.gcd d s) := by
  -- a multiple of d that leaves the divisor over s
  have step : ∀ n, ∀ a b : Nat, a + b ≤ n → Per c s a → Per c s b → Per c s (Nat.gcd a b) := by
    intro n
    induction n with
    | zero => intro a b hab ha hb; have : a = 0 := by omega
              subst this; rw [Nat.gcd_zero_left]; exact hb
    | succ n ih =>
      intro a b hab ha hb
      rcases Nat.eq_zero_or_pos a with e | pa
      · subst e; rw [Nat.gcd_zero_left]; exact hb
      rcases Nat.eq_zero_or_pos b with e | pb
      · subst e; rw [Nat.gcd_zero_right]; exact ha
      rcases Nat.le_total a b with hle | hle
      · have hsub : Per c s (b - a) := fun i => by
          have q := ha (i + (b - a))
          rw [show i + (b - a) + a = i + b by omega, ← hb i] at q
          exact q.symm
        have := ih a (b - a) (by omega) ha hsub
        rwa [Nat.gcd_sub_self_right hle] at this
      · have hsub : Per c s (a - b) := fun i => by
          have q := hb (i + (a - b))
          rw [show i + (a - b) + b = i + a by omega, ← ha i] at q
          exact q.symm
        have := ih (a - b) b (by omega) hsub hb
        rwa [Nat.gcd_sub_self_left hle] at this
  exact step (d + s) d s (Nat.le_refl _) h (Per.self c s)
theorem shorter_iff {c s t : Nat} (hc : c < 2 ^ s) (ht : 0 < t) (hts : t ∣ s) (hs : 0 < s) : c >>> t = c % 2 ^ (s - t) ↔ Per c s t := by
  have hle := Nat.le_of_dvd hs hts
  constructor
  · intro e i
    have hi : i % s < s := Nat.mod_lt _ hs
    have key : ∀ j, j + t < s → c.testBit j = c.testBit (j + t) := fun j hj => by
      have q := congrArg (fun x => Nat.testBit x j) e
      simp only [Nat.testBit_shiftRight, mod_two_pow_tb] at q
      rw [decide_eq_true (show j < s - t by omega), Bool.true_and] at q
      rw [← q, Nat.add_comm]
    have e2 : (i + t) % s = (i % s + t) % s := by rw [Nat.mod_add_mod]
    rw [e2]
    generalize i % s = j at hi
    by_cases hj : j + t < s
    · rw [Nat.mod_eq_of_lt hj]; exact key j hj
    · rw [show j + t = (j + t - s) + s by omega, Nat.add_mod_right, Nat.mod_eq_of_lt (by omega)]
      -- down by t as often as it goes
      have down : ∀ k j, j + t * k < s → c.testBit j = c.testBit (j + t * k) := by
        intro k
        induction k with
        | zero => intro j _; simp
        | succ k ih =>
          intro j hj
          rw [Nat.mul_succ] at hj ⊢
          rw [ih j (by omega), key (j + t * k) (by omega), Nat.add_assoc]
      obtain ⟨q, rfl⟩ := hts
      have hq : 0 < q := Nat.pos_of_mul_pos_left hs |> fun _ => by
        rcases Nat.eq_zero_or_pos q with z | z
        · subst z; simp at hs
        · exact z
      have := down (q - 1) (j + t - t * q) (by rw [Nat.mul_sub_one]; have : t * q ≥ t := Nat.le_mul_of_pos_right t hq; omega)
      rw [this]
      congr 1
      rw [Nat.mul_sub_one]
      have : t * q ≥ t := Nat.le_mul_of_pos_right t hq
      omega
  · intro p
    refine ext fun j => ?_
    rw [Nat.testBit_shiftRight, mod_two_pow_tb]
    by_cases hj : j < s - t
    · rw [decide_eq_true hj, Bool.true_and]
      have q := p j
      rw [Nat.mod_eq_of_lt (by omega), Nat.mod_eq_of_lt (show j + t < s by omega)] at q
      rw [q, Nat.add_comm]
    · rw [decide_eq_false hj, Bool.false_and, tb_lt hc (by omega)]
/-- (c', s') tells the same rests as (c, s) -/
structure Same (c s c' s' : Nat) : Prop where
  pos : 0 < s'
  lt : c' < 2 ^ s'
  dvd : s' ∣ s
  bit : ∀ i, c'.testBit (i % s') = c.testBit (i % s)
theorem Same.refl {c s : Nat} (hs : 0 < s) (hc : c < 2 ^ s) : Same c s c s := ⟨hs, hc, Nat.dvd_refl _, fun _ => rfl⟩
theorem Same.trans {c s c' s' c'' s'' : Nat} (h : Same c s c' s') (h' : Same c' s' c'' s'') : Same c s c'' s'' := ⟨h'.pos, h'.lt, Nat.dvd_trans h'.dvd h.dvd, fun i => (h'.bit i).trans (h.bit i)⟩
theorem same_cut {c s t : Nat} (hs : 0 < s) (hts : t ∣ s) (p : Per c s t) : Same c s (c % 2 ^ t) t := by
  have ht : 0 < t := Nat.pos_of_dvd_of_pos hts hs
  refine ⟨ht, Nat.mod_lt _ (Nat.two_pow_pos t), hts, fun i => ?_⟩
  have hi : i % t < t := Nat.mod_lt _ ht
  rw [mod_two_pow_tb, decide_eq_true hi, Bool.true_and, p.mod_self (i := i), Nat.mod_eq_of_lt (Nat.lt_of_lt_of_le hi (Nat.le_of_dvd hs hts))]
/-- no shorter period tells these rests -/
def Least (c s : Nat) : Prop := ∀ d, 0 < d → Per c s d → s ∣ d
/-- as far as the periods are tried: what is left divides the period, and what is too much divides what is left -/
structure Inv (c s left c' s' : Nat) : Prop where
  same : Same c s c' s'
  lft : 0 < left
  dvd : left ∣ s'
  rest : ∀ d, 0 < d → Per c' s' d → d ∣ s' → s' / d ∣ left
theorem Inv.start {c s : Nat} (hs : 0 < s) (hc : c < 2 ^ s) : Inv c s s c s := ⟨.refl hs hc, hs, Nat.dvd_refl _, fun d _ _ hd => Nat.div_dvd_of_dvd hd⟩
theorem Inv.least {c s c' s' : Nat} (h : Inv c s 1 c' s') : Least c' s' := fun d hd p => by
  have g := p.gcd h.same.pos
  have hg : 0 < Nat.gcd d s' := Nat.gcd_pos_of_pos_left _ hd
  have q := h.rest _ hg g (Nat.gcd_dvd_right d s')
  have e : s' / Nat.gcd d s' = 1 := Nat.dvd_one.mp q
  have e2 : s' = Nat.gcd d s' := by
    have := Nat.div_mul_cancel (Nat.gcd_dvd_right d s')
    rw [e, Nat.one_mul] at this
    exact this.symm
  rw [e2]
  exact Nat.gcd_dvd_left d s'
/-- p has no divisors but 1 and p -/
def Pr (p : Nat) : Prop := 1 < p ∧ ∀ d, d ∣ p → d = 1 ∨ d = p
theorem Pr.cop {p q : Nat} (h : Pr p) (n : ¬ p ∣ q) : Nat.Coprime q p := by
  have g : Nat.gcd q p ∣ p := Nat.gcd_dvd_right ..
  rcases h.2 _ g with e | e
  · exact e
  · exfalso
    have q1 : Nat.gcd q p ∣ q := Nat.gcd_dvd_left ..
    exact n (e ▸ q1)
theorem div_div_comm' {s p d : Nat} : s / p / d = s / d / p := by rw [Nat.div_div_eq_div_mul, Nat.div_div_eq_div_mul, Nat.mul_comm]
/-- one prime is tried, and is there -/
theorem Inv.cut {c s left c' s' p : Nat} (h : Inv c s left c' s') (hp : Pr p) (hl : p ∣ left) (q : Per c' s' (s' / p)) : Inv c s (left / p) (c' % 2 ^ (s' / p)) (s' / p) := by
  have pp : 0 < p := Nat.lt_trans Nat.one_pos hp.1
  have ps : p ∣ s' := Nat.dvd_trans hl h.dvd
  have sm := same_cut h.same.pos (Nat.div_dvd_of_dvd ps) q
  refine ⟨h.same.trans sm, Nat.div_pos (Nat.le_of_dvd h.lft hl) pp, ?_, fun d hd pd dd => ?_⟩
  · obtain ⟨a, rfl⟩ := hl
    obtain ⟨b, e⟩ := h.dvd
    rw [Nat.mul_div_cancel_left _ pp, e, Nat.mul_assoc, Nat.mul_div_cancel_left _ pp]
    exact ⟨b, rfl⟩
  · have p2 : Per c' s' d := fun i => by rw [← sm.bit, ← sm.bit]; exact pd i
    have d2 : d ∣ s' := Nat.dvd_trans dd (Nat.div_dvd_of_dvd ps)
    have r := h.rest d hd p2 d2
    rw [div_div_comm']
    obtain ⟨a, ea⟩ := dd
    have ea' : s' = p * (d * a) := by rw [← ea, Nat.mul_div_cancel' ps]
    have e1 : s' / d = p * a := by rw [ea', Nat.mul_left_comm, Nat.mul_div_cancel_left _ hd]
    rw [e1] at r ⊢
    rw [Nat.mul_div_cancel_left _ pp]
    obtain ⟨b, e⟩ := r
    rw [e, Nat.mul_assoc, Nat.mul_div_cancel_left _ pp]
    exact ⟨b, rfl⟩
/-- one prime is tried, and is not there -/
theorem Inv.keep {c s left c' s' p : Nat} (h : Inv c s left c' s') (hp : Pr p) (hl : p ∣ left) (q : ¬ Per c' s' (s' / p)) : Inv c s (left / p) c' s' := by
  have pp : 0 < p := Nat.lt_trans Nat.one_pos hp.1
  have ps : p ∣ s' := Nat.dvd_trans hl h.dvd
  refine ⟨h.same, Nat.div_pos (Nat.le_of_dvd h.lft hl) pp, Nat.dvd_trans (Nat.div_dvd_of_dvd hl) h.dvd, fun d hd pd dd => ?_⟩
  have r := h.rest d hd pd dd
  have np : ¬ p ∣ s' / d := fun ⟨a, ea⟩ => q (by
    have e : s' / p = d * a := by
      have e1 : s' = d * (p * a) := by rw [← ea, Nat.mul_div_cancel' dd]
      rw [e1, Nat.mul_left_comm, Nat.mul_div_cancel_left _ pp]
    rw [e]
    exact pd.mul a)
  have co := hp.cop np
  obtain ⟨k, ek⟩ := r
  rw [ek] at hl ⊢
  obtain ⟨b, rfl⟩ := (co.symm).dvd_of_dvd_mul_left hl
  rw [Nat.mul_left_comm, Nat.mul_div_cancel_left _ pp]
  exact ⟨b, rfl⟩
def primes : List Nat := [2, 3, 5, 7, 11, 13, 17, 19, 23, 29, 31, 37, 41, 43]
theorem pr_dec : ∀ p ∈ primes, 1 < p ∧ ∀ d < 44, d ∣ p → d = 1 ∨ d = p := by decide
theorem pr_primes {p : Nat} (h : p ∈ primes) : Pr p := ⟨(pr_dec p h).1, fun d hd => (pr_dec p h).2 d (by
  have hp : p < 44 := by
    have : ∀ p ∈ primes, p < 44 := by decide
    exact this p h
  exact Nat.lt_of_le_of_lt (Nat.le_of_dvd (Nat.lt_trans Nat.one_pos (pr_dec p h).1) hd) hp) hd⟩
theorem small_dec : ∀ d < 45, 2 ≤ d → ∃ p ∈ primes, p ∣ d := by decide +kernel
theorem pr_left {n : Nat} (h1 : 1 < n) (h2 : n ≤ 2000) (h : ∀ p ∈ primes, ¬ p ∣ n) : Pr n := ⟨h1, fun d ⟨k, e⟩ => by
  have bad : ∀ x, 2 ≤ x → x < 45 → x ∣ n → False := fun x a b hx => by
    obtain ⟨p, hp, hpx⟩ := small_dec x b a
    exact h p hp (Nat.dvd_trans hpx hx)
  have hk : k ∣ n := ⟨d, by rw [Nat.mul_comm]; exact e⟩
  have hd : d ∣ n := ⟨k, e⟩
  rcases Nat.lt_or_ge d 2 with a | a
  · rcases Nat.lt_or_ge d 1 with z | z
    · have : d = 0 := by omega
      subst this; simp at e; omega
    · exact .inl (by omega)
  · rcases Nat.lt_or_ge k 2 with b | b
    · rcases Nat.lt_or_ge k 1 with z | z
      · have : k = 0 := by omega
        subst this; simp at e; omega
      · have : k = 1 := by omega
        subst this; exact .inr (by omega)
    · exfalso
      rcases Nat.lt_or_ge d 45 with c | c
      · exact bad d a c hd
      · rcases Nat.lt_or_ge k 45 with f | f
        · exact bad k b f hk
        · have : 45 * 45 ≤ d * k := Nat.mul_le_mul c f
          omega⟩
end LM
namespace LM
/-! ### sets -/
def mem (e l c s n : Nat) : Bool := if n < l then e.testBit n else c.testBit (n % s)
def bitlen (n : Nat) : Nat := if n = 0 then 0 else n.log2 + 1
theorem lt_bitlen (n : Nat) : n < 2 ^ bitlen n := by
  unfold bitlen
  split
  · subst_vars; decide
  · exact lt_log
theorem top_bitlen {n : Nat} (h : n ≠ 0) : n.testBit (bitlen n - 1) = true := by
  unfold bitlen
  rw [if_neg h, Nat.add_sub_cancel]
  exact Nat.testBit_log2 h
theorem bitlen_le {n k : Nat} (h : n < 2 ^ k) : bitlen n ≤ k := by
  unfold bitlen
  split
  · exact Nat.zero_le _
  · rename_i hn
    exact Nat.succ_le_of_lt ((Nat.log2_lt hn).mpr h)
/-- told by the least first -/
def LeastE (e l c s : Nat) : Prop := l = 0 ∨ e.testBit (l - 1) ≠ c.testBit ((l - 1) % s)
structure Can (e l c s : Nat) : Prop where
  pos : 0 < s
  cl : c < 2 ^ s
  el : e < 2 ^ l
  per : Least c s
  fst : LeastE e l c s
theorem early {e l c s : Nat} (he : e < 2 ^ l) : let k := bitlen (e ^^^ fill c s l)
    k ≤ l ∧ e % 2 ^ k < 2 ^ k ∧ LeastE (e % 2 ^ k) k c s ∧ ∀ n, mem (e % 2 ^ k) k c s n = mem e l c s n := by
  intro k
  have hk : k ≤ l := bitlen_le (Nat.xor_lt_two_pow he fill_lt)
  refine ⟨hk, Nat.mod_lt _ (Nat.two_pow_pos k), ?_, fun n => ?_⟩
  · by_cases h0 : e ^^^ fill c s l = 0
    · exact .inl (by show bitlen _ = 0; unfold bitlen; rw [if_pos h0])
    · right
      have t := top_bitlen h0
      have kp : 0 < k := by show 0 < bitlen _; unfold bitlen; rw [if_neg h0]; omega
      rw [Nat.testBit_xor, tb_fill, decide_eq_true (show bitlen (e ^^^ fill c s l) - 1 < l by have : k = bitlen (e ^^^ fill c s l) := rfl; omega), Bool.true_and] at t
      rw [mod_two_pow_tb, decide_eq_true (show k - 1 < k by omega), Bool.true_and]
      intro q
      rw [show bitlen (e ^^^ fill c s l) = k from rfl, q] at t
      simp at t
  · unfold mem
    rw [mod_two_pow_tb]
    by_cases h1 : n < k
    · rw [if_pos h1, if_pos (by omega), decide_eq_true h1, Bool.true_and]
    · rw [if_neg h1]
      by_cases h2 : n < l
      · rw [if_pos h2]
        have z : (e ^^^ fill c s l).testBit n = false := tb_lt (lt_bitlen _) (by omega)
        rw [Nat.testBit_xor, tb_fill, decide_eq_true h2, Bool.true_and] at z
        exact (by simpa using z : e.testBit n = c.testBit (n % s)).symm
      · rw [if_neg h2]
theorem mem_same {e l c s c' s' : Nat} (h : Same c s c' s') (n : Nat) : mem e l c' s' n = mem e l c s n := by
  unfold mem
  rw [h.bit]
/-- equal sets are told alike -/
theorem Can.uniq {e l c s e' l' c' s' : Nat} (h : Can e l c s) (h' : Can e' l' c' s') (q : ∀ n, mem e l c s n = mem e' l' c' s' n) : e = e' ∧ l = l' ∧ c = c' ∧ s = s' := by
  have far : ∀ n, max l l' ≤ n → c.testBit (n % s) = c'.testBit (n % s') := fun n hn => by
    have := q n
    unfold mem at this
    rwa [if_neg (by omega), if_neg (by omega)] at this
  -- any multiple of both periods behind both firsts
  have shift : ∀ i, c.testBit (i % s) = c'.testBit (i % s') := fun i => by
    have := far (i + s * s' * max l l') (by
      have : max l l' ≤ s * s' * max l l' := Nat.le_mul_of_pos_left _ (Nat.mul_pos h.pos h'.pos)
      omega)
    rw [Nat.mul_assoc, Nat.add_mul_mod_self_left] at this
    rw [show s * (s' * max l l') = s' * (s * max l l') by rw [Nat.mul_left_comm], Nat.add_mul_mod_self_left] at this
    exact this
  have p1 : Per c s s' := fun i => by rw [shift, shift, Nat.add_mod_right]
  have p2 : Per c' s' s := fun i => by rw [← shift, ← shift, Nat.add_mod_right]
  have hs : s = s' := Nat.dvd_antisymm (h.per _ h'.pos p1) (h'.per _ h.pos p2)
  subst hs
  have hc : c = c' := ext fun i => by
    by_cases hi : i < s
    · have := shift i
      rwa [Nat.mod_eq_of_lt hi] at this
    · rw [tb_lt h.cl (by omega), tb_lt h'.cl (by omega)]
  subst hc
  have hl : l = l' := by
    rcases Nat.lt_trichotomy l l' with z | z | z
    · exfalso
      have := q (l' - 1)
      unfold mem at this
      rw [if_neg (by omega), if_pos (by omega)] at this
      rcases h'.fst with y | y
      · omega
      · exact y this.symm
    · exact z
    · exfalso
      have := q (l - 1)
      unfold mem at this
      rw [if_pos (by omega), if_neg (by omega)] at this
      rcases h.fst with y | y
      · omega
      · exact y this
  subst hl
  refine ⟨ext fun i => ?_, rfl, rfl, rfl⟩
  by_cases hi : i < l
  · have := q i
    unfold mem at this
    rwa [if_pos hi, if_pos hi] at this
  · rw [tb_lt h.el (by omega), tb_lt h'.el (by omega)]

/-! ### the lowest bit -/
theorem least_of {p : Nat → Bool} : ∀ {n : Nat}, p n = true → ∃ k, k ≤ n ∧ p k = true ∧ ∀ i, i < k → p i = false := by
  intro n
  induction n using Nat.strongRecOn with
  | _ n ih =>
    intro h
    by_cases hx : ∃ i, i < n ∧ p i = true
    · obtain ⟨i, hi, pi⟩ := hx
      obtain ⟨k, hk, a, b⟩ := ih i hi pi
      exact ⟨k, by omega, a, b⟩
    · exact ⟨n, Nat.le_refl _, h, fun i hi => by
        cases e : p i with
        | false => rfl
        | true => exact absurd ⟨i, hi, e⟩ hx⟩
theorem some_bit {b : Nat} (h : b ≠ 0) : ∃ k, b.testBit k = true ∧ ∀ i, i < k → b.testBit i = false := by
  obtain ⟨i, hi⟩ := Nat.exists_testBit_of_ne_zero h
  obtain ⟨k, _, a, c⟩ := least_of (p := b.testBit) hi
  exact ⟨k, a, c⟩
theorem low_form {b k : Nat} (h : b.testBit k = true) (h0 : ∀ i, i < k → b.testBit i = false) : ∃ m, b = 2 ^ k * (2 * m + 1) := by
  refine ⟨b / 2 ^ k / 2, ext fun i => ?_⟩
  have e : 2 ^ k * (2 * (b / 2 ^ k / 2) + 1) = 2 ^ k * (2 * (b / 2 ^ k / 2) + 1) + 0 := rfl
  rw [e, Nat.testBit_two_pow_mul_add _ (Nat.two_pow_pos k)]
  by_cases hi : i < k
  · rw [if_pos hi, h0 i hi, Nat.zero_testBit]
  · rw [if_neg hi]
    have hb : b / 2 ^ k % 2 = 1 := by
      have := h
      rw [Nat.testBit_eq_decide_div_mod_eq] at this
      exact of_decide_eq_true this
    have e2 : 2 * (b / 2 ^ k / 2) + 1 = b / 2 ^ k := by omega
    rw [e2, Nat.testBit_div_two_pow]
    congr 1
    omega
theorem low_diff {b k : Nat} (h : b.testBit k = true) (h0 : ∀ i, i < k → b.testBit i = false) : b - (b &&& (b - 1)) = 2 ^ k := by
  obtain ⟨m, rfl⟩ := low_form h h0
  have kp := Nat.two_pow_pos k
  have e1 : 2 ^ k * (2 * m + 1) - 1 = 2 ^ k * (2 * m) + (2 ^ k - 1) := by rw [Nat.mul_add]; omega
  have e2 : 2 ^ k * (2 * m + 1) &&& (2 ^ k * (2 * m + 1) - 1) = 2 ^ k * (2 * m) := ext fun i => by
    have z1 : 2 ^ k * (2 * m + 1) = 2 ^ k * (2 * m + 1) + 0 := rfl
    have z2 : 2 ^ k * (2 * m) = 2 ^ k * (2 * m) + 0 := rfl
    rw [Nat.testBit_and, e1]
    conv => lhs; lhs; rw [z1]
    conv => rhs; rw [z2]
    rw [Nat.testBit_two_pow_mul_add _ kp, Nat.testBit_two_pow_mul_add _ (show 2 ^ k - 1 < 2 ^ k by omega), Nat.testBit_two_pow_mul_add _ kp]
    by_cases hi : i < k
    · rw [if_pos hi, if_pos hi, if_pos hi]; simp
    · rw [if_neg hi, if_neg hi, if_neg hi]
      cases i - k with
      | zero => simp
      | succ j =>
        rw [Nat.testBit_succ, Nat.testBit_succ]
        rw [show (2 * m + 1) / 2 = m by omega, show 2 * m / 2 = m by omega, Bool.and_self]
  rw [e2, Nat.mul_add]
  omega
theorem bitlen_pow (k : Nat) : bitlen (2 ^ k) = k + 1 := by
  unfold bitlen
  rw [if_neg (Nat.ne_of_gt (Nat.two_pow_pos k)), Nat.log2_two_pow]

/-! ### counting -/
def cnt (f : Nat → Bool) (n : Nat) : Nat := ((List.range n).filter f).length
theorem cnt_congr {f g : Nat → Bool} {n : Nat} (h : ∀ i, i < n → f i = g i) : cnt f n = cnt g n := by
  unfold cnt
  rw [List.filter_congr fun i hi => h i (List.mem_range.mp hi)]
theorem cnt_add (f : Nat → Bool) (a b : Nat) : cnt f (a + b) = cnt f a + cnt (fun i => f (a + i)) b := by
  unfold cnt
  rw [List.range_add, List.filter_append, List.length_append, List.filter_map, List.length_map]
  rfl
theorem cnt_one (f : Nat → Bool) : cnt f 1 = if f 0 = true then 1 else 0 := by
  unfold cnt
  cases h : f 0 <;> simp [List.range_succ, h]
theorem cnt_ones {b n : Nat} (h : b < 2 ^ n) : (ones b).length = cnt b.testBit n := by rw [ones_range h]; rfl
theorem cnt_turn {c s : Nat} (hc : c < 2 ^ s) (hs : 0 < s) : ∀ a, cnt (fun i => c.testBit ((a + i) % s)) s = (ones c).length
  | 0 => by
    rw [cnt_ones hc]
    exact cnt_congr fun i hi => by rw [Nat.zero_add, Nat.mod_eq_of_lt hi]
  | a + 1 => by
    rw [← cnt_turn hc hs a]
    have x := cnt_add (fun i => c.testBit ((a + i) % s)) 1 s
    have y := cnt_add (fun i => c.testBit ((a + i) % s)) s 1
    rw [Nat.add_comm 1 s, y] at x
    rw [cnt_one, cnt_one] at x
    simp only [Nat.add_zero, Nat.add_mod_right] at x
    have e : (fun i => c.testBit ((a + (1 + i)) % s)) = fun i => c.testBit ((a + 1 + i) % s) := by funext i; rw [Nat.add_assoc]
    rw [e] at x
    omega
theorem cnt_rounds {c s : Nat} (hc : c < 2 ^ s) (hs : 0 < s) (a : Nat) : ∀ q, cnt (fun i => c.testBit ((a + i) % s)) (s * q) = q * (ones c).length
  | 0 => by simp [cnt]
  | q + 1 => by
    rw [Nat.mul_succ, cnt_add, cnt_rounds hc hs a q]
    have e : (fun i => c.testBit ((a + (s * q + i)) % s)) = fun i => c.testBit ((a + i) % s) := by
      funext i
      rw [show a + (s * q + i) = a + i + s * q by omega, Nat.add_mul_mod_self_left]
    rw [e, cnt_turn hc hs a, Nat.succ_mul]
theorem cnt_early {e l c s n : Nat} (h : n ≤ l) : cnt (mem e l c s) n = (ones (e % 2 ^ n)).length := by
  rw [cnt_ones (n := n) (Nat.mod_lt _ (Nat.two_pow_pos n))]
  exact cnt_congr fun i hi => by
    unfold mem
    rw [if_pos (by omega), mod_two_pow_tb, decide_eq_true hi, Bool.true_and]
theorem cnt_late {e l c s q r : Nat} (he : e < 2 ^ l) (hc : c < 2 ^ s) (hs : 0 < s) (hr : r ≤ s) {late : Nat} (hl : ∀ i, i < s → late.testBit i = c.testBit ((l + i) % s)) :
    cnt (mem e l c s) (l + (s * q + r)) = (ones e).length + q * (ones c).length + (ones (late % 2 ^ r)).length := by
  rw [cnt_add, cnt_early (Nat.le_refl l), Nat.mod_eq_of_lt he]
  have e1 : cnt (fun i => mem e l c s (l + i)) (s * q + r) = cnt (fun i => c.testBit ((l + i) % s)) (s * q + r) := cnt_congr fun i _ => by
    unfold mem
    rw [if_neg (by omega)]
  rw [e1, cnt_add, cnt_rounds hc hs, cnt_ones (b := late % 2 ^ r) (n := r) (Nat.mod_lt _ (Nat.two_pow_pos r)), Nat.add_assoc]
  congr 2
  exact cnt_congr fun i hi => by
    rw [mod_two_pow_tb, decide_eq_true hi, Bool.true_and, hl i (by omega), show l + (s * q + i) = l + i + s * q by omega, Nat.add_mul_mod_self_left]
end LM
namespace DL
open PySem L2 PySem.DLQ LM
/-! numbers as bits -/
theorem and_nat (a b : Nat) : Builtin.bitAnd (a : Int) (b : Int) = ((a &&& b : Nat) : Int) := by
  unfold Builtin.bitAnd
  rw [decide_eq_true (Int.natCast_nonneg a), decide_eq_true (Int.natCast_nonneg b)]
  simp only [Int.toNat_natCast]
theorem or_nat (a b : Nat) : Builtin.bitOr (a : Int) (b : Int) = ((a ||| b : Nat) : Int) := by
  rw [L2.bitOr_nn (Int.natCast_nonneg a) (Int.natCast_nonneg b)]
  simp only [Int.toNat_natCast]
theorem disj_add : ∀ x y : Nat, x &&& y = 0 → x + y = x ||| y := by
  intro x
  induction x using Nat.strongRecOn with
  | _ x ih =>
    intro y h
    by_cases hx : x = 0
    · subst hx; simp
    · have h2 : x / 2 &&& y / 2 = 0 := by rw [← Nat.and_div_two, h]
      have i := ih (x / 2) (by omega) (y / 2) h2
      have hm : (x &&& y) % 2 = 0 := by rw [h]
      have e1 := Nat.div_add_mod (x ||| y) 2
      rw [Nat.or_div_two, ← i] at e1
      have b0 : ¬ (x % 2 = 1 ∧ y % 2 = 1) := fun ⟨q1, q2⟩ => by
        have z : (x &&& y).testBit 0 = false := by rw [h]; rfl
        rw [Nat.testBit_and, Nat.testBit_zero, Nat.testBit_zero, q1, q2] at z
        cases z
      have q : (x ||| y).testBit 0 = (x.testBit 0 || y.testBit 0) := Nat.testBit_or ..
      simp only [Nat.testBit_zero] at q
      have q' : (x ||| y) % 2 = 1 ↔ (x % 2 = 1 ∨ y % 2 = 1) := by
        rw [← Bool.decide_or, decide_eq_decide] at q
        exact q
      omega
theorem xor_nat (a b : Nat) : Builtin.bitXor (a : Int) (b : Int) = ((a ^^^ b : Nat) : Int) := by
  unfold Builtin.bitXor
  rw [or_nat, and_nat]
  have h0 : (a ^^^ b) &&& (a &&& b) = 0 := ext fun i => by
    rw [Nat.testBit_and, Nat.testBit_and, Nat.testBit_xor, Nat.zero_testBit]
    cases a.testBit i <;> cases b.testBit i <;> rfl
  have h1 : (a ^^^ b) ||| (a &&& b) = a ||| b := ext fun i => by
    rw [Nat.testBit_or, Nat.testBit_and, Nat.testBit_xor, Nat.testBit_or]
    cases a.testBit i <;> cases b.testBit i <;> rfl
  have := disj_add _ _ h0
  rw [h1] at this
  omega
/-- a & ~b -/
theorem andnot_nat (a b : Nat) : Builtin.bitAnd (a : Int) (Builtin.bitNot (b : Int)) = ((a ^^^ (a &&& b) : Nat) : Int) := by
  unfold Builtin.bitAnd
  have hn : ¬ (0 ≤ Builtin.bitNot (b : Int)) := by unfold Builtin.bitNot; omega
  rw [decide_eq_true (Int.natCast_nonneg a), decide_eq_false hn]
  have e : Builtin.bitNot (Builtin.bitNot (b : Int)) = (b : Int) := by unfold Builtin.bitNot; omega
  simp only [e, Int.toNat_natCast]
  have h0 : (a ^^^ (a &&& b)) &&& (a &&& b) = 0 := ext fun i => by
    rw [Nat.testBit_and, Nat.testBit_xor, Nat.testBit_and, Nat.zero_testBit]
    cases a.testBit i <;> cases b.testBit i <;> rfl
  have h1 : (a ^^^ (a &&& b)) ||| (a &&& b) = a := ext fun i => by
    rw [Nat.testBit_or, Nat.testBit_xor, Nat.testBit_and]
    cases a.testBit i <;> cases b.testBit i <;> rfl
  have := disj_add _ _ h0
  rw [h1] at this
  omega
/-- b & -b -/
theorem andneg_nat {b k : Nat} (h : b.testBit k = true) (h0 : ∀ i, i < k → b.testBit i = false) : Builtin.bitAnd (b : Int) (-(b : Int)) = ((2 ^ k : Nat) : Int) := by
  have hb : b ≠ 0 := fun e => by subst e; rw [Nat.zero_testBit] at h; cases h
  unfold Builtin.bitAnd
  rw [decide_eq_true (Int.natCast_nonneg b), decide_eq_false (by omega : ¬ (0 : Int) ≤ -(b : Int))]
  have e : (Builtin.bitNot (-(b : Int))).toNat = b - 1 := by unfold Builtin.bitNot; omega
  simp only [e, Int.toNat_natCast]
  have := low_diff h h0
  have hl : b &&& (b - 1) ≤ b := Nat.and_le_left
  omega
theorem bits_nat (a : Nat) : Builtin.Int.intBits (a : Int) = bitlen a := by
  unfold Builtin.Int.intBits bitlen
  by_cases h : a = 0
  · subst h; rfl
  · rw [if_neg h, if_neg (by simpa using h)]
    rfl
theorem shl_nat (a k : Nat) : (a : Int) * 2 ^ ((k : Int)).toNat = ((a <<< k : Nat) : Int) := by
  rw [Int.toNat_natCast, Nat.shiftLeft_eq]
  push_cast
  rfl
theorem shr_nat (a k : Nat) : (a : Int) / 2 ^ ((k : Int)).toNat = ((a >>> k : Nat) : Int) := by
  rw [Int.toNat_natCast, Nat.shiftRight_eq_div_pow]
  push_cast
  rfl
theorem mask_nat (k : Nat) : (1 : Int) * 2 ^ ((k : Int)).toNat - 1 = ((2 ^ k - 1 : Nat) : Int) := by
  rw [Int.toNat_natCast, Int.one_mul]
  have := Nat.two_pow_pos k
  have e : ((2 : Int) ^ k) = ((2 ^ k : Nat) : Int) := by push_cast; rfl
  rw [e]
  omega
theorem and_mask (a k : Nat) : a &&& (2 ^ k - 1) = a % 2 ^ k := Nat.and_two_pow_sub_one_eq_mod a k
/-- room for a shift -/
theorem room_shl {a n k : Nat} (h : a < 2 ^ n) (hn : n + k ≤ 134217728) : (0 : Int) ≤ (k : Int) ∧ (Builtin.Int.intBits (a : Int) : Int) + (k : Int) ≤ 2 ^ 27 := by
  rw [bits_nat]
  have := bitlen_le h
  have e : (2 : Int) ^ 27 = 134217728 := by decide
  omega
theorem room_one {k : Nat} (hn : k ≤ 134217727) : (0 : Int) ≤ (k : Int) ∧ (Builtin.Int.intBits 1 : Int) + (k : Int) ≤ 2 ^ 27 := by
  have := room_shl (a := 1) (n := 1) (k := k) (by decide) (by omega)
  exact this
/-! ### binary digits -/
theorem binS_cps (b : Nat) : (binS (b : Int)).cps.toList = (digs b).reverse := by
  show (List.map Char.toNat (Nat.toDigits 2 ((b : Int)).natAbs)).toArray.toList = _
  rw [Int.natAbs_natCast, toDigits_digs]
theorem len_cps (x : Str) : x.length = x.cps.toList.length := Array.length_toList.symm
theorem binS_len (b : Nat) : (binS (b : Int)).length = b.log2 + 1 := by rw [len_cps, binS_cps, List.length_reverse, digs_len]
theorem bin_room {b n : Nat} (h : b < 2 ^ n) (hn : n ≤ 100000) : (0 : Int) ≤ (b : Int) ∧ (binS (b : Int)).length ≤ sizeLine := by
  refine ⟨Int.natCast_nonneg b, ?_⟩
  rw [binS_len, sizeLine_eq]
  by_cases h0 : b = 0
  · subst h0; decide
  · have := (Nat.log2_lt h0).mpr h
    omega
theorem revS_bin (b : Nat) : (revS (binS (b : Int))).cps.toList = digs b := by
  show ((binS (b : Int)).cps.toList.reverse.toArray).toList = _
  rw [binS_cps, List.reverse_reverse]
theorem revS_len (b : Nat) : (revS (binS (b : Int))).length = b.log2 + 1 := by rw [len_cps, revS_bin, digs_len]
/-! ### where a sign stands -/
open Builtin.Str PySem.StrLaws
def placesOf (x : Str) (c : Nat) (lo n : Nat) : List Nat := (List.range' lo n).filter fun i => x.cps[i]? == some c
theorem sub_one (x : Str) (c i : Nat) : subAt x ⟨#[c]⟩ i = (x.cps[i]? == some c) := by
  unfold subAt
  have hl : (⟨#[c]⟩ : Str).length = 1 := rfl
  rw [hl]
  by_cases hi : i < x.cps.size
  · have e : x.cps.extract i (i + 1) = #[x.cps[i]] := by
      apply Array.ext
      · simp; omega
      · intro j h1 h2
        simp at h1 h2
        have : j = 0 := by omega
        subst this
        simp
    rw [e, Array.getElem?_eq_getElem hi]
    by_cases hc : x.cps[i] = c
    · subst hc; simp
    · have : (#[x.cps[i]] == #[c]) = false := by simp [hc]
      rw [this]
      simp [hc]
  · have e : x.cps.extract i (i + 1) = #[] := by
      apply Array.eq_empty_of_size_eq_zero
      simp
      omega
    rw [e, Array.getElem?_eq_none (by omega)]
    rfl
theorem occ_loop (x : Str) (c hi limit : Nat) (hh : hi ≤ x.length) : ∀ (n lo : Nat) (st : Array Nat × Nat), st.2 ≤ lo → lo + n = hi + 1 → st.1.size ≤ limit →
    (forIn (List.range' lo n) st (occBody x ⟨#[c]⟩ hi limit)).run.fst.toList = (st.1.toList ++ placesOf x c lo (hi - lo)).take limit
  | 0, lo, st, _, hn, hs => by
    have e : hi - lo = 0 := by omega
    rw [e]
    show st.1.toList = _
    unfold placesOf
    rw [List.range'_zero, List.filter_nil, List.append_nil, List.take_of_length_le (by simpa using hs)]
  | n + 1, lo, st, h2, hn, hs => by
    rw [List.range'_succ, List.forIn_cons]
    unfold occBody
    have hl : (⟨#[c]⟩ : Str).length = 1 := rfl
    rw [hl, sub_one]
    by_cases hlo : lo < hi
    · have ep : placesOf x c lo (hi - lo) = (if (x.cps[lo]? == some c) = true then [lo] else []) ++ placesOf x c (lo + 1) (hi - (lo + 1)) := by
        unfold placesOf
        rw [show hi - lo = (hi - (lo + 1)) + 1 by omega, List.range'_succ, List.filter_cons]
        split <;> simp
      by_cases hc : (x.cps[lo]? == some c) = true
      · rw [if_pos hc] at ep
        by_cases hsz : st.1.size < limit
        · rw [if_pos ⟨⟨⟨hsz, h2⟩, by omega⟩, hc⟩]
          have ih := occ_loop x c hi limit hh n (lo + 1) (st.1.push lo, lo + 1) (Nat.le_refl _) (by omega) (by simp; omega)
          refine Eq.trans ih ?_
          rw [ep]
          simp
        · rw [if_neg (fun q => hsz q.1.1.1)]
          have ih := occ_loop x c hi limit hh n (lo + 1) st (by omega) (by omega) hs
          refine Eq.trans ih ?_
          have el : st.1.toList.length = limit := by simp; omega
          rw [List.take_append_of_le_length (by omega), List.take_append_of_le_length (by omega)]
      · rw [if_neg (fun q => hc q.2)]
        rw [if_neg hc, List.nil_append] at ep
        have ih := occ_loop x c hi limit hh n (lo + 1) st (by omega) (by omega) hs
        refine Eq.trans ih ?_
        rw [ep]
    · rw [if_neg (fun q => by omega)]
      have ih := occ_loop x c hi limit hh n (lo + 1) st (by omega) (by omega) hs
      refine Eq.trans ih ?_
      rw [show hi - lo = 0 by omega, show hi - (lo + 1) = 0 by omega]
      rfl
theorem occ_one {x : Str} {c lo hi limit : Nat} (hh : hi ≤ x.length) (hl : lo ≤ hi + 1) : occurrences x ⟨#[c]⟩ lo hi limit = (placesOf x c lo (hi - lo)).take limit := by
  rw [occ_eq, occ_loop x c hi limit hh (hi + 1 - lo) lo (#[], lo) (Nat.le_refl _) (by omega) (Nat.zero_le _)]
  rfl
theorem count_one (x : Str) (c : Nat) : Txt.count x ⟨#[c]⟩ = ((placesOf x c 0 x.length).length : Int) := by
  show (((occurrences x ⟨#[c]⟩ 0 x.length (x.length + 1)).length : Nat) : Int) = _
  rw [occ_one (Nat.le_refl _) (Nat.zero_le _), Nat.sub_zero, List.take_of_length_le]
  exact Nat.le_trans (List.length_filter_le _ _) (by rw [List.length_range']; omega)
/-- the first of some numbers, or -1 -/
def hd1 : List Nat → Int
  | k :: _ => (k : Nat)
  | [] => -1
theorem hd1_take (l : List Nat) : hd1 (l.take 1) = hd1 l := by cases l <;> rfl
theorem find_hd (x y : Str) : Txt.find x y = hd1 (occurrences x y 0 x.length 1) := by
  unfold Txt.find
  cases occurrences x y 0 x.length 1 <;> rfl
theorem find3_hd (x y : Str) (i : Int) : Txt.find3 x y i = hd1 (occurrences x y (fromIndex x.length i) x.length 1) := by
  unfold Txt.find3
  cases occurrences x y (fromIndex x.length i) x.length 1 <;> rfl
theorem find_at {x : Str} {c lo : Nat} (hl : lo ≤ x.length + 1) : hd1 (occurrences x ⟨#[c]⟩ lo x.length 1) = hd1 (placesOf x c lo (x.length - lo)) := by
  rw [occ_one (Nat.le_refl _) hl, hd1_take]
theorem places_digs (b lo n : Nat) (h : lo + n ≤ b.log2 + 1) : placesOf (revS (binS (b : Int))) 49 lo n = (List.range' lo n).filter b.testBit := by
  unfold placesOf
  refine List.filter_congr fun i hi => ?_
  have hi : i < b.log2 + 1 := by
    have := List.mem_range'.mp hi
    omega
  rw [← Array.getElem?_toList, revS_bin, digs_get hi]
  cases b.testBit i <;> rfl
theorem sign_one : ("1" : Str) = ⟨#[49]⟩ := by decide
end DL
namespace DL
open PySem L2 PySem.DLQ
mutual
/-- plain data without dicts, and its image -/
inductive PD : Nat → D → PyData → Prop
  | non (k : Nat) : PD k .non .none
  | bl (k : Nat) (b : Bool) : PD k (.bl b) (.bool b)
  | int (k : Nat) (i : Int) : PD k (.int i) (.int i)
  | str (k : Nat) {s : Str} : PyData.strOk s = true → PD k (.str s) (.str s)
  | tup {k : Nat} {xs : List D} {ps : List PyData} : PDs k xs ps → PD (k + 1) (.tup xs) (.tuple ps)
  | lst {k : Nat} {xs : List D} {ps : List PyData} : PDs k xs ps → PD (k + 1) (.lst xs) (.list ps)
inductive PDs : Nat → List D → List PyData → Prop
  | nil (k : Nat) : PDs k [] []
  | cons {k : Nat} {d : D} {p : PyData} {ds : List D} {ps : List PyData} : PD k d p → PDs k ds ps → PDs k (d :: ds) (p :: ps)
end
mutual
theorem PD.facts : ∀ {k : Nat} {d : D} {p : PyData}, PD k d p → toR d = some p ∧ p.canLay0 = true ∧ p.depth ≤ k + 1
  | _, _, _, .non k => ⟨by simp only [toR], rfl, by simp only [PyData.depth]; omega⟩
  | _, _, _, .bl k b => ⟨by simp only [toR], rfl, by simp only [PyData.depth]; omega⟩
  | _, _, _, .int k i => ⟨by simp only [toR], rfl, by simp only [PyData.depth]; omega⟩
  | _, _, _, .str k h => ⟨by simp only [toR], by simpa only [PyData.canLay0] using h, by simp only [PyData.depth]; omega⟩
  | _, _, _, .tup h => by
    obtain ⟨a, b, c⟩ := h.facts
    exact ⟨by simp only [toR, a, Option.map_some], by simpa only [PyData.canLay0] using b, by simp only [PyData.depth]; omega⟩
  | _, _, _, .lst h => by
    obtain ⟨a, b, c⟩ := h.facts
    exact ⟨by simp only [toR, a, Option.map_some], by simpa only [PyData.canLay0] using b, by simp only [PyData.depth]; omega⟩
theorem PDs.facts : ∀ {k : Nat} {ds : List D} {ps : List PyData}, PDs k ds ps → toRs ds = some ps ∧ PyData.canLayAll0 ps = true ∧ PyData.depthAll ps ≤ k + 1
  | _, _, _, .nil k => ⟨by simp only [toRs], by simp only [PyData.canLayAll0], by simp only [PyData.depthAll]; omega⟩
  | _, _, _, .cons h t => by
    obtain ⟨a, b, c⟩ := h.facts
    obtain ⟨a', b', c'⟩ := t.facts
    exact ⟨by simp only [toRs, a, a'], by simp only [PyData.canLayAll0, b, b', Bool.and_self], by simp only [PyData.depthAll]; omega⟩
end
theorem PDs.ints (k : Nat) : ∀ ns : List Int, PDs k (ns.map D.int) (ns.map PyData.int)
  | [] => .nil k
  | n :: ns => .cons (.int k n) (PDs.ints k ns)
section
variable {d e : D} {k m : Nat} {p q : PyData} {μ : List Cell} {V : D → Prop}
theorem eqB_pd (h : PD k d p) (h' : PD m e q) (hk : k ≤ 40) (hm : m ≤ 40) : eqB d e μ = some (PyData.eqv p q) := by
  obtain ⟨a, b, c⟩ := h.facts
  obtain ⟨a', b', c'⟩ := h'.facts
  exact eqP_of a a' b b' (by omega) (by omega)
theorem eqW_pd (h : PD k d p) (h' : PD m e q) (hk : k ≤ 40) (hm : m ≤ 40) : eqW d e μ = some (PyData.eqv p q) := by
  unfold eqW
  rw [eqB_pd h h' hk hm]
  rfl
theorem neW_pd (h : PD k d p) (h' : PD m e q) (hk : k ≤ 40) (hm : m ≤ 40) : neW d e μ = some (!PyData.eqv p q) := by
  unfold neW
  rw [eqB_pd h h' hk hm]
  rfl
theorem eqW_self (h : PD k d p) (hk : k ≤ 40) : eqW d d μ = some true := by rw [eqW_pd h h hk hk, PySem.SeqAt.eqv_refl p h.facts.2.1]
theorem neW_self (h : PD k d p) (hk : k ≤ 40) : neW d d μ = some false := by rw [neW_pd h h hk hk, PySem.SeqAt.eqv_refl p h.facts.2.1]; rfl
theorem w2_eqSelf (h : PD k d p) (hk : k ≤ 40) : W2 dEqW d d μ V ↔ V (.bl true) := w2_of (by unfold dEqW; rw [eqW_self h hk]; rfl)
theorem w2_neSelf (h : PD k d p) (hk : k ≤ 40) : W2 dNeW d d μ V ↔ V (.bl false) := w2_of (by unfold dNeW; rw [neW_self h hk]; rfl)
theorem w2_isW {x y : D} : W2 dIsW x y μ V ↔ ∃ k, isW x y μ = some k ∧ V (.bl k) := by
  constructor
  · rintro ⟨z, e, p⟩
    obtain ⟨k, ek, rfl⟩ := Option.map_eq_some_iff.mp e
    exact ⟨k, ek, p⟩
  · rintro ⟨k, ek, p⟩
    exact ⟨_, by unfold dIsW; rw [ek]; rfl, p⟩
theorem w2_isWB {a b : Bool} : W2 dIsW (.bl a) (.bl b) μ V ↔ V (.bl (decide (a = b))) := w2_of rfl
theorem w2_isWN : W2 dIsW .non .non μ V ↔ V (.bl true) := w2_of rfl
end
end DL
namespace G
open PySem L2 DL PySem.DLQ LM
local macro_rules | `(tactic| walk_at "dl") => `(tactic| simp only [wf_fn, ws_seq, ws_then, ws_drop, ws_nx, ws_bk, ws_ct, ws_ret, ws_if, ws_for, ws_par, wb_name, wb_sub, wb_tup, wb_seq, wb_fld, wbs_nil, wbs_cons, cSet_iff, we_V, we_C, we_B, we_U, we_App, we_newC, we_call, we_AndV, we_OrV, we_IfE, we_Ch, we_Lc, we_Sl, we_Apn, we_Pop, we_ListC, we_find3, we_meth, we_prop, we_ext, ws_fldD, wa_nil, wa_cons, wa_len, wa_star, wo_no, wo_part, isI_i, DL.sl_tup, DL.sl_lst,
  wl_1, wl_2, wl_lst, wl_tup, wt_Tru, wt_Not, wt_And, wt_Or, wt_true, wi_seq, wi_rng1, wi_rng2, wi_zip, wi_enumS, Nx_nx, Nx_rt, Nx_bk, Nx_ct, Nx_ex, Fe_rt, Fe_nx, Tn_nx, Tn_ct, Tn_bk, Tn_rt, Tn_ex,
  w2_addAI, w2_addAS, w2_addAT, w2_addAL, w2_addAH, w2_mulAI, w2_mulAT, w2_mulAL, w2_ltAI, w2_eqWI, w2_neWI, w2_neWN, w2_neWB, w2_eqWS, w2_neWS, w1_listT, w1_tupL, w1_lenH, w1_rev, w2_II, gSub_iff, gMod_iff, gFdiv_iff, gPow_iff, gShl_iff, gShr_iff, gAnd_iff, gOr_iff, gXor_iff, w1_inv, w1_bits, w2_divmod, w1_bin, w1_revS, w2_count, w2_find, w1_neg, w2_ordI, w2_ordS, w2_isW, w2_isNot, w2_ixL, w2_ixR, w2_ixT, w2_ixS, w2_ixH, w1_abs, w1_intI, w1_intB, w2_max, w2_min, w1_str, w1_lenS, w1_lenL, w1_lenR, w1_lenT, w1_type, w1_all, w1_not, w1_S0, w2_join, wtr_bl, asQ_t, asQ_l,
  List.map_cons, List.map_nil, List.cons_append, List.nil_append, List.replicate_succ, List.replicate_zero, List.getElem?_cons_zero, List.getElem?_cons_succ, List.set_cons_zero, List.set_cons_succ, List.length_cons, List.length_nil, Option.some.injEq, exists_eq_left', exists_eq_left, D.int.injEq, and_true, true_and, Nat.reduceAdd, Nat.reduceSub, Nat.reduceLT, Nat.lt_add_left_iff_pos, Nat.zero_lt_succ, List.length_replicate, List.length_append, List.length_map, List.cons.injEq, List.length_set, gSeq, decide_true, if_true, D.bl.injEq, Bool.not_true, Bool.not_false, Bool.false_eq_true, if_false, reduceCtorEq, false_and, or_false, false_or])
theorem fdiv_nat (a b : Nat) : (a : Int).fdiv (b : Int) = ((a / b : Nat) : Int) := by
  rw [Int.fdiv_eq_ediv_of_nonneg _ (Int.natCast_nonneg b)]
  exact (Int.natCast_ediv a b).symm
theorem fmod_nat (a b : Nat) : (a : Int).fmod (b : Int) = ((a % b : Nat) : Int) := by
  rw [Int.fmod_eq_emod_of_nonneg _ (Int.natCast_nonneg b)]
  exact (Int.natCast_emod a b).symm
theorem sub_nat {a b : Nat} (h : b ≤ a) : (a : Int) - (b : Int) = ((a - b : Nat) : Int) := (Int.ofNat_sub h).symm
theorem add_nat (a b : Nat) : (a : Int) + (b : Int) = ((a + b : Nat) : Int) := rfl
theorem eq_nat (a b : Nat) : decide ((a : Int) = (b : Int)) = decide (a = b) := decide_eq_decide.mpr Int.ofNat_inj
theorem lt_nat (a b : Nat) : decide ((a : Int) < (b : Int)) = decide (a < b) := decide_eq_decide.mpr Int.ofNat_lt
theorem le_nat (a b : Nat) : decide ((a : Int) ≤ (b : Int)) = decide (a ≤ b) := decide_eq_decide.mpr Int.ofNat_le
theorem two27 : (2 : Int) ^ 27 = 134217728 := by decide
theorem turned_eq {c s : Nat} {n : Int} {μ : List Cell} (hc : c < 2 ^ s) (hs : 0 < s) (h2 : s ≤ 10000) : F__turned [.int c, .int s, .int n] μ = some (.v (.int (turn c s (n.fmod s).toNat : Nat)), μ) := by
  refine to_eq ?_
  unfold F__turned g__turned
  walk_at "dl"
  have k1 := fmod_pos (a := n) (b := (s : Int)) (by omega)
  obtain ⟨k, ek⟩ := Int.eq_ofNat_of_zero_le k1.1
  have ek : n.fmod (s : Int) = (k : Int) := ek
  rw [ek] at k1 ⊢
  have hk : k < s := by omega
  rw [sub_nat (Nat.le_of_lt hk), shl_nat, shr_nat, mask_nat, or_nat, and_nat, and_mask]
  refine ⟨by omega, room_shl hc (by omega), Int.natCast_nonneg _, room_one (by omega), ?_⟩
  rw [Int.toNat_natCast]
  rfl
theorem shorter_eq {c s p : Nat} {μ : List Cell} (hc : c < 2 ^ s) (hs : 0 < s) (h2 : s ≤ 2000) (hp : 0 < p) (hp2 : p ≤ 2000) : F__shorter [.int c, .int s, .int p] μ = some (.v (if c >>> (s / p) = c % 2 ^ (s - s / p) then .tup [.int ((c % 2 ^ (s / p) : Nat)), .int (s / p : Nat)] else .tup [.int c, .int s]), μ) := by
  refine to_eq ?_
  unfold F__shorter g__shorter
  walk_at "dl"
  have hle : s / p ≤ s := Nat.div_le_self s p
  rw [fdiv_nat, sub_nat hle, shr_nat, mask_nat, mask_nat, and_nat, and_nat, and_mask, and_mask, eq_nat]
  have hs2 : s - s / p ≤ s := Nat.sub_le ..
  refine ⟨⟨by omega, by omega⟩, Int.natCast_nonneg _, room_one (by omega), ?_⟩
  by_cases h : c >>> (s / p) = c % 2 ^ (s - s / p)
  · rw [if_pos h, decide_eq_true h, if_pos rfl]
    exact ⟨room_one (by omega), by decide, rfl⟩
  · rw [if_neg h, decide_eq_false h, if_neg Bool.false_ne_true]
    exact ⟨by decide, rfl⟩
theorem numbers_pos {b : Nat} (h : b ≠ 0) : ∃ k, b.testBit k = true ∧ ∀ i, i < k → b.testBit i = false := some_bit h
section
variable {μ : List Cell} {Q : Bool → Prop}
theorem wtr_int {i : Int} : WTr (.int i) μ Q ↔ Q (i != 0) := ⟨fun ⟨z, e, p⟩ => by cases e; exact p, fun p => ⟨_, rfl, p⟩⟩
end
theorem fill_one0 (n : Nat) : fill 0 1 n = 0 := ext fun i => by rw [tb_fill]; simp
theorem fill_one1 (n : Nat) : fill 1 1 n = 2 ^ n - 1 := ext fun i => by
  rw [tb_fill, Nat.testBit_two_pow_sub_one, Nat.mod_one]
  simp
theorem filled_eq {c s n : Nat} {μ : List Cell} (hc : c < 2 ^ s) (hs : 0 < s) (h2 : s ≤ 4000) (hn : n ≤ 4000) : F__filled [.int c, .int s, .int n] μ = some (.v (.int (fill c s n : Nat)), μ) := by
  refine to_eq ?_
  unfold F__filled g__filled
  walk_at "dl"
  by_cases h1 : s = 1
  · subst h1
    have e1 : decide (((1 : Nat) : Int) = 1) = true := rfl
    rw [e1]
    walk_at "dl"
    rw [wtr_int]
    have hc2 : c = 0 ∨ c = 1 := by omega
    rcases hc2 with rfl | rfl
    · have e0 : (((0 : Nat) : Int) != 0) = false := rfl
      rw [e0]
      walk_at "dl"
      rw [fill_one0]
      rfl
    · have e0 : (((1 : Nat) : Int) != 0) = true := rfl
      rw [e0]
      walk_at "dl"
      rw [fill_one1, mask_nat]
      exact ⟨room_one (by omega), rfl⟩
  · have e1 : decide ((s : Int) = 1) = false := decide_eq_false (by omega)
    rw [e1]
    walk_at "dl"
    refine ws_while (n := 5000) (fun m S => ∃ k, 0 < k ∧ m = n - s * k ∧ S = ⟨[some (.int (fill c s (s * k) : Nat)), some (.int ((s * k : Nat))), some (.int n)], μ⟩ ∧ s * k ≤ 8000) ?_ (n - s) (by omega) _ ⟨1, by decide, by rw [Nat.mul_one], by rw [Nat.mul_one, fill_self hc], by omega⟩
    rintro m S ⟨k, hk, rfl, rfl, hb⟩
    walk_at "dl"
    rw [lt_nat]
    by_cases hlt : s * k < n
    · rw [decide_eq_true hlt]
      walk_at "dl"
      rw [shl_nat, or_nat, fill_double]
      refine ⟨room_shl fill_lt (by omega), .inr ⟨by decide, by decide⟩, n - s * (k * 2), ?_, k * 2, by omega, rfl, ?_, ?_⟩
      · have := Nat.mul_pos hs hk
        rw [← Nat.mul_assoc]
        omega
      · rw [← Nat.mul_assoc]
        rfl
      · rw [← Nat.mul_assoc]
        omega
    · rw [decide_eq_false hlt]
      walk_at "dl"
      rw [mask_nat, and_nat, and_mask, fill_cut (by omega)]
      exact ⟨room_one (by omega), rfl⟩
theorem least_early_eq {e l c s : Nat} {μ : List Cell} (he : e < 2 ^ l) (hl : l ≤ 4000) (hc : c < 2 ^ s) (hs : 0 < s) (h2 : s ≤ 4000) :
    F__least_early [.int e, .int l, .int c, .int s] μ = some (.v (.tup [.int (e % 2 ^ bitlen (e ^^^ fill c s l) : Nat), .int (bitlen (e ^^^ fill c s l) : Nat)]), μ) := by
  refine to_eq ?_
  unfold F__least_early g__least_early
  walk_at "dl"
  rw [wf_at (filled_eq hc hs h2 hl)]
  walk_at "dl"
  have hk : bitlen (e ^^^ fill c s l) ≤ l := bitlen_le (Nat.xor_lt_two_pow he fill_lt)
  rw [xor_nat, bits_nat, mask_nat, and_nat, and_mask]
  exact ⟨room_one (by omega), by decide, rfl⟩
theorem primes_ds : ds_PRIMES = primes.map fun p => D.int (p : Nat) := rfl
theorem not_dvd_div {q p left : Nat} (h : ¬ q ∣ left) (hp : p ∣ left) : ¬ q ∣ left / p := fun hq => h (Nat.dvd_trans hq (Nat.div_dvd_of_dvd hp))
theorem least_cycle_ok {c s : Nat} {μ : List Cell} (hc : c < 2 ^ s) (hs : 0 < s) (h2 : s ≤ 2000) : ∃ c' s', F__least_cycle [.int c, .int s] μ = some (.v (.tup [.int (c' : Nat), .int (s' : Nat)]), μ) ∧ Same c s c' s' ∧ Least c' s' := by
  suffices q : WF F__least_cycle [.int c, .int s] μ fun d μ' => μ' = μ ∧ ∃ c' s' : Nat, d = .tup [.int (c' : Nat), .int (s' : Nat)] ∧ Same c s c' s' ∧ Least c' s' by
    obtain ⟨d, μ', e, rfl, c', s', rfl, h⟩ := q
    exact ⟨c', s', e, h⟩
  have small : ∀ {left c' s'}, LM.Inv c s left c' s' → s' ≤ 2000 ∧ left ≤ 2000 ∧ 0 < s' := fun h => by
    have h1 := Nat.le_of_dvd hs h.same.dvd
    have h3 := Nat.le_of_dvd h.same.pos h.dvd
    have h4 := h.same.pos
    omega
  unfold F__least_cycle g__least_cycle
  walk_at "dl"
  refine ws_forInv (fun ds S => ∃ (dn rest : List Nat) (left c' s' : Nat) (v : Option D), primes = dn ++ rest ∧ ds = rest.map (fun p => D.int (p : Nat)) ∧ S = ⟨[some (.int c'), some (.int s'), some (.int left), v], μ⟩ ∧ LM.Inv c s left c' s' ∧ ∀ p ∈ dn, ¬ p ∣ left) ?_ ?_ _ _ ⟨[], primes, s, c, s, none, rfl, primes_ds, rfl, .start hs hc, fun p hp => by cases hp⟩
  · rintro d r S ⟨dn, rest, left, c', s', v, e1, e2, rfl, hI, hd⟩
    cases rest with
    | nil => cases e2
    | cons p rest =>
      rw [List.map_cons] at e2
      obtain ⟨rfl, rfl⟩ := List.cons.inj e2
      have hp : Pr p := pr_primes (by rw [e1]; simp)
      walk_at "dl"
      have e3 : decide ((left : Int) = 1) = decide (left = 1) := eq_nat left 1
      rw [e3]
      by_cases hl : left = 1
      · subst hl
        walk_at "dl"
        have e4 : decide (((1 : Nat) : Int) > 1) = false := rfl
        have e5 : decide ((1 : Int) < ((1 : Nat) : Int)) = false := rfl
        rw [e5]
        walk_at "dl"
        exact ⟨by decide, c', s', rfl, hI.same, hI.least⟩
      · rw [decide_eq_false hl]
        walk_at "dl"
        have hp2 : p ≤ 2000 := by
          have : ∀ p ∈ primes, p ≤ 2000 := by decide
          exact this p (by rw [e1]; simp)
        have pp : 0 < p := Nat.lt_trans Nat.one_pos hp.1
        refine ws_while (n := 5000) (fun m S => ∃ (left c' s' : Nat), left = m ∧ S = ⟨[some (.int c'), some (.int s'), some (.int left), some (.int (p : Nat))], μ⟩ ∧ LM.Inv c s left c' s' ∧ ∀ p ∈ dn, ¬ p ∣ left) ?_ left (by have := small hI; omega) _ ⟨left, c', s', rfl, rfl, hI, hd⟩
        rintro m S ⟨left, c', s', rfl, rfl, hI, hd⟩
        have sm := small hI
        walk_at "dl"
        rw [fmod_nat]
        have e6 : decide (((left % p : Nat) : Int) = 0) = decide (left % p = 0) := eq_nat _ 0
        rw [e6]
        refine ⟨by omega, ?_⟩
        by_cases hdv : left % p = 0
        · have hdv' : p ∣ left := Nat.dvd_of_mod_eq_zero hdv
          rw [decide_eq_true hdv]
          walk_at "dl"
          rw [fdiv_nat, wf_at (shorter_eq hI.same.lt sm.2.2 sm.1 pp hp2)]
          refine ⟨⟨by omega, by omega⟩, ?_⟩
          have hps : p ∣ s' := Nat.dvd_trans hdv' hI.dvd
          have hlt : left / p < left := Nat.div_lt_self hI.lft hp.1
          have ht : 0 < s' / p := Nat.div_pos (Nat.le_of_dvd sm.2.2 hps) pp
          have iff := shorter_iff hI.same.lt ht (Nat.div_dvd_of_dvd hps) sm.2.2
          by_cases hsh : c' >>> (s' / p) = c' % 2 ^ (s' - s' / p)
          · rw [if_pos hsh]
            walk_at "dl"
            exact ⟨left / p, hlt, left / p, _, _, rfl, rfl, hI.cut hp hdv' (iff.mp hsh), fun q hq => not_dvd_div (hd q hq) hdv'⟩
          · rw [if_neg hsh]
            walk_at "dl"
            exact ⟨left / p, hlt, left / p, _, _, rfl, rfl, hI.keep hp hdv' (fun z => hsh (iff.mpr z)), fun q hq => not_dvd_div (hd q hq) hdv'⟩
        · rw [decide_eq_false hdv]
          walk_at "dl"
          refine ⟨dn ++ [p], rest, left, c', s', _, by rw [e1]; simp, rfl, rfl, hI, fun q hq => ?_⟩
          rcases List.mem_append.mp hq with z | z
          · exact hd q z
          · rw [List.mem_singleton.mp z]
            exact fun z => hdv (Nat.mod_eq_zero_of_dvd z)
  · rintro S ⟨dn, rest, left, c', s', v, e1, e2, rfl, hI, hd⟩
    cases rest with
    | cons p rest => cases e2
    | nil =>
      rw [List.append_nil] at e1
      subst e1
      have sm := small hI
      have hl := hI.lft
      walk_at "dl"
      by_cases h1 : left = 1
      · subst h1
        have e5 : decide ((1 : Int) < ((1 : Nat) : Int)) = false := rfl
        rw [e5]
        walk_at "dl"
        exact ⟨by decide, c', s', rfl, hI.same, hI.least⟩
      · have e5 : decide ((1 : Int) < (left : Int)) = true := decide_eq_true (by omega)
        rw [e5]
        walk_at "dl"
        have hp : Pr left := pr_left (by omega) sm.2.1 hd
        have hps : left ∣ s' := hI.dvd
        rw [wf_at (shorter_eq hI.same.lt sm.2.2 sm.1 hI.lft sm.2.1)]
        have ht : 0 < s' / left := Nat.div_pos (Nat.le_of_dvd sm.2.2 hps) hI.lft
        have iff := shorter_iff hI.same.lt ht (Nat.div_dvd_of_dvd hps) sm.2.2
        by_cases hsh : c' >>> (s' / left) = c' % 2 ^ (s' - s' / left)
        · rw [if_pos hsh]
          have z := hI.cut hp (Nat.dvd_refl left) (iff.mp hsh)
          rw [Nat.div_self hI.lft] at z
          exact ⟨rfl, _, _, rfl, z.same, z.least⟩
        · rw [if_neg hsh]
          have z := hI.keep hp (Nat.dvd_refl left) (fun z => hsh (iff.mpr z))
          rw [Nat.div_self hI.lft] at z
          exact ⟨rfl, _, _, rfl, z.same, z.least⟩
abbrev nI (n : Nat) : D := .int (n : Nat)
/-- the number with these bits -/
def bitsOf (ns : List Nat) : Nat := (ns.map fun n => 2 ^ n).sum
theorem tb_bitsOf : ∀ {ns : List Nat}, ns.Nodup → ∀ i, (bitsOf ns).testBit i = decide (i ∈ ns)
  | [], _, i => by simp [bitsOf]
  | n :: ns, h, i => by
    have hn := List.nodup_cons.mp h
    have e : bitsOf (n :: ns) = 2 ^ n + bitsOf ns := by unfold bitsOf; rw [List.map_cons, List.sum_cons]
    have d : 2 ^ n &&& bitsOf ns = 0 := LM.ext fun j => by
      rw [Nat.testBit_and, Nat.testBit_two_pow, tb_bitsOf hn.2, Nat.zero_testBit]
      by_cases hj : n = j
      · subst hj
        rw [decide_eq_false hn.1, Bool.and_false]
      · rw [decide_eq_false hj, Bool.false_and]
    rw [e, disj_add _ _ d, Nat.testBit_or, Nat.testBit_two_pow, tb_bitsOf hn.2]
    by_cases hi : n = i
    · subst hi; simp
    · have : i ≠ n := fun q => hi q.symm
      simp [hi, this]
theorem bitsOf_lt {ns : List Nat} {m : Nat} (hd : ns.Nodup) (h : ∀ n ∈ ns, n < m) : bitsOf ns < 2 ^ m := Nat.lt_pow_two_of_testBit _ fun i hi => by
  rw [tb_bitsOf hd]
  exact decide_eq_false fun q => by have := h i q; omega
section
variable {μ : List Cell} {V : D → Prop}
theorem intsOf_map' : ∀ l : List Int, intsOf (l.map D.int) = some l
  | [] => rfl
  | x :: l => by rw [List.map_cons]; unfold intsOf; rw [intsOf_map' l]; rfl
theorem w1_sumI {ns : List Int} : W1 dSum (.lst (ns.map D.int)) μ V ↔ V (.int ns.sum) := by
  refine w1_of ?_
  unfold dSum asSL asL
  simp only [intsOf_map', Option.map_some]
end
theorem bitsOf_int : ∀ ns : List Nat, (ns.map fun n => ((2 ^ n : Nat) : Int)).sum = ((bitsOf ns : Nat) : Int)
  | [] => rfl
  | n :: ns => by
    have e : bitsOf (n :: ns) = 2 ^ n + bitsOf ns := by unfold bitsOf; rw [List.map_cons, List.sum_cons]
    rw [List.map_cons, List.sum_cons, bitsOf_int ns, e]
    rfl
theorem bits_few {ns : List Nat} {m : Nat} {μ : List Cell} (hl : ns.length < 16) (h : ∀ n ∈ ns, n < m) (hm : m ≤ 100000) : F__bits [.tup (ns.map nI)] μ = some (.v (.int (bitsOf ns : Nat)), μ) := by
  refine to_eq ?_
  unfold F__bits g__bits
  walk_at "dl"
  rw [show decide ((ns.length : Int) < 16) = true from decide_eq_true (by omega)]
  walk_at "dl"
  refine (wlc_map (q := fun d => match d with | .int n => .int (2 ^ n.toNat) | d => d) fun d hd => ?_).mono fun xs μ' ⟨e1, e2⟩ => ?_
  · obtain ⟨n, hn, rfl⟩ := List.mem_map.mp hd
    have := h n hn
    simp only [wipeR]
    walk_at "dl"
    refine ⟨room_one (by omega), ?_⟩
    rw [Int.one_mul]
  · have e3 : xs = (ns.map fun n => ((2 ^ n : Nat) : Int)).map D.int := by
      rw [e1, List.map_map, List.map_map]
      refine List.map_congr_left fun n _ => ?_
      show D.int (2 ^ ((n : Nat) : Int).toNat) = D.int ((2 ^ n : Nat) : Int)
      rw [Int.toNat_natCast]
      push_cast
      rfl
    subst e2
    rw [e3]
    simp only [List.length_map]
    rw [w1_sumI]
    exact ⟨by rw [sizeLine_eq]; omega, by rw [bitsOf_int], trivial⟩
/-- the ones from a place on -/
def onesFrom (b lo n : Nat) : List Nat := (List.range' lo n).filter b.testBit
theorem onesFrom_cons {b : Nat} : ∀ {n lo k : Nat} {r : List Nat}, onesFrom b lo n = k :: r → lo ≤ k ∧ k < lo + n ∧ r = onesFrom b (k + 1) (lo + n - (k + 1))
  | 0, lo, k, r, h => by cases h
  | n + 1, lo, k, r, h => by
    unfold onesFrom at h
    rw [List.range'_succ, List.filter_cons] at h
    split at h
    · injection h with h1 h2
      subst h1
      refine ⟨Nat.le_refl _, by omega, ?_⟩
      rw [show lo + (n + 1) - (lo + 1) = n by omega]
      exact h2.symm
    · obtain ⟨h1, h2, h3⟩ := onesFrom_cons (n := n) (lo := lo + 1) h
      refine ⟨by omega, by omega, ?_⟩
      rw [show lo + (n + 1) - (k + 1) = lo + 1 + n - (k + 1) by omega]
      exact h3
theorem ones_from (b : Nat) : ones b = onesFrom b 0 (b.log2 + 1) := by
  unfold ones onesFrom
  rw [List.range_eq_range']
/-! ### objects: the sets in the store -/
def LF (c s e l : Nat) (fw rs : D) : List (Str × D) := [("_cycle", nI c), ("_span", nI s), ("_early", nI e), ("_low", nI l), ("_few", fw), ("_rests", rs)]
def Cached (x : D) (b : Nat) : Prop := x = .non ∨ x = .tup ((ones b).map nI)
def LimC (e l c s : Nat) (x : Cell) : Prop := ∃ fw rs, x = .obj "Limits" (LF c s e l fw rs) ∧ Cached fw e ∧ Cached rs c
theorem LimC.inj {e l c s e' l' c' s' : Nat} {x : Cell} (h : LimC e l c s x) (h' : LimC e' l' c' s' x) : e = e' ∧ l = l' ∧ c = c' ∧ s = s' := by
  obtain ⟨fw, rs, rfl, _⟩ := h
  obtain ⟨fw', rs', q, _⟩ := h'
  unfold LF nI at q
  simp only [Cell.obj.injEq, List.cons.injEq, Prod.mk.injEq, D.int.injEq, Int.ofNat_inj, true_and, and_true] at q
  omega
/-- alike but for what is kept of the sets -/
def Alike (x y : Cell) : Prop := x = y ∨ ∃ e l c s, LimC e l c s x ∧ LimC e l c s y
theorem Alike.trans {x y z : Cell} (h : Alike x y) (h' : Alike y z) : Alike x z := by
  rcases h with rfl | ⟨e, l, c, s, h1, h2⟩
  · exact h'
  · rcases h' with rfl | ⟨e', l', c', s', h3, h4⟩
    · exact .inr ⟨e, l, c, s, h1, h2⟩
    · obtain ⟨rfl, rfl, rfl, rfl⟩ := h2.inj h3
      exact .inr ⟨e, l, c, s, h1, h4⟩
def Keep (μ μ' : List Cell) : Prop := ∀ (k : Nat) (x : Cell), μ[k]? = some x → ∃ y : Cell, μ'[k]? = some y ∧ Alike x y
theorem Keep.refl {μ : List Cell} : Keep μ μ := fun k x h => ⟨x, h, .inl rfl⟩
theorem Keep.trans {μ μ' μ'' : List Cell} (h : Keep μ μ') (h' : Keep μ' μ'') : Keep μ μ'' := fun k x e => by
  obtain ⟨y, e1, a1⟩ := h k x e
  obtain ⟨z, e2, a2⟩ := h' k y e1
  exact ⟨z, e2, a1.trans a2⟩
theorem Keep.app {μ ν : List Cell} : Keep μ (μ ++ ν) := fun k x h => ⟨x, by rw [List.getElem?_append_left (List.getElem?_eq_some_iff.mp h).1]; exact h, .inl rfl⟩
theorem Keep.len {μ μ' : List Cell} (h : Keep μ μ') : μ.length ≤ μ'.length := by
  rcases Nat.eq_zero_or_pos μ.length with z | z
  · omega
  · obtain ⟨y, e, _⟩ := h (μ.length - 1) _ (List.getElem?_eq_getElem (by omega))
    have := (List.getElem?_eq_some_iff.mp e).1
    omega
theorem Keep.set {μ : List Cell} {k : Nat} {x y : Cell} (h : μ[k]? = some x) (a : Alike x y) : Keep μ (μ.set k y) := fun j z e => by
  by_cases hj : k = j
  · subst hj
    rw [h] at e
    cases e
    exact ⟨y, cell_set h, a⟩
  · exact ⟨z, by rw [List.getElem?_set_ne hj]; exact e, .inl rfl⟩
/-- a cell behind the old ones -/
theorem Keep.setNew {μ μ' : List Cell} {k : Nat} {y : Cell} (h : Keep μ μ') (hk : μ.length ≤ k) : Keep μ (μ'.set k y) := fun j z e => by
  obtain ⟨w, e1, a1⟩ := h j z e
  have := (List.getElem?_eq_some_iff.mp e).1
  exact ⟨w, by rw [List.getElem?_set_ne (by omega)]; exact e1, a1⟩
structure Ok (e l c s : Nat) : Prop extends Can e l c s where
  hs : s ≤ 2000
  hl : l ≤ 2000
def Lim (μ : List Cell) (k e l c s : Nat) : Prop := Ok e l c s ∧ ∃ x, μ[k]? = some x ∧ LimC e l c s x
theorem Lim.keep {μ μ' : List Cell} {k e l c s : Nat} (h : Lim μ k e l c s) (q : Keep μ μ') : Lim μ' k e l c s := by
  obtain ⟨o, x, e1, h1⟩ := h
  obtain ⟨y, e2, a⟩ := q k x e1
  rcases a with rfl | ⟨e', l', c', s', h2, h3⟩
  · exact ⟨o, x, e2, h1⟩
  · obtain ⟨rfl, rfl, rfl, rfl⟩ := h1.inj h2
    exact ⟨o, y, e2, h3⟩
section
variable {μ : List Cell} {V : D → Prop} {k e l c s : Nat} {fw rs : D}
theorem w1_cycle (h : μ[k]? = some (.obj "Limits" (LF c s e l fw rs))) : W1 (dFld ["Limits"] "_cycle") (.h k) μ V ↔ V (nI c) := w1_fld h List.mem_cons_self (by rfl)
theorem w1_span (h : μ[k]? = some (.obj "Limits" (LF c s e l fw rs))) : W1 (dFld ["Limits"] "_span") (.h k) μ V ↔ V (nI s) := w1_fld h List.mem_cons_self (by rfl)
theorem w1_early (h : μ[k]? = some (.obj "Limits" (LF c s e l fw rs))) : W1 (dFld ["Limits"] "_early") (.h k) μ V ↔ V (nI e) := w1_fld h List.mem_cons_self (by rfl)
theorem w1_low (h : μ[k]? = some (.obj "Limits" (LF c s e l fw rs))) : W1 (dFld ["Limits"] "_low") (.h k) μ V ↔ V (nI l) := w1_fld h List.mem_cons_self (by rfl)
theorem w1_few (h : μ[k]? = some (.obj "Limits" (LF c s e l fw rs))) : W1 (dFld ["Limits"] "_few") (.h k) μ V ↔ V fw := w1_fld h List.mem_cons_self (by rfl)
theorem w1_rests (h : μ[k]? = some (.obj "Limits" (LF c s e l fw rs))) : W1 (dFld ["Limits"] "_rests") (.h k) μ V ↔ V rs := w1_fld h List.mem_cons_self (by rfl)
end
/-! ### the form of what a set is made of -/
theorem ty_int {i : Int} {μ : List Cell} : tyOf (.int i) μ = some "int" := rfl
theorem isB_ty {T : String} {μ : List Cell} : isW (.ty T) (.ty T) μ = some true := by
  unfold isW isB
  simp
theorem isN_ty {T : String} {μ : List Cell} : isB (.ty T) (.ty T) μ = some true := by
  unfold isB
  simp
theorem within_ok {n : Int} {lo hi : Int} {μ : List Cell} (h1 : lo ≤ n) (h2 : n ≤ hi) : F_is_whole_within [.int n, .int lo, .int hi] μ = some (.v (.bl true), μ) := by
  refine to_eq ?_
  unfold F_is_whole_within g_is_whole_within
  walk_at "dl"
  simp only [ty_int, Option.some.injEq, exists_eq_left', isB_ty]
  walk_at "dl"
  rw [decide_eq_true h1, decide_eq_true h2]
  exact .inl ⟨rfl, rfl⟩
theorem from_ok {n lo : Int} {μ : List Cell} (h1 : lo ≤ n) : F_is_whole_from [.int n, .int lo] μ = some (.v (.bl true), μ) := by
  refine to_eq ?_
  unfold F_is_whole_from g_is_whole_from
  walk_at "dl"
  simp only [ty_int, Option.some.injEq, exists_eq_left', isB_ty]
  walk_at "dl"
  rw [decide_eq_true h1]
theorem kit_tup : kitB "tuple" "tuple" = some true := by decide +kernel
theorem ascending_ok {ns : List Nat} {b : Nat} {μ : List Cell} (hp : ns.Pairwise (· < ·)) (hb : ∀ n ∈ ns, n < b) : F_is_ascending_below [.tup (ns.map nI), .int b] μ = some (.v (.bl true), μ) := by
  refine to_eq ?_
  unfold F_is_ascending_below g_is_ascending_below
  walk_at "dl"
  simp only [w2_isi, show tyOf (.tup (ns.map nI)) μ = some "tuple" from rfl, Option.some.injEq, exists_eq_left', kit_tup]
  walk_at "dl"
  refine ws_forInv (fun ds S => ∃ (last : Int) (v : Option D) (r : List Nat), ds = r.map nI ∧ r.Pairwise (· < ·) ∧ (∀ n ∈ r, last < (n : Int) ∧ n < b) ∧ last < b ∧ S = ⟨[some (.tup (ns.map nI)), some (.int b), some (.int last), v], μ⟩) ?_ ?_ _ _ ⟨-1, none, ns, rfl, hp, fun n hn => ⟨by omega, hb n hn⟩, by omega, rfl⟩
  · rintro d r S ⟨last, v, rs, e, hpw, hr, hlb, rfl⟩
    cases rs with
    | nil => cases e
    | cons n rs =>
      rw [List.map_cons] at e
      obtain ⟨rfl, rfl⟩ := List.cons.inj e
      have hn := hr n List.mem_cons_self
      have hpw2 := List.pairwise_cons.mp hpw
      walk_at "dl"
      simp only [ty_int, Option.some.injEq, exists_eq_left', isN_ty]
      walk_at "dl"
      rw [decide_eq_false (by omega : ¬ ((n : Int) ≤ last))]
      walk_at "dl"
      refine ⟨(n : Int), some (nI n), rs, rfl, hpw2.2, fun m hm => ⟨by have := hpw2.1 m hm; omega, (hr m (List.mem_cons_of_mem _ hm)).2⟩, by omega, rfl⟩
  · rintro S ⟨last, v, rs, e, hpw, hr, hlb, rfl⟩
    walk_at "dl"
    rw [decide_eq_true hlb]
theorem tell_ok {fs rs : List Nat} {f p : Nat} {μ : List Cell} (h1 : fs.Pairwise (· < ·)) (h2 : ∀ n ∈ fs, n < f) (h3 : rs.Pairwise (· < ·)) (h4 : ∀ n ∈ rs, n < p) (hf : f ≤ 2000) (hp : 0 < p) (hp2 : p ≤ 2000) :
    F__tell_a_set [.tup (fs.map nI), nI f, nI p, .tup (rs.map nI)] μ = some (.v (.bl true), μ) := by
  refine to_eq ?_
  unfold F__tell_a_set g__tell_a_set
  walk_at "dl"
  rw [wf_at (within_ok (by omega) (by omega))]
  walk_at "dl"
  rw [wf_at (within_ok (by omega) (by omega))]
  walk_at "dl"
  rw [wf_at (ascending_ok h1 h2)]
  walk_at "dl"
  rw [wf_at (ascending_ok h3 h4)]
  simp
theorem to_at {F : FnF} {ds : List D} {μ μ'' : List Cell} {r : D} (h : WF F ds μ fun d μ' => d = r ∧ μ' = μ'') : F ds μ = some (.v r, μ'') := by
  obtain ⟨d, μ', e, rfl, rfl⟩ := h
  exact e
/-! ### a new set -/
def told (fs rs : List Nat) (f p n : Nat) : Bool := if n < f then decide (n ∈ fs) else decide (n % p ∈ rs)
theorem obj0 {μ : List Cell} {k : Nat} : (0 : Nat) < 1000 := by decide
theorem nd_of {ns : List Nat} (h : ns.Pairwise (· < ·)) : ns.Nodup := h.imp fun h => Nat.ne_of_lt h
theorem init_ok {fs rs : List Nat} {f p k : Nat} {μ : List Cell} (h1 : fs.Pairwise (· < ·)) (h2 : ∀ n ∈ fs, n < f) (h3 : rs.Pairwise (· < ·)) (h4 : ∀ n ∈ rs, n < p) (hf : f ≤ 2000) (hp : 0 < p) (hp2 : p ≤ 2000) (hfl : fs.length < 16) (hrl : rs.length < 16)
    (hk : μ[k]? = some (.obj "Limits" [])) : ∃ e l c s, Ok e l c s ∧ l ≤ f ∧ s ∣ p ∧ (∀ n, mem e l c s n = told fs rs f p n) ∧ F_Limits_init [.h k, .tup (fs.map nI), nI f, nI p, .tup (rs.map nI)] μ = some (.v .non, μ.set k (.obj "Limits" (LF c s e l .non .non))) := by
  have bl := bitsOf_lt (nd_of h3) h4
  have bf := bitsOf_lt (nd_of h1) h2
  obtain ⟨c, s, ec, sm, lst⟩ := least_cycle_ok (μ := μ) bl hp hp2
  have hs : s ≤ 2000 := Nat.le_trans (Nat.le_of_dvd hp sm.dvd) hp2
  obtain ⟨hk1, he, hle, hm⟩ := early (c := c) (s := s) bf
  refine ⟨_, _, c, s, ⟨⟨sm.pos, sm.lt, he, lst, hle⟩, hs, by omega⟩, hk1, sm.dvd, fun n => ?_, ?_⟩
  · rw [hm, mem_same sm]
    unfold mem told
    rw [tb_bitsOf (nd_of h1), tb_bitsOf (nd_of h3)]
  · refine to_at ?_
    unfold F_Limits_init g_Limits_init
    walk_at "dl"
    rw [wf_at (tell_ok h1 h2 h3 h4 hf hp hp2)]
    walk_at "dl"
    rw [wf_at (bits_few hrl h4 (by omega)), wf_at ec]
    walk_at "dl"
    rw [cFld_at hk (by decide)]
    have g1 := cell_set (d := .obj "Limits" (putD "_cycle" (nI c) [])) hk
    rw [cFld_at g1 (show (1 : Nat) < 1000 by decide)]
    simp only [set_set]
    have g2 := cell_set (d := .obj "Limits" (putD "_span" (nI s) (putD "_cycle" (nI c) []))) hk
    rw [wf_at (bits_few hfl h2 (by omega)), w1_fld g2 List.mem_cons_self (d := nI c) rfl, w1_fld g2 List.mem_cons_self (d := nI s) rfl, wf_at (least_early_eq bf (by omega) sm.lt sm.pos (by omega))]
    walk_at "dl"
    rw [cFld_at g2 (show (2 : Nat) < 1000 by decide)]
    simp only [set_set]
    generalize bitsOf fs % 2 ^ bitlen (bitsOf fs ^^^ fill c s f) = e
    generalize bitlen (bitsOf fs ^^^ fill c s f) = l
    have g3 := cell_set (d := .obj "Limits" [("_cycle", nI c), ("_span", nI s), ("_early", nI e)]) hk
    refine (cFld_at g3 (show (3 : Nat) < 1000 by decide)).mpr ?_
    simp only [set_set]
    have g4 := cell_set (d := .obj "Limits" [("_cycle", nI c), ("_span", nI s), ("_early", nI e), ("_low", nI l)]) hk
    refine (cFld_at g4 (show (4 : Nat) < 1000 by decide)).mpr ?_
    simp only [set_set]
    have g5 := cell_set (d := .obj "Limits" [("_cycle", nI c), ("_span", nI s), ("_early", nI e), ("_low", nI l), ("_few", .non)]) hk
    refine (cFld_at g5 (show (5 : Nat) < 1000 by decide)).mpr ?_
    simp only [set_set]
    rfl
theorem new_ok {fs rs : List Nat} {f p : Nat} {μ : List Cell} (h1 : fs.Pairwise (· < ·)) (h2 : ∀ n ∈ fs, n < f) (h3 : rs.Pairwise (· < ·)) (h4 : ∀ n ∈ rs, n < p) (hf : f ≤ 2000) (hp : 0 < p) (hp2 : p ≤ 2000) (hfl : fs.length < 16) (hrl : rs.length < 16) :
    ∃ e l c s, Ok e l c s ∧ l ≤ f ∧ s ∣ p ∧ (∀ n, mem e l c s n = told fs rs f p n) ∧ mkF "Limits" (only 5 F_Limits_init) [.tup (fs.map nI), nI f, nI p, .tup (rs.map nI)] μ = some (.v (.h μ.length), μ ++ [.obj "Limits" (LF c s e l .non .non)]) := by
  obtain ⟨e, l, c, s, o, hl, hs, hm, ef⟩ := init_ok (k := μ.length) (μ := μ ++ [.obj "Limits" []]) h1 h2 h3 h4 hf hp hp2 hfl hrl (List.getElem?_concat_length ..)
  refine ⟨e, l, c, s, o, hl, hs, hm, ?_⟩
  unfold mkF only
  rw [if_pos (show [D.h μ.length, D.tup (List.map nI fs), nI f, nI p, D.tup (List.map nI rs)].length = 5 from rfl), ef]
  show some (Ov.v (D.h μ.length), (μ ++ [Cell.obj "Limits" []]).set μ.length _) = _
  rw [List.set_append_right _ _ (Nat.le_refl _), Nat.sub_self]
  rfl
theorem lim_new {μ : List Cell} {e l c s : Nat} (o : Ok e l c s) : Lim (μ ++ [.obj "Limits" (LF c s e l .non .non)]) μ.length e l c s := ⟨o, _, List.getElem?_concat_length .., .non, .non, rfl, .inl rfl, .inl rfl⟩
/-! ### what the law draws -/
def DieC (x : Cell) : Prop := ∃ a b c : Int, x = .lst [.int a, .int b, .int c]
/-- from one time to a later one: sets stay sets, the numbers that are drawn from may be others -/
def Go (u : Nat) (μ μ' : List Cell) : Prop := ∀ (k : Nat) (x : Cell), μ[k]? = some x → ∃ y : Cell, μ'[k]? = some y ∧ (Alike x y ∨ (k = u ∧ DieC x ∧ DieC y))
theorem DieC.alike {x y : Cell} (h : DieC x) (a : Alike x y) : DieC y := by
  rcases a with rfl | ⟨e, l, c, s, ⟨_, _, q, _⟩, _⟩
  · exact h
  · obtain ⟨_, _, _, rfl⟩ := h
    cases q
theorem DieC.alike' {x y : Cell} (h : DieC y) (a : Alike x y) : DieC x := by
  rcases a with rfl | ⟨e, l, c, s, _, ⟨_, _, q, _⟩⟩
  · exact h
  · obtain ⟨_, _, _, rfl⟩ := h
    cases q
theorem Go.refl {u : Nat} {μ : List Cell} : Go u μ μ := fun k x h => ⟨x, h, .inl (.inl rfl)⟩
theorem Keep.go {u : Nat} {μ μ' : List Cell} (h : Keep μ μ') : Go u μ μ' := fun k x e => let ⟨y, e1, a⟩ := h k x e; ⟨y, e1, .inl a⟩
theorem Go.trans {u : Nat} {μ μ' μ'' : List Cell} (h : Go u μ μ') (h' : Go u μ' μ'') : Go u μ μ'' := fun k x e => by
  obtain ⟨y, e1, a1⟩ := h k x e
  obtain ⟨z, e2, a2⟩ := h' k y e1
  refine ⟨z, e2, ?_⟩
  rcases a1 with a1 | ⟨q, d1, d2⟩
  · rcases a2 with a2 | ⟨q, d3, d4⟩
    · exact .inl (a1.trans a2)
    · exact .inr ⟨q, d3.alike' a1, d4⟩
  · rcases a2 with a2 | ⟨q', d3, d4⟩
    · exact .inr ⟨q, d1, d2.alike a2⟩
    · exact .inr ⟨q, d1, d4⟩
theorem Go.die {u : Nat} {μ μ' : List Cell} (h : Go u μ μ') (d : Die u μ) : Die u μ' := by
  obtain ⟨x, y, z, e⟩ := d
  obtain ⟨w, e1, a⟩ := h u _ e
  have hw : DieC w := by
    rcases a with a | ⟨_, _, d2⟩
    · exact DieC.alike ⟨x, y, z, rfl⟩ a
    · exact d2
  obtain ⟨p, q, r, rfl⟩ := hw
  exact ⟨p, q, r, e1⟩
theorem Lim.go {u : Nat} {μ μ' : List Cell} {k e l c s : Nat} (h : Lim μ k e l c s) (q : Go u μ μ') : Lim μ' k e l c s := by
  obtain ⟨o, x, e1, h1⟩ := h
  obtain ⟨y, e2, a⟩ := q k x e1
  rcases a with a | ⟨_, d1, _⟩
  · rcases a with rfl | ⟨e', l', c', s', h2, h3⟩
    · exact ⟨o, x, e2, h1⟩
    · obtain ⟨rfl, rfl, rfl, rfl⟩ := h1.inj h2
      exact ⟨o, y, e2, h3⟩
  · obtain ⟨_, _, rfl, _⟩ := h1
    obtain ⟨_, _, _, q⟩ := d1
    cases q
theorem Go.set {u : Nat} {μ : List Cell} (d : Die u μ) (a b c : Int) : Go u μ (μ.set u (.lst [.int a, .int b, .int c])) := fun k x e => by
  obtain ⟨p, q, r, e0⟩ := d
  by_cases hk : u = k
  · subst hk
    rw [e0] at e
    cases e
    exact ⟨_, cell_set e0, .inr ⟨rfl, ⟨p, q, r, rfl⟩, ⟨a, b, c, rfl⟩⟩⟩
  · exact ⟨x, by rw [List.getElem?_set_ne hk]; exact e, .inl (.inl rfl)⟩
theorem ite2 {p : Prop} [Decidable p] {a b : Prop} (h1 : p → a) (h2 : ¬ p → b) : if p then a else b := by
  split
  · rename_i h; exact h1 h
  · rename_i h; exact h2 h
theorem urn_ok {ns : List Int} {a : Nat} {μ : List Cell} : WF F__law_urn [.rl (ns.map D.int), nI a] μ fun d μ' => d = .h μ.length ∧ ∃ x y z : Int, μ' = μ ++ [.lst [.int x, .int y, .int z]] := by
  unfold F__law_urn g__law_urn
  walk_at "dl"
  have c1 : (0 : Int) ≤ 59 ∧ (Builtin.Int.intBits 10 : Int) * 59 ≤ 2 ^ 27 := by decide +kernel
  have c2 : (0 : Int) ≤ 10 ∧ (Builtin.Int.intBits (10 ^ Int.toNat 59) : Int) * 10 ≤ 2 ^ 27 := by decide +kernel
  have c3 : ((10 : Int) ^ Int.toNat 59) ^ Int.toNat 10 ≠ 0 := by decide +kernel
  have c4 : (0 : Int) ≤ 15 ∧ (Builtin.Int.intBits 10 : Int) * 15 ≤ 2 ^ 27 := by decide +kernel
  have c5 : (3 : Nat) ≤ sizeLine := by decide
  refine ite2 (fun hlt => ?_) fun _ => ?_
  · have hlt := of_decide_eq_true hlt
    obtain ⟨d, e1, hm, _⟩ := atI_lt (xs := ns.map D.int) (i := (a : Int)) (Int.natCast_nonneg a) (by rw [List.length_map]; exact hlt)
    obtain ⟨i, _, rfl⟩ := List.mem_map.mp hm
    refine ⟨_, e1, ?_⟩
    walk_at "dl"
    generalize (if i < 0 then -i else i).fmod (((10 : Int) ^ Int.toNat 59) ^ Int.toNat 10) = g
    cases decide (i < 0) with
    | true =>
      walk_at "dl"
      exact ⟨c1, c2, c3, .inr ⟨by decide, by decide⟩, .inl ⟨by decide, by decide⟩, .inl ⟨by decide, by decide⟩, by decide, c4, c5, _, _, _, rfl⟩
    | false =>
      walk_at "dl"
      exact ⟨c1, c2, c3, .inr ⟨by decide, by decide⟩, .inl ⟨by decide, by decide⟩, .inl ⟨by decide, by decide⟩, by decide, c4, c5, _, _, _, rfl⟩
  · exact ⟨.inl ⟨by decide, by decide⟩, c1, c2, c3, .inr ⟨by decide, by decide⟩, .inl ⟨by decide, by decide⟩, .inl ⟨by decide, by decide⟩, by decide, c4, c5, _, _, _, rfl⟩
theorem toss_ok {u : Nat} {t : Nat} {μ : List Cell} (hd : Die u μ) (h0 : 0 < t) (h1 : t < 1073741824) : WF F__law_toss [.h u, nI t] μ fun d μ' => ∃ r : Nat, d = nI r ∧ r < t ∧ Go u μ μ' := by
  have hd0 := hd
  obtain ⟨x, y, z, hk⟩ := hd
  have hk2 : ∀ c, (μ.set u c)[u]? = some c := fun c => cell_set hk
  have fin : ∀ {i : Int} {μ' : List Cell}, Go u μ μ' → ∃ r : Nat, D.int (i.fmod (t : Int)) = nI r ∧ r < t ∧ Go u μ μ' := fun {i μ'} g => by
    have b := fmod_pos (a := i) (b := (t : Int)) (by omega)
    obtain ⟨r, er⟩ := Int.eq_ofNat_of_zero_le b.1
    have er : i.fmod (t : Int) = (r : Int) := er
    exact ⟨r, by rw [er], by omega, g⟩
  unfold F__law_toss g__law_toss
  walk_at "dl"
  simp only [hk, Option.some.injEq, Cell.lst.injEq, exists_eq_left', at0, at1, at2]
  walk_at "dl"
  simp only [exists_and_left, exists_eq_left', List.length_cons, List.length_nil, Nat.reduceAdd, ix3.1, ix3.2.1, Option.some.injEq, set3a, set3c, hk2, Cell.lst.injEq, at1, at2]
  walk_at "dl"
  refine ite2 (fun _ => ?_) fun _ => ?_
  · have g := Go.set hd0 (x.fdiv (t : Int)) y z
    obtain ⟨r, er, h⟩ := fin (i := x) g
    exact ⟨by omega, ⟨by omega, by omega⟩, r, D.int.inj er, h⟩
  · have m1 := fmod_pos (a := y + 920419813 * (z + 1)) (b := 2305843009213693907) (by decide)
    have m2 := fmod_pos (a := (y + 920419813 * (z + 1)).fmod 2305843009213693907 * (y + 920419813 * (z + 1)).fmod 2305843009213693907) (b := 1000000000000037) (by decide)
    generalize (y + 920419813 * (z + 1)).fmod 2305843009213693907 = one at m1 m2 ⊢
    generalize (one * one).fmod 1000000000000037 = sq at m2 ⊢
    have g := Go.set hd0 x y (z + 1)
    obtain ⟨r, er, h⟩ := fin (i := ((sq * one + 7411 * (z + 1) + y).fmod 4398046511093).fdiv 16) g
    exact ⟨.inl (by decide), by decide, .inl ⟨by omega, by omega⟩, by decide, .inl ⟨by omega, by omega⟩, .inl (by decide), by decide, ⟨by decide, by decide⟩, by omega, r, D.int.inj er, h⟩
theorem pick_ok {u : Nat} {μ : List Cell} {xs : List D} (hd : Die u μ) (hx : 0 < xs.length) (hl : xs.length < 1073741824) : WF F__law_pick [.h u, .lst xs] μ fun d μ' => d ∈ xs ∧ Go u μ μ' := by
  unfold F__law_pick g__law_pick
  walk_at "dl"
  obtain ⟨d, μ', e, r, rfl, h1, dr⟩ := toss_ok (t := xs.length) hd hx hl
  refine ⟨_, μ', e, ?_⟩
  obtain ⟨c, e1, hm, _⟩ := atI_lt (xs := xs) (i := (r : Int)) (Int.natCast_nonneg r) (by omega)
  walk_at "dl"
  exact ⟨c, e1, hm, dr⟩
theorem rng_nat (n : Nat) : rngD 0 n = (List.range n).map nI := by
  unfold rngD
  refine List.map_congr_left fun i _ => ?_
  rw [Int.zero_add]
/-- some of the numbers below n, as they are drawn -/
theorem some_ok {u i n : Nat} {ρ : List (Option D)} {μ : List Cell} {t : EvT} (hi : i < ρ.length) (hd : Die u μ) (ht : ∀ (m : Nat) (μ' : List Cell), Die u μ' → WT t ⟨ρ.set i (some (nI m)), μ'⟩ fun _ μ'' => Go u μ' μ'') :
    WLc (bName i) t (fV i) ρ (rngD 0 n) μ fun xs μ' => ∃ fs : List Nat, xs = fs.map nI ∧ fs.Sublist (List.range n) ∧ Go u μ μ' := by
  have z := wlc_inv (b := bName i) (t := t) (fa := fV i) (ρ := ρ) (fun ds xs μ' => ∃ done rest fs : List Nat, List.range n = done ++ rest ∧ ds = rest.map nI ∧ xs = fs.map nI ∧ fs.Sublist done ∧ Go u μ μ') ?_ (rngD 0 n) [] μ ⟨[], List.range n, [], rfl, rng_nat n, rfl, .slnil, Go.refl⟩
  · refine z.mono fun xs μ' ⟨done, rest, fs, e1, e2, e3, e4, e5⟩ => ?_
    cases rest with
    | cons _ _ => cases e2
    | nil =>
      rw [List.append_nil] at e1
      rw [List.nil_append] at e3
      exact ⟨fs, e3, e1 ▸ e4, e5⟩
  · rintro d r xs μ' ⟨done, rest, fs, e1, e2, rfl, e4, e5⟩
    cases rest with
    | nil => cases e2
    | cons m rest =>
      rw [List.map_cons] at e2
      obtain ⟨rfl, rfl⟩ := List.cons.inj e2
      refine wb_name.mpr ⟨hi, ?_⟩
      obtain ⟨k, μ1, e, g⟩ := ht m μ' (e5.die hd)
      refine ⟨k, μ1, e, ?_⟩
      cases k with
      | true =>
        rw [if_pos rfl]
        refine we_V.mpr ⟨nI m, List.getElem?_set_self hi, done ++ [m], rest, fs ++ [m], by rw [e1]; simp, rfl, by rw [List.map_append]; rfl, e4.append (List.Sublist.refl [m]), e5.trans g⟩
      | false =>
        rw [if_neg Bool.false_ne_true]
        exact ⟨done ++ [m], rest, fs, by rw [e1]; simp, rfl, rfl, e4.trans (List.sublist_append_left done [m]), e5.trans g⟩
structure Parts (fs rs : List Nat) (f p : Nat) : Prop where
  f1 : fs.Pairwise (· < ·)
  f2 : ∀ n ∈ fs, n < f
  r1 : rs.Pairwise (· < ·)
  r2 : ∀ n ∈ rs, n < p
  f3 : f ≤ 9
  p1 : 0 < p
  p2 : p ≤ 12
  p3 : p ∣ 60
  l1 : fs.length < 16
  l2 : rs.length < 16
abbrev prD (fs rs : List Nat) (f p : Nat) : D := .lst [.tup (fs.map nI), nI f, nI p, .tup (rs.map nI)]
theorem sub_facts {fs : List Nat} {n : Nat} (h : fs.Sublist (List.range n)) : fs.Pairwise (· < ·) ∧ (∀ m ∈ fs, m < n) ∧ fs.length ≤ n :=
  ⟨List.Pairwise.sublist h List.pairwise_lt_range, fun m hm => List.mem_range.mp (h.subset hm), by have := h.length_le; rwa [List.length_range] at this⟩
theorem pick_f {d : D} (h : d ∈ [D.int 0, D.int 3, D.int 1, D.int 6, D.int 2, D.int 9]) : ∃ f : Nat, d = nI f ∧ f ≤ 9 := by
  simp only [List.mem_cons, List.not_mem_nil, or_false] at h
  rcases h with rfl | rfl | rfl | rfl | rfl | rfl
  · exact ⟨0, rfl, by decide⟩
  · exact ⟨3, rfl, by decide⟩
  · exact ⟨1, rfl, by decide⟩
  · exact ⟨6, rfl, by decide⟩
  · exact ⟨2, rfl, by decide⟩
  · exact ⟨9, rfl, by decide⟩
theorem pick_p {d : D} (h : d ∈ [D.int 1, D.int 2, D.int 3, D.int 6, D.int 4, D.int 5, D.int 12]) : ∃ p : Nat, d = nI p ∧ 0 < p ∧ p ≤ 12 ∧ p ∣ 60 := by
  simp only [List.mem_cons, List.not_mem_nil, or_false] at h
  rcases h with rfl | rfl | rfl | rfl | rfl | rfl | rfl
  · exact ⟨1, rfl, by decide, by decide, by decide⟩
  · exact ⟨2, rfl, by decide, by decide, by decide⟩
  · exact ⟨3, rfl, by decide, by decide, by decide⟩
  · exact ⟨6, rfl, by decide, by decide, by decide⟩
  · exact ⟨4, rfl, by decide, by decide, by decide⟩
  · exact ⟨5, rfl, by decide, by decide, by decide⟩
  · exact ⟨12, rfl, by decide, by decide, by decide⟩
theorem drawn_ok {u : Nat} {μ : List Cell} (hd : Die u μ) : WF F__law_drawn [.h u] μ fun d μ' => ∃ fs rs f p, d = prD fs rs f p ∧ Parts fs rs f p ∧ Go u μ μ' := by
  unfold F__law_drawn g__law_drawn
  walk_at "dl"
  refine ⟨by decide, ?_⟩
  obtain ⟨d1, μ1, e1, m1, g1⟩ := pick_ok (xs := [D.int 0, D.int 3, D.int 1, D.int 6, D.int 2, D.int 9]) hd (by decide) (by decide)
  obtain ⟨d2, μ2, e2, m2, g2⟩ := pick_ok (xs := [D.int 1, D.int 2, D.int 3, D.int 6, D.int 4, D.int 5, D.int 12]) (g1.die hd) (by decide) (by decide)
  rw [wf_at e1]
  refine ⟨by decide, ?_⟩
  rw [wf_at e2]
  obtain ⟨f, rfl, hf⟩ := pick_f m1
  obtain ⟨p, rfl, hp0, hp1, hp2⟩ := pick_p m2
  have d2 := (g1.trans g2).die hd
  have toss2 : ∀ {ρ : List (Option D)} {μ' : List Cell}, ρ[0]? = some (some (.h u)) → Die u μ' → WT (fTru (fB dEqW (fCall F__law_toss (fLen 2 (fCons (fV 0) (fCons (fC (D.int 2)) fNil)))) (fC (D.int 0)))) ⟨ρ, μ'⟩ fun _ μ'' => Go u μ' μ'' := fun {ρ μ'} h0 dd => by
    walk_at "dl"
    refine ⟨_, h0, ?_⟩
    obtain ⟨d, μ1, e, r, rfl, _, g⟩ := toss_ok (t := 2) dd (by decide) (by decide)
    refine (wf_at e).mpr ?_
    walk_at "dl"
    exact g
  refine ⟨_, _, ⟨rfl, rfl⟩, _, rfl, by omega, by omega, ?_⟩
  rw [Int.toNat_natCast]
  refine (some_ok (ρ := [some (.h u), some (nI f), some (nI p), none, none, none, none, none]) (i := 7) (n := f) (μ := μ2) (show (7 : Nat) < 8 by decide) d2 (fun m μ' dd => toss2 rfl dd)).mono fun xs μ3 ⟨fs, ex, sf, g3⟩ => ?_
  subst ex
  obtain ⟨a1, a2, a3⟩ := sub_facts sf
  refine ⟨by rw [List.length_map, sizeLine_eq]; omega, ?_⟩
  have d3 := g3.die d2
  obtain ⟨d4, μ4, e4, w, rfl, hw, g4⟩ := toss_ok (t := 4) d3 (by decide) (by decide)
  refine (wf_at e4).mpr ⟨_, rfl, by omega, by omega, ?_⟩
  rw [Int.toNat_natCast]
  simp only [wipeR]
  have d4 := g4.die d3
  refine (some_ok (ρ := [some (.h u), some (nI f), some (nI p), some (.tup (fs.map nI)), some (nI w), none, none, none]) (i := 6) (n := p) (μ := μ4) (show (6 : Nat) < 8 by decide) d4 (fun m μ' dd => ?_)).mono fun xs μ5 ⟨rs, ex, sr, g5⟩ => ?_
  · rw [wt_Or]
    refine (wt_Tru.mpr ?_)
    walk_at "dl"
    refine ite2 (fun _ => Go.refl) fun _ => ?_
    refine ite2 (fun _ => ?_) fun _ => Go.refl
    obtain ⟨d, μ1, e, r, rfl, _, g⟩ := toss_ok (t := 2) dd (by decide) (by decide)
    refine (wf_at e).mpr ?_
    walk_at "dl"
    exact g
  · subst ex
    obtain ⟨b1, b2, b3⟩ := sub_facts sr
    refine ⟨by rw [List.length_map, sizeLine_eq]; omega, by decide, fs, rs, f, p, rfl, ⟨a1, a2, b1, b2, hf, hp0, hp1, hp2, by omega, by omega⟩, ((g1.trans g2).trans g3).trans (g4.trans g5)⟩
theorem any_ints (m : Nat) : ∀ ns : List Nat, (ns.map fun n => PyData.int (n : Nat)).any (fun q => PyData.eqv q (.int (m : Nat))) = decide (m ∈ ns)
  | [] => rfl
  | n :: ns => by
    rw [List.map_cons, List.any_cons, any_ints m ns, PyData.eqv.eq_5]
    by_cases h : n = m
    · subst h; simp
    · have h2 : m ≠ n := fun q => h q.symm
      have h3 : ((n : Nat) : Int) ≠ ((m : Nat) : Int) := by omega
      simp [h2, h3]
theorem pds_nat (k : Nat) : ∀ ns : List Nat, PDs k (ns.map nI) (ns.map fun n => PyData.int (n : Nat))
  | [] => .nil k
  | n :: ns => .cons (.int k _) (pds_nat k ns)
theorem pd_tup (ns : List Nat) : PD 1 (.tup (ns.map nI)) (.tuple (ns.map fun n => PyData.int (n : Nat))) := .tup (pds_nat 0 ns)
theorem in_nat {m : Nat} {ns : List Nat} {μ : List Cell} {V : D → Prop} : W2 dInR (nI m) (.tup (ns.map nI)) μ V ↔ V (.bl (decide (m ∈ ns))) := by
  refine w2_of ?_
  unfold dInR inR
  obtain ⟨a, b, c⟩ := (pd_tup ns).facts
  have a0 : toR (nI m) = some (PyData.int (m : Nat)) := by simp only [toR]
  simp only [a, a0]
  have d := (pds_nat 0 ns).facts
  rw [if_pos ⟨rfl, d.2.1, by omega⟩, any_ints]
  rfl
section
variable {fs rs : List Nat} {f p : Nat} {μ : List Cell}
theorem has_eq (hp : 0 < p) (n : Nat) : F__law_has [prD fs rs f p, nI n] μ = some (.v (.bl (told fs rs f p n)), μ) := by
  refine to_eq ?_
  unfold F__law_has g__law_has
  walk_at "dl"
  simp only [at0, at1, at2, at3, Option.some.injEq, exists_eq_left']
  walk_at "dl"
  rw [lt_nat]
  unfold told
  by_cases h : n < f
  · rw [decide_eq_true h]
    walk_at "dl"
    rw [in_nat, if_pos h]
  · rw [decide_eq_false h]
    walk_at "dl"
    rw [fmod_nat, in_nat, if_neg h]
    exact ⟨by omega, rfl⟩
theorem filter_map_nat {q : Nat → Bool} {g : D → Bool} (h : ∀ n : Nat, g (nI n) = q n) (ns : List Nat) : (ns.map nI).filter g = (ns.filter q).map nI := by
  rw [List.filter_map]
  congr 1
  exact List.filter_congr fun n _ => h n
def natOf : D → Nat
  | .int i => i.toNat
  | _ => 0
theorem limits_ok (h : Parts fs rs f p) : ∃ e l c s, Ok e l c s ∧ l ≤ f ∧ s ∣ p ∧ (∀ n, mem e l c s n = told fs rs f p n) ∧ F__law_limits [prD fs rs f p] μ = some (.v (.h μ.length), μ ++ [.obj "Limits" (LF c s e l .non .non)]) := by
  obtain ⟨e, l, c, s, o, hl, hs, hm, ef⟩ := new_ok (μ := μ) h.f1 h.f2 h.r1 h.r2 (by have := h.f3; omega) h.p1 (by have := h.p2; omega) h.l1 h.l2
  refine ⟨e, l, c, s, o, hl, hs, hm, ?_⟩
  refine to_at ?_
  unfold F__law_limits g__law_limits
  walk_at "dl"
  rw [we_nox, wx_R]
  walk_at "dl"
  simp only [at0, at1, at2, at3, Option.some.injEq, exists_eq_left']
  exact ⟨_, _, ef, rfl, rfl⟩
/-! counted far away -/
theorem told60 (h : Parts fs rs f p) : ∀ i, 60 ≤ i → told fs rs f p (i + 60) = told fs rs f p i := fun i hi => by
  have := h.f3
  unfold told
  rw [if_neg (by omega), if_neg (by omega)]
  obtain ⟨k, ek⟩ := h.p3
  rw [ek, Nat.add_mul_mod_self_left]
end
end G
namespace G
open PySem L2 DL PySem.DLQ LM
local macro_rules | `(tactic| walk_at "dl") => `(tactic| simp only [wf_fn, ws_seq, ws_then, ws_drop, ws_nx, ws_bk, ws_ct, ws_ret, ws_if, ws_for, ws_par, wb_name, wb_sub, wb_tup, wb_seq, wb_fld, wbs_nil, wbs_cons, cSet_iff, we_V, we_C, we_B, we_U, we_App, we_newC, we_call, we_AndV, we_OrV, we_IfE, we_Ch, we_Lc, we_Sl, we_Apn, we_Pop, we_ListC, we_find3, we_meth, we_prop, we_ext, ws_fldD, wa_nil, wa_cons, wa_len, wa_star, wo_no, wo_part, isI_i, DL.sl_tup, DL.sl_lst,
  wl_1, wl_2, wl_lst, wl_tup, wt_Tru, wt_Not, wt_And, wt_Or, wt_true, wi_seq, wi_rng1, wi_rng2, wi_zip, wi_enumS, Nx_nx, Nx_rt, Nx_bk, Nx_ct, Nx_ex, Fe_rt, Fe_nx, Tn_nx, Tn_ct, Tn_bk, Tn_rt, Tn_ex,
  w2_addAI, w2_addAS, w2_addAT, w2_addAL, w2_addAH, w2_mulAI, w2_mulAT, w2_mulAL, w2_ltAI, w2_eqWI, w2_neWI, w2_neWN, w2_neWB, w2_eqWS, w2_neWS, w1_listT, w1_tupL, w1_lenH, w1_rev, w2_II, gSub_iff, gMod_iff, gFdiv_iff, gPow_iff, gShl_iff, gShr_iff, gAnd_iff, gOr_iff, gXor_iff, w1_inv, w1_bits, w2_divmod, w1_bin, w1_revS, w2_count, w2_find, w1_neg, w2_ordI, w2_ordS, w2_isW, w2_isNot, w2_ixL, w2_ixR, w2_ixT, w2_ixS, w2_ixH, w1_abs, w1_intI, w1_intB, w2_max, w2_min, w1_str, w1_lenS, w1_lenL, w1_lenR, w1_lenT, w1_type, w1_all, w1_not, w1_S0, w2_join, wtr_bl, asQ_t, asQ_l,
  List.map_cons, List.map_nil, List.cons_append, List.nil_append, List.replicate_succ, List.replicate_zero, List.getElem?_cons_zero, List.getElem?_cons_succ, List.set_cons_zero, List.set_cons_succ, List.length_cons, List.length_nil, Option.some.injEq, exists_eq_left', exists_eq_left, D.int.injEq, and_true, true_and, Nat.reduceAdd, Nat.reduceSub, Nat.reduceLT, Nat.lt_add_left_iff_pos, Nat.zero_lt_succ, List.length_replicate, List.length_append, List.length_map, List.cons.injEq, List.length_set, gSeq, decide_true, if_true, D.bl.injEq, Bool.not_true, Bool.not_false, Bool.false_eq_true, if_false, reduceCtorEq, false_and, or_false, false_or])
/-! ### which numbers a set has -/
/-- the object at k is the set of the numbers with f, told by small parts -/
def Is (μ : List Cell) (k : Nat) (f : Nat → Bool) : Prop := ∃ e l c s, Lim μ k e l c s ∧ l ≤ 2000 ∧ s ∣ 60 ∧ mem e l c s = f
theorem Is.keep {μ μ' : List Cell} {k : Nat} {f : Nat → Bool} (h : Is μ k f) (q : Keep μ μ') : Is μ' k f := by
  obtain ⟨e, l, c, s, h, r⟩ := h
  exact ⟨e, l, c, s, h.keep q, r⟩
theorem Is.go {u : Nat} {μ μ' : List Cell} {k : Nat} {f : Nat → Bool} (h : Is μ k f) (q : Go u μ μ') : Is μ' k f := by
  obtain ⟨e, l, c, s, h, r⟩ := h
  exact ⟨e, l, c, s, h.go q, r⟩
theorem Lim.isO {μ : List Cell} {k e l c s : Nat} (h : Lim μ k e l c s) : isO "Limits" (.h k) μ = true := by
  obtain ⟨_, _, hx, fw, rs, rfl, _⟩ := h
  unfold DL.isO
  simp only [hx]
  simp
theorem Is.isO {μ : List Cell} {k : Nat} {f : Nat → Bool} (h : Is μ k f) : isO "Limits" (.h k) μ = true := by
  obtain ⟨_, _, _, _, h, _⟩ := h
  exact h.isO
theorem wf_is {F : FnF} {ds : List D} {μ : List Cell} {P : D → List Cell → Prop} {d : D} {μ' : List Cell} (h : F ds μ = some (.v d, μ')) (p : P d μ') : WF F ds μ P := ⟨d, μ', h, p⟩
theorem made_ok {e l c s : Nat} {μ : List Cell} (he : e < 2 ^ l) (hc : c < 2 ^ s) (hl : l ≤ 2000) (hs0 : 0 < s) (hs : s ≤ 2000) :
    ∃ e' l' c' s', Ok e' l' c' s' ∧ l' ≤ l ∧ s' ∣ s ∧ (∀ n, mem e' l' c' s' n = mem e l c s n) ∧ F__made [.int e, .int l, .int c, .int s] μ = some (.v (.h μ.length), μ ++ [.obj "Limits" (LF c' s' e' l' .non .non)]) := by
  obtain ⟨c', s', ec, sm, lst⟩ := least_cycle_ok (μ := μ) hc hs0 hs
  have hs' : s' ≤ 2000 := Nat.le_trans (Nat.le_of_dvd hs0 sm.dvd) hs
  obtain ⟨hk1, he', hle, hm⟩ := early (c := c') (s := s') he
  refine ⟨_, _, c', s', ⟨⟨sm.pos, sm.lt, he', lst, hle⟩, hs', by omega⟩, hk1, sm.dvd, fun n => ?_, ?_⟩
  · rw [hm, mem_same sm]
  · refine to_at ?_
    unfold F__made g__made
    walk_at "dl"
    rw [wf_at ec]
    walk_at "dl"
    refine (wf_at (least_early_eq he (by omega) sm.lt sm.pos (by omega))).mpr ?_
    walk_at "dl"
    generalize e % 2 ^ bitlen (e ^^^ fill c' s' l) = e1
    generalize bitlen (e ^^^ fill c' s' l) = l1
    obtain ⟨e0, l0, c0, s0, o0, _, _, _, ef⟩ := new_ok (fs := []) (rs := []) (f := 0) (p := 1) (μ := μ) .nil (fun n hn => by cases hn) .nil (fun n hn => by cases hn) (by decide) (by decide) (by decide) (by decide) (by decide)
    rw [we_nox, wx_R]
    walk_at "dl"
    refine ⟨by decide, by decide, _, _, ef, ?_⟩
    have g0 : (μ ++ [Cell.obj "Limits" (LF c0 s0 e0 l0 .non .non)])[μ.length]? = some (.obj "Limits" (LF c0 s0 e0 l0 .non .non)) := List.getElem?_concat_length ..
    refine (cFld_at g0 (show (6 : Nat) < 1000 by decide)).mpr ?_
    have g1 := cell_set (d := .obj "Limits" (LF c0 s0 e1 l0 .non .non)) g0
    refine (cFld_at g1 (show (6 : Nat) < 1000 by decide)).mpr ?_
    rw [set_set]
    have g2 := cell_set (d := .obj "Limits" (LF c0 s0 e1 l1 .non .non)) g0
    refine (cFld_at g2 (show (6 : Nat) < 1000 by decide)).mpr ?_
    rw [set_set]
    have g3 := cell_set (d := .obj "Limits" (LF c' s0 e1 l1 .non .non)) g0
    refine (cFld_at g3 (show (6 : Nat) < 1000 by decide)).mpr ?_
    rw [set_set]
    refine ⟨rfl, ?_⟩
    rw [List.set_append_right _ _ (Nat.le_refl _), Nat.sub_self]
    rfl
/-! ### two sets told alike -/
theorem early_below_ok {μ : List Cell} {k e l c s m : Nat} (h : Lim μ k e l c s) (hm : l ≤ m) (h2 : m ≤ 2000) : ∃ E, F__early_below [.h k, .int m] μ = some (.v (.int (E : Nat)), μ) ∧ E < 2 ^ m ∧ ∀ n, n < m → E.testBit n = mem e l c s n := by
  obtain ⟨o, _, hx, fw, rs, rfl, _⟩ := h
  have ol := o.hl
  have os := o.hs
  by_cases hlm : l = m
  · subst hlm
    refine ⟨e, ?_, o.el, fun n hn => ?_⟩
    · refine to_eq ?_
      unfold F__early_below g__early_below
      walk_at "dl"
      rw [w1_low hx]
      walk_at "dl"
      rw [w1_early hx]
    · unfold mem
      rw [if_pos hn]
  · refine ⟨e ||| (fill c s m >>> l) <<< l, ?_, ?_, ?_⟩
    · refine to_eq ?_
      unfold F__early_below g__early_below
      walk_at "dl"
      rw [w1_low hx]
      walk_at "dl"
      rw [eq_nat, decide_eq_false hlm]
      walk_at "dl"
      rw [w1_early hx, w1_cycle hx, w1_span hx]
      refine (wf_at (filled_eq o.cl o.pos (by omega) (by omega))).mpr ?_
      rw [w1_low hx]
      walk_at "dl"
      rw [w1_low hx]
      walk_at "dl"
      rw [shr_nat, shl_nat, or_nat]
      exact ⟨by omega, room_shl (Nat.lt_of_le_of_lt (Nat.shiftRight_le ..) (fill_lt (c := c) (s := s) (n := m))) (by omega), rfl⟩
    · refine Nat.lt_pow_two_of_testBit _ fun i hi => ?_
      rw [Nat.testBit_or, tb_lt o.el (by omega), Nat.testBit_shiftLeft, Nat.testBit_shiftRight, tb_fill]
      have : decide (l + (i - l) < m) = false := decide_eq_false (by omega)
      rw [this]
      simp
    · intro n hn
      unfold mem
      rw [Nat.testBit_or, Nat.testBit_shiftLeft, Nat.testBit_shiftRight, tb_fill]
      by_cases hl : n < l
      · rw [if_pos hl, decide_eq_false (by omega : ¬ n ≥ l)]
        simp
      · rw [if_neg hl, tb_lt o.el (by omega), decide_eq_true (by omega : n ≥ l), show l + (n - l) = n by omega, decide_eq_true hn]
        simp
theorem w2_lcm {i j : Nat} {μ : List Cell} {V : D → Prop} (hi : i ≤ 4000) (hj : j ≤ 4000) : (∃ z, gLcm (i : Int) (j : Int) = some z ∧ V z) ↔ V (nI (Nat.lcm i j)) := by
  unfold gLcm
  rw [Int.natAbs_natCast, Int.natAbs_natCast, if_pos ⟨hi, hj⟩]
  exact ⟨fun ⟨z, e, p⟩ => by cases e; exact p, fun p => ⟨_, rfl, p⟩⟩
theorem is_lim {μ : List Cell} {y : D} (h : isO "Limits" y μ = true) : dIsC "Limits" tabP y (.cls "Limits") μ = some (.bl true) := by
  unfold dIsC
  simp only
  rw [if_pos trivial, h]
  rfl
theorem fill_mem {e l c s E m p n : Nat} (h1 : ∀ n, n < m → E.testBit n = mem e l c s n) (h2 : l ≤ m) (h3 : s ∣ p) (hp : 0 < p) : mem E m (fill c s p) p n = mem e l c s n := by
  unfold mem
  by_cases hn : n < m
  · rw [if_pos hn, h1 n hn]
    rfl
  · rw [if_neg hn, if_neg (by omega : ¬ n < l), tb_fill, decide_eq_true (Nat.mod_lt n hp), Nat.mod_mod_of_dvd n h3]
    rfl
/-- two sets, with bits of one size -/
structure Pair (E1 C1 E2 C2 m p : Nat) (f g : Nat → Bool) : Prop where
  e1 : E1 < 2 ^ m
  e2 : E2 < 2 ^ m
  c1 : C1 < 2 ^ p
  c2 : C2 < 2 ^ p
  low : m ≤ 2000
  pos : 0 < p
  dvd : p ∣ 60
  m1 : ∀ n, mem E1 m C1 p n = f n
  m2 : ∀ n, mem E2 m C2 p n = g n
theorem aligned_ok {μ : List Cell} {i j : Nat} {f g : Nat → Bool} (h1 : Is μ i f) (h2 : Is μ j g) :
    ∃ E1 C1 E2 C2 m p : Nat, Pair E1 C1 E2 C2 m p f g ∧ F__aligned [.h i, .h j] μ = some (.v (.tup [.int (E1 : Nat), .int (C1 : Nat), .int (E2 : Nat), .int (C2 : Nat), .int (m : Nat), .int (p : Nat)]), μ) := by
  obtain ⟨e, l, c, s, L1, hl, hs, rfl⟩ := h1
  obtain ⟨e', l', c', s', L2, hl', hs', rfl⟩ := h2
  have io := L2.isO
  obtain ⟨o, _, hx, fw, rs, rfl, _⟩ := id L1
  obtain ⟨o', _, hx', fw', rs', rfl, _⟩ := id L2
  have hp60 : Nat.lcm s s' ∣ 60 := Nat.lcm_dvd hs hs'
  have hp0 : 0 < Nat.lcm s s' := Nat.pos_of_dvd_of_pos hp60 (by decide)
  have hp : Nat.lcm s s' ≤ 60 := Nat.le_of_dvd (by decide) hp60
  have b1 := o.hs
  have b2 := o'.hs
  generalize hm : max l l' = m
  have hm1 : l ≤ m := by omega
  have hm2 : l' ≤ m := by omega
  have hm9 : m ≤ 2000 := by omega
  obtain ⟨E1, ee1, x1, y1⟩ := early_below_ok L1 hm1 (by omega)
  obtain ⟨E2, ee2, x2, y2⟩ := early_below_ok L2 hm2 (by omega)
  refine ⟨E1, fill c s (Nat.lcm s s'), E2, fill c' s' (Nat.lcm s s'), m, Nat.lcm s s', ⟨x1, x2, fill_lt, fill_lt, hm9, hp0, hp60, fun n => fill_mem y1 hm1 (Nat.dvd_lcm_left ..) hp0, fun n => fill_mem y2 hm2 (Nat.dvd_lcm_right ..) hp0⟩, ?_⟩
  refine to_eq ?_
  unfold F__aligned g__aligned
  walk_at "dl"
  rw [w2_of (is_lim io)]
  walk_at "dl"
  rw [w1_span hx, w1_span hx']
  walk_at "dl"
  rw [w2_lcm (μ := μ) (by omega) (by omega)]
  have e2000 : decide ((2000 : Int) < ((Nat.lcm s s' : Nat) : Int)) = false := decide_eq_false (by omega)
  have em : (if (l' : Int) > (l : Int) then (l' : Int) else (l : Int)) = (m : Int) := by
    by_cases q : (l' : Int) > (l : Int)
    · rw [if_pos q]; omega
    · rw [if_neg q]; omega
  walk_at "dl"
  rw [e2000]
  walk_at "dl"
  rw [w1_low hx, w1_low hx']
  walk_at "dl"
  rw [em]
  refine (wf_at ee1).mpr ?_
  rw [w1_cycle hx, w1_span hx]
  refine (wf_at (filled_eq o.cl o.pos (by omega) (by omega))).mpr ?_
  refine (wf_at ee2).mpr ?_
  rw [w1_cycle hx', w1_span hx']
  refine (wf_at (filled_eq o'.cl o'.pos (by omega) (by omega))).mpr ?_
  walk_at "dl"
  decide
theorem pair_bits {E1 C1 E2 C2 m p : Nat} {f g : Nat → Bool} (h : Pair E1 C1 E2 C2 m p f g) {N : Nat → Nat → Nat} {B : Bool → Bool → Bool} (hN : ∀ a b i, (N a b).testBit i = B (a.testBit i) (b.testBit i)) (h0 : B false false = false) :
    N E1 E2 < 2 ^ m ∧ N C1 C2 < 2 ^ p ∧ ∀ n, mem (N E1 E2) m (N C1 C2) p n = B (f n) (g n) := by
  refine ⟨Nat.lt_pow_two_of_testBit _ fun i hi => ?_, Nat.lt_pow_two_of_testBit _ fun i hi => ?_, fun n => ?_⟩
  · rw [hN, tb_lt h.e1 hi, tb_lt h.e2 hi, h0]
  · rw [hN, tb_lt h.c1 hi, tb_lt h.c2 hi, h0]
  · rw [← h.m1, ← h.m2]
    unfold mem
    by_cases hn : n < m
    · rw [if_pos hn, if_pos hn, if_pos hn, hN]
    · rw [if_neg hn, if_neg hn, if_neg hn, hN]
theorem made_is {e l c s : Nat} {μ : List Cell} {f : Nat → Bool} (he : e < 2 ^ l) (hc : c < 2 ^ s) (hl : l ≤ 2000) (hs0 : 0 < s) (hs : s ∣ 60) (hm : ∀ n, mem e l c s n = f n) :
    ∃ μ', F__made [.int (e : Nat), .int (l : Nat), .int (c : Nat), .int (s : Nat)] μ = some (.v (.h μ.length), μ') ∧ Keep μ μ' ∧ Is μ' μ.length f := by
  have h60 : s ≤ 60 := Nat.le_of_dvd (by decide) hs
  obtain ⟨e', l', c', s', o, hl', hs', hm', em⟩ := made_ok (μ := μ) he hc (by omega) hs0 (by omega)
  exact ⟨_, em, Keep.app, e', l', c', s', lim_new o, by omega, Nat.dvd_trans hs' hs, funext fun n => by rw [hm', hm]⟩
theorem and_ok {μ : List Cell} {i j : Nat} {f g : Nat → Bool} (h1 : Is μ i f) (h2 : Is μ j g) : ∃ μ', F_Limits_and [.h i, .h j] μ = some (.v (.h μ.length), μ') ∧ Keep μ μ' ∧ Is μ' μ.length (fun n => (fun x y => x && y) (f n) (g n)) := by
  obtain ⟨E1, C1, E2, C2, m, p, P, ea⟩ := aligned_ok h1 h2
  obtain ⟨b1, b2, b3⟩ := pair_bits P (N := fun a b => a &&& b) (B := fun x y => x && y) (fun a b i => Nat.testBit_and ..) rfl
  obtain ⟨μ', em, hk, hI⟩ := made_is (μ := μ) b1 b2 P.low P.pos P.dvd b3
  refine ⟨μ', to_at ?_, hk, hI⟩
  unfold F_Limits_and g_Limits_and
  walk_at "dl"
  rw [wf_at ea]
  walk_at "dl"
  rw [and_nat, and_nat, wf_at em]
  exact ⟨rfl, rfl⟩
theorem contains_ok {μ : List Cell} {i n : Nat} {f : Nat → Bool} (h : Is μ i f) (hn : n ≤ 100000) : F_Limits_contains [.h i, .int (n : Nat)] μ = some (.v (.bl (f n)), μ) := by
  obtain ⟨e, l, c, s, ⟨o, _, hx, fw, rs, rfl, _⟩, hl, hs, rfl⟩ := h
  have b1 := o.pos
  refine to_eq ?_
  unfold F_Limits_contains g_Limits_contains
  walk_at "dl"
  rw [wf_at (from_ok (by omega))]
  walk_at "dl"
  rw [w1_low hx]
  walk_at "dl"
  rw [lt_nat]
  have tb : ∀ a i : Nat, decide (Builtin.bitAnd ((a >>> i : Nat) : Int) 1 = 1) = a.testBit i := fun a i => by
    have q : ((1 : Nat) : Int) = 1 := rfl
    rw [← q, and_nat, eq_nat, Nat.and_one_is_mod, Nat.testBit_eq_decide_div_mod_eq, Nat.shiftRight_eq_div_pow]
  unfold mem
  by_cases hnl : n < l
  · rw [decide_eq_true hnl, if_pos hnl]
    walk_at "dl"
    rw [w1_early hx]
    walk_at "dl"
    rw [shr_nat, tb]
    exact ⟨by omega, rfl⟩
  · rw [decide_eq_false hnl, if_neg hnl]
    walk_at "dl"
    rw [w1_cycle hx, w1_span hx]
    walk_at "dl"
    rw [fmod_nat, shr_nat, tb]
    exact ⟨by omega, by omega, rfl⟩
theorem eq_ok {μ : List Cell} {i j : Nat} {f g : Nat → Bool} (h1 : Is μ i f) (h2 : Is μ j g) : ∃ b : Bool, F_Limits_eq [.h i, .h j] μ = some (.v (.bl b), μ) ∧ (b = true ↔ f = g) := by
  obtain ⟨e, l, c, s, L1, hl, hs, rfl⟩ := h1
  obtain ⟨e', l', c', s', L2, hl', hs', rfl⟩ := h2
  have io := L2.isO
  obtain ⟨o, _, hx, fw, rs, rfl, _⟩ := id L1
  obtain ⟨o', _, hx', fw', rs', rfl, _⟩ := id L2
  have hq : mem e l c s = mem e' l' c' s' ↔ e = e' ∧ l = l' ∧ c = c' ∧ s = s' := ⟨fun h => o.toCan.uniq o'.toCan fun n => congrFun h n, fun ⟨a, b, c, d⟩ => by rw [a, b, c, d]⟩
  refine ⟨decide (l = l') && (decide (s = s') && (decide (e = e') && decide (c = c'))), to_eq ?_, by rw [hq]; simp only [Bool.and_eq_true, decide_eq_true_eq]; exact ⟨fun ⟨a, b, c, d⟩ => ⟨c, a, d, b⟩, fun ⟨a, b, c, d⟩ => ⟨b, d, a, c⟩⟩⟩
  unfold F_Limits_eq g_Limits_eq
  walk_at "dl"
  rw [w2_of (is_lim io)]
  walk_at "dl"
  rw [w1_low hx, w1_low hx']
  walk_at "dl"
  rw [eq_nat]
  cases decide (l = l') with
  | false => rfl
  | true =>
    walk_at "dl"
    rw [w1_span hx, w1_span hx']
    walk_at "dl"
    rw [eq_nat]
    cases decide (s = s') with
    | false => rfl
    | true =>
      walk_at "dl"
      rw [w1_early hx, w1_early hx']
      walk_at "dl"
      rw [eq_nat]
      cases decide (e = e') with
      | false => rfl
      | true =>
        walk_at "dl"
        rw [w1_cycle hx, w1_cycle hx']
        walk_at "dl"
        rw [eq_nat]
        simp
theorem wx_loc {i : Nat} {x : Str} {F : FnF} {fs : EvA} {ρ : List (Option D)} {μ : List Cell} {Y : Ov → List Cell → Prop} (h : ρ[i]? = some (some (.cls x))) : WEX (fLocNew i x F fs) ⟨ρ, μ⟩ Y ↔ WA fs ⟨ρ, μ⟩ fun ds μ1 => WFX (mkF x F) ds μ1 Y := by
  rw [← wx_R]
  unfold WEX fLocNew
  simp only [h, if_true]
theorem new_is {fs rs : List Nat} {f p : Nat} {μ : List Cell} (h : Parts fs rs f p) : ∃ μ', mkF "Limits" (only 5 F_Limits_init) [.tup (fs.map nI), nI f, nI p, .tup (rs.map nI)] μ = some (.v (.h μ.length), μ') ∧ Keep μ μ' ∧ Is μ' μ.length (told fs rs f p) := by
  obtain ⟨e, l, c, s, o, hl, hs, hm, ef⟩ := new_ok (μ := μ) h.f1 h.f2 h.r1 h.r2 (by have := h.f3; omega) h.p1 (by have := h.p2; omega) h.l1 h.l2
  exact ⟨_, ef, Keep.app, e, l, c, s, lim_new o, by have := h.f3; omega, Nat.dvd_trans hs h.p3, funext hm⟩
theorem parts_every : Parts [] [0] 0 1 := ⟨.nil, (fun n h => by cases h), by simp, by simp, by decide, by decide, by decide, ⟨60, rfl⟩, by decide, by decide⟩
theorem parts_none : Parts [] [] 0 1 := ⟨.nil, (fun n h => by cases h), .nil, (fun n h => by cases h), by decide, by decide, by decide, ⟨60, rfl⟩, by decide, by decide⟩
end G
namespace DL
open PySem L2
variable {ρ : List (Option D)} {μ : List Cell} {P : D → List Cell → Prop}
theorem we_BM {G : GX} {fa fb : EvE} : WE (fBM G fa fb) ⟨ρ, μ⟩ P ↔ WE fa ⟨ρ, μ⟩ fun a μ1 => WE fb ⟨ρ, μ1⟩ fun b μ2 => ∃ z, G a b μ2 = some z ∧ P z.1 z.2 := by
  constructor
  · rintro ⟨d, μ', e, p⟩
    unfold fBM at e
    obtain ⟨⟨a, μ1⟩, ea, e⟩ := Option.bind_eq_some_iff.mp e
    obtain ⟨⟨b, μ2⟩, eb, e⟩ := Option.bind_eq_some_iff.mp e
    exact ⟨a, μ1, ea, b, μ2, eb, _, e, p⟩
  · rintro ⟨a, μ1, ea, b, μ2, eb, z, e, p⟩
    exact ⟨z.1, z.2, by unfold fBM; rw [ea, Option.bind_some]; show ((fb ⟨ρ, μ1⟩).bind _) = _; rw [eb, Option.bind_some]; exact e, p⟩
theorem we_BM_at {G : GX} {fa fb : EvE} {x y z : D} {μ1 μ2 μ3 : List Cell} (ha : fa ⟨ρ, μ⟩ = some (x, μ1)) (hb : fb ⟨ρ, μ1⟩ = some (y, μ2)) (hg : G x y μ2 = some (z, μ3)) : WE (fBM G fa fb) ⟨ρ, μ⟩ P ↔ P z μ3 := by
  have e : fBM G fa fb ⟨ρ, μ⟩ = some (z, μ3) := by
    unfold fBM; rw [ha, Option.bind_some]; show ((fb ⟨ρ, μ1⟩).bind _) = _; rw [hb, Option.bind_some]; exact hg
  unfold WE
  rw [e]
  exact ⟨fun ⟨d, μ', h, p⟩ => by cases h; exact p, fun p => ⟨_, _, rfl, p⟩⟩
end DL
namespace G
open PySem L2 DL PySem.DLQ LM
local macro_rules | `(tactic| walk_at "dl") => `(tactic| simp only [wf_fn, ws_seq, ws_then, ws_drop, ws_nx, ws_bk, ws_ct, ws_ret, ws_if, ws_for, ws_par, wb_name, wb_sub, wb_tup, wb_seq, wb_fld, wbs_nil, wbs_cons, cSet_iff, we_V, we_C, we_B, we_U, we_App, we_newC, we_call, we_AndV, we_OrV, we_IfE, we_Ch, we_Lc, we_Sl, we_Apn, we_Pop, we_ListC, we_find3, we_meth, we_prop, we_ext, ws_fldD, wa_nil, wa_cons, wa_len, wa_star, wo_no, wo_part, isI_i, DL.sl_tup, DL.sl_lst,
  wl_1, wl_2, wl_lst, wl_tup, wt_Tru, wt_Not, wt_And, wt_Or, wt_true, wi_seq, wi_rng1, wi_rng2, wi_zip, wi_enumS, Nx_nx, Nx_rt, Nx_bk, Nx_ct, Nx_ex, Fe_rt, Fe_nx, Tn_nx, Tn_ct, Tn_bk, Tn_rt, Tn_ex,
  w2_addAI, w2_addAS, w2_addAT, w2_addAL, w2_addAH, w2_mulAI, w2_mulAT, w2_mulAL, w2_ltAI, w2_eqWI, w2_neWI, w2_neWN, w2_neWB, w2_eqWS, w2_neWS, w1_listT, w1_tupL, w1_lenH, w1_rev, w2_II, gSub_iff, gMod_iff, gFdiv_iff, gPow_iff, gShl_iff, gShr_iff, gAnd_iff, gOr_iff, gXor_iff, w1_inv, w1_bits, w2_divmod, w1_bin, w1_revS, w2_count, w2_find, w1_neg, w2_ordI, w2_ordS, w2_isW, w2_isNot, w2_ixL, w2_ixR, w2_ixT, w2_ixS, w2_ixH, w1_abs, w1_intI, w1_intB, w2_max, w2_min, w1_str, w1_lenS, w1_lenL, w1_lenR, w1_lenT, w1_type, w1_all, w1_not, w1_S0, w2_join, wtr_bl, asQ_t, asQ_l,
  List.map_cons, List.map_nil, List.cons_append, List.nil_append, List.replicate_succ, List.replicate_zero, List.getElem?_cons_zero, List.getElem?_cons_succ, List.set_cons_zero, List.set_cons_succ, List.length_cons, List.length_nil, Option.some.injEq, exists_eq_left', exists_eq_left, D.int.injEq, and_true, true_and, Nat.reduceAdd, Nat.reduceSub, Nat.reduceLT, Nat.lt_add_left_iff_pos, Nat.zero_lt_succ, List.length_replicate, List.length_append, List.length_map, List.cons.injEq, List.length_set, gSeq, decide_true, if_true, D.bl.injEq, Bool.not_true, Bool.not_false, Bool.false_eq_true, if_false, reduceCtorEq, false_and, or_false, false_or])
/-! ### since and only, told by the least -/
def sinceF (m n : Nat) : Bool := decide (m ≤ n)
def onlyF (vs : List Nat) (n : Nat) : Bool := decide (n ∈ vs)
def endOf (vs : List Nat) : Nat := match vs.getLast? with
  | some v => v + 1
  | none => 0
theorem lt_end {vs : List Nat} (h : vs.Pairwise (· < ·)) {n : Nat} (hn : n ∈ vs) : n < endOf vs := by
  unfold endOf
  cases e : vs.getLast? with
  | none => rw [List.getLast?_eq_none_iff.mp e] at hn; cases hn
  | some v =>
    obtain ⟨xs, rfl⟩ := List.getLast?_eq_some_iff.mp e
    show n < v + 1
    rcases List.mem_append.mp hn with q | q
    · have := (List.pairwise_append.mp h).2.2 n q v (List.mem_singleton.mpr rfl)
      omega
    · rw [List.mem_singleton.mp q]
      omega
theorem end_le {vs : List Nat} {m : Nat} (h : ∀ n ∈ vs, n < m) : endOf vs ≤ m := by
  unfold endOf
  cases e : vs.getLast? with
  | none => exact Nat.zero_le _
  | some v =>
    obtain ⟨xs, rfl⟩ := List.getLast?_eq_some_iff.mp e
    exact h v (List.mem_append.mpr (.inr (List.mem_singleton.mpr rfl)))
theorem mem_since (m n : Nat) : mem 0 m 1 1 n = sinceF m n := by
  unfold mem sinceF
  by_cases h : n < m
  · rw [if_pos h, Nat.zero_testBit, decide_eq_false (by omega)]
  · rw [if_neg h, decide_eq_true (by omega), Nat.mod_one]
    rfl
theorem mem_only {vs : List Nat} (h : vs.Pairwise (· < ·)) (n : Nat) : mem (bitsOf vs) (endOf vs) 0 1 n = onlyF vs n := by
  unfold mem onlyF
  by_cases q : n < endOf vs
  · rw [if_pos q, tb_bitsOf (nd_of h)]
  · rw [if_neg q, Nat.zero_testBit, decide_eq_false fun hn => q (lt_end h hn)]
theorem ok_since {m : Nat} (h : m ≤ 2000) : Ok 0 m 1 1 := by
  refine ⟨⟨by decide, by decide, Nat.two_pow_pos m, fun d _ _ => Nat.one_dvd d, ?_⟩, by decide, h⟩
  by_cases q : m = 0
  · exact .inl q
  · refine .inr ?_
    rw [Nat.zero_testBit, Nat.mod_one]
    decide
theorem ok_only {vs : List Nat} (h : vs.Pairwise (· < ·)) (h2 : ∀ n ∈ vs, n < 2000) : Ok (bitsOf vs) (endOf vs) 0 1 := by
  refine ⟨⟨by decide, by decide, bitsOf_lt (nd_of h) fun n hn => lt_end h hn, fun d _ _ => Nat.one_dvd d, ?_⟩, by decide, end_le h2⟩
  unfold endOf
  cases e : vs.getLast? with
  | none => exact .inl rfl
  | some v =>
    refine .inr ?_
    show (bitsOf vs).testBit (v + 1 - 1) ≠ _
    rw [Nat.zero_testBit, Nat.add_sub_cancel, tb_bitsOf (nd_of h), decide_eq_true (List.mem_of_getLast? e)]
    decide
theorem none_end : Ok 0 0 0 1 := ok_only (vs := []) .nil fun n h => by cases h
theorem sorted_ext : ∀ {l1 l2 : List Nat}, l1.Pairwise (· < ·) → l2.Pairwise (· < ·) → (∀ k, k ∈ l1 ↔ k ∈ l2) → l1 = l2
  | [], [], _, _, _ => rfl
  | [], b :: r, _, _, h => absurd ((h b).mpr List.mem_cons_self) (by simp)
  | a :: r, [], _, _, h => absurd ((h a).mp List.mem_cons_self) (by simp)
  | a :: r1, b :: r2, h1, h2, h => by
    have g1 := List.pairwise_cons.mp h1
    have g2 := List.pairwise_cons.mp h2
    have e : a = b := by
      rcases List.mem_cons.mp ((h a).mp List.mem_cons_self) with e | m
      · exact e
      · rcases List.mem_cons.mp ((h b).mpr List.mem_cons_self) with e | m'
        · exact e.symm
        · have := g2.1 a m
          have := g1.1 b m'
          omega
    subst e
    congr 1
    refine sorted_ext g1.2 g2.2 fun k => ⟨fun m => ?_, fun m => ?_⟩
    · rcases List.mem_cons.mp ((h k).mp (List.mem_cons_of_mem _ m)) with e | m'
      · have := g1.1 k m; omega
      · exact m'
    · rcases List.mem_cons.mp ((h k).mpr (List.mem_cons_of_mem _ m)) with e | m'
      · have := g2.1 k m; omega
      · exact m'
theorem ones_bits {vs : List Nat} (h : vs.Pairwise (· < ·)) : ones (bitsOf vs) = vs := sorted_ext (pw_ones _) h fun k => by rw [mem_ones, tb_bitsOf (nd_of h), decide_eq_true_eq]
/-- a new set, told by its least parts -/
theorem lim_of {fs rs : List Nat} {f p e l c s : Nat} {μ : List Cell} (h1 : fs.Pairwise (· < ·)) (h2 : ∀ n ∈ fs, n < f) (h3 : rs.Pairwise (· < ·)) (h4 : ∀ n ∈ rs, n < p) (hf : f ≤ 2000) (hp : 0 < p) (hp2 : p ≤ 2000) (hfl : fs.length < 16) (hrl : rs.length < 16) (o : Ok e l c s) (hm : ∀ n, told fs rs f p n = mem e l c s n) :
    ∃ μ', mkF "Limits" (only 5 F_Limits_init) [.tup (fs.map nI), nI f, nI p, .tup (rs.map nI)] μ = some (.v (.h μ.length), μ') ∧ Keep μ μ' ∧ Lim μ' μ.length e l c s := by
  obtain ⟨e', l', c', s', o', _, _, hm', ef⟩ := new_ok (μ := μ) h1 h2 h3 h4 hf hp hp2 hfl hrl
  obtain ⟨rfl, rfl, rfl, rfl⟩ := o'.toCan.uniq o.toCan fun n => (hm' n).trans (hm n)
  exact ⟨_, ef, Keep.app, lim_new o⟩
theorem since_lim {m : Nat} (h : m ≤ 2000) (μ : List Cell) : ∃ μ', mkF "Limits" (only 5 F_Limits_init) [.tup [], nI m, .int 1, .tup [.int 0]] μ = some (.v (.h μ.length), μ') ∧ Keep μ μ' ∧ Lim μ' μ.length 0 m 1 1 :=
  lim_of (fs := []) (rs := [0]) (p := 1) .nil (fun n h => by cases h) (by simp) (by simp) h (by decide) (by decide) (by decide) (by decide) (ok_since h) fun n => by
    rw [mem_since]
    unfold told sinceF
    by_cases q : n < m
    · rw [if_pos q, decide_eq_false (by omega : ¬ m ≤ n)]
      rfl
    · rw [if_neg q, decide_eq_true (by omega : m ≤ n), Nat.mod_one]
      rfl
theorem only_lim {vs : List Nat} (h : vs.Pairwise (· < ·)) (h2 : ∀ n ∈ vs, n < 2000) (hl : vs.length < 16) {f : Nat} (hf : f ≤ 2000) (h3 : ∀ n ∈ vs, n < f) (μ : List Cell) : ∃ μ', mkF "Limits" (only 5 F_Limits_init) [.tup (vs.map nI), nI f, .int 1, .tup []] μ = some (.v (.h μ.length), μ') ∧ Keep μ μ' ∧ Lim μ' μ.length (bitsOf vs) (endOf vs) 0 1 :=
  lim_of (fs := vs) (rs := []) (p := 1) h h3 .nil (fun n h => by cases h) hf (by decide) (by decide) hl (by decide) (ok_only h h2) fun n => by
    rw [mem_only h]
    unfold told onlyF
    by_cases q : n < f
    · rw [if_pos q]
    · rw [if_neg q, decide_eq_false fun hn => q (h3 n hn)]
      rfl
abbrev oneE (F : FnF) := clsF "Limits" F
theorem every_new (μ : List Cell) : ∃ μ', clsF "Limits" (only 1 F_Limits_every) [] μ = some (.v (.h μ.length), μ') ∧ Keep μ μ' ∧ Lim μ' μ.length 0 0 1 1 := by
  obtain ⟨μ', ef, k, i⟩ := since_lim (m := 0) (by decide) μ
  have q : WF (only 1 F_Limits_every) [.cls "Limits"] μ fun d μ'' => d = .h μ.length ∧ μ'' = μ' := by
    refine (wf_only (n := 1) rfl).mpr ?_
    unfold F_Limits_every g_Limits_every
    walk_at "dl"
    rw [ws_retX, wx_loc rfl]
    walk_at "dl"
    exact ⟨by decide, by decide, _, _, ef, rfl, rfl⟩
  have z := to_at q
  refine ⟨μ', ?_, k, i⟩
  rw [show ∀ F, clsF "Limits" F [] μ = F [.cls "Limits"] μ from fun F => rfl]
  exact z
theorem none_new (μ : List Cell) : ∃ μ', clsF "Limits" (only 1 F_Limits_none) [] μ = some (.v (.h μ.length), μ') ∧ Keep μ μ' ∧ Lim μ' μ.length 0 0 0 1 := by
  obtain ⟨μ', ef, k, i⟩ := only_lim (vs := []) .nil (fun n h => by cases h) (by decide) (f := 0) (by decide) (fun n h => by cases h) μ
  have q : WF (only 1 F_Limits_none) [.cls "Limits"] μ fun d μ'' => d = .h μ.length ∧ μ'' = μ' := by
    refine (wf_only (n := 1) rfl).mpr ?_
    unfold F_Limits_none g_Limits_none
    walk_at "dl"
    rw [ws_retX, wx_loc rfl]
    walk_at "dl"
    exact ⟨by decide, by decide, _, _, ef, rfl, rfl⟩
  have z := to_at q
  refine ⟨μ', ?_, k, i⟩
  rw [show ∀ F, clsF "Limits" F [] μ = F [.cls "Limits"] μ from fun F => rfl]
  exact z
theorem since_new {m : Nat} (h : m ≤ 2000) (μ : List Cell) : ∃ μ', clsF "Limits" (only 2 F_Limits_since) [nI m] μ = some (.v (.h μ.length), μ') ∧ Keep μ μ' ∧ Lim μ' μ.length 0 m 1 1 := by
  obtain ⟨μ', ef, k, i⟩ := since_lim h μ
  have q : WF (only 2 F_Limits_since) [.cls "Limits", nI m] μ fun d μ'' => d = .h μ.length ∧ μ'' = μ' := by
    refine (wf_only (n := 2) rfl).mpr ?_
    unfold F_Limits_since g_Limits_since
    walk_at "dl"
    rw [wf_at (within_ok (Int.natCast_nonneg m) (by omega))]
    walk_at "dl"
    rw [ws_retX, wx_loc rfl]
    walk_at "dl"
    exact ⟨by decide, by decide, _, _, ef, rfl, rfl⟩
  have z := to_at q
  refine ⟨μ', ?_, k, i⟩
  rw [show ∀ F d, clsF "Limits" F [d] μ = F [.cls "Limits", d] μ from fun F d => rfl]
  exact z
theorem only_new {vs : List Nat} (h : vs.Pairwise (· < ·)) (h2 : ∀ n ∈ vs, n < 2000) (hl : vs.length < 16) (μ : List Cell) : ∃ μ', clsF "Limits" (only 2 F_Limits_only) [.tup (vs.map nI)] μ = some (.v (.h μ.length), μ') ∧ Keep μ μ' ∧ Lim μ' μ.length (bitsOf vs) (endOf vs) 0 1 := by
  obtain ⟨μ', ef, k, i⟩ := only_lim h h2 hl (f := 2000) (by decide) h2 μ
  have q : WF (only 2 F_Limits_only) [.cls "Limits", .tup (vs.map nI)] μ fun d μ'' => d = .h μ.length ∧ μ'' = μ' := by
    refine (wf_only (n := 2) rfl).mpr ?_
    unfold F_Limits_only g_Limits_only
    walk_at "dl"
    rw [ws_retX, wx_loc rfl]
    walk_at "dl"
    exact ⟨by decide, _, _, ef, rfl, rfl⟩
  have z := to_at q
  refine ⟨μ', ?_, k, i⟩
  rw [show ∀ F d, clsF "Limits" F [d] μ = F [.cls "Limits", d] μ from fun F d => rfl]
  exact z
theorem is_since {μ : List Cell} {k m : Nat} (h : Lim μ k 0 m 1 1) : Is μ k (sinceF m) := ⟨_, _, _, _, h, h.1.hl, ⟨60, rfl⟩, funext (mem_since m)⟩
theorem is_only {μ : List Cell} {k : Nat} {vs : List Nat} (h : Lim μ k (bitsOf vs) (endOf vs) 0 1) (hv : vs.Pairwise (· < ·)) : Is μ k (onlyF vs) := ⟨_, _, _, _, h, h.1.hl, ⟨60, rfl⟩, funext (mem_only hv)⟩
end G
namespace G
open PySem L2 DL PySem.DLQ LM
local macro_rules | `(tactic| walk_at "dl") => `(tactic| simp only [wf_fn, ws_seq, ws_then, ws_drop, ws_nx, ws_bk, ws_ct, ws_ret, ws_if, ws_for, ws_par, wb_name, wb_sub, wb_tup, wb_seq, wb_fld, wbs_nil, wbs_cons, cSet_iff, we_V, we_C, we_B, we_U, we_App, we_newC, we_call, we_AndV, we_OrV, we_IfE, we_Ch, we_Lc, we_Sl, we_Apn, we_Pop, we_ListC, we_find3, we_meth, we_prop, we_ext, ws_fldD, wa_nil, wa_cons, wa_len, wa_star, wo_no, wo_part, isI_i, DL.sl_tup, DL.sl_lst,
  wl_1, wl_2, wl_lst, wl_tup, wt_Tru, wt_Not, wt_And, wt_Or, wt_true, wi_seq, wi_rng1, wi_rng2, wi_zip, wi_enumS, Nx_nx, Nx_rt, Nx_bk, Nx_ct, Nx_ex, Fe_rt, Fe_nx, Tn_nx, Tn_ct, Tn_bk, Tn_rt, Tn_ex,
  w2_addAI, w2_addAS, w2_addAT, w2_addAL, w2_addAH, w2_mulAI, w2_mulAT, w2_mulAL, w2_ltAI, w2_eqWI, w2_neWI, w2_neWN, w2_neWB, w2_eqWS, w2_neWS, w1_listT, w1_tupL, w1_lenH, w1_rev, w2_II, gSub_iff, gMod_iff, gFdiv_iff, gPow_iff, gShl_iff, gShr_iff, gAnd_iff, gOr_iff, gXor_iff, w1_inv, w1_bits, w2_divmod, w1_bin, w1_revS, w2_count, w2_find, w1_neg, w2_ordI, w2_ordS, w2_isW, w2_isNot, w2_ixL, w2_ixR, w2_ixT, w2_ixS, w2_ixH, w1_abs, w1_intI, w1_intB, w2_max, w2_min, w1_str, w1_lenS, w1_lenL, w1_lenR, w1_lenT, w1_type, w1_all, w1_not, w1_S0, w2_join, wtr_bl, asQ_t, asQ_l,
  List.map_cons, List.map_nil, List.cons_append, List.nil_append, List.replicate_succ, List.replicate_zero, List.getElem?_cons_zero, List.getElem?_cons_succ, List.set_cons_zero, List.set_cons_succ, List.length_cons, List.length_nil, Option.some.injEq, exists_eq_left', exists_eq_left, D.int.injEq, and_true, true_and, Nat.reduceAdd, Nat.reduceSub, Nat.reduceLT, Nat.lt_add_left_iff_pos, Nat.zero_lt_succ, List.length_replicate, List.length_append, List.length_map, List.cons.injEq, List.length_set, gSeq, decide_true, if_true, D.bl.injEq, Bool.not_true, Bool.not_false, Bool.false_eq_true, if_false, reduceCtorEq, false_and, or_false, false_or])
/-! ### moved -/
def IsB (μ : List Cell) (k : Nat) (f : Nat → Bool) (B : Nat) : Prop := ∃ e l c s, Lim μ k e l c s ∧ l ≤ B ∧ s ∣ 60 ∧ mem e l c s = f
theorem IsB.keep {μ μ' : List Cell} {k B : Nat} {f : Nat → Bool} (h : IsB μ k f B) (q : Keep μ μ') : IsB μ' k f B := by
  obtain ⟨e, l, c, s, h, r⟩ := h
  exact ⟨e, l, c, s, h.keep q, r⟩
theorem IsB.is {μ : List Cell} {k B : Nat} {f : Nat → Bool} (h : IsB μ k f B) : Is μ k f := by
  obtain ⟨e, l, c, s, h, _, r⟩ := h
  exact ⟨e, l, c, s, h, h.1.hl, r⟩
theorem IsB.mono {μ : List Cell} {k B B' : Nat} {f : Nat → Bool} (h : IsB μ k f B) (q : B ≤ B') : IsB μ k f B' := by
  obtain ⟨e, l, c, s, h, a, r⟩ := h
  exact ⟨e, l, c, s, h, by omega, r⟩
def mvF (z : Int) (f : Nat → Bool) (n : Nat) : Bool := decide (z ≤ n) && f ((n : Int) - z).toNat
theorem mod_back {z d s : Nat} (hs : 0 < s) : ((z + d) % s + (s - z % s)) % s = d % s := by
  have h1 : z % s < s := Nat.mod_lt _ hs
  have h2 : d % s < s := Nat.mod_lt _ hs
  rw [Nat.add_mod z d s]
  generalize z % s = q at h1
  generalize d % s = r at h2
  by_cases h : q + r < s
  · rw [Nat.mod_eq_of_lt h, show q + r + (s - q) = r + s by omega, Nat.add_mod_right, Nat.mod_eq_of_lt h2]
  · have e : (q + r) % s = q + r - s := by rw [Nat.mod_eq_sub_mod (a := q + r) (by omega), Nat.mod_eq_of_lt (by omega)]
    rw [e, show q + r - s + (s - q) = r by omega, Nat.mod_eq_of_lt h2]
/-- the rests, turned by any number -/
theorem tb_turnZ {c s n : Nat} {z : Int} (hc : c < 2 ^ s) (hs : 0 < s) (hn : z ≤ n) : (turn c s (z.fmod s).toNat).testBit (n % s) = c.testBit (((n : Int) - z).toNat % s) := by
  rcases Int.le_total 0 z with q | q
  · obtain ⟨m, rfl⟩ := Int.eq_ofNat_of_zero_le q
    obtain ⟨d, rfl⟩ := Nat.exists_eq_add_of_le (by omega : m ≤ n)
    rw [fmod_nat, Int.toNat_natCast, tb_turn hc (Nat.mod_lt _ hs) (Nat.mod_lt _ hs), mod_back hs]
    congr 2
    omega
  · obtain ⟨m, hm⟩ := Int.eq_ofNat_of_zero_le (a := -z) (by omega)
    have e : z = -(m : Int) := by omega
    subst e
    have b := fmod_pos (a := -(m : Int)) (b := (s : Int)) (by omega)
    obtain ⟨k, ek⟩ := Int.eq_ofNat_of_zero_le b.1
    have ek : (-(m : Int)).fmod (s : Int) = (k : Int) := ek
    have hk : k < s := by omega
    rw [ek, Int.toNat_natCast, tb_turn hc hk (Nat.mod_lt _ hs)]
    have h1 : (-(m : Int)).fmod (s : Int) = (-(m : Int)) % (s : Int) := Int.fmod_eq_emod_of_nonneg _ (Int.natCast_nonneg s)
    rw [h1] at ek
    have h2 := Int.mul_ediv_add_emod (-(m : Int)) (s : Int)
    rw [ek] at h2
    have h3 : (s : Int) ∣ ((m + k : Nat) : Int) := ⟨-((-(m : Int)) / (s : Int)), by rw [Int.mul_neg]; omega⟩
    obtain ⟨j, ej⟩ := Int.natCast_dvd_natCast.mp h3
    congr 1
    rw [show ((n : Int) - -(m : Int)).toNat = n + m by omega]
    have h4 : (n % s + (s - k)) % s = (n + (s - k)) % s := by rw [Nat.mod_add_mod]
    rw [h4]
    have h5 : n + m + s = n + (s - k) + s * j := by omega
    rw [← Nat.add_mod_right (n + m) s, h5, Nat.add_mul_mod_self_left]
theorem moved_is {μ : List Cell} {k B : Nat} {z : Int} {f : Nat → Bool} (h : IsB μ k f B) (h1 : -2000 ≤ z) (h2 : z ≤ 2000) (h3 : (B : Int) + z ≤ 2000) :
    ∃ μ', F_Limits_moved [.h k, .int z] μ = some (.v (.h μ.length), μ') ∧ Keep μ μ' ∧ IsB μ' μ.length (mvF z f) ((B : Int) + z).toNat := by
  obtain ⟨e, l, c, s, L, hl, hs, rfl⟩ := h
  obtain ⟨o, _, hx, fw, rs, rfl, _⟩ := id L
  have b1 := o.hl
  have b2 := o.hs
  have b3 := o.pos
  generalize hE : (if 0 ≤ z then e <<< z.toNat else e >>> (-z).toNat) = E
  generalize hL : ((l : Int) + z).toNat = l'
  have tE : ∀ n, n < l' → E.testBit n = (decide (z ≤ n) && e.testBit ((n : Int) - z).toNat) := fun n hn => by
    rw [← hE]
    split
    · rw [Nat.testBit_shiftLeft]
      congr 1
      · exact decide_eq_decide.mpr (by omega)
      · congr 1; omega
    · rw [Nat.testBit_shiftRight, decide_eq_true (by omega : z ≤ n), Bool.true_and]
      congr 1; omega
  have hE2 : E < 2 ^ l' := Nat.lt_pow_two_of_testBit _ fun i hi => by
    rw [← hE]
    split
    · rw [Nat.testBit_shiftLeft, tb_lt o.el (by omega), Bool.and_false]
    · rw [Nat.testBit_shiftRight, tb_lt o.el (by omega)]
  obtain ⟨e', l2, c', s', o', hl', hs', hm', em⟩ := made_ok (e := E) (l := l') (c := turn c s (z.fmod s).toNat) (s := s) (μ := μ) hE2 turn_lt (by omega) b3 b2
  refine ⟨_, to_at ?_, Keep.app, e', l2, c', s', lim_new o', by omega, Nat.dvd_trans hs' hs, funext fun n => ?_⟩
  · unfold F_Limits_moved g_Limits_moved
    walk_at "dl"
    rw [wf_at (within_ok h1 h2)]
    walk_at "dl"
    rw [w1_low hx]
    walk_at "dl"
    rw [decide_eq_false (by omega : ¬ (2000 : Int) < (l : Int) + z)]
    have em2 : (if (l : Int) + z > 0 then (l : Int) + z else 0) = (l' : Int) := by
      split <;> omega
    rw [em2, if_neg Bool.false_ne_true]
    by_cases hz : 0 ≤ z
    · obtain ⟨m, rfl⟩ := Int.eq_ofNat_of_zero_le hz
      rw [if_pos hz] at hE
      rw [decide_eq_true hz, if_pos rfl, w1_early hx]
      walk_at "dl"
      rw [w1_cycle hx, w1_span hx, wf_at (turned_eq o.cl b3 (by omega)), w1_span hx]
      refine ⟨room_shl o.el (by omega), ?_⟩
      rw [shl_nat, show e <<< m = E from hE]
      exact (wf_at em).mpr ⟨rfl, rfl⟩
    · rw [if_neg hz] at hE
      obtain ⟨m, hm⟩ := Int.eq_ofNat_of_zero_le (a := -z) (by omega)
      rw [decide_eq_false hz, if_neg Bool.false_ne_true, w1_early hx]
      walk_at "dl"
      rw [w1_cycle hx, w1_span hx, wf_at (turned_eq o.cl b3 (by omega)), w1_span hx]
      refine ⟨by omega, ?_⟩
      rw [hm, shr_nat]
      rw [hm, Int.toNat_natCast] at hE
      rw [hE]
      exact (wf_at em).mpr ⟨rfl, rfl⟩
  · rw [hm']
    unfold mvF mem
    by_cases hn : n < l'
    · rw [if_pos hn, tE n hn]
      by_cases q : z ≤ n
      · rw [if_pos (by omega : ((n : Int) - z).toNat < l)]
      · rw [decide_eq_false q, Bool.false_and, Bool.false_and]
    · have q : z ≤ n := by omega
      rw [if_neg hn, tb_turnZ o.cl b3 q, decide_eq_true q, Bool.true_and, if_neg (by omega)]
theorem ws_raiseF {n fl : Str} {fa : EvE} {ρ : List (Option D)} {μ : List Cell} {U : Fl → Sg → Prop} : WS (sRaiseF n fl fa) ⟨ρ, μ⟩ U ↔ DL.WE fa ⟨ρ, μ⟩ fun d μ1 => U (.ex n (some (.exf n fl d))) ⟨ρ, μ1⟩ := by
  constructor
  · rintro ⟨f, S, e, p⟩
    unfold sRaiseF at e
    split at e
    · rename_i d μ1 ea
      obtain ⟨rfl, rfl⟩ := Prod.mk.inj (Option.some.inj e)
      exact ⟨d, μ1, ea, p⟩
    · cases e
  · rintro ⟨d, μ1, ea, p⟩
    exact ⟨_, _, by unfold sRaiseF; rw [ea], p⟩
/-- moved too far -/
theorem moved_far {μ : List Cell} {k e l c s : Nat} {z : Int} (L : Lim μ k e l c s) (h1 : -2000 ≤ z) (h2 : z ≤ 2000) (h3 : 2000 < (l : Int) + z) : F_Limits_moved [.h k, .int z] μ = some (.x "TooMany" (some (.exf "TooMany" "limit" (.int 2000))), μ) := by
  obtain ⟨o, _, hx, fw, rs, rfl, _⟩ := id L
  have q : WFX F_Limits_moved [.h k, .int z] μ fun o μ' => o = .x "TooMany" (some (.exf "TooMany" "limit" (.int 2000))) ∧ μ' = μ := by
    unfold F_Limits_moved g_Limits_moved
    rw [wfx_fn]
    walk_at "dl"
    rw [wf_at (within_ok h1 h2)]
    walk_at "dl"
    rw [w1_low hx]
    walk_at "dl"
    rw [decide_eq_true h3, if_pos rfl, ws_raiseF, we_C]
    exact ⟨rfl, rfl⟩
  obtain ⟨o, μ', e, rfl, rfl⟩ := q
  exact e
end G
namespace G
open PySem L2 DL PySem.DLQ LM
local macro_rules | `(tactic| walk_at "dl") => `(tactic| simp only [wf_fn, ws_seq, ws_then, ws_drop, ws_nx, ws_bk, ws_ct, ws_ret, ws_if, ws_for, ws_par, wb_name, wb_sub, wb_tup, wb_seq, wb_fld, wbs_nil, wbs_cons, cSet_iff, we_V, we_C, we_B, we_U, we_App, we_newC, we_call, we_AndV, we_OrV, we_IfE, we_Ch, we_Lc, we_Sl, we_Apn, we_Pop, we_ListC, we_find3, we_meth, we_prop, we_ext, ws_fldD, wa_nil, wa_cons, wa_len, wa_star, wo_no, wo_part, isI_i, DL.sl_tup, DL.sl_lst,
  wl_1, wl_2, wl_lst, wl_tup, wt_Tru, wt_Not, wt_And, wt_Or, wt_true, wi_seq, wi_rng1, wi_rng2, wi_zip, wi_enumS, Nx_nx, Nx_rt, Nx_bk, Nx_ct, Nx_ex, Fe_rt, Fe_nx, Tn_nx, Tn_ct, Tn_bk, Tn_rt, Tn_ex,
  w2_addAI, w2_addAS, w2_addAT, w2_addAL, w2_addAH, w2_mulAI, w2_mulAT, w2_mulAL, w2_ltAI, w2_eqWI, w2_neWI, w2_neWN, w2_neWB, w2_eqWS, w2_neWS, w1_listT, w1_tupL, w1_lenH, w1_rev, w2_II, gSub_iff, gMod_iff, gFdiv_iff, gPow_iff, gShl_iff, gShr_iff, gAnd_iff, gOr_iff, gXor_iff, w1_inv, w1_bits, w2_divmod, w1_bin, w1_revS, w2_count, w2_find, w1_neg, w2_ordI, w2_ordS, w2_isW, w2_isNot, w2_ixL, w2_ixR, w2_ixT, w2_ixS, w2_ixH, w1_abs, w1_intI, w1_intB, w2_max, w2_min, w1_str, w1_lenS, w1_lenL, w1_lenR, w1_lenT, w1_type, w1_all, w1_not, w1_S0, w2_join, wtr_bl, asQ_t, asQ_l,
  List.map_cons, List.map_nil, List.cons_append, List.nil_append, List.replicate_succ, List.replicate_zero, List.getElem?_cons_zero, List.getElem?_cons_succ, List.set_cons_zero, List.set_cons_succ, List.length_cons, List.length_nil, Option.some.injEq, exists_eq_left', exists_eq_left, D.int.injEq, and_true, true_and, Nat.reduceAdd, Nat.reduceSub, Nat.reduceLT, Nat.lt_add_left_iff_pos, Nat.zero_lt_succ, List.length_replicate, List.length_append, List.length_map, List.cons.injEq, List.length_set, gSeq, decide_true, if_true, D.bl.injEq, Bool.not_true, Bool.not_false, Bool.false_eq_true, if_false, reduceCtorEq, false_and, or_false, false_or])
/-! ### expressions of sets -/
structure Jn where
  p : List Cell → Prop
  st : ∀ {μ μ' : List Cell}, p μ → Keep μ μ' → p μ'
def OB (J : Jn) (ρ : List (Option D)) (fa : EvE) (f : Nat → Bool) : Prop := ∀ μ, J.p μ → ∃ k μ', fa ⟨ρ, μ⟩ = some (.h k, μ') ∧ Keep μ μ' ∧ Is μ' k f
def BO (J : Jn) (ρ : List (Option D)) (fa : EvE) (P : Prop) : Prop := ∀ μ, J.p μ → ∃ b μ', fa ⟨ρ, μ⟩ = some (.bl b, μ') ∧ Keep μ μ' ∧ (b = true ↔ P)
def TE (J : Jn) (ρ : List (Option D)) (t : EvT) (P : Prop) : Prop := ∀ μ, J.p μ → ∃ b μ', t ⟨ρ, μ⟩ = some (b, μ') ∧ Keep μ μ' ∧ (b = true ↔ P)
section
variable {J : Jn} {ρ : List (Option D)} {fa fb : EvE} {f g : Nat → Bool} {P Q : Prop} {t t' : EvT}
theorem ob_var {i k : Nat} (h : ρ[i]? = some (some (.h k))) (hi : ∀ μ, J.p μ → Is μ k f) : OB J ρ (fV i) f := fun μ j => ⟨k, μ, by unfold fV; simp only [h], Keep.refl, hi μ j⟩
theorem ob_bin {F : FnF} {B : Bool → Bool → Bool} (hF : ∀ {μ : List Cell} {i j : Nat} {f g : Nat → Bool}, Is μ i f → Is μ j g → ∃ μ', F [.h i, .h j] μ = some (.v (.h μ.length), μ') ∧ Keep μ μ' ∧ Is μ' μ.length (fun n => B (f n) (g n)))
    (ha : OB J ρ fa f) (hb : OB J ρ fb g) : OB J ρ (fBM (gBinO "Limits" (only 2 F)) fa fb) (fun n => B (f n) (g n)) := fun μ j => by
  obtain ⟨k1, μ1, e1, q1, i1⟩ := ha μ j
  obtain ⟨k2, μ2, e2, q2, i2⟩ := hb μ1 (J.st j q1)
  have i1' := i1.keep q2
  obtain ⟨μ3, e3, q3, i3⟩ := hF i1' i2
  refine ⟨_, μ3, ?_, q1.trans (q2.trans q3), i3⟩
  unfold fBM
  rw [e1, Option.bind_some]
  show ((fb ⟨ρ, μ1⟩).bind _) = _
  rw [e2, Option.bind_some]
  unfold gBinO only
  rw [i1'.isO, i2.isO]
  simp only [Bool.and_self, if_true]
  rw [if_pos (by rfl), e3]
  rfl
theorem ob_cls {F : FnF} (h : ∀ μ : List Cell, ∃ μ', clsF "Limits" F [] μ = some (.v (.h μ.length), μ') ∧ Keep μ μ' ∧ Is μ' μ.length f) : OB J ρ (fNox (fCallR (clsF "Limits" F) fNil)) f := fun μ j => by
  obtain ⟨μ1, e1, q1, i1⟩ := h μ
  refine ⟨_, μ1, ?_, q1, i1⟩
  unfold fNox fCallR fNil
  rw [Option.bind_some, e1]
theorem bo_own {op : Bool → Bool} (ha : OB J ρ fa f) (hb : OB J ρ fb g) : ∀ μ, J.p μ → ∃ b μ', fBM (gOwn2 "Limits" (only 2 F_Limits_eq) op) fa fb ⟨ρ, μ⟩ = some (.bl (op b), μ') ∧ Keep μ μ' ∧ (b = true ↔ f = g) := fun μ j => by
  obtain ⟨k1, μ1, e1, q1, i1⟩ := ha μ j
  obtain ⟨k2, μ2, e2, q2, i2⟩ := hb μ1 (J.st j q1)
  have i1' := i1.keep q2
  obtain ⟨b, e3, h3⟩ := eq_ok i1' i2
  refine ⟨b, μ2, ?_, q1.trans q2, h3⟩
  unfold fBM
  rw [e1, Option.bind_some]
  show ((fb ⟨ρ, μ1⟩).bind _) = _
  rw [e2, Option.bind_some]
  have z : isR2 "Limits" (.h k2) μ2 = true := i2.isO
  unfold gOwn2 only
  rw [i1'.isO, z]
  simp only [Bool.and_self, if_true]
  rw [if_pos (by rfl), e3]
theorem bo_eq (ha : OB J ρ fa f) (hb : OB J ρ fb g) : BO J ρ (fBM (gOwn2 "Limits" (only 2 F_Limits_eq) id) fa fb) (f = g) := fun μ j => bo_own ha hb μ j
theorem bo_ne (ha : OB J ρ fa f) (hb : OB J ρ fb g) : BO J ρ (fBM (gOwn2 "Limits" (only 2 F_Limits_eq) not) fa fb) (f ≠ g) := fun μ j => by
  obtain ⟨b, μ', e, q, h⟩ := bo_own (op := not) ha hb μ j
  exact ⟨!b, μ', e, q, by rw [Ne, ← h]; cases b <;> simp⟩
theorem bo_not (ha : BO J ρ fa P) : BO J ρ (fU dNot fa) (¬ P) := fun μ j => by
  obtain ⟨b, μ1, e1, q1, i1⟩ := ha μ j
  refine ⟨!b, μ1, ?_, q1, by rw [← i1]; cases b <;> simp⟩
  unfold fU
  rw [e1]
  rfl
theorem bo_and (ha : BO J ρ fa P) (hb : P → BO J ρ fb Q) : BO J ρ (fAndV fa fb) (P ∧ Q) := fun μ j => by
  obtain ⟨b, μ1, e1, q1, i1⟩ := ha μ j
  cases b with
  | false =>
    refine ⟨false, μ1, ?_, q1, ?_⟩
    · unfold fAndV
      rw [e1]
      rfl
    · rw [← i1]; simp
  | true =>
    have hP := i1.mp rfl
    obtain ⟨b, μ2, e2, q2, i2⟩ := hb hP μ1 (J.st j q1)
    refine ⟨b, μ2, ?_, q1.trans q2, by rw [i2]; exact ⟨fun h => ⟨hP, h⟩, fun h => h.2⟩⟩
    unfold fAndV
    rw [e1]
    exact e2
theorem bo_two {fn : D → D → List Cell → Option D} {op : Bool → Bool → Bool} (ho : ∀ a b μ, fn (.bl a) (.bl b) μ = some (.bl (op a b))) (ha : BO J ρ fa P) (hb : BO J ρ fb Q) {R : Prop} (hR : ∀ a b : Bool, (a = true ↔ P) → (b = true ↔ Q) → (op a b = true ↔ R)) : BO J ρ (fB fn fa fb) R := fun μ j => by
  obtain ⟨b, μ1, e1, q1, i1⟩ := ha μ j
  obtain ⟨b', μ2, e2, q2, i2⟩ := hb μ1 (J.st j q1)
  refine ⟨op b b', μ2, ?_, q1.trans q2, hR b b' i1 i2⟩
  unfold fB
  rw [e1]
  show (match fb ⟨ρ, μ1⟩ with | some (y, μ2) => _ | none => none) = _
  rw [e2]
  show (match fn (.bl b) (.bl b') μ2 with | some z => some (z, μ2) | none => none) = _
  rw [ho]
theorem bo_nes (ha : BO J ρ fa P) (hb : BO J ρ fb Q) : BO J ρ (fB dNeW fa fb) (¬ (P ↔ Q)) :=
  bo_two (op := fun a b => !decide (a = b)) (fun a b μ => by cases a <;> cases b <;> rfl) ha hb fun a b x y => by rw [← x, ← y]; cases a <;> cases b <;> simp
theorem bo_eqs (ha : BO J ρ fa P) (hb : BO J ρ fb Q) : BO J ρ (fB dEqW fa fb) (P ↔ Q) :=
  bo_two (op := fun a b => decide (a = b)) (fun a b μ => by cases a <;> cases b <;> rfl) ha hb fun a b x y => by rw [← x, ← y]; cases a <;> cases b <;> simp
theorem te_tru (ha : BO J ρ fa P) : TE J ρ (fTru fa) P := fun μ j => by
  obtain ⟨b, μ1, e1, q1, i1⟩ := ha μ j
  refine ⟨b, μ1, ?_, q1, i1⟩
  unfold fTru
  rw [e1]
  rfl
theorem te_not (ha : TE J ρ t P) : TE J ρ (fNot t) (¬ P) := fun μ j => by
  obtain ⟨b, μ1, e1, q1, i1⟩ := ha μ j
  refine ⟨!b, μ1, ?_, q1, by rw [← i1]; cases b <;> simp⟩
  unfold fNot
  rw [e1]
theorem te_or (ha : TE J ρ t P) (hb : TE J ρ t' Q) : TE J ρ (fOr t t') (P ∨ Q) := fun μ j => by
  obtain ⟨b, μ1, e1, q1, i1⟩ := ha μ j
  cases b with
  | true =>
    refine ⟨true, μ1, ?_, q1, ?_⟩
    · unfold fOr
      rw [e1]
    · exact ⟨fun _ => .inl (i1.mp rfl), fun _ => rfl⟩
  | false =>
    obtain ⟨b, μ2, e2, q2, i2⟩ := hb μ1 (J.st j q1)
    refine ⟨b, μ2, ?_, q1.trans q2, ?_⟩
    · unfold fOr
      rw [e1]
      exact e2
    · rw [i2]
      exact ⟨.inr, fun h => h.elim (fun h => by cases i1.mpr h) id⟩
theorem te_no {Z : Bool → List Cell → Prop} {μ : List Cell} (h : TE J ρ t P) (n : ¬ P) (j : J.p μ) (q : ∀ μ', Keep μ μ' → J.p μ' → Z false μ') : WT t ⟨ρ, μ⟩ Z := by
  obtain ⟨b, μ1, e1, q1, i1⟩ := h μ j
  have : b = false := by
    cases b with
    | false => rfl
    | true => exact absurd (i1.mp rfl) n
  subst this
  exact ⟨_, _, e1, q μ1 q1 (J.st j q1)⟩
theorem bo_yes {Z : D → List Cell → Prop} {μ : List Cell} (h : BO J ρ fa P) (n : P) (j : J.p μ) (q : ∀ μ', Keep μ μ' → J.p μ' → Z (.bl true) μ') : WE fa ⟨ρ, μ⟩ Z := by
  obtain ⟨b, μ1, e1, q1, i1⟩ := h μ j
  have : b = true := i1.mpr n
  subst this
  exact ⟨_, _, e1, q μ1 q1 (J.st j q1)⟩
end
theorem if_no {J : Jn} {ρ : List (Option D)} {t : EvT} {P : Prop} {a r : EvS} {U : Fl → Sg → Prop} {μ : List Cell} (h : TE J ρ t P) (n : ¬ P) (j : J.p μ) (q : ∀ μ', Keep μ μ' → J.p μ' → WS r ⟨ρ, μ'⟩ U) : WS (sIf t a sNx) ⟨ρ, μ⟩ (Nx U r) := by
  rw [ws_if]
  refine te_no h n j fun μ' k j' => ?_
  rw [if_neg Bool.false_ne_true, ws_nx, Nx_nx]
  exact q μ' k j'
section
variable {J : Jn} {ρ : List (Option D)} {fa fb : EvE} {f g : Nat → Bool} {P Q : Prop} {t t' : EvT}
theorem bo_in {i n : Nat} (h : ρ[i]? = some (some (nI n))) (hn : n ≤ 100000) (hb : OB J ρ fb f) : BO J ρ (fBM (gIn "Limits" (only 2 F_Limits_contains) id) (fV i) fb) (f n = true) := fun μ j => by
  obtain ⟨k2, μ2, e2, q2, i2⟩ := hb μ j
  have ec := contains_ok i2 hn
  refine ⟨f n, μ2, ?_, q2, Iff.rfl⟩
  have ev : fV i ⟨ρ, μ⟩ = some (nI n, μ) := by unfold fV; simp only [h]
  unfold fBM
  rw [ev, Option.bind_some]
  show ((fb ⟨ρ, μ⟩).bind _) = _
  rw [e2, Option.bind_some]
  unfold gIn only
  rw [if_pos i2.isO, if_pos (by rfl), ec]
  rfl
end
/-! ### numbers in ascending order -/
theorem ins_len (x : Int) : ∀ l : List Int, (ins x l).length ≤ l.length + 1
  | [] => by simp [ins]
  | y :: r => by
    unfold ins
    split
    · simp
    · split
      · simp
      · have := ins_len x r
        simp only [List.length_cons]
        omega
theorem sortU_len : ∀ l : List Int, (sortU l).length ≤ l.length
  | [] => by simp [sortU]
  | x :: r => by
    have := sortU_len r
    have := ins_len x (sortU r)
    unfold sortU
    simp only [List.length_cons]
    omega
abbrev zI (zs : List Nat) : List Int := zs.map fun (z : Nat) => (z : Int)
theorem sort_nat (zs : List Nat) {B : Nat} (h : ∀ z ∈ zs, z < B) : ∃ vs : List Nat, (sortU (zI zs)).map D.int = vs.map nI ∧ vs.Pairwise (· < ·) ∧ (∀ v ∈ vs, v < B) ∧ vs.length ≤ zs.length := by
  have hn : ∀ k ∈ sortU (zI zs), ∃ z : Nat, k = (z : Int) ∧ z < B := fun k hk => by
    obtain ⟨z, hz, rfl⟩ := List.mem_map.mp (mem_sortU.mp hk)
    exact ⟨z, rfl, h z hz⟩
  have hl := sortU_len (zI zs)
  have hp := pw_sortU (zI zs)
  rw [show (zI zs).length = zs.length from List.length_map ..] at hl
  generalize sortU (zI zs) = ks at hn hl hp
  refine ⟨ks.map Int.toNat, ?_, ?_, fun v hv => ?_, by rw [List.length_map]; exact hl⟩
  · rw [List.map_map]
    refine List.map_congr_left fun k hk => ?_
    obtain ⟨z, rfl, _⟩ := hn k hk
    rfl
  · refine List.pairwise_map.mpr (hp.imp_of_mem fun {a b} ha hb hab => ?_)
    obtain ⟨z, rfl, _⟩ := hn a ha
    obtain ⟨y, rfl, _⟩ := hn b hb
    show z < y
    omega
  · obtain ⟨k, hk, rfl⟩ := List.mem_map.mp hv
    obtain ⟨z, rfl, hz⟩ := hn k hk
    exact hz
theorem ints_nat (zs : List Nat) : zs.map nI = (zI zs).map D.int := by rw [List.map_map]; rfl
theorem we_sortSet {ρ : List (Option D)} {μ : List Cell} {fa : EvE} {P : D → List Cell → Prop} (h : DL.WE fa ⟨ρ, μ⟩ fun d μ1 => ∃ (zs vs : List Nat), d = .lst (zs.map nI) ∧ zs.length < 64 ∧ (sortU (zI zs)).map D.int = vs.map nI ∧ P (.lst (vs.map nI)) μ1) : DL.WE (fSortSetL fa) ⟨ρ, μ⟩ P := by
  obtain ⟨d, μ1, e, zs, vs, rfl, hl, ev, q⟩ := h
  refine ⟨_, μ1, ?_, q⟩
  unfold fSortSetL
  rw [e]
  simp only
  rw [ints_nat, intsOf_map']
  simp only [List.length_map]
  rw [if_pos hl, ev]
/-- so many tosses -/
theorem tosses_ok {u i r t : Nat} {ρ : List (Option D)} {μ : List Cell} (h0 : 0 < t) (h1 : t < 1073741824) (hi : i < ρ.length) (hu : ∀ d, (ρ.set i (some d))[0]? = some (some (.h u))) (hd : Die u μ) :
    WLc (bName i) (fun S => some (true, S.μ)) (fCall F__law_toss (fLen 2 (fCons (fV 0) (fCons (fC (nI t)) fNil)))) ρ ((List.range r).map nI) μ fun xs μ' => ∃ zs : List Nat, xs = zs.map nI ∧ (∀ z ∈ zs, z < t) ∧ zs.length = r ∧ Go u μ μ' := by
  have z := wlc_inv (b := bName i) (t := fun S => some (true, S.μ)) (fa := fCall F__law_toss (fLen 2 (fCons (fV 0) (fCons (fC (nI t)) fNil)))) (ρ := ρ) (fun ds xs μ' => ∃ (rest zs : List Nat), ds = rest.map nI ∧ xs = zs.map nI ∧ (∀ z ∈ zs, z < t) ∧ zs.length + rest.length = r ∧ Go u μ μ') ?_ ((List.range r).map nI) [] μ ⟨List.range r, [], rfl, rfl, fun z hz => (by cases hz), by simp, Go.refl⟩
  · refine z.mono fun xs μ' ⟨rest, zs, e1, e2, e3, e4, e5⟩ => ?_
    cases rest with
    | cons _ _ => cases e1
    | nil => exact ⟨zs, by simpa using e2, e3, by simpa using e4, e5⟩
  · rintro d r' xs μ' ⟨rest, zs, e1, rfl, e3, e4, e5⟩
    cases rest with
    | nil => cases e1
    | cons m rest =>
      rw [List.map_cons] at e1
      obtain ⟨rfl, rfl⟩ := List.cons.inj e1
      refine wb_name.mpr ⟨hi, true, μ', rfl, ?_⟩
      dsimp only
      rw [if_pos rfl]
      simp only [we_call, wa_len, wa_cons, wa_nil, we_V, we_C, List.length_cons, List.length_nil]
      refine ⟨_, hu _, trivial, ?_⟩
      obtain ⟨d, μ1, e, n, rfl, hn, g⟩ := toss_ok (t := t) (e5.die hd) h0 h1
      refine (wf_at e).mpr ⟨rest, zs ++ [n], rfl, by rw [List.map_append]; rfl, fun z hz => ?_, by rw [List.length_append]; simp only [List.length_cons, List.length_nil] at e4 ⊢; omega, e5.trans g⟩
      rcases List.mem_append.mp hz with q | q
      · exact e3 z q
      · rw [List.mem_singleton.mp q]; exact hn
/-! ### expressions with one value -/
def DV (J : Jn) (ρ : List (Option D)) (fa : EvE) (d : D) : Prop := ∀ μ, J.p μ → ∃ μ', fa ⟨ρ, μ⟩ = some (d, μ') ∧ Keep μ μ'
def DVs (J : Jn) (ρ : List (Option D)) (fs : EvA) (ds : List D) : Prop := ∀ μ, J.p μ → ∃ μ', fs ⟨ρ, μ⟩ = some (ds, μ') ∧ Keep μ μ'
theorem we_eq {f : EvE} {S : Sg} {d : D} {μ' : List Cell} (h : DL.WE f S fun x m => x = d ∧ m = μ') : f S = some (d, μ') := by
  obtain ⟨x, m, e, rfl, rfl⟩ := h
  exact e
theorem wa_eq {f : EvA} {S : Sg} {d : List D} {μ' : List Cell} (h : DL.WA f S fun x m => x = d ∧ m = μ') : f S = some (d, μ') := by
  obtain ⟨x, m, e, rfl, rfl⟩ := h
  exact e
section
variable {J : Jn} {ρ : List (Option D)} {fa fb : EvE} {fs : EvA} {f g : Nat → Bool} {P Q : Prop} {t t' : EvT} {d e : D} {ds : List D}
theorem dv_var {i : Nat} (h : ρ[i]? = some (some d)) : DV J ρ (fV i) d := fun μ j => ⟨μ, we_eq (we_V.mpr ⟨d, h, rfl, rfl⟩), Keep.refl⟩
theorem dv_c : DV J ρ (fC d) d := fun μ j => ⟨μ, rfl, Keep.refl⟩
theorem dvs_nil : DVs J ρ fNil [] := fun μ j => ⟨μ, rfl, Keep.refl⟩
theorem dvs_cons (h : DV J ρ fa d) (hs : DVs J ρ fs ds) : DVs J ρ (fCons fa fs) (d :: ds) := fun μ j => by
  obtain ⟨μ1, e1, k1⟩ := h μ j
  obtain ⟨μ2, e2, k2⟩ := hs μ1 (J.st j k1)
  exact ⟨μ2, wa_eq (wa_cons.mpr ⟨_, _, e1, _, _, e2, rfl, rfl⟩), k1.trans k2⟩
theorem dv_app {G : List D → List Cell → Option D} (hs : DVs J ρ fs ds) (hG : ∀ μ, G ds μ = some d) : DV J ρ (fApp G fs) d := fun μ j => by
  obtain ⟨μ1, e1, k1⟩ := hs μ j
  exact ⟨μ1, we_eq (we_App.mpr ⟨_, _, e1, _, hG μ1, rfl, rfl⟩), k1⟩
theorem dv_one {fn : D → List Cell → Option D} (h : DV J ρ fa d) (hf : ∀ μ, fn d μ = some e) : DV J ρ (fU fn fa) e := fun μ j => by
  obtain ⟨μ1, e1, k1⟩ := h μ j
  exact ⟨μ1, we_eq (we_U.mpr ⟨_, _, e1, _, hf μ1, rfl, rfl⟩), k1⟩
theorem dv_two {fn : D → D → List Cell → Option D} {z : D} (h : DV J ρ fa d) (h' : DV J ρ fb e) (hf : ∀ μ, fn d e μ = some z) : DV J ρ (fB fn fa fb) z := fun μ j => by
  obtain ⟨μ1, e1, k1⟩ := h μ j
  obtain ⟨μ2, e2, k2⟩ := h' μ1 (J.st j k1)
  exact ⟨μ2, we_eq (we_B.mpr ⟨_, _, e1, _, _, e2, _, hf μ2, rfl, rfl⟩), k1.trans k2⟩
theorem bo_dv {b : Bool} (h : DV J ρ fa (.bl b)) (hb : b = true ↔ P) : BO J ρ fa P := fun μ j => by
  obtain ⟨μ1, e1, k1⟩ := h μ j
  exact ⟨b, μ1, e1, k1, hb⟩
theorem bo_iff (h : BO J ρ fa P) (hb : P ↔ Q) : BO J ρ fa Q := fun μ j => by
  obtain ⟨b, μ1, e1, k1, q⟩ := h μ j
  exact ⟨b, μ1, e1, k1, q.trans hb⟩
theorem te_ne {k : Nat} {p : PyData} (h : DV J ρ fa d) (h' : DV J ρ fb d) (hp : PD k d p) (hk : k ≤ 40) : TE J ρ (fTru (fB dNeW fa fb)) False :=
  te_tru (bo_dv (b := false) (dv_two h h' fun μ => by unfold dNeW; rw [neW_self hp hk]; rfl) (by decide))
/-- a property -/
theorem dv_prop {k : Nat} {F : FnF} (hf : ∀ μ, J.p μ → (∃ fs, μ[k]? = some (.obj "Limits" fs)) ∧ ∃ μ', F [.h k] μ = some (.v d, μ') ∧ Keep μ μ') (hv : DV J ρ fa (.h k)) : DV J ρ (fProp "Limits" F fa) d := fun μ j => by
  obtain ⟨μ1, e1, k1⟩ := hv μ j
  obtain ⟨⟨fs, h1⟩, μ2, e2, k2⟩ := hf μ1 (J.st j k1)
  exact ⟨μ2, we_eq (we_prop.mpr ⟨_, _, e1, k, fs, rfl, h1, (wf_at e2).mpr ⟨rfl, rfl⟩⟩), k1.trans k2⟩
/-- a method with one argument -/
theorem dv_meth {k : Nat} {m : Str} {F : FnF} (hf : ∀ μ, J.p μ → isObjD "Limits" m (.h k) μ = true ∧ ∃ μ', F [.h k, d] μ = some (.v e, μ') ∧ Keep μ μ') (hv : DV J ρ fa (.h k)) (hb : DV J ρ fb d) : DV J ρ (fNox (fMethX "Limits" m F fa (fLen 1 (fCons fb fNil)))) e := fun μ j => by
  obtain ⟨μ1, e1, k1⟩ := hv μ j
  obtain ⟨μ2, e2, k2⟩ := hb μ1 (J.st j k1)
  obtain ⟨h1, _⟩ := hf μ1 (J.st j k1)
  obtain ⟨_, μ3, e3, k3⟩ := hf μ2 (J.st (J.st j k1) k2)
  exact ⟨μ3, we_eq (we_meth.mpr ⟨_, _, e1, h1, wa_len.mpr (wa_cons.mpr ⟨_, _, e2, wa_nil.mpr ⟨rfl, (wf_at e3).mpr ⟨rfl, rfl⟩⟩⟩)⟩), k1.trans (k2.trans k3)⟩
/-- a set of a class method with one argument -/
theorem ob_cls1 {F : FnF} (h : ∀ μ : List Cell, ∃ μ', clsF "Limits" F [d] μ = some (.v (.h μ.length), μ') ∧ Keep μ μ' ∧ Is μ' μ.length f) (hs : DVs J ρ fs [d]) : OB J ρ (fNox (fCallR (clsF "Limits" F) fs)) f := fun μ j => by
  obtain ⟨μ0, e0, q0⟩ := hs μ j
  obtain ⟨μ1, e1, q1, i1⟩ := h μ0
  refine ⟨_, μ1, ?_, q0.trans q1, i1⟩
  unfold fNox fCallR
  rw [e0, Option.bind_some, e1]
end
/-! ### sets with bounds -/
def OBB (J : Jn) (ρ : List (Option D)) (fa : EvE) (f : Nat → Bool) (B : Nat) : Prop := ∀ μ, J.p μ → ∃ k μ', fa ⟨ρ, μ⟩ = some (.h k, μ') ∧ Keep μ μ' ∧ IsB μ' k f B
theorem OBB.ob {J : Jn} {ρ : List (Option D)} {fa : EvE} {f : Nat → Bool} {B : Nat} (h : OBB J ρ fa f B) : OB J ρ fa f := fun μ j => by
  obtain ⟨k, μ', e, q, i⟩ := h μ j
  exact ⟨k, μ', e, q, i.is⟩
theorem IsB.mobj {μ : List Cell} {k B : Nat} {f : Nat → Bool} (h : IsB μ k f B) : isObjD "Limits" "moved" (.h k) μ = true := by
  obtain ⟨_, _, _, _, ⟨_, x, hx, fw, rs, rfl, _⟩, _⟩ := h
  unfold isObjD
  simp only [hx]
  rfl
section
variable {J : Jn} {ρ : List (Option D)} {fa fb : EvE} {fs : EvA} {f : Nat → Bool} {B : Nat} {z : Int} {d : D}
theorem obb_var {i k : Nat} (h : ρ[i]? = some (some (.h k))) (hi : ∀ μ, J.p μ → IsB μ k f B) : OBB J ρ (fV i) f B := fun μ j => ⟨k, μ, by unfold fV; simp only [h], Keep.refl, hi μ j⟩
theorem obb_moved (ha : OBB J ρ fa f B) (hb : ∀ μ, fb ⟨ρ, μ⟩ = some (.int z, μ)) (h1 : -2000 ≤ z) (h2 : z ≤ 2000) (h3 : (B : Int) + z ≤ 2000) : OBB J ρ (fNox (fMethX "Limits" "moved" F_Limits_moved fa (fLen 1 (fCons fb fNil)))) (mvF z f) ((B : Int) + z).toNat := fun μ j => by
  obtain ⟨k, μ1, e1, q1, i1⟩ := ha μ j
  obtain ⟨μ2, e2, q2, i2⟩ := moved_is i1 h1 h2 h3
  exact ⟨_, μ2, we_eq (we_meth.mpr ⟨_, _, e1, i1.mobj, wa_len.mpr (wa_cons.mpr ⟨_, _, hb μ1, wa_nil.mpr ⟨rfl, (wf_at e2).mpr ⟨rfl, rfl⟩⟩⟩)⟩), q1.trans q2, i2⟩
theorem obb_cls {F : FnF} (h : ∀ μ : List Cell, ∃ μ', clsF "Limits" F [] μ = some (.v (.h μ.length), μ') ∧ Keep μ μ' ∧ IsB μ' μ.length f B) : OBB J ρ (fNox (fCallR (clsF "Limits" F) fNil)) f B := fun μ j => by
  obtain ⟨μ1, e1, q1, i1⟩ := h μ
  refine ⟨_, μ1, ?_, q1, i1⟩
  unfold fNox fCallR fNil
  rw [Option.bind_some, e1]
theorem obb_cls1 {F : FnF} (h : ∀ μ : List Cell, ∃ μ', clsF "Limits" F [d] μ = some (.v (.h μ.length), μ') ∧ Keep μ μ' ∧ IsB μ' μ.length f B) (hs : ∀ μ, fs ⟨ρ, μ⟩ = some ([d], μ)) : OBB J ρ (fNox (fCallR (clsF "Limits" F) fs)) f B := fun μ j => by
  obtain ⟨μ1, e1, q1, i1⟩ := h μ
  refine ⟨_, μ1, ?_, q1, i1⟩
  unfold fNox fCallR
  rw [hs, Option.bind_some, e1]
theorem obb_new {gs rs : List Nat} {f p : Nat} {as : EvA} (h : Parts gs rs f p) (ha : ∀ μ, as ⟨ρ, μ⟩ = some ([.tup (gs.map nI), nI f, nI p, .tup (rs.map nI)], μ)) : OBB J ρ (fNox (fCallR (mkF "Limits" (only 5 F_Limits_init)) as)) (told gs rs f p) 9 := fun μ j => by
  obtain ⟨e, l, c, s, o, hl, hs, hm, ef⟩ := new_ok (μ := μ) h.f1 h.f2 h.r1 h.r2 (by have := h.f3; omega) h.p1 (by have := h.p2; omega) h.l1 h.l2
  refine ⟨_, _, ?_, Keep.app, e, l, c, s, lim_new o, by have := h.f3; omega, Nat.dvd_trans hs h.p3, funext hm⟩
  unfold fNox fCallR
  rw [ha, Option.bind_some, ef]
end
theorem since_isB {m : Nat} (h : m ≤ 2000) (μ : List Cell) : ∃ μ', clsF "Limits" (only 2 F_Limits_since) [nI m] μ = some (.v (.h μ.length), μ') ∧ Keep μ μ' ∧ IsB μ' μ.length (sinceF m) m := by
  obtain ⟨μ', e, k, L⟩ := since_new h μ
  exact ⟨μ', e, k, _, _, _, _, L, Nat.le_refl _, ⟨60, rfl⟩, funext (mem_since m)⟩
theorem only_isB {vs : List Nat} (h : vs.Pairwise (· < ·)) (h2 : ∀ n ∈ vs, n < 2000) (hl : vs.length < 16) (μ : List Cell) : ∃ μ', clsF "Limits" (only 2 F_Limits_only) [.tup (vs.map nI)] μ = some (.v (.h μ.length), μ') ∧ Keep μ μ' ∧ IsB μ' μ.length (onlyF vs) 2000 := by
  obtain ⟨μ', e, k, L⟩ := only_new h h2 hl μ
  exact ⟨μ', e, k, _, _, _, _, L, L.1.hl, ⟨60, rfl⟩, funext (mem_only h)⟩
theorem none_isB (μ : List Cell) : ∃ μ', clsF "Limits" (only 1 F_Limits_none) [] μ = some (.v (.h μ.length), μ') ∧ Keep μ μ' ∧ IsB μ' μ.length (onlyF []) 0 := by
  obtain ⟨μ', e, k, L⟩ := none_new μ
  exact ⟨μ', e, k, _, _, _, _, L, Nat.le_refl _, ⟨60, rfl⟩, funext (mem_only (vs := []) .nil)⟩
theorem every_isB (μ : List Cell) : ∃ μ', clsF "Limits" (only 1 F_Limits_every) [] μ = some (.v (.h μ.length), μ') ∧ Keep μ μ' ∧ IsB μ' μ.length (sinceF 0) 0 := by
  obtain ⟨μ', e, k, L⟩ := every_new μ
  exact ⟨μ', e, k, _, _, _, _, L, Nat.le_refl _, ⟨60, rfl⟩, funext (mem_since 0)⟩
theorem limits_isB {fs rs : List Nat} {f p : Nat} {μ : List Cell} (h : Parts fs rs f p) (hf : f ≤ 9) : ∃ μ', F__law_limits [prD fs rs f p] μ = some (.v (.h μ.length), μ') ∧ Keep μ μ' ∧ IsB μ' μ.length (told fs rs f p) 9 := by
  obtain ⟨e, l, c, s, o, hl, hs, hm, ef⟩ := limits_ok (μ := μ) h
  exact ⟨_, ef, Keep.app, e, l, c, s, lim_new o, by omega, Nat.dvd_trans hs h.p3, funext hm⟩
end G
namespace G
open PySem L2 DL PySem.DLQ LM
local macro_rules | `(tactic| walk_at "dl") => `(tactic| simp only [wf_fn, ws_seq, ws_then, ws_drop, ws_nx, ws_bk, ws_ct, ws_ret, ws_if, ws_for, ws_par, wb_name, wb_sub, wb_tup, wb_seq, wb_fld, wbs_nil, wbs_cons, cSet_iff, we_V, we_C, we_B, we_U, we_App, we_newC, we_call, we_AndV, we_OrV, we_IfE, we_Ch, we_Lc, we_Sl, we_Apn, we_Pop, we_ListC, we_find3, we_meth, we_prop, we_ext, ws_fldD, wa_nil, wa_cons, wa_len, wa_star, wo_no, wo_part, isI_i, DL.sl_tup, DL.sl_lst,
  wl_1, wl_2, wl_lst, wl_tup, wt_Tru, wt_Not, wt_And, wt_Or, wt_true, wi_seq, wi_rng1, wi_rng2, wi_zip, wi_enumS, Nx_nx, Nx_rt, Nx_bk, Nx_ct, Nx_ex, Fe_rt, Fe_nx, Tn_nx, Tn_ct, Tn_bk, Tn_rt, Tn_ex,
  w2_addAI, w2_addAS, w2_addAT, w2_addAL, w2_addAH, w2_mulAI, w2_mulAT, w2_mulAL, w2_ltAI, w2_eqWI, w2_neWI, w2_neWN, w2_neWB, w2_eqWS, w2_neWS, w1_listT, w1_tupL, w1_lenH, w1_rev, w2_II, gSub_iff, gMod_iff, gFdiv_iff, gPow_iff, gShl_iff, gShr_iff, gAnd_iff, gOr_iff, gXor_iff, w1_inv, w1_bits, w2_divmod, w1_bin, w1_revS, w2_count, w2_find, w1_neg, w2_ordI, w2_ordS, w2_isW, w2_isNot, w2_ixL, w2_ixR, w2_ixT, w2_ixS, w2_ixH, w1_abs, w1_intI, w1_intB, w2_max, w2_min, w1_str, w1_lenS, w1_lenL, w1_lenR, w1_lenT, w1_type, w1_all, w1_not, w1_S0, w2_join, wtr_bl, asQ_t, asQ_l,
  List.map_cons, List.map_nil, List.cons_append, List.nil_append, List.replicate_succ, List.replicate_zero, List.getElem?_cons_zero, List.getElem?_cons_succ, List.set_cons_zero, List.set_cons_succ, List.length_cons, List.length_nil, Option.some.injEq, exists_eq_left', exists_eq_left, D.int.injEq, and_true, true_and, Nat.reduceAdd, Nat.reduceSub, Nat.reduceLT, Nat.lt_add_left_iff_pos, Nat.zero_lt_succ, List.length_replicate, List.length_append, List.length_map, List.cons.injEq, List.length_set, gSeq, decide_true, if_true, D.bl.injEq, Bool.not_true, Bool.not_false, Bool.false_eq_true, if_false, reduceCtorEq, false_and, or_false, false_or])
theorem ob_and {J : Jn} {ρ : List (Option D)} {fa fb : EvE} {f g : Nat → Bool} (ha : OB J ρ fa f) (hb : OB J ρ fb g) : OB J ρ (fBM (gBinO "Limits" (only 2 F_Limits_and)) fa fb) (fun n => (fun x y => x && y) (f n) (g n)) := ob_bin (B := fun x y => x && y) (fun h1 h2 => and_ok h1 h2) ha hb
theorem mv_zero {g : Nat → Bool} : mvF 0 g = g := funext fun n => by
  unfold mvF
  rw [decide_eq_true (by omega), Bool.true_and]
  congr 1
theorem mv_back {g : Nat → Bool} {z : Int} : mvF (-z) (mvF z g) = if 0 ≤ z then g else fun n => (fun x y => x && y) (g n) (sinceF (-z).toNat n) := by
  split
  · refine funext fun n => ?_
    unfold mvF
    rw [decide_eq_true (by omega), decide_eq_true (by omega), Bool.true_and, Bool.true_and]
    congr 1
    omega
  · refine funext fun n => ?_
    unfold mvF sinceF
    by_cases h : -z ≤ n
    · rw [decide_eq_true h, decide_eq_true (by omega), decide_eq_true (by omega), Bool.true_and, Bool.true_and]
      show _ = (g n && true)
      rw [Bool.and_true]
      congr 1
      omega
    · rw [decide_eq_false h, decide_eq_false (by omega : ¬ (-z).toNat ≤ n)]
      show _ = (g n && false)
      rw [Bool.and_false, Bool.false_and]
def JM (i j : Nat) (f g : Nat → Bool) (B C : Nat) : Jn where
  p := fun μ => IsB μ i f B ∧ IsB μ j g C
  st := fun h k => ⟨h.1.keep k, h.2.keep k⟩
def JE (i j l : Nat) (f g h : Nat → Bool) (B : Nat) : Jn where
  p := fun μ => IsB μ i f B ∧ Is μ j g ∧ Is μ l h
  st := fun h k => ⟨h.1.keep k, h.2.1.keep k, h.2.2.keep k⟩
section
variable {J : Jn} {ρ : List (Option D)} {fa fb : EvE} {fs : EvA} {f g : Nat → Bool} {B : Nat} {z : Int} {d : D} {ds : List D}
theorem dv_call {F : FnF} (hs : DVs J ρ fs ds) (hF : ∀ μ, F ds μ = some (.v d, μ)) : DV J ρ (fCall F fs) d := fun μ j => by
  obtain ⟨μ1, e1, k1⟩ := hs μ j
  exact ⟨μ1, we_eq (we_call.mpr ⟨_, _, e1, (wf_at (hF μ1)).mpr ⟨rfl, rfl⟩⟩), k1⟩
theorem dvs_len {n : Nat} (h : DVs J ρ fs ds) (hn : ds.length = n) : DVs J ρ (fLen n fs) ds := fun μ j => by
  obtain ⟨μ1, e1, k1⟩ := h μ j
  exact ⟨μ1, by subst hn; unfold fLen; rw [e1]; simp, k1⟩
theorem ob_ite {b : Bool} {t : EvT} (ht : ∀ μ, t ⟨ρ, μ⟩ = some (b, μ)) (h : OB J ρ (if b = true then fa else fb) f) : OB J ρ (fIfE t fa fb) f := fun μ j => by
  obtain ⟨k, μ2, e2, k2, i2⟩ := h μ j
  refine ⟨k, μ2, we_eq (we_IfE.mpr ⟨b, μ, ht μ, ?_⟩), k2, i2⟩
  cases b with
  | true => exact ⟨_, _, e2, rfl, rfl⟩
  | false => exact ⟨_, _, e2, rfl, rfl⟩
theorem obb_limits {gs rs : List Nat} {f p i : Nat} (h : Parts gs rs f p) (hi : ρ[i]? = some (some (prD gs rs f p))) : OBB J ρ (fCall F__law_limits (fLen 1 (fCons (fV i) fNil))) (told gs rs f p) 9 := fun μ j => by
  obtain ⟨μ', e, k, I⟩ := limits_isB (μ := μ) h h.f3
  exact ⟨_, μ', we_eq (we_call.mpr (wa_len.mpr (wa_cons.mpr (we_V.mpr ⟨_, hi, wa_nil.mpr ⟨rfl, (wf_at e).mpr ⟨rfl, rfl⟩⟩⟩)))), k, I⟩
end
theorem cond_at {i j a f p : Nat} {z : Int} {fs rs : List Nat} {ρ : List (Option D)} {B : Nat} (hp : Parts fs rs f p) (h1 : ρ[1]? = some (some (prD fs rs f p))) (h2 : ρ[2]? = some (some (.int z))) (h4 : ρ[4]? = some (some (.h j))) (h5 : ρ[5]? = some (some (nI a))) (ha : a ≤ 1000) :
    TE (JM i j (told fs rs f p) (mvF z (told fs rs f p)) 9 B) ρ (fTru (fB dNeW (fBM (gIn "Limits" (only 2 F_Limits_contains) id) (fV 5) (fV 4)) (fAndV (fB dGe (fV 5) (fV 2)) (fCall F__law_has (fLen 2 (fCons (fV 1) (fCons (fB (dII gSub) (fV 5) (fV 2)) fNil))))))) (¬ (mvF z (told fs rs f p) a = true ↔ (z ≤ a ∧ told fs rs f p ((a : Int) - z).toNat = true))) := by
  refine te_tru (bo_nes (bo_in h5 (by omega) (ob_var h4 fun μ J => J.2.is)) (bo_and (bo_dv (b := decide (z ≤ (a : Int))) (dv_two (dv_var h5) (dv_var h2) fun μ => rfl) (by rw [decide_eq_true_eq])) fun hz => bo_dv (b := told fs rs f p ((a : Int) - z).toNat) ?_ Iff.rfl))
  refine dv_call (ds := [prD fs rs f p, nI ((a : Int) - z).toNat]) (dvs_len (dvs_cons (dv_var h1) (dvs_cons (dv_two (dv_var h5) (dv_var h2) fun μ => ?_) dvs_nil)) rfl) fun μ => has_eq hp.p1 _
  show some (D.int ((a : Int) - z)) = _
  congr 2
  omega
theorem right_ok {u : Nat} {μ : List Cell} (hd : Die u μ) : WF F__law_right [.h u] μ fun d μ' => d = .bl true ∧ Go u μ μ' := by
  unfold F__law_right g__law_right
  simp only [wf_fn, ws_seq, ws_par, we_call, we_B, wa_len, wa_cons, wa_nil, we_V, we_C, List.map_cons, List.map_nil, List.cons_append, List.nil_append, List.replicate_succ, List.replicate_zero, List.getElem?_cons_zero, List.getElem?_cons_succ, Option.some.injEq, exists_eq_left', List.length_cons, List.length_nil, Nat.reduceAdd, Nat.reduceSub, true_and]
  obtain ⟨_, μ1, e1, fs, rs, f, p, rfl, hp, g1⟩ := drawn_ok hd
  refine (wf_at e1).mpr ?_
  have d1 := g1.die hd
  obtain ⟨_, μ2, e2, r, rfl, hr, g2⟩ := toss_ok (t := 61) d1 (by decide) (by decide)
  refine (wf_at e2).mpr ?_
  have d2 := g2.die d1
  rw [w2_II, gSub_iff]
  generalize hz : (r : Int) - 20 = z
  refine ⟨_, _, rfl, ⟨show (1 : Nat) < 8 by decide, show (2 : Nat) < 8 by decide⟩, ?_⟩
  rw [Nx_nx]
  simp only [List.set_cons_zero, List.set_cons_succ, ws_seq, ws_then]
  obtain ⟨i, μ3, e3, k3, I3⟩ := obb_limits (J := ⟨fun _ => True, fun _ _ => trivial⟩) (ρ := [some (D.h u), some (prD fs rs f p), some (.int z), none, none, none, none, none]) (i := 1) hp rfl μ2 trivial
  refine ⟨_, _, e3, wb_name.mpr ⟨show (3 : Nat) < 8 by decide, ?_⟩⟩
  rw [Nx_nx]
  simp only [List.set_cons_zero, List.set_cons_succ, ws_seq, ws_then]
  obtain ⟨j, μ4, e4, k4, I4⟩ := obb_moved (J := ⟨fun μ => IsB μ i (told fs rs f p) 9, fun h k => h.keep k⟩) (ρ := [some (D.h u), some (prD fs rs f p), some (.int z), some (.h i), none, none, none, none]) (fa := fV 3) (fb := fV 2) (z := z) (obb_var rfl fun μ J => J) (fun μ => we_eq (we_V.mpr ⟨_, rfl, rfl, rfl⟩)) (by omega) (by omega) (by omega) μ3 I3
  refine ⟨_, _, e4, wb_name.mpr ⟨show (4 : Nat) < 8 by decide, ?_⟩⟩
  rw [Nx_nx]
  simp only [List.set_cons_zero, List.set_cons_succ]
  have G4 : Go u μ μ4 := (g1.trans g2).trans (k3.trans k4).go
  have J4 : (JM i j (told fs rs f p) (mvF z (told fs rs f p)) 9 ((9 : Nat) + z).toNat).p μ4 := ⟨I3.keep k4, I4⟩
  rw [ws_seq, ws_for]
  simp only [wi_rng1, wa_cons, wa_nil, we_C, List.cons.injEq, and_true, D.int.injEq, exists_eq_left']
  refine ⟨by decide, by decide, ?_⟩
  rw [show rngD 0 (Int.toNat 150) = (List.range 150).map nI from rng_nat 150]
  refine ws_forInv (fun ds S => ∃ (ks : List Nat) (v5 : Option D) (μ' : List Cell), ds = ks.map nI ∧ (∀ k ∈ ks, k < 150) ∧ S = ⟨[some (D.h u), some (prD fs rs f p), some (.int z), some (.h i), some (.h j), v5, none, none], μ'⟩ ∧ (JM i j (told fs rs f p) (mvF z (told fs rs f p)) 9 ((9 : Nat) + z).toNat).p μ' ∧ Keep μ4 μ') ?_ ?_ _ _ ⟨List.range 150, none, μ4, rfl, fun k hk => List.mem_range.mp hk, rfl, J4, Keep.refl⟩
  · rintro d r S ⟨ks, v5, μ', e, hk, rfl, J, K⟩
    cases ks with
    | nil => cases e
    | cons k ks =>
      rw [List.map_cons] at e
      obtain ⟨rfl, rfl⟩ := List.cons.inj e
      have hk40 := hk k List.mem_cons_self
      rw [wb_name]
      refine ⟨show (5 : Nat) < 8 by decide, ?_⟩
      simp only [List.set_cons_zero, List.set_cons_succ]
      rw [ws_if]
      refine te_no (cond_at (a := k) (z := z) hp rfl rfl rfl rfl (by omega)) (fun q => q ?_) J fun μ2 k2 J2 => ?_
      · unfold mvF
        rw [Bool.and_eq_true, decide_eq_true_eq]
      · rw [if_neg Bool.false_ne_true, ws_nx, Tn_nx]
        exact ⟨ks, _, μ2, rfl, fun a ha => hk a (List.mem_cons_of_mem _ ha), rfl, J2, K.trans k2⟩
  · rintro S ⟨ks, v5, μ', e, hk, rfl, J, K⟩
    rw [Nx_nx]
    simp only [ws_seq, ws_then]
    obtain ⟨k6, μ6, e6, q6, I6⟩ := obb_moved (J := JM i j (told fs rs f p) (mvF z (told fs rs f p)) 9 ((9 : Nat) + z).toNat) (ρ := [some (D.h u), some (prD fs rs f p), some (.int z), some (.h i), some (.h j), v5, none, none]) (fa := fV 4) (fb := fB (dII gSub) (fC (.int 0)) (fV 2)) (z := -z) (obb_var rfl fun μ J => J.2) (fun μ => we_eq (we_B.mpr (we_C.mpr (we_V.mpr ⟨_, rfl, w2_II.mpr (gSub_iff.mpr ⟨by rw [Int.zero_sub], rfl⟩)⟩)))) (by omega) (by omega) (by omega) μ' J
    refine ⟨_, _, e6, wb_name.mpr ⟨show (6 : Nat) < 8 by decide, ?_⟩⟩
    rw [Nx_nx]
    simp only [List.set_cons_zero, List.set_cons_succ, ws_seq, ws_then]
    obtain ⟨k7, μ7, e7, q7, I7⟩ := ob_ite (J := JM i j (told fs rs f p) (mvF z (told fs rs f p)) 9 ((9 : Nat) + z).toNat) (ρ := [some (D.h u), some (prD fs rs f p), some (.int z), some (.h i), some (.h j), v5, some (.h k6), none]) (b := decide (0 ≤ z)) (t := fTru (fB dGe (fV 2) (fC (.int 0)))) (fa := fV 3) (fb := fBM (gBinO "Limits" (only 2 F_Limits_and)) (fV 3) (fNox (fCallR (clsF "Limits" (only 2 F_Limits_since)) (fCons (fB (dII gSub) (fC (.int 0)) (fV 2)) fNil))))
      (f := if 0 ≤ z then told fs rs f p else fun n => (fun x y => x && y) (told fs rs f p n) (sinceF (-z).toNat n)) (fun μ => rfl) (by
        by_cases h : 0 ≤ z
        · rw [decide_eq_true h, if_pos rfl, if_pos h]
          exact ob_var rfl fun μ J => J.1.is
        · rw [decide_eq_false h, if_neg Bool.false_ne_true, if_neg h]
          refine ob_and (ob_var rfl fun μ J => J.1.is) (obb_cls1 (d := nI (-z).toNat) (since_isB (by omega)) fun μ => wa_eq (wa_cons.mpr (we_B.mpr (we_C.mpr (we_V.mpr ⟨_, rfl, w2_II.mpr (gSub_iff.mpr (wa_nil.mpr ⟨?_, rfl⟩))⟩))))).ob
          rw [show (0 : Int) - z = ((-z).toNat : Int) by omega]) μ6 ⟨J.1.keep q6, J.2.keep q6⟩
    refine ⟨_, _, e7, wb_name.mpr ⟨show (7 : Nat) < 8 by decide, ?_⟩⟩
    rw [Nx_nx]
    simp only [List.set_cons_zero, List.set_cons_succ]
    rw [ws_ret]
    have JF : (JE i k6 k7 (told fs rs f p) (mvF (-z) (mvF z (told fs rs f p))) (if 0 ≤ z then told fs rs f p else fun n => (fun x y => x && y) (told fs rs f p n) (sinceF (-z).toNat n)) 9).p μ7 := ⟨J.1.keep (q6.trans q7), I6.is.keep q7, I7⟩
    refine bo_yes (J := JE i k6 k7 (told fs rs f p) (mvF (-z) (mvF z (told fs rs f p))) (if 0 ≤ z then told fs rs f p else fun n => (fun x y => x && y) (told fs rs f p n) (sinceF (-z).toNat n)) 9) (bo_and (bo_eq (ob_var rfl fun μ J => J.2.1) (ob_var rfl fun μ J => J.2.2)) fun _ => bo_and (bo_eq (OBB.ob (obb_moved (z := 0) (B := 9) (obb_var rfl fun μ J => J.1) (fun μ => rfl) (by decide) (by decide) (by decide))) (ob_var rfl fun μ J => J.1.is)) fun _ => bo_eq (OBB.ob (obb_limits (i := 1) hp rfl)) (ob_var rfl fun μ J => J.1.is)) ⟨mv_back, mv_zero, rfl⟩ JF fun μ8 k8 J8 => ?_
    exact ⟨rfl, G4.trans (K.trans (q6.trans (q7.trans k8))).go⟩
end G
namespace G
open PySem L2 DL PySem.DLQ LM
local macro_rules | `(tactic| walk_at "dl") => `(tactic| simp only [wf_fn, ws_seq, ws_then, ws_drop, ws_nx, ws_bk, ws_ct, ws_ret, ws_if, ws_for, ws_par, wb_name, wb_sub, wb_tup, wb_seq, wb_fld, wbs_nil, wbs_cons, cSet_iff, we_V, we_C, we_B, we_U, we_App, we_newC, we_call, we_AndV, we_OrV, we_IfE, we_Ch, we_Lc, we_Sl, we_Apn, we_Pop, we_ListC, we_find3, we_meth, we_prop, we_ext, ws_fldD, wa_nil, wa_cons, wa_len, wa_star, wo_no, wo_part, isI_i, DL.sl_tup, DL.sl_lst,
  wl_1, wl_2, wl_lst, wl_tup, wt_Tru, wt_Not, wt_And, wt_Or, wt_true, wi_seq, wi_rng1, wi_rng2, wi_zip, wi_enumS, Nx_nx, Nx_rt, Nx_bk, Nx_ct, Nx_ex, Fe_rt, Fe_nx, Tn_nx, Tn_ct, Tn_bk, Tn_rt, Tn_ex,
  w2_addAI, w2_addAS, w2_addAT, w2_addAL, w2_addAH, w2_mulAI, w2_mulAT, w2_mulAL, w2_ltAI, w2_eqWI, w2_neWI, w2_neWN, w2_neWB, w2_eqWS, w2_neWS, w1_listT, w1_tupL, w1_lenH, w1_rev, w2_II, gSub_iff, gMod_iff, gFdiv_iff, gPow_iff, gShl_iff, gShr_iff, gAnd_iff, gOr_iff, gXor_iff, w1_inv, w1_bits, w2_divmod, w1_bin, w1_revS, w2_count, w2_find, w1_neg, w2_ordI, w2_ordS, w2_isW, w2_isNot, w2_ixL, w2_ixR, w2_ixT, w2_ixS, w2_ixH, w1_abs, w1_intI, w1_intB, w2_max, w2_min, w1_str, w1_lenS, w1_lenL, w1_lenR, w1_lenT, w1_type, w1_all, w1_not, w1_S0, w2_join, wtr_bl, asQ_t, asQ_l,
  List.map_cons, List.map_nil, List.cons_append, List.nil_append, List.replicate_succ, List.replicate_zero, List.getElem?_cons_zero, List.getElem?_cons_succ, List.set_cons_zero, List.set_cons_succ, List.length_cons, List.length_nil, Option.some.injEq, exists_eq_left', exists_eq_left, D.int.injEq, and_true, true_and, Nat.reduceAdd, Nat.reduceSub, Nat.reduceLT, Nat.lt_add_left_iff_pos, Nat.zero_lt_succ, List.length_replicate, List.length_append, List.length_map, List.cons.injEq, List.length_set, gSeq, decide_true, if_true, D.bl.injEq, Bool.not_true, Bool.not_false, Bool.false_eq_true, if_false, reduceCtorEq, false_and, or_false, false_or])
section
variable {J : Jn} {ρ : List (Option D)} {fa fb : EvE} {f g : Nat → Bool}
theorem wa_ob {fs : EvA} {μ : List Cell} {X : List D → List Cell → Prop} (ha : OB J ρ fa f) (j : J.p μ) (q : ∀ k μ', Keep μ μ' → J.p μ' → Is μ' k f → WA fs ⟨ρ, μ'⟩ fun ds μ'' => X (.h k :: ds) μ'') : WA (fCons fa fs) ⟨ρ, μ⟩ X := by
  obtain ⟨k, μ1, e1, k1, i1⟩ := ha μ j
  exact wa_cons.mpr ⟨_, _, e1, q k μ1 k1 (J.st j k1) i1⟩
end
theorem eqp_ok {μ : List Cell} {i j : Nat} {f g : Nat → Bool} (h1 : Is μ i f) (h2 : Is μ j g) (h : f = g) : EqP "Limits" (only 2 F_Limits_eq) μ (.h i) (.h j) := by
  refine ⟨h1.isO, h2.isO, ?_⟩
  obtain ⟨b, e, hb⟩ := eq_ok h1 h2
  rw [hb.mpr h] at e
  unfold only
  rw [if_pos (by rfl), e]
theorem nel_ok {μ : List Cell} {xs ys : List D} (hl : xs.length = ys.length) (h : ∀ (i : Nat) (x y : D), xs[i]? = some x → ys[i]? = some y → EqP "Limits" (only 2 F_Limits_eq) μ x y) : gNeL "Limits" (only 2 F_Limits_eq) (.lst xs) (.lst ys) μ = some (.bl false, μ) := by
  unfold gNeL
  simp only
  rw [if_pos ⟨hl, h⟩]
theorem tab_keep {μ μ' : List Cell} {k : Nat} {x q : Str} (h : μ[k]? = some (.tab x q)) (K : Keep μ μ') : μ'[k]? = some (.tab x q) := by
  obtain ⟨y, e, a⟩ := K k _ h
  rcases a with rfl | ⟨_, _, _, _, ⟨_, _, e2, _⟩, _⟩
  · exact e
  · cases e2
theorem tab_go {u : Nat} {μ μ' : List Cell} {k : Nat} {x q : Str} (h : μ[k]? = some (.tab x q)) (K : Go u μ μ') : μ'[k]? = some (.tab x q) := by
  obtain ⟨y, e, a⟩ := K k _ h
  rcases a with (rfl | ⟨_, _, _, _, ⟨_, _, e2, _⟩, _⟩) | ⟨_, ⟨_, _, _, e2⟩, _⟩
  · exact e
  · cases e2
  · cases e2
abbrev fO : Nat → Bool := told [] [1] 0 2
abbrev fF : Nat → Bool := onlyF [1, 1999]
theorem told_par {r f n : Nat} : told [] [r] f 2 n = (decide (f ≤ n) && decide (n % 2 = r)) := by
  unfold told
  by_cases h : n < f
  · rw [if_pos h, decide_eq_false (by omega : ¬ f ≤ n)]
    rfl
  · rw [if_neg h, decide_eq_true (by omega : f ≤ n), Bool.true_and]
    exact decide_eq_decide.mpr List.mem_singleton
theorem pO : Parts [] [1] 0 2 := ⟨by decide, by decide, by decide, by decide, by decide, by decide, by decide, by decide, by decide, by decide⟩
theorem p2 : Parts [] [1] 2 2 := ⟨by decide, by decide, by decide, by decide, by decide, by decide, by decide, by decide, by decide, by decide⟩
theorem p0 : Parts [] [0] 0 2 := ⟨by decide, by decide, by decide, by decide, by decide, by decide, by decide, by decide, by decide, by decide⟩
theorem bool_ext {a b : Bool} (h : a = true ↔ b = true) : a = b := by cases a <;> cases b <;> simp at h ⊢
theorem q1 : mvF (-2) fO = fO := funext fun n => bool_ext (by
  unfold mvF fO
  rw [told_par, told_par]
  simp only [Bool.and_eq_true, decide_eq_true_eq]
  omega)
theorem q2 : mvF 2 fO = told [] [1] 2 2 := funext fun n => bool_ext (by
  unfold mvF fO
  rw [told_par, told_par]
  simp only [Bool.and_eq_true, decide_eq_true_eq]
  omega)
theorem q3 : mvF (-1) fO = told [] [0] 0 2 := funext fun n => bool_ext (by
  unfold mvF fO
  rw [told_par, told_par]
  simp only [Bool.and_eq_true, decide_eq_true_eq]
  omega)
theorem q5 : mvF (-2) fF = onlyF [1997] := funext fun n => bool_ext (by
  unfold mvF fF onlyF
  simp only [Bool.and_eq_true, decide_eq_true_eq, List.mem_cons, List.not_mem_nil, or_false]
  omega)
theorem q6 : mvF (-2000) (sinceF 2000) = sinceF 0 := funext fun n => bool_ext (by
  unfold mvF sinceF
  simp only [Bool.and_eq_true, decide_eq_true_eq]
  omega)
theorem q7 : mvF 2000 (onlyF []) = onlyF [] := funext fun n => bool_ext (by
  unfold mvF onlyF
  simp only [Bool.and_eq_true, decide_eq_true_eq, List.not_mem_nil, and_false])
def JL (i j : Nat) : Jn where
  p := fun μ => μ[0]? = some (.tab "law" (qL "law")) ∧ IsB μ i fO 9 ∧ Lim μ j (bitsOf [1, 1999]) (endOf [1, 1999]) 0 1
  st := fun h k => ⟨tab_keep h.1 k, h.2.1.keep k, h.2.2.keep k⟩
theorem few_isB {μ : List Cell} {k : Nat} (L : Lim μ k (bitsOf [1, 1999]) (endOf [1, 1999]) 0 1) : IsB μ k fF 2000 := ⟨_, _, _, _, L, L.1.hl, ⟨60, rfl⟩, funext (mem_only (by decide))⟩
theorem repr_2000 {μ : List Cell} : rReprIs "2000" (.int 2000) μ = some (.bl true) := by
  unfold rReprIs
  have e : dReprZ (.int 2000) μ = some (.str "2000") := by
    unfold dReprZ
    simp only
    rw [if_pos (by decide)]
    congr 2
  rw [e, Option.bind_some]
  rfl
theorem met_ok {i j : Nat} {ρ : List (Option D)} (h4 : ρ[4]? = some (some (.h j))) : BO (JL i j) ρ (fMetR 0 "law" (qL "law") hTooMany "limit" (.bl false) (rReprIs "2000") (fMethX "Limits" "moved" F_Limits_moved (fV 4) (fLen 1 (fCons (fC (.int 1)) fNil)))) True := fun μ J => by
  refine ⟨true, μ, ?_, Keep.refl, by decide⟩
  have ef : fMethX "Limits" "moved" F_Limits_moved (fV 4) (fLen 1 (fCons (fC (.int 1)) fNil)) ⟨ρ, μ⟩ = some (.x "TooMany" (some (.exf "TooMany" "limit" (.int 2000))), μ) := by
    have ev : fV 4 ⟨ρ, μ⟩ = some (.h j, μ) := we_eq (we_V.mpr ⟨_, h4, rfl, rfl⟩)
    have ea : fLen 1 (fCons (fC (.int 1)) fNil) ⟨ρ, μ⟩ = some ([.int 1], μ) := rfl
    have io := (few_isB J.2.2).mobj
    have em := moved_far (z := 1) J.2.2 (by decide) (by decide) (by decide)
    unfold fMethX
    rw [ev]
    simp only
    rw [if_pos io, ea]
    exact em
  unfold fMetR
  rw [J.1]
  simp only
  rw [if_pos ⟨trivial, trivial⟩, ef]
  simp only
  rw [if_pos ⟨by rfl, trivial⟩, repr_2000]
  rfl
theorem OBB_since2000 {J : Jn} {ρ : List (Option D)} (h : ρ = ρ) : OBB J ρ (fNox (fCallR (clsF "Limits" (only 2 F_Limits_since)) (fCons (fC (.int 2000)) fNil))) (sinceF 2000) 2000 := obb_cls1 (d := nI 2000) (since_isB (by decide)) fun μ => rfl
theorem law_ok : ∀ ns : List Int, ns.length ≤ 63 → ∃ mu, F_law [.rl (ns.map D.int)] (mu0 ["law"]) = some (.v (.bl true), mu) := by
  intro ns hns
  suffices q : WF F_law [.rl (ns.map D.int)] (mu0 ["law"]) fun d _ => d = .bl true by
    obtain ⟨d, μ', e, rfl⟩ := q
    exact ⟨μ', e⟩
  unfold F_law g_law
  simp only [wf_fn, ws_seq, ws_for, wi_rng1, we_App, we_V, we_C, wa_nil, wa_cons, wl_1, wl_2, w1_lenR, DL.w2_min, DL.w2_max, List.map_cons, List.map_nil, List.cons_append, List.nil_append, List.replicate_succ, List.replicate_zero, List.getElem?_cons_zero, List.getElem?_cons_succ, Option.some.injEq, exists_eq_left', List.length_cons, List.length_nil, Nat.reduceAdd, Nat.reduceSub, List.length_map, List.cons.injEq, and_true, D.int.injEq]
  have hj : ∃ j : Nat, (if (if (ns.length : Int) < 10 then (ns.length : Int) else 10) > 1 then (if (ns.length : Int) < 10 then (ns.length : Int) else 10) else 1) = (j : Int) ∧ j ≤ 10 := by
    refine ⟨(if (if (ns.length : Int) < 10 then (ns.length : Int) else 10) > 1 then (if (ns.length : Int) < 10 then (ns.length : Int) else 10) else 1).toNat, ?_, ?_⟩ <;> (split <;> split <;> omega)
  obtain ⟨j, ej, hj⟩ := hj
  rw [ej]
  refine ⟨by omega, by omega, ?_⟩
  rw [Int.toNat_natCast, rng_nat]
  refine ws_forInv (fun ds S => ∃ (ks : List Nat) (v1 v2 : Option D) (μ : List Cell), ds = ks.map nI ∧ S = ⟨[some (.rl (ns.map D.int)), v1, v2, none, none], μ⟩ ∧ μ[0]? = some (.tab "law" (qL "law"))) ?_ ?_ _ _ ⟨List.range j, none, none, mu0 ["law"], rfl, rfl, rfl⟩
  · rintro d r S ⟨ks, v1, v2, μ, e, rfl, ht⟩
    cases ks with
    | nil => cases e
    | cons k ks =>
      rw [List.map_cons] at e
      obtain ⟨rfl, rfl⟩ := List.cons.inj e
      walk_at "dl"
      obtain ⟨d, μ1, e1, rfl, x, y, z, rfl⟩ := urn_ok (ns := ns) (a := k) (μ := μ)
      rw [wf_at e1]
      have d1 : Die μ.length (μ ++ [.lst [.int x, .int y, .int z]]) := ⟨x, y, z, List.getElem?_concat_length ..⟩
      obtain ⟨d, μ2, e2, rfl, g2⟩ := right_ok d1
      rw [wf_at e2]
      walk_at "dl"
      obtain ⟨d, μ3, e3, rfl, g3⟩ := right_ok (g2.die d1)
      rw [wf_at e3]
      walk_at "dl"
      exact ⟨ks, _, _, _, rfl, rfl, tab_go (tab_go (tab_keep ht Keep.app) g2) g3⟩
  · rintro S ⟨ks, v1, v2, μ, e, rfl, ht⟩
    rw [Nx_nx, ws_seq, ws_then, we_App]
    obtain ⟨i, μ1, e1, k1, I1⟩ := obb_new (J := ⟨fun _ => True, fun _ _ => trivial⟩) (ρ := [some (D.rl (List.map D.int ns)), v1, v2, none, none]) (as := fCons (fApp gTup fNil) (fCons (fC (.int 0)) (fCons (fC (.int 2)) (fCons (fApp gTup (fCons (fC (.int 1)) fNil)) fNil)))) pO (fun μ => rfl) μ trivial
    obtain ⟨μ2, e2, k2, LF2⟩ := only_new (vs := [1, 1999]) (by decide) (by decide) (by decide) μ1
    generalize μ1.length = j at e2 LF2
    refine wa_cons.mpr ⟨_, _, e1, wa_cons.mpr ⟨.h j, μ2, ?_, wa_nil.mpr ?_⟩⟩
    · unfold fNox fCallR
      rw [show fCons (fApp gTup (fCons (fC (.int 1)) (fCons (fC (.int 1999)) fNil))) fNil ⟨[some (D.rl (List.map D.int ns)), v1, v2, none, none], μ1⟩ = some ([.tup ([1, 1999].map nI)], μ1) from rfl, Option.bind_some, e2]
    rw [wl_tup]
    refine ⟨show (2 : Nat) ≤ sizeLine by decide, ?_⟩
    simp only [wb_seq, wbs_cons, wbs_nil, wb_name, asQ_t]
    refine ⟨rfl, show (3 : Nat) < 5 by decide, show (4 : Nat) < 5 by decide, ?_⟩
    simp only [List.set_cons_zero, List.set_cons_succ]
    have J2 : (JL i j).p μ2 := ⟨tab_keep ht (k1.trans k2), I1.keep k2, LF2⟩
    rw [Nx_nx, ws_seq, ws_if, wt_Tru, we_BM, we_App]
    have hO : OBB (JL i j) [some (D.rl (List.map D.int ns)), v1, v2, some (.h i), some (.h j)] (fV 3) fO 9 := obb_var rfl fun μ J => J.2.1
    have hF : OBB (JL i j) [some (D.rl (List.map D.int ns)), v1, v2, some (.h i), some (.h j)] (fV 4) fF 2000 := obb_var rfl fun μ J => few_isB J.2.2
    refine wa_ob (OBB.ob (obb_moved (z := -2) hO (fun μ => rfl) (by decide) (by decide) (by decide))) J2 fun a1 m1 x1 y1 z1 => wa_ob (OBB.ob (obb_moved (z := 2) hO (fun μ => rfl) (by decide) (by decide) (by decide))) y1 fun a2 m2 x2 y2 z2 => wa_ob (OBB.ob (obb_moved (z := -1) hO (fun μ => rfl) (by decide) (by decide) (by decide))) y2 fun a3 m3 x3 y3 z3 => ?_
    rw [wa_nil, wl_lst]
    refine ⟨show (3 : Nat) ≤ sizeLine by decide, ?_⟩
    rw [we_App]
    refine wa_ob hO.ob y3 fun b1 m4 x4 y4 w1 => wa_ob (OBB.ob (obb_new p2 (fun μ => rfl))) y4 fun b2 m5 x5 y5 w2 => wa_ob (OBB.ob (obb_new p0 (fun μ => rfl))) y5 fun b3 m6 x6 y6 w3 => ?_
    rw [wa_nil, wl_lst]
    refine ⟨show (3 : Nat) ≤ sizeLine by decide, ?_⟩
    have K5 := x5.trans x6
    have K4 := x4.trans K5
    have K3 := x3.trans K4
    have K2 := x2.trans K3
    have z := nel_ok (μ := m6) (xs := [D.h a1, D.h a2, D.h a3]) (ys := [D.h b1, D.h b2, D.h b3]) rfl fun i x y hx hy => by
      have E1 := eqp_ok (z1.keep K2) (w1.keep K5) q1
      have E2 := eqp_ok (z2.keep K3) (w2.keep x6) q2
      have E3 := eqp_ok (z3.keep K4) w3 q3
      match i, hx, hy with
      | 0, hx, hy => cases hx; cases hy; exact E1
      | 1, hx, hy => cases hx; cases hy; exact E2
      | 2, hx, hy => cases hx; cases hy; exact E3
      | (i + 3), hx, hy => cases hx
    refine ⟨_, z, wtr_bl.mpr ?_⟩
    rw [if_neg Bool.false_ne_true, ws_nx, Nx_nx, ws_seq]
    refine if_no (te_or (te_not (te_tru (met_ok rfl))) (te_or (te_tru (bo_ne (OBB.ob (obb_moved (z := 0) hF (fun μ => rfl) (by decide) (by decide) (by decide))) hF.ob)) (te_tru (bo_ne (OBB.ob (obb_moved (z := -2) hF (fun μ => rfl) (by decide) (by decide) (by decide))) (OBB.ob (obb_cls1 (only_isB (vs := [1997]) (by decide) (by decide) (by decide)) fun μ => rfl)))))) ?_ y6 fun μ7 k7 J7 => ?_
    · rintro (h | h | h)
      · exact h trivial
      · exact h mv_zero
      · exact h q5
    rw [ws_ret]
    refine bo_yes (bo_and (bo_eq (OBB.ob (obb_moved (z := -2000) (OBB_since2000 rfl) (fun μ => rfl) (by decide) (by decide) (by decide))) (OBB.ob (obb_cls every_isB))) fun _ => bo_eq (OBB.ob (obb_moved (z := 2000) (obb_cls none_isB) (fun μ => rfl) (by decide) (by decide) (by decide))) (OBB.ob (obb_cls none_isB))) ⟨q6, q7⟩ J7 fun μ8 k8 J8 => rfl
end G
namespace G
open PySem L2 DL
section
theorem sci_TooMany : FnScope ["self", "limit"] ["self", "limit"] (defScope si_TooMany) := ⟨rfl, rfl, rfl, by decide +kernel, rfl, by decide +kernel, by decide +kernel⟩
theorem all_mk {P : Program} {w : World} {K : PySem.W.Frag} {h : Heap} {mg : Str → Option Value} {fa : Addr} {ts : List Addr} (Yt : ∀ P, P ∈ ts → h.get? P = some (PySem.W.tabObj #[])) (X : K.In h) (G : h.Ns mainGlobals mg) (hfa : mg "law" = some (.ref fa))
    {od__law_urn an__law_urn : Option Addr} {sl__law_urn : Array (Option Value)} {oc__law_urn kV__law_urn dc__law_urn pm__law_urn ct__law_urn : Value} {f__law_urn : Addr} {cd__law_urn : Value} {od__law_toss an__law_toss : Option Addr} {sl__law_toss : Array (Option Value)} {oc__law_toss kV__law_toss dc__law_toss pm__law_toss ct__law_toss : Value} {f__law_toss : Addr} {cd__law_toss : Value} {od__law_pick an__law_pick : Option Addr} {sl__law_pick : Array (Option Value)} {oc__law_pick kV__law_pick dc__law_pick pm__law_pick ct__law_pick : Value} {f__law_pick : Addr} {cd__law_pick : Value} {od__law_drawn an__law_drawn : Option Addr} {sl__law_drawn : Array (Option Value)} {oc__law_drawn kV__law_drawn dc__law_drawn pm__law_drawn ct__law_drawn : Value} {f__law_drawn : Addr} {cd__law_drawn : Value} {od_is_whole_within an_is_whole_within : Option Addr} {sl_is_whole_within : Array (Option Value)} {oc_is_whole_within kV_is_whole_within dc_is_whole_within pm_is_whole_within ct_is_whole_within : Value} {f_is_whole_within : Addr} {cd_is_whole_within : Value} {od_is_ascending_below an_is_ascending_below : Option Addr} {sl_is_ascending_below : Array (Option Value)} {oc_is_ascending_below kV_is_ascending_below dc_is_ascending_below pm_is_ascending_below ct_is_ascending_below : Value} {f_is_ascending_below : Addr} {cd_is_ascending_below : Value} {od__tell_a_set an__tell_a_set : Option Addr} {sl__tell_a_set : Array (Option Value)} {oc__tell_a_set kV__tell_a_set dc__tell_a_set pm__tell_a_set ct__tell_a_set : Value} {f__tell_a_set : Addr} {cd__tell_a_set : Value} {od__shorter an__shorter : Option Addr} {sl__shorter : Array (Option Value)} {oc__shorter kV__shorter dc__shorter pm__shorter ct__shorter : Value} {f__shorter : Addr} {cd__shorter : Value} {od__least_cycle an__least_cycle : Option Addr} {sl__least_cycle : Array (Option Value)} {oc__least_cycle kV__least_cycle dc__least_cycle pm__least_cycle ct__least_cycle : Value} {f__least_cycle : Addr} {cd__least_cycle : Value} {od__bits an__bits : Option Addr} {sl__bits : Array (Option Value)} {oc__bits kV__bits dc__bits pm__bits ct__bits : Value} {f__bits : Addr} {cd__bits : Value} {od__filled an__filled : Option Addr} {sl__filled : Array (Option Value)} {oc__filled kV__filled dc__filled pm__filled ct__filled : Value} {f__filled : Addr} {cd__filled : Value} {od__least_early an__least_early : Option Addr} {sl__least_early : Array (Option Value)} {oc__least_early kV__least_early dc__least_early pm__least_early ct__least_early : Value} {f__least_early : Addr} {cd__least_early : Value} {od__law_limits an__law_limits : Option Addr} {sl__law_limits : Array (Option Value)} {oc__law_limits kV__law_limits dc__law_limits pm__law_limits ct__law_limits : Value} {f__law_limits : Addr} {cd__law_limits : Value} {od__made an__made : Option Addr} {sl__made : Array (Option Value)} {oc__made kV__made dc__made pm__made ct__made : Value} {f__made : Addr} {cd__made : Value} {od__turned an__turned : Option Addr} {sl__turned : Array (Option Value)} {oc__turned kV__turned dc__turned pm__turned ct__turned : Value} {f__turned : Addr} {cd__turned : Value} {od_is_whole_from an_is_whole_from : Option Addr} {sl_is_whole_from : Array (Option Value)} {oc_is_whole_from kV_is_whole_from dc_is_whole_from pm_is_whole_from ct_is_whole_from : Value} {f_is_whole_from : Addr} {cd_is_whole_from : Value} {od__law_has an__law_has : Option Addr} {sl__law_has : Array (Option Value)} {oc__law_has kV__law_has dc__law_has pm__law_has ct__law_has : Value} {f__law_has : Addr} {cd__law_has : Value} {od__early_below an__early_below : Option Addr} {sl__early_below : Array (Option Value)} {oc__early_below kV__early_below dc__early_below pm__early_below ct__early_below : Value} {f__early_below : Addr} {cd__early_below : Value} {od__aligned an__aligned : Option Addr} {sl__aligned : Array (Option Value)} {oc__aligned kV__aligned dc__aligned pm__aligned ct__aligned : Value} {f__aligned : Addr} {cd__aligned : Value} {od__law_right an__law_right : Option Addr} {sl__law_right : Array (Option Value)} {oc__law_right kV__law_right dc__law_right pm__law_right ct__law_right : Value} {f__law_right : Addr} {cd__law_right : Value} {od_law an_law : Option Addr} {sl_law : Array (Option Value)} {oc_law kV_law dc_law pm_law ct_law : Value} {f_law : Addr} {cL_law : Addr} {od__law_is_refused an__law_is_refused : Option Addr} {sl__law_is_refused : Array (Option Value)} {oc__law_is_refused kV__law_is_refused dc__law_is_refused pm__law_is_refused ct__law_is_refused : Value} {f__law_is_refused : Addr} {cd__law_is_refused : Value} {t_LARGEST : _} {t_MOST_MEMBERS : _} {c_Limits : Addr} {od_Limits_init an_Limits_init : Option Addr} {sl_Limits_init : Array (Option Value)} {oc_Limits_init kV_Limits_init dc_Limits_init pm_Limits_init ct_Limits_init : Value} {f_Limits_init : Addr} {cd_Limits_init : Value} {od_Limits_moved an_Limits_moved : Option Addr} {sl_Limits_moved : Array (Option Value)} {oc_Limits_moved kV_Limits_moved dc_Limits_moved pm_Limits_moved ct_Limits_moved : Value} {f_Limits_moved : Addr} {cd_Limits_moved : Value} {od_Limits_contains an_Limits_contains : Option Addr} {sl_Limits_contains : Array (Option Value)} {oc_Limits_contains kV_Limits_contains dc_Limits_contains pm_Limits_contains ct_Limits_contains : Value} {f_Limits_contains : Addr} {cd_Limits_contains : Value} {od_Limits_and an_Limits_and : Option Addr} {sl_Limits_and : Array (Option Value)} {oc_Limits_and kV_Limits_and dc_Limits_and pm_Limits_and ct_Limits_and : Value} {f_Limits_and : Addr} {cd_Limits_and : Value} {od_Limits_since an_Limits_since : Option Addr} {sl_Limits_since : Array (Option Value)} {oc_Limits_since kV_Limits_since dc_Limits_since pm_Limits_since ct_Limits_since : Value} {f_Limits_since : Addr} {cd_Limits_since : Value} {p_Limits_since : Addr} {r_Limits_since : List Value} {od_Limits_eq an_Limits_eq : Option Addr} {sl_Limits_eq : Array (Option Value)} {oc_Limits_eq kV_Limits_eq dc_Limits_eq pm_Limits_eq ct_Limits_eq : Value} {f_Limits_eq : Addr} {cd_Limits_eq : Value} {od_Limits_only an_Limits_only : Option Addr} {sl_Limits_only : Array (Option Value)} {oc_Limits_only kV_Limits_only dc_Limits_only pm_Limits_only ct_Limits_only : Value} {f_Limits_only : Addr} {cd_Limits_only : Value} {p_Limits_only : Addr} {r_Limits_only : List Value} {od_Limits_every an_Limits_every : Option Addr} {sl_Limits_every : Array (Option Value)} {oc_Limits_every kV_Limits_every dc_Limits_every pm_Limits_every ct_Limits_every : Value} {f_Limits_every : Addr} {cd_Limits_every : Value} {p_Limits_every : Addr} {r_Limits_every : List Value} {od_Limits_none an_Limits_none : Option Addr} {sl_Limits_none : Array (Option Value)} {oc_Limits_none kV_Limits_none dc_Limits_none pm_Limits_none ct_Limits_none : Value} {f_Limits_none : Addr} {cd_Limits_none : Value} {p_Limits_none : Addr} {r_Limits_none : List Value} {t_PRIMES : Addr} {o_PRIMES : Option Addr} {i_PRIMES : Array Value} {n_PRIMES : Nat} {q_PRIMES : Array (Option Value)} {c_TooMany : Addr} {odITooMany anITooMany : Option Addr} {slITooMany : Array (Option Value)} {ocITooMany kVITooMany dcITooMany pmITooMany cdITooMany ctITooMany : Value} {i_TooMany : Addr} {PL_law : Addr} {ck_law : Value} {ci_law : Option Addr} {vs_law : Array Value} {cq_law : Array (Option Value)}
    (a__law_urn : PySem.W.nsIn K mainGlobals "_law_urn" = some (some (.ref f__law_urn)))
    (l__law_urn : K.lookup f__law_urn = some ⟨oc__law_urn, od__law_urn, .func (PySem.W.fnOf "_law_urn" "_law_urn" (defArgs s__law_urn) (defBody s__law_urn) (defScope s__law_urn) .none kV__law_urn dc__law_urn pm__law_urn an__law_urn cd__law_urn ct__law_urn), sl__law_urn⟩)
    (c__law_urn_ : PySem.W.codeIn K cd__law_urn "_law_urn" = true)
    (k__law_urn : PySem.W.keepIn K (.ref f__law_urn) = true)
    (a__law_toss : PySem.W.nsIn K mainGlobals "_law_toss" = some (some (.ref f__law_toss)))
    (l__law_toss : K.lookup f__law_toss = some ⟨oc__law_toss, od__law_toss, .func (PySem.W.fnOf "_law_toss" "_law_toss" (defArgs s__law_toss) (defBody s__law_toss) (defScope s__law_toss) .none kV__law_toss dc__law_toss pm__law_toss an__law_toss cd__law_toss ct__law_toss), sl__law_toss⟩)
    (c__law_toss_ : PySem.W.codeIn K cd__law_toss "_law_toss" = true)
    (k__law_toss : PySem.W.keepIn K (.ref f__law_toss) = true)
    (a__law_pick : PySem.W.nsIn K mainGlobals "_law_pick" = some (some (.ref f__law_pick)))
    (l__law_pick : K.lookup f__law_pick = some ⟨oc__law_pick, od__law_pick, .func (PySem.W.fnOf "_law_pick" "_law_pick" (defArgs s__law_pick) (defBody s__law_pick) (defScope s__law_pick) .none kV__law_pick dc__law_pick pm__law_pick an__law_pick cd__law_pick ct__law_pick), sl__law_pick⟩)
    (c__law_pick_ : PySem.W.codeIn K cd__law_pick "_law_pick" = true)
    (k__law_pick : PySem.W.keepIn K (.ref f__law_pick) = true)
    (a__law_drawn : PySem.W.nsIn K mainGlobals "_law_drawn" = some (some (.ref f__law_drawn)))
    (l__law_drawn : K.lookup f__law_drawn = some ⟨oc__law_drawn, od__law_drawn, .func (PySem.W.fnOf "_law_drawn" "_law_drawn" (defArgs s__law_drawn) (defBody s__law_drawn) (defScope s__law_drawn) .none kV__law_drawn dc__law_drawn pm__law_drawn an__law_drawn cd__law_drawn ct__law_drawn), sl__law_drawn⟩)
    (c__law_drawn_ : PySem.W.codeIn K cd__law_drawn "_law_drawn" = true)
    (k__law_drawn : PySem.W.keepIn K (.ref f__law_drawn) = true)
    (a_is_whole_within : PySem.W.nsIn K mainGlobals "is_whole_within" = some (some (.ref f_is_whole_within)))
    (l_is_whole_within : K.lookup f_is_whole_within = some ⟨oc_is_whole_within, od_is_whole_within, .func (PySem.W.fnOf "is_whole_within" "is_whole_within" (defArgs s_is_whole_within) (defBody s_is_whole_within) (defScope s_is_whole_within) .none kV_is_whole_within dc_is_whole_within pm_is_whole_within an_is_whole_within cd_is_whole_within ct_is_whole_within), sl_is_whole_within⟩)
    (c_is_whole_within_ : PySem.W.codeIn K cd_is_whole_within "is_whole_within" = true)
    (k_is_whole_within : PySem.W.keepIn K (.ref f_is_whole_within) = true)
    (a_is_ascending_below : PySem.W.nsIn K mainGlobals "is_ascending_below" = some (some (.ref f_is_ascending_below)))
    (l_is_ascending_below : K.lookup f_is_ascending_below = some ⟨oc_is_ascending_below, od_is_ascending_below, .func (PySem.W.fnOf "is_ascending_below" "is_ascending_below" (defArgs s_is_ascending_below) (defBody s_is_ascending_below) (defScope s_is_ascending_below) .none kV_is_ascending_below dc_is_ascending_below pm_is_ascending_below an_is_ascending_below cd_is_ascending_below ct_is_ascending_below), sl_is_ascending_below⟩)
    (c_is_ascending_below_ : PySem.W.codeIn K cd_is_ascending_below "is_ascending_below" = true)
    (k_is_ascending_below : PySem.W.keepIn K (.ref f_is_ascending_below) = true)
    (a__tell_a_set : PySem.W.nsIn K mainGlobals "_tell_a_set" = some (some (.ref f__tell_a_set)))
    (l__tell_a_set : K.lookup f__tell_a_set = some ⟨oc__tell_a_set, od__tell_a_set, .func (PySem.W.fnOf "_tell_a_set" "_tell_a_set" (defArgs s__tell_a_set) (defBody s__tell_a_set) (defScope s__tell_a_set) .none kV__tell_a_set dc__tell_a_set pm__tell_a_set an__tell_a_set cd__tell_a_set ct__tell_a_set), sl__tell_a_set⟩)
    (c__tell_a_set_ : PySem.W.codeIn K cd__tell_a_set "_tell_a_set" = true)
    (k__tell_a_set : PySem.W.keepIn K (.ref f__tell_a_set) = true)
    (a__shorter : PySem.W.nsIn K mainGlobals "_shorter" = some (some (.ref f__shorter)))
    (l__shorter : K.lookup f__shorter = some ⟨oc__shorter, od__shorter, .func (PySem.W.fnOf "_shorter" "_shorter" (defArgs s__shorter) (defBody s__shorter) (defScope s__shorter) .none kV__shorter dc__shorter pm__shorter an__shorter cd__shorter ct__shorter), sl__shorter⟩)
    (c__shorter_ : PySem.W.codeIn K cd__shorter "_shorter" = true)
    (k__shorter : PySem.W.keepIn K (.ref f__shorter) = true)
    (a__least_cycle : PySem.W.nsIn K mainGlobals "_least_cycle" = some (some (.ref f__least_cycle)))
    (l__least_cycle : K.lookup f__least_cycle = some ⟨oc__least_cycle, od__least_cycle, .func (PySem.W.fnOf "_least_cycle" "_least_cycle" (defArgs s__least_cycle) (defBody s__least_cycle) (defScope s__least_cycle) .none kV__least_cycle dc__least_cycle pm__least_cycle an__least_cycle cd__least_cycle ct__least_cycle), sl__least_cycle⟩)
    (c__least_cycle_ : PySem.W.codeIn K cd__least_cycle "_least_cycle" = true)
    (k__least_cycle : PySem.W.keepIn K (.ref f__least_cycle) = true)
    (a__bits : PySem.W.nsIn K mainGlobals "_bits" = some (some (.ref f__bits)))
    (l__bits : K.lookup f__bits = some ⟨oc__bits, od__bits, .func (PySem.W.fnOf "_bits" "_bits" (defArgs s__bits) (defBody s__bits) (defScope s__bits) .none kV__bits dc__bits pm__bits an__bits cd__bits ct__bits), sl__bits⟩)
    (c__bits_ : PySem.W.codeIn K cd__bits "_bits" = true)
    (k__bits : PySem.W.keepIn K (.ref f__bits) = true)
    (a__filled : PySem.W.nsIn K mainGlobals "_filled" = some (some (.ref f__filled)))
    (l__filled : K.lookup f__filled = some ⟨oc__filled, od__filled, .func (PySem.W.fnOf "_filled" "_filled" (defArgs s__filled) (defBody s__filled) (defScope s__filled) .none kV__filled dc__filled pm__filled an__filled cd__filled ct__filled), sl__filled⟩)
    (c__filled_ : PySem.W.codeIn K cd__filled "_filled" = true)
    (k__filled : PySem.W.keepIn K (.ref f__filled) = true)
    (a__least_early : PySem.W.nsIn K mainGlobals "_least_early" = some (some (.ref f__least_early)))
    (l__least_early : K.lookup f__least_early = some ⟨oc__least_early, od__least_early, .func (PySem.W.fnOf "_least_early" "_least_early" (defArgs s__least_early) (defBody s__least_early) (defScope s__least_early) .none kV__least_early dc__least_early pm__least_early an__least_early cd__least_early ct__least_early), sl__least_early⟩)
    (c__least_early_ : PySem.W.codeIn K cd__least_early "_least_early" = true)
    (k__least_early : PySem.W.keepIn K (.ref f__least_early) = true)
    (a__law_limits : PySem.W.nsIn K mainGlobals "_law_limits" = some (some (.ref f__law_limits)))
    (l__law_limits : K.lookup f__law_limits = some ⟨oc__law_limits, od__law_limits, .func (PySem.W.fnOf "_law_limits" "_law_limits" (defArgs s__law_limits) (defBody s__law_limits) (defScope s__law_limits) .none kV__law_limits dc__law_limits pm__law_limits an__law_limits cd__law_limits ct__law_limits), sl__law_limits⟩)
    (c__law_limits_ : PySem.W.codeIn K cd__law_limits "_law_limits" = true)
    (k__law_limits : PySem.W.keepIn K (.ref f__law_limits) = true)
    (a__made : PySem.W.nsIn K mainGlobals "_made" = some (some (.ref f__made)))
    (l__made : K.lookup f__made = some ⟨oc__made, od__made, .func (PySem.W.fnOf "_made" "_made" (defArgs s__made) (defBody s__made) (defScope s__made) .none kV__made dc__made pm__made an__made cd__made ct__made), sl__made⟩)
    (c__made_ : PySem.W.codeIn K cd__made "_made" = true)
    (k__made : PySem.W.keepIn K (.ref f__made) = true)
    (a__turned : PySem.W.nsIn K mainGlobals "_turned" = some (some (.ref f__turned)))
    (l__turned : K.lookup f__turned = some ⟨oc__turned, od__turned, .func (PySem.W.fnOf "_turned" "_turned" (defArgs s__turned) (defBody s__turned) (defScope s__turned) .none kV__turned dc__turned pm__turned an__turned cd__turned ct__turned), sl__turned⟩)
    (c__turned_ : PySem.W.codeIn K cd__turned "_turned" = true)
    (k__turned : PySem.W.keepIn K (.ref f__turned) = true)
    (a_is_whole_from : PySem.W.nsIn K mainGlobals "is_whole_from" = some (some (.ref f_is_whole_from)))
    (l_is_whole_from : K.lookup f_is_whole_from = some ⟨oc_is_whole_from, od_is_whole_from, .func (PySem.W.fnOf "is_whole_from" "is_whole_from" (defArgs s_is_whole_from) (defBody s_is_whole_from) (defScope s_is_whole_from) .none kV_is_whole_from dc_is_whole_from pm_is_whole_from an_is_whole_from cd_is_whole_from ct_is_whole_from), sl_is_whole_from⟩)
    (c_is_whole_from_ : PySem.W.codeIn K cd_is_whole_from "is_whole_from" = true)
    (k_is_whole_from : PySem.W.keepIn K (.ref f_is_whole_from) = true)
    (a__law_has : PySem.W.nsIn K mainGlobals "_law_has" = some (some (.ref f__law_has)))
    (l__law_has : K.lookup f__law_has = some ⟨oc__law_has, od__law_has, .func (PySem.W.fnOf "_law_has" "_law_has" (defArgs s__law_has) (defBody s__law_has) (defScope s__law_has) .none kV__law_has dc__law_has pm__law_has an__law_has cd__law_has ct__law_has), sl__law_has⟩)
    (c__law_has_ : PySem.W.codeIn K cd__law_has "_law_has" = true)
    (k__law_has : PySem.W.keepIn K (.ref f__law_has) = true)
    (a__early_below : PySem.W.nsIn K mainGlobals "_early_below" = some (some (.ref f__early_below)))
    (l__early_below : K.lookup f__early_below = some ⟨oc__early_below, od__early_below, .func (PySem.W.fnOf "_early_below" "_early_below" (defArgs s__early_below) (defBody s__early_below) (defScope s__early_below) .none kV__early_below dc__early_below pm__early_below an__early_below cd__early_below ct__early_below), sl__early_below⟩)
    (c__early_below_ : PySem.W.codeIn K cd__early_below "_early_below" = true)
    (k__early_below : PySem.W.keepIn K (.ref f__early_below) = true)
    (a__aligned : PySem.W.nsIn K mainGlobals "_aligned" = some (some (.ref f__aligned)))
    (l__aligned : K.lookup f__aligned = some ⟨oc__aligned, od__aligned, .func (PySem.W.fnOf "_aligned" "_aligned" (defArgs s__aligned) (defBody s__aligned) (defScope s__aligned) .none kV__aligned dc__aligned pm__aligned an__aligned cd__aligned ct__aligned), sl__aligned⟩)
    (c__aligned_ : PySem.W.codeIn K cd__aligned "_aligned" = true)
    (k__aligned : PySem.W.keepIn K (.ref f__aligned) = true)
    (a__law_right : PySem.W.nsIn K mainGlobals "_law_right" = some (some (.ref f__law_right)))
    (l__law_right : K.lookup f__law_right = some ⟨oc__law_right, od__law_right, .func (PySem.W.fnOf "_law_right" "_law_right" (defArgs s__law_right) (defBody s__law_right) (defScope s__law_right) .none kV__law_right dc__law_right pm__law_right an__law_right cd__law_right ct__law_right), sl__law_right⟩)
    (c__law_right_ : PySem.W.codeIn K cd__law_right "_law_right" = true)
    (k__law_right : PySem.W.keepIn K (.ref f__law_right) = true)
    (a_law : PySem.W.nsIn K mainGlobals "law" = some (some (.ref f_law)))
    (l_law : K.lookup f_law = some ⟨oc_law, od_law, .func (PySem.W.fnOf "law" "law" (defArgs s_law) (defBody s_law) (defScope s_law) .none kV_law dc_law pm_law an_law (.ref cL_law) ct_law), sl_law⟩)
    (c_law_ : PySem.W.codeIn K (.ref cL_law) "law" = true)
    (k_law : PySem.W.keepIn K (.ref f_law) = true)
    (a__law_is_refused : PySem.W.nsIn K mainGlobals "_law_is_refused" = some (some (.ref f__law_is_refused)))
    (l__law_is_refused : K.lookup f__law_is_refused = some ⟨oc__law_is_refused, od__law_is_refused, .func (PySem.W.fnOf "_law_is_refused" "_law_is_refused" (defArgs s__law_is_refused) (defBody s__law_is_refused) (defScope s__law_is_refused) .none kV__law_is_refused dc__law_is_refused pm__law_is_refused an__law_is_refused cd__law_is_refused ct__law_is_refused), sl__law_is_refused⟩)
    (c__law_is_refused_ : PySem.W.codeIn K cd__law_is_refused "_law_is_refused" = true)
    (k__law_is_refused : PySem.W.keepIn K (.ref f__law_is_refused) = true)
    (z_abs : PySem.W.nsIn K mainGlobals "abs" = some none)
    (z_int : PySem.W.nsIn K mainGlobals "int" = some none)
    (z_isinstance : PySem.W.nsIn K mainGlobals "isinstance" = some none)
    (z_len : PySem.W.nsIn K mainGlobals "len" = some none)
    (z_max : PySem.W.nsIn K mainGlobals "max" = some none)
    (z_min : PySem.W.nsIn K mainGlobals "min" = some none)
    (z_range : PySem.W.nsIn K mainGlobals "range" = some none)
    (z_repr : PySem.W.nsIn K mainGlobals "repr" = some none)
    (z_sum : PySem.W.nsIn K mainGlobals "sum" = some none)
    (z_tuple : PySem.W.nsIn K mainGlobals "tuple" = some none)
    (z_type : PySem.W.nsIn K mainGlobals "type" = some none)
    (x_LARGEST : PySem.W.nsIn K mainGlobals "LARGEST" = some (some (.int 2000 t_LARGEST)))
    (x_MOST_MEMBERS : PySem.W.nsIn K mainGlobals "MOST_MEMBERS" = some (some (.int 1000 t_MOST_MEMBERS)))
    (ca_Limits : PySem.W.nsIn K mainGlobals "Limits" = some (some (.ref c_Limits)))
    (mk1 : PySem.W.makesIn K c_Limits = true)
    (mk2 : PySem.W.findIn K (.ref c_Limits) "__init__" = some (some (.ref f_Limits_init)))
    (mk3 : PySem.W.isFn K (.ref f_Limits_init) = true)
    (mk4 : PySem.W.keepIn K (.ref c_Limits) = true)
    (l_Limits_init : K.lookup f_Limits_init = some ⟨oc_Limits_init, od_Limits_init, .func (PySem.W.fnOf "__init__" "Limits.__init__" (defArgs s_Limits_init) (defBody s_Limits_init) (defScope s_Limits_init) .none kV_Limits_init dc_Limits_init pm_Limits_init an_Limits_init cd_Limits_init ct_Limits_init), sl_Limits_init⟩)
    (c_Limits_init_ : PySem.W.codeIn K cd_Limits_init "Limits.__init__" = true)
    (k_Limits_init : PySem.W.keepIn K (.ref f_Limits_init) = true)
    (cl1 : PySem.W.plainGet K c_Limits Str.empty = true)
    (cl2 : PySem.W.hasDictIn K c_Limits = true)
    (cl3 : PySem.W.plainOver K c_Limits = true)
    (cl4 : PySem.W.findIn K (.ref c_Limits) "__setattr__" = some (some (.builtin "object.__setattr__")))
    (cr1 : PySem.W.readsIn K c_Limits (.type "type") = true)
    (cr2 : PySem.W.specialIn K (.ref c_Limits) "__getattribute__" = some (some (.builtin "type.__getattribute__")))
    (sp_Limits_moved : PySem.W.findIn K (.ref c_Limits) "moved" = some (some (.ref f_Limits_moved)))
    (ip_Limits_moved : PySem.W.isFn K (.ref f_Limits_moved) = true)
    (l_Limits_moved : K.lookup f_Limits_moved = some ⟨oc_Limits_moved, od_Limits_moved, .func (PySem.W.fnOf "moved" "Limits.moved" (defArgs s_Limits_moved) (defBody s_Limits_moved) (defScope s_Limits_moved) .none kV_Limits_moved dc_Limits_moved pm_Limits_moved an_Limits_moved cd_Limits_moved ct_Limits_moved), sl_Limits_moved⟩)
    (c_Limits_moved_ : PySem.W.codeIn K cd_Limits_moved "Limits.moved" = true)
    (k_Limits_moved : PySem.W.keepIn K (.ref f_Limits_moved) = true)
    (sp_Limits_contains : PySem.W.findIn K (.ref c_Limits) "__contains__" = some (some (.ref f_Limits_contains)))
    (ip_Limits_contains : PySem.W.isFn K (.ref f_Limits_contains) = true)
    (l_Limits_contains : K.lookup f_Limits_contains = some ⟨oc_Limits_contains, od_Limits_contains, .func (PySem.W.fnOf "__contains__" "Limits.__contains__" (defArgs s_Limits_contains) (defBody s_Limits_contains) (defScope s_Limits_contains) .none kV_Limits_contains dc_Limits_contains pm_Limits_contains an_Limits_contains cd_Limits_contains ct_Limits_contains), sl_Limits_contains⟩)
    (c_Limits_contains_ : PySem.W.codeIn K cd_Limits_contains "Limits.__contains__" = true)
    (k_Limits_contains : PySem.W.keepIn K (.ref f_Limits_contains) = true)
    (sp_Limits_and : PySem.W.findIn K (.ref c_Limits) "__and__" = some (some (.ref f_Limits_and)))
    (ip_Limits_and : PySem.W.isFn K (.ref f_Limits_and) = true)
    (l_Limits_and : K.lookup f_Limits_and = some ⟨oc_Limits_and, od_Limits_and, .func (PySem.W.fnOf "__and__" "Limits.__and__" (defArgs s_Limits_and) (defBody s_Limits_and) (defScope s_Limits_and) .none kV_Limits_and dc_Limits_and pm_Limits_and an_Limits_and cd_Limits_and ct_Limits_and), sl_Limits_and⟩)
    (c_Limits_and_ : PySem.W.codeIn K cd_Limits_and "Limits.__and__" = true)
    (k_Limits_and : PySem.W.keepIn K (.ref f_Limits_and) = true)
    (p1_Limits_since : PySem.W.findCls K (.ref c_Limits) (.type "type") "since" = some (.get (.builtin "classmethod.__get__") (.ref p_Limits_since) .none (.ref c_Limits)))
    (p2_Limits_since : PySem.W.recIn K p_Limits_since "classmethod" = some (.ref f_Limits_since :: r_Limits_since))
    (p3_Limits_since : PySem.W.fnIn K f_Limits_since = true)
    (l_Limits_since : K.lookup f_Limits_since = some ⟨oc_Limits_since, od_Limits_since, .func (PySem.W.fnOf "since" "Limits.since" (defArgs s_Limits_since) (defBody s_Limits_since) (defScope s_Limits_since) .none kV_Limits_since dc_Limits_since pm_Limits_since an_Limits_since cd_Limits_since ct_Limits_since), sl_Limits_since⟩)
    (c_Limits_since_ : PySem.W.codeIn K cd_Limits_since "Limits.since" = true)
    (k_Limits_since : PySem.W.keepIn K (.ref f_Limits_since) = true)
    (sp_Limits_eq : PySem.W.findIn K (.ref c_Limits) "__eq__" = some (some (.ref f_Limits_eq)))
    (ip_Limits_eq : PySem.W.isFn K (.ref f_Limits_eq) = true)
    (ne_ : PySem.W.findIn K (.ref c_Limits) "__ne__" = some (some (.builtin "object.__ne__")))
    (mr_ : PySem.W.mroIn K c_Limits (.type "object") = some true)
    (l_Limits_eq : K.lookup f_Limits_eq = some ⟨oc_Limits_eq, od_Limits_eq, .func (PySem.W.fnOf "__eq__" "Limits.__eq__" (defArgs s_Limits_eq) (defBody s_Limits_eq) (defScope s_Limits_eq) .none kV_Limits_eq dc_Limits_eq pm_Limits_eq an_Limits_eq cd_Limits_eq ct_Limits_eq), sl_Limits_eq⟩)
    (c_Limits_eq_ : PySem.W.codeIn K cd_Limits_eq "Limits.__eq__" = true)
    (k_Limits_eq : PySem.W.keepIn K (.ref f_Limits_eq) = true)
    (p1_Limits_only : PySem.W.findCls K (.ref c_Limits) (.type "type") "only" = some (.get (.builtin "classmethod.__get__") (.ref p_Limits_only) .none (.ref c_Limits)))
    (p2_Limits_only : PySem.W.recIn K p_Limits_only "classmethod" = some (.ref f_Limits_only :: r_Limits_only))
    (p3_Limits_only : PySem.W.fnIn K f_Limits_only = true)
    (l_Limits_only : K.lookup f_Limits_only = some ⟨oc_Limits_only, od_Limits_only, .func (PySem.W.fnOf "only" "Limits.only" (defArgs s_Limits_only) (defBody s_Limits_only) (defScope s_Limits_only) .none kV_Limits_only dc_Limits_only pm_Limits_only an_Limits_only cd_Limits_only ct_Limits_only), sl_Limits_only⟩)
    (c_Limits_only_ : PySem.W.codeIn K cd_Limits_only "Limits.only" = true)
    (k_Limits_only : PySem.W.keepIn K (.ref f_Limits_only) = true)
    (p1_Limits_every : PySem.W.findCls K (.ref c_Limits) (.type "type") "every" = some (.get (.builtin "classmethod.__get__") (.ref p_Limits_every) .none (.ref c_Limits)))
    (p2_Limits_every : PySem.W.recIn K p_Limits_every "classmethod" = some (.ref f_Limits_every :: r_Limits_every))
    (p3_Limits_every : PySem.W.fnIn K f_Limits_every = true)
    (l_Limits_every : K.lookup f_Limits_every = some ⟨oc_Limits_every, od_Limits_every, .func (PySem.W.fnOf "every" "Limits.every" (defArgs s_Limits_every) (defBody s_Limits_every) (defScope s_Limits_every) .none kV_Limits_every dc_Limits_every pm_Limits_every an_Limits_every cd_Limits_every ct_Limits_every), sl_Limits_every⟩)
    (c_Limits_every_ : PySem.W.codeIn K cd_Limits_every "Limits.every" = true)
    (k_Limits_every : PySem.W.keepIn K (.ref f_Limits_every) = true)
    (p1_Limits_none : PySem.W.findCls K (.ref c_Limits) (.type "type") "none" = some (.get (.builtin "classmethod.__get__") (.ref p_Limits_none) .none (.ref c_Limits)))
    (p2_Limits_none : PySem.W.recIn K p_Limits_none "classmethod" = some (.ref f_Limits_none :: r_Limits_none))
    (p3_Limits_none : PySem.W.fnIn K f_Limits_none = true)
    (l_Limits_none : K.lookup f_Limits_none = some ⟨oc_Limits_none, od_Limits_none, .func (PySem.W.fnOf "none" "Limits.none" (defArgs s_Limits_none) (defBody s_Limits_none) (defScope s_Limits_none) .none kV_Limits_none dc_Limits_none pm_Limits_none an_Limits_none cd_Limits_none ct_Limits_none), sl_Limits_none⟩)
    (c_Limits_none_ : PySem.W.codeIn K cd_Limits_none "Limits.none" = true)
    (k_Limits_none : PySem.W.keepIn K (.ref f_Limits_none) = true)
    (na__cycle : PySem.W.findIn K (.ref c_Limits) "_cycle" = some none)
    (na__span : PySem.W.findIn K (.ref c_Limits) "_span" = some none)
    (na__early : PySem.W.findIn K (.ref c_Limits) "_early" = some none)
    (na__low : PySem.W.findIn K (.ref c_Limits) "_low" = some none)
    (na__few : PySem.W.findIn K (.ref c_Limits) "_few" = some none)
    (na__rests : PySem.W.findIn K (.ref c_Limits) "_rests" = some none)
    (a_PRIMES : PySem.W.nsIn K mainGlobals "PRIMES" = some (some (.ref t_PRIMES)))
    (d_PRIMES : K.lookup t_PRIMES = some ⟨.type "tuple", o_PRIMES, .seq i_PRIMES n_PRIMES, q_PRIMES⟩)
    (v_PRIMES : Vals vs_PRIMES i_PRIMES.toList)
    (w_PRIMES : i_PRIMES.size ≤ sizeLine)
    (sf_ : PySem.W.selfFirst K c_Limits = true)
    (ic1 : PySem.W.findIn K (.ref c_Limits) "__class__" = some (some (.builtin "object.__class__")))
    (ic2 : PySem.W.specialIn K (.builtin "object.__class__") "__get__" = some (some (.builtin "getset_descriptor.__get__")))
    (ic3 : PySem.W.takesIn K (.builtin "object.__class__") = some true)
    (ic4 : PySem.W.kitOne K (.ref c_Limits) (.ref c_Limits) = some true)
    (kt0 : PySem.W.kitOne K (.type "NoneType") (.ref c_Limits) = some false)
    (kt1 : PySem.W.kitOne K (.type "str") (.ref c_Limits) = some false)
    (kt2 : PySem.W.kitOne K (.type "tuple") (.ref c_Limits) = some false)
    (kt3 : PySem.W.kitOne K (.type "int") (.ref c_Limits) = some false)
    (kt4 : PySem.W.kitOne K (.type "bool") (.ref c_Limits) = some false)
    (kt5 : PySem.W.kitOne K (.type "list") (.ref c_Limits) = some false)
    (kt6 : PySem.W.kitOne K (.type "dict") (.ref c_Limits) = some false)
    (ca_TooMany : PySem.W.nsIn K mainGlobals "TooMany" = some (some (.ref c_TooMany)))
    (cj_TooMany : PySem.W.findIn K (.ref c_TooMany) "__init__" = some (some (.ref i_TooMany)))
    (ct_TooMany : PySem.W.typeIn K (.ref i_TooMany) = some (.type "function"))
    (cl_TooMany : K.lookup i_TooMany = some ⟨ocITooMany, odITooMany, .func (PySem.W.fnOf "__init__" "TooMany.__init__" (defArgs si_TooMany) (defBody si_TooMany) (defScope si_TooMany) .none kVITooMany dcITooMany pmITooMany anITooMany cdITooMany ctITooMany), slITooMany⟩)
    (cc_TooMany : PySem.W.codeIn K cdITooMany "TooMany.__init__" = true)
    (ck_TooMany : PySem.W.keepIn K (.ref i_TooMany) = true)
    (cb_TooMany : clB K c_TooMany [.type "OverflowError", .type "ArithmeticError", .type "Exception", .type "BaseException", .type "object"] "OverflowError.__new__" "limit" = true)
    (sb_TooMany : PySem.W.subIn K (.ref c_TooMany) (.type "BaseException") = some true)
    (sy_TooMany : PySem.W.typeIn K (.ref c_TooMany) = some (.type "type"))
    (exm_ : PySem.W.exmOne K (.ref c_TooMany) (.ref c_TooMany) = some true)
    (z_lcm_ : PySem.W.nsIn K mainGlobals "lcm" = some (some (.builtin "math.lcm")))
    (lk_law : K.lookup cL_law = some ⟨ck_law, ci_law, .fields vs_law, cq_law⟩)
    (v11_law : (vs_law[11]? : Option Value) = some (.ref PL_law))
    (t_law : PySem.W.tabIn K "law" = some (cL_law, PL_law))
    (hd_law : PySem.W.codeHdIn K cL_law PL_law = true)
    (nk_law : K.lookup PL_law = none)
    (mem_law : ts.contains PL_law = true) :
    ∃ (fd : FuncData) (cs : List (Str × Addr × Addr)), cs.map (·.1) = (["law"] : List Str) ∧ Mkrs K h cs ∧ ∀ base : Heap, K.In base → base.Ns mainGlobals mg → (∀ t ∈ cs, LamX.TabB base mg t.2.1 t.2.2) → FG P w K mg base 9 fa fd 1 F_law := by
  have e := hfa.symm.trans (PySem.W.mg_of X G a_law)
  cases e
  have T : Txt mg := ⟨PySem.W.mg_none_of X G z_abs, PySem.W.mg_none_of X G z_int, PySem.W.mg_none_of X G z_isinstance, PySem.W.mg_none_of X G z_len, PySem.W.mg_none_of X G z_max, PySem.W.mg_none_of X G z_min, PySem.W.mg_none_of X G z_range, PySem.W.mg_none_of X G z_repr, PySem.W.mg_none_of X G z_sum, PySem.W.mg_none_of X G z_tuple, PySem.W.mg_none_of X G z_type, PySem.W.mg_of X G z_lcm_, ⟨_, PySem.W.mg_of X G x_LARGEST⟩, ⟨_, PySem.W.mg_of X G x_MOST_MEMBERS⟩⟩
  have CL : Cls K c_Limits := ⟨cl1, cl2, cl3, cl4⟩
  have u_Limits_init := fun_mk (st := s_Limits_init) l_Limits_init c_Limits_init_ k_Limits_init
  have u_Limits_moved := fun_mk (st := s_Limits_moved) l_Limits_moved c_Limits_moved_ k_Limits_moved
  have u_Limits_contains := fun_mk (st := s_Limits_contains) l_Limits_contains c_Limits_contains_ k_Limits_contains
  have u_Limits_and := fun_mk (st := s_Limits_and) l_Limits_and c_Limits_and_ k_Limits_and
  have u_Limits_since := fun_mk (st := s_Limits_since) l_Limits_since c_Limits_since_ k_Limits_since
  have u_Limits_eq := fun_mk (st := s_Limits_eq) l_Limits_eq c_Limits_eq_ k_Limits_eq
  have u_Limits_only := fun_mk (st := s_Limits_only) l_Limits_only c_Limits_only_ k_Limits_only
  have u_Limits_every := fun_mk (st := s_Limits_every) l_Limits_every c_Limits_every_ k_Limits_every
  have u_Limits_none := fun_mk (st := s_Limits_none) l_Limits_none c_Limits_none_ k_Limits_none
  have u__law_is_refused := fun_mk (st := s__law_is_refused) l__law_is_refused c__law_is_refused_ k__law_is_refused
  have CF : ∀ base : Heap, TC P w K mg base { c_Limits := c_Limits, f_Limits_init := f_Limits_init, f_Limits_moved := f_Limits_moved, f_Limits_contains := f_Limits_contains, f_Limits_and := f_Limits_and, f_Limits_since := f_Limits_since, f_Limits_eq := f_Limits_eq, f_Limits_only := f_Limits_only, f_Limits_every := f_Limits_every, f_Limits_none := f_Limits_none, p_Limits_since := p_Limits_since, p_Limits_only := p_Limits_only, p_Limits_every := p_Limits_every, p_Limits_none := p_Limits_none, t_PRIMES := t_PRIMES, c_TooMany := c_TooMany, i_TooMany := i_TooMany, f_met := f__law_is_refused, d_Limits_init := (PySem.W.fnOf "__init__" "Limits.__init__" (defArgs s_Limits_init) (defBody s_Limits_init) (defScope s_Limits_init) .none kV_Limits_init dc_Limits_init pm_Limits_init an_Limits_init cd_Limits_init ct_Limits_init), d_Limits_moved := (PySem.W.fnOf "moved" "Limits.moved" (defArgs s_Limits_moved) (defBody s_Limits_moved) (defScope s_Limits_moved) .none kV_Limits_moved dc_Limits_moved pm_Limits_moved an_Limits_moved cd_Limits_moved ct_Limits_moved), d_Limits_contains := (PySem.W.fnOf "__contains__" "Limits.__contains__" (defArgs s_Limits_contains) (defBody s_Limits_contains) (defScope s_Limits_contains) .none kV_Limits_contains dc_Limits_contains pm_Limits_contains an_Limits_contains cd_Limits_contains ct_Limits_contains), d_Limits_and := (PySem.W.fnOf "__and__" "Limits.__and__" (defArgs s_Limits_and) (defBody s_Limits_and) (defScope s_Limits_and) .none kV_Limits_and dc_Limits_and pm_Limits_and an_Limits_and cd_Limits_and ct_Limits_and), d_Limits_since := (PySem.W.fnOf "since" "Limits.since" (defArgs s_Limits_since) (defBody s_Limits_since) (defScope s_Limits_since) .none kV_Limits_since dc_Limits_since pm_Limits_since an_Limits_since cd_Limits_since ct_Limits_since), d_Limits_eq := (PySem.W.fnOf "__eq__" "Limits.__eq__" (defArgs s_Limits_eq) (defBody s_Limits_eq) (defScope s_Limits_eq) .none kV_Limits_eq dc_Limits_eq pm_Limits_eq an_Limits_eq cd_Limits_eq ct_Limits_eq), d_Limits_only := (PySem.W.fnOf "only" "Limits.only" (defArgs s_Limits_only) (defBody s_Limits_only) (defScope s_Limits_only) .none kV_Limits_only dc_Limits_only pm_Limits_only an_Limits_only cd_Limits_only ct_Limits_only), d_Limits_every := (PySem.W.fnOf "every" "Limits.every" (defArgs s_Limits_every) (defBody s_Limits_every) (defScope s_Limits_every) .none kV_Limits_every dc_Limits_every pm_Limits_every an_Limits_every cd_Limits_every ct_Limits_every), d_Limits_none := (PySem.W.fnOf "none" "Limits.none" (defArgs s_Limits_none) (defBody s_Limits_none) (defScope s_Limits_none) .none kV_Limits_none dc_Limits_none pm_Limits_none an_Limits_none cd_Limits_none ct_Limits_none), d_TooMany := (PySem.W.fnOf "__init__" "TooMany.__init__" (defArgs si_TooMany) (defBody si_TooMany) (defScope si_TooMany) .none kVITooMany dcITooMany pmITooMany anITooMany cdITooMany ctITooMany), d_met := (PySem.W.fnOf "_law_is_refused" "_law_is_refused" (defArgs s__law_is_refused) (defBody s__law_is_refused) (defScope s__law_is_refused) .none kV__law_is_refused dc__law_is_refused pm__law_is_refused an__law_is_refused cd__law_is_refused ct__law_is_refused), mc_Limits := .type "type" } := fun base => {
    ns_Limits := ca_Limits
    m_Limits := PySem.W.mg_of X G ca_Limits
    mk_Limits := ⟨mk1, mk2, mk3, mk4⟩
    cl_Limits := CL
    cr_Limits := ⟨cr1, cr2⟩
    me_Limits_moved := ⟨sp_Limits_moved, ip_Limits_moved, k_Limits_moved⟩
    s_Limits_contains := sp_Limits_contains
    i_Limits_contains := ip_Limits_contains
    s_Limits_and := sp_Limits_and
    i_Limits_and := ip_Limits_and
    cm_Limits_since := ⟨p1_Limits_since, ⟨_, p2_Limits_since⟩, p3_Limits_since⟩
    s_Limits_eq := sp_Limits_eq
    i_Limits_eq := ip_Limits_eq
    ne_Limits := ne_
    mr_Limits := mr_
    cm_Limits_only := ⟨p1_Limits_only, ⟨_, p2_Limits_only⟩, p3_Limits_only⟩
    cm_Limits_every := ⟨p1_Limits_every, ⟨_, p2_Limits_every⟩, p3_Limits_every⟩
    cm_Limits_none := ⟨p1_Limits_none, ⟨_, p2_Limits_none⟩, p3_Limits_none⟩
    fld__cycle := fun n D hn hd => by
      rw [List.mem_singleton] at hn
      subst hn
      have e := ca_Limits.symm.trans hd
      cases e
      exact ⟨CL, na__cycle⟩
    fld__span := fun n D hn hd => by
      rw [List.mem_singleton] at hn
      subst hn
      have e := ca_Limits.symm.trans hd
      cases e
      exact ⟨CL, na__span⟩
    fld__early := fun n D hn hd => by
      rw [List.mem_singleton] at hn
      subst hn
      have e := ca_Limits.symm.trans hd
      cases e
      exact ⟨CL, na__early⟩
    fld__low := fun n D hn hd => by
      rw [List.mem_singleton] at hn
      subst hn
      have e := ca_Limits.symm.trans hd
      cases e
      exact ⟨CL, na__low⟩
    fld__few := fun n D hn hd => by
      rw [List.mem_singleton] at hn
      subst hn
      have e := ca_Limits.symm.trans hd
      cases e
      exact ⟨CL, na__few⟩
    fld__rests := fun n D hn hd => by
      rw [List.mem_singleton] at hn
      subst hn
      have e := ca_Limits.symm.trans hd
      cases e
      exact ⟨CL, na__rests⟩
    m_PRIMES := PySem.W.mg_of X G a_PRIMES
    t_PRIMES := fun _ => .inr ⟨_, _, _, d_PRIMES, rfl, rfl, w_PRIMES, v_PRIMES⟩
    sf_Limits := sf_
    ic_Limits := ⟨CL, ic1, ic2, ic3, mr_, ic4⟩
    kt_Limits := fun T b hb => by
      unfold tabP at hb
      split at hb
      · rename_i hT
        cases hb
        rcases hT with rfl | rfl | rfl | rfl | rfl | rfl | rfl
        · exact kt0
        · exact kt1
        · exact kt2
        · exact kt3
        · exact kt4
        · exact kt5
        · exact kt6
      · cases hb
    m_TooMany := PySem.W.mg_of X G ca_TooMany
    x_TooMany := (clB_ok cb_TooMany).1
    j_TooMany := cj_TooMany
    t_TooMany := ct_TooMany
    f_TooMany := fn_first (k := 0) PySem.F.store_OverflowError (clB_ok cb_TooMany).1 (clB_ok cb_TooMany).2.1 (fun_mk (st := si_TooMany) cl_TooMany cc_TooMany ck_TooMany) sci_TooMany rfl (fun _ _ _ _ _ _ => pv 0) (fun _ _ _ _ _ _ => pv 1) (fun _ => rfl)
    b_TooMany := Fun.binds (fun_mk (st := si_TooMany) cl_TooMany cc_TooMany ck_TooMany) (fun _ _ _ _ _ _ us hl => match us, hl with | [_, _], _ => rfl)
    sb_TooMany := sb_TooMany
    sy_TooMany := sy_TooMany
    xq_TooMany := (clB_ok cb_TooMany).2.2.2
    no_TooMany := (clB_ok cb_TooMany).2.2.1
    mm := PySem.W.mg_of X G a__law_is_refused
    fu_met := u__law_is_refused
    hex := exm_
    hh := fun n C hn hm => by
      unfold hTooMany at hn
      split at hn
      · rename_i e
        subst e
        have z := (PySem.W.mg_of X G ca_TooMany).symm.trans hm
        exact (Option.some.inj z).symm
      · cases hn }
  refine ⟨PySem.W.fnOf "law" "law" (defArgs s_law) (defBody s_law) (defScope s_law) .none kV_law dc_law pm_law an_law (.ref cL_law) ct_law, [("law", cL_law, PL_law)], rfl, ⟨?_, ?_, ?_, ?_, ?_⟩, fun base _ _ TB => ?_⟩
  · intro t ht
    simp only [List.mem_cons, List.not_mem_nil, or_false] at ht
    subst ht
    exact Yt _ (List.contains_iff_mem.mp mem_law)
  · intro t ht
    simp only [List.mem_cons, List.not_mem_nil, or_false] at ht
    subst ht
    exact nk_law
  · intro t ht
    simp only [List.mem_cons, List.not_mem_nil, or_false] at ht
    subst ht
    exact PySem.W.codeHd_of_K X hd_law
  · intro t ht
    simp only [List.mem_cons, List.not_mem_nil, or_false] at ht
    subst ht
    exact t_law
  · simp only [List.map_cons, List.map_nil, List.nodup_cons, List.mem_cons, List.not_mem_nil, or_false, not_false_eq_true, List.nodup_nil, and_true]
  have h__law_urn : Has P w K mg base "_law_urn" 1 2 F__law_urn := ⟨_, _, PySem.W.mg_of X G a__law_urn, ok__law_urn (P := P) (w := w) (base := base) (fun_mk (st := s__law_urn) l__law_urn c__law_urn_ k__law_urn) T (CF base)⟩
  have h__law_toss : Has P w K mg base "_law_toss" 1 2 F__law_toss := ⟨_, _, PySem.W.mg_of X G a__law_toss, ok__law_toss (P := P) (w := w) (base := base) (fun_mk (st := s__law_toss) l__law_toss c__law_toss_ k__law_toss) T (CF base)⟩
  have h__law_pick : Has P w K mg base "_law_pick" 2 2 F__law_pick := ⟨_, _, PySem.W.mg_of X G a__law_pick, ok__law_pick (P := P) (w := w) (base := base) (fun_mk (st := s__law_pick) l__law_pick c__law_pick_ k__law_pick) T (CF base) h__law_toss⟩
  have h__law_drawn : Has P w K mg base "_law_drawn" 3 1 F__law_drawn := ⟨_, _, PySem.W.mg_of X G a__law_drawn, ok__law_drawn (P := P) (w := w) (base := base) (fun_mk (st := s__law_drawn) l__law_drawn c__law_drawn_ k__law_drawn) T (CF base) h__law_pick h__law_toss⟩
  have h_is_whole_within : Has P w K mg base "is_whole_within" 1 3 F_is_whole_within := ⟨_, _, PySem.W.mg_of X G a_is_whole_within, ok_is_whole_within (P := P) (w := w) (base := base) (fun_mk (st := s_is_whole_within) l_is_whole_within c_is_whole_within_ k_is_whole_within) T (CF base)⟩
  have h_is_ascending_below : Has P w K mg base "is_ascending_below" 1 2 F_is_ascending_below := ⟨_, _, PySem.W.mg_of X G a_is_ascending_below, ok_is_ascending_below (P := P) (w := w) (base := base) (fun_mk (st := s_is_ascending_below) l_is_ascending_below c_is_ascending_below_ k_is_ascending_below) T (CF base)⟩
  have h__tell_a_set : Has P w K mg base "_tell_a_set" 2 4 F__tell_a_set := ⟨_, _, PySem.W.mg_of X G a__tell_a_set, ok__tell_a_set (P := P) (w := w) (base := base) (fun_mk (st := s__tell_a_set) l__tell_a_set c__tell_a_set_ k__tell_a_set) T (CF base) h_is_ascending_below h_is_whole_within⟩
  have h__shorter : Has P w K mg base "_shorter" 1 3 F__shorter := ⟨_, _, PySem.W.mg_of X G a__shorter, ok__shorter (P := P) (w := w) (base := base) (fun_mk (st := s__shorter) l__shorter c__shorter_ k__shorter) T (CF base)⟩
  have h__least_cycle : Has P w K mg base "_least_cycle" 2 2 F__least_cycle := ⟨_, _, PySem.W.mg_of X G a__least_cycle, ok__least_cycle (P := P) (w := w) (base := base) (fun_mk (st := s__least_cycle) l__least_cycle c__least_cycle_ k__least_cycle) T (CF base) h__shorter⟩
  have h__bits : Has P w K mg base "_bits" 1 1 F__bits := ⟨_, _, PySem.W.mg_of X G a__bits, ok__bits (P := P) (w := w) (base := base) (fun_mk (st := s__bits) l__bits c__bits_ k__bits) T (CF base)⟩
  have h__filled : Has P w K mg base "_filled" 1 3 F__filled := ⟨_, _, PySem.W.mg_of X G a__filled, ok__filled (P := P) (w := w) (base := base) (fun_mk (st := s__filled) l__filled c__filled_ k__filled) T (CF base)⟩
  have h__least_early : Has P w K mg base "_least_early" 2 4 F__least_early := ⟨_, _, PySem.W.mg_of X G a__least_early, ok__least_early (P := P) (w := w) (base := base) (fun_mk (st := s__least_early) l__least_early c__least_early_ k__least_early) T (CF base) h__filled⟩
  have h_Limits_init := ok_Limits_init (P := P) (w := w) (base := base) u_Limits_init T (CF base) h__bits h__least_cycle h__least_early h__tell_a_set
  have h__law_limits : Has P w K mg base "_law_limits" 5 1 F__law_limits := ⟨_, _, PySem.W.mg_of X G a__law_limits, ok__law_limits (P := P) (w := w) (base := base) (fun_mk (st := s__law_limits) l__law_limits c__law_limits_ k__law_limits) T (CF base) h_Limits_init⟩
  have h__made : Has P w K mg base "_made" 5 4 F__made := ⟨_, _, PySem.W.mg_of X G a__made, ok__made (P := P) (w := w) (base := base) (fun_mk (st := s__made) l__made c__made_ k__made) T (CF base) h__least_cycle h__least_early h_Limits_init⟩
  have h__turned : Has P w K mg base "_turned" 1 3 F__turned := ⟨_, _, PySem.W.mg_of X G a__turned, ok__turned (P := P) (w := w) (base := base) (fun_mk (st := s__turned) l__turned c__turned_ k__turned) T (CF base)⟩
  have h_Limits_moved := ok_Limits_moved (P := P) (w := w) (base := base) u_Limits_moved T (CF base) h__made h__turned h_is_whole_within
  have h_is_whole_from : Has P w K mg base "is_whole_from" 1 2 F_is_whole_from := ⟨_, _, PySem.W.mg_of X G a_is_whole_from, ok_is_whole_from (P := P) (w := w) (base := base) (fun_mk (st := s_is_whole_from) l_is_whole_from c_is_whole_from_ k_is_whole_from) T (CF base)⟩
  have h_Limits_contains := ok_Limits_contains (P := P) (w := w) (base := base) u_Limits_contains T (CF base) h_is_whole_from
  have h__law_has : Has P w K mg base "_law_has" 1 2 F__law_has := ⟨_, _, PySem.W.mg_of X G a__law_has, ok__law_has (P := P) (w := w) (base := base) (fun_mk (st := s__law_has) l__law_has c__law_has_ k__law_has) T (CF base)⟩
  have h__early_below : Has P w K mg base "_early_below" 2 2 F__early_below := ⟨_, _, PySem.W.mg_of X G a__early_below, ok__early_below (P := P) (w := w) (base := base) (fun_mk (st := s__early_below) l__early_below c__early_below_ k__early_below) T (CF base) h__filled⟩
  have h__aligned : Has P w K mg base "_aligned" 3 2 F__aligned := ⟨_, _, PySem.W.mg_of X G a__aligned, ok__aligned (P := P) (w := w) (base := base) (fun_mk (st := s__aligned) l__aligned c__aligned_ k__aligned) T (CF base) h__early_below h__filled⟩
  have h_Limits_and := ok_Limits_and (P := P) (w := w) (base := base) u_Limits_and T (CF base) h__aligned h__made
  have h_Limits_since := ok_Limits_since (P := P) (w := w) (base := base) u_Limits_since T (CF base) h_is_whole_within h_Limits_init
  have h_Limits_eq := ok_Limits_eq (P := P) (w := w) (base := base) u_Limits_eq T (CF base)
  have h__law_right : Has P w K mg base "_law_right" 7 1 F__law_right := ⟨_, _, PySem.W.mg_of X G a__law_right, ok__law_right (P := P) (w := w) (base := base) (fun_mk (st := s__law_right) l__law_right c__law_right_ k__law_right) T (CF base) h__law_drawn h__law_has h__law_limits h__law_toss h_Limits_and h_Limits_contains h_Limits_eq h_Limits_moved h_Limits_since⟩
  have h_Limits_only := ok_Limits_only (P := P) (w := w) (base := base) u_Limits_only T (CF base) h_Limits_init
  have h_Limits_every := ok_Limits_every (P := P) (w := w) (base := base) u_Limits_every T (CF base) h_Limits_init
  have h_Limits_none := ok_Limits_none (P := P) (w := w) (base := base) u_Limits_none T (CF base) h_Limits_init
  exact ok_law (P := P) (w := w) (base := base) (fun_mk (st := s_law) l_law c_law_ k_law) T (CF base) h__law_right h__law_urn h_Limits_eq h_Limits_every h_Limits_init h_Limits_moved h_Limits_none h_Limits_only h_Limits_since (TB _ (List.mem_of_getElem? (i := 0) rfl)) t_law a_law
theorem walkS {l : PySem.W.OpenLaw} {q : Program} {loose : List Str} {XP : (Str → Option Value) → Heap → Prop} {YP : World → Heap → Prop} {d : DefRec} {K : Params → PySem.W.Frag} (hn : l.most = some 63) (hdf : d.params.defaults = [])
    (hY : ∀ (w : World) (h : Heap), YP w h → (K w.params).In h)
    (F : ∀ (w : World) (mg : Str → Option Value) (fa : Addr) (h : Heap), YP w h → (K w.params).In h → h.Ns mainGlobals mg → mg d.name = some (.ref fa) →
      ∃ (fd : FuncData) (cs : List (Str × Addr × Addr)), cs.map (·.1) = (["law"] : List Str) ∧ Mkrs (K w.params) h cs ∧ ∀ base : Heap, (K w.params).In base → base.Ns mainGlobals mg → (∀ t ∈ cs, LamX.TabB base mg t.2.1 t.2.2) → FG l.prog w (K w.params) mg base 9 fa fd 1 F_law) :
    PySem.W.WalkO q loose XP YP l.row.toRowW d [] (fun f vs => PySem.call f vs) :=
  walkT (n := 63) (k := 9) (F := F_law) (xs := (["law"] : List Str)) hn (by decide) hdf ⟨rfl, by decide, by decide⟩ hY F law_ok
end
end G
open PySem PySem.W PyProof.Rows
set_option maxRecDepth 100000 in
set_option maxHeartbeats 0 in
theorem PySem.Challenge.cw_deepenough_k05_sets_moved_holds : PySem.Challenge.rw_deepenough_k05_sets_moved.Holds := by
  w_on; o_law; k_head; (case hw => w_witness2)
  k_fill
  refine G.walkS (l := PySem.Challenge.rw_deepenough_k05_sets_moved) rfl rfl (fun w h Y => PySem.W.km_in_of Y) ?F
  case F =>
    intro w mg fa h Y KX Gn hmg
    refine' G.all_mk (PySem.W.km_tabs_of Y) KX Gn hmg ?a__law_urn ?l__law_urn ?c__law_urn_ ?k__law_urn ?a__law_toss ?l__law_toss ?c__law_toss_ ?k__law_toss ?a__law_pick ?l__law_pick ?c__law_pick_ ?k__law_pick ?a__law_drawn ?l__law_drawn ?c__law_drawn_ ?k__law_drawn ?a_is_whole_within ?l_is_whole_within ?c_is_whole_within_ ?k_is_whole_within ?a_is_ascending_below ?l_is_ascending_below ?c_is_ascending_below_ ?k_is_ascending_below ?a__tell_a_set ?l__tell_a_set ?c__tell_a_set_ ?k__tell_a_set ?a__shorter ?l__shorter ?c__shorter_ ?k__shorter ?a__least_cycle ?l__least_cycle ?c__least_cycle_ ?k__least_cycle ?a__bits ?l__bits ?c__bits_ ?k__bits ?a__filled ?l__filled ?c__filled_ ?k__filled ?a__least_early ?l__least_early ?c__least_early_ ?k__least_early ?a__law_limits ?l__law_limits ?c__law_limits_ ?k__law_limits ?a__made ?l__made ?c__made_ ?k__made ?a__turned ?l__turned ?c__turned_ ?k__turned ?a_is_whole_from ?l_is_whole_from ?c_is_whole_from_ ?k_is_whole_from ?a__law_has ?l__law_has ?c__law_has_ ?k__law_has ?a__early_below ?l__early_below ?c__early_below_ ?k__early_below ?a__aligned ?l__aligned ?c__aligned_ ?k__aligned ?a__law_right ?l__law_right ?c__law_right_ ?k__law_right ?a_law ?l_law ?c_law_ ?k_law ?a__law_is_refused ?l__law_is_refused ?c__law_is_refused_ ?k__law_is_refused ?z_abs ?z_int ?z_isinstance ?z_len ?z_max ?z_min ?z_range ?z_repr ?z_sum ?z_tuple ?z_type ?x_LARGEST ?x_MOST_MEMBERS ?ca_Limits ?mk1 ?mk2 ?mk3 ?mk4 ?l_Limits_init ?c_Limits_init_ ?k_Limits_init ?cl1 ?cl2 ?cl3 ?cl4 ?cr1 ?cr2 ?sp_Limits_moved ?ip_Limits_moved ?l_Limits_moved ?c_Limits_moved_ ?k_Limits_moved ?sp_Limits_contains ?ip_Limits_contains ?l_Limits_contains ?c_Limits_contains_ ?k_Limits_contains ?sp_Limits_and ?ip_Limits_and ?l_Limits_and ?c_Limits_and_ ?k_Limits_and ?p1_Limits_since ?p2_Limits_since ?p3_Limits_since ?l_Limits_since ?c_Limits_since_ ?k_Limits_since ?sp_Limits_eq ?ip_Limits_eq ?ne_ ?mr_ ?l_Limits_eq ?c_Limits_eq_ ?k_Limits_eq ?p1_Limits_only ?p2_Limits_only ?p3_Limits_only ?l_Limits_only ?c_Limits_only_ ?k_Limits_only ?p1_Limits_every ?p2_Limits_every ?p3_Limits_every ?l_Limits_every ?c_Limits_every_ ?k_Limits_every ?p1_Limits_none ?p2_Limits_none ?p3_Limits_none ?l_Limits_none ?c_Limits_none_ ?k_Limits_none ?na__cycle ?na__span ?na__early ?na__low ?na__few ?na__rests ?a_PRIMES ?d_PRIMES ?v_PRIMES ?w_PRIMES ?sf_ ?ic1 ?ic2 ?ic3 ?ic4 ?kt0 ?kt1 ?kt2 ?kt3 ?kt4 ?kt5 ?kt6 ?ca_TooMany ?cj_TooMany ?ct_TooMany ?cl_TooMany ?cc_TooMany ?ck_TooMany ?cb_TooMany ?sb_TooMany ?sy_TooMany ?exm_ ?z_lcm_ ?lk_law ?v11_law ?t_law ?hd_law ?nk_law ?mem_law
    (case a__law_urn => first | k_is | kernel_rfl | rfl)
    (case l__law_urn => first | k_is | kernel_rfl | rfl)
    (case c__law_urn_ => first | k_is | kernel_rfl | rfl)
    (case k__law_urn => first | k_is | kernel_rfl | rfl)
    (case a__law_toss => first | k_is | kernel_rfl | rfl)
    (case l__law_toss => first | k_is | kernel_rfl | rfl)
    (case c__law_toss_ => first | k_is | kernel_rfl | rfl)
    (case k__law_toss => first | k_is | kernel_rfl | rfl)
    (case a__law_pick => first | k_is | kernel_rfl | rfl)
    (case l__law_pick => first | k_is | kernel_rfl | rfl)
    (case c__law_pick_ => first | k_is | kernel_rfl | rfl)
    (case k__law_pick => first | k_is | kernel_rfl | rfl)
    (case a__law_drawn => first | k_is | kernel_rfl | rfl)
    (case l__law_drawn => first | k_is | kernel_rfl | rfl)
    (case c__law_drawn_ => first | k_is | kernel_rfl | rfl)
    (case k__law_drawn => first | k_is | kernel_rfl | rfl)
    (case a_is_whole_within => first | k_is | kernel_rfl | rfl)
    (case l_is_whole_within => first | k_is | kernel_rfl | rfl)
    (case c_is_whole_within_ => first | k_is | kernel_rfl | rfl)
    (case k_is_whole_within => first | k_is | kernel_rfl | rfl)
    (case a_is_ascending_below => first | k_is | kernel_rfl | rfl)
    (case l_is_ascending_below => first | k_is | kernel_rfl | rfl)
    (case c_is_ascending_below_ => first | k_is | kernel_rfl | rfl)
    (case k_is_ascending_below => first | k_is | kernel_rfl | rfl)
    (case a__tell_a_set => first | k_is | kernel_rfl | rfl)
    (case l__tell_a_set => first | k_is | kernel_rfl | rfl)
    (case c__tell_a_set_ => first | k_is | kernel_rfl | rfl)
    (case k__tell_a_set => first | k_is | kernel_rfl | rfl)
    (case a__shorter => first | k_is | kernel_rfl | rfl)
    (case l__shorter => first | k_is | kernel_rfl | rfl)
    (case c__shorter_ => first | k_is | kernel_rfl | rfl)
    (case k__shorter => first | k_is | kernel_rfl | rfl)
    (case a__least_cycle => first | k_is | kernel_rfl | rfl)
    (case l__least_cycle => first | k_is | kernel_rfl | rfl)
    (case c__least_cycle_ => first | k_is | kernel_rfl | rfl)
    (case k__least_cycle => first | k_is | kernel_rfl | rfl)
    (case a__bits => first | k_is | kernel_rfl | rfl)
    (case l__bits => first | k_is | kernel_rfl | rfl)
    (case c__bits_ => first | k_is | kernel_rfl | rfl)
    (case k__bits => first | k_is | kernel_rfl | rfl)
    (case a__filled => first | k_is | kernel_rfl | rfl)
    (case l__filled => first | k_is | kernel_rfl | rfl)
    (case c__filled_ => first | k_is | kernel_rfl | rfl)
    (case k__filled => first | k_is | kernel_rfl | rfl)
    (case a__least_early => first | k_is | kernel_rfl | rfl)
    (case l__least_early => first | k_is | kernel_rfl | rfl)
    (case c__least_early_ => first | k_is | kernel_rfl | rfl)
    (case k__least_early => first | k_is | kernel_rfl | rfl)
    (case a__law_limits => first | k_is | kernel_rfl | rfl)
    (case l__law_limits => first | k_is | kernel_rfl | rfl)
    (case c__law_limits_ => first | k_is | kernel_rfl | rfl)
    (case k__law_limits => first | k_is | kernel_rfl | rfl)
    (case a__made => first | k_is | kernel_rfl | rfl)
    (case l__made => first | k_is | kernel_rfl | rfl)
    (case c__made_ => first | k_is | kernel_rfl | rfl)
    (case k__made => first | k_is | kernel_rfl | rfl)
    (case a__turned => first | k_is | kernel_rfl | rfl)
    (case l__turned => first | k_is | kernel_rfl | rfl)
    (case c__turned_ => first | k_is | kernel_rfl | rfl)
    (case k__turned => first | k_is | kernel_rfl | rfl)
    (case a_is_whole_from => first | k_is | kernel_rfl | rfl)
    (case l_is_whole_from => first | k_is | kernel_rfl | rfl)
    (case c_is_whole_from_ => first | k_is | kernel_rfl | rfl)
    (case k_is_whole_from => first | k_is | kernel_rfl | rfl)
    (case a__law_has => first | k_is | kernel_rfl | rfl)
    (case l__law_has => first | k_is | kernel_rfl | rfl)
    (case c__law_has_ => first | k_is | kernel_rfl | rfl)
    (case k__law_has => first | k_is | kernel_rfl | rfl)
    (case a__early_below => first | k_is | kernel_rfl | rfl)
    (case l__early_below => first | k_is | kernel_rfl | rfl)
    (case c__early_below_ => first | k_is | kernel_rfl | rfl)
    (case k__early_below => first | k_is | kernel_rfl | rfl)
    (case a__aligned => first | k_is | kernel_rfl | rfl)
    (case l__aligned => first | k_is | kernel_rfl | rfl)
    (case c__aligned_ => first | k_is | kernel_rfl | rfl)
    (case k__aligned => first | k_is | kernel_rfl | rfl)
    (case a__law_right => first | k_is | kernel_rfl | rfl)
    (case l__law_right => first | k_is | kernel_rfl | rfl)
    (case c__law_right_ => first | k_is | kernel_rfl | rfl)
    (case k__law_right => first | k_is | kernel_rfl | rfl)
    (case a_law => first | k_is | kernel_rfl | rfl)
    (case l_law => first | k_is | kernel_rfl | rfl)
    (case c_law_ => first | k_is | kernel_rfl | rfl)
    (case k_law => first | k_is | kernel_rfl | rfl)
    (case a__law_is_refused => first | k_is | kernel_rfl | rfl)
    (case l__law_is_refused => first | k_is | kernel_rfl | rfl)
    (case c__law_is_refused_ => first | k_is | kernel_rfl | rfl)
    (case k__law_is_refused => first | k_is | kernel_rfl | rfl)
    (case z_abs => first | k_is | kernel_rfl | rfl)
    (case z_int => first | k_is | kernel_rfl | rfl)
    (case z_isinstance => first | k_is | kernel_rfl | rfl)
    (case z_len => first | k_is | kernel_rfl | rfl)
    (case z_max => first | k_is | kernel_rfl | rfl)
    (case z_min => first | k_is | kernel_rfl | rfl)
    (case z_range => first | k_is | kernel_rfl | rfl)
    (case z_repr => first | k_is | kernel_rfl | rfl)
    (case z_sum => first | k_is | kernel_rfl | rfl)
    (case z_tuple => first | k_is | kernel_rfl | rfl)
    (case z_type => first | k_is | kernel_rfl | rfl)
    (case x_LARGEST => first | k_is | kernel_rfl | rfl)
    (case x_MOST_MEMBERS => first | k_is | kernel_rfl | rfl)
    (case ca_Limits => first | k_is | kernel_rfl | rfl)
    (case mk1 => first | k_is | kernel_rfl | rfl)
    (case mk2 => first | k_is | kernel_rfl | rfl)
    (case mk3 => first | k_is | kernel_rfl | rfl)
    (case mk4 => first | k_is | kernel_rfl | rfl)
    (case l_Limits_init => first | k_is | kernel_rfl | rfl)
    (case c_Limits_init_ => first | k_is | kernel_rfl | rfl)
    (case k_Limits_init => first | k_is | kernel_rfl | rfl)
    (case cl1 => first | k_is | kernel_rfl | rfl)
    (case cl2 => first | k_is | kernel_rfl | rfl)
    (case cl3 => first | k_is | kernel_rfl | rfl)
    (case cl4 => first | k_is | kernel_rfl | rfl)
    (case cr1 => first | k_is | kernel_rfl | rfl)
    (case cr2 => first | k_is | kernel_rfl | rfl)
    (case sp_Limits_moved => first | k_is | kernel_rfl | rfl)
    (case ip_Limits_moved => first | k_is | kernel_rfl | rfl)
    (case l_Limits_moved => first | k_is | kernel_rfl | rfl)
    (case c_Limits_moved_ => first | k_is | kernel_rfl | rfl)
    (case k_Limits_moved => first | k_is | kernel_rfl | rfl)
    (case sp_Limits_contains => first | k_is | kernel_rfl | rfl)
    (case ip_Limits_contains => first | k_is | kernel_rfl | rfl)
    (case l_Limits_contains => first | k_is | kernel_rfl | rfl)
    (case c_Limits_contains_ => first | k_is | kernel_rfl | rfl)
    (case k_Limits_contains => first | k_is | kernel_rfl | rfl)
    (case sp_Limits_and => first | k_is | kernel_rfl | rfl)
    (case ip_Limits_and => first | k_is | kernel_rfl | rfl)
    (case l_Limits_and => first | k_is | kernel_rfl | rfl)
    (case c_Limits_and_ => first | k_is | kernel_rfl | rfl)
    (case k_Limits_and => first | k_is | kernel_rfl | rfl)
    (case p1_Limits_since => first | k_is | kernel_rfl | rfl)
    (case p2_Limits_since => first | k_is | kernel_rfl | rfl)
    (case p3_Limits_since => first | k_is | kernel_rfl | rfl)
    (case l_Limits_since => first | k_is | kernel_rfl | rfl)
    (case c_Limits_since_ => first | k_is | kernel_rfl | rfl)
    (case k_Limits_since => first | k_is | kernel_rfl | rfl)
    (case sp_Limits_eq => first | k_is | kernel_rfl | rfl)
    (case ip_Limits_eq => first | k_is | kernel_rfl | rfl)
    (case ne_ => first | k_is | kernel_rfl | rfl)
    (case mr_ => first | k_is | kernel_rfl | rfl)
    (case l_Limits_eq => first | k_is | kernel_rfl | rfl)
    (case c_Limits_eq_ => first | k_is | kernel_rfl | rfl)
    (case k_Limits_eq => first | k_is | kernel_rfl | rfl)
    (case p1_Limits_only => first | k_is | kernel_rfl | rfl)
    (case p2_Limits_only => first | k_is | kernel_rfl | rfl)
    (case p3_Limits_only => first | k_is | kernel_rfl | rfl)
    (case l_Limits_only => first | k_is | kernel_rfl | rfl)
    (case c_Limits_only_ => first | k_is | kernel_rfl | rfl)
    (case k_Limits_only => first | k_is | kernel_rfl | rfl)
    (case p1_Limits_every => first | k_is | kernel_rfl | rfl)
    (case p2_Limits_every => first | k_is | kernel_rfl | rfl)
    (case p3_Limits_every => first | k_is | kernel_rfl | rfl)
    (case l_Limits_every => first | k_is | kernel_rfl | rfl)
    (case c_Limits_every_ => first | k_is | kernel_rfl | rfl)
    (case k_Limits_every => first | k_is | kernel_rfl | rfl)
    (case p1_Limits_none => first | k_is | kernel_rfl | rfl)
    (case p2_Limits_none => first | k_is | kernel_rfl | rfl)
    (case p3_Limits_none => first | k_is | kernel_rfl | rfl)
    (case l_Limits_none => first | k_is | kernel_rfl | rfl)
    (case c_Limits_none_ => first | k_is | kernel_rfl | rfl)
    (case k_Limits_none => first | k_is | kernel_rfl | rfl)
    (case na__cycle => first | k_is | kernel_rfl | rfl)
    (case na__span => first | k_is | kernel_rfl | rfl)
    (case na__early => first | k_is | kernel_rfl | rfl)
    (case na__low => first | k_is | kernel_rfl | rfl)
    (case na__few => first | k_is | kernel_rfl | rfl)
    (case na__rests => first | k_is | kernel_rfl | rfl)
    (case a_PRIMES => first | k_is | kernel_rfl | rfl)
    (case d_PRIMES => first | k_is | kernel_rfl | rfl)
    (case v_PRIMES => exact (.cons ⟨_, rfl⟩ (.cons ⟨_, rfl⟩ (.cons ⟨_, rfl⟩ (.cons ⟨_, rfl⟩ (.cons ⟨_, rfl⟩ (.cons ⟨_, rfl⟩ (.cons ⟨_, rfl⟩ (.cons ⟨_, rfl⟩ (.cons ⟨_, rfl⟩ (.cons ⟨_, rfl⟩ (.cons ⟨_, rfl⟩ (.cons ⟨_, rfl⟩ (.cons ⟨_, rfl⟩ (.cons ⟨_, rfl⟩ .nil)))))))))))))))
    (case w_PRIMES => decide)
    (case sf_ => first | k_is | kernel_rfl | rfl)
    (case ic1 => first | k_is | kernel_rfl | rfl)
    (case ic2 => first | k_is | kernel_rfl | rfl)
    (case ic3 => first | k_is | kernel_rfl | rfl)
    (case ic4 => first | k_is | kernel_rfl | rfl)
    (case kt0 => first | k_is | kernel_rfl | rfl)
    (case kt1 => first | k_is | kernel_rfl | rfl)
    (case kt2 => first | k_is | kernel_rfl | rfl)
    (case kt3 => first | k_is | kernel_rfl | rfl)
    (case kt4 => first | k_is | kernel_rfl | rfl)
    (case kt5 => first | k_is | kernel_rfl | rfl)
    (case kt6 => first | k_is | kernel_rfl | rfl)
    (case ca_TooMany => first | k_is | kernel_rfl | rfl)
    (case cj_TooMany => first | k_is | kernel_rfl | rfl)
    (case ct_TooMany => first | k_is | kernel_rfl | rfl)
    (case cl_TooMany => first | k_is | kernel_rfl | rfl)
    (case cc_TooMany => first | k_is | kernel_rfl | rfl)
    (case ck_TooMany => first | k_is | kernel_rfl | rfl)
    (case cb_TooMany => first | k_is | kernel_rfl | rfl)
    (case sb_TooMany => first | k_is | kernel_rfl | rfl)
    (case sy_TooMany => first | k_is | kernel_rfl | rfl)
    (case exm_ => first | k_is | kernel_rfl | rfl)
    (case z_lcm_ => first | k_is | kernel_rfl | rfl)
    (case lk_law => first | k_is | kernel_rfl | rfl)
    (case v11_law => rfl)
    (case t_law => first | k_is | kernel_rfl | rfl)
    (case hd_law => first | k_is | kernel_rfl | rfl)
    (case nk_law => first | k_is | kernel_rfl | rfl)
    (case mem_law => first | k_is | kernel_rfl | rfl)
