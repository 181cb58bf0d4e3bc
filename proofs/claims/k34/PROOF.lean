import PyProof.Rows.All
import Wide.All
import OpenK.AllK
import Wide.FinOn
import HandS.ForMost
import HandS.IsInst
import HandS.Flow
import HandS.Wide
import HandS.TupAny
import HandS.SortInts
import HandS.SortRule
import HandS.Star
import HandS.Conv
import KE.GoesMore
import KE.GoesEnum
import HandS.Exc
import HandS.ExcInit
import HandS.ExcOwn
import HandS.WordsExc
import HandS.Nested
import HandS.FStr
import HandS.Defaults
import KE.KExcSuper
import HandS.ExcSuper
import HandS.ExcField
import HandS.ExcIs
import HandS.SetFor
import KE.KExcIs
import HandS.Lambda
import HandS.CallLocal
import HandS.Style
import HandS.More
import HandS.Strs
import HandS.Deep
import HandS.EndTab
import PySem.Challenge.RW_crosslift_k34_whole_goals_opened_and_clo
set_option Elab.async false
set_option linter.all false
set_option maxRecDepth 100000
set_option maxHeartbeats 4000001
/-! DS1: what a def's activation knows of its data: trees, whose lists and dicts are shared for good (f), lent by the caller (b), or its own and known to nobody else (o). -/
namespace DL
open PySem PySem.Spec PyProof.Rows L2

inductive Tag where
  | f | b | o
  deriving DecidableEq
inductive D where
  | non | bl (b : Bool) | int (i : Int) | str (s : Str)
  | tup (l : List D) | lst (g : Tag) (l : List D) | dic (g : Tag) (ks : List Int) (vs : List D)
  | opq (a : Addr) | ty (n : String)

abbrev AS := Addr → Prop
/-- keys of a dict -/
def KsOk (kvs : List (Key × V)) (ks : List Int) : Prop := kvs.map (·.1) = ks.map Sum.inl

mutual
/-- v is d: shared things stand in G (those lent may be in B), own ones in H, at F in their order -/
inductive Rel (B : AS) (G H : Hp) : List Addr → V → D → Prop
  | non : Rel B G H [] .non .non
  | bl (b : Bool) : Rel B G H [] (.bl b) (.bl b)
  | int (i : Int) : Rel B G H [] (.int i) (.int i)
  | str (s : Str) : Rel B G H [] (.str s) (.str s)
  | opq (a : Addr) : Rel B G H [] (.ref a) (.opq a)
  | ty (n : String) : Rel B G H [] (.ty n) (.ty n)
  | tup {a : Addr} {vs : List V} {ds : List D} {F : List Addr} : G a = some (.tup vs) → Rels B G H F vs ds → Rel B G H F (.ref a) (.tup ds)
  | lstf {a : Addr} {vs : List V} {ds : List D} : G a = some (.lst vs) → ¬ B a → Rels B G H [] vs ds → Rel B G H [] (.ref a) (.lst .f ds)
  | lstb {a : Addr} {vs : List V} {ds : List D} : G a = some (.lst vs) → Rels B G H [] vs ds → Rel B G H [] (.ref a) (.lst .b ds)
  | lsto {a : Addr} {vs : List V} {ds : List D} {F : List Addr} : H a = some (.lst vs) → Rels B G H F vs ds → Rel B G H (a :: F) (.ref a) (.lst .o ds)
  | dicf {a : Addr} {kvs : List (Key × V)} {ks : List Int} {ds : List D} : Rd G a (.dK kvs) → ¬ B a → KsOk kvs ks → Rels B G H [] (kvs.map (·.2)) ds → Rel B G H [] (.ref a) (.dic .f ks ds)
  | dicb {a : Addr} {kvs : List (Key × V)} {ks : List Int} {ds : List D} : Rd G a (.dK kvs) → KsOk kvs ks → Rels B G H [] (kvs.map (·.2)) ds → Rel B G H [] (.ref a) (.dic .b ks ds)
  | dico {a : Addr} {kvs : List (Key × V)} {ks : List Int} {ds : List D} {F : List Addr} : H a = some (.dK kvs) → KsOk kvs ks → Rels B G H F (kvs.map (·.2)) ds → Rel B G H (a :: F) (.ref a) (.dic .o ks ds)
inductive Rels (B : AS) (G H : Hp) : List Addr → List V → List D → Prop
  | nil : Rels B G H [] [] []
  | cons {v : V} {d : D} {vs : List V} {ds : List D} {F E : List Addr} : Rel B G H F v d → Rels B G H E vs ds → Rels B G H (F ++ E) (v :: vs) (d :: ds)
end

section
variable {B B' : AS} {G G' H H' : Hp} {F F' E : List Addr}
/-- what is needed for shared things to stay -/
structure Le (B B' : AS) (G G' : Hp) : Prop where
  tup : ∀ a vs, G a = some (.tup vs) → G' a = some (.tup vs)
  lst : ∀ a vs, G a = some (.lst vs) → G' a = some (.lst vs)
  dic : ∀ a kvs, Rd G a (.dK kvs) → Rd G' a (.dK kvs)
  bor : ∀ a, G a ≠ none → ¬ B a → ¬ B' a
theorem Le.refl (B : AS) (G : Hp) : Le B B G G := ⟨fun _ _ h => h, fun _ _ h => h, fun _ _ h => h, fun _ _ h => h⟩
theorem Le.of_same (s : Same G G') : Le B B G G' :=
  ⟨fun _ _ h => s _ _ h, fun _ _ h => s _ _ h, fun _ _ h => h.elim (fun h => .inl (s _ _ h)) fun ⟨o, h⟩ => .inr ⟨o, s _ _ h⟩, fun _ _ h => h⟩
theorem some_ne {a : Addr} {o : HO} (h : G a = some o) : G a ≠ none := fun z => by rw [h] at z; cases z
theorem rd_ne {a : Addr} {o : HO} (h : Rd G a o) : G a ≠ none := h.elim some_ne fun ⟨_, h⟩ => some_ne h
mutual
theorem Rel.mono (l : Le B B' G G') : ∀ {F : List Addr} {v : V} {d : D}, (∀ a ∈ F, H' a = H a) → Rel B G H F v d → Rel B' G' H' F v d
  | _, _, _, _, .non => .non
  | _, _, _, _, .bl b => .bl b
  | _, _, _, _, .int i => .int i
  | _, _, _, _, .str i => .str i
  | _, _, _, _, .opq a => .opq a
  | _, _, _, _, .ty a => .ty a
  | _, _, _, p, .tup h r => .tup (l.tup _ _ h) (Rels.mono l p r)
  | _, _, _, p, .lstf h n r => .lstf (l.lst _ _ h) (l.bor _ (some_ne h) n) (Rels.mono l p r)
  | _, _, _, p, .lstb h r => .lstb (l.lst _ _ h) (Rels.mono l p r)
  | _, _, _, p, .lsto h r => .lsto ((p _ List.mem_cons_self).trans h) (Rels.mono l (fun a ha => p a (List.mem_cons_of_mem _ ha)) r)
  | _, _, _, p, .dicf h n e r => .dicf (l.dic _ _ h) (l.bor _ (rd_ne h) n) e (Rels.mono l p r)
  | _, _, _, p, .dicb h e r => .dicb (l.dic _ _ h) e (Rels.mono l p r)
  | _, _, _, p, .dico h e r => .dico ((p _ List.mem_cons_self).trans h) e (Rels.mono l (fun a ha => p a (List.mem_cons_of_mem _ ha)) r)
theorem Rels.mono (l : Le B B' G G') : ∀ {F : List Addr} {vs : List V} {ds : List D}, (∀ a ∈ F, H' a = H a) → Rels B G H F vs ds → Rels B' G' H' F vs ds
  | _, _, _, _, .nil => .nil
  | _, _, _, p, .cons r t => .cons (Rel.mono l (fun a ha => p a (List.mem_append_left _ ha)) r) (Rels.mono l (fun a ha => p a (List.mem_append_right _ ha)) t)
end
theorem Rels.length : ∀ {F : List Addr} {vs : List V} {ds : List D}, Rels B G H F vs ds → vs.length = ds.length
  | _, _, _, .nil => rfl
  | _, _, _, .cons _ t => by rw [List.length_cons, List.length_cons, Rels.length t]
theorem Rels.append : ∀ {F E : List Addr} {vs ws : List V} {ds es : List D}, Rels B G H F vs ds → Rels B G H E ws es → Rels B G H (F ++ E) (vs ++ ws) (ds ++ es)
  | _, _, _, _, _, _, .nil, s => s
  | _, _, _, _, _, _, .cons (F := F) (E := E) r t, s => by
    rw [List.append_assoc]
    exact .cons r (Rels.append t s)
theorem Rels.one {v : V} {d : D} (r : Rel B G H F v d) : Rels B G H F [v] [d] := by
  have := Rels.cons r Rels.nil
  rwa [List.append_nil] at this
/-- the i-th: read, and put anew -/
theorem Rels.split : ∀ {F : List Addr} {vs : List V} {ds : List D} {i : Nat} {d : D}, Rels B G H F vs ds → ds[i]? = some d → ∃ (v : V) (P R S : List Addr), F = P ++ (R ++ S) ∧ vs[i]? = some v ∧ Rel B G H R v d ∧
    ∀ {B' : AS} {G' H' : Hp} {v' : V} {d' : D} {R' : List Addr}, Le B B' G G' → (∀ a ∈ P, H' a = H a) → (∀ a ∈ S, H' a = H a) → Rel B' G' H' R' v' d' → Rels B' G' H' (P ++ (R' ++ S)) (vs.set i v') (ds.set i d')
  | _, _, _, _, _, .nil, h => by simp at h
  | _, _, _, 0, _, .cons (F := F) (E := E) (v := v) r t, h => by
    simp at h
    subst h
    exact ⟨v, [], F, E, rfl, rfl, r, fun l _ p2 r' => (Rels.cons r' (t.mono l p2) : Rels _ _ _ (_ ++ E) _ _)⟩
  | _, _, _, i + 1, _, .cons (F := F) (E := E) r t, h => by
    obtain ⟨v, P, R, S, e, e2, r2, k⟩ := Rels.split (i := i) t (by simpa using h)
    refine ⟨v, F ++ P, R, S, by rw [e, List.append_assoc], by simpa using e2, r2, fun l p1 p2 r' => ?_⟩
    rw [List.append_assoc]
    exact .cons (r.mono l fun a ha => p1 a (List.mem_append_left _ ha)) (k l (fun a ha => p1 a (List.mem_append_right _ ha)) p2 r')
theorem Rels.get {vs : List V} {ds : List D} {i : Nat} {d : D} (r : Rels B G H [] vs ds) (h : ds[i]? = some d) : ∃ v, vs[i]? = some v ∧ Rel B G H [] v d := by
  obtain ⟨v, P, R, S, e, e2, r2, _⟩ := r.split h
  have : R = [] := by
    have := congrArg List.length e
    simp at this
    exact List.eq_nil_of_length_eq_zero (by omega)
  subst this
  exact ⟨v, e2, r2⟩
theorem Rels.take : ∀ {vs : List V} {ds : List D} (n : Nat), Rels B G H [] vs ds → Rels B G H [] (vs.take n) (ds.take n) := by
  intro vs
  induction vs with
  | nil =>
    intro ds n h
    generalize hF : ([] : List Addr) = F at h
    cases h
    simp
    exact .nil
  | cons v vs ih =>
    intro ds n h
    generalize hF : ([] : List Addr) = F at h
    cases h with
    | cons r t =>
      obtain ⟨rfl, rfl⟩ := List.append_eq_nil_iff.mp hF.symm
      cases n with
      | zero => exact .nil
      | succ n =>
        have := Rels.cons r (ih n t)
        simpa using this
theorem Rels.drop : ∀ {vs : List V} {ds : List D} (n : Nat), Rels B G H [] vs ds → Rels B G H [] (vs.drop n) (ds.drop n) := by
  intro vs
  induction vs with
  | nil =>
    intro ds n h
    generalize hF : ([] : List Addr) = F at h
    cases h
    simp
    exact .nil
  | cons v vs ih =>
    intro ds n h
    cases n with
    | zero => exact h
    | succ n =>
      generalize hF : ([] : List Addr) = F at h
      cases h with
      | cons r t =>
        obtain ⟨rfl, rfl⟩ := List.append_eq_nil_iff.mp hF.symm
        exact ih n t
theorem Rels.cons0 {v : V} {d : D} {vs : List V} {ds : List D} (r : Rel B G H [] v d) (t : Rels B G H [] vs ds) : Rels B G H [] (v :: vs) (d :: ds) := Rels.cons r t
theorem Rels.inv0 {v : V} {d : D} {vs : List V} {ds : List D} (r : Rels B G H [] (v :: vs) (d :: ds)) : Rel B G H [] v d ∧ Rels B G H [] vs ds := by
  generalize hF : ([] : List Addr) = F at r
  cases r with
  | cons r t =>
    obtain ⟨rfl, rfl⟩ := List.append_eq_nil_iff.mp hF.symm
    exact ⟨r, t⟩
theorem Rels.append0 {vs ws : List V} {ds es : List D} (r : Rels B G H [] vs ds) (t : Rels B G H [] ws es) : Rels B G H [] (vs ++ ws) (ds ++ es) := Rels.append r t
theorem Rels.ints : ∀ {F : List Addr} {vs : List V} {ns : List Int}, Rels B G H F vs (ns.map D.int) → vs = ns.map V.int ∧ F = []
  | _, _, [], .nil => ⟨rfl, rfl⟩
  | _, _, n :: ns, .cons r t => by
    cases r
    obtain ⟨e1, e2⟩ := Rels.ints t
    rw [e1, e2, List.map_cons]
    exact ⟨rfl, rfl⟩
theorem Rels.bls : ∀ {F : List Addr} {vs : List V} {ns : List Bool}, Rels B G H F vs (ns.map D.bl) → vs = ns.map V.bl ∧ F = []
  | _, _, [], .nil => ⟨rfl, rfl⟩
  | _, _, n :: ns, .cons r t => by
    cases r
    obtain ⟨e1, e2⟩ := Rels.bls t
    rw [e1, e2, List.map_cons]
    exact ⟨rfl, rfl⟩
theorem Rels.of_ints : ∀ (ns : List Int), Rels B G H [] (ns.map V.int) (ns.map D.int)
  | [] => .nil
  | n :: ns => Rels.cons0 (.int n) (Rels.of_ints ns)
theorem Rels.rep {v : V} {d : D} (r : Rel B G H [] v d) : ∀ n, Rels B G H [] (List.replicate n v) (List.replicate n d)
  | 0 => .nil
  | n + 1 => Rels.cons0 r (Rels.rep r n)
end

/-! ### own things become shared -/
def Tag.fz : Tag → Tag
  | .f => .f
  | .b => .b
  | .o => .f
mutual
def frz : D → D
  | .tup l => .tup (frzs l)
  | .lst g l => .lst g.fz (frzs l)
  | .dic g ks l => .dic g.fz ks (frzs l)
  | .non => .non | .bl b => .bl b | .int i => .int i | .str s => .str s | .opq a => .opq a | .ty n => .ty n
def frzs : List D → List D
  | [] => []
  | d :: ds => frz d :: frzs ds
end
mutual
/-- all lent -/
def lend : D → D
  | .tup l => .tup (lends l)
  | .lst _ l => .lst .b (lends l)
  | .dic _ ks l => .dic .b ks (lends l)
  | .non => .non | .bl b => .bl b | .int i => .int i | .str s => .str s | .opq a => .opq a | .ty n => .ty n
def lends : List D → List D
  | [] => []
  | d :: ds => lend d :: lends ds
end
mutual
/-- nothing lent in it -/
def noB : D → Bool
  | .tup l => noBs l
  | .lst g l => (g != .b) && noBs l
  | .dic g _ l => (g != .b) && noBs l
  | _ => true
def noBs : List D → Bool
  | [] => true
  | d :: ds => noB d && noBs ds
end
mutual
/-- nothing of its own in it -/
def noO : D → Bool
  | .tup l => noOs l
  | .lst g l => (g != .o) && noOs l
  | .dic g _ l => (g != .o) && noOs l
  | _ => true
def noOs : List D → Bool
  | [] => true
  | d :: ds => noO d && noOs ds
end
/-- the ground with the own things at F -/
noncomputable def gro (G H : Hp) (F : List Addr) : Hp := fun a => if a ∈ F then H a else G a
section
variable {B B' : AS} {G G' H H' : Hp} {F F' E : List Addr}
theorem gro_in {a : Addr} (h : a ∈ F) : gro G H F a = H a := if_pos h
theorem gro_out {a : Addr} (h : a ∉ F) : gro G H F a = G a := if_neg h
mutual
theorem Rel.frz' {P : Hp} (l : Le B B G P) : ∀ {F : List Addr} {v : V} {d : D}, (∀ a ∈ F, P a = H a) → (∀ a ∈ F, ¬ B a) → Rel B G H F v d → Rel B P H [] v (DL.frz d)
  | _, _, _, _, _, .non => by rw [DL.frz]; exact .non
  | _, _, _, _, _, .bl b => by rw [DL.frz]; exact .bl b
  | _, _, _, _, _, .int i => by rw [DL.frz]; exact .int i
  | _, _, _, _, _, .str i => by rw [DL.frz]; exact .str i
  | _, _, _, _, _, .opq a => by rw [DL.frz]; exact .opq a
  | _, _, _, _, _, .ty a => by rw [DL.frz]; exact .ty a
  | _, _, _, p, b, .tup h r => by rw [DL.frz]; exact .tup (l.tup _ _ h) (Rels.frz' l p b r)
  | _, _, _, p, b, .lstf h n r => by rw [DL.frz]; exact .lstf (l.lst _ _ h) n (Rels.frz' l p b r)
  | _, _, _, p, b, .lstb h r => by rw [DL.frz]; exact .lstb (l.lst _ _ h) (Rels.frz' l p b r)
  | _, _, _, p, b, .lsto h r => by rw [DL.frz]; exact .lstf ((p _ List.mem_cons_self).trans h) (b _ List.mem_cons_self) (Rels.frz' l (fun a ha => p a (List.mem_cons_of_mem _ ha)) (fun a ha => b a (List.mem_cons_of_mem _ ha)) r)
  | _, _, _, p, b, .dicf h n e r => by rw [DL.frz]; exact .dicf (l.dic _ _ h) n e (Rels.frz' l p b r)
  | _, _, _, p, b, .dicb h e r => by rw [DL.frz]; exact .dicb (l.dic _ _ h) e (Rels.frz' l p b r)
  | _, _, _, p, b, .dico h e r => by rw [DL.frz]; exact .dicf (.inl ((p _ List.mem_cons_self).trans h)) (b _ List.mem_cons_self) e (Rels.frz' l (fun a ha => p a (List.mem_cons_of_mem _ ha)) (fun a ha => b a (List.mem_cons_of_mem _ ha)) r)
theorem Rels.frz' {P : Hp} (l : Le B B G P) : ∀ {F : List Addr} {vs : List V} {ds : List D}, (∀ a ∈ F, P a = H a) → (∀ a ∈ F, ¬ B a) → Rels B G H F vs ds → Rels B P H [] vs (frzs ds)
  | _, _, _, _, _, .nil => by rw [DL.frzs]; exact .nil
  | _, _, _, p, b, .cons r t => by rw [DL.frzs]; exact Rels.cons0 (Rel.frz' l (fun a ha => p a (List.mem_append_left _ ha)) (fun a ha => b a (List.mem_append_left _ ha)) r) (Rels.frz' l (fun a ha => p a (List.mem_append_right _ ha)) (fun a ha => b a (List.mem_append_right _ ha)) t)
end
mutual
theorem Rel.lend' {P : Hp} (l : Le B' B' G P) : ∀ {F : List Addr} {v : V} {d : D}, (∀ a ∈ F, P a = H a) → Rel B G H F v d → Rel B' P H' [] v (DL.lend d)
  | _, _, _, _, .non => by rw [DL.lend]; exact .non
  | _, _, _, _, .bl b => by rw [DL.lend]; exact .bl b
  | _, _, _, _, .int i => by rw [DL.lend]; exact .int i
  | _, _, _, _, .str i => by rw [DL.lend]; exact .str i
  | _, _, _, _, .opq a => by rw [DL.lend]; exact .opq a
  | _, _, _, _, .ty a => by rw [DL.lend]; exact .ty a
  | _, _, _, p, .tup h r => by rw [DL.lend]; exact .tup (l.tup _ _ h) (Rels.lend' l p r)
  | _, _, _, p, .lstf h n r => by rw [DL.lend]; exact .lstb (l.lst _ _ h) (Rels.lend' l p r)
  | _, _, _, p, .lstb h r => by rw [DL.lend]; exact .lstb (l.lst _ _ h) (Rels.lend' l p r)
  | _, _, _, p, .lsto h r => by rw [DL.lend]; exact .lstb ((p _ List.mem_cons_self).trans h) (Rels.lend' l (fun a ha => p a (List.mem_cons_of_mem _ ha)) r)
  | _, _, _, p, .dicf h n e r => by rw [DL.lend]; exact .dicb (l.dic _ _ h) e (Rels.lend' l p r)
  | _, _, _, p, .dicb h e r => by rw [DL.lend]; exact .dicb (l.dic _ _ h) e (Rels.lend' l p r)
  | _, _, _, p, .dico h e r => by rw [DL.lend]; exact .dicb (.inl ((p _ List.mem_cons_self).trans h)) e (Rels.lend' l (fun a ha => p a (List.mem_cons_of_mem _ ha)) r)
theorem Rels.lend' {P : Hp} (l : Le B' B' G P) : ∀ {F : List Addr} {vs : List V} {ds : List D}, (∀ a ∈ F, P a = H a) → Rels B G H F vs ds → Rels B' P H' [] vs (lends ds)
  | _, _, _, _, .nil => by rw [DL.lends]; exact .nil
  | _, _, _, p, .cons r t => by rw [DL.lends]; exact Rels.cons0 (Rel.lend' l (fun a ha => p a (List.mem_append_left _ ha)) r) (Rels.lend' l (fun a ha => p a (List.mem_append_right _ ha)) t)
end
mutual
/-- nothing lent: another set of lent things -/
theorem Rel.nob (lt : ∀ a vs, G a = some (.tup vs) → G' a = some (.tup vs)) (ll : ∀ a o, ¬ B a → G a = some o → G' a = some o ∧ ¬ B' a) : ∀ {F : List Addr} {v : V} {d : D}, noB d = true → Rel B G H F v d → Rel B' G' H F v d
  | _, _, _, _, .non => .non
  | _, _, _, _, .bl b => .bl b
  | _, _, _, _, .int i => .int i
  | _, _, _, _, .str i => .str i
  | _, _, _, _, .opq a => .opq a
  | _, _, _, _, .ty a => .ty a
  | _, _, _, q, .tup h r => .tup (lt _ _ h) (Rels.nob lt ll (by simpa [noB] using q) r)
  | _, _, _, q, .lstf h n r => .lstf (ll _ _ n h).1 (ll _ _ n h).2 (Rels.nob lt ll (by simpa [noB] using q) r)
  | _, _, _, q, .lstb h r => by simp [noB] at q
  | _, _, _, q, .lsto h r => .lsto h (Rels.nob lt ll (by simpa [noB] using q) r)
  | _, _, _, q, .dicf h n e r => .dicf (h.elim (fun h => .inl (ll _ _ n h).1) fun ⟨o, h⟩ => .inr ⟨o, (ll _ _ n h).1⟩) (h.elim (fun h => (ll _ _ n h).2) fun ⟨o, h⟩ => (ll _ _ n h).2) e (Rels.nob lt ll (by simpa [noB] using q) r)
  | _, _, _, q, .dicb h e r => by simp [noB] at q
  | _, _, _, q, .dico h e r => .dico h e (Rels.nob lt ll (by simpa [noB] using q) r)
theorem Rels.nob (lt : ∀ a vs, G a = some (.tup vs) → G' a = some (.tup vs)) (ll : ∀ a o, ¬ B a → G a = some o → G' a = some o ∧ ¬ B' a) : ∀ {F : List Addr} {vs : List V} {ds : List D}, noBs ds = true → Rels B G H F vs ds → Rels B' G' H F vs ds
  | _, _, _, _, .nil => .nil
  | _, _, _, q, .cons r t => by
    simp only [noBs, Bool.and_eq_true] at q
    exact .cons (Rel.nob lt ll q.1 r) (Rels.nob lt ll q.2 t)
end
mutual
theorem Rel.noo : ∀ {F : List Addr} {v : V} {d : D}, noO d = true → Rel B G H F v d → F = []
  | _, _, _, _, .non => rfl
  | _, _, _, _, .bl b => rfl
  | _, _, _, _, .int i => rfl
  | _, _, _, _, .str i => rfl
  | _, _, _, _, .opq a => rfl
  | _, _, _, _, .ty a => rfl
  | _, _, _, q, .tup h r => Rels.noo (by simpa [noO] using q) r
  | _, _, _, q, .lstf h n r => rfl
  | _, _, _, q, .lstb h r => rfl
  | _, _, _, q, .lsto h r => by simp [noO] at q
  | _, _, _, q, .dicf h n e r => rfl
  | _, _, _, q, .dicb h e r => rfl
  | _, _, _, q, .dico h e r => by simp [noO] at q
theorem Rels.noo : ∀ {F : List Addr} {vs : List V} {ds : List D}, noOs ds = true → Rels B G H F vs ds → F = []
  | _, _, _, _, .nil => rfl
  | _, _, _, q, .cons r t => by
    simp only [noOs, Bool.and_eq_true] at q
    rw [Rel.noo q.1 r, Rels.noo q.2 t]
    rfl
end
mutual
theorem Rel.there {a : Addr} : ∀ {F : List Addr} {v : V} {d : D}, Rel B G H F v d → a ∈ F → (∃ vs, H a = some (.lst vs)) ∨ ∃ kvs, H a = some (.dK kvs)
  | _, _, _, .non, m => by cases m
  | _, _, _, .bl b, m => by cases m
  | _, _, _, .int i, m => by cases m
  | _, _, _, .str i, m => by cases m
  | _, _, _, .opq c, m => by cases m
  | _, _, _, .ty c, m => by cases m
  | _, _, _, .tup h r, m => Rels.there r m
  | _, _, _, .lstf h n r, m => by cases m
  | _, _, _, .lstb h r, m => by cases m
  | _, _, _, .lsto h r, m => by
    rcases List.mem_cons.mp m with e | m
    · subst e
      exact .inl ⟨_, h⟩
    · exact Rels.there r m
  | _, _, _, .dicf h n e r, m => by cases m
  | _, _, _, .dicb h e r, m => by cases m
  | _, _, _, .dico h e r, m => by
    rcases List.mem_cons.mp m with e | m
    · subst e
      exact .inr ⟨_, h⟩
    · exact Rels.there r m
theorem Rels.there {a : Addr} : ∀ {F : List Addr} {vs : List V} {ds : List D}, Rels B G H F vs ds → a ∈ F → (∃ vs, H a = some (.lst vs)) ∨ ∃ kvs, H a = some (.dK kvs)
  | _, _, _, .nil, m => by cases m
  | _, _, _, .cons r t, m => (List.mem_append.mp m).elim (fun m => Rel.there r m) fun m => Rels.there t m
end
end

/-! ### slots -/
abbrev Ev := List (Option D)
inductive Envs (B : AS) (G H : Hp) : List Addr → L2.St → Ev → Prop
  | nil : Envs B G H [] [] []
  | none {x : Option V} {σ : L2.St} {en : Ev} {E : List Addr} : Envs B G H E σ en → Envs B G H E (x :: σ) (none :: en)
  | some {v : V} {d : D} {σ : L2.St} {en : Ev} {F E : List Addr} : Rel B G H F v d → Envs B G H E σ en → Envs B G H (F ++ E) (some v :: σ) (some d :: en)
section
variable {B B' : AS} {G G' H H' : Hp} {F F' E : List Addr}
theorem Envs.length : ∀ {F : List Addr} {σ : L2.St} {en : Ev}, Envs B G H F σ en → σ.length = en.length
  | _, _, _, .nil => rfl
  | _, _, _, .none t => by rw [List.length_cons, List.length_cons, Envs.length t]
  | _, _, _, .some _ t => by rw [List.length_cons, List.length_cons, Envs.length t]
theorem Envs.mono (l : Le B B' G G') : ∀ {F : List Addr} {σ : L2.St} {en : Ev}, (∀ a ∈ F, H' a = H a) → Envs B G H F σ en → Envs B' G' H' F σ en
  | _, _, _, _, .nil => .nil
  | _, _, _, p, .none t => .none (Envs.mono l p t)
  | _, _, _, p, .some r t => .some (r.mono l fun a ha => p a (List.mem_append_left _ ha)) (Envs.mono l (fun a ha => p a (List.mem_append_right _ ha)) t)
theorem Envs.there {a : Addr} : ∀ {F : List Addr} {σ : L2.St} {en : Ev}, Envs B G H F σ en → a ∈ F → (∃ vs, H a = Option.some (HO.lst vs)) ∨ ∃ kvs, H a = Option.some (HO.dK kvs)
  | _, _, _, .nil, m => by cases m
  | _, _, _, .none t, m => Envs.there t m
  | _, _, _, .some r t, m => (List.mem_append.mp m).elim (fun m => Rel.there r m) fun m => Envs.there t m
/-- the i-th slot: what it holds, and with another thing in it -/
theorem Envs.at : ∀ {F : List Addr} {σ : L2.St} {en : Ev} {i : Nat}, Envs B G H F σ en → i < en.length → ∃ (P R S : List Addr), F = P ++ (R ++ S) ∧
    (∀ d, en[i]? = Option.some (Option.some d) → ∃ v, σ[i]? = Option.some (Option.some v) ∧ Rel B G H R v d) ∧
    (∀ {B' : AS} {G' H' : Hp} {v' : V} {d' : D} {R' : List Addr}, Le B B' G G' → (∀ a ∈ P, H' a = H a) → (∀ a ∈ S, H' a = H a) → Rel B' G' H' R' v' d' → Envs B' G' H' (P ++ (R' ++ S)) (σ.set i (Option.some v')) (en.set i (Option.some d'))) ∧
    (∀ {B' : AS} {G' H' : Hp} {x : Option V}, Le B B' G G' → (∀ a ∈ P, H' a = H a) → (∀ a ∈ S, H' a = H a) → Envs B' G' H' (P ++ S) (σ.set i x) (en.set i Option.none))
  | _, _, _, _, .nil, h => by simp at h
  | _, _, _, 0, .none (E := E) t, h => ⟨[], [], E, rfl, fun d e => by simp at e, fun l _ p2 r' => (Envs.some r' (t.mono l p2) : Envs _ _ _ (_ ++ E) _ _), fun l _ p2 => .none (t.mono l p2)⟩
  | _, _, _, 0, .some (F := F) (E := E) r t, h => ⟨[], F, E, rfl, fun d e => by
      simp at e
      subst e
      exact ⟨_, rfl, r⟩, fun l _ p2 r' => (Envs.some r' (t.mono l p2) : Envs _ _ _ (_ ++ E) _ _), fun l _ p2 => .none (t.mono l p2)⟩
  | _, _, _, i + 1, .none t, h => by
    obtain ⟨P, R, S, e, k1, k2, k3⟩ := Envs.at (i := i) t (by simpa using h)
    exact ⟨P, R, S, e, fun d q => by simpa using k1 d (by simpa using q), fun l p1 p2 r' => .none (k2 l p1 p2 r'), fun l p1 p2 => .none (k3 l p1 p2)⟩
  | _, _, _, i + 1, .some (F := F) (E := E) r t, h => by
    obtain ⟨P, R, S, e, k1, k2, k3⟩ := Envs.at (i := i) t (by simpa using h)
    refine ⟨F ++ P, R, S, by rw [e, List.append_assoc], fun d q => by simpa using k1 d (by simpa using q), fun l p1 p2 r' => ?_, fun l p1 p2 => ?_⟩
    · rw [List.append_assoc]
      exact .some (r.mono l fun a ha => p1 a (List.mem_append_left _ ha)) (k2 l (fun a ha => p1 a (List.mem_append_right _ ha)) p2 r')
    · rw [List.append_assoc]
      exact .some (r.mono l fun a ha => p1 a (List.mem_append_left _ ha)) (k3 l (fun a ha => p1 a (List.mem_append_right _ ha)) p2)
end

/-- the law's own world: one object (or more) that defs are handed and may change -/
structure Wld (Om : Type) where
  ok : Om → Hp → Prop
  fp : Addr → Prop
  here : ∀ o H a, ok o H → fp a → H a ≠ none
  loc : ∀ o H H', (∀ a, fp a → H' a = H a) → (∀ a u, H a = some u → (∀ xs, u ≠ .lst xs) → (∀ ds, u ≠ .dK ds) → (∀ ps, u ≠ .tbl ps) → (∀ o ds, u ≠ .frz o (.dK ds)) → H' a = some u) → ok o H → ok o H'
/-- a list, a dict or a new thing is written -/
theorem Wld.put {Om : Type} (W : Wld Om) {o : Om} {H : Hp} {p : Addr} {x : HO} (k : W.ok o H) (n : ¬ W.fp p) (hp : H p = none ∨ (∃ xs, H p = some (.lst xs)) ∨ ∃ ds, H p = some (.dK ds)) : W.ok o (upd H p x) := by
  refine W.loc o H _ (fun a ha => upd_ne fun z => n (z ▸ ha)) (fun a u e h1 h2 _ _ => ?_) k
  by_cases z : a = p
  · subst z
    rcases hp with q | ⟨xs, q⟩ | ⟨ds, q⟩ <;> rw [e] at q <;> cases q
    · exact absurd rfl (h1 _)
    · exact absurd rfl (h2 _)
  · rw [upd_ne z]
    exact e

structure Rst {Om : Type} (W : Wld Om) (B : AS) (en : Ev) (om : Om) (G : Hp) (F : List Addr) (σ : L2.St) (H : Hp) : Prop where
  sub : Same G H
  env : Envs B G H F σ en
  nd : F.Nodup
  FG : ∀ a ∈ F, G a = none
  FW : ∀ a ∈ F, ¬ W.fp a
  WG : ∀ a, W.fp a → G a = none
  BG : ∀ a, B a → G a ≠ none
  wok : W.ok om H
/-- from one state to a later one, with a thing's own things R in hand; what is nobody's here stays -/
structure Nx {Om : Type} (W : Wld Om) (G : Hp) (F : List Addr) (H G' : Hp) (F' : List Addr) (H' : Hp) (R : List Addr) : Prop where
  sub : Same G G'
  frm : ∀ a, H a ≠ none → (∀ vs, H a ≠ some (.tup vs)) → G a = none → a ∉ F → ¬ W.fp a → H' a = H a ∧ G' a = none ∧ a ∉ F' ∧ a ∉ R
/-- a thing in hand -/
structure Has {Om : Type} (W : Wld Om) (B : AS) (G : Hp) (F : List Addr) (H : Hp) (R : List Addr) (v : V) (d : D) : Prop where
  rel : Rel B G H R v d
  nd : R.Nodup
  own : ∀ a ∈ R, G a = none ∧ a ∉ F ∧ ¬ W.fp a
end DL

/-! DS2: expressions by what they are worth as data. -/
namespace DL
open PySem PySem.Spec PyProof.Rows L2

section
variable {Om : Type} {W : Wld Om} {B : AS} {en en' : Ev} {om om' : Om} {G G0 G' G1 G2 H H0 H' H1 H2 : Hp} {F F0 F' F1 F2 R R1 R2 : List Addr} {σ : L2.St} {v : V} {d : D}
theorem Nx.refl : Nx W G F H G F H [] := ⟨Same.refl _, fun a h ht g f w => ⟨rfl, g, f, by simp⟩⟩
theorem Nx.trans (a : Nx W G F H G1 F1 H1 R1) (b : Nx W G1 F1 H1 G2 F2 H2 R2) : Nx W G F H G2 F2 H2 R2 := ⟨a.sub.trans b.sub, fun c h ht g f w => by
  obtain ⟨e1, e2, e3, e4⟩ := a.frm c h ht g f w
  obtain ⟨f1, f2, f3, f4⟩ := b.frm c (by rw [e1]; exact h) (by rw [e1]; exact ht) e2 e3 w
  exact ⟨f1.trans e1, f2, f3, f4⟩⟩
/-- the hand empty -/
theorem Nx.drop (a : Nx W G F H G1 F1 H1 R1) : Nx W G F H G1 F1 H1 [] := ⟨a.sub, fun c h ht g f w => by
  obtain ⟨e1, e2, e3, e4⟩ := a.frm c h ht g f w
  exact ⟨e1, e2, e3, by simp⟩⟩
theorem Has.there (x : Has W B G F H R v d) {a : Addr} (h : a ∈ R) : H a ≠ none := by
  rcases x.rel.there h with ⟨vs, e⟩ | ⟨kvs, e⟩
  · rw [e]; exact fun z => nomatch z
  · rw [e]; exact fun z => nomatch z
theorem Has.ntup (x : Has W B G F H R v d) {a : Addr} (h : a ∈ R) : ∀ vs, H a ≠ some (.tup vs) := by
  rcases x.rel.there h with ⟨vs, e⟩ | ⟨kvs, e⟩
  · rw [e]; exact fun _ z => nomatch z
  · rw [e]; exact fun _ z => nomatch z
/-- what is in hand while something else goes on -/
theorem Has.keep (x : Has W B G F H R v d) (n : Nx W G F H G1 F1 H1 R1) : Has W B G1 F1 H1 R v d ∧ ∀ a ∈ R, a ∉ R1 := by
  have k : ∀ a ∈ R, H1 a = H a ∧ G1 a = none ∧ a ∉ F1 ∧ a ∉ R1 := fun a ha => by
    obtain ⟨o1, o2, o3⟩ := x.own a ha
    exact n.frm a (x.there ha) (x.ntup ha) o1 o2 o3
  exact ⟨⟨x.rel.mono (.of_same n.sub) fun a ha => (k a ha).1, x.nd, fun a ha => ⟨(k a ha).2.1, (k a ha).2.2.1, (x.own a ha).2.2⟩⟩, fun a ha => (k a ha).2.2.2⟩
/-- .. nothing of whose is its own -/
theorem Has.sh (r : Rel B G H [] v d) : Has W B G F H [] v d := ⟨r, .nil, fun a h => by simp at h⟩
theorem rel_keep (r : Rel B G H [] v d) (n : Nx W G F H G1 F1 H1 R1) : Rel B G1 H1 [] v d := r.mono (.of_same n.sub) fun a h => by simp at h
theorem rels_keep {vs : List V} {ds : List D} (r : Rels B G H [] vs ds) (n : Nx W G F H G1 F1 H1 R1) : Rels B G1 H1 [] vs ds := r.mono (.of_same n.sub) fun a h => by simp at h
theorem Rst.fs (S : Rst W B en om G F σ H) {a : Addr} (h : a ∈ F) : H a ≠ none := by
  rcases S.env.there h with ⟨vs, e⟩ | ⟨kvs, e⟩
  · rw [e]; exact fun z => nomatch z
  · rw [e]; exact fun z => nomatch z
/-- what is in hand becomes shared -/
theorem Rst.share (S : Rst W B en om G F σ H) (x : Has W B G F H R v d) : Rst W B en om (gro G H R) F σ H ∧ Rel B (gro G H R) H [] v (frz d) ∧ ∀ {G0 F0 H0}, Nx W G0 F0 H0 G F H R → Nx W G0 F0 H0 (gro G H R) F H [] := by
  have sm : Same G (gro G H R) := fun a o e => by
    rw [gro_out fun z => by have := (x.own a z).1; rw [e] at this; cases this]
    exact e
  have nb : ∀ a ∈ R, ¬ B a := fun a ha z => S.BG a z (x.own a ha).1
  refine ⟨⟨fun a o e => ?_, S.env.mono (.of_same sm) fun a _ => rfl, S.nd, fun a ha => ?_, S.FW, fun a ha => ?_, fun a ha => ?_, S.wok⟩, x.rel.frz' (.of_same sm) (fun a ha => gro_in ha) nb, fun n => ⟨n.sub.trans sm, fun a h ht g f w => ?_⟩⟩
  · by_cases h : a ∈ R
    · rwa [gro_in h] at e
    · rw [gro_out h] at e
      exact S.sub a o e
  · rw [gro_out fun z => (x.own a z).2.1 ha]
    exact S.FG a ha
  · rw [gro_out fun z => (x.own a z).2.2 ha]
    exact S.WG a ha
  · rw [gro_out fun z => nb a z ha]
    exact S.BG a ha
  · obtain ⟨e1, e2, e3, e4⟩ := n.frm a h ht g f w
    exact ⟨e1, by rw [gro_out e4]; exact e2, e3, by simp⟩
/-- a new shared object -/
theorem Rst.grow (S : Rst W B en om G F σ H) {p : Addr} {o : HO} (hp : H p = none) : Rst W B en om (upd G p o) F σ (upd H p o) ∧ (∀ {G0 F0 H0 R}, Nx W G0 F0 H0 G F H R → Nx W G0 F0 H0 (upd G p o) F (upd H p o) R) ∧
    ∀ {R v d}, Has W B G F H R v d → Has W B (upd G p o) F (upd H p o) R v d := by
  have gp : G p = none := S.sub.free hp
  have sm : Same G (upd G p o) := fun b u e => by rw [upd_ne (ne_of_none e gp)]; exact e
  have nF : ∀ a ∈ F, a ≠ p := fun a ha z => S.fs ha (z ▸ hp)
  have nW : ∀ a, W.fp a → a ≠ p := fun a ha z => W.here om H a S.wok ha (z ▸ hp)
  refine ⟨⟨fun b u e => ?_, S.env.mono (.of_same sm) fun a ha => upd_ne (nF a ha), S.nd, fun a ha => by rw [upd_ne (nF a ha)]; exact S.FG a ha, S.FW, fun a ha => by rw [upd_ne (nW a ha)]; exact S.WG a ha, fun a ha => ?_,
    W.put S.wok (fun z => nW p z rfl) (.inl hp)⟩, fun {G0 F0 H0 R} n => ⟨n.sub.trans sm, fun a h ht g f w => ?_⟩, fun {R v d} x => ⟨x.rel.mono (.of_same sm) fun a ha => upd_ne fun z => x.there ha (z ▸ hp), x.nd, fun a ha => ⟨by
    have ne : a ≠ p := fun z => x.there ha (z ▸ hp)
    rw [upd_ne ne]
    exact (x.own a ha).1, (x.own a ha).2⟩⟩⟩
  · by_cases z : b = p
    · subst z
      rw [upd_same] at e ⊢
      exact e
    · rw [upd_ne z] at e ⊢
      exact S.sub b u e
  · by_cases z : a = p
    · subst z
      rw [upd_same]
      exact fun q => nomatch q
    · rw [upd_ne z]
      exact S.BG a ha
  · obtain ⟨e1, e2, e3, e4⟩ := n.frm a h ht g f w
    have ne : a ≠ p := fun z => by
      subst z
      rw [hp] at e1
      exact h e1.symm
    exact ⟨by rw [upd_ne ne]; exact e1, by rw [upd_ne ne]; exact e2, e3, e4⟩
/-- a new object in hand -/
theorem Rst.new (S : Rst W B en om G F σ H) {p : Addr} {o : HO} (hp : H p = none) : Rst W B en om G F σ (upd H p o) ∧ (∀ {G0 F0 H0 R}, Nx W G0 F0 H0 G F H R → Nx W G0 F0 H0 G F (upd H p o) (p :: R)) ∧
    (∀ {R v d}, Has W B G F H R v d → Has W B G F (upd H p o) R v d ∧ p ∉ R) ∧ G p = none ∧ p ∉ F ∧ ¬ W.fp p := by
  have gp : G p = none := S.sub.free hp
  have nF : ∀ a ∈ F, a ≠ p := fun a ha z => S.fs ha (z ▸ hp)
  have nW : ∀ a, W.fp a → a ≠ p := fun a ha z => W.here om H a S.wok ha (z ▸ hp)
  refine ⟨⟨fun b u e => by rw [upd_ne (ne_of_none e gp)]; exact S.sub b u e, S.env.mono (.refl _ _) fun a ha => upd_ne (nF a ha), S.nd, S.FG, S.FW, S.WG, S.BG, W.put S.wok (fun z => nW p z rfl) (.inl hp)⟩, fun {G0 F0 H0 R} n => ⟨n.sub, fun a h ht g f w => ?_⟩,
    fun {R v d} x => ⟨⟨x.rel.mono (.refl _ _) fun a ha => upd_ne fun z => x.there ha (z ▸ hp), x.nd, x.own⟩, fun z => x.there z hp⟩, gp, fun z => nF p z rfl, fun z => nW p z rfl⟩
  obtain ⟨e1, e2, e3, e4⟩ := n.frm a h ht g f w
  have ne : a ≠ p := fun z => by
    subst z
    rw [hp] at e1
    exact h e1.symm
  refine ⟨by rw [upd_ne ne]; exact e1, e2, e3, fun z => ?_⟩
  rcases List.mem_cons.mp z with z | z
  · exact ne z
  · exact e4 z
end

/-! ### readings -/
abbrev DE (Om : Type) := Ev → Om → Option (D × Ev × Om)
abbrev DA (Om : Type) := Ev → Om → Option (List D × Ev × Om)
abbrev DT (Om : Type) := Ev → Om → Option (Bool × Ev × Om)
/-- several things in hand -/
structure Hass {Om : Type} (W : Wld Om) (B : AS) (G : Hp) (F : List Addr) (H : Hp) (R : List Addr) (vs : List V) (ds : List D) : Prop where
  rel : Rels B G H R vs ds
  nd : R.Nodup
  own : ∀ a ∈ R, G a = none ∧ a ∉ F ∧ ¬ W.fp a
section
variable {Om : Type} (W : Wld Om) (B : AS)
def tD (f : DE Om) : TE := fun σ H Q => ∃ en om G F d en' om', Rst W B en om G F σ H ∧ f en om = some (d, en', om') ∧
  ∀ v H' G' F' R, Nx W G F H G' F' H' R → Rst W B en' om' G' F' σ H' → Has W B G' F' H' R v d → Q v H'
def tDA (f : DA Om) : TA := fun σ H Q => ∃ en om G F ds en' om', Rst W B en om G F σ H ∧ f en om = some (ds, en', om') ∧
  ∀ vs H' G' F' R, Nx W G F H G' F' H' R → Rst W B en' om' G' F' σ H' → Hass W B G' F' H' R vs ds → Q vs H'
def tDT (f : DT Om) : TT := fun σ H Q => ∃ en om G F b en' om', Rst W B en om G F σ H ∧ f en om = some (b, en', om') ∧
  ∀ H' G' F', Nx W G F H G' F' H' [] → Rst W B en' om' G' F' σ H' → Q b H'
end
section
variable {Om : Type} {W : Wld Om} {B : AS} {X : Cx} {e : Expr} {es : List Expr}
theorem _root_.L2.PE.le {t t' : TE} (h : PE X e t) (k : ∀ σ H Q, t' σ H Q → t σ H Q) : PE X e t' := ⟨fun pins s σ H Q I q => h.run pins s σ H Q I (k σ H Q q)⟩
theorem _root_.L2.PA.le {t t' : TA} (h : PA X es t) (k : ∀ σ H Q, t' σ H Q → t σ H Q) : PA X es t' := ⟨fun pos pins s σ H Q I q => h.run pos pins s σ H Q I (k σ H Q q)⟩
theorem _root_.L2.PT.le {t t' : TT} (h : PT X e t) (k : ∀ σ H Q, t' σ H Q → t σ H Q) : PT X e t' := ⟨fun pins s σ H Q I q => h.run pins s σ H Q I (k σ H Q q)⟩
theorem _root_.L2.PW.le {t t' : TT} (h : PW X e t) (k : ∀ σ H Q, t' σ H Q → t σ H Q) : PW X e t' := ⟨fun wh pins s σ H Q I q => h.run wh pins s σ H Q I (k σ H Q q)⟩
theorem _root_.L2.PI.le {tg : Expr} {t t' : TI} (h : PI X tg e t) (k : ∀ σ H Q, t' σ H Q → t σ H Q) : PI X tg e t' := ⟨fun pins s σ H Q I q => h.run pins s σ H Q I (k σ H Q q)⟩
theorem _root_.L2.PS.le {st : Stmt} {t t' : TS} (h : PS X st t) (k : ∀ Dn σ H, t' Dn σ H → t Dn σ H) : PS X st t' := ⟨fun pins s σ H Dn I q => h.run pins s σ H Dn I (k Dn σ H q)⟩
theorem _root_.L2.PSs.le {st : List Stmt} {t t' : TS} (h : PSs X st t) (k : ∀ Dn σ H, t' Dn σ H → t Dn σ H) : PSs X st t' := ⟨fun pins s σ H Dn I q => h.run pins s σ H Dn I (k Dn σ H q)⟩

variable {en en1 : Ev} {om om1 : Om} {G H : Hp} {F : List Addr} {σ : L2.St} {d : D} {f : DE Om} {Q : VK}
/-- f's worth stays in hand -/
theorem tD.hold (S : Rst W B en om G F σ H) (h : f en om = some (d, en1, om1)) (k : ∀ v H' G' F' R, Nx W G F H G' F' H' R → Rst W B en1 om1 G' F' σ H' → Has W B G' F' H' R v d → Q v H') : tD W B f σ H Q := ⟨en, om, G, F, d, en1, om1, S, h, k⟩
/-- f's worth becomes shared -/
theorem tD.use (S : Rst W B en om G F σ H) (h : f en om = some (d, en1, om1)) (k : ∀ v H' G' F', Nx W G F H G' F' H' [] → Rst W B en1 om1 G' F' σ H' → Rel B G' H' [] v (frz d) → Q v H') : tD W B f σ H Q :=
  tD.hold S h fun v H' G' F' R n S' x => by
    obtain ⟨S2, r, kn⟩ := S'.share x
    exact k v H' _ F' (kn n) S2 r
theorem tDA.hold {f : DA Om} {ds : List D} {Q : List V → Hp → Prop} (S : Rst W B en om G F σ H) (h : f en om = some (ds, en1, om1)) (k : ∀ vs H' G' F' R, Nx W G F H G' F' H' R → Rst W B en1 om1 G' F' σ H' → Hass W B G' F' H' R vs ds → Q vs H') : tDA W B f σ H Q := ⟨en, om, G, F, ds, en1, om1, S, h, k⟩
theorem tDT.use {f : DT Om} {b : Bool} {Q : Bool → Hp → Prop} (S : Rst W B en om G F σ H) (h : f en om = some (b, en1, om1)) (k : ∀ H' G' F', Nx W G F H G' F' H' [] → Rst W B en1 om1 G' F' σ H' → Q b H') : tDT W B f σ H Q := ⟨en, om, G, F, b, en1, om1, S, h, k⟩

/-! ### binds, in plain words -/
theorem bind_some {α β : Type} {o : Option α} {g : α → Option β} {r : β} (h : o.bind g = some r) : ∃ a, o = some a ∧ g a = some r := Option.bind_eq_some_iff.mp h

/-! ### constants and names -/
def dC (d : D) : DE Om := fun en om => some (d, en, om)
theorem de_const {v : V} (h : PE X e (tC v)) (d : D) (r : ∀ G H, Rel B G H [] v d) : PE X e (tD W B (dC d)) := h.le fun σ H Q q => by
  obtain ⟨en, om, G, F, d', en', om', S, hf, k⟩ := q
  cases hf
  exact k v H G F [] .refl S (.sh (r G H))
theorem de_int {i j pos} : PE X (.Constant (.int i) j pos) (tD W B (dC (.int i))) := de_const pe_int _ fun _ _ => .int i
theorem de_bl {b j pos} : PE X (.Constant (.bool b) j pos) (tD W B (dC (.bl b))) := de_const pe_bl _ fun _ _ => .bl b
theorem de_non {j pos} : PE X (.Constant .none j pos) (tD W B (dC .non)) := de_const pe_non _ fun _ _ => .non
theorem de_str {x j pos} : PE X (.Constant (.str x) j pos) (tD W B (dC (.str x))) := de_const pe_str _ fun _ _ => .str x
theorem de_globI {x : Str} {i : Int} {t : Tok} {pos : Pos} (hm : X.mg x = some (.int i t)) (hg : Gl X x := by rfl) (hd : (x == ("__debug__" : Str)) = false := by decide) : PE X (.Name x pos) (tD W B (dC (.int i))) := de_const (pe_glob (v := .int i) hg hm ⟨t, rfl⟩ hd) _ fun _ _ => .int i
/-- a name: what it holds becomes shared -/
def dV (i : Nat) : DE Om := fun en om => match en[i]? with
  | some (some d) => some (frz d, en.set i (some (frz d)), om)
  | _ => none
theorem frz_frz : ∀ d : D, frz (frz d) = frz d := by
  have tf : ∀ g : Tag, g.fz.fz = g.fz := fun g => by cases g <;> rfl
  intro d
  refine D.rec (motive_1 := fun d => frz (frz d) = frz d) (motive_2 := fun ds => frzs (frzs ds) = frzs ds) ?_ ?_ ?_ ?_ ?_ ?_ ?_ ?_ ?_ ?_ ?_ d
  · simp [frz]
  · intro b; simp [frz]
  · intro b; simp [frz]
  · intro b; simp [frz]
  · intro l h; simp [frz, h]
  · intro g l h; simp [frz, h, tf]
  · intro g ks l h; simp [frz, h, tf]
  · intro a; simp [frz]
  · intro a; simp [frz]
  · simp [frzs]
  · intro d ds h1 h2; simp [frzs, h1, h2]
theorem noO_frz : ∀ d : D, noO (frz d) = true := by
  have tf : ∀ g : Tag, (g.fz != .o) = true := fun g => by cases g <;> rfl
  intro d
  refine D.rec (motive_1 := fun d => noO (frz d) = true) (motive_2 := fun ds => noOs (frzs ds) = true) ?_ ?_ ?_ ?_ ?_ ?_ ?_ ?_ ?_ ?_ ?_ d
  · simp [frz, noO]
  · intro b; simp [frz, noO]
  · intro b; simp [frz, noO]
  · intro b; simp [frz, noO]
  · intro l h; simp [frz, noO, h]
  · intro g l h; simp [frz, noO, h, tf]
  · intro g ks l h; simp [frz, noO, h, tf]
  · intro a; simp [frz, noO]
  · intro a; simp [frz, noO]
  · simp [frzs, noOs]
  · intro d ds h1 h2; simp [frzs, noOs, h1, h2]
/-- what a slot holds, as it stands -/
theorem Rst.get (S : Rst W B en om G F σ H) {i : Nat} {d : D} (h : en[i]? = some (some d)) : ∃ (v : V) (P R T : List Addr), F = P ++ (R ++ T) ∧ σ[i]? = some (some v) ∧ Rel B G H R v d := by
  obtain ⟨P, R, T, e, k, _, _⟩ := S.env.at (i := i) (List.getElem?_eq_some_iff.mp h).1
  obtain ⟨v, e2, r⟩ := k d h
  exact ⟨v, P, R, T, e, e2, r⟩
theorem set_id {α : Type} {l : List α} {i : Nat} {a : α} (h : l[i]? = some a) : l.set i a = l := by
  apply List.ext_getElem?
  intro j
  by_cases e : i = j
  · subst e
    rw [List.getElem?_set_self (List.getElem?_eq_some_iff.mp h).1, h]
  · rw [List.getElem?_set_ne e]
/-- a slot's thing becomes shared -/
theorem Rst.shareAt (S : Rst W B en om G F σ H) {i : Nat} {d : D} (h : en[i]? = some (some d)) : ∃ v G' F', σ[i]? = some (some v) ∧ Rst W B (en.set i (some (frz d))) om G' F' σ H ∧ Rel B G' H [] v (frz d) ∧ Nx W G F H G' F' H [] := by
  obtain ⟨P, R, T, e, k, ks, _⟩ := S.env.at (i := i) (List.getElem?_eq_some_iff.mp h).1
  obtain ⟨v, e2, r⟩ := k d h
  subst e
  have memR : ∀ a ∈ R, a ∈ P ++ (R ++ T) := fun a ha => by simp [ha]
  have hnd := S.nd
  rw [List.nodup_append] at hnd
  obtain ⟨ndP, ndRT, dPR⟩ := hnd
  rw [List.nodup_append] at ndRT
  obtain ⟨ndR, ndT, dRT⟩ := ndRT
  have nP : ∀ a ∈ P, a ∉ R := fun a ha z => dPR a ha a (List.mem_append_left _ z) rfl
  have nT : ∀ a ∈ T, a ∉ R := fun a ha z => dRT a z a ha rfl
  have sm : Same G (gro G H R) := fun a o q => by
    rw [gro_out fun z => by have := S.FG a (memR a z); rw [q] at this; cases this]
    exact q
  have nb : ∀ a ∈ R, ¬ B a := fun a ha z => S.BG a z (S.FG a (memR a ha))
  have rf : Rel B (gro G H R) H [] v (frz d) := r.frz' (.of_same sm) (fun a ha => gro_in ha) nb
  have envN := ks (H' := H) (.of_same sm) (fun a _ => rfl) (fun a _ => rfl) rf
  rw [List.nil_append, set_id e2] at envN
  have inF : ∀ a ∈ P ++ T, a ∈ P ++ (R ++ T) ∧ a ∉ R := fun a ha => by
    rcases List.mem_append.mp ha with z | z
    · exact ⟨List.mem_append_left _ z, nP a z⟩
    · exact ⟨by simp [z], nT a z⟩
  refine ⟨v, gro G H R, P ++ T, e2, ⟨fun a o q => ?_, envN, ?_, fun a ha => ?_, fun a ha => S.FW a (inF a ha).1, fun a ha => ?_, fun a ha => ?_, S.wok⟩, rf, ⟨sm, fun a q ht g f w => ?_⟩⟩
  · by_cases z : a ∈ R
    · rwa [gro_in z] at q
    · rw [gro_out z] at q
      exact S.sub a o q
  · rw [List.nodup_append]
    exact ⟨ndP, ndT, fun a ha b hb => dPR a ha b (List.mem_append_right _ hb)⟩
  · rw [gro_out (inF a ha).2]
    exact S.FG a (inF a ha).1
  · rw [gro_out fun z => S.FW a (memR a z) ha]
    exact S.WG a ha
  · rw [gro_out fun z => nb a z ha]
    exact S.BG a ha
  · have nR : a ∉ R := fun z => f (memR a z)
    exact ⟨rfl, by rw [gro_out nR]; exact g, fun z => f (inF a z).1, by simp⟩
theorem dv (i : Nat) {x : Str} {pos : Pos} (hN : X.N[i]? = some x := by rfl) (hv : Vis X.env.scope x := by first | exact Or.inl rfl | exact Or.inr (Or.inl rfl) | exact Or.inr (Or.inr rfl)) (hd : (x == ("__debug__" : Str)) = false := by decide)
    (hcd : (x == ("__classdict__" : Str)) = false := by decide) : PE X (.Name x pos) (tD W B (dV i)) := (pe_var hN hv hd hcd).le fun σ H Q q => by
  obtain ⟨en, om, G, F, d', en', om', S, hf, k⟩ := q
  unfold dV at hf
  split at hf
  · rename_i d0 h0
    cases hf
    obtain ⟨v, G', F', e, S', r, n⟩ := S.shareAt h0
    exact ⟨v, e, k v H G' F' [] n S' (.sh r)⟩
  · cases hf

/-! ### operators -/
/-- a rule by values is served by g -/
def S2 (W : Wld Om) (B : AS) (g : D → D → Option D) (r : R2) : Prop := ∀ {en : Ev} {om : Om} {G H : Hp} {F : List Addr} {σ : L2.St} {x y : V} {a b c : D} {Q : VK}, Rst W B en om G F σ H → Rel B G H [] x a → Rel B G H [] y b → g a b = some c →
  (∀ v H' G' R, Nx W G F H G' F H' R → Rst W B en om G' F σ H' → Has W B G' F H' R v c → Q v H') → r x y H Q
def d2 (g : D → D → Option D) (f1 f2 : DE Om) : DE Om := fun en om => (f1 en om).bind fun p => (f2 p.2.1 p.2.2).bind fun q => (g (frz p.1) (frz q.1)).map fun c => (c, q.2.1, q.2.2)
theorem t2_use {g : D → D → Option D} {r : R2} {f1 f2 : DE Om} (hg : S2 W B g r) (q : tD W B (d2 g f1 f2) σ H Q) : tOp r (tD W B f1) (tD W B f2) σ H Q := by
  obtain ⟨en, om, G, F, c, en', om', S, hf, k⟩ := q
  obtain ⟨⟨a, en1, om1⟩, h1, hf⟩ := bind_some hf
  obtain ⟨⟨b, en2, om2⟩, h2, hf⟩ := bind_some hf
  obtain ⟨c', h3, hf⟩ := Option.map_eq_some_iff.mp hf
  cases hf
  refine tD.use S h1 fun x H1 G1 F1 n1 S1 r1 => tD.use S1 h2 fun y H2 G2 F2 n2 S2 r2 => ?_
  exact hg S2 (rel_keep r1 n2) r2 h3 fun v H' G' R n S' hh => k v H' G' F2 R ((n1.trans n2).trans n) S' hh
theorem de_op {op : Operator} {a b : Expr} {pos : Pos} {g : D → D → Option D} {r : R2} {f1 f2 : DE Om} (ho : OpR X (binaryOp op) r) (hg : S2 W B g r) (ha : PE X a (tD W B f1)) (hb : PE X b (tD W B f2)) : PE X (.BinOp a op b pos) (tD W B (d2 g f1 f2)) :=
  (pe_op ho ha hb).le fun _ _ _ q => t2_use hg q
theorem de_cmp {op : CmpOp} {a b : Expr} {pos : Pos} {g : D → D → Option D} {r : R2} {f1 f2 : DE Om} (ho : OpR X (compareOp op) r) (hg : S2 W B g r) (ha : PE X a (tD W B f1)) (hb : PE X b (tD W B f2)) (hm : behindInMarks op b = false) : PE X (.Compare a [op] [b] pos) (tD W B (d2 g f1 f2)) :=
  (pe_cmpR ho ha hb hm).le fun _ _ _ q => t2_use hg q
def dB (f : DE Om) : DT Om := fun en om => match f en om with
  | some (.bl b, en', om') => some (b, en', om')
  | _ => none
theorem dB_some {f : DE Om} {b : Bool} (h : dB f en om = some (b, en1, om1)) : f en om = some (.bl b, en1, om1) := by
  unfold dB at h
  split at h
  · rename_i h0
    cases h
    exact h0
  · cases h
/-- a test that is a value of True or False: from a reading of it that asks for that -/
theorem tB_use {f : DE Om} {t : TE} {Q : Bool → Hp → Prop} (hk : ∀ σ H Q, tD W B f σ H Q → t σ H Q) (q : tDT W B (dB f) σ H Q) : t σ H fun x H1 => ∃ c, x = .bl c ∧ Q c H1 := by
  obtain ⟨en, om, G, F, b, en', om', S, hf, k⟩ := q
  refine hk _ _ _ (tD.hold S (dB_some hf) fun v H' G' F' R n S' x => ?_)
  obtain ⟨r, _, _⟩ := x
  cases r
  exact ⟨b, rfl, k H' G' F' n S'⟩
theorem dt_val {f : DE Om} (h : PE X e (tD W B f)) (he : ∀ whole, isTrue e X.env whole = (do let v ← whole; standAt e.pos; holding [v] (truthy v)) := by intro _; rfl) : PT X e (tDT W B (dB f)) :=
  (pt_val h he).le fun _ _ _ q => tB_use (fun _ _ _ z => z) q
theorem dt_cmp {op : CmpOp} {a b : Expr} {pos : Pos} {g : D → D → Option D} {r : R2} {f1 f2 : DE Om} (ho : OpR X (compareOp op) r) (hg : S2 W B g r) (ha : PE X a (tD W B f1)) (hb : PE X b (tD W B f2)) (hm : behindInMarks op b = false) : PT X (.Compare a [op] [b] pos) (tDT W B (dB (d2 g f1 f2))) :=
  (pt_cmpR ho ha hb hm).le fun _ _ _ q => tB_use (fun _ _ _ z => t2_use hg z) q

/-! ### and, or, not, if -/
def dAndT (f g : DT Om) : DT Om := fun en om => (f en om).bind fun p => if p.1 = true then g p.2.1 p.2.2 else some (false, p.2.1, p.2.2)
def dOrT (f g : DT Om) : DT Om := fun en om => (f en om).bind fun p => if p.1 = true then some (true, p.2.1, p.2.2) else g p.2.1 p.2.2
def dNotT (f : DT Om) : DT Om := fun en om => (f en om).map fun p => (!p.1, p.2.1, p.2.2)
theorem dw_and1 {a : Expr} {pos : Pos} {f : DT Om} (ha : PT X a (tDT W B f)) : PW X (.BoolOp .And [a] pos) (tDT W B f) := pw_and1 ha
theorem dw_or1 {a : Expr} {pos : Pos} {f : DT Om} (ha : PT X a (tDT W B f)) : PW X (.BoolOp .Or [a] pos) (tDT W B f) := pw_or1 ha
theorem dw_and {a b : Expr} {rest : List Expr} {pos : Pos} {f g : DT Om} (ha : PT X a (tDT W B f)) (hb : PW X (.BoolOp .And (b :: rest) pos) (tDT W B g)) : PW X (.BoolOp .And (a :: b :: rest) pos) (tDT W B (dAndT f g)) := (pw_and ha hb).le fun σ H Q q => by
  obtain ⟨en, om, G, F, c, en', om', S, hf, k⟩ := q
  obtain ⟨⟨c1, en1, om1⟩, h1, hf⟩ := bind_some hf
  refine tDT.use S h1 fun H' G' F' n S' => ?_
  cases c1 with
  | true => exact iteT (tDT.use S' (by simpa using hf) fun H2 G2 F2 n2 S2 => k H2 G2 F2 (n.trans n2) S2)
  | false =>
    simp at hf
    obtain ⟨rfl, rfl, rfl⟩ := hf
    exact iteF (k H' G' F' n S')
theorem dw_or {a b : Expr} {rest : List Expr} {pos : Pos} {f g : DT Om} (ha : PT X a (tDT W B f)) (hb : PW X (.BoolOp .Or (b :: rest) pos) (tDT W B g)) : PW X (.BoolOp .Or (a :: b :: rest) pos) (tDT W B (dOrT f g)) := (pw_or ha hb).le fun σ H Q q => by
  obtain ⟨en, om, G, F, c, en', om', S, hf, k⟩ := q
  obtain ⟨⟨c1, en1, om1⟩, h1, hf⟩ := bind_some hf
  refine tDT.use S h1 fun H' G' F' n S' => ?_
  cases c1 with
  | false => exact iteF (tDT.use S' (by simpa using hf) fun H2 G2 F2 n2 S2 => k H2 G2 F2 (n.trans n2) S2)
  | true =>
    simp at hf
    obtain ⟨rfl, rfl, rfl⟩ := hf
    exact iteT (k H' G' F' n S')
theorem dt_not {a : Expr} {pos : Pos} {f : DT Om} (ha : PT X a (tDT W B f)) : PT X (.UnaryOp .Not a pos) (tDT W B (dNotT f)) := (pt_not ha).le fun σ H Q q => by
  obtain ⟨en, om, G, F, c, en', om', S, hf, k⟩ := q
  obtain ⟨⟨c1, en1, om1⟩, h1, hf⟩ := Option.map_eq_some_iff.mp hf
  cases hf
  exact tDT.use S h1 fun H' G' F' n S' => k H' G' F' n S'
/-- .. as values -/
def dAndV (f g : DE Om) : DE Om := fun en om => (dB f en om).bind fun p => if p.1 = true then g p.2.1 p.2.2 else some (.bl false, p.2.1, p.2.2)
def dOrV (f g : DE Om) : DE Om := fun en om => (dB f en om).bind fun p => if p.1 = true then some (.bl true, p.2.1, p.2.2) else g p.2.1 p.2.2
def dNotV (f : DE Om) : DE Om := fun en om => (dB f en om).map fun p => (.bl (!p.1), p.2.1, p.2.2)
theorem tD.bool {f : DE Om} {b : Bool} (S : Rst W B en om G F σ H) (h : dB f en om = some (b, en1, om1)) (k : ∀ H' G' F', Nx W G F H G' F' H' [] → Rst W B en1 om1 G' F' σ H' → Q (.bl b) H') : tD W B f σ H Q :=
  tD.use S (dB_some h) fun v H' G' F' n S' r => by
    cases r
    exact k H' G' F' n S'
theorem de_one {a : Expr} {op} {pos : Pos} {f : DE Om} (h : PE X a (tD W B f)) : PE X (.BoolOp op [a] pos) (tD W B f) := pe_one h
theorem de_and {a b : Expr} {rest : List Expr} {pos : Pos} {f g : DE Om} (ha : PE X a (tD W B f)) (hb : PE X (.BoolOp .And (b :: rest) pos) (tD W B g)) : PE X (.BoolOp .And (a :: b :: rest) pos) (tD W B (dAndV f g)) := (pe_and ha hb).le fun σ H Q q => by
  obtain ⟨en, om, G, F, c, en', om', S, hf, k⟩ := q
  obtain ⟨⟨c1, en1, om1⟩, h1, hf⟩ := bind_some hf
  refine tD.bool S h1 fun H' G' F' n S' => ⟨c1, rfl, ?_⟩
  cases c1 with
  | true => exact iteT (tD.hold S' (by simpa using hf) fun v H2 G2 F2 R n2 S2 x => k v H2 G2 F2 R (n.trans n2) S2 x)
  | false =>
    simp at hf
    obtain ⟨rfl, rfl, rfl⟩ := hf
    exact iteF (k _ H' G' F' [] n S' (.sh (.bl false)))
theorem de_or {a b : Expr} {rest : List Expr} {pos : Pos} {f g : DE Om} (ha : PE X a (tD W B f)) (hb : PE X (.BoolOp .Or (b :: rest) pos) (tD W B g)) : PE X (.BoolOp .Or (a :: b :: rest) pos) (tD W B (dOrV f g)) := (pe_or ha hb).le fun σ H Q q => by
  obtain ⟨en, om, G, F, c, en', om', S, hf, k⟩ := q
  obtain ⟨⟨c1, en1, om1⟩, h1, hf⟩ := bind_some hf
  refine tD.bool S h1 fun H' G' F' n S' => ⟨c1, rfl, ?_⟩
  cases c1 with
  | false => exact iteF (tD.hold S' (by simpa using hf) fun v H2 G2 F2 R n2 S2 x => k v H2 G2 F2 R (n.trans n2) S2 x)
  | true =>
    simp at hf
    obtain ⟨rfl, rfl, rfl⟩ := hf
    exact iteT (k _ H' G' F' [] n S' (.sh (.bl true)))
theorem de_not {a : Expr} {pos : Pos} {f : DE Om} (ha : PE X a (tD W B f)) : PE X (.UnaryOp .Not a pos) (tD W B (dNotV f)) := (pe_not ha).le fun σ H Q q => by
  obtain ⟨en, om, G, F, c, en', om', S, hf, k⟩ := q
  obtain ⟨⟨c1, en1, om1⟩, h1, hf⟩ := Option.map_eq_some_iff.mp hf
  cases hf
  exact tD.bool S h1 fun H' G' F' n S' => ⟨c1, rfl, k _ H' G' F' [] n S' (.sh (.bl _))⟩
def dIf (c : DT Om) (f g : DE Om) : DE Om := fun en om => (c en om).bind fun p => if p.1 = true then f p.2.1 p.2.2 else g p.2.1 p.2.2
theorem de_ifExp {a b c : Expr} {pos : Pos} {t : DT Om} {f g : DE Om} (hc : PT X c (tDT W B t)) (ha : PE X a (tD W B f)) (hb : PE X b (tD W B g)) : PE X (.IfExp c a b pos) (tD W B (dIf t f g)) := (pe_ifExp hc ha hb).le fun σ H Q q => by
  obtain ⟨en, om, G, F, c, en', om', S, hf, k⟩ := q
  obtain ⟨⟨c1, en1, om1⟩, h1, hf⟩ := bind_some hf
  refine tDT.use S h1 fun H' G' F' n S' => ?_
  cases c1 with
  | true => exact iteT (tD.hold S' (by simpa using hf) fun v H2 G2 F2 R n2 S2 x => k v H2 G2 F2 R (n.trans n2) S2 x)
  | false => exact iteF (tD.hold S' (by simpa using hf) fun v H2 G2 F2 R n2 S2 x => k v H2 G2 F2 R (n.trans n2) S2 x)

/-! ### argument lists -/
def aNil : DA Om := fun en om => some ([], en, om)
def aCons (f : DE Om) (g : DA Om) : DA Om := fun en om => (f en om).bind fun p => (g p.2.1 p.2.2).map fun q => (p.1 :: q.1, q.2.1, q.2.2)
theorem da_nil : PA X [] (tDA W B aNil) := pa_nil.le fun σ H Q q => by
  obtain ⟨en, om, G, F, ds, en', om', S, hf, k⟩ := q
  cases hf
  exact k [] H G F [] .refl S ⟨.nil, .nil, fun a h => by simp at h⟩
theorem da_cons {f : DE Om} {g : DA Om} (ha : PE X e (tD W B f)) (hr : PA X es (tDA W B g)) (hs : starEach (e :: es) X.env = (false, eval e X.env) :: starEach es X.env := by rfl) : PA X (e :: es) (tDA W B (aCons f g)) := (pa_cons ha hr hs).le fun σ H Q q => by
  obtain ⟨en, om, G, F, ds, en', om', S, hf, k⟩ := q
  obtain ⟨⟨d, en1, om1⟩, h1, hf⟩ := bind_some hf
  obtain ⟨⟨ds', en2, om2⟩, h2, hf⟩ := Option.map_eq_some_iff.mp hf
  cases hf
  refine tD.hold S h1 fun v H1 G1 F1 R1 n1 S1 x1 => tDA.hold S1 h2 fun vs H2 G2 F2 R2 n2 S2 x2 => ?_
  obtain ⟨x1', dj⟩ := x1.keep n2
  refine k (v :: vs) H2 G2 F2 (R1 ++ R2) ⟨n1.sub.trans n2.sub, fun a h ht g f w => ?_⟩ S2 ⟨.cons x1'.rel x2.rel, ?_, fun a ha => (List.mem_append.mp ha).elim (x1'.own a) (x2.own a)⟩
  · obtain ⟨e1, e2, e3, e4⟩ := n1.frm a h ht g f w
    obtain ⟨f1, f2, f3, f4⟩ := n2.frm a (by rw [e1]; exact h) (by rw [e1]; exact ht) e2 e3 w
    exact ⟨f1.trans e1, f2, f3, fun z => (List.mem_append.mp z).elim e4 f4⟩
  · rw [List.nodup_append]
    exact ⟨x1'.nd, x2.nd, fun a ha b hb e => dj a ha (e ▸ hb)⟩
/-- several things in hand become shared -/
theorem Rst.shares {R : List Addr} {vs : List V} {ds : List D} (S : Rst W B en om G F σ H) (x : Hass W B G F H R vs ds) : Rst W B en om (gro G H R) F σ H ∧ Rels B (gro G H R) H [] vs (frzs ds) ∧ ∀ {G0 F0 H0}, Nx W G0 F0 H0 G F H R → Nx W G0 F0 H0 (gro G H R) F H [] := by
  have sm : Same G (gro G H R) := fun a o e => by
    rw [gro_out fun z => by have := (x.own a z).1; rw [e] at this; cases this]
    exact e
  have nb : ∀ a ∈ R, ¬ B a := fun a ha z => S.BG a z (x.own a ha).1
  refine ⟨⟨fun a o e => ?_, S.env.mono (.of_same sm) fun a _ => rfl, S.nd, fun a ha => ?_, S.FW, fun a ha => ?_, fun a ha => ?_, S.wok⟩, x.rel.frz' (.of_same sm) (fun a ha => gro_in ha) nb, fun n => ⟨n.sub.trans sm, fun a h ht g f w => ?_⟩⟩
  · by_cases h : a ∈ R
    · rwa [gro_in h] at e
    · rw [gro_out h] at e
      exact S.sub a o e
  · rw [gro_out fun z => (x.own a z).2.1 ha]
    exact S.FG a ha
  · rw [gro_out fun z => (x.own a z).2.2 ha]
    exact S.WG a ha
  · rw [gro_out fun z => nb a z ha]
    exact S.BG a ha
  · obtain ⟨e1, e2, e3, e4⟩ := n.frm a h ht g f w
    exact ⟨e1, by rw [gro_out e4]; exact e2, e3, by simp⟩
theorem Hass.there {R : List Addr} {vs : List V} {ds : List D} (x : Hass W B G F H R vs ds) {a : Addr} (h : a ∈ R) : H a ≠ none := by
  rcases x.rel.there h with ⟨vs, e⟩ | ⟨kvs, e⟩
  · rw [e]; exact fun z => nomatch z
  · rw [e]; exact fun z => nomatch z

/-! ### displays -/
def dTup (g : DA Om) : DE Om := fun en om => (g en om).bind fun p => if p.1.length ≤ 1000 then some (.tup p.1, p.2.1, p.2.2) else none
def dLst (g : DA Om) : DE Om := fun en om => (g en om).bind fun p => if p.1.length ≤ 1000 then some (.lst .o p.1, p.2.1, p.2.2) else none
theorem de_tup {x1} {pos : Pos} {g : DA Om} (h : PA X es (tDA W B g)) : PE X (.Tuple es x1 pos) (tD W B (dTup g)) := (pe_tup h).le fun σ H Q q => by
  obtain ⟨en, om, G, F, c, en', om', S, hf, k⟩ := q
  obtain ⟨⟨ds, en1, om1⟩, h1, hf⟩ := bind_some hf
  refine tDA.hold S h1 fun vs H1 G1 F1 R1 n1 S1 x1 => ?_
  by_cases hl : ds.length ≤ 1000
  · simp [hl] at hf
    obtain ⟨rfl, rfl, rfl⟩ := hf
    refine ⟨by rw [x1.rel.length]; exact Nat.le_of_lt (small1000 hl), fun p hp => ?_⟩
    obtain ⟨S2, kn, kh⟩ := S1.grow (o := .tup vs) hp
    have ne : ∀ a ∈ R1, a ≠ p := fun a ha z => x1.there ha (z ▸ hp)
    refine k _ _ _ _ _ (kn n1) S2 ⟨.tup upd_same (x1.rel.mono (.of_same fun b u e => by rw [upd_ne (ne_of_none e (S1.sub.free hp))]; exact e) fun a ha => upd_ne (ne a ha)), x1.nd, fun a ha => ⟨by rw [upd_ne (ne a ha)]; exact (x1.own a ha).1, (x1.own a ha).2⟩⟩
  · simp [hl] at hf
theorem de_lst {pos : Pos} {g : DA Om} (h : PA X es (tDA W B g)) : PE X (.List es pos) (tD W B (dLst g)) := (pe_lst h).le fun σ H Q q => by
  obtain ⟨en, om, G, F, c, en', om', S, hf, k⟩ := q
  obtain ⟨⟨ds, en1, om1⟩, h1, hf⟩ := bind_some hf
  refine tDA.hold S h1 fun vs H1 G1 F1 R1 n1 S1 x1 => ?_
  by_cases hl : ds.length ≤ 1000
  · simp [hl] at hf
    obtain ⟨rfl, rfl, rfl⟩ := hf
    refine ⟨by rw [x1.rel.length]; exact Nat.le_of_lt (small1000 hl), fun p hp => ?_⟩
    obtain ⟨S2, kn, kh, gp, fp, wp⟩ := S1.new (o := .lst vs) hp
    have ne : ∀ a ∈ R1, a ≠ p := fun a ha z => x1.there ha (z ▸ hp)
    refine k _ _ _ _ _ (kn n1) S2 ⟨.lsto upd_same (x1.rel.mono (.refl _ _) fun a ha => upd_ne (ne a ha)), List.nodup_cons.mpr ⟨fun z => ne p z rfl, x1.nd⟩, fun a ha => ?_⟩
    rcases List.mem_cons.mp ha with z | z
    · subst z
      exact ⟨gp, fp, wp⟩
    · exact x1.own a z
  · simp [hl] at hf
end
end DL

/-! DS3: operators, subscripts, builtins, by data. -/
namespace DL
open PySem PySem.Spec PyProof.Rows L2

section
variable {Om : Type} {W : Wld Om} {B : AS} {X : Cx} {en en1 : Ev} {om om1 : Om} {G H : Hp} {F : List Addr} {σ : L2.St} {v x y : V} {d : D} {Q : VK}
theorem Rel.asL {g : Tag} {l : List D} (r : Rel B G H [] v (.lst g l)) : ∃ a vs, v = .ref a ∧ G a = some (.lst vs) ∧ Rels B G H [] vs l := by
  generalize hF : ([] : List Addr) = F at r
  cases r with
  | lstf h n r => exact ⟨_, _, rfl, h, r⟩
  | lstb h r => exact ⟨_, _, rfl, h, r⟩
  | lsto h r => cases hF
theorem Rel.asT {l : List D} (r : Rel B G H [] v (.tup l)) : ∃ a vs, v = .ref a ∧ G a = some (.tup vs) ∧ Rels B G H [] vs l := by
  generalize hF : ([] : List Addr) = F at r
  cases r with
  | tup h r => subst hF; exact ⟨_, _, rfl, h, r⟩
theorem Rel.asD {g : Tag} {ks : List Int} {l : List D} (r : Rel B G H [] v (.dic g ks l)) : ∃ (a : Addr) (kvs : List (Key × V)), v = .ref a ∧ Rd G a (.dK kvs) ∧ KsOk kvs ks ∧ Rels B G H [] (kvs.map (·.2)) l := by
  generalize hF : ([] : List Addr) = F at r
  cases r with
  | dicf h n e r => exact ⟨_, _, rfl, h, e, r⟩
  | dicb h e r => exact ⟨_, _, rfl, h, e, r⟩
  | dico h e r => cases hF
theorem rd_sub {a : Addr} {o : HO} (S : Rst W B en om G F σ H) (h : Rd G a o) : Rd H a o := h.elim (fun h => .inl (S.sub _ _ h)) fun ⟨q, h⟩ => .inr ⟨q, S.sub _ _ h⟩
/-- a new list of shared things, in hand; a new tuple -/
theorem Rst.lnew (S : Rst W B en om G F σ H) {p : Addr} (hp : H p = none) {vs : List V} {ds : List D} (r : Rels B G H [] vs ds) : Nx W G F H G F (upd H p (.lst vs)) [p] ∧ Rst W B en om G F σ (upd H p (.lst vs)) ∧ Has W B G F (upd H p (.lst vs)) [p] (.ref p) (.lst .o ds) := by
  obtain ⟨S2, kn, kh, gp, fp, wp⟩ := S.new (o := .lst vs) hp
  exact ⟨kn .refl, S2, ⟨.lsto upd_same (r.mono (.refl _ _) fun a ha => by simp at ha), by simp, fun a ha => by
    have : a = p := by simpa using ha
    subst this
    exact ⟨gp, fp, wp⟩⟩⟩
theorem Rst.tnew (S : Rst W B en om G F σ H) {p : Addr} (hp : H p = none) {vs : List V} {ds : List D} (r : Rels B G H [] vs ds) : Nx W G F H (upd G p (.tup vs)) F (upd H p (.tup vs)) [] ∧ Rst W B en om (upd G p (.tup vs)) F σ (upd H p (.tup vs)) ∧ Has W B (upd G p (.tup vs)) F (upd H p (.tup vs)) [] (.ref p) (.tup ds) := by
  obtain ⟨S2, kn, kh⟩ := S.grow (o := .tup vs) hp
  exact ⟨kn .refl, S2, .sh (.tup upd_same (r.mono (.of_same fun b u e => by rw [upd_ne (ne_of_none e (S.sub.free hp))]; exact e) fun a ha => by simp at ha))⟩

/-! ### operators -/
def sz (n : Nat) : Bool := decide (n ≤ 1000000)
theorem sz_le {n : Nat} (h : sz n = true) : n ≤ sizeLine := Nat.le_trans (of_decide_eq_true h) (by decide)
def oAdd : D → D → Option D
  | .int i, .int j => some (.int (i + j))
  | .lst _ xs, .lst _ ys => if sz (xs.length + ys.length) = true then some (.lst .o (xs ++ ys)) else none
  | .tup xs, .tup ys => if sz (xs.length + ys.length) = true then some (.tup (xs ++ ys)) else none
  | _, _ => none
def rAddA (K : PySem.W.Frag) : R2 := fun x y H Q => rI0 (fun i j => .int (i + j)) x y H Q ∨ rCat x y H Q ∨ rCatA K x y H Q
theorem or_add : OpR X (binaryOp .Add) (rAddA X.K) := op_add.or (op_cat.or op_catA)
theorem s2_add {K : PySem.W.Frag} : S2 W B oAdd (rAddA K) := by
  intro en om G H F σ x y a b c Q S ra rb h k
  unfold oAdd at h
  split at h
  · cases ra; cases rb; cases h
    exact .inl ⟨_, _, rfl, rfl, k _ H G [] .refl S (.sh (.int _))⟩
  · obtain ⟨p, vs, rfl, g1, r1⟩ := ra.asL
    obtain ⟨q, ws, rfl, g2, r2⟩ := rb.asL
    split at h
    · rename_i hz
      cases h
      have hz' := sz_le hz
      rw [← r1.length, ← r2.length] at hz'
      refine .inr (.inl ⟨p, q, vs, ws, rfl, rfl, S.sub _ _ g1, S.sub _ _ g2, hz', fun t ht => ?_⟩)
      obtain ⟨n, S', hh⟩ := S.lnew ht (r1.append0 r2)
      exact k _ _ _ _ n S' hh
    · cases h
  · obtain ⟨p, vs, rfl, g1, r1⟩ := ra.asT
    obtain ⟨q, ws, rfl, g2, r2⟩ := rb.asT
    split at h
    · rename_i hz
      cases h
      have hz' := sz_le hz
      rw [← r1.length, ← r2.length] at hz'
      refine .inr (.inr ⟨p, q, vs, ws, rfl, rfl, .of (S.sub _ _ g1), .of (S.sub _ _ g2), hz', fun e => ?_, fun _ e => ?_, fun _ _ t ht => ?_⟩)
      · subst e
        have r := r1.append0 r2
        exact k _ H G [] .refl S (.sh (.tup (by simpa using g2) r))
      · subst e
        have r := r1.append0 r2
        exact k _ H G [] .refl S (.sh (.tup (by simpa using g1) r))
      · obtain ⟨n, S', hh⟩ := S.tnew ht (r1.append0 r2)
        exact k _ _ _ _ n S' hh
    · cases h
  · cases h
/-- two ints -/
def oI (f : Int → Int → Option D) : D → D → Option D
  | .int i, .int j => f i j
  | _, _ => none
theorem s2_I0 {f : Int → Int → V} {g : Int → Int → D} (hr : ∀ i j G H, Rel B G H [] (f i j) (g i j)) : S2 W B (oI fun i j => some (g i j)) (rI0 f) := by
  intro en om G H F σ x y a b c Q S ra rb h k
  unfold oI at h
  split at h
  · cases ra; cases rb; cases h
    exact ⟨_, _, rfl, rfl, k _ H G [] .refl S (.sh (hr _ _ _ _))⟩
  · cases h
theorem s2_IC {C : Int → Int → Prop} [DecidableRel C] {f : Int → Int → V} {g : Int → Int → D} (hr : ∀ i j G H, Rel B G H [] (f i j) (g i j)) : S2 W B (oI fun i j => if C i j then some (g i j) else none) (rI C f) := by
  intro en om G H F σ x y a b c Q S ra rb h k
  unfold oI at h
  split at h
  · dsimp only at h
    split at h
    · rename_i hc
      cases ra; cases rb; cases h
      exact ⟨_, _, rfl, rfl, hc, k _ H G [] .refl S (.sh (hr _ _ _ _))⟩
    · cases h
  · cases h
instance : DecidableRel CMul := fun i j => by unfold CMul; exact inferInstance
instance : DecidableRel CDiv := fun i j => by unfold CDiv; exact inferInstance
instance : DecidableRel CPow := fun i j => by unfold CPow; exact inferInstance
def oSub := oI fun i j => some (.int (i - j))
theorem s2_sub : S2 W B oSub (rI0 fun i j => .int (i - j)) := s2_I0 (g := fun i j => .int (i - j)) fun _ _ _ _ => .int _
def oDiv := oI fun i j => if CDiv i j then some (.int (i / j)) else none
theorem s2_div : S2 W B oDiv (rI CDiv fun i j => .int (i / j)) := s2_IC (g := fun i j => .int (i / j)) fun _ _ _ _ => .int _
def oMod := oI fun i j => if 0 < j then some (.int (i % j)) else none
theorem s2_mod : S2 W B oMod (rI (fun _ j => 0 < j) fun i j => .int (i % j)) := s2_IC (C := fun _ j => 0 < j) (g := fun i j => .int (i % j)) fun _ _ _ _ => .int _
def oPow := oI fun i j => if CPow i j then some (.int (i ^ j.toNat)) else none
theorem s2_pow : S2 W B oPow (rI CPow fun i j => .int (i ^ j.toNat)) := s2_IC (g := fun i j => .int (i ^ j.toNat)) fun _ _ _ _ => .int _
/-- times: two ints, or a list some times -/
def oMul : D → D → Option D
  | .int i, .int j => if CMul i j then some (.int (i * j)) else none
  | .lst _ xs, .int j => if sz (xs.length * j.toNat) = true ∧ j < 1000000 ∧ -1000000 < j then some (.lst .o (List.replicate j.toNat xs).flatten) else none
  | _, _ => none
def rMulA : R2 := fun x y H Q => rI CMul (fun i j => .int (i * j)) x y H Q ∨ rRep x y H Q
theorem or_mul : OpR X (binaryOp .Mult) rMulA := op_mul.or op_rep
theorem Rels.repl {G H : Hp} {vs : List V} {ds : List D} (r : Rels B G H [] vs ds) : ∀ n : Nat, Rels B G H [] (List.replicate n vs).flatten (List.replicate n ds).flatten
  | 0 => .nil
  | n + 1 => by
    rw [List.replicate_succ, List.replicate_succ, List.flatten_cons, List.flatten_cons]
    exact r.append0 (Rels.repl r n)
theorem s2_mul : S2 W B oMul rMulA := by
  intro en om G H F σ x y a b c Q S ra rb h k
  unfold oMul at h
  split at h
  · split at h
    · rename_i hc
      cases ra; cases rb; cases h
      exact .inl ⟨_, _, rfl, rfl, hc, k _ H G [] .refl S (.sh (.int _))⟩
    · cases h
  · rename_i g xs j
    obtain ⟨p, vs, rfl, g1, r1⟩ := ra.asL
    cases rb
    split at h
    · rename_i hz
      cases h
      have hz' := sz_le hz.1
      rw [← r1.length] at hz'
      refine .inr ⟨p, j, vs, rfl, rfl, S.sub _ _ g1, by omega, by omega, hz', fun t ht => ?_⟩
      obtain ⟨n, S', hh⟩ := S.lnew ht (r1.repl j.toNat)
      exact k _ _ _ _ n S' hh
    · cases h
  · cases h
def oLt := oI fun i j => some (.bl (decide (i < j)))
def oLe := oI fun i j => some (.bl (decide (i ≤ j)))
def oGt := oI fun i j => some (.bl (decide (j < i)))
def oGe := oI fun i j => some (.bl (decide (j ≤ i)))
theorem s2_lt : S2 W B oLt (rI0 fun i j => .bl (decide (i < j))) := s2_I0 (g := fun i j => .bl (decide (i < j))) fun _ _ _ _ => .bl _
theorem s2_le : S2 W B oLe (rI0 fun i j => .bl (decide (i ≤ j))) := s2_I0 (g := fun i j => .bl (decide (i ≤ j))) fun _ _ _ _ => .bl _
theorem s2_gt : S2 W B oGt (rI0 fun i j => .bl (decide (j < i))) := s2_I0 (g := fun i j => .bl (decide (j < i))) fun _ _ _ _ => .bl _
theorem s2_ge : S2 W B oGe (rI0 fun i j => .bl (decide (j ≤ i))) := s2_I0 (g := fun i j => .bl (decide (j ≤ i))) fun _ _ _ _ => .bl _
def isNon : D → Bool
  | .non => true
  | _ => false
theorem Rel.isNon {F : List Addr} (r : Rel B G H F v d) : decide (v = .non) = isNon d := by
  cases r <;> first | rfl | (simp [DL.isNon])
def oIs : D → D → Option D
  | a, .non => some (.bl (isNon a))
  | _, _ => none
def oIsnt : D → D → Option D
  | a, .non => some (.bl (!isNon a))
  | _, _ => none
theorem s2_is : S2 W B oIs (fun x y H Q => y = .non ∧ Q (.bl (decide (x = .non))) H) := by
  intro en om G H F σ x y a b c Q S ra rb h k
  unfold oIs at h
  split at h
  · cases rb; cases h
    exact ⟨rfl, k _ H G [] .refl S (.sh (by rw [ra.isNon]; exact .bl _))⟩
  · cases h
theorem s2_isnt : S2 W B oIsnt (fun x y H Q => y = .non ∧ Q (.bl (!decide (x = .non))) H) := by
  intro en om G H F σ x y a b c Q S ra rb h k
  unfold oIsnt at h
  split at h
  · cases rb; cases h
    exact ⟨rfl, k _ H G [] .refl S (.sh (by rw [ra.isNon]; exact .bl _))⟩
  · cases h

/-! ### == and != -/
mutual
def py : D → Option PyData
  | .non => some .none
  | .bl b => some (.bool b)
  | .int i => some (.int i)
  | .str s => some (.str s)
  | .tup l => (pys l).map .tuple
  | .lst _ l => (pys l).map .list
  | _ => none
def pys : List D → Option (List PyData)
  | [] => some []
  | d :: ds => (py d).bind fun p => (pys ds).map fun q => p :: q
end
mutual
theorem Rel.dp {K : PySem.W.Frag} (sm : Same G H) : ∀ {F : List Addr} {v : V} {d : D}, Rel B G H F v d → ∀ {p : PyData}, py d = some p → Dp K H v p
  | _, _, _, .non, p, h => by simp [py] at h; subst h; exact .non
  | _, _, _, .bl b, p, h => by simp [py] at h; subst h; exact .bl b
  | _, _, _, .int i, p, h => by simp [py] at h; subst h; exact .int i
  | _, _, _, .str i, p, h => by simp [py] at h; subst h; exact .str i
  | _, _, _, .opq a, p, h => by simp [py] at h
  | _, _, _, .ty a, p, h => by simp [py] at h
  | _, _, _, .tup e r, p, h => by
    simp only [py] at h
    obtain ⟨q, h1, rfl⟩ := Option.map_eq_some_iff.mp h
    exact .tup (.of (sm _ _ e)) (Rels.dp sm r h1)
  | _, _, _, .lstf e n r, p, h => by
    simp only [py] at h
    obtain ⟨q, h1, rfl⟩ := Option.map_eq_some_iff.mp h
    exact .lst (.of (sm _ _ e)) (Rels.dp sm r h1)
  | _, _, _, .lstb e r, p, h => by
    simp only [py] at h
    obtain ⟨q, h1, rfl⟩ := Option.map_eq_some_iff.mp h
    exact .lst (.of (sm _ _ e)) (Rels.dp sm r h1)
  | _, _, _, .lsto e r, p, h => by
    simp only [py] at h
    obtain ⟨q, h1, rfl⟩ := Option.map_eq_some_iff.mp h
    exact .lst (.of e) (Rels.dp sm r h1)
  | _, _, _, .dicf e n q r, p, h => by simp [py] at h
  | _, _, _, .dicb e q r, p, h => by simp [py] at h
  | _, _, _, .dico e q r, p, h => by simp [py] at h
theorem Rels.dp {K : PySem.W.Frag} (sm : Same G H) : ∀ {F : List Addr} {vs : List V} {ds : List D}, Rels B G H F vs ds → ∀ {ps : List PyData}, pys ds = some ps → DpAll K H vs ps
  | _, _, _, .nil, p, h => by simp [pys] at h; subst h; exact .nil
  | _, _, _, .cons r t, p, h => by
    simp only [pys] at h
    obtain ⟨q, h1, h⟩ := bind_some h
    obtain ⟨qs, h2, rfl⟩ := Option.map_eq_some_iff.mp h
    exact .cons (Rel.dp sm r h1) (Rels.dp sm t h2)
end
def eqD (a b : D) : Option Bool := (py a).bind fun p => (py b).bind fun q => if SeqAt.shaped p = true ∧ SeqAt.shaped q = true then some (PyData.eqv p q) else none
def oEq (a b : D) : Option D := (eqD a b).map fun c => .bl c
def oNe (a b : D) : Option D := (eqD a b).map fun c => .bl (!c)
theorem eqD_some {K : PySem.W.Frag} {a b : D} {c : Bool} (S : Rst W B en om G F σ H) (ra : Rel B G H [] x a) (rb : Rel B G H [] y b) (h : eqD a b = some c) : ∃ p q, Dp K H x p ∧ Dp K H y q ∧ SeqAt.shaped p = true ∧ SeqAt.shaped q = true ∧ PyData.eqv p q = c := by
  unfold eqD at h
  obtain ⟨p, h1, h⟩ := bind_some h
  obtain ⟨q, h2, h⟩ := bind_some h
  split at h
  · rename_i hs
    cases h
    exact ⟨p, q, ra.dp S.sub h1, rb.dp S.sub h2, hs.1, hs.2, rfl⟩
  · cases h
theorem s2_eq {K : PySem.W.Frag} : S2 W B oEq (rEqD K) := by
  intro en om G H F σ x y a b c Q S ra rb h k
  obtain ⟨e, h1, rfl⟩ := Option.map_eq_some_iff.mp h
  obtain ⟨p, q, d1, d2, s1, s2, rfl⟩ := eqD_some (K := K) S ra rb h1
  exact ⟨p, q, d1, d2, s1, s2, k _ H G [] .refl S (.sh (.bl _))⟩
theorem s2_ne {K : PySem.W.Frag} : S2 W B oNe (rNeD K) := by
  intro en om G H F σ x y a b c Q S ra rb h k
  obtain ⟨e, h1, rfl⟩ := Option.map_eq_some_iff.mp h
  obtain ⟨p, q, d1, d2, s1, s2, rfl⟩ := eqD_some (K := K) S ra rb h1
  exact ⟨p, q, d1, d2, s1, s2, k _ H G [] .refl S (.sh (.bl _))⟩

/-! ### a < b < c -/
def dChain (g g' : D → D → Option D) (f1 f2 f3 : DE Om) : DE Om := fun en om => (f1 en om).bind fun p => (f2 p.2.1 p.2.2).bind fun q => match g (frz p.1) (frz q.1) with
  | some (.bl true) => (f3 q.2.1 q.2.2).bind fun r => (g' (frz q.1) (frz r.1)).map fun c => (c, r.2.1, r.2.2)
  | some (.bl false) => some (.bl false, q.2.1, q.2.2)
  | _ => none
/-- the answer of a comparison is a bool that makes nothing -/
theorem t3_use {g g' : D → D → Option D} {r r' : R2} {f1 f2 f3 : DE Om} (hg : S2 W B g r) (hg' : S2 W B g' r') {R : V → Hp → Prop} (q : tD W B (dChain g g' f1 f2 f3) σ H fun v H' => R v H') :
    tD W B f1 σ H fun x H1 => tD W B f2 σ H1 fun y H2 => r x y H2 fun z H3 => ∃ k, z = .bl k ∧ if k = true then tD W B f3 σ H3 fun w H4 => r' y w H4 R else R (.bl false) H3 := by
  obtain ⟨en, om, G, F, c, en', om', S, hf, k⟩ := q
  obtain ⟨⟨a, en1, om1⟩, h1, hf⟩ := bind_some hf
  obtain ⟨⟨b, en2, om2⟩, h2, hf⟩ := bind_some hf
  refine tD.use S h1 fun x H1 G1 F1 n1 S1 r1 => tD.use S1 h2 fun y H2 G2 F2 n2 S2 r2 => ?_
  split at hf
  · rename_i h3
    obtain ⟨⟨e, en3, om3⟩, h4, hf⟩ := bind_some hf
    obtain ⟨c', h5, hf⟩ := Option.map_eq_some_iff.mp hf
    cases hf
    refine hg S2 (rel_keep r1 n2) r2 h3 fun v H3 G3 R3 n3 S3 hh => ?_
    obtain ⟨rr, _, _⟩ := hh
    cases rr
    refine ⟨true, rfl, iteT (tD.use S3 h4 fun w H4 G4 F4 n4 S4 r4 => ?_)⟩
    exact hg' S4 (rel_keep (rel_keep r2 n3) n4) r4 h5 fun v H5 G5 R5 n5 S5 hh => k v H5 G5 F4 R5 ((((n1.trans n2).trans n3).trans n4).trans n5) S5 hh
  · rename_i h3
    cases hf
    refine hg S2 (rel_keep r1 n2) r2 h3 fun v H3 G3 R3 n3 S3 hh => ?_
    obtain ⟨rr, _, _⟩ := hh
    cases rr
    exact ⟨false, rfl, iteF (k _ H3 G3 F2 [] ((n1.trans n2).trans n3) S3 (.sh (.bl _)))⟩
  · cases hf

theorem de_chain {op op' : CmpOp} {a b c : Expr} {pos : Pos} {g g' : D → D → Option D} {r r' : R2} {f1 f2 f3 : DE Om} (ho : OpR X (compareOp op) r) (ho' : OpR X (compareOp op') r') (hg : S2 W B g r) (hg' : S2 W B g' r') (ha : PE X a (tD W B f1)) (hb : PE X b (tD W B f2)) (hc : PE X c (tD W B f3))
    (hm : lastMarks [op, op'] [b, c] = false := by with_unfolding_all rfl) : PE X (.Compare a [op, op'] [b, c] pos) (tD W B (dChain g g' f1 f2 f3)) := (pe_chain ho ho' ha hb hc hm).le fun _ _ _ q => t3_use hg hg' q
theorem dt_chain {op op' : CmpOp} {a b c : Expr} {pos : Pos} {g g' : D → D → Option D} {r r' : R2} {f1 f2 f3 : DE Om} (ho : OpR X (compareOp op) r) (ho' : OpR X (compareOp op') r') (hg : S2 W B g r) (hg' : S2 W B g' r') (ha : PE X a (tD W B f1)) (hb : PE X b (tD W B f2)) (hc : PE X c (tD W B f3))
    (hm : lastMarks [op, op'] [b, c] = false := by with_unfolding_all rfl) : PT X (.Compare a [op, op'] [b, c] pos) (tDT W B (dB (dChain g g' f1 f2 f3))) := (pt_chain ho ho' ha hb hc hm).le fun _ _ _ q => tB_use (fun _ _ _ z => t3_use hg hg' z) q

/-! ### in -/
def flatD : D → Bool
  | .non => true | .bl _ => true | .int _ => true | .str _ => true
  | _ => false
def eqS (a b : D) : Bool := match a, b with
  | .non, .non => true
  | .bl a, .bl b => a == b
  | .bl a, .int j => (if a then 1 else 0) == j
  | .int i, .bl b => i == (if b then 1 else 0)
  | .int i, .int j => i == j
  | .str x, .str y => x == y
  | _, _ => false
end
end DL

/-! DS4: statements, loops, defs and their calls, by data. -/
namespace DL
open PySem PySem.Spec PyProof.Rows L2

inductive Out where
  | nx | bk | ct | rt (d : D) | rz (C : Addr) (fs : List (Str × V))
/-- at o: an error's own dict with these fields (none: no dict) -/
def Xd (H : Hp) (o : Option Addr) (fs : List (Str × V)) : Prop := (fs = [] ∧ o = none) ∨ ∃ d, o = some d ∧ H d = some (.xd fs)
abbrev SD (Om : Type) := Ev → Om → Option (Out × Ev × Om)
section
variable {Om : Type} (W : Wld Om) (B : AS)
/-- what is wanted behind it, by its way out -/
def ends (Z : XK) (Dn : Ends) (en' : Ev) (om' : Om) (G : Hp) (F : List Addr) (H : Hp) : Out → Prop
  | .nx => ∀ σ' H' G' F', Nx W G F H G' F' H' [] → Rst W B en' om' G' F' σ' H' → Dn.nx σ' H'
  | .bk => ∀ σ' H' G' F', Nx W G F H G' F' H' [] → Rst W B en' om' G' F' σ' H' → Dn.bk σ' H'
  | .ct => ∀ σ' H' G' F', Nx W G F H G' F' H' [] → Rst W B en' om' G' F' σ' H' → Dn.ct σ' H'
  | .rt d => ∀ σ' v H' G' F' R, Nx W G F H G' F' H' R → Rst W B en' om' G' F' σ' H' → Has W B G' F' H' R v d → Dn.rt v H'
  | .rz C fs => ∀ σ' H' G' F' o, Nx W G F H G' F' H' [] → Rst W B en' om' G' F' σ' H' → Xd H' o fs → Z (.ref C) o H'
def tS (Z : XK) (f : SD Om) : TS := fun Dn σ H => ∃ en om G F o en' om', Rst W B en om G F σ H ∧ f en om = some (o, en', om') ∧ ends W B Z Dn en' om' G F H o
abbrev TgD (Om : Type) := D → Ev → Om → Option (Ev × Om)
abbrev TgsD (Om : Type) := List D → Ev → Om → Option (Ev × Om)
/-- slots of vs set aside, σ' is σ -/
def Only (sl : List Nat) (σ σ' : L2.St) : Prop := ∀ vs : List Nat, (∀ i ∈ sl, i ∈ vs) → wipe σ' vs = wipe σ vs
def tG (sl : List Nat) (g : TgD Om) : TG := fun v σ H Q => ∃ en om G F R d en' om', Rst W B en om G F σ H ∧ Has W B G F H R v d ∧ g d en om = some (en', om') ∧
  ∀ σ' H' G' F', (∀ {G0 F0 H0}, Nx W G0 F0 H0 G F H R → Nx W G0 F0 H0 G' F' H' []) → Rst W B en' om' G' F' σ' H' → Only sl σ σ' → Q σ' H'
def tGs (sl : List Nat) (g : TgsD Om) : TGs := fun vs σ H Q => ∃ en om G F R ds en' om', Rst W B en om G F σ H ∧ Hass W B G F H R vs ds ∧ g ds en om = some (en', om') ∧
  ∀ σ' H' G' F', (∀ {G0 F0 H0}, Nx W G0 F0 H0 G F H R → Nx W G0 F0 H0 G' F' H' []) → Rst W B en' om' G' F' σ' H' → Only sl σ σ' → Q σ' H'
end
section
variable {Om : Type} {W : Wld Om} {B : AS} {Z : XK} {X : Cx} {en en' en1 : Ev} {om om' om1 : Om} {G G1 H H1 : Hp} {F F1 R : List Addr} {σ σ1 : L2.St} {v x y : V} {d : D} {Q : VK} {Dn : Ends}
theorem ends.later {o : Out} (h : ends W B Z Dn en' om' G F H o) (n : Nx W G F H G1 F1 H1 []) : ends W B Z Dn en' om' G1 F1 H1 o := by
  cases o with
  | nx => exact fun σ' H' G' F' m S => h σ' H' G' F' (n.trans m) S
  | bk => exact fun σ' H' G' F' m S => h σ' H' G' F' (n.trans m) S
  | ct => exact fun σ' H' G' F' m S => h σ' H' G' F' (n.trans m) S
  | rt d => exact fun σ' v H' G' F' R m S x => h σ' v H' G' F' R (n.trans m) S x
  | rz C fs => exact fun σ' H' G' F' o m S x => h σ' H' G' F' o (n.trans m) S x
theorem tS.run {f : SD Om} {o : Out} (S : Rst W B en om G F σ H) (h : f en om = some (o, en', om')) (k : ends W B Z Dn en' om' G F H o) : tS W B Z f Dn σ H := ⟨en, om, G, F, o, en', om', S, h, k⟩

/-! ### blocks -/
def sSkip : SD Om := fun en om => some (.nx, en, om)
def sSeq (f g : SD Om) : SD Om := fun en om => (f en om).bind fun p => match p with
  | (.nx, en, om) => g en om
  | r => some r
theorem ds_nil : PSs X [] (tS W B Z sSkip) := pss_nil.le fun Dn σ H q => by
  obtain ⟨en, om, G, F, o, en', om', S, hf, k⟩ := q
  cases hf
  exact k σ H G F .refl S
theorem ds_cons {st : Stmt} {rest : List Stmt} {f g : SD Om} (h1 : PS X st (tS W B Z f)) (h2 : PSs X rest (tS W B Z g)) : PSs X (st :: rest) (tS W B Z (sSeq f g)) := (pss_cons h1 h2).le fun Dn σ H q => by
  obtain ⟨en, om, G, F, o, en', om', S, hf, k⟩ := q
  obtain ⟨⟨o1, en1, om1⟩, h1, hf⟩ := bind_some hf
  cases o1 with
  | nx => exact tS.run (o := .nx) S h1 fun σ' H' G' F' n S' => tS.run S' hf (k.later n)
  | bk => cases hf; exact tS.run (o := .bk) S h1 k
  | ct => cases hf; exact tS.run (o := .ct) S h1 k
  | rt d => cases hf; exact tS.run (o := .rt d) S h1 k
  | rz C fs => cases hf; exact tS.run (o := .rz C fs) S h1 k
theorem ds_one {st : Stmt} {f : SD Om} (h1 : PS X st (tS W B Z f)) : PSs X [st] (tS W B Z f) := (pss_one h1)
theorem ds_pass {pos : Pos} : PS X (.Pass pos) (tS W B Z sSkip) := ps_pass.le fun Dn σ H q => by
  obtain ⟨en, om, G, F, o, en', om', S, hf, k⟩ := q
  cases hf
  exact k σ H G F .refl S
def sBreak : SD Om := fun en om => some (.bk, en, om)
def sCont : SD Om := fun en om => some (.ct, en, om)
theorem ds_break {pos : Pos} : PS X (.Break pos) (tS W B Z sBreak) := ps_break.le fun Dn σ H q => by
  obtain ⟨en, om, G, F, o, en', om', S, hf, k⟩ := q
  cases hf
  exact k σ H G F .refl S
theorem ds_continue {pos : Pos} : PS X (.Continue pos) (tS W B Z sCont) := ps_continue.le fun Dn σ H q => by
  obtain ⟨en, om, G, F, o, en', om', S, hf, k⟩ := q
  cases hf
  exact k σ H G F .refl S
def sNever : SD Om := fun _ _ => none
theorem ds_never {st : Stmt} : PS X st (tS W B Z sNever) := ps_never.le fun Dn σ H q => by
  obtain ⟨en, om, G, F, o, en', om', S, hf, k⟩ := q
  cases hf
def sExpr (f : DE Om) : SD Om := fun en om => (f en om).map fun p => (.nx, p.2.1, p.2.2)
theorem ds_expr {e : Expr} {pos : Pos} {f : DE Om} (he : PE X e (tD W B f)) (hs : swapsWith e none pos.line X.env = pure false := by rfl) : PS X (.Expr e pos) (tS W B Z (sExpr f)) := (ps_expr he hs).le fun Dn σ H q => by
  obtain ⟨en, om, G, F, o, en', om', S, hf, k⟩ := q
  obtain ⟨⟨d, en1, om1⟩, h1, hf⟩ := Option.map_eq_some_iff.mp hf
  cases hf
  exact tD.hold S h1 fun v H' G' F' R n S' x => k σ H' G' F' n.drop S'
def sRet (f : DE Om) : SD Om := fun en om => (f en om).map fun p => (.rt p.1, p.2.1, p.2.2)
theorem ds_ret {e : Expr} {pos : Pos} {f : DE Om} (he : PE X e (tD W B f)) : PS X (.Return (some e) pos) (tS W B Z (sRet f)) := (ps_ret he).le fun Dn σ H q => by
  obtain ⟨en, om, G, F, o, en', om', S, hf, k⟩ := q
  obtain ⟨⟨d, en1, om1⟩, h1, hf⟩ := Option.map_eq_some_iff.mp hf
  cases hf
  exact tD.hold S h1 fun v H' G' F' R n S' x => k σ v H' G' F' R n S' x
def sIf (c : DT Om) (f g : SD Om) : SD Om := fun en om => (c en om).bind fun p => if p.1 = true then f p.2.1 p.2.2 else g p.2.1 p.2.2
theorem ds_if {c : Expr} {a b : List Stmt} {pos : Pos} {t : DT Om} {f g : SD Om} (hc : PT X c (tDT W B t)) (ha : PSs X a (tS W B Z f)) (hb : PSs X b (tS W B Z g)) : PS X (.If c a b pos) (tS W B Z (sIf t f g)) := (ps_if hc ha hb).le fun Dn σ H q => by
  obtain ⟨en, om, G, F, o, en', om', S, hf, k⟩ := q
  obtain ⟨⟨c1, en1, om1⟩, h1, hf⟩ := bind_some hf
  refine tDT.use S h1 fun H' G' F' n S' => ?_
  cases c1 with
  | true => exact iteT (tS.run S' (by simpa using hf) (k.later n))
  | false => exact iteF (tS.run S' (by simpa using hf) (k.later n))

/-! ### targets, assignments -/
theorem wipe_get (σ : L2.St) (j : Nat) : ∀ vs : List Nat, (wipe σ vs)[j]? = if j ∈ vs then σ[j]?.map (fun _ => none) else σ[j]?
  | [] => by simp [wipe]
  | v :: vs => by
    show ((wipe σ vs).set v none)[j]? = _
    by_cases e : v = j
    · subst e
      rw [if_pos List.mem_cons_self]
      by_cases hl : v < σ.length
      · rw [List.getElem?_set_self (by rw [wipe_length]; exact hl), List.getElem?_eq_getElem hl]
        rfl
      · rw [List.getElem?_eq_none (by rw [List.length_set, wipe_length]; omega), List.getElem?_eq_none (by omega)]
        rfl
    · rw [List.getElem?_set_ne e, wipe_get σ j vs]
      have : j ∈ v :: vs ↔ j ∈ vs := by simp [Ne.symm e]
      simp only [this]
theorem only_refl {σ : L2.St} : Only [] σ σ := fun _ _ => rfl
theorem only_set {σ : L2.St} {i : Nat} {x : Option V} : Only [i] σ (σ.set i x) := fun vs h => by
  have hi : i ∈ vs := h i List.mem_cons_self
  apply List.ext_getElem?
  intro j
  rw [wipe_get, wipe_get]
  by_cases e : i = j
  · subst e
    rw [if_pos hi, if_pos hi]
    by_cases hl : i < σ.length
    · rw [List.getElem?_set_self hl, List.getElem?_eq_getElem hl]
      rfl
    · rw [List.getElem?_eq_none (by rw [List.length_set]; omega), List.getElem?_eq_none (by omega)]
  · rw [List.getElem?_set_ne e]
theorem Only.trans {s1 s2 : List Nat} {σ σ1 σ2 : L2.St} (a : Only s1 σ σ1) (b : Only s2 σ1 σ2) : Only (s1 ++ s2) σ σ2 := fun vs h =>
  (b vs fun i hi => h i (List.mem_append_right _ hi)).trans (a vs fun i hi => h i (List.mem_append_left _ hi))
/-- a slot takes what is in hand -/
theorem Rst.take (S : Rst W B en om G F σ H) (x : Has W B G F H R v d) {i : Nat} (hi : i < en.length) : ∃ F', Rst W B (en.set i (some d)) om G F' (σ.set i (some v)) H ∧ (∀ a ∈ F', a ∈ F ∨ a ∈ R) ∧ ∀ {G0 F0 H0}, Nx W G0 F0 H0 G F H R → Nx W G0 F0 H0 G F' H [] := by
  obtain ⟨P, T, U, e, k, ks, _⟩ := S.env.at hi
  subst e
  have env := ks (H' := H) (.refl _ _) (fun a _ => rfl) (fun a _ => rfl) x.rel
  have mem : ∀ a ∈ P ++ (R ++ U), a ∈ P ++ (T ++ U) ∨ a ∈ R := fun a ha => by
    simp only [List.mem_append] at ha ⊢
    rcases ha with h | h | h
    · exact .inl (.inl h)
    · exact .inr h
    · exact .inl (.inr (.inr h))
  have hnd := S.nd
  simp only [List.nodup_append] at hnd
  obtain ⟨ndP, ⟨ndT, ndU, dTU⟩, dP⟩ := hnd
  refine ⟨_, ⟨S.sub, env, ?_, fun a ha => (mem a ha).elim (S.FG a) fun z => (x.own a z).1, fun a ha => (mem a ha).elim (S.FW a) fun z => (x.own a z).2.2, S.WG, S.BG, S.wok⟩, mem, fun n => ⟨n.sub, fun a h ht g f w => ?_⟩⟩
  · simp only [List.nodup_append]
    refine ⟨ndP, ⟨x.nd, ndU, fun a ha b hb e => ?_⟩, fun a ha b hb e => ?_⟩
    · subst e
      exact (x.own a ha).2.1 (by simp [hb])
    · subst e
      rcases List.mem_append.mp hb with z | z
      · exact (x.own a z).2.1 (by simp [ha])
      · exact dP a ha a (List.mem_append_right _ z) rfl
  · obtain ⟨e1, e2, e3, e4⟩ := n.frm a h ht g f w
    exact ⟨e1, e2, fun z => (mem a z).elim e3 e4, by simp⟩
def gN (i : Nat) : TgD Om := fun d en om => if i < en.length then some (en.set i (some d), om) else none
theorem dg_name {i : Nat} {x : Str} {pos : Pos} (hN : X.N.Nodup) (hi : X.N[i]? = some x) (hx : Loc X.env.scope x) (hf : X.fn x = true ∨ X.env.scope.names.lookup x = some .local := by first | exact .inl rfl | exact .inr rfl | assumption) : PG X (.Name x pos) (tG W B [i] (gN i)) :=
  ⟨fun pins s σ H v u Q I r q => (pg_name hN hi hx hf).run pins s σ H v u Q I r (by
    obtain ⟨en, om, G, F, R, d, en', om', S, h, hf, k⟩ := q
    unfold gN at hf
    split at hf
    · rename_i hl
      cases hf
      obtain ⟨F', S', _, kn⟩ := S.take h hl
      exact k _ _ _ _ kn S' only_set
    · cases hf)⟩
def sAsg (f : DE Om) (g : TgD Om) : SD Om := fun en om => (f en om).bind fun p => (g p.1 p.2.1 p.2.2).map fun q => (.nx, q.1, q.2)
theorem asg_use {f : DE Om} {sl : List Nat} {g : TgD Om} (q : tS W B Z (sAsg f g) Dn σ H) : tAsg (tD W B f) (tG W B sl g) Dn σ H := by
  obtain ⟨en, om, G, F, o, en', om', S, hf, k⟩ := q
  obtain ⟨⟨d, en1, om1⟩, h1, hf⟩ := bind_some hf
  obtain ⟨⟨en2, om2⟩, h2, hf⟩ := Option.map_eq_some_iff.mp hf
  cases hf
  exact tD.hold S h1 fun v H' G' F' R n S' x => ⟨_, _, _, _, _, _, _, _, S', x, h2, fun σ' H2 G2 F2 kn S2 _ => k σ' H2 G2 F2 (kn n) S2⟩
theorem ds_asg {tg e : Expr} {pos : Pos} {f : DE Om} {sl : List Nat} {g : TgD Om} (he : PE X e (tD W B f)) (hg : PG X tg (tG W B sl g)) (hs : swapsWithSole [tg] e pos.line X.env = pure false := by rfl) (hw : swappedStores [tg] e X.env = pure none := by rfl)
    (h1 : (assignEach [tg] X.env).map (·.2) = [assign tg X.env] := by rfl) : PS X (.Assign [tg] e pos) (tS W B Z (sAsg f g)) := (ps_asg he hg hs hw h1).le fun _ _ _ q => asg_use q
theorem ds_set {i : Nat} {x : Str} {e : Expr} {pos pos' : Pos} {f : DE Om} (hN : X.N.Nodup) (hi : X.N[i]? = some x) (hx : Loc X.env.scope x) (he : PE X e (tD W B f)) (hs : swapsWith e (some (.Name x pos')) pos.line X.env = pure false := by rfl) (hf : X.fn x = true ∨ X.env.scope.names.lookup x = some .local := by first | exact .inl rfl | exact .inr rfl | assumption) :
    PS X (.Assign [.Name x pos'] e pos) (tS W B Z (sAsg f (gN i))) := (ps_set hN hi hx he hs hf).le fun Dn σ H q => by
  obtain ⟨en, om, G, F, o, en', om', S, hf, k⟩ := q
  obtain ⟨⟨d, en1, om1⟩, h1, hf⟩ := bind_some hf
  obtain ⟨⟨en2, om2⟩, h2, hf⟩ := Option.map_eq_some_iff.mp hf
  cases hf
  refine tD.hold S h1 fun v H' G' F' R n S' x => ?_
  unfold gN at h2
  split at h2
  · rename_i hl
    cases h2
    obtain ⟨F2, S2, _, kn⟩ := S'.take x hl
    exact k _ _ _ _ (kn n) S2
  · cases h2
theorem Hass.ntup {vs : List V} {ds : List D} (x : Hass W B G F H R vs ds) {a : Addr} (h : a ∈ R) : ∀ vs, H a ≠ some (.tup vs) := by
  rcases x.rel.there h with ⟨vs, e⟩ | ⟨kvs, e⟩
  · rw [e]; exact fun _ z => nomatch z
  · rw [e]; exact fun _ z => nomatch z
/-- (a, b, ..) = a tuple of that length -/
def gsNil : TgsD Om := fun ds en om => match ds with
  | [] => some (en, om)
  | _ => none
def gsCons (g : TgD Om) (gs : TgsD Om) : TgsD Om := fun ds en om => match ds with
  | d :: ds => (g d en om).bind fun p => gs ds p.1 p.2
  | [] => none
theorem dgs_nil : PGs X [] (tGs W B [] gsNil) :=
  ⟨fun pins s σ H vs us Q I r q => pgs_nil.run pins s σ H vs us Q I r (by
    obtain ⟨en, om, G, F, R, ds, en', om', S, h, hf, k⟩ := q
    unfold gsNil at hf
    split at hf
    · cases hf
      obtain ⟨rel, _, _⟩ := h
      cases rel
      exact ⟨rfl, k _ _ _ _ (fun n => n) S only_refl⟩
    · cases hf)⟩
theorem dgs_cons {e : Expr} {es : List Expr} {s1 s2 : List Nat} {g : TgD Om} {gs : TgsD Om} (h1 : PG X e (tG W B s1 g)) (h2 : PGs X es (tGs W B s2 gs))
    (hs : (assignEach (e :: es) X.env).map (·.2) = assign e X.env :: (assignEach es X.env).map (·.2) := by rfl) : PGs X (e :: es) (tGs W B (s1 ++ s2) (gsCons g gs)) :=
  ⟨fun pins s σ H vs us Q I r q => (pgs_cons h1 h2 hs).run pins s σ H vs us Q I r (by
    obtain ⟨en, om, G, F, R, ds, en', om', S, h, hf, k⟩ := q
    obtain ⟨rel, nd, own⟩ := h
    cases rel with
    | nil => cases hf
    | @cons v d vs ds R1 R2 rl t =>
      obtain ⟨⟨en1, om1⟩, g1, hf⟩ := bind_some hf
      rw [List.nodup_append] at nd
      obtain ⟨nd1, nd2, dj⟩ := nd
      have hx : Hass W B G F H R2 vs ds := ⟨t, nd2, fun a ha => own a (List.mem_append_right _ ha)⟩
      refine ⟨v, vs, rfl, en, om, G, F, R1, d, en1, om1, S, ⟨rl, nd1, fun a ha => own a (List.mem_append_left _ ha)⟩, g1, fun σ' H' G' F' kn S' o1 => ?_⟩
      -- the others are still in hand
      have n1 : Nx W G (F ++ R1) H G' F' H' [] := kn ⟨Same.refl _, fun a h ht g f w => ⟨rfl, g, fun z => f (List.mem_append_left _ z), fun z => f (List.mem_append_right _ z)⟩⟩
      have keep : ∀ a ∈ R2, H' a = H a ∧ G' a = none ∧ a ∉ F' ∧ a ∉ ([] : List Addr) := fun a ha => by
        obtain ⟨o1, o2, o3⟩ := hx.own a ha
        exact n1.frm a (hx.there ha) (hx.ntup ha) o1 (fun z => (List.mem_append.mp z).elim o2 fun z => dj a z a ha rfl) o3
      have hx' : Hass W B G' F' H' R2 vs ds := ⟨hx.rel.mono (.of_same n1.sub) fun a ha => (keep a ha).1, nd2, fun a ha => ⟨(keep a ha).2.1, (keep a ha).2.2.1, (hx.own a ha).2.2⟩⟩
      refine ⟨en1, om1, G', F', R2, ds, en', om', S', hx', hf, fun σ2 H2 G2 F2 kn2 S2 o2 => k σ2 H2 G2 F2 (fun {G0 F0 H0} n0 => ?_) S2 (o1.trans o2)⟩
      have q : Nx W G0 F0 H0 G' F' H' [] := kn ⟨n0.sub, fun a h ht g f w => by
        obtain ⟨e1, e2, e3, e4⟩ := n0.frm a h ht g f w
        exact ⟨e1, e2, e3, fun z => e4 (List.mem_append_left _ z)⟩⟩
      refine kn2 ⟨q.sub, fun a h ht g f w => ?_⟩
      obtain ⟨e1, e2, e3, e4⟩ := n0.frm a h ht g f w
      obtain ⟨f1, f2, f3, f4⟩ := q.frm a h ht g f w
      exact ⟨f1, f2, f3, fun z => e4 (List.mem_append_right _ z)⟩)⟩
def gT (n : Nat) (gs : TgsD Om) : TgD Om := fun d en om => match d with
  | .tup ds => if ds.length = n then gs ds en om else none
  | _ => none
theorem dg_tup {es : List Expr} {k : Nat} {pos : Pos} {sl : List Nat} {gs : TgsD Om} {n : Nat} (hc : X.calm = true) (h : PGs X es (tGs W B sl gs))
    (hn : (assignEach es X.env).length = n := by rfl) (hst : (assignEach es X.env).findIdx? (·.1) = none := by rfl) : PG X (.Tuple es k pos) (tG W B sl (gT n gs)) :=
  ⟨fun pins s σ H v u Q I r q => (pg_tup hc h hn hst).run pins s σ H v u Q I r (by
    obtain ⟨en, om, G, F, R, d, en', om', S, hx, hf, k⟩ := q
    unfold gT at hf
    split at hf
    · rename_i ds
      split at hf
      · rename_i hl
        obtain ⟨rel, nd, own⟩ := hx
        cases rel with
        | tup e r =>
          refine ⟨_, _, rfl, .of (S.sub _ _ e), by rw [r.length]; exact hl, en, om, G, F, R, ds, en', om', S, ⟨r, nd, own⟩, hf, k⟩
      · cases hf
    · cases hf)⟩

/-! ### defs -/
open Classical in
/-- all that stands but the law's own world -/
noncomputable def cut {Om : Type} (W : Wld Om) (H : Hp) : Hp := fun a => if W.fp a then none else H a
theorem cut_fp {H : Hp} {a : Addr} (h : W.fp a) : cut W H a = none := by unfold cut; rw [if_pos h]
theorem cut_nf {H : Hp} {a : Addr} (h : ¬ W.fp a) : cut W H a = H a := by unfold cut; rw [if_neg h]
theorem cut_same {H : Hp} : Same (cut W H) H := fun a o e => by
  by_cases h : W.fp a
  · rw [cut_fp h] at e; cases e
  · rwa [cut_nf h] at e
abbrev DF (Om : Type) := List D → Om → Option (D × Om)
/-- a def's promise: worth M of its arguments; nothing but the world and new things is touched; nothing lent comes back -/
def spF (W : Wld Om) (M : DF Om) (ps : List Str) : Sp := fun vs H Q _ => ∃ (Bo : AS) (ts : List D) (om : Om) (t : D) (om' : Om), vs.length = ps.length ∧ (∀ a, Bo a → cut W H a ≠ none) ∧ Rels Bo (cut W H) H [] vs ts ∧ W.ok om H ∧ M ts om = some (t, om') ∧
  ∀ v H' G' R, Same (cut W H) G' → Same G' H' → Rel Bo G' H' R v t → R.Nodup → (∀ a ∈ R, G' a = none ∧ ¬ W.fp a) → (∀ a, W.fp a → G' a = none) → noB t = true → W.ok om' H' → Q v H'
/-- the slots at the start -/
def startE (n : Nat) (ts : List D) : Ev := ts.map some ++ List.replicate (n - ts.length) none
/-- what a body hands back -/
def bodyR (b : SD Om) (n : Nat) : DF Om := fun ts om => (b (startE n ts) om).bind fun p => match p with
  | (.rt t, _, om') => if noB t = true then some (t, om') else none
  | (.nx, _, om') => some (.non, om')
  | _ => none
theorem envs_start {ts : List D} {vs : List V} {H' : Hp} (r : Rels B G H' [] vs ts) (m : Nat) : Envs B G H' [] (vs.map some ++ List.replicate m none) (ts.map some ++ List.replicate m none) := by
  induction vs generalizing ts with
  | nil =>
    generalize hF : ([] : List Addr) = F at r
    cases r
    simp only [List.map_nil, List.nil_append]
    induction m with
    | zero => exact .nil
    | succ m ih => exact .none ih
  | cons v vs ih =>
    generalize hF : ([] : List Addr) = F at r
    cases r with
    | cons r t =>
      obtain ⟨rfl, rfl⟩ := List.append_eq_nil_iff.mp hF.symm
      exact .some r (ih t)
theorem fn_data {P : Program} {w : World} {K : PySem.W.Frag} {mg : Str → Option Value} {base : Heap} {x qual : Str} {st : Stmt} {f : Addr} {fd : FuncData} {N ps : List Str} {k : Nat} (Fn : Fun K x qual st f fd) (Sc : FnScope N ps (defScope st)) (M : DF Om)
    (hb : ∀ (cdv : Value) (A : Around) (outer : List Env) (s : Shared) (H : Hp) (E : XK) (Bo : AS), Room k (A.deeper (envOfC qual (defScope st) s.heap.objs.size f cdv)) →
      ∃ b : SD Om, PSs (cxOf CX0 P w K mg base N qual (defScope st) f cdv A outer s H E).nox (defBody st) (tS W Bo E b) ∧ ∀ ts om t om', ts.length = ps.length → M ts om = some (t, om') → bodyR b N.length ts om = some (t, om')) :
    FnOk P w K mg base CX0 (k + 1) f fd ps (spF W M ps) := by
  refine Fn.ok Sc (fun vs H Q E h => ?_) (fun cdv A outer s H vs Q E hr h => ?_)
  · obtain ⟨_, _, _, _, _, e, _⟩ := h
    exact e
  · obtain ⟨Bo, ts, om, t, om', hl, hbo, hrel, hw, hM, k⟩ := h
    obtain ⟨b, hp, hbody⟩ := hb cdv A outer s H E Bo hr
    refine ⟨_, hp, ?_⟩
    have hlt : ts.length = ps.length := by rw [← hrel.length]; exact hl
    have hB := hbody ts om t om' hlt hM
    obtain ⟨⟨o, en', om2⟩, hb1, hB⟩ := bind_some hB
    have S : Rst W Bo (startE N.length ts) om (cut W H) [] (L2.start N vs) H := by
      refine ⟨cut_same, ?_, .nil, fun a h => by simp at h, fun a h => by simp at h, fun a h => cut_fp h, hbo, hw⟩
      have e : N.length - vs.length = N.length - ts.length := by rw [hrel.length]
      unfold L2.start startE
      rw [e]
      exact envs_start hrel _
    refine tS.run S hb1 ?_
    cases o with
    | nx =>
      cases hB
      exact fun σ' H' G' F' n S' => k .non H' G' [] n.sub S'.sub .non .nil (fun a h => by simp at h) S'.WG rfl S'.wok
    | rt d =>
      dsimp only at hB
      split at hB
      · rename_i hnb
        cases hB
        exact fun σ' v H' G' F' R n S' x => k v H' G' R n.sub S'.sub x.rel x.nd (fun a ha => ⟨(x.own a ha).1, (x.own a ha).2.2⟩) S'.WG hnb S'.wok
      · cases hB
    | bk => cases hB
    | ct => cases hB
    | rz C fs => cases hB
def dCall (M : DF Om) (fa : DA Om) : DE Om := fun en om => (fa en om).bind fun p => (M (lends p.1) p.2.2).map fun q => (q.1, p.2.1, q.2)
open Classical in
theorem call_use {M : DF Om} {ps : List Str} {fa : DA Om} {E : XK} (hlen : ∀ ts om r, M ts om = some r → ts.length = ps.length) (q : tD W B (dCall M fa) σ H Q) : tCall (spF W M ps) [] E (tDA W B fa) σ H Q := by
  obtain ⟨en, om, G, F, c, en', om', S, hf, k⟩ := q
  obtain ⟨⟨ds, en1, om1⟩, h1, hf⟩ := bind_some hf
  obtain ⟨⟨t, om2⟩, h2, hf⟩ := Option.map_eq_some_iff.mp hf
  cases hf
  refine tDA.hold S h1 fun vs H1 G1 F1 R1 n1 S1 x1 => ?_
  rw [List.append_nil]
  have le1 : Same G1 (cut W H1) := fun a o e => by
    rw [cut_nf fun z => by have := S1.WG a z; rw [e] at this; cases this]
    exact S1.sub a o e
  let Zz : Addr → Prop := fun a => G1 a = none ∧ H1 a ≠ none ∧ ∀ vs, H1 a ≠ some (.tup vs)
  let Bo : AS := fun a => B a ∨ (Zz a ∧ ¬ W.fp a)
  have lens : ∀ ds : List D, (lends ds).length = ds.length := fun ds => by
    induction ds with
    | nil => simp [lends]
    | cons d ds ih => simp [lends, ih]
  refine ⟨Bo, lends ds, om1, t, om2, ?_, fun a h => ?_, ?_, S1.wok, h2, fun v H' G' R s1 s2 rel nd own wg nb wk => ?_⟩
  · rw [x1.rel.length, ← lens]
    exact hlen _ _ _ h2
  · rcases h with h | ⟨h, w⟩
    · have := S1.BG a h
      intro z
      cases e : G1 a with
      | none => exact this e
      | some o => rw [le1 a o e] at z; cases z
    · rw [cut_nf w]
      exact h.2.1
  · refine x1.rel.lend' (.of_same le1) fun a ha => cut_nf (x1.own a ha).2.2
  · let G2 : Hp := fun a => if Zz a then none else G' a
    have g2n : ∀ a, ¬ Zz a → G2 a = G' a := fun a h => if_neg h
    have g2z : ∀ a, Zz a → G2 a = none := fun a h => if_pos h
    have sG : Same G1 G2 := fun a o e => by
      rw [g2n a fun z => by have := z.1; rw [e] at this; cases this]
      exact s1 a o (le1 a o e)
    have keep : ∀ a, H1 a ≠ none → ¬ W.fp a → H' a = H1 a ∧ G' a = H1 a := fun a h w => by
      cases e : H1 a with
      | none => exact absurd e h
      | some o =>
        have := s1 a o (by rw [cut_nf w]; exact e)
        exact ⟨s2 a o this, this⟩
    have new : ∀ a ∈ R, H1 a = none := fun a ha => by
      obtain ⟨o1, o2⟩ := own a ha
      cases e : H1 a with
      | none => rfl
      | some o =>
        have := s1 a o (by rw [cut_nf o2]; exact e)
        rw [o1] at this
        cases this
    have S2 : Rst W B en1 om2 G2 F1 σ H' := by
      refine ⟨fun a o e => ?_, S1.env.mono (.of_same sG) fun a ha => (keep a (S1.fs ha) (S1.FW a ha)).1, S1.nd, fun a ha => ?_, S1.FW, fun a ha => ?_, fun a ha => ?_, wk⟩
      · by_cases z : Zz a
        · rw [g2z a z] at e; cases e
        · rw [g2n a z] at e
          exact s2 a o e
      · refine g2z a ⟨S1.FG a ha, S1.fs ha, ?_⟩
        rcases S1.env.there ha with ⟨vs, e⟩ | ⟨kvs, e⟩
        · rw [e]; exact fun _ z => nomatch z
        · rw [e]; exact fun _ z => nomatch z
      · by_cases z : Zz a
        · exact g2z a z
        · rw [g2n a z]
          exact wg a ha
      · have := S1.BG a ha
        cases e : G1 a with
        | none => exact absurd e this
        | some o => rw [sG a o e]; exact fun z => nomatch z
    refine k v H' G2 F1 R ⟨n1.sub.trans sG, fun a h ht g f w => ?_⟩ S2 ⟨?_, nd, fun a ha => ⟨?_, fun z => S1.fs z (new a ha), (own a ha).2⟩⟩
    · obtain ⟨e1, e2, e3, e4⟩ := n1.frm a h ht g f w
      have ne : H1 a ≠ none := by rw [e1]; exact h
      exact ⟨(keep a ne w).1.trans e1, g2z a ⟨e2, ne, by rw [e1]; exact ht⟩, e3, fun z => ne (new a z)⟩
    · refine rel.nob (fun a vs e => ?_) (fun a o nb' e => ?_) nb
      · by_cases z : Zz a
        · by_cases w : W.fp a
          · rw [wg a w] at e; cases e
          · have := (keep a z.2.1 w).2
            rw [e] at this
            exact absurd this.symm (z.2.2 vs)
        · rw [g2n a z]
          exact e
      · have nz : ¬ Zz a := fun z => nb' (.inr ⟨z, fun w => by rw [wg a w] at e; cases e⟩)
        exact ⟨by rw [g2n a nz]; exact e, fun z => nb' (.inl z)⟩
    · rw [g2n a fun z => z.2.1 (new a ha)]
      exact (own a ha).1
theorem de_call {M : DF Om} {k : Nat} {f : Addr} {fd : FuncData} {ps : List Str} {x : Str} {p pos : Pos} {e : Expr} {es : List Expr} {fa : DA Om} (Fo : FnOk X.prog X.w X.K X.mg X.base CX0 k f fd ps (spF W M ps)) (hlen : ∀ ts om r, M ts om = some r → ts.length = ps.length) (hr : Room k X.A) (hm : X.mg x = some (.ref f)) (hk : PySem.W.keepIn X.K (.ref f) = true) (hb : Binds X.K fd ps [])
    (ha : PA X (e :: es) (tDA W B fa)) (hg : Gl X x := by rfl) (hdb : (x == ("__debug__" : Str)) = false := by decide) (he : starEach (e :: es) X.env = (false, eval e X.env) :: starEach es X.env := by rfl) (hpl : (backTo pos (starEach es X.env)).any (·.1) = false := by rfl) :
    PE X (.Call (.Name x p) (e :: es) [] pos) (tD W B (dCall M fa)) := (pe_call Fo hr hg hm hk hb .nil pass0 ha hdb he hpl).le fun _ _ _ q => call_use hlen q
end
end DL

/-! DS5: loops and comprehensions, by data. -/
namespace DL
open PySem PySem.Spec PyProof.Rows L2

section
variable {Om : Type} (W : Wld Om) (B : AS)
/-- the iterator J hands out ds, whatever goes on meanwhile -/
def Drives (J : It) (G : Hp) (ds : List D) : Prop := ∀ {en : Ev} {om : Om} {G2 H2 : Hp} {F2 : List Addr} {σ2 : L2.St}, Same G G2 → Rst W B en om G2 F2 σ2 H2 → ∀ i, (ds.length ≤ i → J.stop i H2) ∧
  ∀ d, ds[i]? = some d → J.go i H2 ∧ ∀ x H3, J.yld i H2 x H3 → ∃ G3, Nx W G2 F2 H2 G3 F2 H3 [] ∧ Rst W B en om G3 F2 σ2 H3 ∧ Rel B G3 H3 [] x d
def iD (f : DA Om) : TI := fun σ H R => ∃ en om G F ds en' om', Rst W B en om G F σ H ∧ f en om = some (ds, en', om') ∧
  ∀ J H' G' F', Nx W G F H G' F' H' [] → Rst W B en' om' G' F' σ H' → Drives W B J G' ds → R J H'
end
section
variable {Om : Type} {W : Wld Om} {B : AS} {Z : XK} {X : Cx} {en en' en1 : Ev} {om om' om1 : Om} {G G1 H H1 : Hp} {F F1 R : List Addr} {σ σ1 : L2.St} {v x y : V} {d : D} {Q : VK} {Dn : Ends} {tg : Expr}
def forL (g : TgD Om) (b : SD Om) : List D → SD Om
  | [], en, om => some (.nx, en, om)
  | d :: ds, en, om => (g d en om).bind fun q => (b q.1 q.2).bind fun r => match r with
    | (.nx, en, om) => forL g b ds en om
    | (.ct, en, om) => forL g b ds en om
    | (.bk, en, om) => some (.nx, en, om)
    | (.rt d, en, om) => some (.rt d, en, om)
    | (.rz C fs, en, om) => some (.rz C fs, en, om)
def sFor (f : DA Om) (g : TgD Om) (b : SD Om) : SD Om := fun en om => (f en om).bind fun p => forL g b p.1 p.2.1 p.2.2
theorem forL_out {g : TgD Om} {b : SD Om} : ∀ {ds : List D} {en : Ev} {om : Om} {o : Out} {en' : Ev} {om' : Om}, forL g b ds en om = some (o, en', om') → (o = .nx ∨ ∃ d, o = .rt d) ∨ ∃ C fs, o = .rz C fs
  | [], en, om, o, en', om', h => by cases h; exact .inl (.inl rfl)
  | d :: ds, en, om, o, en', om', h => by
    unfold forL at h
    obtain ⟨q, h1, h⟩ := bind_some h
    obtain ⟨⟨o1, en1, om1⟩, h2, h⟩ := bind_some h
    cases o1 with
    | nx => exact forL_out h
    | ct => exact forL_out h
    | bk => cases h; exact .inl (.inl rfl)
    | rt d => cases h; exact .inl (.inr ⟨d, rfl⟩)
    | rz C fs => cases h; exact .inr ⟨C, fs, rfl⟩
theorem ds_for {iter : Expr} {body : List Stmt} {pos : Pos} {f : DA Om} {sl : List Nat} {g : TgD Om} {b : SD Om} (hp : PassesOwn (model X.prog X.w) X.A X.env X.xe) (hc : X.calm = true) (hi : PI X tg iter (iD W B f)) (hg : PG X tg (tG W B sl g)) (hb : PSs X body (tS W B Z b))
    (hs : ∀ x, foldedSetIterable iter X.env x = pure x := by intro _; rfl) : PS X (.For tg iter body [] pos) (tS W B Z (sFor f g b)) := (ps_for hp hc hi hg hb hs).le fun Dn σ H q => by
  obtain ⟨en, om, G, F, o, en', om', S, hf, k⟩ := q
  obtain ⟨⟨ds, en1, om1⟩, h1, hf⟩ := bind_some hf
  refine ⟨en, om, G, F, ds, en1, om1, S, h1, fun J H1 G1 F1 n1 S1 dr => ?_⟩
  refine ⟨fun i m σ' H' => ∃ en om G' F', Nx W G F H G' F' H' [] ∧ Same G1 G' ∧ Rst W B en om G' F' σ' H' ∧ m = ds.length - i ∧ forL g b (ds.drop i) en om = some (o, en', om'), ⟨_, en1, om1, G1, F1, n1, Same.refl _, S1, rfl, hf⟩, ?_⟩
  rintro i m σ' H' ⟨en2, om2, G2, F2, n2, sm, S2, rfl, hl⟩
  have dri := dr sm S2 i
  cases hd : ds[i]? with
  | none =>
    have hlen : ds.length ≤ i := List.getElem?_eq_none_iff.mp hd
    rw [List.drop_eq_nil_of_le hlen] at hl
    cases hl
    exact .inl ⟨dri.1 hlen, k σ' H' G2 F2 n2 S2⟩
  | some d =>
    have hlt : i < ds.length := (List.getElem?_eq_some_iff.mp hd).1
    have hdrop : ds.drop i = d :: ds.drop (i + 1) := by
      rw [List.drop_eq_getElem_cons hlt, (List.getElem?_eq_some_iff.mp hd).2]
    rw [hdrop] at hl
    unfold forL at hl
    obtain ⟨⟨en3, om3⟩, h3, hl⟩ := bind_some hl
    obtain ⟨⟨o4, en4, om4⟩, h4, hl⟩ := bind_some hl
    obtain ⟨go, yl⟩ := dri.2 d hd
    refine .inr ⟨go, fun σ' H' => ∃ en om G' F', Nx W G F H G' F' H' [] ∧ Same G1 G' ∧ Rst W B en om G' F' σ' H' ∧ forL g b (ds.drop (i + 1)) en om = some (o, en', om'), ?_, fun x H3 hy => ?_⟩
    · rintro σ2 H4 ⟨en5, om5, G5, F5, n5, sm5, S5, h5⟩
      exact ⟨ds.length - (i + 1), by omega, en5, om5, G5, F5, n5, sm5, S5, rfl, h5⟩
    · obtain ⟨G3, n3, S3, r3⟩ := yl x H3 hy
      refine ⟨en2, om2, G3, F2, [], d, en3, om3, S3, .sh r3, h3, fun σ4 H4 G4 F4 kn S4 _ => ?_⟩
      have n4 : Nx W G F H G4 F4 H4 [] := kn (n2.trans n3)
      have sm4 : Same G1 G4 := sm.trans (n3.sub.trans (kn Nx.refl).sub)
      refine tS.run S4 h4 ?_
      cases o4 with
      | nx => exact fun σ5 H5 G5 F5 n5 S5 => ⟨en4, om4, G5, F5, n4.trans n5, sm4.trans n5.sub, S5, hl⟩
      | ct => exact fun σ5 H5 G5 F5 n5 S5 => ⟨en4, om4, G5, F5, n4.trans n5, sm4.trans n5.sub, S5, hl⟩
      | bk =>
        cases hl
        exact fun σ5 H5 G5 F5 n5 S5 => k σ5 H5 G5 F5 (n4.trans n5) S5
      | rt d =>
        cases hl
        exact fun σ5 v H5 G5 F5 R n5 S5 x => k σ5 v H5 G5 F5 R (n4.trans n5) S5 x
      | rz C fs =>
        cases hl
        exact fun σ5 H5 G5 F5 o n5 S5 x => k σ5 H5 G5 F5 o (n4.trans n5) S5 x

/-! ### what is walked -/
theorem _root_.L2.PI.or {tg e : Expr} {w1 w2 : TI} (h1 : PI X tg e w1) (h2 : PI X tg e w2) : PI X tg e (fun σ H R => w1 σ H R ∨ w2 σ H R) := ⟨fun pins s σ H R I h => h.elim (h1.run pins s σ H R I) (h2.run pins s σ H R I)⟩
/-- a list or a tuple -/
def iSeq (f : DE Om) : DA Om := fun en om => (f en om).bind fun p => match frz p.1 with
  | .lst _ l => some (l, p.2.1, p.2.2)
  | .tup l => some (l, p.2.1, p.2.2)
  | _ => none
theorem drives_list {K : PySem.W.Frag} {a : Addr} {vs : List V} {ds : List D} (h : G a = some (.lst vs)) (r : Rels B G H [] vs ds) : Drives W B (Itl K a) G ds := by
  intro en om G2 H2 F2 σ2 sm S i
  have hl : SqL K H2 a vs := .of (S.sub _ _ (sm _ _ h))
  refine ⟨fun hi => ⟨vs, hl, by rw [r.length]; exact hi⟩, fun d hd => ?_⟩
  obtain ⟨v, e, rv⟩ := r.get hd
  refine ⟨⟨vs, v, hl, e⟩, fun x H3 y => ?_⟩
  obtain ⟨e3, y⟩ := y
  subst e3
  have := y vs hl
  rw [e] at this
  cases this
  exact ⟨G2, .refl, S, rv.mono (.of_same sm) fun a ha => by simp at ha⟩
theorem drives_tup {K : PySem.W.Frag} {a : Addr} {vs : List V} {ds : List D} (h : G a = some (.tup vs)) (r : Rels B G H [] vs ds) : Drives W B (Itt K a) G ds := by
  intro en om G2 H2 F2 σ2 sm S i
  have hl : SqT K H2 a vs := .of (S.sub _ _ (sm _ _ h))
  refine ⟨fun hi => ⟨vs, hl, by rw [r.length]; exact hi⟩, fun d hd => ?_⟩
  obtain ⟨v, e, rv⟩ := r.get hd
  refine ⟨⟨vs, v, hl, e⟩, fun x H3 y => ?_⟩
  obtain ⟨e3, y⟩ := y
  subst e3
  have := y vs hl
  rw [e] at this
  cases this
  exact ⟨G2, .refl, S, rv.mono (.of_same sm) fun a ha => by simp at ha⟩
theorem di_seq {e : Expr} {f : DE Om} (h : PE X e (tD W B f)) : PI X tg e (iD W B (iSeq f)) := ((pi_list h).or (pi_tup h)).le fun σ H R q => by
  obtain ⟨en, om, G, F, ds, en', om', S, hf, k⟩ := q
  obtain ⟨⟨d, en1, om1⟩, h1, hf⟩ := bind_some hf
  dsimp only at hf
  split at hf
  · rename_i g l hl
    cases hf
    refine .inl (tD.use S h1 fun v H' G' F' n S' r => ?_)
    rw [hl] at r
    obtain ⟨a, vs, rfl, ga, rs⟩ := r.asL
    exact ⟨a, rfl, ⟨vs, .of (S'.sub _ _ ga)⟩, k _ H' G' F' n S' (drives_list ga rs)⟩
  · rename_i l hl
    cases hf
    refine .inr (tD.use S h1 fun v H' G' F' n S' r => ?_)
    rw [hl] at r
    obtain ⟨a, vs, rfl, ga, rs⟩ := r.asT
    exact ⟨a, rfl, ⟨vs, .of (S'.sub _ _ ga)⟩, k _ H' G' F' n S' (drives_tup ga rs)⟩
  · cases hf
/-- lo, lo + 1, .. : n of them -/
def rng (lo : Int) (n : Nat) : List D := (List.range n).map fun (i : Nat) => .int (lo + i)
theorem rng_get {lo : Int} {n i : Nat} {d : D} (h : (rng lo n)[i]? = some d) : i < n ∧ d = .int (lo + i) := by
  unfold rng at h
  rw [List.getElem?_map] at h
  obtain ⟨j, h1, h2⟩ := Option.map_eq_some_iff.mp h
  have hl := (List.getElem?_eq_some_iff.mp h1).1
  rw [List.length_range] at hl
  rw [List.getElem?_range hl] at h1
  cases h1
  exact ⟨hl, h2.symm⟩
theorem rng_len (lo : Int) (n : Nat) : (rng lo n).length = n := by simp [rng]
theorem drives_rng {lo : Int} {n : Nat} : Drives W B (Itr lo n) G (rng lo n) := by
  intro en om G2 H2 F2 σ2 sm S i
  refine ⟨fun hi => by rw [rng_len] at hi; exact hi, fun d hd => ?_⟩
  obtain ⟨hl, rfl⟩ := rng_get hd
  refine ⟨hl, fun x H3 y => ?_⟩
  obtain ⟨e3, rfl⟩ := y
  subst e3
  exact ⟨G2, .refl, S, .int _⟩
def small (i : Int) : Bool := decide (-1000000 ≤ i) && decide (i ≤ 1000000)
theorem small_i {i : Int} (h : small i = true) : -1000000 ≤ i ∧ i ≤ 1000000 := by
  simpa [small] using h
def iR1 (fa : DA Om) : DA Om := fun en om => (fa en om).bind fun p => match p.1 with
  | [.int j] => if small j = true then some (rng 0 j.toNat, p.2.1, p.2.2) else none
  | _ => none
def iR2 (fa : DA Om) : DA Om := fun en om => (fa en om).bind fun p => match p.1 with
  | [.int i, .int j] => if small i = true ∧ small j = true then some (rng i (j - i).toNat, p.2.1, p.2.2) else none
  | _ => none
theorem int1 {R : List Addr} {vs : List V} {j : Int} (x : Rels B G H R vs [.int j]) : vs = [.int j] ∧ R = [] := by
  cases x with
  | cons r t => cases r; cases t; exact ⟨rfl, rfl⟩
theorem int2 {R : List Addr} {vs : List V} {i j : Int} (x : Rels B G H R vs [.int i, .int j]) : vs = [.int i, .int j] ∧ R = [] := by
  cases x with
  | cons r t => cases r; cases t with
    | cons r t => cases r; cases t; exact ⟨rfl, rfl⟩
theorem di_range1 {a : Expr} {p pos : Pos} {fa : DA Om} (hm : X.mg "range" = none) (ha : PA X [a] (tDA W B fa)) (hg : Gl X "range" := by rfl) (hs : starEach [a] X.env = [(false, eval a X.env)] := by rfl) : PI X tg (.Call (.Name "range" p) [a] [] pos) (iD W B (iR1 fa)) := (pi_range1 hg hm ha hs).le fun σ H R q => by
  obtain ⟨en, om, G, F, ds, en', om', S, hf, k⟩ := q
  obtain ⟨⟨ds', en1, om1⟩, h1, hf⟩ := bind_some hf
  dsimp only at hf
  split at hf
  · rename_i j
    split at hf
    · rename_i hj
      cases hf
      obtain ⟨j1, j2⟩ := small_i hj
      refine tDA.hold S h1 fun vs H' G' F' R n S' x => ?_
      obtain ⟨rfl, rfl⟩ := int1 x.rel
      exact ⟨j, rfl, by omega, by omega, k _ H' G' F' n S' drives_rng⟩
    · cases hf
  · cases hf
theorem di_range2 {a b : Expr} {p pos : Pos} {fa : DA Om} (hm : X.mg "range" = none) (ha : PA X [a, b] (tDA W B fa)) (hg : Gl X "range" := by rfl) (hs : starEach [a, b] X.env = [(false, eval a X.env), (false, eval b X.env)] := by rfl) (hs2 : starEach [b] X.env = [(false, eval b X.env)] := by rfl) : PI X tg (.Call (.Name "range" p) [a, b] [] pos) (iD W B (iR2 fa)) := (pi_range2 hg hm ha hs hs2).le fun σ H R q => by
  obtain ⟨en, om, G, F, ds, en', om', S, hf, k⟩ := q
  obtain ⟨⟨ds', en1, om1⟩, h1, hf⟩ := bind_some hf
  dsimp only at hf
  split at hf
  · rename_i i j
    split at hf
    · rename_i hj
      cases hf
      obtain ⟨i1, i2⟩ := small_i hj.1
      obtain ⟨j1, j2⟩ := small_i hj.2
      refine tDA.hold S h1 fun vs H' G' F' R n S' x => ?_
      obtain ⟨rfl, rfl⟩ := int2 x.rel
      exact ⟨i, j, rfl, ⟨by omega, by omega, by omega, by omega⟩, k _ H' G' F' n S' drives_rng⟩
    · cases hf
  · cases hf

/-! ### while -/
def whileN (c : DT Om) (b : SD Om) : Nat → SD Om
  | 0, _, _ => none
  | n + 1, en, om => (c en om).bind fun p => if p.1 = true then (b p.2.1 p.2.2).bind fun r => match r with
      | (.nx, en, om) => whileN c b n en om
      | (.ct, en, om) => whileN c b n en om
      | (.bk, en, om) => some (.nx, en, om)
      | (.rt d, en, om) => some (.rt d, en, om)
      | (.rz C fs, en, om) => some (.rz C fs, en, om)
    else some (.nx, p.2.1, p.2.2)
theorem ds_while (n : Nat) {c : Expr} {body : List Stmt} {pos : Pos} {t : DT Om} {b : SD Om} (hp : PassesOwn (model X.prog X.w) X.A X.env X.xe) (hc : PT X c (tDT W B t)) (hb : PSs X body (tS W B Z b)) : PS X (.While c body [] pos) (tS W B Z (whileN t b n)) := (ps_while hp hc hb).le fun Dn σ H q => by
  obtain ⟨en, om, G, F, o, en', om', S, hf, k⟩ := q
  refine ⟨fun m σ' H' => ∃ en om G' F', Nx W G F H G' F' H' [] ∧ Rst W B en om G' F' σ' H' ∧ whileN t b m en om = some (o, en', om'), ⟨n, en, om, G, F, .refl, S, hf⟩, ?_⟩
  rintro m σ' H' ⟨en1, om1, G1, F1, n1, S1, h⟩
  cases m with
  | zero => cases h
  | succ m =>
    unfold whileN at h
    obtain ⟨⟨c1, en2, om2⟩, h1, h⟩ := bind_some h
    refine tDT.use S1 h1 fun H2 G2 F2 n2 S2 => ?_
    cases c1 with
    | false =>
      simp at h
      obtain ⟨rfl, rfl, rfl⟩ := h
      exact k σ' H2 G2 F2 (n1.trans n2) S2
    | true =>
      simp only [if_true] at h
      obtain ⟨⟨o3, en3, om3⟩, h3, h⟩ := bind_some h
      refine ⟨fun σ' H' => ∃ en om G' F', Nx W G F H G' F' H' [] ∧ Rst W B en om G' F' σ' H' ∧ whileN t b m en om = some (o, en', om'), ?_, ?_⟩
      · rintro σ4 H4 ⟨en4, om4, G4, F4, n4, S4, h4⟩
        exact ⟨m, Nat.lt_succ_self m, en4, om4, G4, F4, n4, S4, h4⟩
      · refine tS.run S2 h3 ?_
        cases o3 with
        | nx => exact fun σ5 H5 G5 F5 n5 S5 => ⟨en3, om3, G5, F5, (n1.trans n2).trans n5, S5, h⟩
        | ct => exact fun σ5 H5 G5 F5 n5 S5 => ⟨en3, om3, G5, F5, (n1.trans n2).trans n5, S5, h⟩
        | bk =>
          cases h
          exact fun σ5 H5 G5 F5 n5 S5 => k σ5 H5 G5 F5 ((n1.trans n2).trans n5) S5
        | rt d =>
          cases h
          exact fun σ5 v H5 G5 F5 R n5 S5 x => k σ5 v H5 G5 F5 R ((n1.trans n2).trans n5) S5 x
        | rz C fs =>
          cases h
          exact fun σ5 H5 G5 F5 o n5 S5 x => k σ5 H5 G5 F5 o ((n1.trans n2).trans n5) S5 x
end
end DL

/-! DS6: list comprehensions by data. -/
namespace DL
open PySem PySem.Spec PyProof.Rows L2

/-- slots set aside -/
def wipeE (en : Ev) : List Nat → Ev
  | [] => en
  | v :: vs => (wipeE en vs).set v none
def keepO : Option (Option D) → Option D
  | some (some d) => if noO d = true then some d else none
  | _ => none
/-- slots set aside are taken up again (what had things of its own is forgotten) -/
def backE (en : Ev) : List Nat → Ev → Ev
  | [], e => e
  | v :: vs, e => backE en vs (e.set v (keepO (wipeE en vs)[v]?))
section
variable {Om : Type} {W : Wld Om} {B : AS} {Z : XK} {X : Cx} {en en' en1 : Ev} {om om' om1 : Om} {G G1 H H1 : Hp} {F F1 R : List Addr} {σ σ1 : L2.St} {v x y : V} {d : D} {Q : VK} {tg : Expr}
theorem wipe_wipe (σ : L2.St) (vs : List Nat) : wipe (wipe σ vs) vs = wipe σ vs := by
  apply List.ext_getElem?
  intro j
  rw [wipe_get (wipe σ vs) j vs, wipe_get σ j vs]
  by_cases h : j ∈ vs
  · rw [if_pos h, if_pos h]
    cases σ[j]? <;> rfl
  · rw [if_neg h, if_neg h]
theorem envs_set (e : Envs B G H F σ en) (i : Nat) (x : Option V) : ∃ F', Envs B G H F' (σ.set i x) (en.set i none) ∧ (∀ a ∈ F', a ∈ F) ∧ (F.Nodup → F'.Nodup) := by
  by_cases hi : i < en.length
  · obtain ⟨P, R, S, rfl, _, _, k⟩ := e.at hi
    refine ⟨P ++ S, k (.refl _ _) (fun _ _ => rfl) (fun _ _ => rfl), fun a ha => ?_, fun nd => ?_⟩
    · rcases List.mem_append.mp ha with z | z
      · exact List.mem_append_left _ z
      · exact List.mem_append_right _ (List.mem_append_right _ z)
    · rw [List.nodup_append] at nd ⊢
      obtain ⟨n1, n2, n3⟩ := nd
      rw [List.nodup_append] at n2
      exact ⟨n1, n2.2.1, fun a ha b hb => n3 a ha b (List.mem_append_right _ hb)⟩
  · have h1 : en.set i none = en := List.set_eq_of_length_le (by omega)
    have h2 : σ.set i x = σ := List.set_eq_of_length_le (by rw [e.length]; omega)
    rw [h1, h2]
    exact ⟨F, e, fun _ h => h, fun h => h⟩
theorem envs_put (e : Envs B G H F σ en) {i : Nat} {v : V} {d : D} (r : Rel B G H [] v d) : ∃ F', Envs B G H F' (σ.set i (some v)) (en.set i (some d)) ∧ (∀ a ∈ F', a ∈ F) ∧ (F.Nodup → F'.Nodup) := by
  by_cases hi : i < en.length
  · obtain ⟨P, R, S, rfl, _, k, _⟩ := e.at hi
    refine ⟨P ++ ([] ++ S), k (.refl _ _) (fun _ _ => rfl) (fun _ _ => rfl) r, fun a ha => ?_, fun nd => ?_⟩
    · rw [List.nil_append] at ha
      rcases List.mem_append.mp ha with z | z
      · exact List.mem_append_left _ z
      · exact List.mem_append_right _ (List.mem_append_right _ z)
    · rw [List.nil_append]
      rw [List.nodup_append] at nd ⊢
      obtain ⟨n1, n2, n3⟩ := nd
      rw [List.nodup_append] at n2
      exact ⟨n1, n2.2.1, fun a ha b hb => n3 a ha b (List.mem_append_right _ hb)⟩
  · have h1 : en.set i (some d) = en := List.set_eq_of_length_le (by omega)
    have h2 : σ.set i (some v) = σ := List.set_eq_of_length_le (by rw [e.length]; omega)
    rw [h1, h2]
    exact ⟨F, e, fun _ h => h, fun h => h⟩
theorem Rst.less (S : Rst W B en om G F σ H) {en2 : Ev} {σ2 : L2.St} {F2 : List Addr} (e : Envs B G H F2 σ2 en2) (m : ∀ a ∈ F2, a ∈ F) (nd : F.Nodup → F2.Nodup) : Rst W B en2 om G F2 σ2 H :=
  ⟨S.sub, e, nd S.nd, fun a ha => S.FG a (m a ha), fun a ha => S.FW a (m a ha), S.WG, S.BG, S.wok⟩
theorem Nx.less {G0 H0 : Hp} {F0 F2 : List Addr} (n : Nx W G0 F0 H0 G F H R) (m : ∀ a ∈ F2, a ∈ F) : Nx W G0 F0 H0 G F2 H R := ⟨n.sub, fun a h ht g f w => by
  obtain ⟨e1, e2, e3, e4⟩ := n.frm a h ht g f w
  exact ⟨e1, e2, fun z => e3 (m a z), e4⟩⟩
theorem Has.less {F2 : List Addr} (x : Has W B G F H R v d) (m : ∀ a ∈ F2, a ∈ F) : Has W B G F2 H R v d := ⟨x.rel, x.nd, fun a ha => ⟨(x.own a ha).1, fun z => (x.own a ha).2.1 (m a z), (x.own a ha).2.2⟩⟩
theorem Rst.wiped (S : Rst W B en om G F σ H) : ∀ vs : List Nat, ∃ F', Rst W B (wipeE en vs) om G F' (wipe σ vs) H ∧ ∀ a ∈ F', a ∈ F
  | [] => ⟨F, S, fun _ h => h⟩
  | v :: vs => by
    obtain ⟨F1, S1, m1⟩ := Rst.wiped S vs
    obtain ⟨F2, e, m2, nd⟩ := envs_set S1.env v none
    exact ⟨F2, S1.less e m2 nd, fun a ha => m1 a (m2 a ha)⟩
/-- the slots set aside are as they were -/
theorem Rst.back (S : Rst W B en om G F σ H) (sm : Same G G1) : ∀ (vs : List Nat) {en2 : Ev} {F2 : List Addr}, Rst W B en2 om1 G1 F2 (wipe σ vs) H1 → ∃ F', Rst W B (backE en vs en2) om1 G1 F' σ H1 ∧ ∀ a ∈ F', a ∈ F2
  | [], en2, F2, S2 => ⟨F2, S2, fun _ h => h⟩
  | v :: vs, en2, F2, S2 => by
    have hw : ∀ x, ((wipe σ vs).set v none).set v x = (wipe σ vs).set v x := fun x => List.set_set ..
    obtain ⟨F0, S0, _⟩ := S.wiped vs
    have key : ∃ F3, Rst W B (en2.set v (keepO (wipeE en vs)[v]?)) om1 G1 F3 (wipe σ vs) H1 ∧ ∀ a ∈ F3, a ∈ F2 := by
      have none' : ∃ F3, Rst W B (en2.set v none) om1 G1 F3 (wipe σ vs) H1 ∧ ∀ a ∈ F3, a ∈ F2 := by
        by_cases hv : v < (wipe σ vs).length
        · obtain ⟨F3, e, m, nd⟩ := envs_set S2.env v (wipe σ vs)[v]
          have q : ((wipe σ (v :: vs)).set v (wipe σ vs)[v]) = wipe σ vs := by
            show ((wipe σ vs).set v none).set v _ = _
            rw [hw, List.set_getElem_self]
          rw [q] at e
          exact ⟨F3, S2.less e m nd, m⟩
        · obtain ⟨F3, e, m, nd⟩ := envs_set S2.env v none
          have q : ((wipe σ (v :: vs)).set v none) = wipe σ vs := by
            show ((wipe σ vs).set v none).set v _ = _
            rw [hw, List.set_eq_of_length_le (by omega)]
          rw [q] at e
          exact ⟨F3, S2.less e m nd, m⟩
      unfold keepO
      split
      · rename_i d hd
        split
        · rename_i ho
          obtain ⟨w, P, R', T, _, e2, r⟩ := S0.get hd
          have e0 := r.noo ho
          subst e0
          have r1 : Rel B G1 H1 [] w d := r.mono (.of_same sm) fun a h => by simp at h
          obtain ⟨F3, e, m, nd⟩ := envs_put (i := v) S2.env r1
          have q : ((wipe σ (v :: vs)).set v (some w)) = wipe σ vs := by
            show ((wipe σ vs).set v none).set v _ = _
            rw [hw]
            exact set_id e2
          rw [q] at e
          exact ⟨F3, S2.less e m nd, m⟩
        · exact none'
      · exact none'
    obtain ⟨F3, S3, m3⟩ := key
    obtain ⟨F4, S4, m4⟩ := Rst.back S sm vs S3
    exact ⟨F4, S4, fun a ha => m3 a (m4 a ha)⟩

def dYes : DT Om := fun en om => some (true, en, om)
theorem _root_.L2.PTs.le {es : List Expr} {t t' : TT} (h : PTs X es t) (k : ∀ σ H Q, t' σ H Q → t σ H Q) : PTs X es t' := ⟨fun pins s σ H Q I q => h.run pins s σ H Q I (k σ H Q q)⟩
theorem dts_nil : PTs X [] (tDT W B dYes) := pts_nil.le fun σ H Q q => by
  obtain ⟨en, om, G, F, c, en', om', S, hf, k⟩ := q
  cases hf
  exact k H G F .refl S
theorem dts_one {c : Expr} {t : DT Om} (h : PT X c (tDT W B t)) : PTs X [c] (tDT W B t) := pts_one h
def lcL (g : TgD Om) (t : DT Om) (e : DE Om) (vs : List Nat) : List D → Ev → Om → List D → Option (List D × Ev × Om)
  | [], en, om, acc => some (acc, en, om)
  | d :: ds, en, om, acc => (g d en om).bind fun p => (t p.1 p.2).bind fun c => if c.1 = true then (e c.2.1 c.2.2).bind fun y => if acc.length < 1000 then lcL g t e vs ds (wipeE y.2.1 vs) y.2.2 (acc ++ [y.1]) else none
    else lcL g t e vs ds (wipeE c.2.1 vs) c.2.2 acc
def dLc (f : DA Om) (g : TgD Om) (t : DT Om) (e : DE Om) (vs : List Nat) : DE Om := fun en om => (f en om).bind fun p => (lcL g t e vs p.1 (wipeE p.2.1 vs) p.2.2 []).map fun q => (.lst .o q.1, backE p.2.1 vs q.2.1, q.2.2)
theorem lc_use {f : DA Om} {sl : List Nat} {g : TgD Om} {t : DT Om} {e : DE Om} {vs : List Nat} (hsl : ∀ i ∈ sl, i ∈ vs) (q : tD W B (dLc f g t e vs) σ H Q) : tLc (iD W B f) (tG W B sl g) (tDT W B t) (tD W B e) vs σ H Q := by
  obtain ⟨en, om, G, F, c, en', om', S, hf, k⟩ := q
  obtain ⟨⟨ds, en1, om1⟩, h1, hf⟩ := bind_some hf
  obtain ⟨⟨out, en9, om9⟩, h9, hf⟩ := Option.map_eq_some_iff.mp hf
  cases hf
  refine ⟨en, om, G, F, ds, en1, om1, S, h1, fun J H1 G1 F1 n1 S1 dr D0 hD => ?_⟩
  obtain ⟨S1', kn1, _, gD, fD, wD⟩ := S1.new (o := .lst []) hD
  obtain ⟨Fw, Sw, mw⟩ := S1'.wiped vs
  refine ⟨fun i m H' => ∃ en om G' F' R acc, Nx W G F H G' F' H' (D0 :: R) ∧ Same G1 G' ∧ (∀ a ∈ F', a ∈ F1 ∨ a = a) ∧ Rst W B en om G' F' (wipe σ vs) H' ∧ Has W B G' F' H' (D0 :: R) (.ref D0) (.lst .o acc) ∧ m = ds.length - i ∧ lcL g t e vs (ds.drop i) en om acc = some (out, en9, om9),
    ⟨_, _, _, G1, Fw, [], [], (kn1 n1).less mw, Same.refl _, fun _ _ => .inr rfl, Sw, ⟨.lsto upd_same .nil, by simp, fun a ha => ?_⟩, rfl, h9⟩, ?_⟩
  · have : a = D0 := by simpa using ha
    subst this
    exact ⟨gD, fun z => fD (mw a z), wD⟩
  rintro i m H' ⟨en2, om2, G2, F2, R, acc, n2, sm, _, S2, x2, rfl, hl⟩
  have dri := dr sm S2 i
  cases hd : ds[i]? with
  | none =>
    have hlen : ds.length ≤ i := List.getElem?_eq_none_iff.mp hd
    rw [List.drop_eq_nil_of_le hlen] at hl
    cases hl
    obtain ⟨F3, S3, m3⟩ := S1.back sm vs S2
    exact .inl ⟨dri.1 hlen, k _ H' G2 F3 _ (n2.less m3) S3 (x2.less m3)⟩
  | some d =>
    have hlt : i < ds.length := (List.getElem?_eq_some_iff.mp hd).1
    have hdrop : ds.drop i = d :: ds.drop (i + 1) := by
      rw [List.drop_eq_getElem_cons hlt, (List.getElem?_eq_some_iff.mp hd).2]
    rw [hdrop] at hl
    unfold lcL at hl
    obtain ⟨⟨en3, om3⟩, h3, hl⟩ := bind_some hl
    obtain ⟨⟨c4, en4, om4⟩, h4, hl⟩ := bind_some hl
    obtain ⟨go, yl⟩ := dri.2 d hd
    refine .inr ⟨go, fun H' => ∃ en om G' F' R acc, Nx W G F H G' F' H' (D0 :: R) ∧ Same G1 G' ∧ Rst W B en om G' F' (wipe σ vs) H' ∧ Has W B G' F' H' (D0 :: R) (.ref D0) (.lst .o acc) ∧ lcL g t e vs (ds.drop (i + 1)) en om acc = some (out, en9, om9), ?_, fun x H3 hy => ?_⟩
    · rintro H4 ⟨en5, om5, G5, F5, R5, acc5, n5, sm5, S5, x5, h5⟩
      exact ⟨ds.length - (i + 1), by omega, en5, om5, G5, F5, R5, acc5, n5, sm5, fun _ _ => .inr rfl, S5, x5, rfl, h5⟩
    · obtain ⟨G3, n3, S3, r3⟩ := yl x H3 hy
      refine ⟨en2, om2, G3, F2, [], d, en3, om3, S3, .sh r3, h3, fun σ4 H4 G4 F4 kn S4 only => ?_⟩
      have hw : wipe σ4 vs = wipe σ vs := by
        rw [only vs hsl]
        exact wipe_wipe σ vs
      have n4 : Nx W G2 F2 H' G4 F4 H4 [] := kn n3
      refine ⟨hw, tDT.use S4 h4 fun H5 G5 F5 n5 S5 => ?_⟩
      have n5' : Nx W G2 F2 H' G5 F5 H5 [] := n4.trans n5
      cases c4 with
      | false =>
        simp only [Bool.false_eq_true, if_false] at hl
        refine iteF ?_
        obtain ⟨x5, _⟩ := x2.keep n5'
        obtain ⟨F6, S6, m6⟩ := S5.wiped vs
        rw [hw] at S6
        refine ⟨_, _, G5, F6, R, acc, ⟨n2.sub.trans n5'.sub, fun a h ht g f w => ?_⟩, sm.trans n5'.sub, S6, x5.less m6, hl⟩
        obtain ⟨e1, e2, e3, e4⟩ := n2.frm a h ht g f w
        obtain ⟨f1, f2, f3, f4⟩ := n5'.frm a (by rw [e1]; exact h) (by rw [e1]; exact ht) e2 e3 w
        exact ⟨f1.trans e1, f2, fun z => f3 (m6 a z), e4⟩
      | true =>
        simp only [if_true] at hl
        obtain ⟨⟨y, en6, om6⟩, h6, hl⟩ := bind_some hl
        refine iteT (tD.hold S5 h6 fun yv H6 G6 F6 Ry n6 S6 xy => ?_)
        by_cases hz : acc.length < 1000
        · simp only [hz, if_true] at hl
          have n6' : Nx W G2 F2 H' G6 F6 H6 Ry := n5'.trans n6
          obtain ⟨x6, dj⟩ := x2.keep n6'
          obtain ⟨rel6, nd6, own6⟩ := x6
          cases rel6 with
          | lsto hD6 rs =>
            rename_i accV
            obtain ⟨ndD, ndR⟩ := List.nodup_cons.mp nd6
            have hlenV : accV.length < sizeLine := by
              rw [rs.length]
              exact small1000 (Nat.le_of_lt hz)
            have oD := own6 D0 List.mem_cons_self
            have nRy : ∀ a ∈ Ry, a ≠ D0 := fun a ha z => dj D0 List.mem_cons_self (z ▸ ha)
            refine ⟨accV, hD6, hlenV, ?_⟩
            obtain ⟨F7, S7, m7⟩ := S6.wiped vs
            rw [hw] at S7
            have nF7 : ∀ a ∈ F7, a ≠ D0 := fun a ha z => oD.2.1 (z ▸ m7 a ha)
            have nR : ∀ a ∈ R, a ≠ D0 := fun a ha z => ndD (z ▸ ha)
            refine ⟨_, _, G6, F7, R ++ Ry, acc ++ [y], ⟨n2.sub.trans n6'.sub, fun a h ht g f w => ?_⟩, sm.trans n6'.sub,
              ⟨fun a o e => by rw [upd_ne fun z => by rw [z, oD.1] at e; cases e]; exact S7.sub a o e, S7.env.mono (.refl _ _) fun a ha => upd_ne (nF7 a ha), S7.nd, S7.FG, S7.FW, S7.WG, S7.BG, W.put S7.wok oD.2.2 (.inr (.inl ⟨_, hD6⟩))⟩,
              ⟨.lsto upd_same ((rs.mono (.refl _ _) fun a ha => upd_ne (nR a ha)).append (Rels.one (xy.rel.mono (.refl _ _) fun a ha => upd_ne (nRy a ha)))), ?_, fun a ha => ?_⟩, hl⟩
            · obtain ⟨e1, e2, e3, e4⟩ := n2.frm a h ht g f w
              obtain ⟨f1, f2, f3, f4⟩ := n6'.frm a (by rw [e1]; exact h) (by rw [e1]; exact ht) e2 e3 w
              have nD : a ≠ D0 := fun z => e4 (by rw [z]; exact List.mem_cons_self)
              refine ⟨by rw [upd_ne nD]; exact f1.trans e1, f2, fun z => f3 (m7 a z), fun z => ?_⟩
              rcases List.mem_cons.mp z with z | z
              · exact nD z
              · rcases List.mem_append.mp z with z | z
                · exact e4 (List.mem_cons_of_mem _ z)
                · exact f4 z
            · refine List.nodup_cons.mpr ⟨fun z => ?_, ?_⟩
              · rcases List.mem_append.mp z with z | z
                · exact ndD z
                · exact nRy _ z rfl
              · rw [List.nodup_append]
                exact ⟨ndR, xy.nd, fun a ha b hb e => dj a (List.mem_cons_of_mem _ ha) (e ▸ hb)⟩
            · have key : a ∈ D0 :: R ∨ a ∈ Ry := by
                simp only [List.mem_cons, List.mem_append] at ha ⊢
                rcases ha with h | h | h
                · exact .inl (.inl h)
                · exact .inl (.inr h)
                · exact .inr h
              rcases key with z | z
              · obtain ⟨o1, o2, o3⟩ := own6 a z
                exact ⟨o1, fun q => o2 (m7 a q), o3⟩
              · obtain ⟨o1, o2, o3⟩ := xy.own a z
                exact ⟨o1, fun q => o2 (m7 a q), o3⟩
        · simp only [hz, if_false] at hl
          cases hl
theorem de_lc {elt iter : Expr} {ifs : List Expr} {scope : Scope} {own : List (Str × Nat)} {pos : Pos} {f : DA Om} {sl : List Nat} {g : TgD Om} {t : DT Om} {e : DE Om} (hc : X.calm = true) (hN : X.N.Nodup) (hi : PI X tg iter (iD W B f)) (ok : BlkOk X.N X.env.scope scope own)
    (hg : ∀ (s : Shared) (H : Hp) (C : Addr) (cl : List (Str × Addr)) (fp : List Addr), PG (X.blk s H scope (compEnvC scope cl C X.env) fp) tg (tG W B sl g)) (ht : ∀ (s : Shared) (H : Hp) (C : Addr) (cl : List (Str × Addr)) (fp : List Addr), PTs (X.blk s H scope (compEnvC scope cl C X.env) fp) ifs (tDT W B t))
    (he : ∀ (s : Shared) (H : Hp) (C : Addr) (cl : List (Str × Addr)) (fp : List Addr), PE (X.blk s H scope (compEnvC scope cl C X.env) fp) elt (tD W B e)) (hsl : ∀ i ∈ sl, i ∈ own.map (·.2) := by decide) (hs : ∀ x, foldedSetIterable iter X.env x = pure x := by intro _; rfl) :
    PE X (.ListComp elt [⟨tg, iter, ifs, 0⟩] scope pos) (tD W B (dLc f g t e (own.map (·.2)))) := (pe_lc hc hN hi ok hg ht he hs).le fun _ _ _ q => lc_use hsl q
/-- name = [..] -/
theorem ds_setLc {i : Nat} {y : Str} {py : Pos} {elt iter : Expr} {ifs : List Expr} {scope : Scope} {own : List (Str × Nat)} {pos spos : Pos} {f : DA Om} {sl : List Nat} {g : TgD Om} {t : DT Om} {e : DE Om} (hc : X.calm = true) (hN : X.N.Nodup) (hy : X.N[i]? = some y) (hyl : X.env.scope.names.lookup y = some .local)
    (hsw : swapsWith (.ListComp elt [⟨tg, iter, ifs, 0⟩] scope pos) (some (.Name y py)) spos.line X.env = pure true) (hi : PI X tg iter (iD W B f)) (ok : BlkOk X.N X.env.scope scope own)
    (hg : ∀ (s : Shared) (H : Hp) (C : Addr) (cl : List (Str × Addr)) (fp : List Addr), PG (X.blk s H scope (compEnvC scope cl C X.env) fp) tg (tG W B sl g)) (ht : ∀ (s : Shared) (H : Hp) (C : Addr) (cl : List (Str × Addr)) (fp : List Addr), PTs (X.blk s H scope (compEnvC scope cl C X.env) fp) ifs (tDT W B t))
    (he : ∀ (s : Shared) (H : Hp) (C : Addr) (cl : List (Str × Addr)) (fp : List Addr), PE (X.blk s H scope (compEnvC scope cl C X.env) fp) elt (tD W B e)) (hsl : ∀ i ∈ sl, i ∈ own.map (·.2) := by decide) (hs : ∀ x, foldedSetIterable iter X.env x = pure x := by intro _; rfl) :
    PS X (.Assign [.Name y py] (.ListComp elt [⟨tg, iter, ifs, 0⟩] scope pos) spos) (tS W B Z (sAsg (dLc f g t e (own.map (·.2))) (gN i))) := (ps_setLc hc hN hy hyl hsw hi ok hg ht he hs).le fun Dn σ H q => by
  obtain ⟨en, om, G, F, o, en', om', S, hf, k⟩ := q
  obtain ⟨⟨d, en1, om1⟩, h1, hf⟩ := bind_some hf
  obtain ⟨⟨en2, om2⟩, h2, hf⟩ := Option.map_eq_some_iff.mp hf
  cases hf
  refine lc_use hsl (tD.hold S h1 fun v H' G' F' R n S' x => ?_)
  unfold gN at h2
  split at h2
  · rename_i hl
    cases h2
    obtain ⟨F2, S2, _, kn⟩ := S'.take x hl
    exact k _ _ _ _ (kn n) S2
  · cases h2
end
end DL

/-! DS7: subscripts, slices, in, builtins, stores, by data. -/
namespace DL
open PySem PySem.Spec PyProof.Rows L2

section
variable {Om : Type} {W : Wld Om} {B : AS} {X : Cx} {en en' en1 : Ev} {om om' om1 : Om} {G G1 H H1 : Hp} {F F1 R : List Addr} {σ σ1 : L2.St} {v x y : V} {d : D} {Q : VK} {Dn : Ends}
/-! ### dicts -/
def dlook : List Int → List D → Int → Option D
  | k :: ks, d :: ds, j => if k = j then some d else dlook ks ds j
  | _, _, _ => none
def dput : List Int → List D → Int → D → List D
  | k :: ks, d :: ds, j, e => (if k = j then e else d) :: dput ks ds j e
  | _, _, _, _ => []
theorem dlook_val : ∀ {kvs : List (Key × V)} {ks : List Int} {ds : List D}, KsOk kvs ks → Rels B G H [] (kvs.map (·.2)) ds → ∀ j : Int, (∀ d, dlook ks ds j = some d → ∃ v, valV kvs (Sum.inl j) = some v ∧ Rel B G H [] v d) ∧ (valV kvs (Sum.inl j)).isSome = ks.contains j
  | [], ks, ds, e, r, j => by
    have : ks = [] := by
      have := congrArg List.length e
      simp at this
      exact List.eq_nil_of_length_eq_zero this.symm
    subst this
    simp [dlook, valV]
  | p :: kvs, [], ds, e, r, j => by
    have := congrArg List.length e
    simp at this
  | p :: kvs, k :: ks, [], e, r, j => by
    have := r.length
    simp at this
  | p :: kvs, k :: ks, d :: ds, e, r, j => by
    unfold KsOk at e
    rw [List.map_cons, List.map_cons] at e
    injection e with e1 e2
    rw [List.map_cons] at r
    obtain ⟨r1, r2⟩ := r.inv0
    obtain ⟨ih1, ih2⟩ := dlook_val (ks := ks) (ds := ds) e2 r2 j
    by_cases h : k = j
    · subst h
      rw [valV_pos e1]
      refine ⟨fun d' h' => ?_, by simp⟩
      simp only [dlook, if_true] at h'
      cases h'
      exact ⟨_, rfl, r1⟩
    · have hn : ¬ p.1 = Sum.inl j := fun z => h (Sum.inl.inj (e1.symm.trans z))
      rw [valV_neg hn]
      refine ⟨fun d' h' => ?_, ?_⟩
      · simp only [dlook, h, if_false] at h'
        exact ih1 d' h'
      · rw [ih2]
        have : (k == j) = false := by simpa using h
        simp [List.contains_cons, Ne.symm h]
/-- what is asked of a dict that is shared -/
theorem Rst.dget (S : Rst W B en om G F σ H) {g : Tag} {ks : List Int} {ds : List D} {j : Int} (r : Rel B G H [] v (.dic g ks ds)) : ∃ a, v = .ref a ∧ (∀ d, dlook ks ds j = some d → ∃ w, DGet H a (.int j) (some w) ∧ Rel B G H [] w d) ∧ ∃ o, DGet H a (.int j) o ∧ o.isSome = ks.contains j := by
  obtain ⟨a, kvs, rfl, hd, hk, rs⟩ := r.asD
  obtain ⟨k1, k2⟩ := dlook_val hk rs j
  refine ⟨a, rfl, fun d h => ?_, _, .inl ⟨kvs, Sum.inl j, rd_sub S hd, rfl, rfl⟩, k2⟩
  obtain ⟨w, e, rw'⟩ := k1 d h
  exact ⟨w, .inl ⟨kvs, Sum.inl j, rd_sub S hd, rfl, e.symm⟩, rw'⟩

/-! ### in -/
def flV : D → V
  | .non => .non | .bl b => .bl b | .int i => .int i | .str s => .str s
  | _ => .non
theorem Rel.flat {F : List Addr} (r : Rel B G H F v d) (h : flatD d = true) : v = flV d := by
  cases r <;> first | rfl | (simp [flatD] at h)
theorem flat_fl {d : D} (h : flatD d = true) : flatV (flV d) = true := by
  cases d <;> first | rfl | (simp [flatD] at h)
theorem eq_fl {a b : D} (ha : flatD a = true) (hb : flatD b = true) : eqV (flV a) (flV b) = eqS a b := by
  cases a <;> first | (simp [flatD] at ha; done) | (cases b <;> first | rfl | (simp [flatD] at hb))
theorem Rels.flat : ∀ {vs : List V} {ds : List D}, Rels B G H [] vs ds → ds.all flatD = true → vs = ds.map flV
  | vs, [], r, h => by
    have := r.length
    simp at this
    subst this
    rfl
  | [], d :: ds, r, h => by
    have := r.length
    simp at this
  | v :: vs, d :: ds, r, h => by
    obtain ⟨r1, r2⟩ := r.inv0
    rw [List.all_cons, Bool.and_eq_true] at h
    rw [r1.flat h.1, Rels.flat r2 h.2, List.map_cons]
def inS (a : D) (l : List D) : Bool := l.any fun y => eqS y a
theorem in_fl {a : D} {l : List D} (ha : flatD a = true) (hl : l.all flatD = true) : inV (flV a) (l.map flV) = inS a l := by
  unfold inV inS
  induction l with
  | nil => rfl
  | cons d l ih =>
    rw [List.all_cons, Bool.and_eq_true] at hl
    rw [List.map_cons, List.any_cons, List.any_cons, eq_fl hl.1 ha, ih hl.2]
theorem all_fl {l : List D} (hl : l.all flatD = true) : (l.map flV).all flatV = true := by
  induction l with
  | nil => rfl
  | cons d l ih =>
    rw [List.all_cons, Bool.and_eq_true] at hl
    rw [List.map_cons, List.all_cons, flat_fl hl.1, ih hl.2]
    rfl
def inD (a b : D) : Option Bool := match b with
  | .lst _ l => if flatD a = true ∧ l.all flatD = true then some (inS a l) else none
  | .tup l => if flatD a = true ∧ l.all flatD = true then some (inS a l) else none
  | .dic _ ks _ => match a with
    | .int j => some (ks.contains j)
    | _ => none
  | _ => none
def oIn (a b : D) : Option D := (inD a b).map fun c => .bl c
def oNotIn (a b : D) : Option D := (inD a b).map fun c => .bl (!c)
def rInD (neg : Bool) : R2 := fun x y H Q => ∃ a o, y = .ref a ∧ DGet H a x o ∧ Q (.bl (if neg then !o.isSome else o.isSome)) H
theorem or_din (hu : X.A.units + 1 < cLine) : OpR X (compareOp .In) (rInD false) := by
  intro pins s σ H x y v u Q I rx ry h
  obtain ⟨a, o, rfl, g, q⟩ := h
  obtain rfl : u = Value.ref a := ry
  exact d_in hu I g rx fun s3 I3 => ⟨.bl o.isSome, H, I3, rfl, q⟩
theorem or_dnotin (hu : X.A.units + 1 < cLine) : OpR X (compareOp .NotIn) (rInD true) := by
  intro pins s σ H x y v u Q I rx ry h
  obtain ⟨a, o, rfl, g, q⟩ := h
  obtain rfl : u = Value.ref a := ry
  exact d_notIn hu I g rx fun s3 I3 => ⟨.bl (!o.isSome), H, I3, rfl, q⟩
def rInA (K : PySem.W.Frag) (neg : Bool) : R2 := fun x y H Q => rIn K neg x y H Q ∨ rInD neg x y H Q
theorem or_in (hu : X.A.units + 1 < cLine) : OpR X (compareOp .In) (rInA X.K false) := op_in_seq.or (or_din hu)
theorem or_notin (hu : X.A.units + 1 < cLine) : OpR X (compareOp .NotIn) (rInA X.K true) := op_notIn_seq.or (or_dnotin hu)
theorem in_use {K : PySem.W.Frag} {neg : Bool} {a b : D} {c : Bool} (S : Rst W B en om G F σ H) (ra : Rel B G H [] x a) (rb : Rel B G H [] y b) (h : inD a b = some c) (k : Q (.bl (if neg then !c else c)) H) : rInA K neg x y H Q := by
  unfold inD at h
  split at h
  · rename_i g l
    split at h
    · rename_i hc
      cases h
      obtain ⟨p, vs, rfl, g1, r1⟩ := rb.asL
      refine .inl ⟨p, vs, rfl, .inl (.of (S.sub _ _ g1)), by rw [ra.flat hc.1]; exact flat_fl hc.1, by rw [r1.flat hc.2]; exact all_fl hc.2, ?_⟩
      rw [ra.flat hc.1, r1.flat hc.2, in_fl hc.1 hc.2]
      exact k
    · cases h
  · rename_i l
    split at h
    · rename_i hc
      cases h
      obtain ⟨p, vs, rfl, g1, r1⟩ := rb.asT
      refine .inl ⟨p, vs, rfl, .inr (.of (S.sub _ _ g1)), by rw [ra.flat hc.1]; exact flat_fl hc.1, by rw [r1.flat hc.2]; exact all_fl hc.2, ?_⟩
      rw [ra.flat hc.1, r1.flat hc.2, in_fl hc.1 hc.2]
      exact k
    · cases h
  · rename_i g ks ds
    split at h
    · rename_i j
      cases h
      cases ra
      obtain ⟨p, rfl, _, o, ho, he⟩ := S.dget (j := j) rb
      refine .inr ⟨p, o, rfl, ho, ?_⟩
      rw [he]
      exact k
    · cases h
  · cases h
theorem s2_in {K : PySem.W.Frag} : S2 W B oIn (rInA K false) := by
  intro en om G H F σ x y a b c Q S ra rb h k
  obtain ⟨e, h1, rfl⟩ := Option.map_eq_some_iff.mp h
  exact in_use S ra rb h1 (k _ H G [] .refl S (.sh (.bl _)))
theorem s2_notin {K : PySem.W.Frag} : S2 W B oNotIn (rInA K true) := by
  intro en om G H F σ x y a b c Q S ra rb h k
  obtain ⟨e, h1, rfl⟩ := Option.map_eq_some_iff.mp h
  exact in_use (neg := true) S ra rb h1 (k _ H G [] .refl S (.sh (.bl _)))

/-! ### a[b] -/
def oIx (a b : D) : Option D := match b with
  | .int i => (match a with
    | .lst _ l => atI l i
    | .tup l => atI l i
    | .dic _ ks ds => dlook ks ds i
    | _ => none)
  | _ => none
def rIxD : R2 := fun x y H Q => ∃ a v, x = .ref a ∧ DGet H a y (some v) ∧ Q v H
theorem ix_dict (hu : X.A.units + 1 < cLine) : IxR X rIxD := by
  intro value slice pins s σ H x y v u Q I rx ry h hs
  obtain ⟨a, w, rfl, g, q⟩ := h
  obtain rfl : v = Value.ref a := rx
  exact tail_any (dict_typeIs I g) PySem.F.slot_dict_getitem.lookup (d_getItem hu I g ry fun w' s3 I3 rw' => ⟨w, H, I3, rw', q⟩) hs
def rIxA (K : PySem.W.Frag) : R2 := fun x y H Q => rIxL K x y H Q ∨ (rIxT K x y H Q ∨ rIxD x y H Q)
theorem ix_all (hu : X.A.units + 1 < cLine) : IxR X (rIxA X.K) := ix_list.or (ix_tup.or (ix_dict hu))
theorem Rels.atI {vs : List V} {ds : List D} (r : Rels B G H [] vs ds) {i : Int} {d : D} (h : L2.atI ds i = some d) : ∃ v, L2.atI vs i = some v ∧ Rel B G H [] v d := by
  unfold L2.atI at h ⊢
  obtain ⟨j, h1, h2⟩ := bind_some h
  rw [r.length, h1]
  exact r.get h2
theorem s2_ix {K : PySem.W.Frag} : S2 W B oIx (rIxA K) := by
  intro en om G H F σ x y a b c Q S ra rb h k
  unfold oIx at h
  split at h
  · rename_i i
    cases rb
    split at h
    · obtain ⟨p, vs, rfl, g1, r1⟩ := ra.asL
      obtain ⟨w, e, rw'⟩ := r1.atI h
      exact .inl ⟨p, vs, i, w, rfl, rfl, .of (S.sub _ _ g1), e, k _ H G [] .refl S (.sh rw')⟩
    · obtain ⟨p, vs, rfl, g1, r1⟩ := ra.asT
      obtain ⟨w, e, rw'⟩ := r1.atI h
      exact .inr (.inl ⟨p, vs, i, w, rfl, rfl, .of (S.sub _ _ g1), e, k _ H G [] .refl S (.sh rw')⟩)
    · obtain ⟨p, rfl, h1, _⟩ := S.dget (j := i) ra
      obtain ⟨w, e, rw'⟩ := h1 _ h
      exact .inr (.inr ⟨p, w, rfl, e, k _ H G [] .refl S (.sh rw')⟩)
    · cases h
  · cases h
theorem de_ix {a b : Expr} {pos : Pos} {f1 f2 : DE Om} (hu : X.A.units + 1 < cLine) (ha : PE X a (tD W B f1)) (hb : PE X b (tD W B f2)) (hs : PlainIx b := by exact fun _ _ => rfl) : PE X (.Subscript a b pos) (tD W B (d2 oIx f1 f2)) := (pe_ix (ix_all hu) ha hb hs).le fun _ _ _ q => t2_use s2_ix q
/-- a slot that holds something -/
def has (en : Ev) (i : Nat) : Bool := match en[i]? with
  | some (some _) => true
  | _ => false
theorem Rst.has (S : Rst W B en om G F σ H) {i : Nat} (h : DL.has en i = true) : ∃ v, σ[i]? = some (some v) := by
  unfold DL.has at h
  split at h
  · rename_i d hd
    obtain ⟨v, _, _, _, _, e, _⟩ := S.get hd
    exact ⟨v, e⟩
  · cases h
/-- x[b], x a name whose thing stays its own -/
def dIxN (i : Nat) (f : DE Om) : DE Om := fun en om => if has en i = true then (f en om).bind fun p => match p.2.1[i]? with
  | some (some d) => (oIx d (frz p.1)).bind fun c => if noO c = true then some (c, p.2.1, p.2.2) else none
  | _ => none
  else none
/-- as it stands, its own things too -/
theorem Rels.atI' {vs : List V} {ds : List D} {R : List Addr} (r : Rels B G H R vs ds) {i : Int} {d : D} (h : L2.atI ds i = some d) (ho : noO d = true) : ∃ v, L2.atI vs i = some v ∧ Rel B G H [] v d := by
  unfold L2.atI at h ⊢
  obtain ⟨j, h1, h2⟩ := bind_some h
  rw [r.length, h1]
  obtain ⟨v, P, R', S, e, e2, r2, _⟩ := r.split h2
  have := r2.noo ho
  subst this
  exact ⟨v, e2, r2⟩
theorem dlook_val' : ∀ {kvs : List (Key × V)} {ks : List Int} {ds : List D} {R : List Addr}, KsOk kvs ks → Rels B G H R (kvs.map (·.2)) ds → ∀ (j : Int) (d : D), dlook ks ds j = some d → noO d = true → ∃ v, valV kvs (Sum.inl j) = some v ∧ Rel B G H [] v d
  | [], ks, ds, R, e, r, j, d, h, ho => by
    have : ks = [] := by
      have := congrArg List.length e
      simp at this
      exact List.eq_nil_of_length_eq_zero this.symm
    subst this
    simp [dlook] at h
  | p :: kvs, [], ds, R, e, r, j, d, h, ho => by simp [dlook] at h
  | p :: kvs, k :: ks, [], R, e, r, j, d, h, ho => by simp [dlook] at h
  | p :: kvs, k :: ks, d' :: ds, R, e, r, j, d, h, ho => by
    unfold KsOk at e
    rw [List.map_cons, List.map_cons] at e
    injection e with e1 e2
    rw [List.map_cons] at r
    cases r with
    | cons r1 r2 =>
      by_cases hk : k = j
      · subst hk
        simp only [dlook, if_true] at h
        cases h
        rw [valV_pos e1]
        have := r1.noo ho
        subst this
        exact ⟨_, rfl, r1⟩
      · simp only [dlook, hk, if_false] at h
        rw [valV_neg fun z => hk (Sum.inl.inj (e1.symm.trans z))]
        exact dlook_val' e2 r2 j d h ho
/-- one item of a thing as it stands -/
theorem ix_peek {K : PySem.W.Frag} {a b c : D} {R : List Addr} (S : Rst W B en om G F σ H) (ra : Rel B G H R x a) (rb : Rel B G H [] y b) (h : oIx a b = some c) (ho : noO c = true) (k : ∀ w, Rel B G H [] w c → Q w H) : rIxA K x y H Q := by
  unfold oIx at h
  split at h
  · rename_i i
    cases rb
    split at h
    · rename_i g l
      cases ra with
      | lstf e n r =>
        obtain ⟨w, e2, rw'⟩ := r.atI h
        exact .inl ⟨_, _, i, w, rfl, rfl, .of (S.sub _ _ e), e2, k w rw'⟩
      | lstb e r =>
        obtain ⟨w, e2, rw'⟩ := r.atI h
        exact .inl ⟨_, _, i, w, rfl, rfl, .of (S.sub _ _ e), e2, k w rw'⟩
      | lsto e r =>
        obtain ⟨w, e2, rw'⟩ := r.atI' h ho
        exact .inl ⟨_, _, i, w, rfl, rfl, .of e, e2, k w rw'⟩
    · rename_i l
      cases ra with
      | tup e r =>
        obtain ⟨w, e2, rw'⟩ := r.atI' h ho
        exact .inr (.inl ⟨_, _, i, w, rfl, rfl, .of (S.sub _ _ e), e2, k w rw'⟩)
    · rename_i g ks ds
      cases ra with
      | dicf e n q r =>
        obtain ⟨w, e2, rw'⟩ := dlook_val' q r i c h ho
        exact .inr (.inr ⟨_, w, rfl, .inl ⟨_, Sum.inl i, rd_sub S e, rfl, e2.symm⟩, k w rw'⟩)
      | dicb e q r =>
        obtain ⟨w, e2, rw'⟩ := dlook_val' q r i c h ho
        exact .inr (.inr ⟨_, w, rfl, .inl ⟨_, Sum.inl i, rd_sub S e, rfl, e2.symm⟩, k w rw'⟩)
      | dico e q r =>
        obtain ⟨w, e2, rw'⟩ := dlook_val' q r i c h ho
        exact .inr (.inr ⟨_, w, rfl, .inl ⟨_, Sum.inl i, .inl e, rfl, e2.symm⟩, k w rw'⟩)
    · cases h
  · cases h
theorem ixn_use {K : PySem.W.Frag} {i : Nat} {f : DE Om} (q : tD W B (dIxN i f) σ H Q) : tOp (rIxA K) (tVar i) (tD W B f) σ H Q := by
  obtain ⟨en, om, G, F, c, en', om', S, hf, k⟩ := q
  unfold dIxN at hf
  split at hf
  · rename_i h0
    obtain ⟨w0, hw0⟩ := S.has h0
    obtain ⟨⟨b, en1, om1⟩, h1, hf⟩ := bind_some hf
    dsimp only at hf
    split at hf
    · rename_i d hd
      obtain ⟨c', h2, hf⟩ := bind_some hf
      split at hf
      · rename_i ho
        cases hf
        refine ⟨w0, hw0, tD.use S h1 fun y H1 G1 F1 n1 S1 r1 => ?_⟩
        obtain ⟨v, P, R, T, _, e2, rv⟩ := S1.get hd
        rw [hw0] at e2
        cases e2
        exact ix_peek S1 rv r1 h2 ho fun w rw' => k w H1 G1 F1 [] n1 S1 (.sh rw')
      · cases hf
    · cases hf
  · cases hf
theorem de_ixN (i : Nat) {x : Str} {b : Expr} {p pos : Pos} {f : DE Om} (hu : X.A.units + 1 < cLine) (hb : PE X b (tD W B f)) (hN : X.N[i]? = some x := by rfl) (hv : Vis X.env.scope x := by first | exact Or.inl rfl | exact Or.inr (Or.inl rfl) | exact Or.inr (Or.inr rfl)) (hs : PlainIx b := by exact fun _ _ => rfl) (hd : (x == ("__debug__" : Str)) = false := by decide)
    (hcd : (x == ("__classdict__" : Str)) = false := by decide) : PE X (.Subscript (.Name x p) b pos) (tD W B (dIxN i f)) := (pe_ix (ix_all hu) (pe_var hN hv hd hcd) hb hs).le fun _ _ _ q => ixn_use q

/-! ### calls of builtins -/
/-- a rule for a call by values is served by g -/
def SC (W : Wld Om) (B : AS) (g : List D → Option D) (r : List V → Hp → VK → Prop) : Prop := ∀ {en : Ev} {om : Om} {G H : Hp} {F : List Addr} {σ : L2.St} {vs : List V} {ds : List D} {c : D} {Q : VK}, Rst W B en om G F σ H → Rels B G H [] vs ds → g ds = some c →
  (∀ v H' G' R, Nx W G F H G' F H' R → Rst W B en om G' F σ H' → Has W B G' F H' R v c → Q v H') → r vs H Q
def dCB (g : List D → Option D) (fa : DA Om) : DE Om := fun en om => (fa en om).bind fun p => (g (frzs p.1)).map fun c => (c, p.2.1, p.2.2)
theorem cb_use {g : List D → Option D} {r : List V → Hp → VK → Prop} {fa : DA Om} (hg : SC W B g r) (q : tD W B (dCB g fa) σ H Q) : tCB r (tDA W B fa) σ H Q := by
  obtain ⟨en, om, G, F, c, en', om', S, hf, k⟩ := q
  obtain ⟨⟨ds, en1, om1⟩, h1, hf⟩ := bind_some hf
  obtain ⟨c', h2, hf⟩ := Option.map_eq_some_iff.mp hf
  cases hf
  refine tDA.hold S h1 fun vs H1 G1 F1 R1 n1 S1 x1 => ?_
  obtain ⟨S2, r2, kn⟩ := S1.shares x1
  exact hg S2 r2 h2 fun v H' G' R n S' hh => k v H' G' F1 R ((kn n1).trans n) S' hh
theorem de_callB {id : String} {x : Str} {e : Expr} {es : List Expr} {p pos : Pos} {g : List D → Option D} {r : List V → Hp → VK → Prop} {fa : DA Om} (hc : CallR X (.builtin id) r) (hg : SC W B g r) (hm : X.mg x = none) (hv : bootBuiltins x = some (.builtin id)) (ha : PA X (e :: es) (tDA W B fa)) (hgl : Gl X x := by rfl) (hn : x ≠ "__name__" := by decide) (hdb : (x == ("__debug__" : Str)) = false := by decide)
    (he : starEach (e :: es) X.env = (false, eval e X.env) :: starEach es X.env := by rfl) (hpl : (backTo pos (starEach es X.env)).any (·.1) = false := by rfl) : PE X (.Call (.Name x p) (e :: es) [] pos) (tD W B (dCB g fa)) :=
  (pe_callB hc hgl hm hv ha hn hdb he hpl).le fun _ _ _ q => cb_use hg q
theorem de_callTy {T : String} {x : Str} {e : Expr} {es : List Expr} {p pos : Pos} {g : List D → Option D} {r : List V → Hp → VK → Prop} {fa : DA Om} (hc : CallR X (.type T) r) (hg : SC W B g r) (hm : X.mg x = none) (hv : bootBuiltins x = some (.type T)) (ha : PA X (e :: es) (tDA W B fa)) (hgl : Gl X x := by rfl) (hn : x ≠ "__name__" := by decide) (hdb : (x == ("__debug__" : Str)) = false := by decide)
    (he : starEach (e :: es) X.env = (false, eval e X.env) :: starEach es X.env := by rfl) (hpl : (backTo pos (starEach es X.env)).any (·.1) = false := by rfl) : PE X (.Call (.Name x p) (e :: es) [] pos) (tD W B (dCB g fa)) :=
  (pe_callTy hc hgl hm hv ha hn hdb he hpl).le fun _ _ _ q => cb_use hg q
theorem one0 {vs : List V} {d : D} (r : Rels B G H [] vs [d]) : ∃ v, vs = [v] ∧ Rel B G H [] v d := by
  cases vs with
  | nil => have := r.length; simp at this
  | cons v vs =>
    obtain ⟨r1, r2⟩ := r.inv0
    have := r2.length
    simp at this
    subst this
    exact ⟨v, rfl, r1⟩
theorem two0 {vs : List V} {d e : D} (r : Rels B G H [] vs [d, e]) : ∃ v w, vs = [v, w] ∧ Rel B G H [] v d ∧ Rel B G H [] w e := by
  cases vs with
  | nil => have := r.length; simp at this
  | cons v vs =>
    obtain ⟨r1, r2⟩ := r.inv0
    obtain ⟨w, rfl, r3⟩ := one0 r2
    exact ⟨v, w, rfl, r1, r3⟩
def cLen : List D → Option D
  | [.lst _ l] => some (.int l.length)
  | [.tup l] => some (.int l.length)
  | _ => none
theorem sc_len {K : PySem.W.Frag} : SC W B cLen (fun xs H Q => ∃ p ys, xs = [.ref p] ∧ (SqL K H p ys ∨ SqT K H p ys) ∧ Q (.int ys.length) H) := by
  intro en om G H F σ vs ds c Q S r h k
  unfold cLen at h
  split at h
  · cases h
    obtain ⟨v, rfl, r1⟩ := one0 r
    obtain ⟨p, ws, rfl, g1, r2⟩ := r1.asL
    exact ⟨p, ws, rfl, .inl (.of (S.sub _ _ g1)), k _ H G [] .refl S (.sh (by rw [r2.length]; exact .int _))⟩
  · cases h
    obtain ⟨v, rfl, r1⟩ := one0 r
    obtain ⟨p, ws, rfl, g1, r2⟩ := r1.asT
    exact ⟨p, ws, rfl, .inr (.of (S.sub _ _ g1)), k _ H G [] .refl S (.sh (by rw [r2.length]; exact .int _))⟩
  · cases h
theorem de_len {e : Expr} {p pos : Pos} {f : DE Om} (hm : X.mg "len" = none) (ha : PE X e (tD W B f)) (hgl : Gl X "len" := by rfl) (he : starEach (e :: []) X.env = (false, eval e X.env) :: starEach [] X.env := by rfl) (hpl : (backTo pos (starEach [] X.env)).any (·.1) = false := by rfl) : PE X (.Call (.Name "len" p) [e] [] pos) (tD W B (dCB cLen (aCons f aNil))) :=
  de_callB call_len_seq sc_len hm PySem.boot_len (da_cons ha da_nil he) hgl (by decide) (by decide) he hpl
/-- len(x), x a name whose thing stays its own -/
def dLenN (i : Nat) : DE Om := fun en om => match en[i]? with
  | some (some d) => (cLen [d]).map fun c => (c, en, om)
  | _ => none
theorem lenN_use {K : PySem.W.Frag} {i : Nat} (q : tD W B (dLenN i) σ H Q) : tCB (fun xs H Q => ∃ p ys, xs = [.ref p] ∧ (SqL K H p ys ∨ SqT K H p ys) ∧ Q (.int ys.length) H) (tCons (tVar i) tNil) σ H Q := by
  obtain ⟨en, om, G, F, c, en', om', S, hf, k⟩ := q
  unfold dLenN at hf
  split at hf
  · rename_i d hd
    obtain ⟨c', h2, hf⟩ := Option.map_eq_some_iff.mp hf
    cases hf
    obtain ⟨v, P, R, T, _, e2, rv⟩ := S.get hd
    refine ⟨v, e2, ?_⟩
    unfold cLen at h2
    split at h2
    · rename_i g l hl
      cases h2
      cases hl
      cases rv with
      | lstf e n r => exact ⟨_, _, rfl, .inl (.of (S.sub _ _ e)), k _ H G F [] .refl S (.sh (by rw [r.length]; exact .int _))⟩
      | lstb e r => exact ⟨_, _, rfl, .inl (.of (S.sub _ _ e)), k _ H G F [] .refl S (.sh (by rw [r.length]; exact .int _))⟩
      | lsto e r => exact ⟨_, _, rfl, .inl (.of e), k _ H G F [] .refl S (.sh (by rw [r.length]; exact .int _))⟩
    · rename_i l hl
      cases h2
      cases hl
      cases rv with
      | tup e r => exact ⟨_, _, rfl, .inr (.of (S.sub _ _ e)), k _ H G F [] .refl S (.sh (by rw [r.length]; exact .int _))⟩
    · cases h2
  · cases hf
theorem de_lenN (i : Nat) {x : Str} {p p2 pos : Pos} (hm : X.mg "len" = none) (hN : X.N[i]? = some x := by rfl) (hv : Vis X.env.scope x := by first | exact Or.inl rfl | exact Or.inr (Or.inl rfl) | exact Or.inr (Or.inr rfl)) (hgl : Gl X "len" := by rfl) (hd : (x == ("__debug__" : Str)) = false := by decide)
    (hcd : (x == ("__classdict__" : Str)) = false := by decide) (he : starEach (.Name x p2 :: []) X.env = (false, eval (.Name x p2) X.env) :: starEach [] X.env := by rfl) (hpl : (backTo pos (starEach [] X.env)).any (·.1) = false := by rfl) : PE X (.Call (.Name "len" p) [.Name x p2] [] pos) (tD W B (dLenN i)) :=
  (pe_callB call_len_seq hgl hm PySem.boot_len (pa_cons (pe_var hN hv hd hcd) pa_nil he) (by decide) (by decide) he hpl).le fun _ _ _ q => lenN_use q
def cAbs : List D → Option D
  | [.int i] => some (.int (if i < 0 then -i else i))
  | _ => none
theorem sc_abs : SC W B cAbs (fun xs H Q => ∃ i, xs = [.int i] ∧ Q (.int (if i < 0 then -i else i)) H) := by
  intro en om G H F σ vs ds c Q S r h k
  unfold cAbs at h
  split at h
  · cases h
    obtain ⟨v, rfl, r1⟩ := one0 r
    cases r1
    exact ⟨_, rfl, k _ H G [] .refl S (.sh (.int _))⟩
  · cases h
/-- tuple(x), list(x) -/
def cTup : List D → Option D
  | [.lst _ l] => some (.tup l)
  | [.tup l] => some (.tup l)
  | _ => none
theorem sc_tup {K : PySem.W.Frag} : SC W B cTup (fun xs H Q => ∃ p ys, xs = [.ref p] ∧ ((SqL K H p ys ∧ ∀ l, H l = none → Q (.ref l) (upd H l (.tup ys))) ∨ (SqT K H p ys ∧ Q (.ref p) H))) := by
  intro en om G H F σ vs ds c Q S r h k
  unfold cTup at h
  split at h
  · cases h
    obtain ⟨v, rfl, r1⟩ := one0 r
    obtain ⟨p, ws, rfl, g1, r2⟩ := r1.asL
    refine ⟨p, ws, rfl, .inl ⟨.of (S.sub _ _ g1), fun t ht => ?_⟩⟩
    obtain ⟨n, S', hh⟩ := S.tnew ht r2
    exact k _ _ _ _ n S' hh
  · cases h
    obtain ⟨v, rfl, r1⟩ := one0 r
    obtain ⟨p, ws, rfl, g1, r2⟩ := r1.asT
    exact ⟨p, ws, rfl, .inr ⟨.of (S.sub _ _ g1), k _ H G [] .refl S (.sh (.tup g1 r2))⟩⟩
  · cases h
def cLst : List D → Option D
  | [.lst _ l] => some (.lst .o l)
  | [.tup l] => some (.lst .o l)
  | _ => none
theorem sc_lst {K : PySem.W.Frag} : SC W B cLst (fun xs H Q => ∃ p ys, xs = [.ref p] ∧ (SqL K H p ys ∨ SqT K H p ys) ∧ ∀ l, H l = none → Q (.ref l) (upd H l (.lst ys))) := by
  intro en om G H F σ vs ds c Q S r h k
  unfold cLst at h
  split at h
  · cases h
    obtain ⟨v, rfl, r1⟩ := one0 r
    obtain ⟨p, ws, rfl, g1, r2⟩ := r1.asL
    refine ⟨p, ws, rfl, .inl (.of (S.sub _ _ g1)), fun t ht => ?_⟩
    obtain ⟨n, S', hh⟩ := S.lnew ht r2
    exact k _ _ _ _ n S' hh
  · cases h
    obtain ⟨v, rfl, r1⟩ := one0 r
    obtain ⟨p, ws, rfl, g1, r2⟩ := r1.asT
    refine ⟨p, ws, rfl, .inr (.of (S.sub _ _ g1)), fun t ht => ?_⟩
    obtain ⟨n, S', hh⟩ := S.lnew ht r2
    exact k _ _ _ _ n S' hh
  · cases h
/-- all whole numbers; all truth values -/
def intsOf : List D → Option (List Int)
  | [] => some []
  | .int i :: ds => (intsOf ds).map fun l => i :: l
  | _ :: _ => none
def blsOf : List D → Option (List Bool)
  | [] => some []
  | .bl i :: ds => (blsOf ds).map fun l => i :: l
  | _ :: _ => none
theorem intsOf_eq : ∀ {ds : List D} {ns : List Int}, intsOf ds = some ns → ds = ns.map D.int
  | [], ns, h => by simp [intsOf] at h; subst h; rfl
  | d :: ds, ns, h => by
    cases d <;> simp only [intsOf] at h <;> first | (cases h; done) | skip
    obtain ⟨l, h1, rfl⟩ := Option.map_eq_some_iff.mp h
    rw [intsOf_eq h1, List.map_cons]
theorem blsOf_eq : ∀ {ds : List D} {ns : List Bool}, blsOf ds = some ns → ds = ns.map D.bl
  | [], ns, h => by simp [blsOf] at h; subst h; rfl
  | d :: ds, ns, h => by
    cases d <;> simp only [blsOf] at h <;> first | (cases h; done) | skip
    obtain ⟨l, h1, rfl⟩ := Option.map_eq_some_iff.mp h
    rw [blsOf_eq h1, List.map_cons]
theorem intsOf_map : ∀ ns : List Int, intsOf (ns.map D.int) = some ns
  | [] => rfl
  | n :: ns => by rw [List.map_cons]; simp only [intsOf]; rw [intsOf_map ns]; rfl
theorem blsOf_map : ∀ ns : List Bool, blsOf (ns.map D.bl) = some ns
  | [] => rfl
  | n :: ns => by rw [List.map_cons]; simp only [blsOf]; rw [blsOf_map ns]; rfl
/-- a rule that asks for a list of whole numbers -/
def cInts (g : List Int → Option D) : List D → Option D
  | [.lst _ l] => (intsOf l).bind g
  | _ => none
theorem ints_use {l : List D} {g : Tag} {vs : List V} {ns : List Int} (r : Rels B G H [] vs [.lst g l]) (h : intsOf l = some ns) : ∃ p, vs = [.ref p] ∧ G p = some (.lst (ns.map V.int)) := by
  obtain ⟨v, rfl, r1⟩ := one0 r
  obtain ⟨p, ws, rfl, g1, r2⟩ := r1.asL
  rw [intsOf_eq h] at r2
  obtain ⟨e, _⟩ := Rels.ints r2
  rw [e] at g1
  exact ⟨p, rfl, g1⟩
theorem sc_sum {K : PySem.W.Frag} : SC W B (cInts fun ns => some (.int ns.sum)) (rSum K) := by
  intro en om G H F σ vs ds c Q S r h k
  unfold cInts at h
  split at h
  · obtain ⟨ns, h1, h2⟩ := bind_some h
    cases h2
    obtain ⟨p, rfl, g1⟩ := ints_use r h1
    exact ⟨p, ns, rfl, .of (S.sub _ _ g1), k _ H G [] .refl S (.sh (.int _))⟩
  · cases h
/-- the greatest, the least of a list that is not empty -/
def maxI (ns : List Int) : Int := ns.foldl (fun a b => if a < b then b else a) (ns.headD 0)
def minI (ns : List Int) : Int := ns.foldl (fun a b => if b < a then b else a) (ns.headD 0)
theorem maxI_aux : ∀ (ns : List Int) (a : Int), (∀ y ∈ ns, y ≤ ns.foldl (fun a b => if a < b then b else a) a) ∧ a ≤ ns.foldl (fun a b => if a < b then b else a) a
  | [], a => ⟨fun y h => by simp at h, Int.le_refl _⟩
  | n :: ns, a => by
    obtain ⟨h1, h2⟩ := maxI_aux ns (if a < n then n else a)
    rw [List.foldl_cons]
    refine ⟨fun y hy => ?_, ?_⟩
    · rcases List.mem_cons.mp hy with e | e
      · subst e
        refine Int.le_trans ?_ h2
        split <;> omega
      · exact h1 y e
    · refine Int.le_trans ?_ h2
      split <;> omega
theorem minI_aux : ∀ (ns : List Int) (a : Int), (∀ y ∈ ns, ns.foldl (fun a b => if b < a then b else a) a ≤ y) ∧ ns.foldl (fun a b => if b < a then b else a) a ≤ a
  | [], a => ⟨fun y h => by simp at h, Int.le_refl _⟩
  | n :: ns, a => by
    obtain ⟨h1, h2⟩ := minI_aux ns (if n < a then n else a)
    rw [List.foldl_cons]
    refine ⟨fun y hy => ?_, ?_⟩
    · rcases List.mem_cons.mp hy with e | e
      · subst e
        refine Int.le_trans h2 ?_
        split <;> omega
      · exact h1 y e
    · refine Int.le_trans h2 ?_
      split <;> omega
theorem maxI_mem : ∀ (ns : List Int) (a : Int), ns.foldl (fun a b => if a < b then b else a) a = a ∨ ns.foldl (fun a b => if a < b then b else a) a ∈ ns
  | [], a => .inl rfl
  | n :: ns, a => by
    rw [List.foldl_cons]
    rcases maxI_mem ns (if a < n then n else a) with h | h
    · rw [h]
      split
      · exact .inr List.mem_cons_self
      · exact .inl rfl
    · exact .inr (List.mem_cons_of_mem _ h)
theorem minI_mem : ∀ (ns : List Int) (a : Int), ns.foldl (fun a b => if b < a then b else a) a = a ∨ ns.foldl (fun a b => if b < a then b else a) a ∈ ns
  | [], a => .inl rfl
  | n :: ns, a => by
    rw [List.foldl_cons]
    rcases minI_mem ns (if n < a then n else a) with h | h
    · rw [h]
      split
      · exact .inr List.mem_cons_self
      · exact .inl rfl
    · exact .inr (List.mem_cons_of_mem _ h)
theorem maxI_eq {ns : List Int} {m : Int} (h : m ∈ ns) (k : ∀ y ∈ ns, y ≤ m) : maxI ns = m := by
  cases ns with
  | nil => simp at h
  | cons n ns =>
    obtain ⟨h1, h2⟩ := maxI_aux (n :: ns) n
    have h3 := h1 m h
    rcases maxI_mem (n :: ns) n with e | e
    · have : m ≤ n := by rw [← e]; exact h3
      have := k n List.mem_cons_self
      show (n :: ns).foldl _ n = m
      rw [e]
      omega
    · have := k _ e
      show (n :: ns).foldl _ n = m
      omega
theorem minI_eq {ns : List Int} {m : Int} (h : m ∈ ns) (k : ∀ y ∈ ns, m ≤ y) : minI ns = m := by
  cases ns with
  | nil => simp at h
  | cons n ns =>
    obtain ⟨h1, h2⟩ := minI_aux (n :: ns) n
    have h3 := h1 m h
    rcases minI_mem (n :: ns) n with e | e
    · have : n ≤ m := by rw [← e]; exact h3
      have := k n List.mem_cons_self
      show (n :: ns).foldl _ n = m
      rw [e]
      omega
    · have := k _ e
      show (n :: ns).foldl _ n = m
      omega
theorem sc_max {K : PySem.W.Frag} : SC W B (cInts fun ns => if 0 < ns.length then some (.int (maxI ns)) else none) (rMax K) := by
  intro en om G H F σ vs ds c Q S r h k
  unfold cInts at h
  split at h
  · obtain ⟨ns, h1, h2⟩ := bind_some h
    split at h2
    · rename_i hl
      cases h2
      obtain ⟨p, rfl, g1⟩ := ints_use r h1
      exact ⟨p, ns, rfl, .of (S.sub _ _ g1), hl, fun m hm hk => by rw [← maxI_eq hm hk]; exact k _ H G [] .refl S (.sh (.int _))⟩
    · cases h2
  · cases h
theorem sc_min {K : PySem.W.Frag} : SC W B (cInts fun ns => if 0 < ns.length then some (.int (minI ns)) else none) (rMin K) := by
  intro en om G H F σ vs ds c Q S r h k
  unfold cInts at h
  split at h
  · obtain ⟨ns, h1, h2⟩ := bind_some h
    split at h2
    · rename_i hl
      cases h2
      obtain ⟨p, rfl, g1⟩ := ints_use r h1
      exact ⟨p, ns, rfl, .of (S.sub _ _ g1), hl, fun m hm hk => by rw [← minI_eq hm hk]; exact k _ H G [] .refl S (.sh (.int _))⟩
    · cases h2
  · cases h
def cAll : List D → Option D
  | [.lst _ l] => (blsOf l).map fun bs => .bl (bs.all id)
  | _ => none
theorem sc_all {K : PySem.W.Frag} : SC W B cAll (rAll K) := by
  intro en om G H F σ vs ds c Q S r h k
  unfold cAll at h
  split at h
  · obtain ⟨bs, h1, rfl⟩ := Option.map_eq_some_iff.mp h
    obtain ⟨v, rfl, r1⟩ := one0 r
    obtain ⟨p, ws, rfl, g1, r2⟩ := r1.asL
    rw [blsOf_eq h1] at r2
    obtain ⟨e, _⟩ := Rels.bls r2
    rw [e] at g1
    exact ⟨p, bs, rfl, .of (S.sub _ _ g1), k _ H G [] .refl S (.sh (.bl _))⟩
  · cases h
/-- a, b: the greater, the less -/
def cMax2 : List D → Option D
  | [.int i, .int j] => some (.int (if j > i then j else i))
  | _ => none
def cMin2 : List D → Option D
  | [.int i, .int j] => some (.int (if j < i then j else i))
  | _ => none
theorem sc_max2 : SC W B cMax2 (fun xs H Q => ∃ i j, xs = [.int i, .int j] ∧ Q (.int (if j > i then j else i)) H) := by
  intro en om G H F σ vs ds c Q S r h k
  unfold cMax2 at h
  split at h
  · cases h
    obtain ⟨v, w, rfl, r1, r2⟩ := two0 r
    cases r1; cases r2
    exact ⟨_, _, rfl, k _ H G [] .refl S (.sh (.int _))⟩
  · cases h
theorem sc_min2 : SC W B cMin2 (fun xs H Q => ∃ i j, xs = [.int i, .int j] ∧ Q (.int (if j < i then j else i)) H) := by
  intro en om G H F σ vs ds c Q S r h k
  unfold cMin2 at h
  split at h
  · cases h
    obtain ⟨v, w, rfl, r1, r2⟩ := two0 r
    cases r1; cases r2
    exact ⟨_, _, rfl, k _ H G [] .refl S (.sh (.int _))⟩
  · cases h
def cInt : List D → Option D
  | [.int i] => some (.int i)
  | [.bl k] => some (.int (if k then 1 else 0))
  | _ => none
theorem sc_int : SC W B cInt (fun xs H Q => (∃ i, xs = [.int i] ∧ Q (.int i) H) ∨ ∃ k, xs = [.bl k] ∧ Q (.int (if k then 1 else 0)) H) := by
  intro en om G H F σ vs ds c Q S r h k
  unfold cInt at h
  split at h
  · cases h
    obtain ⟨v, rfl, r1⟩ := one0 r
    cases r1
    exact .inl ⟨_, rfl, k _ H G [] .refl S (.sh (.int _))⟩
  · cases h
    obtain ⟨v, rfl, r1⟩ := one0 r
    cases r1
    exact .inr ⟨_, rfl, k _ H G [] .refl S (.sh (.int _))⟩
  · cases h
end
end DL

/-! DS8: stores into own lists and dicts, by data. -/
namespace DL
open PySem PySem.Spec PyProof.Rows L2

section
variable {Om : Type} {W : Wld Om} {B : AS} {Z : XK} {X : Cx} {en en' en1 : Ev} {om om' om1 : Om} {G G1 H H1 : Hp} {F F1 R : List Addr} {σ σ1 : L2.St} {v w x y : V} {d : D} {Q : VK} {Dn : Ends}
/-! ### an own object in a slot is written -/
theorem Rst.wr (S : Rst W B en om G F σ H) (x : Has W B G F H R v d) {i : Nat} {d0 : D} (hi : en[i]? = some (some d0)) : ∃ (w : V) (T : List Addr), σ[i]? = some (some w) ∧ Rel B G H T w d0 ∧ (T ++ R).Nodup ∧
    ∀ {p : Addr} {o : HO} {d1 : D} {T2 : List Addr}, p ∈ T → (∀ b ∈ T2, b ∈ T ∨ b ∈ R) → T2.Nodup → Rel B G (upd H p o) T2 w d1 → ∃ F', Rst W B (en.set i (some d1)) om G F' σ (upd H p o) ∧ ∀ {G0 F0 H0}, Nx W G0 F0 H0 G F H R → Nx W G0 F0 H0 G F' (upd H p o) [] := by
  obtain ⟨P, T, U, e, k, ks, _⟩ := S.env.at (i := i) (List.getElem?_eq_some_iff.mp hi).1
  obtain ⟨w, hv, r⟩ := k d0 hi
  subst e
  have memT : ∀ a ∈ T, a ∈ P ++ (T ++ U) := fun a ha => List.mem_append_right _ (List.mem_append_left _ ha)
  have hnd := S.nd
  simp only [List.nodup_append] at hnd
  obtain ⟨ndP, ⟨ndT, ndU, dTU⟩, dP⟩ := hnd
  refine ⟨w, T, hv, r, ?_, fun {p o d1 T2} hp m2 nd2 r2 => ?_⟩
  · rw [List.nodup_append]
    exact ⟨ndT, x.nd, fun a ha b hb e => (x.own b hb).2.1 (e ▸ memT a ha)⟩
  have gp : G p = none := S.FG p (memT p hp)
  have nP : ∀ a ∈ P, a ≠ p := fun a ha z => dP a ha p (List.mem_append_left _ hp) z
  have nU : ∀ a ∈ U, a ≠ p := fun a ha z => dTU p hp a ha z.symm
  have env := ks (H' := upd H p o) (.refl _ _) (fun a ha => upd_ne (nP a ha)) (fun a ha => upd_ne (nU a ha)) r2
  rw [set_id hv] at env
  have mem : ∀ a ∈ P ++ (T2 ++ U), a ∈ P ++ (T ++ U) ∨ a ∈ R := fun a ha => by
    rcases List.mem_append.mp ha with z | z
    · exact .inl (List.mem_append_left _ z)
    · rcases List.mem_append.mp z with z | z
      · exact (m2 a z).elim (fun z => .inl (memT a z)) .inr
      · exact .inl (List.mem_append_right _ (List.mem_append_right _ z))
  refine ⟨P ++ (T2 ++ U), ⟨fun a q z => by rw [upd_ne fun w => by rw [w, gp] at z; cases z]; exact S.sub a q z, env, ?_, fun a ha => (mem a ha).elim (S.FG a) fun z => (x.own a z).1, fun a ha => (mem a ha).elim (S.FW a) fun z => (x.own a z).2.2, S.WG, S.BG,
    W.put S.wok (S.FW p (memT p hp)) (.inr (S.env.there (memT p hp)))⟩, fun n => ⟨n.sub, fun a h ht g f w => ?_⟩⟩
  · simp only [List.nodup_append]
    refine ⟨ndP, ⟨nd2, ndU, fun a ha b hb q => ?_⟩, fun a ha b hb q => ?_⟩
    · subst q
      rcases m2 a ha with z | z
      · exact dTU a z a hb rfl
      · exact (x.own a z).2.1 (List.mem_append_right _ (List.mem_append_right _ hb))
    · subst q
      rcases List.mem_append.mp hb with z | z
      · rcases m2 a z with z | z
        · exact dP a ha a (List.mem_append_left _ z) rfl
        · exact (x.own a z).2.1 (List.mem_append_left _ ha)
      · exact dP a ha a (List.mem_append_right _ z) rfl
  · obtain ⟨e1, e2, e3, e4⟩ := n.frm a h ht g f w
    have ne : a ≠ p := fun z => e3 (z ▸ memT p hp)
    exact ⟨by rw [upd_ne ne]; exact e1, e2, fun z => (mem a z).elim e3 e4, by simp⟩
/-- an own list, seen from outside -/
theorem Rel.ownL {l : List D} {T : List Addr} (r : Rel B G H T v (.lst .o l)) : ∃ a vs T', v = .ref a ∧ T = a :: T' ∧ H a = some (.lst vs) ∧ Rels B G H T' vs l := by
  generalize hD : D.lst Tag.o l = D1 at r
  cases r with
  | lsto e r => cases hD; exact ⟨_, _, _, rfl, rfl, e, r⟩
  | _ => cases hD
theorem Rel.ownD {ks : List Int} {l : List D} {T : List Addr} (r : Rel B G H T v (.dic .o ks l)) : ∃ (a : Addr) (kvs : List (Key × V)) (T' : List Addr), v = .ref a ∧ T = a :: T' ∧ H a = some (.dK kvs) ∧ KsOk kvs ks ∧ Rels B G H T' (kvs.map (·.2)) l := by
  generalize hD : D.dic Tag.o ks l = D1 at r
  cases r with
  | dico e q r => cases hD; exact ⟨_, _, _, rfl, rfl, e, q, r⟩
  | _ => cases hD
/-- the own list in slot i gets other items -/
theorem Rst.wrL (S : Rst W B en om G F σ H) (x : Has W B G F H R v d) {i : Nat} {l : List D} (hi : en[i]? = some (some (.lst .o l))) : ∃ (a : Addr) (vs : List V) (T : List Addr), σ[i]? = some (some (.ref a)) ∧ H a = some (.lst vs) ∧ Rels B G H T vs l ∧ (T ++ R).Nodup ∧
    ∀ {vs' : List V} {l' : List D} {T2 : List Addr}, (∀ b ∈ T2, b ∈ T ∨ b ∈ R) → T2.Nodup → Rels B G H T2 vs' l' → ∃ F', Rst W B (en.set i (some (.lst .o l'))) om G F' σ (upd H a (.lst vs')) ∧ ∀ {G0 F0 H0}, Nx W G0 F0 H0 G F H R → Nx W G0 F0 H0 G F' (upd H a (.lst vs')) [] := by
  obtain ⟨w, T, hv, r, nd, k⟩ := S.wr x hi
  obtain ⟨a, vs, T', rfl, rfl, e, rs⟩ := r.ownL
  rw [List.cons_append, List.nodup_cons] at nd
  refine ⟨a, vs, T', hv, e, rs, nd.2, fun {vs' l' T2} m nd2 r2 => ?_⟩
  have na : ∀ b ∈ T2, b ≠ a := fun b hb z => nd.1 (z ▸ (m b hb).elim (fun z => List.mem_append_left _ z) fun z => List.mem_append_right _ z)
  refine k List.mem_cons_self (T2 := a :: T2) (fun b hb => ?_) (List.nodup_cons.mpr ⟨fun z => na a z rfl, nd2⟩) (.lsto upd_same (r2.mono (.refl _ _) fun b hb => upd_ne (na b hb)))
  rcases List.mem_cons.mp hb with z | z
  · exact .inl (z ▸ List.mem_cons_self)
  · exact (m b z).imp (List.mem_cons_of_mem _) id
/-- the own dict in slot i -/
theorem Rst.wrD (S : Rst W B en om G F σ H) (x : Has W B G F H R v d) {i : Nat} {ks : List Int} {l : List D} (hi : en[i]? = some (some (.dic .o ks l))) : ∃ (a : Addr) (kvs : List (Key × V)) (T : List Addr), σ[i]? = some (some (.ref a)) ∧ H a = some (.dK kvs) ∧ KsOk kvs ks ∧ Rels B G H T (kvs.map (·.2)) l ∧ (T ++ R).Nodup ∧
    ∀ {kvs' : List (Key × V)} {ks' : List Int} {l' : List D} {T2 : List Addr}, (∀ b ∈ T2, b ∈ T ∨ b ∈ R) → T2.Nodup → KsOk kvs' ks' → Rels B G H T2 (kvs'.map (·.2)) l' → ∃ F', Rst W B (en.set i (some (.dic .o ks' l'))) om G F' σ (upd H a (.dK kvs')) ∧ ∀ {G0 F0 H0}, Nx W G0 F0 H0 G F H R → Nx W G0 F0 H0 G F' (upd H a (.dK kvs')) [] := by
  obtain ⟨w, T, hv, r, nd, k⟩ := S.wr x hi
  obtain ⟨a, kvs, T', rfl, rfl, e, q, rs⟩ := r.ownD
  rw [List.cons_append, List.nodup_cons] at nd
  refine ⟨a, kvs, T', hv, e, q, rs, nd.2, fun {kvs' ks' l' T2} m nd2 q2 r2 => ?_⟩
  have na : ∀ b ∈ T2, b ≠ a := fun b hb z => nd.1 (z ▸ (m b hb).elim (fun z => List.mem_append_left _ z) fun z => List.mem_append_right _ z)
  refine k List.mem_cons_self (T2 := a :: T2) (fun b hb => ?_) (List.nodup_cons.mpr ⟨fun z => na a z rfl, nd2⟩) (.dico upd_same q2 (r2.mono (.refl _ _) fun b hb => upd_ne (na b hb)))
  rcases List.mem_cons.mp hb with z | z
  · exact .inl (z ▸ List.mem_cons_self)
  · exact (m b z).imp (List.mem_cons_of_mem _) id

/-! ### x.append(e) -/
def sApp (i : Nat) (f : DE Om) : SD Om := fun en om => match en[i]? with
  | some (some (.lst _ _)) => (f en om).bind fun p => match p.2.1[i]? with
    | some (some (.lst .o l)) => if l.length < 1000 then some (.nx, p.2.1.set i (some (.lst .o (l ++ [p.1]))), p.2.2) else none
    | _ => none
  | _ => none
theorem app_use {K : PySem.W.Frag} {i : Nat} {f : DE Om} (q : tS W B Z (sApp i f) Dn σ H) : tDrop (tBM K "list" rAppend (tVar i) (tCons (tD W B f) tNil)) Dn σ H := by
  obtain ⟨en, om, G, F, o, en', om', S, hf, k⟩ := q
  unfold sApp at hf
  split at hf
  · rename_i g0 l0 h0
    obtain ⟨⟨d, en1, om1⟩, h1, hf⟩ := bind_some hf
    dsimp only at hf
    split at hf
    · rename_i l hl
      split at hf
      · rename_i hz
        cases hf
        obtain ⟨w0, P0, R0, T0, eF, hw0, r0⟩ := S.get h0
        have ty : tyV K "list" w0 H := by
          cases r0 with
          | lstf e n r => exact .inl ⟨rfl, _, .of (S.sub _ _ e)⟩
          | lstb e r => exact .inl ⟨rfl, _, .of (S.sub _ _ e)⟩
          | lsto e r => exact .inl ⟨rfl, _, .of e⟩
        refine ⟨w0, hw0, ty, tD.hold S h1 fun v H1 G1 F1 R1 n1 S1 x1 => ?_⟩
        obtain ⟨a, vs, T, hw1, e, rs, nd, kw⟩ := S1.wrL x1 hl
        rw [hw0] at hw1
        cases hw1
        have hz' : vs.length < sizeLine := by rw [rs.length]; exact small1000 (Nat.le_of_lt hz)
        obtain ⟨F2, S2, kn⟩ := kw (fun b hb => List.mem_append.mp hb) nd (rs.append (Rels.one x1.rel))
        exact ⟨a, vs, v, rfl, rfl, e, hz', k σ _ G1 F2 (kn n1) S2⟩
      · cases hf
    · cases hf
  · cases hf
theorem ds_app {i : Nat} {e : Expr} {pos : Pos} {f : DE Om} (h : PE X e (tBM X.K "list" rAppend (tVar i) (tCons (tD W B f) tNil)))
    (hs : swapsWith e none pos.line X.env = pure false := by rfl) : PS X (.Expr e pos) (tS W B Z (sApp i f)) := (ps_expr h hs).le fun _ _ _ q => app_use q

/-! ### x[j] = e -/
theorem ixN_lt {n : Nat} {k : Int} {j : Nat} (h : ixN n k = some j) : j < n := (ixN_seq h).2.1
def sSetIx (i : Nat) (f fj : DE Om) : SD Om := fun en om => (f en om).bind fun p => if has p.2.1 i = true then (fj p.2.1 p.2.2).bind fun q => match q.2.1[i]? with
    | some (some (.lst .o l)) => (match frz q.1 with
      | .int k => (ixN l.length k).bind fun j => if noO (l.getD j .non) = true then some (.nx, q.2.1.set i (some (.lst .o (l.set j p.1))), q.2.2) else none
      | _ => none)
    | _ => none
  else none
theorem setIx_use {i : Nat} {f fj : DE Om} (q : tS W B Z (sSetIx i f fj) Dn σ H) : tAsg (tD W B f) (gSub (tVar i) (tD W B fj) rSetL) Dn σ H := by
  obtain ⟨en, om, G, F, o, en', om', S, hf, k⟩ := q
  obtain ⟨⟨d, en1, om1⟩, h1, hf⟩ := bind_some hf
  dsimp only at hf
  split at hf
  · rename_i h0
    obtain ⟨⟨b, en2, om2⟩, h2, hf⟩ := bind_some hf
    dsimp only at hf
    split at hf
    · rename_i l hl
      split at hf
      · rename_i kk hk
        obtain ⟨j, hj, hf⟩ := bind_some hf
        split at hf
        · rename_i ho
          cases hf
          refine tD.hold S h1 fun v H1 G1 F1 R1 n1 S1 x1 => ?_
          obtain ⟨w0, hw0⟩ := S1.has h0
          refine ⟨w0, hw0, tD.use S1 h2 fun y H2 G2 F2 n2 S2 r2 => ?_⟩
          rw [hk] at r2
          cases r2
          obtain ⟨x2, dj⟩ := x1.keep n2
          obtain ⟨a, vs, T, hw1, e, rs, nd, kw⟩ := S2.wrL x2 hl
          rw [hw0] at hw1
          cases hw1
          have hjl := ixN_lt hj
          have hg : l[j]? = some (l.getD j .non) := by
            rw [List.getD_eq_getElem?_getD, List.getElem?_eq_getElem hjl]
            rfl
          obtain ⟨u, P, R', U, eT, eu, ru, ks⟩ := rs.split hg
          have eR := ru.noo ho
          subst eR
          have rs2 := ks (H' := H2) (.refl _ _) (fun _ _ => rfl) (fun _ _ => rfl) x2.rel
          subst eT
          have mem : ∀ b ∈ P ++ (R1 ++ U), b ∈ P ++ ([] ++ U) ∨ b ∈ R1 := fun b hb => by
            simp only [List.mem_append, List.nil_append] at hb ⊢
            rcases hb with z | z | z
            · exact .inl (.inl z)
            · exact .inr z
            · exact .inl (.inr z)
          have nd2 : (P ++ (R1 ++ U)).Nodup := by
            rw [List.nil_append] at nd
            have : (P ++ (R1 ++ U)).Perm ((P ++ U) ++ R1) := by
              rw [List.append_assoc]
              exact List.Perm.append_left _ List.perm_append_comm
            exact this.nodup_iff.mpr nd
          obtain ⟨F3, S3, kn⟩ := kw mem nd2 rs2
          refine ⟨a, vs, kk, j, rfl, rfl, e, by rw [rs.length]; exact hj, k σ _ G2 F3 (kn ⟨n1.sub.trans n2.sub, fun a h ht g f w => ?_⟩) S3⟩
          obtain ⟨e1, e2, e3, e4⟩ := n1.frm a h ht g f w
          obtain ⟨f1, f2, f3, f4⟩ := n2.frm a (by rw [e1]; exact h) (by rw [e1]; exact ht) e2 e3 w
          exact ⟨f1.trans e1, f2, f3, e4⟩
        · cases hf
      · cases hf
    · cases hf
  · cases hf
theorem ds_setIx (i : Nat) {x : Str} {e b : Expr} {p spos pos : Pos} {f fj : DE Om} (he : PE X e (tD W B f)) (hb : PE X b (tD W B fj)) (hN : X.N[i]? = some x := by rfl) (hv : Vis X.env.scope x := by first | exact Or.inl rfl | exact Or.inr (Or.inl rfl) | exact Or.inr (Or.inr rfl)) (hd : (x == ("__debug__" : Str)) = false := by decide)
    (hcd : (x == ("__classdict__" : Str)) = false := by decide) (ha : ∀ v, assign (.Subscript (.Name x p) b spos) X.env v = (do
      let ov ← holding [v] (eval (.Name x p) X.env)
      let iv ← holding [v, ov] (eval b X.env)
      standAt spos
      holding [v, ov, iv] (setItem ov iv v)
      release [v, ov, iv] []) := by intro _; rfl) (hs : swapsWithSole [.Subscript (.Name x p) b spos] e pos.line X.env = pure false := by rfl) (hw : swappedStores [.Subscript (.Name x p) b spos] e X.env = pure none := by rfl)
    (h1 : (assignEach [.Subscript (.Name x p) b spos] X.env).map (·.2) = [assign (.Subscript (.Name x p) b spos) X.env] := by rfl) : PS X (.Assign [.Subscript (.Name x p) b spos] e pos) (tS W B Z (sSetIx i f fj)) :=
  (ps_asg he (pg_sub (pe_var hN hv hd hcd) hb set_list ha) hs hw h1).le fun _ _ _ q => setIx_use q

/-! ### d[k] = e -/
def sPut (i : Nat) (f fj : DE Om) : SD Om := fun en om => (f en om).bind fun p => if has p.2.1 i = true then (fj p.2.1 p.2.2).bind fun q => match q.2.1[i]? with
    | some (some (.dic .o ks l)) => (match frz q.1 with
      | .int k => if noOs l = true ∧ noO p.1 = true ∧ ks.length = l.length ∧ ks.length < 1000 then
          (if ks.contains k = true then some (.nx, q.2.1.set i (some (.dic .o ks (dput ks l k p.1))), q.2.2) else some (.nx, q.2.1.set i (some (.dic .o (ks ++ [k]) (l ++ [p.1]))), q.2.2)) else none
      | _ => none)
    | _ => none
  else none
theorem dput_rels : ∀ {kvs : List (Key × V)} {ks : List Int} {ds : List D} {j : Int} {u : V} {e : D}, KsOk kvs ks → Rels B G H [] (kvs.map (·.2)) ds → Rel B G H [] u e → Rels B G H [] ((kvs.map fun kv => if kv.1 = Sum.inl j then (kv.1, u) else kv).map (·.2)) (dput ks ds j e)
  | [], ks, ds, j, u, e, hk, r, re => by
    have : ks = [] := by
      have := congrArg List.length hk
      simp at this
      exact List.eq_nil_of_length_eq_zero this.symm
    subst this
    simp [dput]
    exact .nil
  | p :: kvs, [], ds, j, u, e, hk, r, re => by
    have := congrArg List.length hk
    simp at this
  | p :: kvs, k :: ks, [], j, u, e, hk, r, re => by
    have := r.length
    simp at this
  | p :: kvs, k :: ks, d :: ds, j, u, e, hk, r, re => by
    unfold KsOk at hk
    rw [List.map_cons, List.map_cons] at hk
    injection hk with e1 e2
    rw [List.map_cons] at r
    obtain ⟨r1, r2⟩ := r.inv0
    have ih := dput_rels (j := j) e2 r2 re
    rw [List.map_cons, List.map_cons]
    simp only [dput]
    refine Rels.cons0 ?_ ih
    by_cases h : k = j
    · subst h
      rw [if_pos e1, if_pos rfl]
      exact re
    · rw [if_neg fun z => h (Sum.inl.inj (e1.symm.trans z)), if_neg h]
      exact r1
theorem put_use {i : Nat} {f fj : DE Om} (q : tS W B Z (sPut i f fj) Dn σ H) : sDPut (tVar i) (tD W B fj) (tD W B f) Dn σ H := by
  obtain ⟨en, om, G, F, o, en', om', S, hf, k⟩ := q
  obtain ⟨⟨d, en1, om1⟩, h1, hf⟩ := bind_some hf
  dsimp only at hf
  split at hf
  · rename_i h0
    obtain ⟨⟨b, en2, om2⟩, h2, hf⟩ := bind_some hf
    dsimp only at hf
    split at hf
    · rename_i ks l hl
      split at hf
      · rename_i kk hk
        split at hf
        · rename_i ho
          obtain ⟨ho1, ho2, hlen, hz⟩ := ho
          refine tD.hold S h1 fun v H1 G1 F1 R1 n1 S1 x1 => ?_
          have eR := x1.rel.noo ho2
          subst eR
          obtain ⟨w0, hw0⟩ := S1.has h0
          refine ⟨w0, hw0, tD.use S1 h2 fun y H2 G2 F2 n2 S2 r2 => ?_⟩
          rw [hk] at r2
          cases r2
          obtain ⟨x2, dj⟩ := x1.keep n2
          obtain ⟨a, kvs, T, hw1, e, hko, rs, nd, kw⟩ := S2.wrD x2 hl
          rw [hw0] at hw1
          cases hw1
          have eT := rs.noo ho1
          subst eT
          have n3 : Nx W G F H G2 F2 H2 [] := n1.trans n2
          have hz' : kvs.length < sizeLine := by
            have := rs.length
            rw [List.length_map] at this
            rw [this, ← hlen]
            exact small1000 (Nat.le_of_lt hz)
          have hsome := (dlook_val hko rs kk).2
          refine ⟨a, _, rfl, .inl ⟨kvs, Sum.inl kk, e, rfl, hz', rfl⟩, ?_⟩
          cases hc : ks.contains kk with
          | true =>
            simp only [hc, if_true] at hf
            cases hf
            have eq : putK kvs (Sum.inl kk) v = kvs.map fun kv => if kv.1 = Sum.inl kk then (kv.1, v) else kv := by
              unfold putK
              rw [if_pos (by rw [valV_any, hsome, hc])]
            rw [eq]
            obtain ⟨F3, S3, kn⟩ := kw (kvs' := kvs.map fun (kv : Key × V) => if kv.1 = (Sum.inl kk : Key) then (kv.1, v) else kv) (ks' := ks) (l' := dput ks l kk d) (T2 := []) (fun b hb => by simp at hb) .nil (by
              unfold KsOk
              rw [List.map_map, ← hko]
              apply List.map_congr_left
              intro p _
              simp only [Function.comp]
              split <;> rfl) (dput_rels hko rs x2.rel)
            exact k σ _ G2 F3 (kn n3) S3
          | false =>
            simp only [hc, Bool.false_eq_true, if_false] at hf
            cases hf
            have eq : putK kvs (Sum.inl kk) v = kvs ++ [(Sum.inl kk, v)] := putK_new v (by
              rw [hc] at hsome
              cases q : valV kvs (Sum.inl kk) with
              | none => rfl
              | some z => rw [q] at hsome; cases hsome)
            rw [eq]
            obtain ⟨F3, S3, kn⟩ := kw (kvs' := kvs ++ [(Sum.inl kk, v)]) (ks' := ks ++ [kk]) (l' := l ++ [d]) (T2 := []) (fun b hb => by simp at hb) .nil (by
              unfold KsOk
              rw [List.map_append, List.map_append, hko]
              rfl) (by
              rw [List.map_append]
              exact rs.append0 (Rels.cons0 x2.rel .nil))
            exact k σ _ G2 F3 (kn n3) S3
        · cases hf
      · cases hf
    · cases hf
  · cases hf
theorem ds_put (i : Nat) {x : Str} {e b : Expr} {p spos pos : Pos} {f fj : DE Om} (hu : X.A.units + 1 < cLine) (he : PE X e (tD W B f)) (hb : PE X b (tD W B fj)) (hN : X.N[i]? = some x := by rfl) (hv : Vis X.env.scope x := by first | exact Or.inl rfl | exact Or.inr (Or.inl rfl) | exact Or.inr (Or.inr rfl)) (hd : (x == ("__debug__" : Str)) = false := by decide)
    (hcd : (x == ("__classdict__" : Str)) = false := by decide) (hs : swapsWith e (some (.Subscript (.Name x p) b spos)) pos.line X.env = pure false := by rfl) : PS X (.Assign [.Subscript (.Name x p) b spos] e pos) (tS W B Z (sPut i f fj)) :=
  (ps_dput hu (pe_var hN hv hd hcd) hb he hs).le fun _ _ _ q => put_use q
end
end DL

/-! DS9: slices, isinstance, x or y, op=, a pair of names at once, stars, names handed out. -/
namespace DL
open PySem PySem.Spec PyProof.Rows L2

section
variable {Om : Type} {W : Wld Om} {B : AS} {Z : XK} {X : Cx} {en en' en1 : Ev} {om om' om1 : Om} {G G1 H H1 : Hp} {F F1 R : List Addr} {σ σ1 : L2.St} {v w x y : V} {d : D} {Q : VK} {Dn : Ends}
/-! ### a[lo:hi] -/
def tOpt (W : Wld Om) (B : AS) : Option (DE Om) → TO
  | none => tNoPart
  | some f => tPart (tD W B f)
def optE : Option (DE Om) → Ev → Om → Option (Option Int × Ev × Om)
  | none, en, om => some (none, en, om)
  | some f, en, om => (f en om).bind fun p => match p.1 with
    | .int i => some (some i, p.2.1, p.2.2)
    | _ => none
theorem do_none : PO X none (tOpt W B none) := po_none
theorem do_some {e : Expr} {f : DE Om} (h : PE X e (tD W B f)) : PO X (some e) (tOpt W B (some f)) := po_some h
theorem tOpt.use {o : Option (DE Om)} {i : Option Int} {Q : Option Int → Hp → Prop} (S : Rst W B en om G F σ H) (h : optE o en om = some (i, en1, om1)) (k : ∀ H' G' F', Nx W G F H G' F' H' [] → Rst W B en1 om1 G' F' σ H' → Q i H') : tOpt W B o σ H Q := by
  cases o with
  | none =>
    cases h
    exact k H G F .refl S
  | some f =>
    obtain ⟨⟨d, en2, om2⟩, h1, h⟩ := bind_some h
    dsimp only at h
    split at h
    · cases h
      refine tD.hold S h1 fun v H' G' F' R n S' x => ?_
      obtain ⟨r, _, _⟩ := x
      cases r
      exact ⟨_, rfl, k H' G' F' n S'⟩
    · cases h
def cutG {α : Type} (xs : List α) (lo hi : Option Int) : List α := (xs.drop (HT.sIx xs.length 0 lo)).take (HT.sIx xs.length xs.length hi - HT.sIx xs.length 0 lo)
def oSl (d : D) (lo hi : Option Int) : Option D := match d with
  | .lst _ l => some (.lst .o (cutG l lo hi))
  | .tup l => some (.tup (cutG l lo hi))
  | _ => none
def dSl (f : DE Om) (lo hi : Option (DE Om)) : DE Om := fun en om => (f en om).bind fun p => (optE lo p.2.1 p.2.2).bind fun q => (optE hi q.2.1 q.2.2).bind fun r => (oSl (frz p.1) q.1 r.1).map fun c => (c, r.2.1, r.2.2)
def rSl2 (K : PySem.W.Frag) : V → Option Int → Option Int → Hp → VK → Prop := fun x lo hi H Q => rSlL K x lo hi H Q ∨ rSlA K x lo hi H Q
theorem cut_rels {vs : List V} {ds : List D} (r : Rels B G H [] vs ds) (lo hi : Option Int) : Rels B G H [] (cutV vs lo hi) (cutG ds lo hi) := by
  unfold cutV cutG
  rw [r.length]
  exact (r.drop _).take _
theorem sl_use {K : PySem.W.Frag} {f : DE Om} {lo hi : Option (DE Om)} (q : tD W B (dSl f lo hi) σ H Q) : tSl (rSl2 K) (tD W B f) (tOpt W B lo) (tOpt W B hi) σ H Q := by
  obtain ⟨en, om, G, F, c, en', om', S, hf, k⟩ := q
  obtain ⟨⟨a, en1, om1⟩, h1, hf⟩ := bind_some hf
  obtain ⟨⟨i, en2, om2⟩, h2, hf⟩ := bind_some hf
  obtain ⟨⟨j, en3, om3⟩, h3, hf⟩ := bind_some hf
  obtain ⟨c', h4, hf⟩ := Option.map_eq_some_iff.mp hf
  cases hf
  refine tD.use S h1 fun x H1 G1 F1 n1 S1 r1 => tOpt.use S1 h2 fun H2 G2 F2 n2 S2 => tOpt.use S2 h3 fun H3 G3 F3 n3 S3 => ?_
  have r3 := rel_keep (rel_keep r1 n2) n3
  have n : Nx W G F H G3 F3 H3 [] := (n1.trans n2).trans n3
  unfold oSl at h4
  split at h4
  · rename_i g l hl
    rw [hl] at r3
    cases h4
    obtain ⟨p, vs, rfl, g1, rs⟩ := r3.asL
    refine .inl ⟨p, vs, rfl, .of (S3.sub _ _ g1), fun t ht => ?_⟩
    obtain ⟨m, S', hh⟩ := S3.lnew ht (cut_rels rs i j)
    exact k _ _ _ _ _ (n.trans m) S' hh
  · rename_i l hl
    rw [hl] at r3
    cases h4
    obtain ⟨p, vs, rfl, g1, rs⟩ := r3.asT
    refine .inr ⟨p, vs, rfl, .of (S3.sub _ _ g1), fun hw => ?_, fun _ t ht => ?_⟩
    · have e : cutG l i j = l := by
        rw [rs.length] at hw
        unfold cutG
        rw [hw.1, hw.2]
        simp
      rw [e] at k
      exact k _ H3 G3 F3 [] n S3 (.sh (.tup g1 rs))
    · obtain ⟨m, S', hh⟩ := S3.tnew ht (cut_rels rs i j)
      exact k _ _ _ _ _ (n.trans m) S' hh
  · cases h4
theorem de_slice {e : Expr} {lo hi : Option Expr} {pos p2 : Pos} {f : DE Om} {fl fh : Option (DE Om)} (he : PE X e (tD W B f)) (hl : PO X lo (tOpt W B fl)) (hh : PO X hi (tOpt W B fh)) : PE X (.Subscript e (.Slice lo hi none p2) pos) (tD W B (dSl f fl fh)) := (pe_slice (sl_list.or sl_tupA) he hl hh).le fun _ _ _ q => sl_use q

/-! ### isinstance -/
def tyName : D → Option String
  | .non => some "NoneType" | .bl _ => some "bool" | .int _ => some "int" | .str _ => some "str" | .tup _ => some "tuple" | .lst _ _ => some "list" | .dic _ _ _ => some "dict"
  | _ => none
theorem Rel.tyX {K : PySem.W.Frag} (S : Rst W B en om G F σ H) (r : Rel B G H [] v d) {t : String} (h : tyName d = some t) : TyX K H v (.type t) := by
  generalize hF : ([] : List Addr) = F' at r
  cases r <;> simp only [tyName, Option.some.injEq, reduceCtorEq] at h <;> subst h
  · exact .base .non
  · exact .base (.bl _)
  · exact .base (.int _)
  · exact .base (.str _)
  · rename_i e r
    exact .base (.tup (S.sub _ _ e))
  · rename_i e n r
    exact .base (.lst (S.sub _ _ e))
  · rename_i e r
    exact .base (.lst (S.sub _ _ e))
  · cases hF
  · rename_i e n q r
    rcases rd_sub S e with e | ⟨o, e⟩
    · exact .base (.dK e)
    · exact .fDict e
  · rename_i e q r
    rcases rd_sub S e with e | ⟨o, e⟩
    · exact .base (.dK e)
    · exact .fDict e
  · cases hF
def kitL (t : String) : List D → Option Bool
  | [] => some false
  | .ty n :: r => (kitB t n).bind fun b => (kitL t r).map fun c => b || c
  | _ :: _ => none
def cIsi : List D → Option D
  | [d, .ty n] => (tyName d).bind fun t => (kitB t n).map .bl
  | [d, .tup l] => (tyName d).bind fun t => (kitL t l).map .bl
  | _ => none
theorem kitL_any {K : PySem.W.Frag} {t : String} : ∀ {l : List D} {b : Bool} {vs : List V}, kitL t l = some b → Rels B G H [] vs l → ∃ us : List Value, Paired ClsV vs us ∧ PySem.W.kitAny K (.type t) us = some b
  | [], b, vs, h, r => by
    have := r.length
    simp at this
    subst this
    cases h
    exact ⟨[], .nil, rfl⟩
  | d :: l, b, vs, h, r => by
    cases d <;> simp only [kitL] at h <;> first | (cases h; done) | skip
    rename_i n
    cases vs with
    | nil => have := r.length; simp at this
    | cons v vs =>
      obtain ⟨r1, r2⟩ := r.inv0
      cases r1
      obtain ⟨b1, h1, h⟩ := bind_some h
      obtain ⟨c, h2, rfl⟩ := Option.map_eq_some_iff.mp h
      obtain ⟨us, p, q⟩ := kitL_any (K := K) h2 r2
      refine ⟨.type n :: us, .cons (.ty n) p, kitAny_cons (kit_ty h1) (fun e => ?_) (fun e => ?_)⟩
      · rw [e, Bool.false_or]; exact q
      · rw [e, Bool.true_or]
theorem sc_isi {K : PySem.W.Frag} : SC W B cIsi (fun xs H Q => rIsi K xs H Q ∨ rIsiT K xs H Q) := by
  intro en om G H F σ vs ds c Q S r h k
  unfold cIsi at h
  split at h
  · obtain ⟨t, h1, h⟩ := bind_some h
    obtain ⟨b, h2, rfl⟩ := Option.map_eq_some_iff.mp h
    obtain ⟨v, w, rfl, r1, r2⟩ := two0 r
    cases r2
    exact .inl ⟨v, _, _, _, b, rfl, .ty _, r1.tyX S h1, kit_ty h2, k _ H G [] .refl S (.sh (.bl _))⟩
  · obtain ⟨t, h1, h⟩ := bind_some h
    obtain ⟨b, h2, rfl⟩ := Option.map_eq_some_iff.mp h
    obtain ⟨v, w, rfl, r1, r2⟩ := two0 r
    obtain ⟨a, ws, rfl, g1, rs⟩ := r2.asT
    obtain ⟨us, p, q⟩ := kitL_any (K := K) h2 rs
    exact .inr ⟨v, a, ws, _, us, b, rfl, S.sub _ _ g1, p, r1.tyX S h1, q, k _ H G [] .refl S (.sh (.bl _))⟩
  · cases h
theorem or_isi : CallR X (.builtin "isinstance") (fun xs H Q => rIsi X.K xs H Q ∨ rIsiT X.K xs H Q) := call_isi.or call_isiT
/-- a built-in class by its name -/
theorem de_ty {x : Str} {T : String} {pos : Pos} (hm : X.mg x = none) (hv : bootBuiltins x = some (.type T)) (hg : Gl X x := by rfl) (hn : x ≠ "__name__" := by decide) (hd : (x == ("__debug__" : Str)) = false := by decide) : PE X (.Name x pos) (tD W B (dC (.ty T))) :=
  de_const (pe_bltn (v := .ty T) hg hm hv rfl hn hd) _ fun _ _ => .ty T
/-- what isinstance tells of our data -/
theorem kit_int : kitB "int" "int" = some true := by decide +kernel
theorem kit_bool_int : kitB "bool" "int" = some true := by decide +kernel
theorem kit_str_int : kitB "str" "int" = some false := by decide +kernel
theorem kit_none_int : kitB "NoneType" "int" = some false := by decide +kernel
theorem kit_tuple_int : kitB "tuple" "int" = some false := by decide +kernel
theorem kit_list_int : kitB "list" "int" = some false := by decide +kernel
theorem kit_int_bool : kitB "int" "bool" = some false := by decide +kernel
theorem kit_bool : kitB "bool" "bool" = some true := by decide +kernel
theorem kit_str_bool : kitB "str" "bool" = some false := by decide +kernel
theorem kit_none_bool : kitB "NoneType" "bool" = some false := by decide +kernel
theorem kit_tuple_bool : kitB "tuple" "bool" = some false := by decide +kernel
theorem kit_list_bool : kitB "list" "bool" = some false := by decide +kernel
theorem kit_int_tuple : kitB "int" "tuple" = some false := by decide +kernel
theorem kit_bool_tuple : kitB "bool" "tuple" = some false := by decide +kernel
theorem kit_str_tuple : kitB "str" "tuple" = some false := by decide +kernel
theorem kit_none_tuple : kitB "NoneType" "tuple" = some false := by decide +kernel
theorem kit_tuple : kitB "tuple" "tuple" = some true := by decide +kernel
theorem kit_list_tuple : kitB "list" "tuple" = some false := by decide +kernel
theorem kit_int_list : kitB "int" "list" = some false := by decide +kernel
theorem kit_bool_list : kitB "bool" "list" = some false := by decide +kernel
theorem kit_str_list : kitB "str" "list" = some false := by decide +kernel
theorem kit_none_list : kitB "NoneType" "list" = some false := by decide +kernel
theorem kit_tuple_list : kitB "tuple" "list" = some false := by decide +kernel
theorem kit_list : kitB "list" "list" = some true := by decide +kernel

/-! ### a or b, by truth -/
def truD : D → Option Bool
  | .non => some false
  | .bl b => some b
  | .int i => some (i != 0)
  | .lst _ l => some (!l.isEmpty)
  | .tup l => some (!l.isEmpty)
  | _ => none
theorem Rel.tru {K : PySem.W.Frag} {b : Bool} (S : Rst W B en om G F σ H) (r : Rel B G H [] v d) (h : truD d = some b) : TruV K v H b := by
  have emp : ∀ {vs : List V} {l : List D}, Rels B G H [] vs l → vs.isEmpty = l.isEmpty := fun {vs l} r => by
    have := r.length
    cases vs <;> cases l <;> first | rfl | (simp at this)
  generalize hF : ([] : List Addr) = F' at r
  cases r <;> simp only [truD, Option.some.injEq, reduceCtorEq] at h <;> first | (cases h; done) | skip
  · exact h.symm
  · exact h.symm
  · exact h.symm
  · rename_i e r
    subst hF
    exact .inr (.inl ⟨_, .of (S.sub _ _ e), by rw [← h, emp r]⟩)
  · rename_i e n r
    exact .inl ⟨_, .of (S.sub _ _ e), by rw [← h, emp r]⟩
  · rename_i e r
    exact .inl ⟨_, .of (S.sub _ _ e), by rw [← h, emp r]⟩
  · cases hF
def dOrT' (f g : DE Om) : DE Om := fun en om => (f en om).bind fun p => (truD (frz p.1)).bind fun b => if b = true then some (frz p.1, p.2.1, p.2.2) else g p.2.1 p.2.2
theorem de_orT {a b : Expr} {rest : List Expr} {pos : Pos} {f g : DE Om} (ha : PE X a (tD W B f)) (hb : PE X (.BoolOp .Or (b :: rest) pos) (tD W B g)) : PE X (.BoolOp .Or (a :: b :: rest) pos) (tD W B (dOrT' f g)) := (pe_orT ha hb).le fun σ H Q q => by
  obtain ⟨en, om, G, F, c, en', om', S, hf, k⟩ := q
  obtain ⟨⟨d, en1, om1⟩, h1, hf⟩ := bind_some hf
  obtain ⟨t, h2, hf⟩ := bind_some hf
  refine tD.use S h1 fun v H' G' F' n S' r => ⟨t, r.tru S' h2, ?_⟩
  cases t with
  | true =>
    simp at hf
    obtain ⟨rfl, rfl, rfl⟩ := hf
    exact iteT (k v H' G' F' [] n S' (.sh r))
  | false =>
    exact iteF (tD.hold S' (by simpa using hf) fun v H2 G2 F2 R n2 S2 x => k v H2 G2 F2 R (n.trans n2) S2 x)
/-- any value as a test -/
def dTru (f : DE Om) : DT Om := fun en om => (f en om).bind fun p => (truD (frz p.1)).map fun b => (b, p.2.1, p.2.2)
theorem dt_truth {e : Expr} {f : DE Om} (h : PE X e (tD W B f)) (he : ∀ whole, isTrue e X.env whole = (do let v ← whole; standAt e.pos; holding [v] (truthy v)) := by intro _; rfl) : PT X e (tDT W B (dTru f)) := (pt_truth h he).le fun σ H Q q => by
  obtain ⟨en, om, G, F, c, en', om', S, hf, k⟩ := q
  obtain ⟨⟨d, en1, om1⟩, h1, hf⟩ := bind_some hf
  obtain ⟨t, h2, hf⟩ := Option.map_eq_some_iff.mp hf
  cases hf
  exact tD.use S h1 fun v H' G' F' n S' r => ⟨_, r.tru S' h2, k H' G' F' n S'⟩

/-! ### x op= e (whole numbers) -/
def sAug (i : Nat) (g : Int → Int → Int) (f : DE Om) : SD Om := fun en om => match en[i]? with
  | some (some (.int a)) => (f en om).bind fun p => match p.1 with
    | .int b => if i < p.2.1.length then some (.nx, p.2.1.set i (some (.int (g a b))), p.2.2) else none
    | _ => none
  | _ => none
theorem ds_aug {i : Nat} {x : Str} {e : Expr} {op : Operator} {g : Int → Int → Int} {pos pos' : Pos} {f : DE Om} (ho : PIp X op (ipI g)) (hN : X.N.Nodup) (hi : X.N[i]? = some x) (hx : Loc X.env.scope x) (he : PE X e (tD W B f)) (hf : X.fn x = true ∨ X.env.scope.names.lookup x = some .local := by first | exact .inl rfl | exact .inr rfl | assumption) :
    PS X (.AugAssign (.Name x pos') op e pos) (tS W B Z (sAug i g f)) := (ps_aug hN hi hx he ho hf).le fun Dn σ H q => by
  obtain ⟨en, om, G, F, o, en', om', S, hf, k⟩ := q
  unfold sAug at hf
  split at hf
  · rename_i a ha
    obtain ⟨⟨d, en1, om1⟩, h1, hf⟩ := bind_some hf
    dsimp only at hf
    split at hf
    · rename_i b
      split at hf
      · rename_i hl
        cases hf
        obtain ⟨w, P, R, T, _, e2, r⟩ := S.get ha
        cases r
        refine ⟨_, e2, tD.hold S h1 fun v H' G' F' R n S' x => ?_⟩
        obtain ⟨r, _, _⟩ := x
        cases r
        refine ⟨a, b, rfl, rfl, ?_⟩
        obtain ⟨F2, S2, _, kn⟩ := S'.take (.sh (Rel.int (g a b))) hl
        exact k _ _ _ _ (kn n) S2
      · cases hf
    · cases hf
  · cases hf

/-! ### a, b = e1, e2 -/
def sPar (i j : Nat) (fa : DA Om) : SD Om := fun en om => (fa en om).bind fun p => match p.1 with
  | [a, b] => if i < p.2.1.length ∧ j < p.2.1.length then some (.nx, (p.2.1.set i (some a)).set j (some b), p.2.2) else none
  | _ => none
theorem Hass.two {vs : List V} {a b : D} (x : Hass W B G F H R vs [a, b]) : ∃ u v R1 R2, vs = [u, v] ∧ R = R1 ++ R2 ∧ Has W B G F H R1 u a ∧ Has W B G F H R2 v b := by
  obtain ⟨rel, nd, own⟩ := x
  cases rel with
  | cons r t =>
    cases t with
    | cons r2 t =>
      cases t
      rw [List.append_nil] at nd own
      rw [List.nodup_append] at nd
      exact ⟨_, _, _, _, rfl, by rw [List.append_nil], ⟨r, nd.1, fun a ha => own a (List.mem_append_left _ ha)⟩, ⟨r2, nd.2.1, fun a ha => own a (List.mem_append_right _ ha)⟩⟩
theorem par_use {i j : Nat} {fa : DA Om} (q : tS W B Z (sPar i j fa) Dn σ H) : tPar i j (tDA W B fa) Dn σ H := by
  obtain ⟨en, om, G, F, o, en', om', S, hf, k⟩ := q
  obtain ⟨⟨ds, en1, om1⟩, h1, hf⟩ := bind_some hf
  dsimp only at hf
  split at hf
  · rename_i a b
    split at hf
    · rename_i hl
      cases hf
      refine tDA.hold S h1 fun vs H' G' F' R n S' x => ?_
      have nd := x.nd
      obtain ⟨u, v, R1, R2, rfl, rfl, x1, x2⟩ := x.two
      rw [List.nodup_append] at nd
      obtain ⟨F2, S2, m2, kn2⟩ := S'.take x1 hl.1
      have x2' : Has W B G' F2 H' R2 v b := ⟨x2.rel, x2.nd, fun c hc => ⟨(x2.own c hc).1, fun z => (m2 c z).elim (x2.own c hc).2.1 fun z => nd.2.2 c z c hc rfl, (x2.own c hc).2.2⟩⟩
      obtain ⟨F3, S3, m3, kn3⟩ := S2.take x2' (by rw [List.length_set]; exact hl.2)
      refine ⟨u, v, rfl, k _ _ _ _ (kn3 ⟨n.sub, fun c h ht g f w => ?_⟩) S3⟩
      obtain ⟨e1, e2, e3, e4⟩ := n.frm c h ht g f w
      exact ⟨e1, e2, fun z => (m2 c z).elim e3 fun z => e4 (List.mem_append_left _ z), fun z => e4 (List.mem_append_right _ z)⟩
    · cases hf
  · cases hf
theorem ds_par {i j : Nat} {x y : Str} {a b : Expr} {fa : DA Om} {px py pt : Pos} {kt k2 pt2} {pos : Pos} (hc : X.calm = true) (hN : X.N.Nodup) (hi : X.N[i]? = some x) (hj : X.N[j]? = some y) (hij : i ≠ j)
    (hx : X.env.scope.names.lookup x = some .local) (hy : X.env.scope.names.lookup y = some .local) (ha : PA X [a, b] (tDA W B fa))
    (hw : swappedStores [.Tuple [.Name x px, .Name y py] kt pt] (.Tuple [a, b] k2 pt2) X.env = pure (some [x, y]) := by rfl)
    (hs : swapsWithSole [.Tuple [.Name x px, .Name y py] kt pt] (.Tuple [a, b] k2 pt2) pos.line X.env = pure false := by rfl) :
    PS X (.Assign [.Tuple [.Name x px, .Name y py] kt pt] (.Tuple [a, b] k2 pt2) pos) (tS W B Z (sPar i j fa)) := (ps_par hc hN hi hj hij hx hy ha hw hs).le fun _ _ _ q => par_use q

/-! ### *xs in a display -/
def aStar (f : DE Om) (g : DA Om) : DA Om := fun en om => (iSeq f en om).bind fun p => (g p.2.1 p.2.2).map fun q => (p.1 ++ q.1, q.2.1, q.2.2)
theorem da_star {e : Expr} {es : List Expr} {p : Pos} {f : DE Om} {g : DA Om} (he : PE X e (tD W B f)) (hr : PA X es (tDA W B g)) (hs : starEach (.Starred e p :: es) X.env = (true, eval e X.env) :: starEach es X.env := by rfl) : PA X (.Starred e p :: es) (tDA W B (aStar f g)) := (StX.pa_star he hr hs).le fun σ H Q q => by
  obtain ⟨en, om, G, F, ds, en', om', S, hf, k⟩ := q
  obtain ⟨⟨xs, en1, om1⟩, h1, hf⟩ := bind_some hf
  obtain ⟨⟨ys, en2, om2⟩, h2, hf⟩ := Option.map_eq_some_iff.mp hf
  cases hf
  obtain ⟨⟨d, en3, om3⟩, h3, h1⟩ := bind_some h1
  have fin : ∀ {v : V} {H1 G1 : Hp} {F1 : List Addr} {vs : List V}, Nx W G F H G1 F1 H1 [] → Rst W B en1 om1 G1 F1 σ H1 → Rels B G1 H1 [] vs xs → tDA W B g σ H1 fun ys H2 => Q (vs ++ ys) H2 := fun {v H1 G1 F1 vs} n1 S1 rs =>
    tDA.hold S1 h2 fun ws H2 G2 F2 R2 n2 S2 x2 => k _ H2 G2 F2 R2 (n1.trans n2) S2 ⟨by have := (rels_keep rs n2).append x2.rel; rwa [List.nil_append] at this, x2.nd, x2.own⟩
  refine tD.use S h3 fun v H1 G1 F1 n1 S1 r1 => ?_
  dsimp only at h1
  split at h1
  · rename_i g0 l hl
    cases h1
    rw [hl] at r1
    obtain ⟨a, vs, rfl, g1, rs⟩ := r1.asL
    exact ⟨a, vs, rfl, .inr (.of (S1.sub _ _ g1)), fin (v := .non) n1 S1 rs⟩
  · rename_i l hl
    cases h1
    rw [hl] at r1
    obtain ⟨a, vs, rfl, g1, rs⟩ := r1.asT
    exact ⟨a, vs, rfl, .inl (.of (S1.sub _ _ g1)), fin (v := .non) n1 S1 rs⟩
  · cases h1

/-! ### a name whose thing is handed out with its own things -/
def dM (i : Nat) : DE Om := fun en om => match en[i]? with
  | some (some d) => some (d, en.set i none, om)
  | _ => none
theorem dvM (i : Nat) {x : Str} {pos : Pos} (hN : X.N[i]? = some x := by rfl) (hv : Vis X.env.scope x := by first | exact Or.inl rfl | exact Or.inr (Or.inl rfl) | exact Or.inr (Or.inr rfl)) (hd : (x == ("__debug__" : Str)) = false := by decide)
    (hcd : (x == ("__classdict__" : Str)) = false := by decide) : PE X (.Name x pos) (tD W B (dM i)) := (pe_var hN hv hd hcd).le fun σ H Q q => by
  obtain ⟨en, om, G, F, d', en', om', S, hf, k⟩ := q
  unfold dM at hf
  split at hf
  · rename_i d0 h0
    cases hf
    obtain ⟨P, R, T, e, kg, _, kn⟩ := S.env.at (i := i) (List.getElem?_eq_some_iff.mp h0).1
    obtain ⟨v, hv, r⟩ := kg _ h0
    subst e
    have env := kn (H' := H) (x := some v) (.refl _ _) (fun _ _ => rfl) (fun _ _ => rfl)
    rw [set_id hv] at env
    have hnd := S.nd
    simp only [List.nodup_append] at hnd
    obtain ⟨ndP, ⟨ndR, ndT, dRT⟩, dP⟩ := hnd
    have mem : ∀ a ∈ P ++ T, a ∈ P ++ (R ++ T) := fun a ha => by
      simp only [List.mem_append] at ha ⊢
      exact ha.imp id .inr
    have memR : ∀ a ∈ R, a ∈ P ++ (R ++ T) := fun a ha => List.mem_append_right _ (List.mem_append_left _ ha)
    refine ⟨v, hv, k v H G (P ++ T) R ⟨Same.refl _, fun a h ht g f w => ⟨rfl, g, fun z => f (mem a z), fun z => f (memR a z)⟩⟩ (S.less env mem fun _ => ?_) ⟨r, ndR, fun a ha => ⟨S.FG a (memR a ha), fun z => ?_, S.FW a (memR a ha)⟩⟩⟩
    · rw [List.nodup_append]
      exact ⟨ndP, ndT, fun a ha b hb => dP a ha b (List.mem_append_right _ hb)⟩
    · rcases List.mem_append.mp z with z | z
      · exact dP a z a (List.mem_append_left _ ha) rfl
      · exact dRT a ha a z rfl
  · cases hf
end
end DL

/-! DSw: the rules in short, as a text's terms use them; defs by name. -/
namespace DL
open PySem PySem.Spec PyProof.Rows L2
section
variable {Om : Type} {W : Wld Om} {B : AS} {Z : XK} {X : Cx}
/-- name = e, on its own -/
theorem dset (i : Nat) {x : Str} {e : Expr} {pos pos' : Pos} {f : DE Om} (hN : X.N.Nodup) (he : PE X e (tD W B f)) (hi : X.N[i]? = some x := by rfl) (hx : Loc X.env.scope x := by first | exact .inl rfl | exact .inr rfl) (hs : swapsWith e (some (.Name x pos')) pos.line X.env = pure false := by rfl) (hf : X.fn x = true ∨ X.env.scope.names.lookup x = some .local := by first | exact .inl rfl | exact .inr rfl | assumption) :
    PS X (.Assign [.Name x pos'] e pos) (tS W B Z (sAsg f (gN i))) := ds_set hN hi hx he hs hf
theorem gname (i : Nat) {x : Str} {pos : Pos} (hN : X.N.Nodup) (hi : X.N[i]? = some x := by rfl) (hx : Loc X.env.scope x := by first | exact .inl rfl | exact .inr rfl) (hf : X.fn x = true ∨ X.env.scope.names.lookup x = some .local := by first | exact .inl rfl | exact .inr rfl | assumption) : PG X (.Name x pos) (tG W B [i] (gN i)) := dg_name hN hi hx hf
/-- a def of the text, whatever its address: worth M -/
structure Def (P : Program) (w : World) (K : PySem.W.Frag) (mg : Str → Option Value) (base : Heap) (W : Wld Om) (x : Str) (k : Nat) (ps : List Str) (M : DF Om) : Prop where
  ex : ∃ f fd, FnOk P w K mg base CX0 k f fd ps (spF W M ps) ∧ mg x = some (.ref f) ∧ PySem.W.keepIn K (.ref f) = true ∧ Binds K fd ps []
  len : ∀ ts om r, M ts om = some r → ts.length = ps.length
theorem dcall {M : DF Om} {j k : Nat} {ps : List Str} {x : Str} {p pos : Pos} {e : Expr} {es : List Expr} {fa : DA Om} (Df : Def X.prog X.w X.K X.mg X.base W x k ps M) (hr : Room j X.A) (ha : PA X (e :: es) (tDA W B fa)) (hk : k ≤ j := by decide) (hg : Gl X x := by rfl) (hdb : (x == ("__debug__" : Str)) = false := by decide)
    (he : starEach (e :: es) X.env = (false, eval e X.env) :: starEach es X.env := by rfl) (hpl : (backTo pos (starEach es X.env)).any (·.1) = false := by rfl) :
    PE X (.Call (.Name x p) (e :: es) [] pos) (tD W B (dCall M fa)) := by
  obtain ⟨f, fd, Fo, hm, hkp, hb⟩ := Df.ex
  exact de_call Fo Df.len (hr.mono hk) hm hkp hb ha hg hdb he hpl

/-- a def's worth by its body: k parameters, n names -/
def mkM (k n : Nat) (b : SD Om) : DF Om := fun ts om => if ts.length = k then bodyR b n ts om else none
theorem mkM_len {k n : Nat} {b : SD Om} {ts : List D} {om : Om} {r : D × Om} (h : mkM k n b ts om = some r) : ts.length = k := by
  unfold mkM at h
  split at h
  · assumption
  · cases h
theorem def_of {P : Program} {w : World} {K : PySem.W.Frag} {mg : Str → Option Value} {base : Heap} {x qual : Str} {st : Stmt} {f : Addr} {fd : FuncData} {N ps : List Str} {k n m : Nat} {b : SD Om} (Fn : Fun K x qual st f fd) (hm : mg x = some (.ref f)) (hb : Binds K fd ps []) (Sc : FnScope N ps (defScope st)) (hn : n = N.length ∧ m = ps.length)
    (h : ∀ (cdv : Value) (A : Around) (outer : List Env) (s : Shared) (H : Hp) (E : XK) (Bo : AS), Room k (A.deeper (envOfC qual (defScope st) s.heap.objs.size f cdv)) → PSs (cxOf CX0 P w K mg base N qual (defScope st) f cdv A outer s H E).nox (defBody st) (tS W Bo E b)) :
    Def P w K mg base W x (k + 1) ps (mkM m n b) := by
  obtain ⟨rfl, rfl⟩ := hn
  refine ⟨⟨f, fd, fn_data Fn Sc (mkM ps.length N.length b) (fun cdv A outer s H E Bo hr => ⟨b, h cdv A outer s H E Bo hr, fun ts om t om' hl q => ?_⟩), hm, Fn.kp, hb⟩, fun ts om r q => mkM_len q⟩
  unfold mkM at q
  rw [if_pos hl] at q
  exact q
def dNeg (f : DE Om) : DE Om := fun en om => (f en om).bind fun p => match p.1 with
  | .int i => some (.int (-i), p.2.1, p.2.2)
  | _ => none
theorem de_neg {a : Expr} {pos : Pos} {f : DE Om} (ha : PE X a (tD W B f)) : PE X (.UnaryOp .USub a pos) (tD W B (dNeg f)) := (pe_un un_neg ha).le fun σ H Q q => by
  obtain ⟨en, om, G, F, c, en', om', S, hf, k⟩ := q
  obtain ⟨⟨d, en1, om1⟩, h1, hf⟩ := bind_some hf
  dsimp only at hf
  split at hf
  · cases hf
    refine tD.hold S h1 fun v H' G' F' R n S' x => ?_
    obtain ⟨r, _, _⟩ := x
    cases r
    exact ⟨_, rfl, k _ H' G' F' [] n S' (.sh (.int _))⟩
  · cases hf
def sRetN : SD Om := fun en om => some (.rt .non, en, om)
theorem ds_retN {pos : Pos} : PS X (.Return none pos) (tS W B Z sRetN) := ps_retN.le fun Dn σ H q => by
  obtain ⟨en, om, G, F, o, en', om', S, hf, k⟩ := q
  cases hf
  exact k σ .non H G F [] .refl S (.sh .non)
theorem daug (i : Nat) {x : Str} {e : Expr} {op : Operator} {g : Int → Int → Int} {pos pos' : Pos} {f : DE Om} (ho : PIp X op (ipI g)) (hN : X.N.Nodup) (he : PE X e (tD W B f)) (hi : X.N[i]? = some x := by rfl) (hx : Loc X.env.scope x := by first | exact .inl rfl | exact .inr rfl) (hf : X.fn x = true ∨ X.env.scope.names.lookup x = some .local := by first | exact .inl rfl | exact .inr rfl | assumption) :
    PS X (.AugAssign (.Name x pos') op e pos) (tS W B Z (sAug i g f)) := ds_aug ho hN hi hx he hf
theorem de_glob {x : Str} {i : Int} {pos : Pos} (hm : ∃ t, X.mg x = some (.int i t)) (hg : Gl X x := by rfl) (hd : (x == ("__debug__" : Str)) = false := by decide) : PE X (.Name x pos) (tD W B (dC (.int i))) := by
  obtain ⟨t, h⟩ := hm
  exact de_globI h hg hd
end
end DL

/-! DSx: nested own lists, x[i] op= e, dict displays, reversed slices, sorted, lists of ranges. -/
namespace DL
open PySem PySem.Spec PyProof.Rows L2
section
variable {Om : Type} {W : Wld Om} {B : AS} {Z : XK} {X : Cx} {en en' en1 : Ev} {om om' om1 : Om} {G G1 H H1 : Hp} {F F1 R : List Addr} {σ σ1 : L2.St} {v w x y : V} {d : D} {Q : VK} {Dn : Ends}
/-! ### an index that changes nothing: a name that holds a whole number, or a written number -/
inductive At where
  | v (j : Nat) | c (i : Int)
def tAt : At → TE
  | .v j => tVar j
  | .c i => tC (.int i)
def atE (en : Ev) : At → Option Int
  | .v j => match en[j]? with
    | some (some (.int i)) => some i
    | _ => none
  | .c i => some i
theorem at_v (j : Nat) {x : Str} {pos : Pos} (hN : X.N[j]? = some x := by rfl) (hv : Vis X.env.scope x := by first | exact Or.inl rfl | exact Or.inr (Or.inl rfl) | exact Or.inr (Or.inr rfl)) (hd : (x == ("__debug__" : Str)) = false := by decide)
    (hcd : (x == ("__classdict__" : Str)) = false := by decide) : PE X (.Name x pos) (tAt (.v j)) := pe_var hN hv hd hcd
theorem at_c {i : Int} {j pos} : PE X (.Constant (.int i) j pos) (tAt (.c i)) := pe_int
theorem tAt.use {a : At} {i : Int} (S : Rst W B en om G F σ H) (h : atE en a = some i) (k : Q (.int i) H) : tAt a σ H Q := by
  cases a with
  | v j =>
    unfold atE at h
    dsimp only at h
    split at h
    · rename_i i' hj
      cases h
      obtain ⟨v, P, R, T, _, e, r⟩ := S.get hj
      cases r
      exact ⟨_, e, k⟩
    · cases h
  | c i' =>
    cases h
    exact k

/-! ### x[a][b], the lists x's own -/
def ownAt (d : D) (i : Int) : Option D := match d with
  | .lst _ l => atI l i
  | .tup l => atI l i
  | _ => none
def dIxN2 (i : Nat) (a b : At) : DE Om := fun en om => match en[i]? with
  | some (some d) => (atE en a).bind fun ia => (ownAt d ia).bind fun d2 => (atE en b).bind fun ib => (oIx d2 (.int ib)).bind fun c => if noO c = true then some (c, en, om) else none
  | _ => none
/-- an item as it stands, own things and all -/
theorem ownAt_use {K : PySem.W.Frag} {a c : D} {R : List Addr} {i : Int} (S : Rst W B en om G F σ H) (ra : Rel B G H R x a) (h : ownAt a i = some c) (k : ∀ w T, Rel B G H T w c → Q w H) : rIxA K x (.int i) H Q := by
  have atI' : ∀ {vs : List V} {ds : List D} {R : List Addr}, Rels B G H R vs ds → L2.atI ds i = some c → ∃ v T, L2.atI vs i = some v ∧ Rel B G H T v c := fun {vs ds R} r h => by
    unfold L2.atI at h ⊢
    obtain ⟨j, h1, h2⟩ := bind_some h
    rw [r.length, h1]
    obtain ⟨v, P, R', S, e, e2, r2, _⟩ := r.split h2
    exact ⟨v, R', e2, r2⟩
  unfold ownAt at h
  split at h
  · cases ra with
    | lstf e n r =>
      obtain ⟨w, T, e2, rw'⟩ := atI' r h
      exact .inl ⟨_, _, i, w, rfl, rfl, .of (S.sub _ _ e), e2, k w T rw'⟩
    | lstb e r =>
      obtain ⟨w, T, e2, rw'⟩ := atI' r h
      exact .inl ⟨_, _, i, w, rfl, rfl, .of (S.sub _ _ e), e2, k w T rw'⟩
    | lsto e r =>
      obtain ⟨w, T, e2, rw'⟩ := atI' r h
      exact .inl ⟨_, _, i, w, rfl, rfl, .of e, e2, k w T rw'⟩
  · cases ra with
    | tup e r =>
      obtain ⟨w, T, e2, rw'⟩ := atI' r h
      exact .inr (.inl ⟨_, _, i, w, rfl, rfl, .of (S.sub _ _ e), e2, k w T rw'⟩)
  · cases h
theorem de_ixN2 (i : Nat) {a b : At} {x : Str} {e1 e2 : Expr} {p pos pos1 : Pos} (hu : X.A.units + 1 < cLine) (ha : PE X e1 (tAt a)) (hb : PE X e2 (tAt b)) (hN : X.N[i]? = some x := by rfl) (hv : Vis X.env.scope x := by first | exact Or.inl rfl | exact Or.inr (Or.inl rfl) | exact Or.inr (Or.inr rfl))
    (hs1 : PlainIx e1 := by exact fun _ _ => rfl) (hs2 : PlainIx e2 := by exact fun _ _ => rfl) (hd : (x == ("__debug__" : Str)) = false := by decide) (hcd : (x == ("__classdict__" : Str)) = false := by decide) : PE X (.Subscript (.Subscript (.Name x p) e1 pos1) e2 pos) (tD W B (dIxN2 i a b)) :=
  (pe_ix (ix_all hu) (pe_ix (ix_all hu) (pe_var hN hv hd hcd) ha hs1) hb hs2).le fun σ H Q q => by
  obtain ⟨en, om, G, F, c, en', om', S, hf, k⟩ := q
  unfold dIxN2 at hf
  split at hf
  · rename_i d hd
    obtain ⟨ia, h1, hf⟩ := bind_some hf
    obtain ⟨d2, h2, hf⟩ := bind_some hf
    obtain ⟨ib, h3, hf⟩ := bind_some hf
    obtain ⟨c', h4, hf⟩ := bind_some hf
    split at hf
    · rename_i ho
      cases hf
      obtain ⟨v, P, R, T, _, e, r⟩ := S.get hd
      refine ⟨v, e, tAt.use S h1 (ownAt_use S r h2 fun w T2 r2 => tAt.use S h3 ?_)⟩
      exact ix_peek S r2 (.int ib) h4 ho fun u ru => k u H G F [] .refl S (.sh ru)
    · cases hf
  · cases hf
/-- x[a][b] = e, x's own list of own lists -/
def sSetIx2 (i : Nat) (f : DE Om) (a b : At) : SD Om := fun en om => (f en om).bind fun p => match p.2.1[i]? with
  | some (some (.lst .o l)) => (atE p.2.1 a).bind fun ia => (ixN l.length ia).bind fun ja => match l.getD ja .non with
    | .lst .o l2 => (atE p.2.1 b).bind fun ib => (ixN l2.length ib).bind fun jb => if noOs l2 = true ∧ noO p.1 = true then some (.nx, p.2.1.set i (some (.lst .o (l.set ja (.lst .o (l2.set jb p.1))))), p.2.2) else none
    | _ => none
  | _ => none
theorem Rels.noo_set {vs : List V} {l : List D} {v : V} {d : D} {j : Nat} (r : Rels B G H [] vs l) (rd : Rel B G H [] v d) (hj : j < l.length) : Rels B G H [] (vs.set j v) (l.set j d) := by
  obtain ⟨u, P, R, S, e, eu, ru, k⟩ := r.split (i := j) (d := l[j]) (List.getElem?_eq_getElem hj)
  have : P = [] ∧ R = [] ∧ S = [] := by
    have e' := e.symm
    simp only [List.append_eq_nil_iff] at e'
    exact ⟨e'.1, e'.2.1, e'.2.2⟩
  obtain ⟨rfl, rfl, rfl⟩ := this
  exact k (.refl _ _) (fun _ _ => rfl) (fun _ _ => rfl) rd
theorem setIx2_use {i : Nat} {f : DE Om} {a b : At} {K : PySem.W.Frag} (q : tS W B Z (sSetIx2 i f a b) Dn σ H) : tAsg (tD W B f) (gSub (tOp (rIxA K) (tVar i) (tAt a)) (tAt b) rSetL) Dn σ H := by
  obtain ⟨en, om, G, F, o, en', om', S, hf, k⟩ := q
  obtain ⟨⟨d, en1, om1⟩, h1, hf⟩ := bind_some hf
  dsimp only at hf
  split at hf
  · rename_i l hl
    obtain ⟨ia, h2, hf⟩ := bind_some hf
    obtain ⟨ja, h3, hf⟩ := bind_some hf
    split at hf
    · rename_i l2 hl2
      obtain ⟨ib, h4, hf⟩ := bind_some hf
      obtain ⟨jb, h5, hf⟩ := bind_some hf
      split at hf
      · rename_i ho
        cases hf
        refine tD.hold S h1 fun v H1 G1 F1 R1 n1 S1 x1 => ?_
        have eR := x1.rel.noo ho.2
        subst eR
        obtain ⟨w, T, hw, rw', nd, kw⟩ := S1.wr x1 hl
        obtain ⟨p, vs, T', rfl, rfl, e, rs⟩ := rw'.ownL
        have hja := ixN_lt h3
        have hg : l[ja]? = some (.lst .o l2) := by
          rw [List.getElem?_eq_getElem hja]
          rw [List.getD_eq_getElem?_getD, List.getElem?_eq_getElem hja] at hl2
          exact congrArg some hl2
        obtain ⟨u, P, R', U, eT, eu, ru, ks⟩ := rs.split hg
        obtain ⟨p2, vs2, T2, rfl, rfl, e2, rs2⟩ := ru.ownL
        have eT2 := rs2.noo ho.1
        subst eT2
        refine ⟨_, hw, tAt.use S1 h2 (.inl ⟨p, vs, ia, .ref p2, rfl, rfl, .of e, ?_, tAt.use S1 h4 ⟨p2, vs2, ib, jb, rfl, rfl, e2, by rw [rs2.length]; exact h5, ?_⟩⟩)⟩
        · unfold L2.atI
          rw [rs.length, h3]
          exact eu
        · subst eT
          rw [List.append_nil, List.nodup_cons] at nd
          have nd' := nd.2
          have np : p2 ≠ p := fun z => nd.1 (by rw [← z]; simp)
          rw [List.nodup_append] at nd'
          obtain ⟨ndP, ndR, dPR⟩ := nd'
          have nP : ∀ c ∈ P, c ≠ p2 := fun c hc z => dPR c hc p2 (by simp) z
          have nU : ∀ c ∈ U, c ≠ p2 := fun c hc z => by
            rw [List.nodup_append] at ndR
            exact ndR.2.2 p2 (by simp) c hc z.symm
          have rn : Rel B G1 (upd H1 p2 (.lst (vs2.set jb v))) [p2] (.ref p2) (.lst .o (l2.set jb d)) := .lsto upd_same ((rs2.noo_set x1.rel (ixN_lt h5)).mono (.refl _ _) fun c hc => by simp at hc)
          have rs3 := ks (H' := upd H1 p2 (.lst (vs2.set jb v))) (.refl _ _) (fun c hc => upd_ne (nP c hc)) (fun c hc => upd_ne (nU c hc)) rn
          rw [set_id eu] at rs3
          obtain ⟨F2, S2, kn⟩ := kw (p := p2) (o := .lst (vs2.set jb v)) (T2 := p :: (P ++ ([p2] ++ U))) (by simp) (fun c hc => .inl hc) (List.nodup_cons.mpr ⟨nd.1, nd.2⟩) (.lsto (by rw [upd_ne (Ne.symm np)]; exact e) rs3)
          exact k σ _ G1 F2 (kn n1) S2
      · cases hf
    · cases hf
  · cases hf
theorem ds_setIx2 (i : Nat) {a b : At} {x : Str} {e e1 e2 : Expr} {p spos pos pos1 : Pos} {f : DE Om} (hu : X.A.units + 1 < cLine) (he : PE X e (tD W B f)) (ha : PE X e1 (tAt a)) (hb : PE X e2 (tAt b)) (hN : X.N[i]? = some x := by rfl) (hv : Vis X.env.scope x := by first | exact Or.inl rfl | exact Or.inr (Or.inl rfl) | exact Or.inr (Or.inr rfl)) (hs1 : PlainIx e1 := by exact fun _ _ => rfl) (hd : (x == ("__debug__" : Str)) = false := by decide)
    (hcd : (x == ("__classdict__" : Str)) = false := by decide) (has : ∀ v, assign (.Subscript (.Subscript (.Name x p) e1 pos1) e2 spos) X.env v = (do
      let ov ← holding [v] (eval (.Subscript (.Name x p) e1 pos1) X.env)
      let iv ← holding [v, ov] (eval e2 X.env)
      standAt spos
      holding [v, ov, iv] (setItem ov iv v)
      release [v, ov, iv] []) := by intro _; rfl) (hs : swapsWithSole [.Subscript (.Subscript (.Name x p) e1 pos1) e2 spos] e pos.line X.env = pure false := by rfl) (hw : swappedStores [.Subscript (.Subscript (.Name x p) e1 pos1) e2 spos] e X.env = pure none := by rfl)
    (h1 : (assignEach [.Subscript (.Subscript (.Name x p) e1 pos1) e2 spos] X.env).map (·.2) = [assign (.Subscript (.Subscript (.Name x p) e1 pos1) e2 spos) X.env] := by rfl) : PS X (.Assign [.Subscript (.Subscript (.Name x p) e1 pos1) e2 spos] e pos) (tS W B Z (sSetIx2 i f a b)) :=
  (ps_asg he (pg_sub (pe_ix (ix_all hu) (pe_var hN hv hd hcd) ha hs1) hb set_list has) hs hw h1).le fun _ _ _ q => setIx2_use q
/-- x[a][k] = e, x's own list of own dicts -/
def sPut2 (i : Nat) (f : DE Om) (a b : At) : SD Om := fun en om => (f en om).bind fun p => match p.2.1[i]? with
  | some (some (.lst .o l)) => (atE p.2.1 a).bind fun ia => (ixN l.length ia).bind fun ja => match l.getD ja .non with
    | .dic .o ks l2 => (atE p.2.1 b).bind fun k => if noOs l2 = true ∧ noO p.1 = true ∧ ks.length = l2.length ∧ ks.length < 1000 then
        (if ks.contains k = true then some (.nx, p.2.1.set i (some (.lst .o (l.set ja (.dic .o ks (dput ks l2 k p.1))))), p.2.2) else some (.nx, p.2.1.set i (some (.lst .o (l.set ja (.dic .o (ks ++ [k]) (l2 ++ [p.1]))))), p.2.2)) else none
    | _ => none
  | _ => none
theorem put2_use {i : Nat} {f : DE Om} {a b : At} {K : PySem.W.Frag} (q : tS W B Z (sPut2 i f a b) Dn σ H) : sDPut (tOp (rIxA K) (tVar i) (tAt a)) (tAt b) (tD W B f) Dn σ H := by
  obtain ⟨en, om, G, F, o, en', om', S, hf, k⟩ := q
  obtain ⟨⟨d, en1, om1⟩, h1, hf⟩ := bind_some hf
  dsimp only at hf
  split at hf
  · rename_i l hl
    obtain ⟨ia, h2, hf⟩ := bind_some hf
    obtain ⟨ja, h3, hf⟩ := bind_some hf
    split at hf
    · rename_i kss l2 hl2
      obtain ⟨kk, h4, hf⟩ := bind_some hf
      split at hf
      · rename_i ho
        obtain ⟨ho1, ho2, hlen, hz⟩ := ho
        refine tD.hold S h1 fun v H1 G1 F1 R1 n1 S1 x1 => ?_
        have eR := x1.rel.noo ho2
        subst eR
        obtain ⟨w, T, hw, rw', nd, kw⟩ := S1.wr x1 hl
        obtain ⟨p, vs, T', rfl, rfl, e, rs⟩ := rw'.ownL
        have hja := ixN_lt h3
        have hg : l[ja]? = some (.dic .o kss l2) := by
          rw [List.getElem?_eq_getElem hja]
          rw [List.getD_eq_getElem?_getD, List.getElem?_eq_getElem hja] at hl2
          exact congrArg some hl2
        obtain ⟨u, P, R', U, eT, eu, ru, ks⟩ := rs.split hg
        obtain ⟨p2, kvs, T2, rfl, rfl, e2, hko, rs2⟩ := ru.ownD
        have eT2 := rs2.noo ho1
        subst eT2
        have hz' : kvs.length < sizeLine := by
          have := rs2.length
          rw [List.length_map] at this
          rw [this, ← hlen]
          exact small1000 (Nat.le_of_lt hz)
        have hsome := (dlook_val hko rs2 kk).2
        refine ⟨_, hw, tAt.use S1 h2 (.inl ⟨p, vs, ia, .ref p2, rfl, rfl, .of e, ?_, tAt.use S1 h4 ⟨p2, _, rfl, .inl ⟨kvs, Sum.inl kk, e2, rfl, hz', rfl⟩, ?_⟩⟩)⟩
        · unfold L2.atI
          rw [rs.length, h3]
          exact eu
        · subst eT
          rw [List.append_nil, List.nodup_cons] at nd
          have nd' := nd.2
          have np : p2 ≠ p := fun z => nd.1 (by rw [← z]; simp)
          rw [List.nodup_append] at nd'
          obtain ⟨ndP, ndR, dPR⟩ := nd'
          have nP : ∀ c ∈ P, c ≠ p2 := fun c hc z => dPR c hc p2 (by simp) z
          have nU : ∀ c ∈ U, c ≠ p2 := fun c hc z => by
            rw [List.nodup_append] at ndR
            exact ndR.2.2 p2 (by simp) c hc z.symm
          have fin : ∀ {kvs' : List (Key × V)} {ks' : List Int} {l' : List D}, KsOk kvs' ks' → Rels B G1 H1 [] (kvs'.map (·.2)) l' → ∃ F', Rst W B (en1.set i (some (.lst .o (l.set ja (.dic .o ks' l'))))) om1 G1 F' σ (upd H1 p2 (.dK kvs')) ∧ Nx W G F H G1 F' (upd H1 p2 (.dK kvs')) [] := fun {kvs' ks' l'} q2 r2 => by
            have rn : Rel B G1 (upd H1 p2 (.dK kvs')) [p2] (.ref p2) (.dic .o ks' l') := .dico upd_same q2 (r2.mono (.refl _ _) fun c hc => by simp at hc)
            have rs3 := ks (H' := upd H1 p2 (.dK kvs')) (.refl _ _) (fun c hc => upd_ne (nP c hc)) (fun c hc => upd_ne (nU c hc)) rn
            rw [set_id eu] at rs3
            obtain ⟨F2, S2, kn⟩ := kw (p := p2) (o := .dK kvs') (T2 := p :: (P ++ ([p2] ++ U))) (by simp) (fun c hc => .inl hc) (List.nodup_cons.mpr ⟨nd.1, nd.2⟩) (.lsto (by rw [upd_ne (Ne.symm np)]; exact e) rs3)
            exact ⟨F2, S2, kn n1⟩
          cases hc : kss.contains kk with
          | true =>
            simp only [hc, if_true] at hf
            cases hf
            have eq : putK kvs (Sum.inl kk) v = kvs.map fun kv => if kv.1 = Sum.inl kk then (kv.1, v) else kv := by
              unfold putK
              rw [if_pos (by rw [valV_any, hsome, hc])]
            rw [eq]
            obtain ⟨F3, S3, kn⟩ := fin (kvs' := kvs.map fun (kv : Key × V) => if kv.1 = (Sum.inl kk : Key) then (kv.1, v) else kv) (ks' := kss) (l' := dput kss l2 kk d) (by
              unfold KsOk
              rw [List.map_map, ← hko]
              apply List.map_congr_left
              intro p _
              simp only [Function.comp]
              split <;> rfl) (dput_rels hko rs2 x1.rel)
            exact k σ _ G1 F3 kn S3
          | false =>
            simp only [hc, Bool.false_eq_true, if_false] at hf
            cases hf
            have eq : putK kvs (Sum.inl kk) v = kvs ++ [(Sum.inl kk, v)] := putK_new v (by
              rw [hc] at hsome
              cases q : valV kvs (Sum.inl kk) with
              | none => rfl
              | some z => rw [q] at hsome; cases hsome)
            rw [eq]
            obtain ⟨F3, S3, kn⟩ := fin (kvs' := kvs ++ [(Sum.inl kk, v)]) (ks' := kss ++ [kk]) (l' := l2 ++ [d]) (by
              unfold KsOk
              rw [List.map_append, List.map_append, hko]
              rfl) (by
              rw [List.map_append]
              exact rs2.append0 (Rels.cons0 x1.rel .nil))
            exact k σ _ G1 F3 kn S3
      · cases hf
    · cases hf
  · cases hf
theorem ds_put2 (i : Nat) {a b : At} {x : Str} {e e1 e2 : Expr} {p spos pos pos1 : Pos} {f : DE Om} (hu : X.A.units + 1 < cLine) (he : PE X e (tD W B f)) (ha : PE X e1 (tAt a)) (hb : PE X e2 (tAt b)) (hN : X.N[i]? = some x := by rfl) (hv : Vis X.env.scope x := by first | exact Or.inl rfl | exact Or.inr (Or.inl rfl) | exact Or.inr (Or.inr rfl)) (hs1 : PlainIx e1 := by exact fun _ _ => rfl) (hd : (x == ("__debug__" : Str)) = false := by decide)
    (hcd : (x == ("__classdict__" : Str)) = false := by decide) (hs : swapsWith e (some (.Subscript (.Subscript (.Name x p) e1 pos1) e2 spos)) pos.line X.env = pure false := by rfl) : PS X (.Assign [.Subscript (.Subscript (.Name x p) e1 pos1) e2 spos] e pos) (tS W B Z (sPut2 i f a b)) :=
  (ps_dput hu (pe_ix (ix_all hu) (pe_var hN hv hd hcd) ha hs1) hb he hs).le fun _ _ _ q => put2_use q
end
end DL

/-! DSy: x[i] op= e, three names at once, dict displays, lists of ranges, sorted, a list turned round. -/
namespace DL
open PySem PySem.Spec PyProof.Rows L2
section
variable {Om : Type} {W : Wld Om} {B : AS} {Z : XK} {X : Cx} {en en' en1 : Ev} {om om' om1 : Om} {G G1 H H1 : Hp} {F F1 R : List Addr} {σ σ1 : L2.St} {v w x y : V} {d : D} {Q : VK} {Dn : Ends}
/-! ### x[j] op= e -/
/-- an item of a list that stands in the heap -/
theorem get_list : PGet X (rIxL X.K) := by
  intro ps st sl hp o i ov iv Q0 I ro ri h
  obtain ⟨a, xs, k, z, rfl, rfl, hq, he, q⟩ := h
  cases ro
  obtain ⟨tk, rfl⟩ := ri
  obtain ⟨its, rv, pl, _⟩ := I.list hq
  obtain ⟨j, g1, g2, g3, g4, g5⟩ := atI_get he
  obtain ⟨u, eu, ru⟩ := rv.get g2
  have hl := rv.length
  have hn := line63
  have hz : its.length ≤ sizeLine := by omega
  have fin : EP X ps sl Q0 u st := ⟨z, hp, I, ru, q⟩
  by_cases h0 : 0 ≤ k
  · have ej : k.toNat = j := by
      rw [seqIndex_of h0 g5] at g1
      exact Option.some.inj g1
    exact wpAny_getItem_list pl.isList h0 (by omega) (by rw [ej]; simpa using eu) fin
  · have ej : (k + (its.toArray.size : Int)).toNat = j := by
      rw [seqIndex_neg (by omega) g4] at g1
      rw [List.size_toArray, ← hl]
      exact Option.some.inj g1
    exact wpAny_getItem_list_neg pl.isList (by omega) (by rw [List.size_toArray] <;> omega) (by omega) (by rw [ej]; simpa using eu) fin
def sAugIx (i : Nat) (g : Int → Int → Int) (f fj : DE Om) : SD Om := fun en om => if has en i = true then (fj en om).bind fun p => match p.2.1[i]? with
    | some (some (.lst .o l)) => (match frz p.1 with
      | .int k => (ixN l.length k).bind fun j => (match l.getD j .non with
        | .int a => (f p.2.1 p.2.2).bind fun q => (match q.1, q.2.1[i]? with
          | .int b, some (some (.lst .o l2)) => if l2.length = l.length ∧ noO (l2.getD j .non) = true then some (.nx, q.2.1.set i (some (.lst .o (l2.set j (.int (g a b))))), q.2.2) else none
          | _, _ => none)
        | _ => none)
      | _ => none)
    | _ => none
  else none
theorem augIx_use {i : Nat} {g : Int → Int → Int} {f fj : DE Om} {K : PySem.W.Frag} (q : tS W B Z (sAugIx i g f fj) Dn σ H) : tAugS (tVar i) (tD W B fj) (tD W B f) (rIxL K) (ipI g) rSetL Dn σ H := by
  obtain ⟨en, om, G, F, o, en', om', S, hf, k⟩ := q
  unfold sAugIx at hf
  split at hf
  · rename_i h0
    obtain ⟨w0, hw0⟩ := S.has h0
    obtain ⟨⟨b, en1, om1⟩, h1, hf⟩ := bind_some hf
    dsimp only at hf
    split at hf
    · rename_i l hl
      split at hf
      · rename_i kk hk
        obtain ⟨j, hj, hf⟩ := bind_some hf
        split at hf
        · rename_i a ha
          obtain ⟨⟨e, en2, om2⟩, h2, hf⟩ := bind_some hf
          dsimp only at hf
          split at hf
          · rename_i c b' l2 hl2
            split at hf
            · rename_i hc
              cases hf
              refine ⟨w0, hw0, tD.use S h1 fun y H1 G1 F1 n1 S1 r1 => ?_⟩
              rw [hk] at r1
              cases r1
              obtain ⟨p, vs, T, hw1, e1, rs, nd, _⟩ := S1.wrL (x := Has.sh (Rel.non (B := B) (G := G1) (H := H1))) hl
              rw [hw0] at hw1
              cases hw1
              have hjl := ixN_lt hj
              have hg : l[j]? = some (.int a) := by
                rw [List.getElem?_eq_getElem hjl]
                rw [List.getD_eq_getElem?_getD, List.getElem?_eq_getElem hjl] at ha
                exact congrArg some ha
              obtain ⟨u, P, R', U, eT, eu, ru, ks⟩ := rs.split hg
              cases ru
              refine ⟨p, vs, kk, .int a, rfl, rfl, .of e1, ?_, tD.hold S1 h2 fun v H2 G2 F2 R2 n2 S2 x2 => ?_⟩
              · unfold L2.atI
                rw [rs.length, hj]
                exact eu
              · obtain ⟨rel2, _, _⟩ := x2
                cases rel2
                refine ⟨a, _, rfl, rfl, ?_⟩
                obtain ⟨p2, vs2, T2, hw2, e2, rs2, nd2, kw⟩ := S2.wrL (x := Has.sh (Rel.int (B := B) (G := G2) (H := H2) (g a b'))) hl2
                rw [hw0] at hw2
                cases hw2
                have hjl2 : j < l2.length := by rw [hc.1]; exact hjl
                have hg2 : l2[j]? = some (l2.getD j .non) := by
                  rw [List.getD_eq_getElem?_getD, List.getElem?_eq_getElem hjl2]
                  rfl
                obtain ⟨u2, P2, R2', U2, eT2, eu2, ru2, ks2⟩ := rs2.split hg2
                have eR := ru2.noo hc.2
                subst eR
                have rs3 := ks2 (H' := H2) (.refl _ _) (fun _ _ => rfl) (fun _ _ => rfl) (Rel.int (B := B) (G := G2) (H := H2) (g a b'))
                subst eT2
                obtain ⟨F3, S3, kn⟩ := kw (fun c hc => .inl hc) (by rwa [List.append_nil] at nd2) rs3
                refine ⟨p, vs2, kk, j, rfl, rfl, e2, ?_, k σ _ G2 F3 (kn (n1.trans n2)) S3⟩
                rw [rs2.length, hc.1]
                exact hj
            · cases hf
          · cases hf
        · cases hf
      · cases hf
    · cases hf
  · cases hf
theorem ds_augIx (i : Nat) {x : Str} {e b : Expr} {op : Operator} {g : Int → Int → Int} {p spos pos : Pos} {f fj : DE Om} (ho : PIp X op (ipI g)) (he : PE X e (tD W B f)) (hb : PE X b (tD W B fj)) (hN : X.N[i]? = some x := by rfl) (hv : Vis X.env.scope x := by first | exact Or.inl rfl | exact Or.inr (Or.inl rfl) | exact Or.inr (Or.inr rfl)) (hd : (x == ("__debug__" : Str)) = false := by decide)
    (hcd : (x == ("__classdict__" : Str)) = false := by decide) (ha : ∀ ov iv new, augStore b ov iv new = (do holding [new, ov, iv] (setItem ov iv new); release [new, ov, iv] []; pure .next) := by intros; rfl) : PS X (.AugAssign (.Subscript (.Name x p) b spos) op e pos) (tS W B Z (sAugIx i g f fj)) :=
  (ps_augS (pe_var hN hv hd hcd) hb get_list he ho set_list ha).le fun _ _ _ q => augIx_use q

/-! ### {}, {k: v} -/
def dDnew : DE Om := fun en om => some (.dic .o [] [], en, om)
theorem Rst.dnew (S : Rst W B en om G F σ H) {p : Addr} (hp : H p = none) {kvs : List (Key × V)} {ks : List Int} {ds : List D} (hk : KsOk kvs ks) (r : Rels B G H [] (kvs.map (·.2)) ds) : Nx W G F H G F (upd H p (.dK kvs)) [p] ∧ Rst W B en om G F σ (upd H p (.dK kvs)) ∧ Has W B G F (upd H p (.dK kvs)) [p] (.ref p) (.dic .o ks ds) := by
  obtain ⟨S2, kn, kh, gp, fp, wp⟩ := S.new (o := .dK kvs) hp
  exact ⟨kn .refl, S2, ⟨.dico upd_same hk (r.mono (.refl _ _) fun a ha => by simp at ha), by simp, fun a ha => by
    have : a = p := by simpa using ha
    subst this
    exact ⟨gp, fp, wp⟩⟩⟩
theorem de_dnew {pos : Pos} : PE X (.Dict [] [] pos) (tD W B dDnew) := pe_dnewK.le fun σ H Q q => by
  obtain ⟨en, om, G, F, c, en', om', S, hf, k⟩ := q
  cases hf
  intro p hp
  obtain ⟨n, S', hh⟩ := S.dnew hp (kvs := []) (ks := []) rfl .nil
  exact k _ _ _ _ _ n S' hh

/-! ### list(range(..)) -/
def dListR (f : DA Om) : DE Om := fun en om => (f en om).map fun p => (.lst .o p.1, p.2.1, p.2.2)
theorem rgV_rng {a b : Int} : Rels B G H [] (rgV a b) (rng a (b - a).toNat) := by
  unfold rgV rng
  generalize List.range (b - a).toNat = l
  induction l with
  | nil => exact .nil
  | cons i l ih =>
    rw [List.map_cons, List.map_cons]
    exact Rels.cons0 (.int _) ih
theorem aCons1 {f : DE Om} {l : List D} (h : aCons f aNil en om = some (l, en1, om1)) : ∃ d, l = [d] ∧ f en om = some (d, en1, om1) := by
  obtain ⟨⟨d, en2, om2⟩, h1, h⟩ := bind_some h
  obtain ⟨⟨l2, en3, om3⟩, h2, h⟩ := Option.map_eq_some_iff.mp h
  cases h2
  cases h
  exact ⟨d, rfl, h1⟩
theorem de_listR1 {a : Expr} {p p2 pos pos2 : Pos} {f : DE Om} (hc : X.calm = true) (hm : X.mg "list" = none) (hm2 : X.mg "range" = none) (ha : PE X a (tD W B f)) (hg : Gl X "list" := by rfl) (hg2 : Gl X "range" := by rfl) (na : starEach [a] X.env = (false, eval a X.env) :: starEach [] X.env := by rfl)
    (na2 : starEach [.Call (.Name "range" p2) [a] [] pos2] X.env = (false, eval (.Call (.Name "range" p2) [a] [] pos2) X.env) :: starEach [] X.env := by rfl) : PE X (.Call (.Name "list" p) [.Call (.Name "range" p2) [a] [] pos2] [] pos) (tD W B (dListR (iR1 (aCons f aNil)))) :=
  (pe_listRg hc hg hm (prg_1 hg2 hm2 ha na) na2).le fun σ H Q q => by
  obtain ⟨en, om, G, F, c, en', om', S, hf, k⟩ := q
  obtain ⟨⟨l, en1, om1⟩, h1, hf⟩ := Option.map_eq_some_iff.mp hf
  cases hf
  obtain ⟨⟨l2, en2, om2⟩, h2, h1⟩ := bind_some h1
  obtain ⟨d, rfl, h3⟩ := aCons1 h2
  dsimp only at h1
  split at h1
  · rename_i j hj
    split at h1
    · rename_i hs
      cases h1
      cases hj
      obtain ⟨s1, s2⟩ := small_i hs
      refine tD.hold S h3 fun v H' G' F' R n S' x => ?_
      obtain ⟨rel, _, _⟩ := x
      cases rel
      refine ⟨_, rfl, ⟨by omega, by omega, by omega, by omega, by omega⟩, fun p hp => ?_⟩
      obtain ⟨m, S2, hh⟩ := S'.lnew hp (rgV_rng (a := 0) (b := j))
      rw [Int.sub_zero] at hh
      exact k _ _ _ _ _ (n.trans m) S2 hh
    · cases h1
  · cases h1

/-! ### sorted -/
def insI (a : Int) : List Int → List Int
  | [] => [a]
  | b :: l => if a ≤ b then a :: b :: l else b :: insI a l
def sortI : List Int → List Int
  | [] => []
  | a :: l => insI a (sortI l)
theorem insI_perm (a : Int) : ∀ l : List Int, (insI a l).Perm (a :: l)
  | [] => .refl _
  | b :: l => by
    unfold insI
    split
    · exact .refl _
    · exact ((insI_perm a l).cons b).trans (.swap a b l)
theorem sortI_perm : ∀ l : List Int, (sortI l).Perm l
  | [] => .refl _
  | a :: l => (insI_perm a (sortI l)).trans ((sortI_perm l).cons a)
theorem insI_sorted (a : Int) : ∀ l : List Int, l.Pairwise (· ≤ ·) → (insI a l).Pairwise (· ≤ ·)
  | [], _ => by simp [insI]
  | b :: l, h => by
    unfold insI
    rw [List.pairwise_cons] at h
    split
    · rename_i hab
      refine List.pairwise_cons.mpr ⟨fun c hc => ?_, List.pairwise_cons.mpr h⟩
      rcases List.mem_cons.mp hc with e | e
      · omega
      · have := h.1 c e
        omega
    · rename_i hab
      refine List.pairwise_cons.mpr ⟨fun c hc => ?_, insI_sorted a l h.2⟩
      have := (insI_perm a l).mem_iff.mp hc
      rcases List.mem_cons.mp this with e | e
      · omega
      · exact h.1 c e
theorem sortI_sorted : ∀ l : List Int, (sortI l).Pairwise (· ≤ ·)
  | [] => .nil
  | a :: l => insI_sorted a _ (sortI_sorted l)
theorem sorted_uniq : ∀ {l l' : List Int}, l.Pairwise (· ≤ ·) → l'.Pairwise (· ≤ ·) → l.Perm l' → l = l'
  | [], l', _, _, p => p.nil_eq
  | a :: l, [], _, _, p => by
    have := p.length_eq
    simp at this
  | a :: l, b :: l', h, h', p => by
    rw [List.pairwise_cons] at h h'
    have e : a = b := by
      have h1 : a ∈ b :: l' := p.mem_iff.mp List.mem_cons_self
      have h2 : b ∈ a :: l := p.mem_iff.mpr List.mem_cons_self
      rcases List.mem_cons.mp h1 with e | e
      · exact e
      · rcases List.mem_cons.mp h2 with f | f
        · exact f.symm
        · have := h.1 b f
          have := h'.1 a e
          omega
    subst e
    rw [sorted_uniq h.2 h'.2 p.cons_inv]
def cSorted : List D → Option D
  | [.lst _ l] => (intsOf l).map fun ns => .lst .o ((sortI ns).map .int)
  | _ => none
theorem sc_sorted {K : PySem.W.Frag} : SC W B cSorted (rSortedI K) := by
  intro en om G H F σ vs ds c Q S r h k
  unfold cSorted at h
  split at h
  · obtain ⟨ns, h1, rfl⟩ := Option.map_eq_some_iff.mp h
    obtain ⟨p, rfl, g1⟩ := ints_use r h1
    refine ⟨p, ns, rfl, .of (S.sub _ _ g1), fun ns' q pm so hq => ?_⟩
    have e : ns' = sortI ns := sorted_uniq so (sortI_sorted ns) (pm.trans (sortI_perm ns).symm)
    subst e
    obtain ⟨n, S', hh⟩ := S.lnew hq (Rels.of_ints (sortI ns))
    exact k _ _ _ _ n S' hh
  · cases h
theorem de_sorted {e : Expr} {es : List Expr} {p pos : Pos} {fa : DA Om} (hm : X.mg "sorted" = none) (ha : PA X (e :: es) (tDA W B fa)) (hgl : Gl X "sorted" := by rfl) (he : starEach (e :: es) X.env = (false, eval e X.env) :: starEach es X.env := by rfl) (hpl : (backTo pos (starEach es X.env)).any (·.1) = false := by rfl) :
    PE X (.Call (.Name "sorted" p) (e :: es) [] pos) (tD W B (dCB cSorted fa)) := de_callB cr_sortedI sc_sorted hm (by decide +kernel) ha hgl (by decide) (by decide) he hpl
end
end DL

/-! DSz: three names at once, {k: v}, a list turned round. -/
namespace DL
open PySem PySem.Spec PyProof.Rows L2
section
variable {Om : Type} {W : Wld Om} {B : AS} {Z : XK} {X : Cx} {en en' en1 : Ev} {om om' om1 : Om} {G G1 H H1 : Hp} {F F1 R : List Addr} {σ σ1 : L2.St} {v w x y : V} {d : D} {Q : VK} {Dn : Ends}
/-! ### a, b, c = e1, e2, e3 -/
def tPar3 (i j l : Nat) (ta : TA) : TS := fun Dn σ H => ta σ H fun vs H1 => ∃ u v w, vs = [u, v, w] ∧ Dn.nx (((σ.set i (some u)).set j (some v)).set l (some w)) H1
theorem ps_par3 {i j l : Nat} {a b c : Str} {e1 e2 e3 : Expr} {ta : TA} {pa pb pc pt : Pos} {kt k2 pt2} {pos : Pos} (hcalm : X.calm = true) (hN : X.N.Nodup) (hi : X.N[i]? = some a) (hj : X.N[j]? = some b) (hl : X.N[l]? = some c) (hd : i ≠ j ∧ i ≠ l ∧ j ≠ l)
    (ka : X.env.scope.names.lookup a = some .local) (kb : X.env.scope.names.lookup b = some .local) (kc : X.env.scope.names.lookup c = some .local) (ha : PA X [e1, e2, e3] ta)
    (hw : swappedStores [.Tuple [.Name a pa, .Name b pb, .Name c pc] kt pt] (.Tuple [e1, e2, e3] k2 pt2) X.env = pure (some [a, b, c]))
    (hs : swapsWithSole [.Tuple [.Name a pa, .Name b pb, .Name c pc] kt pt] (.Tuple [e1, e2, e3] k2 pt2) pos.line X.env = pure false) :
    PS X (.Assign [.Tuple [.Name a pa, .Name b pb, .Name c pc] kt pt] (.Tuple [e1, e2, e3] k2 pt2) pos) (tPar3 i j l ta) := by
  refine ⟨fun pn st sl hp Dn I hh => ?_⟩
  rw [exec_Assign_arm]
  refine wpAny_bind (wpAny_standAt ?_)
  rw [hs]
  refine wpAny_bind (wpAny_pure ?_)
  rw [if_neg (by decide)]
  refine wpAny_bind (Tuple_ (thn (ha.run _ pn st sl hp _ I hh) fun us s1 hus => ?_))
  obtain ⟨vs, hp1, I1, rv, x1, x2, x3, ev, q⟩ := hus
  subst ev
  cases rv with
  | @cons _ u1 _ _ r1 rv =>
  cases rv with
  | @cons _ u2 _ _ r2 rv =>
  cases rv with
  | @cons _ u3 _ _ r3 rv =>
  cases rv
  refine wpAny_newObj_type ?_ (by show 3 ≤ sizeLine; decide)
  have J := I1.kept (h' := s1.heap.push { cls := .type "tuple", data := .seq [u1, u2, u3].toArray }) (t' := s1.toks) fun b o e => Heap.get?_push_of_some _ e
  rw [hw]
  refine wpAny_bind (wpAny_pure ?_)
  show wpAny (model X.prog X.w) X.A (do
    rule "assign.swapped-stores"
    let items ← unpackItems (.ref s1.heap.objs.size) 3 none
    assignInOrder [fun v => bindName X.env c v, fun v => bindName X.env b v, fun v => bindName X.env a v] items.reverse
    pure Flow.next) _ _ _
  refine wpAny_bind (wpAny_rule (wpAny_bind (unpackItems_tuple (items := #[u1, u2, u3]) (I.ok.hd hcalm) (IsTup.new s1.heap _) fun h2 ext => ?_)))
  have J2 := J.kept (h' := h2) (t' := s1.toks) fun b o e => ext b o (Nat.ne_of_lt (Heap.lt_size e)) e
  show wpAny _ _ (assignInOrder [fun v => bindName X.env c v, fun v => bindName X.env b v, fun v => bindName X.env a v] [u3, u2, u1] >>= fun _ => pure Flow.next) _ _ _
  refine wpAny_bind (assignInOrder_cons (wpAny_bindName (store_ok J2 hN hl (.inl kc) r3 (fun s3 J3 => ?_) (.inr kc))))
  refine assignInOrder_cons (wpAny_bindName (store_ok J3 hN hj (.inl kb) r2 (fun s4 J4 => ?_) (.inr kb)))
  refine assignInOrder_cons (wpAny_bindName (store_ok J4 hN hi (.inl ka) r1 (fun s5 J5 => assignInOrder_nil (wpAny_pure ?_)) (.inr ka)))
  have eq : ((sl.set l (some x3)).set j (some x2)).set i (some x1) = ((sl.set i (some x1)).set j (some x2)).set l (some x3) := by
    rw [List.set_comm (some x3) (some x2) (Ne.symm hd.2.2), List.set_comm (some x3) (some x1) (Ne.symm hd.2.1), List.set_comm (some x2) (some x1) (Ne.symm hd.1)]
  rw [eq] at J5
  exact ⟨_, hp1, J5, q⟩
def sPar3 (i j l : Nat) (fa : DA Om) : SD Om := fun en om => (fa en om).bind fun p => match p.1 with
  | [a, b, c] => if i < p.2.1.length ∧ j < p.2.1.length ∧ l < p.2.1.length then some (.nx, ((p.2.1.set i (some a)).set j (some b)).set l (some c), p.2.2) else none
  | _ => none
theorem Hass.cons {vs : List V} {a : D} {ds : List D} (x : Hass W B G F H R vs (a :: ds)) : ∃ u vs' R1 R2, vs = u :: vs' ∧ R = R1 ++ R2 ∧ Has W B G F H R1 u a ∧ Hass W B G F H R2 vs' ds ∧ ∀ c ∈ R1, c ∉ R2 := by
  obtain ⟨rel, nd, own⟩ := x
  cases rel with
  | cons r t =>
    rw [List.nodup_append] at nd
    exact ⟨_, _, _, _, rfl, rfl, ⟨r, nd.1, fun a ha => own a (List.mem_append_left _ ha)⟩, ⟨t, nd.2.1, fun a ha => own a (List.mem_append_right _ ha)⟩, fun c h1 h2 => nd.2.2 c h1 c h2 rfl⟩
/-- the first of several in hand goes into a slot -/
theorem Rst.takes {G0 H0 : Hp} {F0 : List Addr} {vs : List V} {a : D} {ds : List D} (S : Rst W B en om G F σ H) (n : Nx W G0 F0 H0 G F H R) (x : Hass W B G F H R vs (a :: ds)) {i : Nat} (hi : i < en.length) : ∃ u vs' R2 F', vs = u :: vs' ∧ Rst W B (en.set i (some a)) om G F' (σ.set i (some u)) H ∧ Nx W G0 F0 H0 G F' H R2 ∧ Hass W B G F' H R2 vs' ds := by
  obtain ⟨u, vs', R1, R2, rfl, rfl, x1, x2, dj⟩ := x.cons
  obtain ⟨F2, S2, m2, kn⟩ := S.take x1 hi
  refine ⟨u, vs', R2, F2, rfl, S2, ⟨n.sub, fun c h ht g f w => ?_⟩, ⟨x2.rel, x2.nd, fun c hc => ⟨(x2.own c hc).1, fun z => (m2 c z).elim (x2.own c hc).2.1 fun z => dj c z hc, (x2.own c hc).2.2⟩⟩⟩
  obtain ⟨e1, e2, e3, e4⟩ := n.frm c h ht g f w
  exact ⟨e1, e2, fun z => (m2 c z).elim e3 fun z => e4 (List.mem_append_left _ z), fun z => e4 (List.mem_append_right _ z)⟩
theorem ds_par3 {i j l : Nat} {a b c : Str} {e1 e2 e3 : Expr} {fa : DA Om} {pa pb pc pt : Pos} {kt k2 pt2} {pos : Pos} (hcalm : X.calm = true) (hN : X.N.Nodup) (hi : X.N[i]? = some a) (hj : X.N[j]? = some b) (hl : X.N[l]? = some c) (hd : i ≠ j ∧ i ≠ l ∧ j ≠ l)
    (ka : X.env.scope.names.lookup a = some .local) (kb : X.env.scope.names.lookup b = some .local) (kc : X.env.scope.names.lookup c = some .local) (ha : PA X [e1, e2, e3] (tDA W B fa))
    (hw : swappedStores [.Tuple [.Name a pa, .Name b pb, .Name c pc] kt pt] (.Tuple [e1, e2, e3] k2 pt2) X.env = pure (some [a, b, c]) := by rfl)
    (hs : swapsWithSole [.Tuple [.Name a pa, .Name b pb, .Name c pc] kt pt] (.Tuple [e1, e2, e3] k2 pt2) pos.line X.env = pure false := by rfl) :
    PS X (.Assign [.Tuple [.Name a pa, .Name b pb, .Name c pc] kt pt] (.Tuple [e1, e2, e3] k2 pt2) pos) (tS W B Z (sPar3 i j l fa)) := (ps_par3 hcalm hN hi hj hl hd ka kb kc ha hw hs).le fun Dn σ H q => by
  obtain ⟨en, om, G, F, o, en', om', S, hf, k⟩ := q
  obtain ⟨⟨ds, en1, om1⟩, h1, hf⟩ := bind_some hf
  dsimp only at hf
  split at hf
  · split at hf
    · rename_i hlen
      cases hf
      refine tDA.hold S h1 fun vs H' G' F' R n S' x => ?_
      obtain ⟨u1, vs1, R1, F1, rfl, S1, n1, x1⟩ := S'.takes n x hlen.1
      obtain ⟨u2, vs2, R2, F2, rfl, S2, n2, x2⟩ := S1.takes n1 x1 (by rw [List.length_set]; exact hlen.2.1)
      obtain ⟨u3, vs3, R3, F3, rfl, S3, n3, x3⟩ := S2.takes n2 x2 (by rw [List.length_set, List.length_set]; exact hlen.2.2)
      obtain ⟨r3, _, _⟩ := x3
      cases r3
      exact ⟨u1, u2, u3, rfl, k _ _ _ _ n3 S3⟩
    · cases hf
  · cases hf

/-! ### {k: v} -/
def dDict1 (f g : DE Om) : DE Om := fun en om => (f en om).bind fun p => (g p.2.1 p.2.2).bind fun q => match frz p.1 with
  | .int i => some (.dic .o [i] [frz q.1], q.2.1, q.2.2)
  | _ => none
theorem de_dict1 {kx vx : Expr} {pos : Pos} {f g : DE Om} (hk : PE X kx (tD W B f)) (hv : PE X vx (tD W B g)) : PE X (.Dict [some kx] [vx] pos) (tD W B (dDict1 f g)) :=
  (pe_disp (pps_cons hk hv pps_nil) (by rfl) (by rfl) (fun z => by cases z) (by simp)).le fun σ H Q q => by
  obtain ⟨en, om, G, F, c, en', om', S, hf, k⟩ := q
  obtain ⟨⟨a, en1, om1⟩, h1, hf⟩ := bind_some hf
  obtain ⟨⟨b, en2, om2⟩, h2, hf⟩ := bind_some hf
  dsimp only at hf
  split at hf
  · rename_i i hi
    cases hf
    intro p hp
    -- the dict, empty as yet, is in hand while key and value are made
    obtain ⟨n0, S0, x0⟩ := S.dnew hp (kvs := []) (ks := []) rfl .nil
    refine tD.use S0 h1 fun u H1 G1 F1 n1 S1 r1 => tD.use S1 h2 fun v H2 G2 F2 n2 S2 r2 => ?_
    rw [hi] at r1
    cases r1
    obtain ⟨x1, _⟩ := x0.keep n1
    obtain ⟨x2, _⟩ := x1.keep n2
    obtain ⟨rel, nd, own⟩ := x2
    cases rel with
    | @dico _ kvs _ _ _ e hko rr =>
      have e0 : kvs = [] := by
        have := congrArg List.length hko
        simp at this
        exact this
      subst e0
      have oD := own p List.mem_cons_self
      refine ⟨e, [(Sum.inl i, v)], rfl, by show 1 ≤ 15; decide, ?_⟩
      have nF : ∀ a ∈ F2, a ≠ p := fun a ha z => oD.2.1 (z ▸ ha)
      refine k _ _ G2 F2 [p] ⟨(n0.sub.trans n1.sub).trans n2.sub, fun c h ht g f w => ?_⟩ ⟨fun a o z => by rw [upd_ne fun w => by rw [w, oD.1] at z; cases z]; exact S2.sub a o z, S2.env.mono (.refl _ _) fun a ha => upd_ne (nF a ha), S2.nd, S2.FG, S2.FW, S2.WG, S2.BG, W.put S2.wok oD.2.2 (.inr (.inr ⟨_, e⟩))⟩
        ⟨.dico (kvs := [(Sum.inl i, v)]) upd_same rfl (Rels.cons0 (r2.mono (.refl _ _) fun a ha => by simp at ha) .nil), by simp, fun a ha => by
          have : a = p := by simpa using ha
          subst this
          exact oD⟩
      obtain ⟨e1, e2, e3, e4⟩ := n0.frm c h ht g f w
      obtain ⟨f1, f2, f3, f4⟩ := (n1.trans n2).frm c (by rw [e1]; exact h) (by rw [e1]; exact ht) e2 e3 w
      have ne : c ≠ p := fun z => e4 (by rw [z]; simp)
      exact ⟨by rw [upd_ne ne]; exact f1.trans e1, f2, f3, e4⟩
  · cases hf
end
end DL

/-! DSe: enumerate over a tuple (a list: HandS), zip over lists, by data. -/
namespace PySem
open PyProof.Rows
set_option maxHeartbeats 4000000 in
/-- enumerate(v) begins, whatever v's iterator is -/
theorem DLx.meets_enum {u : Value} {ob : Obj} {Hs : Heap → Prop} (Bg : Begins u ob Hs) :
    Meets (Builtin.«enumerate.__new__» ⟨[.type "enumerate", u], []⟩) (fun _ R st => Hs st.heap ∧
      R (.ok (.ret (.ref (st.heap.push ob).objs.size))) { st with heap := (st.heap.push ob).push { cls := .type "enumerate", data := .fields #[.none, .bool false, .ref st.heap.objs.size, rawInt 0, .none, .none] } }) :=
  .of_wp fun prog w A R st hh => by
    obtain ⟨hp, g, d, tk, os⟩ := st
    obtain ⟨h1, h2⟩ := hh
    have hsub := sub_enumerate
    have it : ∀ {A' : Around} {E : Value → Shared → Prop} {Q : Value → Shared → Prop}, Q (.ref hp.objs.size) ⟨hp.push ob, g, d, tk, os⟩ → wpAny (model prog w) A' (pyIter u) Q E ⟨hp, g, d, tk, os⟩ :=
      fun q => Bg.iter prog w _ _ ⟨hp, g, d, tk, os⟩ _ h1 q
    wp_walk using it
    refine wpAny_stack_any fun _ => wpAny_pure ?_
    split
    · rename_i c _ _ _ _ _
      cases (c == Value.type "enumerate")
      · wp_walk using it
        exact ⟨_, rfl, h2⟩
      · wp_walk using it
        exact ⟨_, rfl, h2⟩
    · wp_walk using it
      exact ⟨_, rfl, h2⟩
section
variable {prog : Program} {w : World} {A : Around} {E : Value → Shared → Prop} {st : Shared}
/-- no more pairs where the tuple has ended -/
theorem DLx.enum_end {e it t : Addr} {i : Nat} {us : Array Value} {k : Int} {old : Value} {Q : Option Value → Shared → Prop} (hn : A.handled = none) (en : IsEnum st.heap e it k old) (at1 : st.heap.IsTupleIter it t i) (at2 : st.heap.IsTuple t us) (ht : A.in1.handled = none) (none_ : us[i]? = none)
    (k2 : ∀ h', Heap.ExtBut it st.heap h' → Q none { st with heap := h' }) : wpAny (model prog w) A (pyNext (.ref e)) Q E st := by
  have ty : st.TypeIs (.ref e) "enumerate" := ⟨_, en, rfl⟩
  unfold pyNext
  refine wpAny_bind (wpAny_attempt (wpAny_callSpecial?_slot (name := Str.ofString "__next__") ty F.slot_enumerate_next (wpAny_call_entry F.slot_enumerate_next ty F.entry_enumerate_next ?_ (F.args_enumerate_next_1 _))))
  show wpAny _ _ (field (.ref e) 2 >>= _) _ _ _
  refine wpAny_bind (wpAny_field en rfl (x := .ref it) rfl (wpAny_bind (wpAny_nextOf_tuple_end ht at1 at2 none_ fun h' x e1 e2 => ?_)))
  obtain ⟨o, o1, o2⟩ := e2
  exact wpAny_bind (wpAny_isInstance (T := "StopIteration") (b := true) ⟨o, o1, o2⟩ isSubtype_stop (wpAny_pure (k2 _ e1)))
theorem DLx.call_enum {u : Value} {ob : Obj} {Hs : Heap → Prop} {Q : Value → Shared → Prop} (Bg : Begins u ob Hs) (h1 : Hs st.heap)
    (hq : ∀ h', IsEnum h' (st.heap.objs.size + 1) st.heap.objs.size 0 .none → h'.get? st.heap.objs.size = some ob → (∀ b o, st.heap.get? b = some o → h'.get? b = some o) → Q (.ref (st.heap.objs.size + 1)) { st with heap := h' }) :
    wpAny (model prog w) A (call (.type "enumerate") [u]) Q E st := by
  refine callType_new F.called_enumerate (by decide) (F.typeCall_enumerate_1 _) (F.newCall_enumerate_1 _) (fun obj => F.args_object_init_2 obj _) F.entry_enumerate_new (DLx.meets_enum Bg) ⟨h1, ?_⟩
  have sz : (st.heap.push ob).objs.size = st.heap.objs.size + 1 := Heap.size_push ..
  show _ ∧ _
  rw [sz]
  have en : IsEnum ((st.heap.push ob).push { cls := .type "enumerate", data := .fields #[.none, .bool false, .ref st.heap.objs.size, rawInt 0, .none, .none] }) (st.heap.objs.size + 1) st.heap.objs.size 0 .none := by
    have q := Heap.get?_push_size (st.heap.push ob) (o := { cls := .type "enumerate", data := .fields #[.none, .bool false, .ref st.heap.objs.size, rawInt 0, .none, .none] }) rfl
    rwa [sz] at q
  exact ⟨⟨_, en, rfl⟩, hq _ en (Heap.get?_push_of_some _ (Heap.get?_push_size _ Bg.free)) fun b o x => Heap.get?_push_of_some _ (Heap.get?_push_of_some _ x)⟩
end
end PySem
namespace DL
open PySem PySem.Spec PyProof.Rows L2
/-- the tuple at a, each item in a new pair -/
def IteT (K : PySem.W.Frag) (a : Addr) : It :=
  ⟨fun i H => ∃ (xs : List V) (x : V), SqT K H a xs ∧ xs[i]? = some x, fun i H v H' => ∃ T x, v = .ref T ∧ H T = none ∧ H' = upd H T (.tup [.int (i : Nat), x]) ∧ ∀ xs, SqT K H a xs → xs[i]? = some x, fun i H => ∃ xs : List V, SqT K H a xs ∧ xs.length ≤ i⟩
theorem turn_enumT {P : Program} {w : World} {K : PySem.W.Frag} {elts : List Expr} {kk : Nat} {tpos : Pos} (a e it : Addr) (hae : a ≠ it) (hae2 : e ≠ a) :
    Turn P w K (.Tuple elts kk tpos) (IteT K a) [e, it] e (fun i h => (∃ old, IsEnum h e it ((i : Nat) : Int) old) ∧ h.IsTupleIter it a i ∧ e ≠ it) where
  mem := by simp
  obj := fun i h tn b hb => by
    obtain ⟨⟨old, q⟩, ⟨ob, ho, hcl, hdt⟩, _⟩ := tn
    have cs : b = e ∨ b = it := by simpa using hb
    cases cs with
    | inl z => exact ⟨_, z ▸ q, fun v y => by cases y⟩
    | inr z => exact ⟨ob, z ▸ ho, fun v y => by rw [hdt] at y; cases y⟩
  keep := fun i h h' tn k => by
    obtain ⟨⟨old, q⟩, hi, ne⟩ := tn
    exact ⟨⟨old, k e (by simp) _ q⟩, hi.at fun o y => k it (by simp) o y, ne⟩
  item := by
    intro X hP hw hK hc i pins st σ H E I hf tn hg
    subst hP hw hK
    obtain ⟨⟨old, he⟩, hit, ne⟩ := tn
    obtain ⟨xs, x, hx1, hx2⟩ := hg
    obtain ⟨us, rv, pt, _⟩ := I.tuple hx1
    obtain ⟨u, hu, ru⟩ := rv.get hx2
    have ptt : st.heap.IsTuple a us.toArray := pt
    have le : e < st.heap.objs.size := Heap.lt_size he
    have li : it < st.heap.objs.size := by
      obtain ⟨_, q, _⟩ := hit
      exact Heap.lt_size q
    have hi : i < us.toArray.size := by
      rw [List.size_toArray]
      exact (List.getElem?_eq_some_iff.mp hu).1
    have hh : X.A.in1.handled = none := I.ok.hd hc
    refine wpAny_pyNext_enum_itemD (Draws.tuple hh it a hae us.toArray) he ⟨hit, ptt⟩ hi ne (by simp [ne, hae2]) fun y h1 tk py eo hst hT _ hk => ?_
    have ey : y = u := by
      have : us.toArray[i]? = some y := py
      rw [List.getElem?_toArray, hu] at this
      exact (Option.some.inj this).symm
    subst ey
    refine ⟨_, rfl, wpAny_letOwnedTupleGo_enum (s := { st with heap := h1, toks := tk + 1 }) eo fun h2 eo2 sb => ?_⟩
    have atT : h2.get? st.heap.objs.size = some { cls := .type "tuple", data := .seq #[.int i tk, y] } := (sb.2 _ (Nat.ne_of_gt le)).trans hT
    have ok : ObjOk X.prog X.w (upd H st.heap.objs.size (.tup [.int (i : Nat), x])) h2 st.heap.objs.size (.tup [.int (i : Nat), x]) :=
      ⟨by show 2 ≤ sizeLine; decide, [.int i tk, y], .cons ⟨_, rfl⟩ (.cons ru .nil), ⟨_, atT, rfl, _, rfl⟩⟩
    have J : Inv X pins σ (upd H st.heap.objs.size (.tup [.int (i : Nat), x])) { st with heap := h2, toks := tk + 1 } :=
      I.turnedNew (ch := [e, it]) (fun b ob hb q => (sb.2 b (fun z => hb (by simp [z]))).trans (hk b ob (fun z => hb (by simp [z])) (fun z => hb (by simp [z])) q)) hf (Nat.le_refl _) ok
    refine ⟨.ref st.heap.objs.size, _, J, rfl, ⟨_, x, rfl, I.hok.fresh (Nat.le_refl _), rfl, fun ys hy => by rw [I.tuple_inj hy hx1]; exact hx2⟩, ⟨⟨y, ?_⟩, hst.1.at fun o q => (sb.2 it (Ne.symm ne)).trans q, ne⟩, fun b hb => ?_⟩
    · have ei : ((i + 1 : Nat) : Int) = (i : Int) + 1 := by omega
      rw [ei]
      exact eo2
    · have lb : b < st.heap.objs.size := by
        have cs : b = e ∨ b = it := by simpa using hb
        cases cs with
        | inl z => exact z ▸ le
        | inr z => exact z ▸ li
      rw [upd_ne (Nat.ne_of_lt lb)]
      exact (hf b hb).1
  done := by
    intro X hP hw hK hc i pins st σ H E I hf tn hg
    subst hP hw hK
    obtain ⟨⟨old, he⟩, hit, ne⟩ := tn
    obtain ⟨xs, hx1, hx2⟩ := hg
    obtain ⟨us, rv, pt, _⟩ := I.tuple hx1
    have ptt : st.heap.IsTuple a us.toArray := pt
    obtain ⟨f0, f1, f2, f3, f4, f5⟩ := hf it (by simp)
    have hl := rv.length
    exact DLx.enum_end (I.ok.hd hc) he hit ptt (I.ok.hd hc) (by simp; omega) fun h' eb => ⟨rfl, I.turned (t' := st.toks) (fun b o hb q => eb b o hb q) f0 f1 f3 f4 f5⟩
  self := fun A i s Q E tn h => by
    obtain ⟨⟨_, q⟩, _⟩ := tn
    exact wpAny_pyIter_enum q h
theorem pi_enumT {X : Cx} {e : Expr} {ta : TA} {p pos tpos : Pos} {elts : List Expr} {kk : Nat} (hg : Gl X "enumerate") (hm : X.mg "enumerate" = none) (ha : PA X [e] ta) (hs : starEach [e] X.env = [(false, eval e X.env)] := by rfl) :
    PI X (.Tuple elts kk tpos) (.Call (.Name "enumerate" p) [e] [] pos) (fun σ H R => ta σ H fun vs H1 => ∃ a xs, vs = [.ref a] ∧ SqT X.K H1 a xs ∧ R (IteT X.K a) H1) := by
  refine ⟨fun pins s σ H R I h => ?_⟩
  refine Call_ (ld_blt I hg hm boot_enumerate (PyProof.Rows.callWith_type1 (thn (ha.run pos pins s σ H _ I h) fun us s1 ⟨vs, H1, I1, r1, a, xs, ex, hq, q⟩ => ?_) hs rfl))
  subst ex
  cases r1 with
  | cons r rr =>
    cases rr
    cases r
    obtain ⟨us, rv, pt, _⟩ := I1.tuple hq
    have ptt : s1.heap.IsTuple a us.toArray := pt
    have la : a < s1.heap.objs.size := by
      obtain ⟨_, y, _⟩ := ptt
      exact Heap.lt_size y
    refine DLx.call_enum (begins_tuple a us.toArray) ptt fun h' en hit kp => wpAny_pyIter_enum en ?_
    have I2 : Inv X pins σ H1 { s1 with heap := h' } := I1.kept (t' := s1.toks) kp
    refine ⟨s1.heap.objs.size + 1, [s1.heap.objs.size + 1, s1.heap.objs.size], _, _, H1, rfl, I2, turn_enumT a (s1.heap.objs.size + 1) s1.heap.objs.size (Nat.ne_of_lt la) (Nat.ne_of_gt (Nat.lt_succ_of_lt la)), ⟨⟨.none, en⟩, ⟨_, hit, rfl, rfl⟩, Nat.succ_ne_self _⟩, fun b hb => ?_, q⟩
    have cs : b = s1.heap.objs.size + 1 ∨ b = s1.heap.objs.size := by simpa using hb
    have le : s1.heap.objs.size ≤ b := by
      rcases cs with z | z
      · rw [z]; exact Nat.le_add_right _ _
      · rw [z]; exact Nat.le_refl _
    exact I1.fpOk le (I1.hok.fresh le)

/-! ### pairs handed out -/
section
variable {Om : Type} {W : Wld Om} {B : AS} {X : Cx} {en en' en1 : Ev} {om om' om1 : Om} {G G1 H H1 : Hp} {F F1 R : List Addr} {σ σ1 : L2.St} {v x y : V} {d : D} {tg : Expr}
/-- (0, x0), (1, x1), .. -/
def pairsI (l : List D) : List D := l.mapIdx fun i d => .tup [.int (i : Nat), d]
def iEn (f : DE Om) : DA Om := fun en om => (f en om).bind fun p => match frz p.1 with
  | .lst _ l => some (pairsI l, p.2.1, p.2.2)
  | .tup l => some (pairsI l, p.2.1, p.2.2)
  | _ => none
theorem pairsI_len (l : List D) : (pairsI l).length = l.length := by simp [pairsI]
theorem pairsI_get {l : List D} {i : Nat} {d : D} (h : (pairsI l)[i]? = some d) : ∃ c, l[i]? = some c ∧ d = .tup [.int (i : Nat), c] := by
  unfold pairsI at h
  rw [List.getElem?_mapIdx] at h
  obtain ⟨c, h1, h2⟩ := Option.map_eq_some_iff.mp h
  exact ⟨c, h1, h2.symm⟩
/-- a new tuple of two -/
theorem Rst.pair {G2 H2 : Hp} {F2 : List Addr} {σ2 : L2.St} {T : Addr} {a b : D} (S : Rst W B en om G2 F2 σ2 H2) (hT : H2 T = none) (ra : Rel B G2 H2 [] x a) (rb : Rel B G2 H2 [] y b) :
    ∃ G3, Nx W G2 F2 H2 G3 F2 (upd H2 T (.tup [x, y])) [] ∧ Rst W B en om G3 F2 σ2 (upd H2 T (.tup [x, y])) ∧ Rel B G3 (upd H2 T (.tup [x, y])) [] (.ref T) (.tup [a, b]) := by
  obtain ⟨S3, n3, _⟩ := S.grow (o := .tup [x, y]) hT
  have n := n3 (Nx.refl (W := W) (G := G2) (F := F2) (H := H2))
  have k : ∀ {v : V} {d : D}, Rel B G2 H2 [] v d → Rel B (upd G2 T (.tup [x, y])) (upd H2 T (.tup [x, y])) [] v d := fun r => r.mono (.of_same n.sub) fun a ha => by simp at ha
  exact ⟨_, n, S3, .tup (by rw [upd_same]) (Rels.cons0 (k ra) (Rels.cons0 (k rb) .nil))⟩
theorem drives_enL {K : PySem.W.Frag} {a : Addr} {vs : List V} {ds : List D} (h : G a = some (.lst vs)) (r : Rels B G H [] vs ds) : Drives W B (Ite K a) G (pairsI ds) := by
  intro en om G2 H2 F2 σ2 sm S i
  have hl : SqL K H2 a vs := .of (S.sub _ _ (sm _ _ h))
  refine ⟨fun hi => ⟨vs, hl, by rw [r.length, ← pairsI_len]; exact hi⟩, fun d hd => ?_⟩
  obtain ⟨c, hc, ec⟩ := pairsI_get hd
  subst ec
  obtain ⟨v, e, rv⟩ := r.get hc
  refine ⟨⟨vs, v, hl, e⟩, fun x H3 y => ?_⟩
  obtain ⟨T, z, rfl, hT, rfl, y⟩ := y
  have := y vs hl
  rw [e] at this
  cases this
  exact S.pair hT (.int _) (rv.mono (.of_same sm) fun a ha => by simp at ha)
theorem drives_enT {K : PySem.W.Frag} {a : Addr} {vs : List V} {ds : List D} (h : G a = some (.tup vs)) (r : Rels B G H [] vs ds) : Drives W B (IteT K a) G (pairsI ds) := by
  intro en om G2 H2 F2 σ2 sm S i
  have hl : SqT K H2 a vs := .of (S.sub _ _ (sm _ _ h))
  refine ⟨fun hi => ⟨vs, hl, by rw [r.length, ← pairsI_len]; exact hi⟩, fun d hd => ?_⟩
  obtain ⟨c, hc, ec⟩ := pairsI_get hd
  subst ec
  obtain ⟨v, e, rv⟩ := r.get hc
  refine ⟨⟨vs, v, hl, e⟩, fun x H3 y => ?_⟩
  obtain ⟨T, z, rfl, hT, rfl, y⟩ := y
  have := y vs hl
  rw [e] at this
  cases this
  exact S.pair hT (.int _) (rv.mono (.of_same sm) fun a ha => by simp at ha)
theorem di_enum {e : Expr} {f : DE Om} {p pos tpos : Pos} {elts : List Expr} {kk : Nat} (h : PE X e (tD W B f)) (hg : Gl X "enumerate" := by rfl) (hm : X.mg "enumerate" = none := by rfl) (hs : starEach [e] X.env = [(false, eval e X.env)] := by rfl) :
    PI X (.Tuple elts kk tpos) (.Call (.Name "enumerate" p) [e] [] pos) (iD W B (iEn f)) := ((pi_enum hg hm (pa_cons h pa_nil hs) hs).or (pi_enumT hg hm (pa_cons h pa_nil hs) hs)).le fun σ H R q => by
  obtain ⟨en, om, G, F, ds, en', om', S, hf, k⟩ := q
  obtain ⟨⟨d, en1, om1⟩, h1, hf⟩ := bind_some hf
  dsimp only at hf
  split at hf
  · rename_i g l hl
    cases hf
    refine .inl (tD.use S h1 fun v H' G' F' n S' r => ?_)
    rw [hl] at r
    obtain ⟨a, vs, rfl, ga, rs⟩ := r.asL
    exact ⟨a, vs, rfl, .of (S'.sub _ _ ga), k _ H' G' F' n S' (drives_enL ga rs)⟩
  · rename_i l hl
    cases hf
    refine .inr (tD.use S h1 fun v H' G' F' n S' r => ?_)
    rw [hl] at r
    obtain ⟨a, vs, rfl, ga, rs⟩ := r.asT
    exact ⟨a, vs, rfl, .of (S'.sub _ _ ga), k _ H' G' F' n S' (drives_enT ga rs)⟩
  · cases hf
/-! ### two lists at once -/
def pairsZ (a b : List D) : List D := (a.zip b).map fun q => .tup [q.1, q.2]
def zipL : List D → Option (List D)
  | [.lst _ a, .lst _ b] => some (pairsZ a b)
  | _ => none
def iZp (fa : DA Om) : DA Om := fun en om => (fa en om).bind fun p => (zipL (frzs p.1)).map fun l => (l, p.2.1, p.2.2)
theorem pairsZ_len (a b : List D) : (pairsZ a b).length = min a.length b.length := by simp [pairsZ]
theorem pairsZ_get {a b : List D} {i : Nat} {d : D} (h : (pairsZ a b)[i]? = some d) : ∃ x y, a[i]? = some x ∧ b[i]? = some y ∧ d = .tup [x, y] := by
  unfold pairsZ at h
  rw [List.getElem?_map] at h
  obtain ⟨⟨x, y⟩, h1, h2⟩ := Option.map_eq_some_iff.mp h
  rw [List.getElem?_zip_eq_some] at h1
  exact ⟨x, y, h1.1, h1.2, h2.symm⟩
theorem drives_zip {K : PySem.W.Frag} {a b : Addr} {vs ws : List V} {ds es : List D} (ha : G a = some (.lst vs)) (hb : G b = some (.lst ws)) (r : Rels B G H [] vs ds) (t : Rels B G H [] ws es) : Drives W B (Itz K a b) G (pairsZ ds es) := by
  intro en om G2 H2 F2 σ2 sm S i
  have hl : SqL K H2 a vs := .of (S.sub _ _ (sm _ _ ha))
  have hm : SqL K H2 b ws := .of (S.sub _ _ (sm _ _ hb))
  refine ⟨fun hi => ⟨vs, ws, hl, hm, ?_⟩, fun d hd => ?_⟩
  · rw [pairsZ_len] at hi
    have l1 := r.length
    have l2 := t.length
    omega
  obtain ⟨c, f, hc, hf, ec⟩ := pairsZ_get hd
  subst ec
  obtain ⟨v, e, rv⟩ := r.get hc
  obtain ⟨w, e2, rw2⟩ := t.get hf
  refine ⟨⟨vs, ws, v, w, hl, hm, e, e2⟩, fun x H3 y => ?_⟩
  obtain ⟨T, z, z2, rfl, hT, rfl, y, y2⟩ := y
  have := y vs hl
  rw [e] at this
  cases this
  have := y2 ws hm
  rw [e2] at this
  cases this
  exact S.pair hT (rv.mono (.of_same sm) fun a ha => by simp at ha) (rw2.mono (.of_same sm) fun a ha => by simp at ha)
theorem di_zip {e e2 : Expr} {fa : DA Om} {p pos tpos : Pos} {elts : List Expr} {kk : Nat} (h : PA X [e, e2] (tDA W B fa)) (hg : Gl X "zip" := by rfl) (hm : X.mg "zip" = none := by rfl) (hs : starEach [e, e2] X.env = (false, eval e X.env) :: starEach [e2] X.env := by rfl) (hpl : (backTo pos (starEach [e2] X.env)).any (·.1) = false := by rfl) :
    PI X (.Tuple elts kk tpos) (.Call (.Name "zip" p) [e, e2] [] pos) (iD W B (iZp fa)) := (pi_zip hg hm h hs hpl).le fun σ H R q => by
  obtain ⟨en, om, G, F, ds, en', om', S, hf, k⟩ := q
  obtain ⟨⟨as, en1, om1⟩, h1, hf⟩ := bind_some hf
  obtain ⟨l, hz, hf⟩ := Option.map_eq_some_iff.mp hf
  cases hf
  refine tDA.hold S h1 fun vs H1 G1 F1 R1 n1 S1 x1 => ?_
  obtain ⟨S2, r2, kn⟩ := S1.shares x1
  dsimp only at hz
  generalize frzs as = bs at hz r2
  unfold zipL at hz
  split at hz
  · cases hz
    cases vs with
    | nil => have := r2.length; simp at this
    | cons v vs =>
      obtain ⟨q1, q2⟩ := r2.inv0
      obtain ⟨w, rfl, q3⟩ := one0 q2
      obtain ⟨a, xs, rfl, ga, ra⟩ := q1.asL
      obtain ⟨b, ys, rfl, gb, rb⟩ := q3.asL
      exact ⟨a, b, xs, ys, rfl, .of (S2.sub _ _ ga), .of (S2.sub _ _ gb), k _ H1 _ F1 (kn n1) S2 (drives_zip ga gb ra rb)⟩
  · cases hz
end
end DL

/-! DSr: defs that may raise, and their calls. -/
namespace DL
open PySem PySem.Spec PyProof.Rows L2
/-- what is handed back, or the class and the fields of what is raised -/
abbrev Res := D ⊕ (Addr × List (Str × V))
abbrev DX (Om : Type) := List D → Om → Option (Res × Om)
section
variable {Om : Type} {W : Wld Om} {B : AS} {Z : XK} {X : Cx} {en en' en1 : Ev} {om om' om1 om2 : Om} {G G1 H H1 : Hp} {F F1 R : List Addr} {σ σ1 : L2.St} {v x y : V} {d : D} {Q : VK} {Dn : Ends}
def spX (W : Wld Om) (M : DX Om) (ps : List Str) : Sp := fun vs H Q E => ∃ (Bo : AS) (ts : List D) (om : Om) (r : Res) (om' : Om), vs.length = ps.length ∧ (∀ a, Bo a → cut W H a ≠ none) ∧ Rels Bo (cut W H) H [] vs ts ∧ W.ok om H ∧ M ts om = some (r, om') ∧
  match r with
  | .inl t => ∀ v H' G' R, Same (cut W H) G' → Same G' H' → Rel Bo G' H' R v t → R.Nodup → (∀ a ∈ R, G' a = none ∧ ¬ W.fp a) → (∀ a, W.fp a → G' a = none) → noB t = true → W.ok om' H' → Q v H'
  | .inr e => ∀ o H' G', Same (cut W H) G' → Same G' H' → (∀ a, W.fp a → G' a = none) → W.ok om' H' → Xd H' o e.2 → E (.ref e.1) o H'
/-- what a body hands back or raises -/
def bodyX (b : SD Om) (n : Nat) : DX Om := fun ts om => (b (startE n ts) om).bind fun p => match p with
  | (.rt t, _, om') => if noB t = true then some (.inl t, om') else none
  | (.nx, _, om') => some (.inl .non, om')
  | (.rz C fs, _, om') => some (.inr (C, fs), om')
  | _ => none
theorem fn_dataX {P : Program} {w : World} {K : PySem.W.Frag} {mg : Str → Option Value} {base : Heap} {x qual : Str} {st : Stmt} {f : Addr} {fd : FuncData} {N ps : List Str} {k : Nat} (Fn : Fun K x qual st f fd) (Sc : FnScope N ps (defScope st)) (M : DX Om)
    (hb : ∀ (cdv : Value) (A : Around) (outer : List Env) (s : Shared) (H : Hp) (E : XK) (Bo : AS), Room k (A.deeper (envOfC qual (defScope st) s.heap.objs.size f cdv)) →
      ∃ b : SD Om, PSs (cxOf (L2.CX P w) P w K mg base N qual (defScope st) f cdv A outer s H E) (defBody st) (tS W Bo E b) ∧ ∀ ts om r om', ts.length = ps.length → M ts om = some (r, om') → bodyX b N.length ts om = some (r, om')) :
    FnOk P w K mg base (L2.CX P w) (k + 1) f fd ps (spX W M ps) := by
  refine Fn.okX Sc (fun vs H Q E h => ?_) (fun cdv A outer s H vs Q E hr h => ?_)
  · obtain ⟨_, _, _, _, _, e, _⟩ := h
    exact e
  · obtain ⟨Bo, ts, om, r, om', hl, hbo, hrel, hw, hM, k⟩ := h
    obtain ⟨b, hp, hbody⟩ := hb cdv A outer s H E Bo hr
    refine ⟨_, hp, ?_⟩
    have hlt : ts.length = ps.length := by rw [← hrel.length]; exact hl
    have hB := hbody ts om r om' hlt hM
    obtain ⟨⟨o, en', om2⟩, hb1, hB⟩ := bind_some hB
    have S : Rst W Bo (startE N.length ts) om (cut W H) [] (L2.start N vs) H := by
      refine ⟨cut_same, ?_, .nil, fun a h => by simp at h, fun a h => by simp at h, fun a h => cut_fp h, hbo, hw⟩
      have e : N.length - vs.length = N.length - ts.length := by rw [hrel.length]
      unfold L2.start startE
      rw [e]
      exact envs_start hrel _
    refine tS.run S hb1 ?_
    cases o with
    | nx =>
      cases hB
      exact fun σ' H' G' F' n S' => k .non H' G' [] n.sub S'.sub .non .nil (fun a h => by simp at h) S'.WG rfl S'.wok
    | rt d =>
      dsimp only at hB
      split at hB
      · rename_i hnb
        cases hB
        exact fun σ' v H' G' F' R n S' x => k v H' G' R n.sub S'.sub x.rel x.nd (fun a ha => ⟨(x.own a ha).1, (x.own a ha).2.2⟩) S'.WG hnb S'.wok
      · cases hB
    | rz C fs =>
      cases hB
      exact fun σ' H' G' F' o n S' x => k o H' G' n.sub S'.sub S'.WG S'.wok x
    | bk => cases hB
    | ct => cases hB

open Classical in
/-- a call that hands back or raises -/
theorem callX_use {M : DX Om} {ps : List Str} {fa : DA Om} {ds : List D} {r : Res} (hlen : ∀ ts om r, M ts om = some r → ts.length = ps.length) (S : Rst W B en om G F σ H) (h1 : fa en om = some (ds, en1, om1)) (h2 : M (lends ds) om1 = some (r, om2))
    (k : match r with
      | .inl t => ∀ v H' G' F' R, Nx W G F H G' F' H' R → Rst W B en1 om2 G' F' σ H' → Has W B G' F' H' R v t → Q v H'
      | .inr e => ∀ H' G' F' o, Nx W G F H G' F' H' [] → Rst W B en1 om2 G' F' σ H' → Xd H' o e.2 → Z (.ref e.1) o H') : tCall (spX W M ps) [] Z (tDA W B fa) σ H Q := by
  refine tDA.hold S h1 fun vs H1 G1 F1 R1 n1 S1 x1 => ?_
  rw [List.append_nil]
  have le1 : Same G1 (cut W H1) := fun a o e => by
    rw [cut_nf fun z => by have := S1.WG a z; rw [e] at this; cases this]
    exact S1.sub a o e
  let Zz : Addr → Prop := fun a => G1 a = none ∧ H1 a ≠ none ∧ ∀ vs, H1 a ≠ some (.tup vs)
  let Bo : AS := fun a => B a ∨ (Zz a ∧ ¬ W.fp a)
  have lens : ∀ ds : List D, (lends ds).length = ds.length := fun ds => by
    induction ds with
    | nil => simp [lends]
    | cons d ds ih => simp [lends, ih]
  -- what is common to both ways
  have back : ∀ H' G', Same (cut W H1) G' → Same G' H' → (∀ a, W.fp a → G' a = none) → W.ok om2 H' → ∃ G2, Same G1 G2 ∧ Rst W B en1 om2 G2 F1 σ H' ∧ (∀ a, H1 a ≠ none → ¬ W.fp a → H' a = H1 a ∧ G' a = H1 a) ∧ (∀ a, Zz a → G2 a = none) ∧ ∀ a, ¬ Zz a → G2 a = G' a := fun H' G' s1 s2 wg wk => by
    let G2 : Hp := fun a => if Zz a then none else G' a
    have g2n : ∀ a, ¬ Zz a → G2 a = G' a := fun a h => if_neg h
    have g2z : ∀ a, Zz a → G2 a = none := fun a h => if_pos h
    have sG : Same G1 G2 := fun a o e => by
      rw [g2n a fun z => by have := z.1; rw [e] at this; cases this]
      exact s1 a o (le1 a o e)
    have keep : ∀ a, H1 a ≠ none → ¬ W.fp a → H' a = H1 a ∧ G' a = H1 a := fun a h w => by
      cases e : H1 a with
      | none => exact absurd e h
      | some o =>
        have := s1 a o (by rw [cut_nf w]; exact e)
        exact ⟨s2 a o this, this⟩
    refine ⟨G2, sG, ⟨fun a o e => ?_, S1.env.mono (.of_same sG) fun a ha => (keep a (S1.fs ha) (S1.FW a ha)).1, S1.nd, fun a ha => ?_, S1.FW, fun a ha => ?_, fun a ha => ?_, wk⟩, keep, g2z, g2n⟩
    · by_cases z : Zz a
      · rw [g2z a z] at e; cases e
      · rw [g2n a z] at e
        exact s2 a o e
    · refine g2z a ⟨S1.FG a ha, S1.fs ha, ?_⟩
      rcases S1.env.there ha with ⟨vs, e⟩ | ⟨kvs, e⟩
      · rw [e]; exact fun _ z => nomatch z
      · rw [e]; exact fun _ z => nomatch z
    · by_cases z : Zz a
      · exact g2z a z
      · rw [g2n a z]
        exact wg a ha
    · have := S1.BG a ha
      cases e : G1 a with
      | none => exact absurd e this
      | some o => rw [sG a o e]; exact fun z => nomatch z
  have hbo : ∀ a, Bo a → cut W H1 a ≠ none := fun a h => by
    rcases h with h | ⟨h, w⟩
    · have := S1.BG a h
      intro z
      cases e : G1 a with
      | none => exact this e
      | some o => rw [le1 a o e] at z; cases z
    · rw [cut_nf w]
      exact h.2.1
  refine ⟨Bo, lends ds, om1, r, om2, by rw [x1.rel.length, ← lens]; exact hlen _ _ _ h2, hbo, x1.rel.lend' (.of_same le1) fun a ha => cut_nf (x1.own a ha).2.2, S1.wok, h2, ?_⟩
  cases r with
  | inr e =>
    intro o H' G' s1 s2 wg wk xd
    obtain ⟨G2, sG, S2, keep, g2z, g2n⟩ := back H' G' s1 s2 wg wk
    refine k H' G2 F1 o ⟨n1.sub.trans sG, fun a h ht g f w => ?_⟩ S2 xd
    obtain ⟨e1, e2, e3, e4⟩ := n1.frm a h ht g f w
    have ne : H1 a ≠ none := by rw [e1]; exact h
    exact ⟨(keep a ne w).1.trans e1, g2z a ⟨e2, ne, by rw [e1]; exact ht⟩, e3, by simp⟩
  | inl t =>
    intro v H' G' R s1 s2 rel nd own wg nb wk
    obtain ⟨G2, sG, S2, keep, g2z, g2n⟩ := back H' G' s1 s2 wg wk
    have new : ∀ a ∈ R, H1 a = none := fun a ha => by
      obtain ⟨o1, o2⟩ := own a ha
      cases e : H1 a with
      | none => rfl
      | some o =>
        have := s1 a o (by rw [cut_nf o2]; exact e)
        rw [o1] at this
        cases this
    refine k v H' G2 F1 R ⟨n1.sub.trans sG, fun a h ht g f w => ?_⟩ S2 ⟨?_, nd, fun a ha => ⟨?_, fun z => S1.fs z (new a ha), (own a ha).2⟩⟩
    · obtain ⟨e1, e2, e3, e4⟩ := n1.frm a h ht g f w
      have ne : H1 a ≠ none := by rw [e1]; exact h
      exact ⟨(keep a ne w).1.trans e1, g2z a ⟨e2, ne, by rw [e1]; exact ht⟩, e3, fun z => ne (new a z)⟩
    · refine rel.nob (fun a vs e => ?_) (fun a o nb' e => ?_) nb
      · by_cases z : Zz a
        · by_cases w : W.fp a
          · rw [wg a w] at e; cases e
          · have := (keep a z.2.1 w).2
            rw [e] at this
            exact absurd this.symm (z.2.2 vs)
        · rw [g2n a z]
          exact e
      · have nz : ¬ Zz a := fun z => nb' (.inr ⟨z, fun w => by rw [wg a w] at e; cases e⟩)
        exact ⟨by rw [g2n a nz]; exact e, fun z => nb' (.inl z)⟩
    · rw [g2n a fun z => z.2.1 (new a ha)]
      exact (own a ha).1

/-! ### calls -/
theorem passN {P : Program} {w : World} {X : Cx} : Passes (L2.CX P w) X (fun _ _ _ => False) := fun _ _ _ _ _ _ _ c => by
  obtain ⟨_, _, _, _, _, _, _, _, _, _, _, _, h⟩ := c
  exact h.elim
abbrev Tk (X : Cx) (Z : XK) : Prop := Takes X fun cls d _ H => Z cls d H
theorem passT {X : Cx} (tk : Tk X Z) : Passes (L2.CX X.prog X.w) X Z := passes_call tk fun _ _ _ _ h => h
/-- a def of the text that may raise -/
structure DefX (P : Program) (w : World) (K : PySem.W.Frag) (mg : Str → Option Value) (base : Heap) (W : Wld Om) (x : Str) (k : Nat) (ps : List Str) (M : DX Om) : Prop where
  ex : ∃ f fd, FnOk P w K mg base (L2.CX P w) k f fd ps (spX W M ps) ∧ mg x = some (.ref f) ∧ PySem.W.keepIn K (.ref f) = true ∧ Binds K fd ps []
  len : ∀ ts om r, M ts om = some r → ts.length = ps.length
/-- a call that raises nothing -/
def dCallX (M : DX Om) (fa : DA Om) : DE Om := fun en om => (fa en om).bind fun p => (M (lends p.1) p.2.2).bind fun q => match q.1 with
  | .inl t => some (t, p.2.1, q.2)
  | .inr _ => none
theorem dcallX {M : DX Om} {j k : Nat} {ps : List Str} {x : Str} {p pos : Pos} {e : Expr} {es : List Expr} {fa : DA Om} (Df : DefX X.prog X.w X.K X.mg X.base W x k ps M) (hr : Room j X.A) (ha : PA X (e :: es) (tDA W B fa)) (hk : k ≤ j := by decide) (hg : Gl X x := by rfl) (hdb : (x == ("__debug__" : Str)) = false := by decide)
    (he : starEach (e :: es) X.env = (false, eval e X.env) :: starEach es X.env := by rfl) (hpl : (backTo pos (starEach es X.env)).any (·.1) = false := by rfl) :
    PE X (.Call (.Name x p) (e :: es) [] pos) (tD W B (dCallX M fa)) := by
  obtain ⟨f, fd, Fo, hm, hkp, hb⟩ := Df.ex
  refine (pe_call Fo (hr.mono hk) hg hm hkp hb .nil passN ha hdb he hpl).le fun σ H Q q => ?_
  obtain ⟨en, om, G, F, c, en', om', S, hf, k⟩ := q
  obtain ⟨⟨ds, en1, om1⟩, h1, hf⟩ := bind_some hf
  obtain ⟨⟨t, om2⟩, h2, hf⟩ := bind_some hf
  cases t with
  | inr e => cases hf
  | inl t =>
    cases hf
    exact callX_use Df.len S h1 h2 k
/-- a call as a statement's expression, that may raise -/
theorem pcallX {M : DX Om} {j k : Nat} {ps : List Str} {x : Str} {p pos : Pos} {e : Expr} {es : List Expr} {fa : DA Om} (Df : DefX X.prog X.w X.K X.mg X.base W x k ps M) (tk : Tk X Z) (hr : Room j X.A) (ha : PA X (e :: es) (tDA W B fa)) (hk : k ≤ j) (hg : Gl X x) (hdb : (x == ("__debug__" : Str)) = false)
    (he : starEach (e :: es) X.env = (false, eval e X.env) :: starEach es X.env) (hpl : (backTo pos (starEach es X.env)).any (·.1) = false) : PE X (.Call (.Name x p) (e :: es) [] pos) (tCall (spX W M ps) [] Z (tDA W B fa)) := by
  obtain ⟨f, fd, Fo, hm, hkp, hb⟩ := Df.ex
  exact pe_call Fo (hr.mono hk) hg hm hkp hb .nil (passT tk) ha hdb he hpl
def callS (M : DX Om) (fa : DA Om) (g : D → SD Om) : SD Om := fun en om => (fa en om).bind fun p => (M (lends p.1) p.2.2).bind fun q => match q.1 with
  | .inl t => g t p.2.1 q.2
  | .inr e => some (.rz e.1 e.2, p.2.1, q.2)
/-- f(..) -/
def sExprX (M : DX Om) (fa : DA Om) : SD Om := callS M fa fun _ en om => some (.nx, en, om)
/-- x = f(..) -/
def sSetX (i : Nat) (M : DX Om) (fa : DA Om) : SD Om := callS M fa fun d en om => (gN i d en om).map fun q => (.nx, q.1, q.2)
/-- return f(..) -/
def sRetX (M : DX Om) (fa : DA Om) : SD Om := callS M fa fun d en om => some (.rt d, en, om)
section
variable {M : DX Om} {j k : Nat} {ps : List Str} {x : Str} {p pos spos : Pos} {e : Expr} {es : List Expr} {fa : DA Om}
theorem exprX_use (hlen : ∀ ts om r, M ts om = some r → ts.length = ps.length) : tS W B Z (sExprX M fa) Dn σ H → tDrop (tCall (spX W M ps) [] Z (tDA W B fa)) Dn σ H := by
  rintro ⟨en, om, G, F, o, en', om', S, hf, k⟩
  obtain ⟨⟨ds, en1, om1⟩, h1, hf⟩ := bind_some hf
  obtain ⟨⟨r, om2⟩, h2, hf⟩ := bind_some hf
  refine callX_use hlen S h1 h2 ?_
  cases r with
  | inl t =>
    cases hf
    exact fun v H' G' F' R n S' x => k σ H' G' F' n.drop S'
  | inr e =>
    cases hf
    exact fun H' G' F' o n S' x => k σ H' G' F' o n S' x
theorem ds_exprX (Df : DefX X.prog X.w X.K X.mg X.base W x k ps M) (tk : Tk X Z) (hr : Room j X.A) (ha : PA X (e :: es) (tDA W B fa)) (hs : swapsWith (.Call (.Name x p) (e :: es) [] pos) none spos.line X.env = pure false := by rfl) (hk : k ≤ j := by decide) (hg : Gl X x := by rfl) (hdb : (x == ("__debug__" : Str)) = false := by decide)
    (he : starEach (e :: es) X.env = (false, eval e X.env) :: starEach es X.env := by rfl) (hpl : (backTo pos (starEach es X.env)).any (·.1) = false := by rfl) :
    PS X (.Expr (.Call (.Name x p) (e :: es) [] pos) spos) (tS W B Z (sExprX M fa)) := (ps_expr (pcallX Df tk hr ha hk hg hdb he hpl) hs).le fun _ _ _ q => exprX_use Df.len q
theorem ds_retX (Df : DefX X.prog X.w X.K X.mg X.base W x k ps M) (tk : Tk X Z) (hr : Room j X.A) (ha : PA X (e :: es) (tDA W B fa)) (hk : k ≤ j := by decide) (hg : Gl X x := by rfl) (hdb : (x == ("__debug__" : Str)) = false := by decide)
    (he : starEach (e :: es) X.env = (false, eval e X.env) :: starEach es X.env := by rfl) (hpl : (backTo pos (starEach es X.env)).any (·.1) = false := by rfl) :
    PS X (.Return (some (.Call (.Name x p) (e :: es) [] pos)) spos) (tS W B Z (sRetX M fa)) := (ps_ret (pcallX Df tk hr ha hk hg hdb he hpl)).le fun Dn σ H q => by
  obtain ⟨en, om, G, F, o, en', om', S, hf, k⟩ := q
  obtain ⟨⟨ds, en1, om1⟩, h1, hf⟩ := bind_some hf
  obtain ⟨⟨r, om2⟩, h2, hf⟩ := bind_some hf
  refine callX_use Df.len S h1 h2 ?_
  cases r with
  | inl t =>
    cases hf
    exact fun v H' G' F' R n S' x => k σ v H' G' F' R n S' x
  | inr e =>
    cases hf
    exact fun H' G' F' o n S' x => k σ H' G' F' o n S' x
theorem ds_setX (i : Nat) {y : Str} {py : Pos} (Df : DefX X.prog X.w X.K X.mg X.base W x k ps M) (tk : Tk X Z) (hr : Room j X.A) (hN : X.N.Nodup) (ha : PA X (e :: es) (tDA W B fa)) (hi : X.N[i]? = some y := by rfl) (hx : Loc X.env.scope y := by first | exact .inl rfl | exact .inr rfl)
    (hs : swapsWith (.Call (.Name x p) (e :: es) [] pos) (some (.Name y py)) spos.line X.env = pure false := by rfl) (hf : X.fn y = true ∨ X.env.scope.names.lookup y = some .local := by first | exact .inl rfl | exact .inr rfl | assumption) (hk : k ≤ j := by decide) (hg : Gl X x := by rfl) (hdb : (x == ("__debug__" : Str)) = false := by decide)
    (he : starEach (e :: es) X.env = (false, eval e X.env) :: starEach es X.env := by rfl) (hpl : (backTo pos (starEach es X.env)).any (·.1) = false := by rfl) :
    PS X (.Assign [.Name y py] (.Call (.Name x p) (e :: es) [] pos) spos) (tS W B Z (sSetX i M fa)) := (ps_set hN hi hx (pcallX Df tk hr ha hk hg hdb he hpl) hs hf).le fun Dn σ H q => by
  obtain ⟨en, om, G, F, o, en', om', S, hf, k⟩ := q
  obtain ⟨⟨ds, en1, om1⟩, h1, hf⟩ := bind_some hf
  obtain ⟨⟨r, om2⟩, h2, hf⟩ := bind_some hf
  refine callX_use Df.len S h1 h2 ?_
  cases r with
  | inl t =>
    obtain ⟨⟨en3, om3⟩, h3, hf⟩ := Option.map_eq_some_iff.mp hf
    cases hf
    refine fun v H' G' F' R n S' x => ?_
    unfold gN at h3
    split at h3
    · rename_i hl
      cases h3
      obtain ⟨F2, S2, _, kn⟩ := S'.take x hl
      exact k _ _ _ _ (kn n) S2
    · cases h3
  | inr e =>
    cases hf
    exact fun H' G' F' o n S' x => k σ H' G' F' o n S' x
/-- a def's worth by its body: k parameters, n names -/
def mkX (k n : Nat) (b : SD Om) : DX Om := fun ts om => if ts.length = k then bodyX b n ts om else none
theorem mkX_len {k n : Nat} {b : SD Om} {ts : List D} {om : Om} {r : Res × Om} (h : mkX k n b ts om = some r) : ts.length = k := by
  unfold mkX at h
  split at h
  · assumption
  · cases h
theorem defX_of {P : Program} {w : World} {K : PySem.W.Frag} {mg : Str → Option Value} {base : Heap} {x qual : Str} {st : Stmt} {f : Addr} {fd : FuncData} {N ps : List Str} {k n m : Nat} {b : SD Om} (Fn : Fun K x qual st f fd) (hm : mg x = some (.ref f)) (hb : Binds K fd ps []) (Sc : FnScope N ps (defScope st)) (hn : n = N.length ∧ m = ps.length)
    (h : ∀ (cdv : Value) (A : Around) (outer : List Env) (s : Shared) (H : Hp) (E : XK) (Bo : AS), Room k (A.deeper (envOfC qual (defScope st) s.heap.objs.size f cdv)) → PSs (cxOf (L2.CX P w) P w K mg base N qual (defScope st) f cdv A outer s H E) (defBody st) (tS W Bo E b)) :
    DefX P w K mg base W x (k + 1) ps (mkX m n b) := by
  obtain ⟨rfl, rfl⟩ := hn
  refine ⟨⟨f, fd, fn_dataX Fn Sc (mkX ps.length N.length b) (fun cdv A outer s H E Bo hr => ⟨b, h cdv A outer s H E Bo hr, fun ts om t om' hl q => ?_⟩), hm, Fn.kp, hb⟩, fun ts om r q => mkX_len q⟩
  unfold mkX at q
  rw [if_pos hl] at q
  exact q
end
end
end DL

/-! DSi: an own exception, made by keywords; its __init__ says super().__init__(text) and stores its fields. -/
namespace PySem
namespace DLx
open HandSPX
section
variable {prog : Program} {w : World} {A : Around} {E : Value → Shared → Prop} {R : Result → Shared → Prop} {h : Heap} {g : Array GenState} {d : Drawn} {t : Nat} {os : OsState}
variable {nm q : Str} {C N : Addr} {bs bm bmB : List Value} {hdct : Bool} {sn : List Str} {sub : List Value} {ab : Bool} {col : Option Bool} {dd : Option Addr} {k0 k1 k2 k3 k5 : Option Value} {B newId initId : String}
/-- a new exception, whatever keywords are handed in -/
theorem exc_new (X : ExcBaseFacts B newId initId bmB) (same : ∀ Y : String, bm.contains (.type Y) = bmB.contains (.type Y)) {us : List Value} {kw : List (Str × Value)}
    (cl : h.get? C = some (excClassObj nm q C N bs bm hdct sn sub ab col dd k0 k1 k2 k3 k5 newId)) (few : us.length ≤ sizeLine)
    (go : R (.ok (.ret (.ref (h.objs.size + 1)))) ⟨(h.push (W.kdv_tup us)).push (excO C h.objs.size), g, d, t, os⟩) :
    codeAny (model prog w) A (.builtin newId ⟨.ref C :: us, kw⟩) R ⟨h, g, d, t, os⟩ := by
  have en := X.ends
  have cB : (Value.ref C :: bm).contains (.type B) = true := by rw [List.contains_cons, same, X.hasB, Bool.or_true]
  have cA : (Value.ref C :: bm).contains (.type "AttributeError") = false := by rw [List.contains_cons, same, X.noAttr] <;> rfl
  have cN : (Value.ref C :: bm).contains (.type "NameError") = false := by rw [List.contains_cons, same, X.noName] <;> rfl
  refine codeAny_builtinAt X.entry ?_
  unfold Builtin.«BaseException.__new__»
  refine wpAt_bind ?_
  show wpAt _ _ _ (stack >>= _) _ _ _
  refine wpAt_bind (wpAt_stack fun p below => wpAt_of_wpAny ?_)
  wp_walk
  refine wpAt_of_wpAny ?_
  rw [X.owner]
  repeat (first | with_reducible refine wpAny_madeHere_exc X.canon cl ?_ | with_reducible refine wpAny_loadPart_at cl ?_ | (with_reducible refine wpAny_isSubtype_exc cl ?_; first | rw [cB] | rw [cA] | rw [cN]) | wp_step)
  show R _ _
  rw [Heap.size_push]
  exact go
theorem exc_check (X : ExcBaseFacts B newId initId bmB) (same : ∀ Y : String, bm.contains (.type Y) = bmB.contains (.type Y)) {us : List Value} {kw : List (Str × Value)} {M : Model} {Q : Unit → Shared → Prop}
    (cl : h.get? C = some (excClassObj nm q C N bs bm hdct sn sub ab col dd k0 k1 k2 k3 k5 newId)) (go : Q () ⟨h, g, d, t, os⟩) : wpAny M A (checkBuiltinCall newId ⟨.ref C :: us, kw⟩) Q E ⟨h, g, d, t, os⟩ := by
  have has : (Value.ref C :: bm).contains (.type B) = true := by rw [List.contains_cons, same, X.hasB, Bool.or_true]
  have star := X.noStar
  simp only [checkBuiltinCall, X.newKind, X.newSplit, X.newRow]
  repeat (first | refine wpAny_loadPart_at cl ?_ | (refine wpAny_isSubtype_exc cl ?_; rw [has]) | refine wpAny_staticBase_exc cl ?_ | refine wpAny_madeBy_exc cl ?_ | simp only [bne_self_eq_false, Bool.false_eq_true, if_false] | wp_step)
  exact go
theorem exc_made (X : ExcBaseFacts B newId initId bmB) (same : ∀ Y : String, bm.contains (.type Y) = bmB.contains (.type Y)) {us : List Value} {kw : List (Str × Value)} {fI : Addr} {Q : Fin → Shared → Prop}
    (cl : h.get? C = some (excClassObj nm q C N bs bm hdct sn sub ab col dd k0 k1 k2 k3 k5 newId)) (ini : W.Looks (model prog w) h (typeLookup (.ref C) "__init__") (some (.ref fI))) (bnd : ∀ self, W.Looks (model prog w) h (bindSpecial (.ref fI) self) (.ref fI, [self])) (few : us.length ≤ sizeLine)
    (go : codeAny (model prog w) A (.call (.ref fI) ⟨.ref (h.objs.size + 1) :: us, kw⟩) (fun r s' => match r with | .ok (.ret v) => v = .none ∧ Q (.done (.ret (.ref (h.objs.size + 1)))) s' | .ok _ => False | .error e => E e s')
      ⟨(h.push (W.kdv_tup us)).push (excO C h.objs.size), g, d, t, os⟩) :
    wpAny (model prog w) A (Builtin.«type.__call__» ⟨.ref C :: us, kw⟩) Q E ⟨h, g, d, t, os⟩ := by
  repeat (first | with_reducible refine wpAny_loadPart_at cl ?_ | with_reducible refine wpAny_madeBy_exc cl ?_ | wp_step)
  refine codeAny_call_builtin_code (Code.quiet_builtin _ X.quiet) (exc_check X same cl (exc_new X same cl few ?_))
  show wpAny _ _ _ _ _ _
  have up : ∀ b o, h.get? b = some o → ((h.push (W.kdv_tup us)).push (excO C h.objs.size)).get? b = some o := fun b o e => Heap.get?_push_of_some _ (Heap.get?_push_of_some _ e)
  have cl2 := up _ _ cl
  have ex : ((h.push (W.kdv_tup us)).push (excO C h.objs.size)).get? (h.objs.size + 1) = some (excO C h.objs.size) := by heap_get
  have cC : (Value.ref C :: bm).contains (.ref C) = true := by simp
  have i2 := ini.keeps up
  have b2 := (bnd (.ref (h.objs.size + 1))).keeps up
  unfold isInstance
  repeat (first | with_reducible refine wpAny_loadPart_at ex ?_ | (with_reducible refine wpAny_isSubtype_exc cl2 ?_; rw [cC]) | wp_step)
  show wpAny _ _ (typeLookup (.ref C) _) _ _ _
  refine i2.at (wpAny_holding (wpAny_bind (b2.at (wpAny_bind (wpAny_call (codeAny_mono go fun r s' z => ?_))))))
  rcases r with e | (v | _ | _ | _) <;> first | exact z | exact z.elim | skip
  obtain ⟨rfl, z⟩ := z
  first
    | exact wpAny_pure (wpAny_pure z)
    | (wp_walk; exact z)
theorem exc_call (X : ExcBaseFacts B newId initId bmB) (same : ∀ Y : String, bm.contains (.type Y) = bmB.contains (.type Y)) {us : List Value} {kw : List (Str × Value)} {fI : Addr}
    (cl : h.get? C = some (excClassObj nm q C N bs bm hdct sn sub ab col dd k0 k1 k2 k3 k5 newId)) (ini : W.Looks (model prog w) h (typeLookup (.ref C) "__init__") (some (.ref fI))) (bnd : ∀ self, W.Looks (model prog w) h (bindSpecial (.ref fI) self) (.ref fI, [self])) (few : us.length ≤ sizeLine)
    (go : codeAny (model prog w) (A.under (.builtin "type.__call__" ⟨.ref C :: us, kw⟩)) (.call (.ref fI) ⟨.ref (h.objs.size + 1) :: us, kw⟩) (W.InitBack (h.objs.size + 1) R) ⟨(h.push (W.kdv_tup us)).push (excO C h.objs.size), g, d, t, os⟩) :
    codeAny (model prog w) A (.call (.ref C) ⟨us, kw⟩) R ⟨h, g, d, t, os⟩ := by
  have l1 := tc_lookup
  have l2 := tc_bind (.ref C)
  have ty : (⟨h, g, d, t, os⟩ : Shared).TypeIs (.ref C) "type" := ⟨_, cl, rfl⟩
  refine codeAny_of_tree ?_
  show wpAny _ _ (callAny (.ref C) _) _ _ _
  repeat (any_goals (first | assumption | with_reducible refine wpAny_loadPart_at cl ?_ | wp_step))
  refine ⟨rfl, codeAny_call_builtin_at (Code.quiet_builtin _ (by decide +kernel)) entry_typeCall ?_⟩
  refine wpAny_check_type_call_sub cl (exc_made X same cl ini bnd few (codeAny_mono go fun r s' z => ?_))
  rcases r with e | (v | _ | _ | _) <;> exact z
/-- the wrapper of ValueError.__init__, called -/
theorem mw_call {u e t0 : Addr} {us : List Value} {Q : Value → Shared → Prop}
    (cl : h.get? C = some (excClassObj nm q C N bs bm hdct sn sub ab col dd k0 k1 k2 k3 k5 "ValueError.__new__")) (ex : h.get? e = some (excO C t0)) (wr : h.get? u = some (W.kxs_mw "ValueError.__init__" e)) (few : us.length ≤ sizeLine)
    (go : ∀ h' t1, (∀ b o, b ≠ e → h.get? b = some o → h'.get? b = some o) → h'.get? e = some (excO C t1) → Q .none ⟨h', g, d, t, os⟩) :
    wpAny (model prog w) A (call (.ref u) us) Q E ⟨h, g, d, t, os⟩ := by
  refine wpAny_call (codeAny_of_tree ?_)
  show wpAny _ A.in1 (callAny (.ref u) ⟨us, []⟩) _ _ _
  simp only [callAny]
  refine wpAny_bind (wpAny_load wr ?_)
  simp only [W.kxs_mw, show (Value.type "method-wrapper" == Value.type "method" || Value.type "method-wrapper" == Value.type "builtin_function_or_method" || Value.type "method-wrapper" == Value.type "method-wrapper") = true by decide, if_true]
  refine W.KFB.if_so (by decide) (wpAny_bind (ESX.check_bound F.excBase_ValueError cl ex rfl ?_))
  refine wpAny_bind (wpAny_pure (wpAny_pure ⟨Code.quiet_builtin _ (by decide +kernel), codeAny_builtin F.excBase_ValueError.initEntry ?_⟩))
  rw [Around.under_plainId F.excBase_ValueError.init.plain _]
  wp_walk
  refine go _ h.objs.size (fun b o n z => ?_) ?_
  · rw [Heap.get?_update_other _ _ (Ne.symm n)]
    exact Heap.get?_push_of_some _ z
  · rw [Heap.get?_update_self _ (Heap.get?_push_of_some _ ex) rfl] <;> rfl
end
end DLx
end PySem

/-! DSj: an __init__ with super().__init__(text), as a promise. -/
namespace DL
open PySem PySem.Spec PyProof.Rows L2 NdefX
/-- what the written part says of an __init__ that begins by super().__init__(..): the class at C, its def F at f, the cell of its class at cc -/
structure IniT (P : Program) (K : PySem.W.Frag) (mg : Str → Option Value) (C : Addr) (F : NF) (f cc : Addr) (slf : Str) : Prop where
  oex : OexC K C
  fn : ∃ (oc : Value) (od an : Option Addr) (osl : Array (Option Value)) (kV doc pm ct : Value), K.lookup f = some ⟨oc, od, .func (PySem.W.fnX F.name F.qual F.params F.body F.scope F.cl .none kV doc pm an (.ref F.c) ct), osl⟩
  clo : F.cl = [(("__class__" : Str), cc)]
  code : ∃ (o : Value) (d : Option Addr) (vs : Array Value) (sl : Array (Option Value)) (file : Str) (tf : Tok), K.lookup F.c = some ⟨o, d, .fields vs, sl⟩ ∧ vs[2]? = some (.str file tf) ∧ ((P.main.file : Str) == file) = true
  rec_ : PySem.W.codeIn K (.ref F.c) F.qual = true
  cell : ∃ (o : Value) (d : Option Addr) (sl : Array (Option Value)), K.lookup cc = some ⟨o, d, .cell (some (.ref C)), sl⟩
  top : (P.main.scope.names.lookup ("super" : Str)).isSome = false
  nosup : mg "super" = none
  ini : PySem.W.ks_superIn K C C "__init__" = some (some (.builtin "ValueError.__init__"))
  sub : PySem.W.subIn K (.ref C) (.type "ValueError") = some true
  subC : PySem.W.mroIn K C (.ref C) = some true
  any : PySem.W.nsIn K cStatics "thirdparty.any" = some none
  par : ∃ ar, (F.params.posonlyargs ++ F.params.args).head? = some ar ∧ ar.arg = slf
section
variable {X : Cx} {C f cc : Addr} {F : NF} {slf : Str}
theorem sup_run {a : Addr} {body : List Stmt} {e : Expr} {te : TE} {p0 p1 p2 pos spos : Pos} {pins : List (Addr × Obj)} {σ : L2.St} {H : Hp} {s : Shared} {Q : Hp → Prop} {pl : Sem Bool} (T : IniT X.prog X.K X.mg C F f cc slf)
    (hfu : X.env.func = some f) (hco : X.env.code = .ref F.c) (hks : X.env.kindOf "super" = some .globalImplicit) (hkc : X.env.kindOf "__class__" = some .free) (hcc : X.env.cells.lookup ("__class__" : Str) = some cc) (h0 : X.N[0]? = some slf) (hsl : X.env.kindOf slf = some .local)
    (I : Inv X pins σ H s) (hσ : σ[0]? = some (some (.ref a))) (ha : H a = some (exo a C none)) (he : PE X e te) (q : te σ H fun _ H1 => H1 a = some (exo a C none) ∧ Q H1)
    (hc : eval (.Call (.Attribute (.Call (.Name "super" p0) [] [] p1) "__init__" p2) [e] [] pos) X.env = (do
      let ov ← attributeBase (.Call (.Name "super" p0) [] [] p1) "__init__" X.env (eval (.Call (.Name "super" p0) [] [] p1) X.env)
      standAt p2.atName
      let (g, first) ← holding [ov] (getMethod ov "__init__" pl)
      callWith pos g first (backTo pos (starEach [e] X.env)) []))
    (hi : interactive X.env = false) (hs : swapsWith (.Call (.Attribute (.Call (.Name "super" p0) [] [] p1) "__init__" p2) [e] [] pos) none spos.line X.env = pure false) (hst : starEach [e] X.env = [(false, eval e X.env)]) :
    PySem.wpAt (model X.prog X.w) X.A (.func body X.env) (exec (.Expr (.Call (.Attribute (.Call (.Name "super" p0) [] [] p1) "__init__" p2) [e] [] pos) spos) X.env) (fun fl s' => fl = .next ∧ ∃ H', Inv X pins σ H' s' ∧ Q H') X.xe s := by
  obtain ⟨oc, od, an, osl, kV, doc, pm, ct, lk⟩ := T.fn
  obtain ⟨o2, d2, vs2, sl2, file, tf, lc, hv2, hfile⟩ := T.code
  obtain ⟨o3, d3, sl3, lcell⟩ := T.cell
  obtain ⟨nm, qn, N, bs, bm, sn, sub, ab, col, dd, k0, k1, k2, k3, k5, hC, hbm⟩ := T.oex.cls
  obtain ⟨ar, har, eslf⟩ := T.par
  obtain ⟨t1, hobj⟩ := exo_at I.hok ha
  refine ks_wpAt_Expr_any (ks_wpAt_MethodCall (pl := pl) ?_ hc) hi hs
  have KI := I.kIn
  have hcl : PySem.W.clsIn X.K C = some { name := nm, bases := bs, mro := .ref C :: bm, ns := N, qualname := qn, hasDict := true, slotNames := sn, subclasses := sub, abstract := ab, collection := col, hasDel := false } := by unfold PySem.W.clsIn; rw [hC] <;> rfl
  obtain ⟨mL, hns, hval⟩ := I.loc
  obtain ⟨u0, ru0, lk0⟩ := hval 0 slf (.ref a) h0 hσ (.inl hsl)
  have lk0 : mL slf = some u0 := by
    rcases lk0 with ⟨_, z⟩ | ⟨z, _⟩
    · exact z
    · rw [hsl] at z
      rcases z with z | z <;> cases z
  obtain rfl : u0 = Value.ref a := ru0
  obtain ⟨mb, hbl, hbl2⟩ := I.mod.blt
  have hclD := I.kIn _ _ hC
  refine ks_wpAt_super_base (f := f) (cc := F.c) (ar := ar) hks hkc (by decide) hfu (KI _ _ lk) rfl har hco (KI _ _ lc) rfl hv2 hfile T.top ?_
  refine PySem.W.ks_loadName_global I.ok.kind hks (PySem.Calls.loadGlobal_builtin (mg := X.mg) (by rw [I.ok.glob]; exact I.mod.glob.keeps I.bk) T.nosup (by rw [I.ok.blt]; exact hbl.keeps I.bk) ((hbl2 _ (by decide)).trans (by first | rfl | kernel_rfl)) ⟨rfl, ?_⟩)
  refine wpAny_loadName_free I.ok.kind hkc hcc ⟨_, KI _ _ lcell, rfl⟩ ?_
  rw [eslf]
  refine wpAny_loadName_local I.ok.kind hsl hns lk0 ?_
  refine ks_wpAny_isType_cls hclD rfl ⟨rfl, ?_⟩
  refine ks_wpAny_call_super hclD rfl hobj rfl (fun c z => by cases z) (PySem.W.looks_mroIn KI T.subC) fun h1 hso k1 => ?_
  -- the super object stands
  have I1 : L2.Inv X pins σ H { s with heap := h1 } := I.kept (t' := s.toks) k1
  have hobj1 := k1 _ _ hobj
  have K1 := I1.kIn
  have inst : PySem.W.InstAt h1 a _ C none := ⟨hobj1, rfl, rfl, trivial⟩
  have along : PySem.W.alongIn X.K "__init__" (((Value.ref C :: bm).dropWhile (· != .ref C)).drop 1) = some (some (.builtin "ValueError.__init__")) := by
    have z := T.ini
    unfold PySem.W.ks_superIn at z
    rw [hcl] at z
    exact z
  refine PySem.W.kxs_getMethod (l₀ := .ref C :: bm) PySem.W.kxs_ValueError hso (PySem.W.looks_opaque K1 T.any) ?_ rfl K1 along (inst.type.andThen (PySem.W.looks_subIn K1 T.sub)) (PySem.W.ks_ne K1 inst hcl) (by decide) ?_
  · exact fun A Q E s k q => wpAny_bind ((PySem.W.looks_clsIn K1 hcl) A _ E s k (wpAny_pure q))
  have I2 : L2.Inv X pins σ H { s with heap := h1.push (PySem.W.kxs_mw "ValueError.__init__" a), toks := s.toks + 1 } := I1.kept (t' := s.toks + 1) fun b o z => Heap.get?_push_of_some _ z
  have wr : (h1.push (PySem.W.kxs_mw "ValueError.__init__" a)).get? h1.objs.size = some (PySem.W.kxs_mw "ValueError.__init__" a) := Heap.get?_push_size _ rfl
  have I3 := I2.pinned (fp := [h1.objs.size]) (fun b hb => by
    rw [List.mem_singleton.mp hb]
    exact I1.fpOk (Nat.le_refl _) (I1.hok.fresh (Nat.le_refl _))) fun b hb => by
      rw [List.mem_singleton.mp hb]
      exact ⟨_, wr, fun v z => by cases z⟩
  rw [hst]
  refine PySem.W.kxs_callWith (i := "ValueError.__init__") (x := a) rfl (PySem.Calls.evalArgs_plain (PySem.Calls.spliced_cons (thn (he.run _ _ σ H _ I3 q) fun v s3 ⟨x, H3, I4, rv, ha3, q3⟩ => PySem.Calls.spliced_nil ⟨?_, ?_⟩)))
  · exact (I4.pin _ (List.mem_append_right _ (List.mem_append_right _ (mem_pinsAt (List.mem_singleton_self _) wr)))).1
  · obtain ⟨t3, hobj3⟩ := exo_at I4.hok ha3
    have wr3 : s3.heap.get? h1.objs.size = some (PySem.W.kxs_mw "ValueError.__init__" a) := (I4.pin _ (List.mem_append_right _ (List.mem_append_right _ (mem_pinsAt (List.mem_singleton_self _) wr)))).1
    obtain ⟨hp, g, d, t, os⟩ := s3
    refine DLx.mw_call (I4.kIn _ _ hC) hobj3 wr3 (by show 1 ≤ sizeLine; decide) fun h' t4 k4 ho4 => ⟨rfl, H3, ?_, q3⟩
    have I5 := I4.unpinned
    have J := I5.write (t' := t) (x := a) (e := a) (o := exo a C none) (by rw [ha3]; exact True.intro) (.inl rfl) k4 ⟨_, ho4⟩ (exo_ok ho4)
    have eu : upd H3 a (exo a C none) = H3 := by
      funext b
      by_cases hb : b = a
      · rw [hb, upd_same, ha3]
      · rw [upd_ne hb]
    rw [eu] at J
    exact J
end
end DL

/-! DSk: raise C(f = e, ..) by data. -/
namespace DL
open PySem PySem.Spec PyProof.Rows L2 NdefX
/-- the __init__ stores its fields, one behind another -/
def spI (C : Addr) (fs : List Str) (ok : List V → Prop) : Sp := fun vs H Q _ => ∃ (a : Addr) (ys : List V), vs = .ref a :: ys ∧ ys.length = fs.length ∧ ok ys ∧ H a = some (exo a C none) ∧
  ∀ (dx : Addr) (H' : Hp), H dx = none → dx ≠ a → H' a = some (exo a C (some dx)) → H' dx = some (exd dx (fs.zip ys).reverse) → (∀ b, b ≠ a → b ≠ dx → H' b = H b) → Q .non H'
section
variable {P : Program} {w : World} {K : PySem.W.Frag} {mg : Str → Option Value} {base : Heap} {C f cc : Addr} {F : NF} {slf : Str} {N ps ks : List Str} {k : Nat} {rest : List Stmt} {e : Expr} {p0 p1 p2 pos spos : Pos}
/-- the statement super().__init__(e) -/
abbrev supS (e : Expr) (p0 p1 p2 pos spos : Pos) : Stmt := .Expr (.Call (.Attribute (.Call (.Name "super" p0) [] [] p1) "__init__" p2) [e] [] pos) spos
theorem ini_ok {CX : CXT} {sp : Sp} (T : IniT P K mg C F f cc slf) (S : NScope N ps [("__class__" : Str)] F.scope) (hN : N[0]? = some slf) (hsl : F.scope.names.lookup slf = some .local) (hks : F.scope.names.lookup ("super" : Str) = some .globalImplicit) (hb : F.body = supS e p0 p1 p2 pos spos :: rest)
    (hbind : ∀ (kV doc pm : Value) (an : Option Addr) (ct : Value) (us ws : List Value), us.length = 1 → ws.length = ks.length → bindArgs (PySem.W.fnX F.name F.qual F.params F.body F.scope F.cl .none kV doc pm an (.ref F.c) ct) ⟨us, ks.zip ws⟩ = pure (ps.zip (us ++ ws)))
    (len : ∀ vs H Q E, sp vs H Q E → vs.length = ps.length)
    (hbody : ∀ (A : Around) (outer : List Env) (s : Shared) (H : Hp) (vs : List V) (Q : VK) (E : XK), Room k (A.deeper (envF F f s.heap.objs.size)) → sp vs H Q E →
      ∃ (a : Addr) (ys : List V) (te : TE) (t : TS) (pl : Sem Bool), vs = .ref a :: ys ∧ H a = some (exo a C none) ∧ PE (ncx CX P w K mg base N F f A outer s H E) e te ∧ PSs (ncx CX P w K mg base N F f A outer s H E) rest t ∧
        te (startF N vs [none]) H (fun _ H1 => H1 a = some (exo a C none) ∧ t { nx := fun _ H' => Q .non H', rt := Q } (startF N vs [none]) H1) ∧
        (eval (.Call (.Attribute (.Call (.Name "super" p0) [] [] p1) "__init__" p2) [e] [] pos) (envF F f s.heap.objs.size) = (do
          let ov ← attributeBase (.Call (.Name "super" p0) [] [] p1) "__init__" (envF F f s.heap.objs.size) (eval (.Call (.Name "super" p0) [] [] p1) (envF F f s.heap.objs.size))
          standAt p2.atName
          let (g, first) ← holding [ov] (getMethod ov "__init__" pl)
          callWith pos g first (backTo pos (starEach [e] (envF F f s.heap.objs.size))) [])) ∧
        swapsWith (.Call (.Attribute (.Call (.Name "super" p0) [] [] p1) "__init__" p2) [e] [] pos) none spos.line (envF F f s.heap.objs.size) = pure false ∧ starEach [e] (envF F f s.heap.objs.size) = [(false, eval e (envF F f s.heap.objs.size))]) :
    ∃ fd, FnOk P w K mg base CX (k + 1) f fd ps sp ∧ KBn K fd ps 1 ks (fun us ws => us ++ ws) (fun vs zs => vs ++ zs) := by
  obtain ⟨oc, od, an, osl, kV, doc, pm, ct, lk⟩ := T.fn
  refine ⟨_, ⟨len, fun A outer s H args us vs Q E hr e0 hbd r hsp => ?_⟩, ⟨fun s us ws _ l1 l2 => BindsTo.of_eq (hbind kV doc pm an ct us ws l1 l2), fun r1 r2 => r1.append r2⟩⟩
  have hl := len _ _ _ _ hsp
  have KX : K.In s.heap := e0.mod.kin.keeps fun b o e => (e0.bs b o e).1
  have lim : s.heap.NoLimit := e0.mod.nolimit.keeps fun b o e => (e0.bs b o e).1
  obtain ⟨oc3, od3, sl3, lcell⟩ := T.cell
  have hcl : F.cl.lookup ("__class__" : Str) = some cc := by rw [T.clo]; rfl
  have cone : ∀ y c, F.cl.lookup y = some c → y = ("__class__" : Str) ∧ c = cc := fun y c z => by
    rw [T.clo] at z
    have z2 := PySem.mem_of_lookup z
    rw [List.mem_singleton] at z2
    exact Prod.mk.inj z2
  have Cl : CellsAt F.cl [("__class__" : Str)] [none] s.heap H := by
    refine ⟨rfl, fun y c z => ?_, fun x y c z1 z2 => (cone x c z1).1.trans (cone y c z2).1.symm, fun i y z => ?_⟩
    · obtain ⟨rfl, rfl⟩ := cone y c z
      exact ⟨(e0.bs _ _ (e0.mod.kin _ _ lcell)).2, _, _, KX _ _ lcell, rfl⟩
    · have hy : y = ("__class__" : Str) := by
        cases i with
        | zero => simpa using z.symm
        | succ i => simp at z
      subst hy
      refine ⟨cc, hcl, fun v z2 => ?_⟩
      cases i with
      | zero => simp at z2
      | succ i => simp at z2
  refine ks_codeAny_call_defAt (fd := PySem.W.fnX F.name F.qual F.params F.body F.scope F.cl .none kV doc pm an (.ref F.c) ct) (body := F.body) (binds := ps.zip us) hr.depth (KX _ _ lk) rfl lim (PySem.W.codeRec_of KX T.rec_) rfl hbd S.nocell (fun ⟨n, _⟩ hy => S.par n (List.of_mem_zip hy).1) (fun h₁ hns kp => ?_) S.co S.gen S.kind
  obtain ⟨a, ys, te, t, pl, ev, ha, he, ht, q, hev, hsw, hst⟩ := hbody A outer s H vs Q E (hr.deeper _) hsp
  have I : L2.Inv (ncx CX P w K mg base N F f A outer s H E) [] (startF N vs [none]) H { s with heap := h₁, toks := s.toks + (ps.zip us).length } := inv_startN S hr.hd e0 hl r Cl hns kp
  show PySem.wpAt (model P w) (A.deeper (envF F f s.heap.objs.size)) (.func F.body (envF F f s.heap.objs.size)) (execs F.body (envF F f s.heap.objs.size)) _ _ _
  have run := sup_run (X := ncx CX P w K mg base N F f A outer s H E) (body := F.body) (p0 := p0) (p1 := p1) (p2 := p2) (pos := pos) (spos := spos) (pl := pl) T rfl rfl hks (S.frk _ (List.mem_singleton_self _)) hcl hN hsl I (by rw [ev]; rfl) ha he q hev
    (by show interactive (envF F f s.heap.objs.size) = false; unfold interactive; rw [show (envF F f s.heap.objs.size).scope.kind = .function from S.kind]; rfl) hsw hst
  have key : PySem.wpAt (model P w) (A.deeper (envF F f s.heap.objs.size)) (.func F.body (envF F f s.heap.objs.size)) (execs (supS e p0 p1 p2 pos spos :: rest) (envF F f s.heap.objs.size)) (fun fl s' => CR CX outer P w H s Q E (.ok (.ret (match fl with | .ret v => v | _ => .none))) s')
      (ncx CX P w K mg base N F f A outer s H E).xe { s with heap := h₁, toks := s.toks + (ps.zip us).length } := by
    refine ks_wpAt_execs_cons (ks_wpAt_mono run (fun fl s1 hs1 => ?_) fun _ _ z => z)
    obtain ⟨rfl, H1, I1, q1⟩ := hs1
    refine wpAt_of_wpAny (wpAny_mono (ht.run [] _ (startF N vs [none]) H1 _ I1 q1) (fun fl s' hs => ?_) fun e s' hs => hs)
    have fin : ∀ {σ' : L2.St} {H' : Hp} {v : V} {u : Value}, L2.Inv (ncx CX P w K mg base N F f A outer s H E) [] σ' H' s' → L2.RelV v u → Q v H' → CE outer P w H s Q u s' := fun {σ' H' v u} J rv q => ⟨v, H', J.os, J.bare, J.base, J.hok, rv, q⟩
    cases fl with
    | ret u =>
      obtain ⟨v, σ', H', J, rv, q⟩ := hs
      exact fin J rv q
    | next =>
      obtain ⟨σ', H', J, q⟩ := hs
      exact fin (v := V.non) (u := Value.none) J rfl q
    | brk =>
      obtain ⟨_, _, _, q⟩ := hs
      exact False.elim q
    | cont =>
      obtain ⟨_, _, _, q⟩ := hs
      exact False.elim q
  rw [← hb] at key
  exact key
end
section
variable {X : Cx} {CX : CXT} {x : Str} {C fI : Addr} {k : Nat} {fd : FuncData} {ps fs : List Str} {ok : List V → Prop} {kws : List Keyword} {tk : TA} {p pos : Pos}
/-- the own dict of an error, fields newest first -/
abbrev xdOf (fs : List Str) (zs : List V) : List (Str × V) := (fs.zip zs).reverse
theorem pmk_kw (T : OexC X.K C) (iC : PySem.W.findIn X.K (.ref C) "__init__" = some (some (.ref fI))) (tI : PySem.W.typeIn X.K (.ref fI) = some (.type "function")) (Fo : FnOk X.prog X.w X.K X.mg X.base CX k fI fd ps (spI C fs ok)) (hb : KBn X.K fd ps 1 fs (fun us ws => us ++ ws) (fun vs zs => vs ++ zs)) (hr : Room (k + 1) X.A)
    (hx : Passes CX X (fun _ _ _ => False)) (hg : Gl X x) (hm : X.mg x = some (.ref C)) (hkw : PK X kws tk) (hall : (backToKw pos (keywordEach kws X.env)).all (·.1.isSome) = true) (hks : (backToKw pos (keywordEach kws X.env)).filterMap (·.1) = fs) (hdb : (x == ("__debug__" : Str)) = false)
    (hpl : ((backTo pos (starEach [] X.env)).any (·.1) || (backToKw pos (keywordEach kws X.env)).any (·.1.isNone)) = false) :
    PMk X (.Call (.Name x p) [] kws pos) (fun σ H Q => tk σ H fun zs H1 => zs.length = fs.length ∧ ok zs ∧ ∀ d, H1 d = none → Q (.ref C) (some d) (upd H1 d (.xd (xdOf fs zs)))) := by
  intro pins s σ H Q I h
  obtain ⟨nm, q, N, bs, bm, sn, sub, ab, col, dd, k0, k1, k2, k3, k5, hC, hbm⟩ := T.cls
  refine wpAny_Call_Name_kw (ld_glob I hg hm ?_ hdb)
  refine PySem.W.callWith_KW0 (h₀ := X.base) I.ok.mod.kin T.kC hall ?_ hpl
  refine thn (hkw.run pos pins s σ H _ I h) fun ws s1 ⟨zs, H1, I1, rz, l2, okz, q1⟩ => ⟨I1.kIn, ?_⟩
  rw [hks]
  show wpAny _ _ (call (.ref C) [] (fs.zip ws)) _ _ _
  obtain ⟨hp, g, dr, tk, os⟩ := s1
  have le : hp.objs.size ≤ hp.objs.size + 1 := Nat.le_succ _
  have fresh : H1 (hp.objs.size + 1) = none := I1.hok.fresh le
  have up : ∀ b o, hp.get? b = some o → ((hp.push (PySem.W.kdv_tup [])).push (PySem.HandSPX.excO C hp.objs.size)).get? b = some o := fun b o e => Heap.get?_push_of_some _ (Heap.get?_push_of_some _ e)
  have there : ((hp.push (PySem.W.kdv_tup [])).push (PySem.HandSPX.excO C hp.objs.size)).get? (hp.objs.size + 1) = some (PySem.HandSPX.excO C hp.objs.size) := by heap_get
  have I2 : L2.Inv X pins σ (upd H1 (hp.objs.size + 1) (exo (hp.objs.size + 1) C none)) ⟨(hp.push (PySem.W.kdv_tup [])).push (PySem.HandSPX.excO C hp.objs.size), g, dr, tk, os⟩ :=
    I1.laid (t' := tk) (a := hp.objs.size + 1) (o := exo (hp.objs.size + 1) C none) (h' := (hp.push (PySem.W.kdv_tup [])).push (PySem.HandSPX.excO C hp.objs.size)) up le (exo_ok there)
  have r1 : Vals [V.ref (hp.objs.size + 1)] [Value.ref (hp.objs.size + 1)] := .cons rfl .nil
  have lw : ws.length = fs.length := by rw [← Paired.length rz]; exact l2
  have hq : spI C fs ok ([V.ref (hp.objs.size + 1)] ++ zs) (upd H1 (hp.objs.size + 1) (exo (hp.objs.size + 1) C none)) (fun v H2 => v = .non ∧ ∃ (d : Addr) (ys : List (Str × V)), H2 (hp.objs.size + 1) = some (exo (hp.objs.size + 1) C (some d)) ∧ H2 d = some (exd d ys) ∧ H1 d = none ∧
      Q (.ref C) (some d) (upd (del H2 (hp.objs.size + 1)) d (.xd ys))) (fun _ _ _ => False) := by
    refine ⟨_, zs, rfl, l2, okz, upd_same, fun dx H' hdx hne a1 a2 a3 => ⟨rfl, dx, xdOf fs zs, a1, a2, by rw [upd_ne hne] at hdx; exact hdx, ?_⟩⟩
    rw [upd_ne hne] at hdx
    have eq : upd (del H' (hp.objs.size + 1)) dx (.xd (xdOf fs zs)) = upd H1 dx (.xd (xdOf fs zs)) := by
      funext b
      by_cases b1 : b = dx
      · rw [b1, upd_same, upd_same]
      · rw [upd_ne b1, upd_ne b1]
        by_cases b2 : b = hp.objs.size + 1
        · rw [b2, del_same, fresh]
        · rw [del_ne b2, a3 b b2 b1, upd_ne b2]
    rw [eq]
    exact q1 dx hdx
  refine wpAny_call (DLx.exc_call F.excBase_ValueError (fun Y => PySem.HandSPX.refsVE_contains Y bm hbm) (I1.kIn _ _ hC) (PySem.W.looks_findIn I1.kIn iC) (fun self => PySem.W.bind_fn I1.kIn self tI) (Nat.zero_le _)
    (codeAny_mono (Fo.run _ X.stack _ _ ⟨[Value.ref (hp.objs.size + 1)], fs.zip ws⟩ ([Value.ref (hp.objs.size + 1)] ++ ws) _ _ (fun _ _ _ => False) (hr.make C [] (fs.zip ws)) (I2.env0.make C [] (fs.zip ws)) (hb.to _ [Value.ref (hp.objs.size + 1)] ws I2.kIn rfl lw) (hb.rel r1 rz) hq) fun r s' hq' => ?_))
  cases r with
  | error er => exact hx pins σ _ _ er s' I2 hq'
  | ok fl =>
    cases fl with
    | ret u =>
      obtain ⟨v, H2, os2, bare2, un2, hok2, rv, ev, d, ys, ea, ed, hd1, q2⟩ := hq'
      subst ev
      obtain ⟨h2, g2, d2, t2, os'⟩ := s'
      exact ⟨rv, mk_end (raises_own T.exC T.tyC) I1 le up un2 hok2 os2 bare2 ea ed hd1 q2⟩
    | next => exact False.elim hq'
    | brk => exact False.elim hq'
    | cont => exact False.elim hq'
end

/-! ### the raise -/
def atV : D → Option V
  | .non => some .non | .bl b => some (.bl b) | .int i => some (.int i) | .str z => some (.str z)
  | _ => none
def atVs : List D → Option (List V)
  | [] => some []
  | d :: ds => (atV d).bind fun v => (atVs ds).map fun vs => v :: vs
/-- short enough to be told in the error's text -/
def okV : V → Bool
  | .int i => decide (i.natAbs.log2 < 1920)
  | .str z => decide (z.length ≤ 1000)
  | _ => false
abbrev okVs (vs : List V) : Prop := vs.all okV = true
section
variable {B : AS} {G H : Hp}
theorem atV_rel {R : List Addr} {v z : V} {d : D} (r : Rel B G H R v d) (h : atV d = some z) : v = z := by
  cases r <;> simp only [atV, Option.some.injEq, reduceCtorEq] at h <;> exact h
theorem atVs_rel : ∀ {R : List Addr} {vs zs : List V} {ds : List D}, Rels B G H R vs ds → atVs ds = some zs → vs = zs
  | _, _, _, _, .nil, h => by cases h; rfl
  | _, _, _, _, .cons r t, h => by
    obtain ⟨v, h1, h⟩ := bind_some h
    obtain ⟨vs, h2, h⟩ := Option.map_eq_some_iff.mp h
    cases h
    rw [atV_rel r h1, atVs_rel t h2]
end
/-- a class of the text whose errors are made by keywords -/
structure CEx (P : Program) (w : World) (K : PySem.W.Frag) (mg : Str → Option Value) (base : Heap) (x : Str) (C : Addr) (fs : List Str) (k : Nat) : Prop where
  oex : OexC K C
  at_ : mg x = some (.ref C)
  ex : ∃ (fI : Addr) (fd : FuncData) (ps : List Str), PySem.W.findIn K (.ref C) "__init__" = some (some (.ref fI)) ∧ PySem.W.typeIn K (.ref fI) = some (.type "function") ∧ FnOk P w K mg base CX0 k fI fd ps (spI C fs okVs) ∧ KBn K fd ps 1 fs (fun us ws => us ++ ws) (fun vs zs => vs ++ zs)
section
variable {Om : Type} {W : Wld Om} {B : AS} {Z : XK} {X : Cx}
theorem dk_nil : PK X [] (tDA W B aNil) := by
  have k : ∀ σ H Q, tDA W B aNil σ H Q → tNil σ H Q := fun σ H Q q => by
    obtain ⟨en, om, G, F, ds, en', om', S, hf, k⟩ := q
    cases hf
    exact k [] H G F [] .refl S ⟨.nil, .nil, fun a h => by simp at h⟩
  exact ⟨fun pos pins s σ H Q I q => pk_nil.run pos pins s σ H Q I (k σ H Q q)⟩
theorem dk_cons {e : Expr} {kws : List Keyword} {nm : Option Str} {kpos : Pos} {f : DE Om} {g : DA Om} (ha : PE X e (tD W B f)) (hr : PK X kws (tDA W B g)) : PK X (⟨nm, e, kpos⟩ :: kws) (tDA W B (aCons f g)) := by
  have k : ∀ σ H Q, tDA W B (aCons f g) σ H Q → tCons (tD W B f) (tDA W B g) σ H Q := fun σ H Q q => by
    obtain ⟨en, om, G, F, ds, en', om', S, hf, k⟩ := q
    obtain ⟨⟨d, en1, om1⟩, h1, hf⟩ := bind_some hf
    obtain ⟨⟨ds', en2, om2⟩, h2, hf⟩ := Option.map_eq_some_iff.mp hf
    cases hf
    refine tD.hold S h1 fun v H1 G1 F1 R1 n1 S1 x1 => tDA.hold S1 h2 fun vs H2 G2 F2 R2 n2 S2 x2 => ?_
    obtain ⟨x1', dj⟩ := x1.keep n2
    refine k (v :: vs) H2 G2 F2 (R1 ++ R2) ⟨n1.sub.trans n2.sub, fun a h ht g f w => ?_⟩ S2 ⟨.cons x1'.rel x2.rel, ?_, fun a ha => (List.mem_append.mp ha).elim (x1'.own a) (x2.own a)⟩
    · obtain ⟨e1, e2, e3, e4⟩ := n1.frm a h ht g f w
      obtain ⟨f1, f2, f3, f4⟩ := n2.frm a (by rw [e1]; exact h) (by rw [e1]; exact ht) e2 e3 w
      exact ⟨f1.trans e1, f2, f3, fun z => (List.mem_append.mp z).elim e4 f4⟩
    · rw [List.nodup_append]
      exact ⟨x1'.nd, x2.nd, fun a ha b hb e => dj a ha (e ▸ hb)⟩
  exact ⟨fun pos pins s σ H Q I q => (pk_cons ha hr).run pos pins s σ H Q I (k σ H Q q)⟩
def sRaise (C : Addr) (fs : List Str) (fa : DA Om) : SD Om := fun en om => (fa en om).bind fun p => (atVs p.1).bind fun zs => if zs.length = fs.length ∧ zs.all okV = true then some (.rz C (xdOf fs zs), p.2.1, p.2.2) else none
theorem ds_raise {x : Str} {C : Addr} {fs : List Str} {k j : Nat} {kws : List Keyword} {p pos rpos : Pos} {fa : DA Om} (Cd : CEx X.prog X.w X.K X.mg X.base x C fs k) (tk : Tk X Z) (hr : Room j X.A) (hkw : PK X kws (tDA W B fa)) (hcalm : X.calm = true := by rfl) (hk : k + 1 ≤ j := by decide) (hg : Gl X x := by rfl)
    (hall : (backToKw pos (keywordEach kws X.env)).all (·.1.isSome) = true := by rfl) (hks : (backToKw pos (keywordEach kws X.env)).filterMap (·.1) = fs := by rfl) (hdb : (x == ("__debug__" : Str)) = false := by decide)
    (hpl : ((backTo pos (starEach [] X.env)).any (·.1) || (backToKw pos (keywordEach kws X.env)).any (·.1.isNone)) = false := by rfl) :
    PS X (.Raise (some (.Call (.Name x p) [] kws pos)) none rpos) (tS W B Z (sRaise C fs fa)) := by
  obtain ⟨fI, fd, ps, iC, tI, Fo, hb⟩ := Cd.ex
  refine (ps_raise hcalm tk (pmk_kw Cd.oex iC tI Fo hb (hr.mono hk) pass0 hg Cd.at_ hkw hall hks hdb hpl)).le fun Dn σ H q => ?_
  obtain ⟨en, om, G, F, o, en', om', S, hf, kk⟩ := q
  obtain ⟨⟨ds, en1, om1⟩, h1, hf⟩ := bind_some hf
  obtain ⟨zs, h2, hf⟩ := bind_some hf
  dsimp only at hf
  split at hf
  · rename_i hz
    cases hf
    refine tDA.hold S h1 fun vs H1 G1 F1 R1 n1 S1 x1 => ?_
    obtain rfl := atVs_rel x1.rel h2
    refine ⟨hz.1, hz.2, fun d hd => ?_⟩
    obtain ⟨S2, nN, _⟩ := S1.new (o := .xd (xdOf fs vs)) hd
    exact kk σ _ G1 F1 (some d) (nN n1).drop S2 (.inr ⟨d, rfl, upd_same⟩)
  · cases hf
end
end DL

/-! DSl: the classes of the text whose __init__ stores one field or two. -/
namespace DL
open PySem PySem.Spec PyProof.Rows L2 NdefX
/-- a text of at most 2000 signs, nothing else changed -/
def Tame (t : TE) (σ : L2.St) (H : Hp) : Prop := ∀ Q : VK, (∀ y : Str, y.length ≤ 2000 → Q (.str y) H) → t σ H Q
theorem tame_txt {z : Str} {σ : L2.St} {H : Hp} (h : z.length ≤ 2000) : Tame (tC (.str z)) σ H := fun _ k => k z h
theorem tame_fld {i : Nat} {v : V} {σ : L2.St} {H : Hp} (h : σ[i]? = some (some v)) (ok : okV v = true) : Tame (tFmt (tVar i)) σ H := fun Q k => by
  refine ⟨v, h, ?_⟩
  unfold okV at ok
  split at ok
  · rename_i n
    have hn := of_decide_eq_true ok
    refine .inr ⟨n, rfl, hn, k _ ?_⟩
    have e := int_text_length_le (k := 1920) (by decide) hn
    rw [PySem.ofString_length]
    omega
  · rename_i z
    have hz := of_decide_eq_true ok
    exact .inl ⟨z, rfl, by rw [sizeLine_eq]; omega, k z (by omega)⟩
  · cases ok
theorem tame_js {σ : L2.St} {H : Hp} {Q : Str → Hp → Prop} (k : ∀ out, Q out H) : ∀ (ts : List TE) (acc : Str), (∀ t ∈ ts, Tame t σ H) → acc.length + 2000 * ts.length ≤ sizeLine → tJs ts acc σ H Q
  | [], acc, _, _ => k acc
  | t :: ts, acc, h, l => h t List.mem_cons_self _ fun y hy => by
    have la : (acc ++ y).length = acc.length + y.length := Str.length_append _ _
    rw [List.length_cons] at l
    exact ⟨y, rfl, by rw [la]; omega, tame_js k ts (acc ++ y) (fun t ht => h t (List.mem_cons_of_mem _ ht)) (by rw [la]; omega)⟩
section
variable {P : Program} {w : World} {K : PySem.W.Frag} {mg : Str → Option Value} {base : Heap} {C f cc : Addr} {F : NF} {slf : Str} {x : Str}
/-- self.f = f -/
abbrev stF (slf f : Str) (q1 q2 q3 q4 : Pos) : Stmt := .Assign [.Attribute (.Name slf q1) f q2] (.Name f q3) q4
theorem cex2 {f1 f2 : Str} {v1 v2 : Expr} {es : List Expr} {p0 p1 p2 pos spos jpos a1 a2 a3 a4 b1 b2 b3 b4 : Pos} {ts : List TE} (T : IniT P K mg C F f cc slf) (S : NScope [slf, f1, f2, ("__class__" : Str)] [slf, f1, f2] [("__class__" : Str)] F.scope)
    (hb : F.body = [supS (.JoinedStr (v1 :: v2 :: es) jpos) p0 p1 p2 pos spos, stF slf f1 a1 a2 a3 a4, stF slf f2 b1 b2 b3 b4]) (hks : F.scope.names.lookup ("super" : Str) = some .globalImplicit)
    (hbind : ∀ (kV doc pm : Value) (an : Option Addr) (ct : Value) (us ws : List Value), us.length = 1 → ws.length = 2 → bindArgs (PySem.W.fnX F.name F.qual F.params F.body F.scope F.cl .none kV doc pm an (.ref F.c) ct) ⟨us, [f1, f2].zip ws⟩ = pure ([slf, f1, f2].zip (us ++ ws)))
    (iC : PySem.W.findIn K (.ref C) "__init__" = some (some (.ref f))) (tI : PySem.W.typeIn K (.ref f) = some (.type "function")) (hm : mg x = some (.ref C)) (no1 : PySem.W.findIn K (.ref C) f1 = some none) (no2 : PySem.W.findIn K (.ref C) f2 = some none)
    (hd : (slf == ("__debug__" : Str)) = false ∧ (slf == ("__classdict__" : Str)) = false ∧ (f1 == ("__debug__" : Str)) = false ∧ (f1 == ("__classdict__" : Str)) = false ∧ (f2 == ("__debug__" : Str)) = false ∧ (f2 == ("__classdict__" : Str)) = false)
    (hj : ∀ (A : Around) (outer : List Env) (s : Shared) (H : Hp) (E : XK), PJ (ncx CX0 P w K mg base [slf, f1, f2, ("__class__" : Str)] F f A outer s H E) (v1 :: v2 :: es) ts) (hev : ∀ L : Addr, ∃ pl : Sem Bool, eval (.Call (.Attribute (.Call (.Name "super" p0) [] [] p1) "__init__" p2) [.JoinedStr (v1 :: v2 :: es) jpos] [] pos) (envF F f L) = (do
      let ov ← attributeBase (.Call (.Name "super" p0) [] [] p1) "__init__" (envF F f L) (eval (.Call (.Name "super" p0) [] [] p1) (envF F f L))
      standAt p2.atName
      let (g, first) ← holding [ov] (getMethod ov "__init__" pl)
      callWith pos g first (backTo pos (starEach [.JoinedStr (v1 :: v2 :: es) jpos] (envF F f L))) []))
    (hsw : ∀ L : Addr, swapsWith (.Call (.Attribute (.Call (.Name "super" p0) [] [] p1) "__init__" p2) [.JoinedStr (v1 :: v2 :: es) jpos] [] pos) none spos.line (envF F f L) = pure false) (few : ts.length ≤ 100)
    (tame : ∀ (σ : L2.St) (H : Hp) (y1 y2 : V), σ[1]? = some (some y1) → σ[2]? = some (some y2) → okV y1 = true → okV y2 = true → ∀ t ∈ ts, Tame t σ H) : CEx P w K mg base x C [f1, f2] 1 := by
  have par : ∀ y ∈ [slf, f1, f2], F.scope.names.lookup y = some .local := S.par
  have mk := ini_ok (CX := CX0) (w := w) (base := base) (k := 0) (ps := [slf, f1, f2]) (ks := [f1, f2]) (sp := spI C [f1, f2] okVs) T S rfl (par _ (by simp)) hks hb hbind (fun vs H Q E h => by
    obtain ⟨a, ys, rfl, hl, _⟩ := h
    rw [List.length_cons, hl]; rfl) (fun A outer s H vs Q E hr h => by
    obtain ⟨a, ys, rfl, hl, ok, ha, k⟩ := h
    match ys, hl with
    | [y1, y2], _ =>
      have ok1 : okV y1 = true ∧ okV y2 = true := by simpa [okVs] using ok
      have vr : ∀ (i : Nat) (y : Str) (pos : Pos), [slf, f1, f2][i]? = some y → (y == ("__debug__" : Str)) = false → (y == ("__classdict__" : Str)) = false → PE (ncx CX0 P w K mg base [slf, f1, f2, ("__class__" : Str)] F f A outer s H E) (.Name y pos) (tVar i) := fun i y pos hi d1 d2 => by
        refine pe_var ?_ (.inl (par y (List.mem_of_getElem? hi))) d1 d2
        show ([slf, f1, f2] ++ [("__class__" : Str)])[i]? = some y
        rw [List.getElem?_append_left (List.getElem?_eq_some_iff.mp hi).1]
        exact hi
      obtain ⟨pl, hpl⟩ := hev s.heap.objs.size
      refine ⟨a, [y1, y2], _, _, pl, rfl, ha, pe_joined (hj A outer s H E), pss_cons (ps_ost (vr 0 slf _ rfl hd.1 hd.2.1) (vr 1 f1 _ rfl hd.2.2.1 hd.2.2.2.1)) (pss_one (ps_ost (vr 0 slf _ rfl hd.1 hd.2.1) (vr 2 f2 _ rfl hd.2.2.2.2.1 hd.2.2.2.2.2))), ?_, hpl, hsw _, rfl⟩
      refine tame_js (fun out => ⟨ha, ?_⟩) ts Str.empty (tame _ _ y1 y2 rfl rfl ok1.1 ok1.2) (by rw [sizeLine_eq]; show 0 + _ ≤ _; omega)
      refine ⟨y1, rfl, .ref a, rfl, a, C, rfl, T.oex, no1, .inl ⟨ha, fun dx hdx hne => ?_⟩⟩
      refine ⟨y2, rfl, .ref a, rfl, a, C, rfl, T.oex, no2, .inr ⟨dx, [(f1, y1)], by rw [upd_same], by rw [upd_ne hne, upd_same], by show 1 ≤ 900; decide, ?_⟩⟩
      refine k dx _ hdx hne (by rw [upd_ne (Ne.symm hne), upd_same]) (by rw [upd_same]; rfl) fun b n1 n2 => by rw [upd_ne n2, upd_ne n1, upd_ne n2])
  obtain ⟨fd, Fo, hk⟩ := mk
  exact ⟨T.oex, hm, f, fd, _, iC, tI, Fo, hk⟩
theorem cex1 {f1 : Str} {v1 v2 : Expr} {es : List Expr} {p0 p1 p2 pos spos jpos a1 a2 a3 a4 : Pos} {ts : List TE} (T : IniT P K mg C F f cc slf) (S : NScope [slf, f1, ("__class__" : Str)] [slf, f1] [("__class__" : Str)] F.scope)
    (hb : F.body = [supS (.JoinedStr (v1 :: v2 :: es) jpos) p0 p1 p2 pos spos, stF slf f1 a1 a2 a3 a4]) (hks : F.scope.names.lookup ("super" : Str) = some .globalImplicit)
    (hbind : ∀ (kV doc pm : Value) (an : Option Addr) (ct : Value) (us ws : List Value), us.length = 1 → ws.length = 1 → bindArgs (PySem.W.fnX F.name F.qual F.params F.body F.scope F.cl .none kV doc pm an (.ref F.c) ct) ⟨us, [f1].zip ws⟩ = pure ([slf, f1].zip (us ++ ws)))
    (iC : PySem.W.findIn K (.ref C) "__init__" = some (some (.ref f))) (tI : PySem.W.typeIn K (.ref f) = some (.type "function")) (hm : mg x = some (.ref C)) (no1 : PySem.W.findIn K (.ref C) f1 = some none)
    (hd : (slf == ("__debug__" : Str)) = false ∧ (slf == ("__classdict__" : Str)) = false ∧ (f1 == ("__debug__" : Str)) = false ∧ (f1 == ("__classdict__" : Str)) = false)
    (hj : ∀ (A : Around) (outer : List Env) (s : Shared) (H : Hp) (E : XK), PJ (ncx CX0 P w K mg base [slf, f1, ("__class__" : Str)] F f A outer s H E) (v1 :: v2 :: es) ts) (hev : ∀ L : Addr, ∃ pl : Sem Bool, eval (.Call (.Attribute (.Call (.Name "super" p0) [] [] p1) "__init__" p2) [.JoinedStr (v1 :: v2 :: es) jpos] [] pos) (envF F f L) = (do
      let ov ← attributeBase (.Call (.Name "super" p0) [] [] p1) "__init__" (envF F f L) (eval (.Call (.Name "super" p0) [] [] p1) (envF F f L))
      standAt p2.atName
      let (g, first) ← holding [ov] (getMethod ov "__init__" pl)
      callWith pos g first (backTo pos (starEach [.JoinedStr (v1 :: v2 :: es) jpos] (envF F f L))) []))
    (hsw : ∀ L : Addr, swapsWith (.Call (.Attribute (.Call (.Name "super" p0) [] [] p1) "__init__" p2) [.JoinedStr (v1 :: v2 :: es) jpos] [] pos) none spos.line (envF F f L) = pure false) (few : ts.length ≤ 100)
    (tame : ∀ (σ : L2.St) (H : Hp) (y1 : V), σ[1]? = some (some y1) → okV y1 = true → ∀ t ∈ ts, Tame t σ H) : CEx P w K mg base x C [f1] 1 := by
  have par : ∀ y ∈ [slf, f1], F.scope.names.lookup y = some .local := S.par
  have mk := ini_ok (CX := CX0) (w := w) (base := base) (k := 0) (ps := [slf, f1]) (ks := [f1]) (sp := spI C [f1] okVs) T S rfl (par _ (by simp)) hks hb hbind (fun vs H Q E h => by
    obtain ⟨a, ys, rfl, hl, _⟩ := h
    rw [List.length_cons, hl]; rfl) (fun A outer s H vs Q E hr h => by
    obtain ⟨a, ys, rfl, hl, ok, ha, k⟩ := h
    match ys, hl with
    | [y1], _ =>
      have ok1 : okV y1 = true := by simpa [okVs] using ok
      have vr : ∀ (i : Nat) (y : Str) (pos : Pos), [slf, f1][i]? = some y → (y == ("__debug__" : Str)) = false → (y == ("__classdict__" : Str)) = false → PE (ncx CX0 P w K mg base [slf, f1, ("__class__" : Str)] F f A outer s H E) (.Name y pos) (tVar i) := fun i y pos hi d1 d2 => by
        refine pe_var ?_ (.inl (par y (List.mem_of_getElem? hi))) d1 d2
        show ([slf, f1] ++ [("__class__" : Str)])[i]? = some y
        rw [List.getElem?_append_left (List.getElem?_eq_some_iff.mp hi).1]
        exact hi
      obtain ⟨pl, hpl⟩ := hev s.heap.objs.size
      refine ⟨a, [y1], _, _, pl, rfl, ha, pe_joined (hj A outer s H E), pss_one (ps_ost (vr 0 slf _ rfl hd.1 hd.2.1) (vr 1 f1 _ rfl hd.2.2.1 hd.2.2.2)), ?_, hpl, hsw _, rfl⟩
      refine tame_js (fun out => ⟨ha, ?_⟩) ts Str.empty (tame _ _ y1 rfl ok1) (by rw [sizeLine_eq]; show 0 + _ ≤ _; omega)
      refine ⟨y1, rfl, .ref a, rfl, a, C, rfl, T.oex, no1, .inl ⟨ha, fun dx hdx hne => ?_⟩⟩
      refine k dx _ hdx hne (by rw [upd_same]) (by rw [upd_ne hne, upd_same]; rfl) fun b n1 n2 => by rw [upd_ne n1, upd_ne n2])
  obtain ⟨fd, Fo, hk⟩ := mk
  exact ⟨T.oex, hm, f, fd, _, iC, tI, Fo, hk⟩
end
end DL

/-! DSm: what an except suite asks of its error; counting in a list. -/
namespace DL
open PySem PySem.Spec PyProof.Rows L2
/-! ### the world with an error's dict in it -/
def Wxd {Om : Type} (W : Wld Om) (o : Option Addr) (fs : List (Str × V)) : Wld Om where
  ok := fun m H => W.ok m H ∧ Xd H o fs
  fp := W.fp
  here := fun m H a h => W.here m H a h.1
  loc := fun m H H' h1 h2 h => ⟨W.loc m H H' h1 h2 h.1, h.2.elim .inl fun ⟨d, e1, e2⟩ => .inr ⟨d, e1, h2 d _ e2 (fun _ z => nomatch z) (fun _ z => nomatch z) (fun _ z => nomatch z) (fun _ _ z => nomatch z)⟩⟩
section
variable {X : Cx} {a C : Addr} {oe : Obj} {o : Option Addr} {pn : List (Addr × Obj)}
/-- isinstance(e, c), whether e has a dict of its own or not -/
def rIsX (K : PySem.W.Frag) (C a : Addr) (o : Option Addr) : List V → Hp → VK → Prop := fun xs H Q => ∃ (c : V) (cv : Value) (b : Bool) (fs : List (Str × V)), xs = [.ref a, c] ∧ (∀ u, RelV c u → u = cv) ∧ PySem.W.kitOne K (.ref C) cv = some b ∧ Xd H o fs ∧ Q (.bl b) H
theorem call_isX (T : ExcC X.K C) (hz : Zc (.ref C) o oe) (hf : ∃ vs, oe.data = .fields vs) : CallR (X.suite a ((a, oe) :: pn)) (.builtin "isinstance") (rIsX X.K C a o) := by
  intro pins s σ H xs us Q I r h
  obtain ⟨c, cv, b, fs, rfl, hcv, e, hx, q⟩ := h
  cases r with
  | cons rx rr =>
    cases rr with
    | cons rt rr =>
      cases rr
      cases rx
      obtain rfl := hcv _ rt
      obtain ⟨there, _⟩ := I.pin (a, oe) (List.mem_append_left _ List.mem_cons_self)
      obtain ⟨vs, hv⟩ := hf
      obtain ⟨cd, hcd, _⟩ := PySem.W.any_some T.hd
      have inst : ∃ od, PySem.W.InstAt s.heap a oe C od := by
        have nc : PySem.W.notCls oe = true := by unfold PySem.W.notCls; rw [hv] <;> rfl
        rcases hx with ⟨_, e0⟩ | ⟨d, e0, e1⟩
        · exact ⟨none, there, hz.1, nc, by rw [hz.2, e0]; trivial⟩
        · have z : ObjOk X.prog X.w H s.heap d (.xd fs) := I.hok d _ e1
          obtain ⟨mA, hns, _⟩ := z
          obtain ⟨od, ho, _⟩ := lookIn_ns hns
          exact ⟨some od, there, hz.1, nc, by rw [hz.2, e0]; exact ho⟩
      obtain ⟨od, J⟩ := inst
      exact PySem.W.kia_one (PySem.W.kitx_exc (od := od) (by rw [hcd]; rfl) T.hg T.hk T.hs T.ha T.hn T.ht T.hm) I.kIn J e (fun z => nomatch z) fun tk => ⟨.bl b, H, I.kept (t' := tk) fun _ _ z => z, rfl, q⟩
/-! ### by data -/
variable {Om : Type} {W : Wld Om} {B : AS} {Z : XK} {fs : List (Str × V)}
def cIsX (a : Addr) (kit : Value → Option Bool) : List D → Option D
  | [.opq b, .opq c] => if b = a then (kit (.ref c)).map .bl else none
  | [.opq b, .ty n] => if b = a then (kit (.type n)).map .bl else none
  | _ => none
theorem sc_isX {K : PySem.W.Frag} : SC (Wxd W o fs) B (cIsX a (PySem.W.kitOne K (.ref C))) (rIsX K C a o) := by
  intro en om G H F σ vs ds c Q S r hg k
  unfold cIsX at hg
  split at hg
  · rename_i b c2
    split at hg
    · rename_i eb
      subst eb
      obtain ⟨t, ht, rfl⟩ := Option.map_eq_some_iff.mp hg
      cases vs with
      | nil => have := r.length; simp at this
      | cons v vs =>
        obtain ⟨r1, r2⟩ := r.inv0
        obtain ⟨w, rfl, r3⟩ := one0 r2
        cases r1
        cases r3
        exact ⟨.ref c2, .ref c2, t, fs, rfl, fun u z => z, ht, S.wok.2, k _ H G [] .refl S (.sh (.bl _))⟩
    · cases hg
  · rename_i b n
    split at hg
    · rename_i eb
      subst eb
      obtain ⟨t, ht, rfl⟩ := Option.map_eq_some_iff.mp hg
      cases vs with
      | nil => have := r.length; simp at this
      | cons v vs =>
        obtain ⟨r1, r2⟩ := r.inv0
        obtain ⟨w, rfl, r3⟩ := one0 r2
        cases r1
        cases r3
        exact ⟨.ty n, .type n, t, fs, rfl, fun u z => z, ht, S.wok.2, k _ H G [] .refl S (.sh (.bl _))⟩
    · cases hg
  · cases hg
def vD : V → Option D
  | .non => some .non | .bl b => some (.bl b) | .int i => some (.int i) | .str z => some (.str z)
  | _ => none
theorem vD_rel {B : AS} {G H : Hp} {v : V} {d : D} (h : vD v = some d) : Rel B G H [] v d := by
  cases v <;> simp only [vD, Option.some.injEq, reduceCtorEq] at h <;> subst h <;> constructor
/-- e.f -/
def dFld (a : Addr) (fs : List (Str × V)) (n : Str) (f : DE Om) : DE Om := fun en om => (f en om).bind fun p => match p.1 with
  | .opq b => if b = a then (fs.lookup n).bind fun v => (vD v).map fun d => (d, p.2.1, p.2.2) else none
  | _ => none
theorem de_fld {e : Expr} {n : Str} {pos : Pos} {f : DE Om} (T : ExcC X.K C) (hno : PySem.W.findIn X.K (.ref C) n = some none) (hz : Zc (.ref C) o oe) (hf : ∃ vs, oe.data = .fields vs) (he : PE (X.suite a ((a, oe) :: pn)) e (tD (Wxd W o fs) B f)) (hb : attributeBase e n X.env (eval e X.env) = eval e X.env := by rfl) :
    PE (X.suite a ((a, oe) :: pn)) (.Attribute e n pos) (tD (Wxd W o fs) B (dFld a fs n f)) := (pe_xf ⟨T.hg, T.hk, T.hs, T.hd⟩ hno hz hf he hb).le fun σ H Q q => by
  obtain ⟨en, om, G, F, c, en', om', S, h0, k⟩ := q
  obtain ⟨⟨d, en1, om1⟩, h1, h2⟩ := bind_some h0
  clear h0
  cases d <;> dsimp only at h2 <;> first | (cases h2; done) | skip
  rename_i b
  by_cases eb : b = a
  · subst eb
    · rw [if_pos rfl] at h2
      obtain ⟨v, hv, h2⟩ := bind_some h2
      obtain ⟨d2, hd, h2⟩ := Option.map_eq_some_iff.mp h2
      cases h2
      refine tD.hold S h1 fun x H1 G1 F1 R1 n1 S1 x1 => ?_
      obtain ⟨rel, _, _⟩ := x1
      cases rel
      rcases S1.wok.2 with ⟨e0, _⟩ | ⟨dd, e0, e1⟩
      · rw [e0] at hv; cases hv
      · exact ⟨rfl, rfl, dd, fs, v, e0, e1, hv, k v H1 G1 F1 [] n1 S1 (.sh (vD_rel hd))⟩
  · rw [if_neg eb] at h2
    cases h2
/-- a class of the text, as a thing -/
theorem de_cls {x : Str} {C : Addr} {pos : Pos} {X : Cx} (hm : X.mg x = some (.ref C)) (hg : Gl X x := by rfl) (hd : (x == ("__debug__" : Str)) = false := by decide) : PE X (.Name x pos) (tD W B (dC (.opq C))) := de_const (pe_glob (v := .ref C) hg hm rfl hd) _ fun _ _ => .opq C
end
/-! ### xs.count(y), xs.index(y) of truth values -/
section
variable {X : Cx}
def rCntV (K : PySem.W.Frag) : V → List V → Hp → VK → Prop := fun x xs H Q => ∃ (p : Addr) (ys : List V) (y : V), x = .ref p ∧ xs = [y] ∧ SqL K H p ys ∧ flatV y = true ∧ ys.all flatV = true ∧ Q (.int (ys.countP fun z => eqV z y : Nat)) H
theorem count_eqU {y : V} : ∀ {ys : List V} {its : List Value}, Vals ys its → ys.all flatV = true → its.countP (eqU y) = ys.countP fun z => eqV z y
  | _, _, .nil, _ => rfl
  | _, _, .cons (a := z) (l₁ := ys) r t, f => by
    have f1 : flatV z = true := List.all_eq_true.mp f z List.mem_cons_self
    have f2 : ys.all flatV = true := List.all_eq_true.mpr fun w hw => List.all_eq_true.mp f w (List.mem_cons_of_mem _ hw)
    rw [List.countP_cons, List.countP_cons, count_eqU t f2, eqU_of r f1]
theorem mt_countV : MtR X "list.count" (rCntV X.K) := by
  intro pins s σ H x xs v us Q I rx rxs h
  obtain ⟨p, ys, y, rfl, rfl, hs, fy, fys, q⟩ := h
  cases rx
  obtain ⟨u, rfl, ru⟩ := rxs.one
  obtain ⟨its, rv, ⟨⟨cls, dd, data, sl⟩, n, ho, hc, hdn, hd⟩, hlen⟩ := I.list hs
  simp only at hc hd
  subst hc hd
  refine call_meets PySem.F.slot_list_count ⟨_, ho, rfl⟩ PySem.F.entry_list_count (PySem.F.args_list_count_2 _ _) (SeqAt.list_countAt p its.toArray n dd sl u (eqU y)) ⟨ho, fun u' hu' => mem_eqAt ru fy rv fys u' (by simpa using hu'), ?_⟩
  refine ⟨.int (ys.countP fun z => eqV z y : Nat), H, I.tok _, ⟨s.toks, ?_⟩, q⟩
  show Value.int ((its.toArray.toList.countP (eqU y) : Nat) : Int) s.toks = _
  have e : its.toArray.toList.countP (eqU y) = ys.countP fun z => eqV z y := count_eqU rv fys
  rw [e]
variable {Om : Type} {W : Wld Om} {B : AS}
/-- xs.m(b), m of truth values -/
def dBm (g : List Bool → Bool → Option D) (f : DE Om) (fa : DA Om) : DE Om := fun en om => (f en om).bind fun p => match frz p.1 with
  | .lst _ l => (fa p.2.1 p.2.2).bind fun q => match q.1 with
    | [.bl b] => ((blsOf l).bind fun bs => g bs b).map fun d => (d, q.2.1, q.2.2)
    | _ => none
  | _ => none
theorem bm_use {K : PySem.W.Frag} {r : V → List V → Hp → VK → Prop} {g : List Bool → Bool → Option D} {f : DE Om} {fa : DA Om} {σ : L2.St} {H : Hp} {Q : VK} (hr : ∀ {H : Hp} {p : Addr} {bs : List Bool} {b : Bool} {d : D} {Q : VK}, SqL K H p (bs.map V.bl) → g bs b = some d → (∀ v, (∀ B G, Rel B G H [] v d) → Q v H) → r (.ref p) [.bl b] H Q) (q : tD W B (dBm g f fa) σ H Q) : tBM K "list" r (tD W B f) (tDA W B fa) σ H Q := by
  obtain ⟨en, om, G, F, c, en', om', S, h0, k⟩ := q
  obtain ⟨⟨d, en1, om1⟩, h1, h2⟩ := bind_some h0
  clear h0
  refine tD.use S h1 fun x H1 G1 F1 n1 S1 r1 => ?_
  dsimp only at h2
  cases hd : frz d <;> rw [hd] at h2 <;> first | (cases h2; done) | skip
  rename_i g0 l
  rw [hd] at r1
  obtain ⟨⟨ds, en2, om2⟩, h3, h2⟩ := bind_some h2
  dsimp only at h2
  obtain ⟨a, vs, rfl, ga, rs⟩ := r1.asL
  refine ⟨.inl ⟨rfl, _, .of (S1.sub _ _ ga)⟩, tDA.hold S1 h3 fun ws H2 G2 F2 R2 n2 S2 x2 => ?_⟩
  split at h2
  · rename_i b
    obtain ⟨d2, hg, h2⟩ := Option.map_eq_some_iff.mp h2
    cases h2
    obtain ⟨bs, hb, hg2⟩ := bind_some hg
    clear hg
    have el := blsOf_eq hb
    subst el
    obtain ⟨rfl, _⟩ := Rels.bls rs
    have ew : ws = [V.bl b] := by
      have : Rels B G2 H2 R2 ws ([b].map D.bl) := x2.rel
      exact (Rels.bls this).1
    subst ew
    exact hr (.of (S2.sub _ _ (n2.sub _ _ ga))) hg2 fun v rv => k v H2 G2 F2 [] (n1.trans n2.drop) S2 (.sh (rv _ _))
  · cases h2
def cCnt (bs : List Bool) (b : Bool) : Option D := some (.int (bs.count b : Nat))
def cIdx (bs : List Bool) (b : Bool) : Option D := (bs.idxOf? b).map fun j => .int (j : Nat)
theorem flat_bls (bs : List Bool) : (bs.map V.bl).all flatV = true := by
  rw [List.all_map]
  exact List.all_eq_true.mpr fun _ _ => rfl
theorem de_cnt {e : Expr} {f : DE Om} {fa : DA Om} (h : PE X e (tBM X.K "list" (rCntV X.K) (tD W B f) (tDA W B fa))) : PE X e (tD W B (dBm cCnt f fa)) := h.le fun _ _ _ q => bm_use (fun {H p bs b d Q} hs hg k => by
  cases hg
  refine ⟨p, _, .bl b, rfl, rfl, hs, rfl, flat_bls bs, ?_⟩
  have e : (bs.map V.bl).countP (fun z => eqV z (.bl b)) = bs.count b := by
    rw [List.countP_map, List.count_eq_countP]
    rfl
  rw [e]
  exact k _ fun B G => .int _) q
theorem idx_first : ∀ {bs : List Bool} {b : Bool} {j : Nat}, bs.idxOf? b = some j → bs[j]? = some b ∧ ∀ m z, m < j → bs[m]? = some z → z ≠ b
  | [], b, j, h => by simp at h
  | c :: bs, b, j, h => by
    rw [List.idxOf?_cons] at h
    by_cases e : c = b
    · subst e
      simp at h
      subst h
      exact ⟨rfl, fun m z hm => absurd hm (Nat.not_lt_zero m)⟩
    · have e2 : (c == b) = false := by simpa using e
      rw [e2] at h
      simp only [Bool.false_eq_true, if_false] at h
      obtain ⟨i, hi, rfl⟩ := Option.map_eq_some_iff.mp h
      obtain ⟨h1, h2⟩ := idx_first hi
      refine ⟨by simpa using h1, fun m z hm hz => ?_⟩
      cases m with
      | zero => simp at hz; subst hz; exact e
      | succ m => exact h2 m z (by omega) (by simpa using hz)
theorem de_idx {e : Expr} {f : DE Om} {fa : DA Om} (h : PE X e (tBM X.K "list" (rIndex X.K) (tD W B f) (tDA W B fa))) : PE X e (tD W B (dBm cIdx f fa)) := h.le fun _ _ _ q => bm_use (fun {H p bs b d Q} hs hg k => by
  obtain ⟨j, hj, rfl⟩ := Option.map_eq_some_iff.mp hg
  have hl := idx_first hj
  refine ⟨p, _, .bl b, j, .bl b, rfl, rfl, hs, rfl, flat_bls bs, ?_, beq_self_eq_true b, fun m z' hm hz => ?_, k _ fun B G => .int _⟩
  · rw [List.getElem?_map, hl.1]; rfl
  · rw [List.getElem?_map] at hz
    obtain ⟨z, hz1, rfl⟩ := Option.map_eq_some_iff.mp hz
    exact beq_eq_false_iff_ne.mpr (hl.2 m z hm hz1)) q
end
end DL

/-! DSo: x(lambda: f(..)), x a def that hands back what f does, or what it makes of f's error. -/
namespace DL
open PySem PySem.Spec PyProof.Rows L2 LamX
section
variable {X : Cx} {pins : List (Addr × Obj)} {σ : L2.St} {H : Hp} {s : Shared}
/-- a lambda is made; of all that is known only the table at P is another -/
theorem lam_one {c P : Addr} {params : Arguments} {body : Expr} {scope : Scope} {pos : Pos} {E : Value → Shared → Prop} {Q : Value → Shared → Prop} (I : L2.Inv X pins σ H s) (Tb : TabB X.base X.mg c P) (here : X.env.code = .ref c) (tab : TabS H P (X.env.qual ++ "<lambda>"))
    (nodef : defaultsOf params X.env = ([], [])) (caught : ∀ y ∈ scope.names, y.2 = .free → ∃ c, X.env.cells.lookup y.1 = some c)
    (go : ∀ (f c' : Addr) (pm ctv : Value) (H1 : Hp) (s' : Shared), L2.Inv X pins σ H1 s' → (∀ b o, b ≠ P → H b = some o → H1 b = some o) → TabS H1 P (X.env.qual ++ "<lambda>") →
      s'.heap.get? f = some (PySem.W.kla_obj "<lambda>" (X.env.qual ++ "<lambda>") params body scope (cloFrom X.env.cells scope.names []) pm c' ctv) → H1 f = none → f ∉ frs X.stack → H1 c' = some (CodeO c' (X.env.qual ++ "<lambda>")) → Q (.ref f) s') :
    wpAny (model X.prog X.w) X.A (eval (.Lambda params body scope pos) X.env) Q E s := by
  obtain ⟨ps, atP, three, known⟩ := tab
  refine PySem.W.kla_eval nodef ?_
  have bm : s.heap.BuiltinsAt X.mg P := Tb.bm.keeps I.bk
  have objP : s.heap.get? P = some { cls := .none, data := .fields ps } := I.hok P _ atP
  have off : ∀ f, s.heap.objs.size ≤ f → f ∉ frs X.stack := fun f le z => by
    rcases List.mem_cons.mp (I.stkSub _ z) with e | e
    · exact Nat.lt_irrefl _ (Nat.lt_of_lt_of_le I.lt (e ▸ le))
    · exact I.nofs le e
  cases hc : codeAmong pos ps.toList with
  | some cv =>
    obtain ⟨c', rfl, old⟩ := known pos cv hc
    refine PySem.W.kla_makeFunctionHit (mg := X.mg) (c := c) (P := P) (ps := ps) (closure_ok caught) I.ok.glob (I.mod.glob.keeps I.bk) here (Tb.code.keeps I.bk) objP three hc bm fun ctv h' tk up le => ?_
    have J : L2.Inv X pins σ H { s with heap := h'.push (PySem.W.kla_obj "<lambda>" (X.env.qual ++ "<lambda>") params body scope (cloFrom X.env.cells scope.names []) ((X.mg "__name__").getD .none) c' ctv), toks := tk } := I.kept fun b o e => Heap.get?_push_of_some _ (up b o e)
    exact go h'.objs.size c' _ ctv H _ J (fun _ _ _ e => e) ⟨ps, atP, three, known⟩ (Heap.get?_push_size _ rfl) (I.hok.fresh le) (off _ le) old
  | none =>
    refine PySem.W.kla_makeFunction (mg := X.mg) (c := c) (P := P) (ps := ps) (closure_ok caught) I.ok.glob (I.mod.glob.keeps I.bk) here (Tb.code.keeps I.bk) objP three hc Tb.gP bm fun c' ctv h' tk up le lt rec newP => ?_
    obtain ⟨c2, oc, vs, t, e2, hoc, hd, hv⟩ := rec
    cases e2
    have le2 : s.heap.objs.size ≤ h'.objs.size := Nat.le_trans le (Nat.le_of_lt lt)
    have nC : H c' = none := I.hok.fresh le
    have J := inv_table (t' := tk) (more := #[rawInt pos.line, rawInt pos.col, .ref c']) (h' := h'.push (PySem.W.kla_obj "<lambda>" (X.env.qual ++ "<lambda>") params body scope (cloFrom X.env.cells scope.names []) ((X.mg "__name__").getD .none) c' ctv)) I atP
      (fun b o n e => Heap.get?_push_of_some _ (up b o n e)) (Heap.get?_push_of_some _ newP) le ⟨oc, vs, t, Heap.get?_push_of_some _ hoc, hd, hv⟩
    have ext : ∀ b o, b ≠ P → H b = some o → upd (upd H P (.tbl (ps ++ #[rawInt pos.line, rawInt pos.col, .ref c']))) c' (CodeO c' (X.env.qual ++ "<lambda>")) b = some o := fun b o n e => by
      rw [upd_ne (ne_of_none e nC), upd_ne n]
      exact e
    have three2 : TriplesOk (ps ++ #[rawInt pos.line, rawInt pos.col, .ref c']).toList := by
      have el : (ps ++ #[rawInt pos.line, rawInt pos.col, .ref c']).toList = ps.toList ++ [rawInt pos.line, rawInt pos.col, .ref c'] := by simp
      rw [el]
      exact PySem.TriplesOk_snoc _ _ _ _ three
    refine go h'.objs.size c' _ ctv _ _ J ext ⟨_, by rw [upd_ne (ne_of_none atP nC), upd_same], three2, fun p' cv hcv => ?_⟩ (Heap.get?_push_size _ rfl) ?_ (off _ le2) upd_same
    · have el : (ps ++ #[rawInt pos.line, rawInt pos.col, .ref c']).toList = ps.toList ++ [rawInt pos.line, rawInt pos.col, .ref c'] := by simp
      rw [el] at hcv
      rcases among_app _ three hcv with z | z
      · obtain ⟨c0, e1, e2⟩ := known p' cv z
        exact ⟨c0, e1, ext _ _ (fun w => by rw [w, atP] at e2; exact codeO_ne ps (Option.some.inj e2).symm) e2⟩
      · exact ⟨c', z, upd_same⟩
    · rw [upd_ne (Nat.ne_of_gt lt), upd_ne (Nat.ne_of_gt (Nat.lt_of_lt_of_le (Heap.lt_size objP) le2))]
      exact I.hok.fresh le2
end
/-- a world that holds the table at P, whose code objects are all named q -/
structure LamW {Om : Type} (W : Wld Om) (P : Addr) (q : Str) : Prop where
  fpP : W.fp P
  tab : ∀ om H, W.ok om H → TabS H P q
  put : ∀ om H H1, W.ok om H → (∀ b o, b ≠ P → H b = some o → H1 b = some o) → TabS H1 P q → W.ok om H1
section
variable {Om : Type} {W : Wld Om} {B : AS} {en : Ev} {om : Om} {G H H1 : Hp} {F : List Addr} {σ : L2.St} {P : Addr} {q : Str}
theorem Rst.lam (L : LamW W P q) (S : Rst W B en om G F σ H) (ext : ∀ b o, b ≠ P → H b = some o → H1 b = some o) (T : TabS H1 P q) : Rst W B en om G F σ H1 ∧ Nx W G F H G F H1 [] := by
  have same : ∀ a, H a ≠ none → ¬ W.fp a → H1 a = H a := fun a h n => by
    cases e : H a with
    | none => exact absurd e h
    | some o => exact ext a o (fun z => n (z ▸ L.fpP)) e
  refine ⟨⟨fun a o e => ext a o (fun z => by have := S.WG P L.fpP; rw [← z, e] at this; cases this) (S.sub a o e), S.env.mono (.refl _ _) fun a ha => same a (S.fs ha) (S.FW a ha), S.nd, S.FG, S.FW, S.WG, S.BG, L.put om H H1 S.wok ext T⟩, ⟨Same.refl _, fun a h ht g f w => ⟨same a h w, g, f, by simp⟩⟩⟩
end
section
variable {Om : Type} {W : Wld Om} {B : AS} {en en1 : Ev} {om om1 : Om} {G H : Hp} {F : List Addr} {σ : L2.St} {Q : VK}
/-- from the caller's state: what a callee without arguments finds, and how its worth comes back -/
theorem Rst.enter {d : D} {om2 : Om} (S : Rst W B en om G F σ H) (ok2 : W.ok om H) (k : ∀ v H' G' F' R, Nx W G F H G' F' H' R → Rst W B en om2 G' F' σ H' → Has W B G' F' H' R v d → Q v H') :
    ∃ Bo : AS, (∀ a, Bo a → cut W H a ≠ none) ∧ ∀ v H' G' R, Same (cut W H) G' → Same G' H' → Rel Bo G' H' R v d → R.Nodup → (∀ a ∈ R, G' a = none ∧ ¬ W.fp a) → (∀ a, W.fp a → G' a = none) → noB d = true → W.ok om2 H' → Q v H' := by
  have t := callX_use (Z := fun _ _ _ => False) (M := fun ts _ => if ts.length = 0 then some (.inl d, om2) else none) (ps := []) (fa := aNil) (r := .inl d) (Q := Q) (fun ts om r h => by
    split at h
    · assumption
    · cases h) S (rfl : aNil en om = some ([], en, om)) rfl k
  obtain ⟨en0, om0, G0, F0, ds, en3, om3, S0, h0, k0⟩ := t
  cases h0
  have q := k0 [] H G0 F0 [] .refl S0 ⟨.nil, .nil, fun a h => by simp at h⟩
  obtain ⟨Bo, ts, om4, r, om5, hl, hbo, hrel, hw, hM, kk⟩ := q
  have e0 : ts = [] := by
    have := hrel.length
    simp at this
    exact List.eq_nil_of_length_eq_zero this.symm
  subst e0
  have hM : some ((Sum.inl d : Res), om2) = some (r, om5) := by simpa using hM
  cases hM
  exact ⟨Bo, hbo, kk⟩
theorem envs_none (σ : L2.St) : Envs B G H [] σ (List.replicate σ.length none) := by
  induction σ with
  | nil => exact .nil
  | cons x σ ih => exact .none ih
theorem envs_one {v : V} {d : D} (r : Rel B G H [] v d) : ∀ (σ : L2.St) (i : Nat), Envs B G H [] (σ.set i (some v)) ((List.replicate σ.length none).set i (some d))
  | [], i => .nil
  | x :: σ, 0 => by
    have := Envs.some r (envs_none (B := B) (G := G) (H := H) σ)
    exact this
  | x :: σ, i + 1 => .none (envs_one r σ i)
end
/-- the worth of x(lambda: f(..)) -/
def dOut {Om : Type} (M : DX Om) (out : Addr → List (Str × V) → Option D) (fa : DA Om) : DE Om := fun en om => (fa en om).bind fun p => (M (lends p.1) p.2.2).bind fun q => match q.1 with
  | .inl t => some (t, p.2.1, q.2)
  | .inr e => (out e.1 e.2).map fun d => (d, p.2.1, q.2)
theorem takes_len {X : Cx} {Wt : WX} (tk : Takes X Wt) : Takes X (fun cls d σ H => σ.length = X.N.length → Wt cls d σ H) := fun u s' ⟨a, B, sI, pins, σ, H, cls, d, e, I, nb, up, sky, na, os, ag, w⟩ => tk u s' ⟨a, B, sI, pins, σ, H, cls, d, e, I, nb, up, sky, na, os, ag, w I.len⟩
section
variable {Om : Type} {W : Wld Om} {B : AS} {X : Cx} {P g c CS : Addr} {x a le n : Str} {st b₀ : Stmt} {suite : List Stmt} {fd : FuncData} {Ng ps : List Str} {k i : Nat} {M : DX Om} {fa : DA Om} {out : Addr → List (Str × V) → Option D} {params : Arguments} {body : Expr} {scope : Scope} {p lpos pos p1 p2 p3 p4 p5 p6 : Pos}
theorem de_outcome (Fo : Fun X.K x x st g fd) (hst : defBody st = [.Try [.Return (some (.Call (.Name a p1) [] [] p2)) p3] [.ExceptHandler (some (.Name le p4)) (some n) (b₀ :: suite) p5] [] [] p6]) (Sg : FnScope Ng [a] (defScope st)) (hNa : Ng[0]? = some a) (hNi : Ng[i]? = some n) (hn : (defScope st).names.lookup n = some .local)
    (hle : (defScope st).names.lookup le = some .globalImplicit) (hde : (le == ("__debug__" : Str)) = false) (hmle : X.mg le = some (.ref CS)) (hm : X.mg x = some (.ref g)) (hb : Binds X.K fd [a] []) (hg : Gl X x)
    (hS : ∀ (C : Addr) (fs : List (Str × V)) (d : D), out C fs = some d → PySem.W.exmOne X.K (.ref C) (.ref CS) = some true ∧ noB d = true ∧ ∀ (cdv : Value) (A : Around) (outer : List Env) (s : Shared) (H : Hp) (Bo : AS) (e : Addr) (oe : Obj) (o : Option Addr) (pn : List (Addr × Obj)), Room (k + 1) (A.deeper (envOfC x (defScope st) s.heap.objs.size g cdv)) → Zc (.ref C) o oe → (∃ vs, oe.data = .fields vs) →
      ∃ sd : SD Om, PSs ((cxOf CX0 X.prog X.w X.K X.mg X.base Ng x (defScope st) g cdv A outer s H E0).nox.suite e ((e, oe) :: pn)) (b₀ :: suite) (tS (Wxd W o fs) Bo (fun _ _ _ => False) sd) ∧ ∀ om, ∃ en', sd ((List.replicate Ng.length none).set i (some (.opq e))) om = some (.rt d, en', om))
    (L : LamW W P (X.env.qual ++ "<lambda>")) (Tb : TabB X.base X.mg c P) (here : X.env.code = .ref c) (hr : Room (k + 2) X.A) (Ls : LamS X.env.scope scope) (nodef : defaultsOf params X.env = ([], [])) (hlen : ∀ ts om r, M ts om = some r → ts.length = ps.length)
    (hbind : ∀ (q : Str) (cl : List (Str × Addr)) (pm cv ctv : Value), bindArgs (PySem.W.kla_fn "<lambda>" q params body scope cl pm cv ctv) ⟨[], []⟩ = pure [])
    (hlam : ∀ (A : Around) (outer : List Env) (s : Shared) (H : Hp) (E : XK) (f c' : Addr), Room k (A.deeper (lamEnv X scope s.heap.objs.size f c')) → PE (lamCx X A outer s H E scope f c') body (tCall (spX W M ps) [] E (tDA W B fa)))
    (hdb : (x == ("__debug__" : Str)) = false) (hd : (a == ("__debug__" : Str)) = false) (hcd : (a == ("__classdict__" : Str)) = false) :
    PE X (.Call (.Name x p) [.Lambda params body scope lpos] [] pos) (tD W B (dOut M out fa)) := by
  refine ⟨fun pins s σ H Q I q => ?_⟩
  obtain ⟨en, om, G, F, dd, en', om', S, hf, kd⟩ := q
  obtain ⟨⟨ds, en1, om1⟩, hf1, hf⟩ := bind_some hf
  obtain ⟨⟨r, om2⟩, hf2, hf⟩ := bind_some hf
  obtain ⟨oc, od, kV, doc, pm, an, cdv, ct, osl, rfl, lk, hcg⟩ := Fo.ex
  refine wpAny_Call_Name_kw (ld_glob I hg hm ?_ hdb)
  refine PySem.W.callWith_K (h₀ := X.base) I.ok.mod.kin Fo.kp ?_ (by rfl) (by rfl)
  show wpAny _ _ (spliced ((false, eval (.Lambda params body scope lpos) X.env) :: backTo pos (starEach [] X.env))) _ _ s
  refine Calls.spliced_cons (lam_one I Tb here (L.tab _ _ S.wok) nodef (Ls.has I.ok) fun f c' pm' ctv H1 s' I1 ext T1 hfo hfn hfr hco => Calls.spliced_nil ⟨I1.kIn, ?_⟩)
  obtain ⟨S1, n1⟩ := S.lam L ext T1
  have rc : codeAny (model X.prog X.w) X.A (.call (.ref g) ⟨[.ref f], []⟩) (CR CX0 X.stack X.prog X.w H1 s' Q E0) s' := by
    refine run_ofS (N := Ng) (ps := [a]) (us := [.ref f]) (vs := [.ref f]) lk hcg Sg hr I1.env0 (hb s' [.ref f] I1.kIn rfl) (.cons rfl .nil) rfl fun hr' => ?_
    rw [hst]
    refine ⟨_, L2.PSs.nox (pss_one (ps_try_as (X := (cxOf CX0 X.prog X.w X.K X.mg X.base Ng x (defScope st) g cdv X.A X.stack s' H1 E0).nox) (c := .ref CS) (i := i)
      (tb := fun Wt D σZ HZ => σZ[0]? = some (some (V.ref f)) ∧ HZ c' = some (CodeO c' (X.env.qual ++ "<lambda>")) ∧ tCall (spX W M ps) [] (fun cls d H' => ∀ σ' : L2.St, σ'.length = Ng.length → Wt cls d σ' H') (tDA W B fa) σ HZ D.rt)
      (ts := fun e cls o Dn σZ HZ => ∃ (C : Addr) (fs : List (Str × V)) (d : D) (om : Om) (Bo : AS) (σ0 : L2.St), cls = .ref C ∧ out C fs = some d ∧ σ0.length = Ng.length ∧ σZ = σ0.set i (some (.ref e)) ∧ W.ok om HZ ∧ Xd HZ o fs ∧ (∀ a, Bo a → cut W HZ a ≠ none) ∧
        ∀ v H' G' R, Same (cut W HZ) G' → Same G' H' → Rel Bo G' H' R v d → R.Nodup → (∀ a ∈ R, G' a = none ∧ ¬ W.fp a) → (∀ a, W.fp a → G' a = none) → noB d = true → W.ok om H' → Dn.rt v H') (Wout := fun _ _ _ _ => False)
      rfl rfl Sg.nd hNi hn ⟨hle, hde, .inl hmle⟩ L2.takes0 (fun Wt pn xe tk _ => ?_) (fun e oe cls o pn hz hfl => ?_))), ?_⟩
    · refine ⟨fun pins2 s2 σZ HZ D I2 h => ?_⟩
      obtain ⟨h1, h2, h3⟩ := h
      have vis : Vis (defScope st) a := (Sg.par a (List.mem_singleton_self a)).elim .inl fun z => .inr (.inl z)
      have hp := pe_act (CXg := CX0) (Eg := E0) (i := 0) (p1 := p1) (p2 := p2) I1 Ls hfo hfn hfr (hbind _ _ _ _ _) (takes_len tk) (fun cls d σ' H' h hl => h σ' hl) hr' (fun A outer s H hr2 => hlam A outer s H (fun cls d H' => ∀ σ' : L2.St, σ'.length = Ng.length → Wt cls d σ' H') f c' hr2) hNa vis hd hcd
      exact (pss_one (ps_ret hp)).run pins2 s2 σZ HZ D I2 ⟨h1, h2, h3⟩
    · refine ⟨fun pins2 s2 σZ HZ D I2 h => ?_⟩
      obtain ⟨C, fs, d, om3, Bo, σ0, rfl, hout, hl, rfl, wok, xd, hbo, kk⟩ := h
      obtain ⟨_, nb, mk⟩ := hS C fs d hout
      obtain ⟨sd, hps, hrun⟩ := mk cdv X.A X.stack s' H1 Bo e oe o pn hr' hz hfl
      obtain ⟨en4, hrun⟩ := hrun om3
      have S0 : Rst (Wxd W o fs) Bo ((List.replicate Ng.length none).set i (some (.opq e))) om3 (cut W HZ) [] (σ0.set i (some (.ref e))) HZ :=
        ⟨cut_same, by rw [← hl]; exact envs_one (.opq e) σ0 i, .nil, fun a h => by simp at h, fun a h => by simp at h, fun a h => cut_fp h, hbo, ⟨wok, xd⟩⟩
      refine hps.run pins2 s2 _ HZ D I2 (tS.run S0 hrun ?_)
      exact fun σ' v H' G' F' R n S' x => kk v H' G' R n.sub S'.sub x.rel x.nd (fun a ha => ⟨(x.own a ha).1, (x.own a ha).2.2⟩) S'.WG nb S'.wok.1
    · refine ⟨rfl, hco, callX_use hlen S1 hf1 hf2 ?_⟩
      cases r with
      | inl t =>
        cases hf
        exact fun v H' G' F' R n S' x => kd v H' G' F' R (n1.trans n) S' x
      | inr e =>
        obtain ⟨d, hout, hf⟩ := Option.map_eq_some_iff.mp hf
        cases hf
        refine fun H' G' F' o n S' xd σ' hl => ⟨true, (hS _ _ _ hout).1, fun _ e2 he2 => ?_, fun z => by cases z⟩
        obtain ⟨Bo, hbo, kk⟩ := S'.enter S'.wok fun v H2 G2 F2 R n2 S2 x => kd v H2 G2 F2 R ((n1.trans n).trans n2) S2 x
        exact ⟨_, _, _, _, Bo, σ', rfl, hout, hl, rfl, S'.wok, xd, hbo, kk⟩
  refine wpAny_call (codeAny_mono rc fun r s2 hq => ?_)
  cases r with
  | error e => exact (show False from hq).elim
  | ok fl =>
    cases fl with
    | ret u => exact I1.after hq
    | next => exact False.elim hq
    | brk => exact False.elim hq
    | cont => exact False.elim hq
end
end DL

/-! DSd: the draw state as the world: a list of the script, a place, a seed, a rest. -/
namespace DL
open PySem PySem.Spec PyProof.Rows L2 LamX
abbrev DSt := Int × Int × Int
abbrev stL (scA : Addr) (m : DSt) : HO := .lst [.ref scA, .int m.1, .int m.2.1, .int m.2.2]
/-- where the script lies: c: among what changes; else locked, or in the written part -/
def Scr (K : PySem.W.Frag) (c : Bool) (sA scA : Addr) (xs : List V) (H : Hp) : Prop :=
  (c = true ∧ scA ≠ sA ∧ H scA = some (.lst xs)) ∨ (c = false ∧ ((scA ≠ sA ∧ ∃ o, H scA = some (.frz o (.lst xs))) ∨ SqL K (fun _ => none) scA xs))
theorem Scr.seq {K : PySem.W.Frag} {c : Bool} {sA scA : Addr} {xs : List V} {H : Hp} (h : Scr K c sA scA xs H) : SqL K H scA xs := by
  rcases h with ⟨_, _, e⟩ | ⟨_, ⟨_, o, e⟩ | h⟩
  · exact .of e
  · exact .inl (.inr ⟨o, e⟩)
  · rcases h with h | h
    · rcases h with h | ⟨_, h⟩ <;> cases h
    · exact .inr h
theorem Scr.of {K : PySem.W.Frag} {sA scA : Addr} {xs : List V} {H : Hp} {o : HO} (h : SqL K H scA xs) (n : H sA = none) : ∃ c, Scr K c sA scA xs (upd H sA o) := by
  have ne : ∀ {u}, H scA = some u → scA ≠ sA := fun e z => by rw [z, n] at e; cases e
  rcases h with (e | ⟨u, e⟩) | h
  · exact ⟨true, .inl ⟨rfl, ne e, by rw [upd_ne (ne e)]; exact e⟩⟩
  · exact ⟨false, .inr ⟨rfl, .inl ⟨ne e, u, by rw [upd_ne (ne e)]; exact e⟩⟩⟩
  · exact ⟨false, .inr ⟨rfl, .inr (.inr h)⟩⟩
/-- the world of the draw state at sA over the script at scA -/
def WD (K : PySem.W.Frag) (c : Bool) (sA scA : Addr) (script : List Int) : Wld DSt where
  ok := fun m H => H sA = some (stL scA m) ∧ Scr K c sA scA (script.map V.int) H
  fp := fun a => a = sA ∨ (c = true ∧ a = scA)
  here := fun m H a h f => by
    rcases f with rfl | ⟨hc, rfl⟩
    · rw [h.1]; exact fun z => nomatch z
    · rcases h.2 with ⟨_, _, e⟩ | ⟨e, _⟩
      · rw [e]; exact fun z => nomatch z
      · rw [hc] at e; cases e
  loc := fun m H H' h1 h2 h => by
    refine ⟨(h1 _ (.inl rfl)).trans h.1, ?_⟩
    rcases h.2 with ⟨hc, n, e⟩ | ⟨hc, ⟨n, o, e⟩ | k⟩
    · exact .inl ⟨hc, n, (h1 _ (.inr ⟨hc, rfl⟩)).trans e⟩
    · exact .inr ⟨hc, .inl ⟨n, o, h2 _ _ e (fun _ z => nomatch z) (fun _ z => nomatch z) (fun _ z => nomatch z) (fun _ _ z => by cases z)⟩⟩
    · exact .inr ⟨hc, .inr k⟩
/-- W and a table of code objects -/
def WT {Om : Type} (W : Wld Om) (P : Addr) (q : Str) : Wld Om where
  ok := fun m H => W.ok m H ∧ TabS H P q
  fp := fun a => W.fp a ∨ a = P
  here := fun m H a h f => by
    rcases f with f | rfl
    · exact W.here m H a h.1 f
    · obtain ⟨ps, e, _⟩ := h.2
      rw [e]; exact fun z => nomatch z
  loc := fun m H H' h1 h2 h => by
    obtain ⟨ps, e, t, k⟩ := h.2
    refine ⟨W.loc m H H' (fun a ha => h1 a (.inl ha)) h2 h.1, ps, (h1 P (.inr rfl)).trans e, t, fun pos cv hc => ?_⟩
    obtain ⟨c, e1, e2⟩ := k pos cv hc
    exact ⟨c, e1, h2 c _ e2 (fun xs z => by unfold CodeO at z; cases z) (fun ds z => by unfold CodeO at z; cases z) (fun ps => codeO_ne ps) (fun _ _ z => by unfold CodeO at z; cases z)⟩
theorem lamW {Om : Type} {W : Wld Om} {P : Addr} {q : Str} (h : ∀ m H a, W.ok m H → W.fp a → ∃ xs, H a = some (.lst xs)) : LamW (WT W P q) P q where
  fpP := .inr rfl
  tab := fun m H k => k.2
  put := fun m H H1 k ext T => by
    obtain ⟨ps, e, _, _⟩ := k.2
    have ne : ∀ a u, H a = some u → (∀ ps, u ≠ .tbl ps) → a ≠ P := fun a u ea n z => by
      rw [z, e] at ea
      exact n ps (Option.some.inj ea).symm
    refine ⟨W.loc m H H1 (fun a ha => ?_) (fun a u ea _ _ n _ => ext a u (ne a u ea n) ea) k.1, T⟩
    obtain ⟨xs, ea⟩ := h m H a k.1 ha
    rw [ea]
    exact ext a _ (ne a _ ea fun ps z => by cases z) ea
/-- a world that holds the draw state -/
structure DrawW (K : PySem.W.Frag) (W : Wld DSt) (sA scA : Addr) (script : List Int) : Prop where
  fpS : W.fp sA
  atS : ∀ m H, W.ok m H → H sA = some (stL scA m)
  atC : ∀ m H, W.ok m H → SqL K H scA (script.map V.int)
  put : ∀ m m' H, W.ok m H → W.ok m' (upd H sA (stL scA m'))
theorem drawWD {K : PySem.W.Frag} {c : Bool} {sA scA : Addr} {script : List Int} : DrawW K (WD K c sA scA script) sA scA script where
  fpS := .inl rfl
  atS := fun m H k => k.1
  atC := fun m H k => k.2.seq
  put := fun m m' H k => by
    refine ⟨upd_same, ?_⟩
    rcases k.2 with ⟨hc, n, e⟩ | ⟨hc, ⟨n, o, e⟩ | k⟩
    · exact .inl ⟨hc, n, by rw [upd_ne n]; exact e⟩
    · exact .inr ⟨hc, .inl ⟨n, o, by rw [upd_ne n]; exact e⟩⟩
    · exact .inr ⟨hc, .inr k⟩
theorem drawWT {K : PySem.W.Frag} {W : Wld DSt} {sA scA P : Addr} {q : Str} {script : List Int} (h : DrawW K W sA scA script) : DrawW K (WT W P q) sA scA script where
  fpS := .inl h.fpS
  atS := fun m H k => h.atS m H k.1
  atC := fun m H k => h.atC m H k.1
  put := fun m m' H k => by
    obtain ⟨ps, e, t, kn⟩ := k.2
    have ne : ∀ a u, H a = some u → (∀ xs, u ≠ .lst xs) → a ≠ sA := fun a u ea n z => by
      rw [z, h.atS m H k.1] at ea
      exact n _ (Option.some.inj ea).symm
    refine ⟨h.put m m' H k.1, ps, by rw [upd_ne (ne _ _ e fun xs z => by cases z)]; exact e, t, fun pos cv hc => ?_⟩
    obtain ⟨c, e1, e2⟩ := kn pos cv hc
    exact ⟨c, e1, by rw [upd_ne (ne _ _ e2 fun xs z => by unfold CodeO at z; cases z)]; exact e2⟩
theorem lamWD {K : PySem.W.Frag} {c : Bool} {sA scA P : Addr} {q : Str} {script : List Int} : LamW (WT (WD K c sA scA script) P q) P q := lamW fun m H a k f => by
  rcases f with rfl | ⟨hc, rfl⟩
  · exact ⟨_, k.1⟩
  · rcases k.2 with ⟨_, _, e⟩ | ⟨e, _⟩
    · exact ⟨_, e⟩
    · rw [hc] at e; cases e
section
variable {W : Wld DSt} {B : AS} {Z : XK} {X : Cx} {en : Ev} {om om' : DSt} {G H : Hp} {F : List Addr} {σ : L2.St} {sA scA : Addr} {script : List Int}
/-- the draw state is written -/
theorem Rst.draw {K : PySem.W.Frag} (Dw : DrawW K W sA scA script) (S : Rst W B en om G F σ H) : Rst W B en om' G F σ (upd H sA (stL scA om')) ∧ ∀ {G0 F0 H0 R}, Nx W G0 F0 H0 G F H R → Nx W G0 F0 H0 G F (upd H sA (stL scA om')) R := by
  have g0 : G sA = none := S.WG sA Dw.fpS
  refine ⟨⟨fun a o e => by rw [upd_ne fun z => by rw [z, g0] at e; cases e]; exact S.sub a o e, S.env.mono (.refl _ _) fun a ha => upd_ne fun z => S.FW a ha (z ▸ Dw.fpS), S.nd, S.FG, S.FW, S.WG, S.BG, Dw.put om om' H S.wok⟩, fun n => ⟨n.sub, fun a h ht g f w => ?_⟩⟩
  obtain ⟨e1, e2, e3, e4⟩ := n.frm a h ht g f w
  exact ⟨by rw [upd_ne fun z => w (by rw [z]; exact Dw.fpS)]; exact e1, e2, e3, e4⟩
def stGet (scA : Addr) (m : DSt) : Nat → Option D
  | 0 => some (.opq scA)
  | 1 => some (.int m.1)
  | 2 => some (.int m.2.1)
  | 3 => some (.int m.2.2)
  | _ => none
def stSet (m : DSt) (n : Int) : Nat → Option DSt
  | 1 => some (n, m.2.1, m.2.2)
  | 2 => some (m.1, n, m.2.2)
  | 3 => some (m.1, m.2.1, n)
  | _ => none
/-- s[j], s the draw state in slot i -/
def dSt (sA scA : Addr) (i j : Nat) : DE DSt := fun en om => match en[i]? with
  | some (some (.opq a)) => if a = sA then (stGet scA om j).map fun d => (d, en, om) else none
  | _ => none
theorem de_st (Dw : DrawW X.K W sA scA script) (i j : Nat) {x : Str} {p cp pos : Pos} {jj : Nat} (hN : X.N[i]? = some x := by rfl) (hv : Vis X.env.scope x := by first | exact Or.inl rfl | exact Or.inr (Or.inl rfl) | exact Or.inr (Or.inr rfl)) (hd : (x == ("__debug__" : Str)) = false := by decide) (hcd : (x == ("__classdict__" : Str)) = false := by decide) :
    PE X (.Subscript (.Name x p) (.Constant (.int (j : Nat)) jj cp) pos) (tD W B (dSt sA scA i j)) := (pe_ix ix_list (pe_var hN hv hd hcd) pe_int (by exact fun _ _ => rfl)).le fun σ H Q q => by
  obtain ⟨en, om, G, F, c, en', om', S, hf, k⟩ := q
  unfold dSt at hf
  split at hf
  · rename_i a ha
    by_cases ea : a = sA
    · rw [if_pos ea] at hf
      subst ea
      obtain ⟨d, hd2, hf⟩ := Option.map_eq_some_iff.mp hf
      cases hf
      obtain ⟨v, _, _, _, _, e, r⟩ := S.get ha
      cases r
      have hs := SqL.of (K := X.K) (Dw.atS _ _ S.wok)
      match j, hd2 with
      | 0, hd2 => cases hd2; exact ⟨_, e, a, _, _, .ref scA, rfl, rfl, hs, atI_nat rfl, k _ H G F [] .refl S (.sh (.opq _))⟩
      | 1, hd2 => cases hd2; exact ⟨_, e, a, _, _, .int om.1, rfl, rfl, hs, atI_nat rfl, k _ H G F [] .refl S (.sh (.int _))⟩
      | 2, hd2 => cases hd2; exact ⟨_, e, a, _, _, .int om.2.1, rfl, rfl, hs, atI_nat rfl, k _ H G F [] .refl S (.sh (.int _))⟩
      | 3, hd2 => cases hd2; exact ⟨_, e, a, _, _, .int om.2.2, rfl, rfl, hs, atI_nat rfl, k _ H G F [] .refl S (.sh (.int _))⟩
      | n + 4, hd2 => cases hd2
    · rw [if_neg ea] at hf
      cases hf
  · cases hf
/-- len(script) -/
def dLenC (scA : Addr) (script : List Int) (f : DE DSt) : DE DSt := fun en om => (f en om).bind fun p => match p.1 with
  | .opq a => if a = scA then some (.int (script.length : Nat), p.2.1, p.2.2) else none
  | _ => none
theorem de_lenC (Dw : DrawW X.K W sA scA script) {e : Expr} {p pos : Pos} {f : DE DSt} (he : PE X e (tD W B f)) (hm : X.mg "len" = none := by rfl) (hg : Gl X "len" := by rfl) (hst : starEach [e] X.env = (false, eval e X.env) :: starEach [] X.env := by rfl) (hpl : (backTo pos (starEach [] X.env)).any (·.1) = false := by rfl) :
    PE X (.Call (.Name "len" p) [e] [] pos) (tD W B (dLenC scA script f)) := (pe_callB call_len_seq hg hm PySem.boot_len (pa_cons he pa_nil hst) (by decide) (by decide) hst hpl).le fun σ H Q q => by
  obtain ⟨en, om, G, F, c, en', om', S, hf, k⟩ := q
  obtain ⟨⟨d, en1, om1⟩, h1, h2⟩ := bind_some hf
  clear hf
  cases d <;> dsimp only at h2 <;> first | (cases h2; done) | skip
  rename_i a
  by_cases ea : a = scA
  · rw [if_pos ea] at h2
    subst ea
    cases h2
    refine tD.hold S h1 fun x H1 G1 F1 R1 n1 S1 x1 => ?_
    obtain ⟨rel, _, _⟩ := x1
    cases rel
    refine ⟨a, _, rfl, .inl (Dw.atC _ _ S1.wok), ?_⟩
    rw [List.length_map]
    exact k _ H1 G1 F1 [] n1 S1 (.sh (.int _))
  · rw [if_neg ea] at h2
    cases h2
/-- script[k] -/
def dAtC (scA : Addr) (script : List Int) (f g : DE DSt) : DE DSt := fun en om => (f en om).bind fun p => match p.1 with
  | .opq a => if a = scA then (g p.2.1 p.2.2).bind fun q => match q.1 with
    | .int k => (atI script k).map fun n => (.int n, q.2.1, q.2.2)
    | _ => none
    else none
  | _ => none
theorem de_atC (Dw : DrawW X.K W sA scA script) {e b : Expr} {pos : Pos} {f g : DE DSt} (he : PE X e (tD W B f)) (hb : PE X b (tD W B g)) (hs : PlainIx b := by exact fun _ _ => rfl) : PE X (.Subscript e b pos) (tD W B (dAtC scA script f g)) := (pe_ix ix_list he hb hs).le fun σ H Q q => by
  obtain ⟨en, om, G, F, c, en', om', S, hf, k⟩ := q
  obtain ⟨⟨d, en1, om1⟩, h1, h2⟩ := bind_some hf
  clear hf
  cases d <;> dsimp only at h2 <;> first | (cases h2; done) | skip
  rename_i a
  by_cases ea : a = scA
  · rw [if_pos ea] at h2
    subst ea
    obtain ⟨⟨d2, en2, om2⟩, h3, h4⟩ := bind_some h2
    clear h2
    cases d2 <;> dsimp only at h4 <;> first | (cases h4; done) | skip
    rename_i kk
    obtain ⟨n, hn, h4⟩ := Option.map_eq_some_iff.mp h4
    cases h4
    refine tD.hold S h1 fun x H1 G1 F1 R1 n1 S1 x1 => tD.hold S1 h3 fun y H2 G2 F2 R2 n2 S2 x2 => ?_
    obtain ⟨rel, _, _⟩ := x1
    cases rel
    obtain ⟨rel2, _, _⟩ := x2
    cases rel2
    refine ⟨a, _, kk, .int n, rfl, rfl, Dw.atC _ _ S2.wok, ?_, k _ H2 G2 F2 [] (n1.trans n2) S2 (.sh (.int _))⟩
    unfold atI at hn ⊢
    rw [List.length_map]
    obtain ⟨j, h5, h6⟩ := bind_some hn
    rw [h5]
    show (script.map V.int)[j]? = some (.int n)
    rw [List.getElem?_map, h6]
    rfl
  · rw [if_neg ea] at h2
    cases h2
/-- s[j] = e -/
def sStSet (sA : Addr) (i j : Nat) (f : DE DSt) : SD DSt := fun en om => (f en om).bind fun p => match p.1 with
  | .int n => (match p.2.1[i]? with
    | some (some (.opq a)) => if a = sA then (stSet p.2.2 n j).map fun m => (.nx, p.2.1, m) else none
    | _ => none)
  | _ => none
theorem de_stSet (Dw : DrawW X.K W sA scA script) (i j : Nat) {x : Str} {e : Expr} {p cp spos pos : Pos} {jj : Nat} {f : DE DSt} (he : PE X e (tD W B f)) (hN : X.N[i]? = some x := by rfl) (hv : Vis X.env.scope x := by first | exact Or.inl rfl | exact Or.inr (Or.inl rfl) | exact Or.inr (Or.inr rfl)) (hd : (x == ("__debug__" : Str)) = false := by decide) (hcd : (x == ("__classdict__" : Str)) = false := by decide)
    (ha : ∀ v, assign (.Subscript (.Name x p) (.Constant (.int (j : Nat)) jj cp) spos) X.env v = (do
      let ov ← holding [v] (eval (.Name x p) X.env)
      let iv ← holding [v, ov] (eval (.Constant (.int (j : Nat)) jj cp) X.env)
      standAt spos
      (holding [v, ov, iv] (setItem ov iv v) >>= fun _ => release [v, ov, iv] [])) := by intro _; rfl) (hs : swapsWithSole [.Subscript (.Name x p) (.Constant (.int (j : Nat)) jj cp) spos] e pos.line X.env = pure false := by rfl) (hw : swappedStores [.Subscript (.Name x p) (.Constant (.int (j : Nat)) jj cp) spos] e X.env = pure none := by rfl)
    (h1 : (assignEach [.Subscript (.Name x p) (.Constant (.int (j : Nat)) jj cp) spos] X.env).map (·.2) = [assign (.Subscript (.Name x p) (.Constant (.int (j : Nat)) jj cp) spos) X.env] := by rfl) :
    PS X (.Assign [.Subscript (.Name x p) (.Constant (.int (j : Nat)) jj cp) spos] e pos) (tS W B Z (sStSet sA i j f)) := (ps_asg he (pg_sub (pe_var hN hv hd hcd) pe_int set_list ha) hs hw h1).le fun Dn σ H q => by
  obtain ⟨en, om, G, F, o, en', om', S, hf, k⟩ := q
  obtain ⟨⟨d, en1, om1⟩, h1, h2⟩ := bind_some hf
  clear hf
  cases d <;> dsimp only at h2 <;> first | (cases h2; done) | skip
  rename_i n
  split at h2
  · rename_i a ha2
    by_cases ea : a = sA
    · rw [if_pos ea] at h2
      subst ea
      obtain ⟨m, hm, h2⟩ := Option.map_eq_some_iff.mp h2
      cases h2
      refine tD.hold S h1 fun v H1 G1 F1 R1 n1 S1 x1 => ?_
      obtain ⟨rel, _, _⟩ := x1
      cases rel
      obtain ⟨w, _, _, _, _, e, r⟩ := S1.get ha2
      cases r
      have hat := Dw.atS _ _ S1.wok
      obtain ⟨S2, n2⟩ := S1.draw (om' := om') Dw
      have fin : ∀ (jn : Nat), ixN 4 ((j : Nat) : Int) = some jn → ([V.ref scA, .int om1.1, .int om1.2.1, .int om1.2.2].set jn (.int n)) = [V.ref scA, .int om'.1, .int om'.2.1, .int om'.2.2] → ∃ v, σ[i]? = some (some v) ∧ rSetL v (.int (j : Nat)) (.int n) H1 fun H3 => Dn.nx σ H3 := fun jn h5 h6 => by
        refine ⟨_, e, a, _, _, jn, rfl, rfl, hat, h5, ?_⟩
        rw [h6]
        exact k σ _ G1 F1 (n2 n1.drop) S2
      match j, hm with
      | 1, hm => cases hm; exact fin 1 rfl rfl
      | 2, hm => cases hm; exact fin 2 rfl rfl
      | 3, hm => cases hm; exact fin 3 rfl rfl
      | 0, hm => cases hm
      | n + 4, hm => cases hm
    · rw [if_neg ea] at h2
      cases h2
  · cases h2
end
end DL

/-! DSp: raise C("..") of a class without fields; loops in defs that may raise. -/
namespace DL
open PySem PySem.Spec PyProof.Rows L2
/-- what a class without an own __init__ must have, to be raised by a text -/
structure CE0 (K : PySem.W.Frag) (mg : Str → Option Value) (x : Str) (C : Addr) : Prop where
  at_ : mg x = some (.ref C)
  exc : PySem.W.excIn K C [.type "ValueError", .type "Exception", .type "BaseException", .type "object"] "ValueError.__new__" = true
  kp : PySem.W.keepIn K (.ref C) = true
  sub : PySem.W.subIn K (.ref C) (.type "BaseException") = some true
  typ : PySem.W.typeIn K (.ref C) = some (.type "type")
section
variable {Om : Type} {W : Wld Om} {B : AS} {Z : XK} {X : Cx}
def sRaise0 (C : Addr) : SD Om := fun en om => some (.rz C [], en, om)
theorem ds_raise0 {x m : Str} {C : Addr} {j : Nat} {p p2 pos rpos : Pos} (Cd : CE0 X.K X.mg x C) (tk : Tk X Z) (hcalm : X.calm = true := by rfl) (hg : Gl X x := by rfl) (hdb : (x == ("__debug__" : Str)) = false := by decide) :
    PS X (.Raise (some (.Call (.Name x p) [.Constant (.str m) j p2] [] pos)) none rpos) (tS W B Z (sRaise0 C)) :=
  (ps_raise hcalm tk (pmk_own PySem.F.excBase_ValueError Cd.exc Cd.at_ Cd.kp (raises_own Cd.sub Cd.typ) hg hdb)).le fun Dn σ H q => by
    obtain ⟨en, om, G, F, o, en', om', S, hf, k⟩ := q
    cases hf
    exact k σ H G F none .refl S (.inl ⟨rfl, rfl⟩)
end
/-- nothing is promised -/
theorem def_none {Om : Type} {W : Wld Om} {P : Program} {w : World} {K : PySem.W.Frag} {mg : Str → Option Value} {base : Heap} {x qual : Str} {st : Stmt} {f : Addr} {fd : FuncData} {ps : List Str} (Fn : Fun K x qual st f fd) (hm : mg x = some (.ref f)) (hb : Binds K fd ps []) : Def P w K mg base W x 0 ps (fun _ _ => none) := by
  refine ⟨⟨f, fd, ⟨fun vs H Q E h => ?_, fun A outer s H args us vs Q E hr e0 b r h => ?_⟩, hm, Fn.kp, hb⟩, fun ts om r h => by cases h⟩
  · obtain ⟨_, _, _, _, _, e, _⟩ := h
    exact e
  · obtain ⟨_, _, _, _, _, _, _, _, _, z, _⟩ := h
    cases z
end DL

/-! DSq: a call of a local name that holds one of several defs. -/
namespace DL
open PySem PySem.Spec PyProof.Rows L2
section
variable {Om : Type} {W : Wld Om} {B : AS} {X : Cx}
def dCallL (i : Nat) (S : Addr → Option (DF Om)) (fa : DA Om) : DE Om := fun en om => match en[i]? with
  | some (some (.opq f)) => match S f with
    | some M => dCall M fa en om
    | none => none
  | _ => none
theorem dcallL {S : Addr → Option (DF Om)} {i j k : Nat} {ps : List Str} {x : Str} {p pos : Pos} {e : Expr} {es : List Expr} {fa : DA Om} (hS : ∀ f M, S f = some M → ∃ y, Def X.prog X.w X.K X.mg X.base W y k ps M ∧ X.mg y = some (.ref f)) (hr : Room j X.A) (ha : PA X (e :: es) (tDA W B fa)) (hN : X.N[i]? = some x := by rfl) (hv : Vis X.env.scope x := by first | exact .inl rfl | exact .inr (.inl rfl)) (hk : k ≤ j := by decide)
    (hdb : (x == ("__debug__" : Str)) = false := by decide) (hcd : (x == ("__classdict__" : Str)) = false := by decide)
    (he : starEach (e :: es) X.env = (false, eval e X.env) :: starEach es X.env := by rfl) (hpl : (backTo pos (starEach es X.env)).any (·.1) = false := by rfl) :
    PE X (.Call (.Name x p) (e :: es) [] pos) (tD W B (dCallL i S fa)) := by
  refine (pe_callA (i := i) (k := j) (S := fun f => (S f).map fun M => spF W M ps) (fun f sp h => ?_) hr hN hv ha hdb hcd he hpl).le fun σ H Q q => ?_
  · obtain ⟨M, hM, rfl⟩ := Option.map_eq_some_iff.mp h
    obtain ⟨y, Df, hy⟩ := hS f M hM
    obtain ⟨f', fd, Fo, hm, hkp, hb⟩ := Df.ex
    rw [hy] at hm
    cases hm
    exact ⟨fd, ps, Fo.mono hk, hkp, hb⟩
  · obtain ⟨en, om, G, F, d, en', om', St, hf, kk⟩ := q
    unfold dCallL at hf
    split at hf
    · rename_i f hi
      split at hf
      · rename_i M hM
        obtain ⟨y, Df, hy⟩ := hS f M hM
        obtain ⟨v, P, R, T, _, hσ, r⟩ := St.get hi
        cases r
        refine ⟨f, spF W M ps, hσ, by simp [hM], ?_⟩
        have t := call_use (E := fun _ _ _ => False) Df.len (⟨en, om, G, F, d, en', om', St, hf, kk⟩ : tD W B (dCall M fa) σ H Q)
        unfold tCall at t
        simpa only [List.append_nil] using t
      · cases hf
    · cases hf
end
theorem Def.mono {Om : Type} {W : Wld Om} {P : Program} {w : World} {K : PySem.W.Frag} {mg : Str → Option Value} {base : Heap} {x : Str} {j k : Nat} {ps : List Str} {M : DF Om} (D : Def P w K mg base W x j ps M) (h : j ≤ k) : Def P w K mg base W x k ps M := by
  obtain ⟨f, fd, Fo, hm, hkp, hb⟩ := D.ex
  exact ⟨⟨f, fd, Fo.mono h, hm, hkp, hb⟩, D.len⟩
end DL

/-! DM1: data run forward: what is wanted behind each step is held by name until the step's worth is there. -/
namespace DL
open PySem PySem.Spec PyProof.Rows L2
section
variable {Om : Type} {en : Ev} {om : Om}
def wS (f : SD Om) (Q : Out → Ev → Om → Prop) (en : Ev) (om : Om) : Prop := ∃ o en' om', f en om = some (o, en', om') ∧ Q o en' om'
def wE (f : DE Om) (Q : D → Ev → Om → Prop) (en : Ev) (om : Om) : Prop := ∃ d en' om', f en om = some (d, en', om') ∧ Q d en' om'
def wA (f : DA Om) (Q : List D → Ev → Om → Prop) (en : Ev) (om : Om) : Prop := ∃ d en' om', f en om = some (d, en', om') ∧ Q d en' om'
def wT (f : DT Om) (Q : Bool → Ev → Om → Prop) (en : Ev) (om : Om) : Prop := ∃ d en' om', f en om = some (d, en', om') ∧ Q d en' om'
def wG (g : TgD Om) (d : D) (Q : Ev → Om → Prop) (en : Ev) (om : Om) : Prop := ∃ en' om', g d en om = some (en', om') ∧ Q en' om'
def wGs (g : TgsD Om) (d : List D) (Q : Ev → Om → Prop) (en : Ev) (om : Om) : Prop := ∃ en' om', g d en om = some (en', om') ∧ Q en' om'
def wM (M : DF Om) (ts : List D) (Q : D → Om → Prop) (om : Om) : Prop := ∃ d om', M ts om = some (d, om') ∧ Q d om'
def wX (M : DX Om) (ts : List D) (Q : Res → Om → Prop) (om : Om) : Prop := ∃ d om', M ts om = some (d, om') ∧ Q d om'
def wO {α : Type} (x : Option α) (Q : α → Prop) : Prop := ∃ c, x = some c ∧ Q c
@[simp] theorem wO_some {α : Type} {a : α} {Q : α → Prop} : wO (some a) Q = Q a := by simp [wO]
@[simp] theorem wO_none {α : Type} {Q : α → Prop} : wO none Q = False := by simp [wO]
theorem wO_if {α : Type} {c : Prop} [Decidable c] {a b : Option α} {Q : α → Prop} : wO (if c then a else b) Q = if c then wO a Q else wO b Q := by split <;> rfl

theorem ex_map {α β γ : Type} {x : Option (α × γ × β)} {Q : α → γ → β → Prop} : (∃ d e m, x = some (d, e, m) ∧ Q d e m) = wO x (fun p => Q p.1 p.2.1 p.2.2) := by
  apply propext
  constructor
  · rintro ⟨d, e, m, h, q⟩; exact ⟨_, h, q⟩
  · rintro ⟨⟨d, e, m⟩, h, q⟩; exact ⟨d, e, m, h, q⟩
theorem ex_map2 {α β : Type} {x : Option (α × β)} {Q : α → β → Prop} : (∃ d e, x = some (d, e) ∧ Q d e) = wO x (fun p => Q p.1 p.2) := by
  apply propext
  constructor
  · rintro ⟨d, e, h, q⟩; exact ⟨_, h, q⟩
  · rintro ⟨⟨d, e⟩, h, q⟩; exact ⟨d, e, h, q⟩
/-! statements -/
def kSeq (g : SD Om) (Q : Out → Ev → Om → Prop) : Out → Ev → Om → Prop
  | .nx => wS g Q
  | o => Q o
@[simp] theorem kSeq_nx {g : SD Om} {Q} : kSeq g Q .nx en om = wS g Q en om := rfl
@[simp] theorem kSeq_bk {g : SD Om} {Q} : kSeq g Q .bk en om = Q .bk en om := rfl
@[simp] theorem kSeq_ct {g : SD Om} {Q} : kSeq g Q .ct en om = Q .ct en om := rfl
@[simp] theorem kSeq_rt {g : SD Om} {Q} {d} : kSeq g Q (.rt d) en om = Q (.rt d) en om := rfl
@[simp] theorem kSeq_rz {g : SD Om} {Q} {C fs} : kSeq g Q (.rz C fs) en om = Q (.rz C fs) en om := rfl
@[simp] theorem wS_seq {f g : SD Om} {Q} : wS (sSeq f g) Q en om = wS f (kSeq g Q) en om := by
  unfold wS sSeq
  apply propext
  constructor
  · rintro ⟨o, e, m, h, q⟩
    obtain ⟨⟨o1, e1, m1⟩, h1, h⟩ := bind_some h
    refine ⟨o1, e1, m1, h1, ?_⟩
    cases o1 with
    | nx => exact ⟨o, e, m, h, q⟩
    | _ => cases h; exact q
  · rintro ⟨o1, e1, m1, h1, q⟩
    rw [h1]
    cases o1 with
    | nx => exact q
    | _ => exact ⟨_, _, _, rfl, q⟩
@[simp] theorem wS_skip {Q} : wS (sSkip : SD Om) Q en om = Q .nx en om := by simp only [wS, sSkip, ex_map, ex_map2, wO_some]
@[simp] theorem wS_break {Q} : wS (sBreak : SD Om) Q en om = Q .bk en om := by simp only [wS, sBreak, ex_map, ex_map2, wO_some]
@[simp] theorem wS_cont {Q} : wS (sCont : SD Om) Q en om = Q .ct en om := by simp only [wS, sCont, ex_map, ex_map2, wO_some]
@[simp] theorem wS_retN {Q} : wS (sRetN : SD Om) Q en om = Q (.rt .non) en om := by simp only [wS, sRetN, ex_map, ex_map2, wO_some]
theorem wO_bind {α β : Type} {x : Option α} {f : α → Option β} {Q : β → Prop} : wO (x.bind f) Q = wO x fun a => wO (f a) Q := by
  cases x <;> simp
theorem wO_map {α β : Type} {x : Option α} {f : α → β} {Q : β → Prop} : wO (x.map f) Q = wO x fun a => Q (f a) := by
  cases x <;> simp
def kR (Q : Out → Ev → Om → Prop) : D → Ev → Om → Prop := fun d en om => Q (.rt d) en om
@[simp] theorem kR_at {Q : Out → Ev → Om → Prop} {d} : kR Q d en om = Q (.rt d) en om := rfl
@[simp] theorem wS_ret {f : DE Om} {Q} : wS (sRet f) Q en om = wE f (kR Q) en om := by
  unfold wS wE sRet; simp only [ex_map, wO_map]; rfl
def kNx {α : Type} (Q : Out → Ev → Om → Prop) : α → Ev → Om → Prop := fun _ en om => Q .nx en om
@[simp] theorem kNx_at {α : Type} {Q : Out → Ev → Om → Prop} {d : α} : kNx Q d en om = Q .nx en om := rfl
@[simp] theorem wS_expr {f : DE Om} {Q} : wS (sExpr f) Q en om = wE f (kNx Q) en om := by
  unfold wS wE sExpr; simp only [ex_map, wO_map]; rfl
def kAsg (g : TgD Om) (Q : Out → Ev → Om → Prop) : D → Ev → Om → Prop := fun d en om => wG g d (fun en om => Q .nx en om) en om
@[simp] theorem kAsg_at {g : TgD Om} {Q : Out → Ev → Om → Prop} {d} : kAsg g Q d en om = wG g d (fun en om => Q .nx en om) en om := rfl
@[simp] theorem wS_asg {f : DE Om} {g : TgD Om} {Q} : wS (sAsg f g) Q en om = wE f (kAsg g Q) en om := by
  unfold wS wE sAsg kAsg wG; simp only [ex_map, ex_map2, wO_map, wO_bind]
def kIf (f g : SD Om) (Q : Out → Ev → Om → Prop) : Bool → Ev → Om → Prop := fun b en om => if b = true then wS f Q en om else wS g Q en om
@[simp] theorem kIf_at {f g : SD Om} {Q} {b} : kIf f g Q b en om = if b = true then wS f Q en om else wS g Q en om := rfl
@[simp] theorem wS_if {c : DT Om} {f g : SD Om} {Q} : wS (sIf c f g) Q en om = wT c (kIf f g Q) en om := by
  unfold wS wT sIf kIf wS; simp only [ex_map, wO_bind, wO_if]
/-! tests -/
def kB (Q : Bool → Ev → Om → Prop) : D → Ev → Om → Prop
  | .bl b => Q b
  | _ => fun _ _ => False
@[simp] theorem kB_at {Q : Bool → Ev → Om → Prop} {b} : kB Q (.bl b) en om = Q b en om := rfl
@[simp] theorem wT_B {f : DE Om} {Q} : wT (dB f) Q en om = wE f (kB Q) en om := by
  unfold wT wE dB
  apply propext
  constructor
  · rintro ⟨b, e, m, h, q⟩
    exact ⟨.bl b, e, m, dB_some h, q⟩
  · rintro ⟨d, e, m, h, q⟩
    cases d <;> first | exact q.elim | skip
    exact ⟨_, e, m, by rw [h], q⟩
def kNot (Q : Bool → Ev → Om → Prop) : Bool → Ev → Om → Prop := fun b en om => Q (!b) en om
@[simp] theorem kNot_at {Q : Bool → Ev → Om → Prop} {b} : kNot Q b en om = Q (!b) en om := rfl
@[simp] theorem wT_not {f : DT Om} {Q} : wT (dNotT f) Q en om = wT f (kNot Q) en om := by
  unfold wT dNotT; simp only [ex_map, wO_map]; rfl
def kAnd (g : DT Om) (Q : Bool → Ev → Om → Prop) : Bool → Ev → Om → Prop := fun b en om => if b = true then wT g Q en om else Q false en om
@[simp] theorem kAnd_at {g : DT Om} {Q} {b} : kAnd g Q b en om = if b = true then wT g Q en om else Q false en om := rfl
@[simp] theorem wT_and {f g : DT Om} {Q} : wT (dAndT f g) Q en om = wT f (kAnd g Q) en om := by
  unfold wT dAndT kAnd wT; simp only [ex_map, wO_bind, wO_if, wO_some]
def kOr (g : DT Om) (Q : Bool → Ev → Om → Prop) : Bool → Ev → Om → Prop := fun b en om => if b = true then Q true en om else wT g Q en om
@[simp] theorem kOr_at {g : DT Om} {Q} {b} : kOr g Q b en om = if b = true then Q true en om else wT g Q en om := rfl
@[simp] theorem wT_or {f g : DT Om} {Q} : wT (dOrT f g) Q en om = wT f (kOr g Q) en om := by
  unfold wT dOrT kOr wT; simp only [ex_map, wO_bind, wO_if, wO_some]
@[simp] theorem wT_yes {Q} : wT (dYes : DT Om) Q en om = Q true en om := by simp only [wT, dYes, ex_map, ex_map2, wO_some]
def kTru (Q : Bool → Ev → Om → Prop) : D → Ev → Om → Prop := fun d en om => wO (truD (frz d)) fun b => Q b en om
@[simp] theorem kTru_at {Q : Bool → Ev → Om → Prop} {d} : kTru Q d en om = wO (truD (frz d)) fun b => Q b en om := rfl
@[simp] theorem wT_tru {f : DE Om} {Q} : wT (dTru f) Q en om = wE f (kTru Q) en om := by
  unfold wT wE dTru kTru; simp only [ex_map, wO_bind, wO_map]
/-! expressions -/
@[simp] theorem wE_C {d : D} {Q} : wE (dC d : DE Om) Q en om = Q d en om := by simp only [wE, dC, ex_map, ex_map2, wO_some]
def vQ (i : Nat) (Q : D → Ev → Om → Prop) (en : Ev) (om : Om) : Option (Option D) → Prop
  | some (some d) => Q (frz d) (en.set i (some (frz d))) om
  | _ => False
@[simp] theorem vQ_some {i Q d} : vQ i Q en om (some (some d)) = Q (frz d) (en.set i (some (frz d))) om := rfl
@[simp] theorem wE_V {i : Nat} {Q} : wE (dV i : DE Om) Q en om = vQ i Q en om en[i]? := by
  unfold wE dV vQ
  cases h : en[i]? with
  | none => simp
  | some x => cases x <;> simp only [ex_map, wO_some, wO_none]
def mQ (i : Nat) (Q : D → Ev → Om → Prop) (en : Ev) (om : Om) : Option (Option D) → Prop
  | some (some d) => Q d (en.set i none) om
  | _ => False
@[simp] theorem mQ_some {i Q d} : mQ i Q en om (some (some d)) = Q d (en.set i none) om := rfl
@[simp] theorem wE_M {i : Nat} {Q} : wE (dM i : DE Om) Q en om = mQ i Q en om en[i]? := by
  unfold wE dM mQ
  cases h : en[i]? with
  | none => simp
  | some x => cases x <;> simp only [ex_map, wO_some, wO_none]
def k2 (g : D → D → Option D) (f : DE Om) (Q : D → Ev → Om → Prop) : D → Ev → Om → Prop := fun x en om => wE f (fun y en om => wO (g (frz x) (frz y)) fun c => Q c en om) en om
def k2b (g : D → D → Option D) (x : D) (Q : D → Ev → Om → Prop) : D → Ev → Om → Prop := fun y en om => wO (g x (frz y)) fun c => Q c en om
@[simp] theorem k2_at {g f Q x} : k2 g f Q x en om = wE f (k2b g (frz x) Q) en om := rfl
@[simp] theorem k2b_at {g Q x y} : k2b g x Q y en om = wO (g x (frz y)) fun c => Q c en om := rfl
@[simp] theorem wE_2 {g : D → D → Option D} {a b : DE Om} {Q} : wE (d2 g a b) Q en om = wE a (k2 g b Q) en om := by
  unfold wE d2 k2 wE; simp only [ex_map, wO_bind, wO_map]
def kNotV (Q : D → Ev → Om → Prop) : Bool → Ev → Om → Prop := fun b en om => Q (.bl (!b)) en om
@[simp] theorem kNotV_at {Q : D → Ev → Om → Prop} {b} : kNotV Q b en om = Q (.bl (!b)) en om := rfl
@[simp] theorem wE_notV {f : DE Om} {Q} : wE (dNotV f) Q en om = wE f (kB (kNotV Q)) en om := by
  rw [← wT_B]; unfold wE wT dNotV kNotV; simp only [ex_map, wO_map]
def kAndV (g : DE Om) (Q : D → Ev → Om → Prop) : Bool → Ev → Om → Prop := fun b en om => if b = true then wE g Q en om else Q (.bl false) en om
@[simp] theorem kAndV_at {g : DE Om} {Q} {b} : kAndV g Q b en om = if b = true then wE g Q en om else Q (.bl false) en om := rfl
@[simp] theorem wE_andV {f g : DE Om} {Q} : wE (dAndV f g) Q en om = wE f (kB (kAndV g Q)) en om := by
  rw [← wT_B]; unfold wE wT dAndV kAndV wE; simp only [ex_map, wO_bind, wO_if, wO_some]
def kOrV (g : DE Om) (Q : D → Ev → Om → Prop) : Bool → Ev → Om → Prop := fun b en om => if b = true then Q (.bl true) en om else wE g Q en om
@[simp] theorem kOrV_at {g : DE Om} {Q} {b} : kOrV g Q b en om = if b = true then Q (.bl true) en om else wE g Q en om := rfl
@[simp] theorem wE_orV {f g : DE Om} {Q} : wE (dOrV f g) Q en om = wE f (kB (kOrV g Q)) en om := by
  rw [← wT_B]; unfold wE wT dOrV kOrV wE; simp only [ex_map, wO_bind, wO_if, wO_some]
def kIfE (f g : DE Om) (Q : D → Ev → Om → Prop) : Bool → Ev → Om → Prop := fun b en om => if b = true then wE f Q en om else wE g Q en om
@[simp] theorem kIfE_at {f g : DE Om} {Q} {b} : kIfE f g Q b en om = if b = true then wE f Q en om else wE g Q en om := rfl
@[simp] theorem wE_if {c : DT Om} {f g : DE Om} {Q} : wE (dIf c f g) Q en om = wT c (kIfE f g Q) en om := by
  unfold wE wT dIf kIfE wE; simp only [ex_map, wO_bind, wO_if]
def kOrT (g : DE Om) (Q : D → Ev → Om → Prop) : D → Ev → Om → Prop := fun d en om => wO (truD (frz d)) fun b => if b = true then Q (frz d) en om else wE g Q en om
@[simp] theorem kOrT_at {g : DE Om} {Q} {d} : kOrT g Q d en om = wO (truD (frz d)) fun b => if b = true then Q (frz d) en om else wE g Q en om := rfl
@[simp] theorem wE_orT {f g : DE Om} {Q} : wE (dOrT' f g) Q en om = wE f (kOrT g Q) en om := by
  unfold wE dOrT' kOrT wE; simp only [ex_map, wO_bind, wO_if, wO_some]
def kNeg (Q : D → Ev → Om → Prop) : D → Ev → Om → Prop
  | .int i => Q (.int (-i))
  | _ => fun _ _ => False
@[simp] theorem kNeg_at {Q : D → Ev → Om → Prop} {i} : kNeg Q (.int i) en om = Q (.int (-i)) en om := rfl
@[simp] theorem wE_neg {f : DE Om} {Q} : wE (dNeg f) Q en om = wE f (kNeg Q) en om := by
  unfold wE dNeg
  simp only [ex_map, wO_bind]
  congr 1
  funext ⟨d, e, m⟩
  cases d <;> simp [kNeg]
def kCh1 (g g' : D → D → Option D) (f2 f3 : DE Om) (Q : D → Ev → Om → Prop) : D → Ev → Om → Prop := fun x en om => wE f2 (fun y en om => wO (g (frz x) (frz y)) fun c => match c with
  | .bl true => wE f3 (fun z en om => wO (g' (frz y) (frz z)) fun c => Q c en om) en om
  | .bl false => Q (.bl false) en om
  | _ => False) en om
def kCh2 (g g' : D → D → Option D) (x : D) (f3 : DE Om) (Q : D → Ev → Om → Prop) : D → Ev → Om → Prop := fun y en om => wO (g x (frz y)) fun c => match c with
  | .bl true => wE f3 (k2b g' (frz y) Q) en om
  | .bl false => Q (.bl false) en om
  | _ => False
@[simp] theorem kCh1_at {g g' : D → D → Option D} {f2 f3 : DE Om} {Q} {x} : kCh1 g g' f2 f3 Q x en om = wE f2 (kCh2 g g' (frz x) f3 Q) en om := rfl
def chQ (g' : D → D → Option D) (y : D) (f3 : DE Om) (Q : D → Ev → Om → Prop) (en : Ev) (om : Om) : D → Prop
  | .bl b => if b = true then wE f3 (k2b g' y Q) en om else Q (.bl false) en om
  | _ => False
@[simp] theorem chQ_at {g' : D → D → Option D} {y : D} {f3 : DE Om} {Q} {b} : chQ g' y f3 Q en om (.bl b) = if b = true then wE f3 (k2b g' y Q) en om else Q (.bl false) en om := rfl
@[simp] theorem kCh2_at {g g' : D → D → Option D} {x} {f3 : DE Om} {Q} {y} : kCh2 g g' x f3 Q y en om = wO (g x (frz y)) (chQ g' (frz y) f3 Q en om) := by
  unfold kCh2
  congr 1
  funext c
  cases c <;> first | rfl | skip
  rename_i b
  cases b <;> rfl
@[simp] theorem wE_chain {g g' : D → D → Option D} {f1 f2 f3 : DE Om} {Q} : wE (dChain g g' f1 f2 f3) Q en om = wE f1 (kCh1 g g' f2 f3 Q) en om := by
  unfold wE dChain kCh1 wE
  simp only [ex_map, wO_bind]
  congr 1
  funext p
  congr 1
  funext q
  cases h : g (frz p.1) (frz q.1) with
  | none => simp
  | some c =>
    cases c <;> first | (simp only [wO_some, wO_none]) | skip
    rename_i b
    cases b <;> simp [wO_bind, wO_map]
/-! lists of expressions -/
@[simp] theorem wA_nil {Q} : wA (aNil : DA Om) Q en om = Q [] en om := by simp only [wA, aNil, ex_map, ex_map2, wO_some]
def kC1 (g : DA Om) (Q : List D → Ev → Om → Prop) : D → Ev → Om → Prop := fun d en om => wA g (fun ds en om => Q (d :: ds) en om) en om
def kC2 (d : D) (Q : List D → Ev → Om → Prop) : List D → Ev → Om → Prop := fun ds en om => Q (d :: ds) en om
@[simp] theorem kC1_at {g : DA Om} {Q d} : kC1 g Q d en om = wA g (kC2 d Q) en om := rfl
@[simp] theorem kC2_at {Q : List D → Ev → Om → Prop} {d ds} : kC2 d Q ds en om = Q (d :: ds) en om := rfl
@[simp] theorem wA_cons {f : DE Om} {g : DA Om} {Q} : wA (aCons f g) Q en om = wE f (kC1 g Q) en om := by
  unfold wA wE aCons kC1 wA; simp only [ex_map, wO_bind, wO_map]
def kSt1 (g : DA Om) (Q : List D → Ev → Om → Prop) : List D → Ev → Om → Prop := fun d en om => wA g (fun ds en om => Q (d ++ ds) en om) en om
def kSt2 (d : List D) (Q : List D → Ev → Om → Prop) : List D → Ev → Om → Prop := fun ds en om => Q (d ++ ds) en om
@[simp] theorem kSt1_at {g : DA Om} {Q d} : kSt1 g Q d en om = wA g (kSt2 d Q) en om := rfl
@[simp] theorem kSt2_at {Q : List D → Ev → Om → Prop} {d ds} : kSt2 d Q ds en om = Q (d ++ ds) en om := rfl
@[simp] theorem wA_star {f : DE Om} {g : DA Om} {Q} : wA (aStar f g) Q en om = wA (iSeq f) (kSt1 g Q) en om := by
  unfold wA aStar kSt1 wA; simp only [ex_map, wO_bind, wO_map]
def kTup (Q : D → Ev → Om → Prop) : List D → Ev → Om → Prop := fun ds en om => ds.length ≤ 1000 ∧ Q (.tup ds) en om
@[simp] theorem kTup_at {Q : D → Ev → Om → Prop} {ds} : kTup Q ds en om = (ds.length ≤ 1000 ∧ Q (.tup ds) en om) := rfl
@[simp] theorem wE_tup {f : DA Om} {Q} : wE (dTup f) Q en om = wA f (kTup Q) en om := by
  unfold wE wA dTup kTup; simp only [ex_map, wO_bind, wO_if, wO_some, wO_none, if_false_right]
def kLst (Q : D → Ev → Om → Prop) : List D → Ev → Om → Prop := fun ds en om => ds.length ≤ 1000 ∧ Q (.lst .o ds) en om
@[simp] theorem kLst_at {Q : D → Ev → Om → Prop} {ds} : kLst Q ds en om = (ds.length ≤ 1000 ∧ Q (.lst .o ds) en om) := rfl
@[simp] theorem wE_lst {f : DA Om} {Q} : wE (dLst f) Q en om = wA f (kLst Q) en om := by
  unfold wE wA dLst kLst; simp only [ex_map, wO_bind, wO_if, wO_some, wO_none, if_false_right]
def kCB (g : List D → Option D) (Q : D → Ev → Om → Prop) : List D → Ev → Om → Prop := fun ds en om => wO (g (frzs ds)) fun c => Q c en om
@[simp] theorem kCB_at {g : List D → Option D} {Q : D → Ev → Om → Prop} {ds} : kCB g Q ds en om = wO (g (frzs ds)) fun c => Q c en om := rfl
@[simp] theorem wE_CB {g : List D → Option D} {f : DA Om} {Q} : wE (dCB g f) Q en om = wA f (kCB g Q) en om := by
  unfold wE wA dCB kCB; simp only [ex_map, wO_bind, wO_map]
def kCall (M : DF Om) (Q : D → Ev → Om → Prop) : List D → Ev → Om → Prop := fun ds en om => wM M (lends ds) (fun d om => Q d en om) om
@[simp] theorem kCall_at {M : DF Om} {Q : D → Ev → Om → Prop} {ds} : kCall M Q ds en om = wM M (lends ds) (fun d om => Q d en om) om := rfl
@[simp] theorem wE_call {M : DF Om} {f : DA Om} {Q} : wE (dCall M f) Q en om = wA f (kCall M Q) en om := by
  unfold wE wA dCall kCall wM; simp only [ex_map, ex_map2, wO_bind, wO_map]
def lQ (S : Addr → Option (DF Om)) (f : DA Om) (Q : D → Ev → Om → Prop) (en : Ev) (om : Om) : Option (Option D) → Prop
  | some (some (.opq a)) => wO (S a) fun M => wE (dCall M f) Q en om
  | _ => False
@[simp] theorem lQ_some {S : Addr → Option (DF Om)} {f : DA Om} {Q a} : lQ S f Q en om (some (some (.opq a))) = wO (S a) fun M => wE (dCall M f) Q en om := rfl
@[simp] theorem wE_callL {i : Nat} {S : Addr → Option (DF Om)} {f : DA Om} {Q} : wE (dCallL i S f) Q en om = lQ S f Q en om en[i]? := by
  unfold wE dCallL lQ
  cases h : en[i]? with
  | none => simp
  | some x =>
    cases x with
    | none => simp
    | some d =>
      cases d <;> simp
      rename_i a
      cases S a <;> simp only [wO_some, wO_none, ← wE_call, wE]
      simp
theorem wM_eq {M : DF Om} {ts : List D} {Q} {r : D} {om' : Om} (h : M ts om = some (r, om')) : wM M ts Q om = Q r om' := by
  unfold wM; rw [h]; simp only [ex_map2, wO_some]
theorem wX_eq {M : DX Om} {ts : List D} {Q} {r : Res} {om' : Om} (h : M ts om = some (r, om')) : wX M ts Q om = Q r om' := by
  unfold wX; rw [h]; simp only [ex_map2, wO_some]
def kCX (g : D → SD Om) (Q : Out → Ev → Om → Prop) (en : Ev) : Res → Om → Prop
  | .inl t => wS (g t) Q en
  | .inr e => Q (.rz e.1 e.2) en
@[simp] theorem kCX_inl {g : D → SD Om} {Q t} : kCX g Q en (.inl t) om = wS (g t) Q en om := rfl
@[simp] theorem kCX_inr {g : D → SD Om} {Q e} : kCX g Q en (.inr e) om = Q (.rz e.1 e.2) en om := rfl
def kCallS (M : DX Om) (g : D → SD Om) (Q : Out → Ev → Om → Prop) : List D → Ev → Om → Prop := fun ds en om => wX M (lends ds) (kCX g Q en) om
@[simp] theorem kCallS_at {M : DX Om} {g : D → SD Om} {Q ds} : kCallS M g Q ds en om = wX M (lends ds) (kCX g Q en) om := rfl
@[simp] theorem wS_callS {M : DX Om} {f : DA Om} {g : D → SD Om} {Q} : wS (callS M f g) Q en om = wA f (kCallS M g Q) en om := by
  unfold wS wA callS kCallS wX
  simp only [ex_map, ex_map2, wO_bind]
  congr 1
  funext p
  congr 1
  funext ⟨r, m⟩
  cases r with
  | inl t => simp only [kCX, wS, ex_map]
  | inr e => simp only [kCX, wO_some]
@[simp] theorem wS_exprX {M : DX Om} {f : DA Om} {Q} : wS (sExprX M f) Q en om = wA f (kCallS M (fun _ en om => some (.nx, en, om)) Q) en om := wS_callS
@[simp] theorem wS_setX {i} {M : DX Om} {f : DA Om} {Q} : wS (sSetX i M f) Q en om = wA f (kCallS M (fun d en om => (gN i d en om).map fun q => (.nx, q.1, q.2)) Q) en om := wS_callS
@[simp] theorem wS_retX {M : DX Om} {f : DA Om} {Q} : wS (sRetX M f) Q en om = wA f (kCallS M (fun d en om => some (.rt d, en, om)) Q) en om := wS_callS
@[simp] theorem wS_some {r : Out × Ev × Om} {Q} : wS (fun _ _ => some r) Q en om = Q r.1 r.2.1 r.2.2 := by simp only [wS, ex_map, ex_map, ex_map2, wO_some]
@[simp] theorem wS_nx1 {Q} : wS (fun en om => some (Out.nx, en, om) : SD Om) Q en om = Q .nx en om := by simp only [wS, ex_map, wO_some]
@[simp] theorem wS_rt1 {d} {Q} : wS (fun en om => some (Out.rt d, en, om) : SD Om) Q en om = Q (.rt d) en om := by simp only [wS, ex_map, wO_some]
@[simp] theorem wS_gN1 {i d} {Q} : wS (fun en om => (gN i d en om).map fun q => (Out.nx, q.1, q.2) : SD Om) Q en om = wG (gN i) d (fun en om => Q .nx en om) en om := by simp only [wS, wG, ex_map, ex_map2, wO_map]
/-! targets -/
@[simp] theorem wG_N {i : Nat} {d} {Q} : wG (gN i) d Q en om = (i < en.length ∧ Q (en.set i (some d)) om) := by
  unfold wG gN; simp only [ex_map2, wO_if, wO_some, wO_none, if_false_right]
@[simp] theorem wG_T {n : Nat} {gs : TgsD Om} {ds} {Q} : wG (gT n gs) (.tup ds) Q en om = (ds.length = n ∧ wGs gs ds Q en om) := by
  unfold wG gT wGs; simp only [ex_map2, wO_if, wO_none, if_false_right]
@[simp] theorem wGs_nil {Q} : wGs (gsNil : TgsD Om) [] Q en om = Q en om := by simp only [wGs, gsNil, ex_map, ex_map2, wO_some]
def kGs (gs : TgsD Om) (ds : List D) (Q : Ev → Om → Prop) : Ev → Om → Prop := fun en om => wGs gs ds Q en om
@[simp] theorem kGs_at {gs : TgsD Om} {ds Q} : kGs gs ds Q en om = wGs gs ds Q en om := rfl
@[simp] theorem wGs_cons {g : TgD Om} {gs : TgsD Om} {d ds} {Q} : wGs (gsCons g gs) (d :: ds) Q en om = wG g d (kGs gs ds Q) en om := by
  unfold wGs gsCons wG kGs wGs; simp only [ex_map2, wO_bind]
/-! walks -/
def kFor (g : TgD Om) (b : SD Om) (Q : Out → Ev → Om → Prop) : List D → Ev → Om → Prop := fun ds en om => wS (forL g b ds) Q en om
@[simp] theorem kFor_at {g : TgD Om} {b : SD Om} {Q ds} : kFor g b Q ds en om = wS (forL g b ds) Q en om := rfl
@[simp] theorem wS_for {f : DA Om} {g : TgD Om} {b : SD Om} {Q} : wS (sFor f g b) Q en om = wA f (kFor g b Q) en om := by
  unfold wS wA sFor kFor wS; simp only [ex_map, wO_bind]
def sqQ (Q : List D → Ev → Om → Prop) : D → Ev → Om → Prop
  | .lst _ l => Q l
  | .tup l => Q l
  | _ => fun _ _ => False
def kSq (Q : List D → Ev → Om → Prop) : D → Ev → Om → Prop := fun d en om => sqQ Q (frz d) en om
@[simp] theorem kSq_at {Q : List D → Ev → Om → Prop} {d} : kSq Q d en om = sqQ Q (frz d) en om := rfl
@[simp] theorem sqQ_l {Q : List D → Ev → Om → Prop} {g l} : sqQ Q (.lst g l) en om = Q l en om := rfl
@[simp] theorem sqQ_t {Q : List D → Ev → Om → Prop} {l} : sqQ Q (.tup l) en om = Q l en om := rfl
@[simp] theorem wA_seq {f : DE Om} {Q} : wA (iSeq f) Q en om = wE f (kSq Q) en om := by
  unfold wA wE iSeq kSq
  simp only [ex_map, wO_bind]
  congr 1
  funext ⟨d, e, m⟩
  cases h : frz d <;> simp [h, sqQ]
def enQ (Q : List D → Ev → Om → Prop) : D → Ev → Om → Prop
  | .lst _ l => Q (pairsI l)
  | .tup l => Q (pairsI l)
  | _ => fun _ _ => False
def kEn (Q : List D → Ev → Om → Prop) : D → Ev → Om → Prop := fun d en om => enQ Q (frz d) en om
@[simp] theorem kEn_at {Q : List D → Ev → Om → Prop} {d} : kEn Q d en om = enQ Q (frz d) en om := rfl
@[simp] theorem enQ_l {Q : List D → Ev → Om → Prop} {g l} : enQ Q (.lst g l) en om = Q (pairsI l) en om := rfl
@[simp] theorem enQ_t {Q : List D → Ev → Om → Prop} {l} : enQ Q (.tup l) en om = Q (pairsI l) en om := rfl
@[simp] theorem wA_en {f : DE Om} {Q} : wA (iEn f) Q en om = wE f (kEn Q) en om := by
  unfold wA wE iEn kEn
  simp only [ex_map, wO_bind]
  congr 1
  funext ⟨d, e, m⟩
  cases h : frz d <;> simp [h, enQ]
def kZp (Q : List D → Ev → Om → Prop) : List D → Ev → Om → Prop := fun ds en om => wO (zipL (frzs ds)) fun l => Q l en om
@[simp] theorem kZp_at {Q : List D → Ev → Om → Prop} {ds} : kZp Q ds en om = wO (zipL (frzs ds)) fun l => Q l en om := rfl
@[simp] theorem wA_zp {f : DA Om} {Q} : wA (iZp f) Q en om = wA f (kZp Q) en om := by
  unfold wA iZp kZp; simp only [ex_map, wO_bind, wO_map]
def kR1 (Q : List D → Ev → Om → Prop) : List D → Ev → Om → Prop
  | [.int j] => fun en om => small j = true ∧ Q (rng 0 j.toNat) en om
  | _ => fun _ _ => False
@[simp] theorem kR1_at {Q : List D → Ev → Om → Prop} {j} : kR1 Q [.int j] en om = (small j = true ∧ Q (rng 0 j.toNat) en om) := rfl
@[simp] theorem wA_R1 {f : DA Om} {Q} : wA (iR1 f) Q en om = wA f (kR1 Q) en om := by
  unfold wA iR1
  simp only [ex_map, wO_bind]
  congr 1
  funext ⟨ds, e, m⟩
  rcases ds with _ | ⟨d, _ | ⟨d2, ds⟩⟩
  · simp [kR1]
  · cases d <;> simp [kR1, wO_if]
  · simp [kR1]
def kR2 (Q : List D → Ev → Om → Prop) : List D → Ev → Om → Prop
  | [.int i, .int j] => fun en om => (small i = true ∧ small j = true) ∧ Q (rng i (j - i).toNat) en om
  | _ => fun _ _ => False
@[simp] theorem kR2_at {Q : List D → Ev → Om → Prop} {i j} : kR2 Q [.int i, .int j] en om = ((small i = true ∧ small j = true) ∧ Q (rng i (j - i).toNat) en om) := rfl
@[simp] theorem wA_R2 {f : DA Om} {Q} : wA (iR2 f) Q en om = wA f (kR2 Q) en om := by
  unfold wA iR2
  simp only [ex_map, wO_bind]
  congr 1
  funext ⟨ds, e, m⟩
  rcases ds with _ | ⟨d, _ | ⟨d2, _ | ⟨d3, ds⟩⟩⟩
  · simp [kR2]
  · cases d <;> simp [kR2]
  · cases d <;> cases d2 <;> simp [kR2, wO_if]
  · cases d <;> cases d2 <;> simp [kR2]
/-- a walk, by what holds in front of each step -/
theorem wS_walk {g : TgD Om} {b : SD Om} {ds : List D} {Q : Out → Ev → Om → Prop} (I : Nat → Ev → Om → Prop) (h0 : I 0 en om)
    (step : ∀ i d en om, ds[i]? = some d → I i en om → wG g d (wS b (fun o en om => match o with
      | .nx => I (i + 1) en om
      | .ct => I (i + 1) en om
      | .bk => Q .nx en om
      | o => Q o en om)) en om)
    (done : ∀ en om, I ds.length en om → Q .nx en om) : wS (forL g b ds) Q en om := by
  suffices ∀ (l : List D) (k : Nat) (en : Ev) (om : Om), I k en om → k + l.length = ds.length → (∀ i, l[i]? = ds[k + i]?) → wS (forL g b l) Q en om from this ds 0 en om h0 (by simp) (by simp)
  intro l
  induction l with
  | nil =>
    intro k en om h hl _
    have : k = ds.length := by simpa using hl
    subst this
    exact ⟨.nx, en, om, rfl, done _ _ h⟩
  | cons d l ih =>
    intro k en om h hl hx
    have hd : ds[k]? = some d := by rw [← Nat.add_zero k, ← hx 0]; rfl
    obtain ⟨en1, om1, e1, o, en2, om2, e2, q⟩ := step k d en om hd h
    have next : ∀ en om, I (k + 1) en om → wS (forL g b l) Q en om := fun en om h => ih (k + 1) en om h (by simp at hl; omega) (fun i => by
      have := hx (i + 1)
      rw [Nat.add_assoc, Nat.add_comm 1 i, ← this]; rfl)
    unfold wS
    unfold forL
    rw [e1]
    simp only [Option.bind_some, e2]
    cases o with
    | nx => exact next _ _ q
    | ct => exact next _ _ q
    | bk => exact ⟨_, _, _, rfl, q⟩
    | rt d => exact ⟨_, _, _, rfl, q⟩
    | rz C fs => exact ⟨_, _, _, rfl, q⟩
end
end DL

/-! DM2: defs run forward; plain data. -/
namespace DL
open PySem PySem.Spec PyProof.Rows L2
section
variable {Om : Type} {en : Ev} {om : Om}
def kBody (Q : D → Om → Prop) : Out → Ev → Om → Prop
  | .rt t => fun _ om => noB t = true ∧ Q t om
  | .nx => fun _ om => Q .non om
  | _ => fun _ _ => False
@[simp] theorem kBody_rt {Q : D → Om → Prop} {t} : kBody Q (.rt t) en om = (noB t = true ∧ Q t om) := rfl
@[simp] theorem kBody_nx {Q : D → Om → Prop} : kBody Q .nx en om = Q .non om := rfl
theorem wM_mk {k n : Nat} {b : SD Om} {ts : List D} {Q} : wM (mkM k n b) ts Q om = (ts.length = k ∧ wS b (kBody Q) (startE n ts) om) := by
  unfold wM mkM bodyR wS kBody
  simp only [ex_map2, ex_map, wO_if, wO_none, if_false_right, wO_bind]
  congr 2
  funext ⟨o, e, m⟩
  cases o <;> simp [wO_if]
def kBodyX (Q : Res → Om → Prop) : Out → Ev → Om → Prop
  | .rt t => fun _ om => noB t = true ∧ Q (.inl t) om
  | .nx => fun _ om => Q (.inl .non) om
  | .rz C fs => fun _ om => Q (.inr (C, fs)) om
  | _ => fun _ _ => False
@[simp] theorem kBodyX_rt {Q : Res → Om → Prop} {t} : kBodyX Q (.rt t) en om = (noB t = true ∧ Q (.inl t) om) := rfl
@[simp] theorem kBodyX_nx {Q : Res → Om → Prop} : kBodyX Q .nx en om = Q (.inl .non) om := rfl
@[simp] theorem kBodyX_rz {Q : Res → Om → Prop} {C fs} : kBodyX Q (.rz C fs) en om = Q (.inr (C, fs)) om := rfl
theorem wX_mk {k n : Nat} {b : SD Om} {ts : List D} {Q} : wX (mkX k n b) ts Q om = (ts.length = k ∧ wS b (kBodyX Q) (startE n ts) om) := by
  unfold wX mkX bodyX wS kBodyX
  simp only [ex_map2, ex_map, wO_if, wO_none, if_false_right, wO_bind]
  congr 2
  funext ⟨o, e, m⟩
  cases o <;> simp [wO_if]
theorem M_of {M : DF Om} {ts : List D} {r : D} {om' : Om} (h : wM M ts (fun d m => d = r ∧ m = om') om) : M ts om = some (r, om') := by
  obtain ⟨d, m, h, rfl, rfl⟩ := h; exact h
theorem X_of {M : DX Om} {ts : List D} {r : Res} {om' : Om} (h : wX M ts (fun d m => d = r ∧ m = om') om) : M ts om = some (r, om') := by
  obtain ⟨d, m, h, rfl, rfl⟩ := h; exact h
theorem wS_mono {f : SD Om} {Q Q' : Out → Ev → Om → Prop} (h : wS f Q en om) (k : ∀ o en om, Q o en om → Q' o en om) : wS f Q' en om := by
  obtain ⟨o, e, m, h, q⟩ := h; exact ⟨o, e, m, h, k _ _ _ q⟩
theorem wM_mono {M : DF Om} {ts : List D} {Q Q' : D → Om → Prop} (h : wM M ts Q om) (k : ∀ d om, Q d om → Q' d om) : wM M ts Q' om := by
  obtain ⟨d, m, h, q⟩ := h; exact ⟨d, m, h, k _ _ q⟩
theorem wE_mono {f : DE Om} {Q Q' : D → Ev → Om → Prop} (h : wE f Q en om) (k : ∀ d en om, Q d en om → Q' d en om) : wE f Q' en om := by
  obtain ⟨o, e, m, h, q⟩ := h; exact ⟨o, e, m, h, k _ _ _ q⟩
def kRz (C : Addr) (fs : List Str) (Q : Out → Ev → Om → Prop) : List D → Ev → Om → Prop := fun ds en om => wO (atVs ds) fun zs => (zs.length = fs.length ∧ zs.all okV = true) ∧ Q (.rz C (xdOf fs zs)) en om
@[simp] theorem kRz_at {C : Addr} {fs : List Str} {Q : Out → Ev → Om → Prop} {ds} : kRz C fs Q ds en om = wO (atVs ds) fun zs => (zs.length = fs.length ∧ zs.all okV = true) ∧ Q (.rz C (xdOf fs zs)) en om := rfl
@[simp] theorem wS_raise {C : Addr} {fs : List Str} {fa : DA Om} {Q} : wS (sRaise C fs fa) Q en om = wA fa (kRz C fs Q) en om := by
  unfold wS wA sRaise kRz; simp only [ex_map, wO_bind, wO_if, wO_some, wO_none, if_false_right]
@[simp] theorem wS_raise0 {C : Addr} {Q} : wS (sRaise0 C : SD Om) Q en om = Q (.rz C []) en om := by simp only [wS, sRaise0, ex_map, wO_some]
/-! comprehensions -/
def kLc (g : TgD Om) (t : DT Om) (e : DE Om) (vs : List Nat) (Q : D → Ev → Om → Prop) : List D → Ev → Om → Prop := fun ds en om => wO (lcL g t e vs ds (wipeE en vs) om []) fun q => Q (.lst .o q.1) (backE en vs q.2.1) q.2.2
@[simp] theorem wE_Lc {f : DA Om} {g : TgD Om} {t : DT Om} {e : DE Om} {vs : List Nat} {Q} : wE (dLc f g t e vs) Q en om = wA f (kLc g t e vs Q) en om := by
  unfold wE wA dLc kLc; simp only [ex_map, wO_bind, wO_map]

/-- a comprehension, by what holds in front of each step -/
theorem lc_walk {g : TgD Om} {t : DT Om} {e : DE Om} {vs : List Nat} {ds : List D} {Q : List D → Ev → Om → Prop} (hl : ds.length ≤ 1000) (I : Nat → Ev → Om → List D → Prop) (h0 : I 0 en om [])
    (step : ∀ i d en om acc, ds[i]? = some d → I i en om acc → wG g d (wT t fun b en om => if b = true then wE e (fun y en om => I (i + 1) (wipeE en vs) om (acc ++ [y])) en om else I (i + 1) (wipeE en vs) om acc) en om)
    (done : ∀ en om acc, I ds.length en om acc → Q acc en om) : wO (lcL g t e vs ds en om []) fun q => Q q.1 q.2.1 q.2.2 := by
  suffices ∀ (l : List D) (k : Nat) (en : Ev) (om : Om) (acc : List D), acc.length ≤ k → I k en om acc → k + l.length = ds.length → (∀ i, l[i]? = ds[k + i]?) → wO (lcL g t e vs l en om acc) fun q => Q q.1 q.2.1 q.2.2 from this ds 0 en om [] (by simp) h0 (by simp) (by simp)
  intro l
  induction l with
  | nil =>
    intro k en om acc _ h hl _
    have : k = ds.length := by simpa using hl
    subst this
    unfold lcL
    rw [wO_some]
    exact done _ _ _ h
  | cons d l ih =>
    intro k en om acc ha h hlen hx
    have hd : ds[k]? = some d := by rw [← Nat.add_zero k, ← hx 0]; rfl
    obtain ⟨en1, om1, e1, b, en2, om2, e2, q⟩ := step k d en om acc hd h
    have hx' : ∀ i, l[i]? = ds[k + 1 + i]? := fun i => by
      have := hx (i + 1)
      rw [Nat.add_assoc, Nat.add_comm 1 i, ← this]; rfl
    have hlen' : k + 1 + l.length = ds.length := by simp at hlen; omega
    unfold lcL
    rw [e1]
    simp only [Option.bind_some, e2]
    cases b with
    | false =>
      simp only [Bool.false_eq_true, if_false] at q ⊢
      exact ih (k + 1) _ _ _ (by omega) q hlen' hx'
    | true =>
      simp only [if_true] at q ⊢
      obtain ⟨y, en3, om3, e3, q⟩ := q
      rw [e3]
      simp only [Option.bind_some]
      rw [if_pos (by omega)]
      exact ih (k + 1) _ _ _ (by simp; omega) q hlen' hx'
theorem kLc_walk {g : TgD Om} {t : DT Om} {e : DE Om} {vs : List Nat} {ds : List D} {Q : D → Ev → Om → Prop} (hl : ds.length ≤ 1000) (I : Nat → Ev → Om → List D → Prop) (h0 : I 0 (wipeE en vs) om [])
    (step : ∀ i d en om acc, ds[i]? = some d → I i en om acc → wG g d (wT t fun b en om => if b = true then wE e (fun y en om => I (i + 1) (wipeE en vs) om (acc ++ [y])) en om else I (i + 1) (wipeE en vs) om acc) en om)
    (done : ∀ en1 om acc, I ds.length en1 om acc → Q (.lst .o acc) (backE en vs en1) om) : kLc g t e vs Q ds en om :=
  lc_walk (Q := fun acc en1 om => Q (.lst .o acc) (backE en vs en1) om) hl I h0 step done
end
/-! plain data: nothing that can be changed -/
mutual
def plain : D → Bool
  | .tup l => plains l
  | .lst _ _ => false
  | .dic _ _ _ => false
  | _ => true
def plains : List D → Bool
  | [] => true
  | d :: l => plain d && plains l
end
theorem plain_id : ∀ d : D, plain d = true → frz d = d ∧ lend d = d ∧ noB d = true ∧ noO d = true := by
  intro d
  refine D.rec (motive_1 := fun d => plain d = true → frz d = d ∧ lend d = d ∧ noB d = true ∧ noO d = true) (motive_2 := fun ds => plains ds = true → frzs ds = ds ∧ lends ds = ds ∧ noBs ds = true ∧ noOs ds = true) ?_ ?_ ?_ ?_ ?_ ?_ ?_ ?_ ?_ ?_ ?_ d
  · simp [frz, lend, noB, noO]
  · intro b; simp [frz, lend, noB, noO]
  · intro b; simp [frz, lend, noB, noO]
  · intro b; simp [frz, lend, noB, noO]
  · intro l h p
    simp only [plain] at p
    obtain ⟨a, b, c, d⟩ := h p
    simp [frz, lend, noB, noO, a, b, c, d]
  · intro g l h p; simp [plain] at p
  · intro g ks l h p; simp [plain] at p
  · intro a; simp [frz, lend, noB, noO]
  · intro a; simp [frz, lend, noB, noO]
  · simp [frzs, lends, noBs, noOs]
  · intro d ds h1 h2 p
    simp only [plains, Bool.and_eq_true] at p
    obtain ⟨a, b, c, e⟩ := h1 p.1
    obtain ⟨a2, b2, c2, e2⟩ := h2 p.2
    simp [frzs, lends, noBs, noOs, a, b, c, e, a2, b2, c2, e2]
theorem plains_all : ∀ {l : List D}, plains l = true ↔ ∀ d ∈ l, plain d = true
  | [] => by simp [plains]
  | d :: l => by simp [plains, plains_all (l := l)]
theorem plains_id {l : List D} (h : plains l = true) : frzs l = l ∧ lends l = l ∧ noBs l = true ∧ noOs l = true := by
  have := plain_id (.tup l) (by simpa [plain] using h)
  simpa [frz, lend, noB, noO] using this
@[simp] theorem frzs_nil : frzs [] = [] := by simp [frzs]
@[simp] theorem frzs_cons {d l} : frzs (d :: l) = frz d :: frzs l := by simp [frzs]
@[simp] theorem lends_nil : lends [] = [] := by simp [lends]
@[simp] theorem lends_cons {d l} : lends (d :: l) = lend d :: lends l := by simp [lends]
@[simp] theorem frz_non : frz .non = .non := by simp [frz]
@[simp] theorem frz_bl {b} : frz (.bl b) = .bl b := by simp [frz]
@[simp] theorem frz_int {b} : frz (.int b) = .int b := by simp [frz]
@[simp] theorem frz_str {b} : frz (.str b) = .str b := by simp [frz]
@[simp] theorem frz_opq {b} : frz (.opq b) = .opq b := by simp [frz]
@[simp] theorem frz_ty {b} : frz (.ty b) = .ty b := by simp [frz]
@[simp] theorem frz_tup {l} : frz (.tup l) = .tup (frzs l) := by simp [frz]
@[simp] theorem frz_lst {g l} : frz (.lst g l) = .lst g.fz (frzs l) := by simp [frz]
@[simp] theorem frz_dic {g k l} : frz (.dic g k l) = .dic g.fz k (frzs l) := by simp [frz]
@[simp] theorem lend_dic {g k l} : lend (.dic g k l) = .dic .b k (lends l) := by simp [lend]
@[simp] theorem lend_non : lend .non = .non := by simp [lend]
@[simp] theorem lend_bl {b} : lend (.bl b) = .bl b := by simp [lend]
@[simp] theorem lend_int {b} : lend (.int b) = .int b := by simp [lend]
@[simp] theorem lend_str {b} : lend (.str b) = .str b := by simp [lend]
@[simp] theorem lend_opq {b} : lend (.opq b) = .opq b := by simp [lend]
@[simp] theorem lend_ty {b} : lend (.ty b) = .ty b := by simp [lend]
@[simp] theorem lend_tup {l} : lend (.tup l) = .tup (lends l) := by simp [lend]
@[simp] theorem lend_lst {g l} : lend (.lst g l) = .lst .b (lends l) := by simp [lend]
@[simp] theorem noB_non : noB .non = true := by simp [noB]
@[simp] theorem noB_bl {b} : noB (.bl b) = true := by simp [noB]
@[simp] theorem noB_int {b} : noB (.int b) = true := by simp [noB]
@[simp] theorem noB_str {b} : noB (.str b) = true := by simp [noB]
@[simp] theorem noB_tup {l} : noB (.tup l) = noBs l := by simp [noB]
@[simp] theorem noBs_nil : noBs [] = true := by simp [noBs]
@[simp] theorem noBs_cons {d l} : noBs (d :: l) = (noB d && noBs l) := by simp [noBs]
@[simp] theorem noB_lst {g l} : noB (.lst g l) = (g != .b && noBs l) := by simp [noB]
@[simp] theorem noO_non : noO .non = true := by simp [noO]
@[simp] theorem noO_bl {b} : noO (.bl b) = true := by simp [noO]
@[simp] theorem noO_int {b} : noO (.int b) = true := by simp [noO]
@[simp] theorem noO_str {b} : noO (.str b) = true := by simp [noO]
@[simp] theorem noO_tup {l} : noO (.tup l) = noOs l := by simp [noO]
@[simp] theorem noOs_nil : noOs [] = true := by simp [noOs]
@[simp] theorem noOs_cons {d l} : noOs (d :: l) = (noO d && noOs l) := by simp [noOs]
@[simp] theorem noO_lst {g l} : noO (.lst g l) = (g != .o && noOs l) := by simp [noO]
@[simp] theorem fz_f : Tag.fz .f = .f := rfl
@[simp] theorem fz_b : Tag.fz .b = .b := rfl
@[simp] theorem fz_o : Tag.fz .o = .f := rfl
@[simp] theorem fz_fz {g : Tag} : g.fz.fz = g.fz := by cases g <;> rfl
@[simp] theorem fz_nb {g : Tag} : (g.fz == .o) = false := by cases g <;> rfl
@[simp] theorem bneq1 : (Tag.f != Tag.b) = true := rfl
@[simp] theorem bneq2 : (Tag.o != Tag.b) = true := rfl
@[simp] theorem bneq3 : (Tag.b != Tag.b) = false := rfl
@[simp] theorem bneq4 : (Tag.f != Tag.o) = true := rfl
@[simp] theorem bneq5 : (Tag.b != Tag.o) = true := rfl
@[simp] theorem bneq6 : (Tag.o != Tag.o) = false := rfl
@[simp] theorem frzs_length {l : List D} : (frzs l).length = l.length := by induction l <;> simp_all
@[simp] theorem lends_length {l : List D} : (lends l).length = l.length := by induction l <;> simp_all
@[simp] theorem frz_frz' {d} : frz (frz d) = frz d := frz_frz d
/-- ints -/
def dI (l : List Int) : List D := l.map .int
def oD : Option Int → D
  | none => .non
  | some i => .int i
def dOp (l : List (Option Int)) : List D := l.map oD
def rowD (l : List Int) : D := .tup (dI l)
def rowsD (l : List (List Int)) : List D := l.map rowD
@[simp] theorem plain_oD {o} : plain (oD o) = true := by cases o <;> rfl
@[simp] theorem frz_oD {o} : frz (oD o) = oD o := by cases o <;> rfl
@[simp] theorem lend_oD {o} : lend (oD o) = oD o := by cases o <;> rfl
@[simp] theorem noB_oD {o} : noB (oD o) = true := by cases o <;> rfl
@[simp] theorem noO_oD {o} : noO (oD o) = true := by cases o <;> rfl
theorem plains_dI {l} : plains (dI l) = true := plains_all.mpr fun d h => by
  obtain ⟨i, _, rfl⟩ := List.mem_map.mp h; rfl
theorem plains_dOp {l} : plains (dOp l) = true := plains_all.mpr fun d h => by
  obtain ⟨i, _, rfl⟩ := List.mem_map.mp h; simp
theorem plains_rowsD {l} : plains (rowsD l) = true := plains_all.mpr fun d h => by
  obtain ⟨i, _, rfl⟩ := List.mem_map.mp h; simp [rowD, plain, plains_dI]
@[simp] theorem frzs_dI {l} : frzs (dI l) = dI l := (plains_id plains_dI).1
@[simp] theorem lends_dI {l} : lends (dI l) = dI l := (plains_id plains_dI).2.1
@[simp] theorem noBs_dI {l} : noBs (dI l) = true := (plains_id plains_dI).2.2.1
@[simp] theorem noOs_dI {l} : noOs (dI l) = true := (plains_id plains_dI).2.2.2
@[simp] theorem frzs_dOp {l} : frzs (dOp l) = dOp l := (plains_id plains_dOp).1
@[simp] theorem lends_dOp {l} : lends (dOp l) = dOp l := (plains_id plains_dOp).2.1
@[simp] theorem noBs_dOp {l} : noBs (dOp l) = true := (plains_id plains_dOp).2.2.1
@[simp] theorem noOs_dOp {l} : noOs (dOp l) = true := (plains_id plains_dOp).2.2.2
@[simp] theorem frzs_rowsD {l} : frzs (rowsD l) = rowsD l := (plains_id plains_rowsD).1
@[simp] theorem lends_rowsD {l} : lends (rowsD l) = rowsD l := (plains_id plains_rowsD).2.1
@[simp] theorem noBs_rowsD {l} : noBs (rowsD l) = true := (plains_id plains_rowsD).2.2.1
@[simp] theorem noOs_rowsD {l} : noOs (rowsD l) = true := (plains_id plains_rowsD).2.2.2
@[simp] theorem frz_rowD {l} : frz (rowD l) = rowD l := by simp [rowD]
@[simp] theorem lend_rowD {l} : lend (rowD l) = rowD l := by simp [rowD]
@[simp] theorem noB_rowD {l} : noB (rowD l) = true := by simp [rowD]
@[simp] theorem noO_rowD {l} : noO (rowD l) = true := by simp [rowD]
@[simp] theorem dI_length {l} : (dI l).length = l.length := by simp [dI]
@[simp] theorem dOp_length {l} : (dOp l).length = l.length := by simp [dOp]
@[simp] theorem rowsD_length {l} : (rowsD l).length = l.length := by simp [rowsD]
theorem dI_get {l : List Int} {i : Nat} : (dI l)[i]? = l[i]?.map .int := by simp [dI]
theorem dOp_get {l : List (Option Int)} {i : Nat} : (dOp l)[i]? = l[i]?.map oD := by simp [dOp]
theorem rowsD_get {l : List (List Int)} {i : Nat} : (rowsD l)[i]? = l[i]?.map rowD := by simp [rowsD]
theorem rng_getI {lo : Int} {n i : Nat} : (rng lo n)[i]? = if i < n then some (.int (lo + i)) else none := by
  unfold rng
  rw [List.getElem?_map]
  by_cases h : i < n
  · simp [h]
  · simp [h]
@[simp] theorem rng_length {lo n} : (rng lo n).length = n := by simp [rng]
@[simp] theorem pairsI_length {l} : (pairsI l).length = l.length := by simp [pairsI]
theorem pairsI_at {l : List D} {i : Nat} : (pairsI l)[i]? = l[i]?.map fun d => .tup [.int (i : Nat), d] := by
  unfold pairsI
  simp [List.getElem?_mapIdx]
theorem ixN_nat {n i : Nat} (h : i < n) : ixN n (i : Int) = some i := by
  unfold ixN
  rw [if_pos (by omega), if_pos (by omega)]; simp
theorem atI_natD {α : Type} {l : List α} {i : Nat} {a : α} (h : l[i]? = some a) : atI l (i : Int) = some a := by
  have := (List.getElem?_eq_some_iff.mp h).1
  unfold atI
  rw [ixN_nat this]
  exact h
/-! what the builtins say of plain things -/
@[simp] theorem kq_NoneType_int : kitB "NoneType" "int" = some false := by decide +kernel
@[simp] theorem kq_NoneType_bool : kitB "NoneType" "bool" = some false := by decide +kernel
@[simp] theorem kq_NoneType_tuple : kitB "NoneType" "tuple" = some false := by decide +kernel
@[simp] theorem kq_NoneType_list : kitB "NoneType" "list" = some false := by decide +kernel
@[simp] theorem kq_bool_int : kitB "bool" "int" = some true := by decide +kernel
@[simp] theorem kq_bool_bool : kitB "bool" "bool" = some true := by decide +kernel
@[simp] theorem kq_bool_tuple : kitB "bool" "tuple" = some false := by decide +kernel
@[simp] theorem kq_bool_list : kitB "bool" "list" = some false := by decide +kernel
@[simp] theorem kq_int_int : kitB "int" "int" = some true := by decide +kernel
@[simp] theorem kq_int_bool : kitB "int" "bool" = some false := by decide +kernel
@[simp] theorem kq_int_tuple : kitB "int" "tuple" = some false := by decide +kernel
@[simp] theorem kq_int_list : kitB "int" "list" = some false := by decide +kernel
@[simp] theorem kq_str_int : kitB "str" "int" = some false := by decide +kernel
@[simp] theorem kq_str_bool : kitB "str" "bool" = some false := by decide +kernel
@[simp] theorem kq_str_tuple : kitB "str" "tuple" = some false := by decide +kernel
@[simp] theorem kq_str_list : kitB "str" "list" = some false := by decide +kernel
@[simp] theorem kq_tuple_int : kitB "tuple" "int" = some false := by decide +kernel
@[simp] theorem kq_tuple_bool : kitB "tuple" "bool" = some false := by decide +kernel
@[simp] theorem kq_tuple_tuple : kitB "tuple" "tuple" = some true := by decide +kernel
@[simp] theorem kq_tuple_list : kitB "tuple" "list" = some false := by decide +kernel
@[simp] theorem kq_list_int : kitB "list" "int" = some false := by decide +kernel
@[simp] theorem kq_list_bool : kitB "list" "bool" = some false := by decide +kernel
@[simp] theorem kq_list_tuple : kitB "list" "tuple" = some false := by decide +kernel
@[simp] theorem kq_list_list : kitB "list" "list" = some true := by decide +kernel
@[simp] theorem kq_dict_int : kitB "dict" "int" = some false := by decide +kernel
@[simp] theorem kq_dict_bool : kitB "dict" "bool" = some false := by decide +kernel
@[simp] theorem kq_dict_tuple : kitB "dict" "tuple" = some false := by decide +kernel
@[simp] theorem kq_dict_list : kitB "dict" "list" = some false := by decide +kernel
@[simp] theorem isi_NoneType  {n} : cIsi [.non, .ty n] = (kitB "NoneType" n).map .bl := by simp [cIsi, tyName]
@[simp] theorem isiL_NoneType  {ls} : cIsi [.non, .tup ls] = (kitL "NoneType" ls).map .bl := by simp [cIsi, tyName]
@[simp] theorem isi_bool {b} {n} : cIsi [(.bl b), .ty n] = (kitB "bool" n).map .bl := by simp [cIsi, tyName]
@[simp] theorem isiL_bool {b} {ls} : cIsi [(.bl b), .tup ls] = (kitL "bool" ls).map .bl := by simp [cIsi, tyName]
@[simp] theorem isi_int {i} {n} : cIsi [(.int i), .ty n] = (kitB "int" n).map .bl := by simp [cIsi, tyName]
@[simp] theorem isiL_int {i} {ls} : cIsi [(.int i), .tup ls] = (kitL "int" ls).map .bl := by simp [cIsi, tyName]
@[simp] theorem isi_str {z} {n} : cIsi [(.str z), .ty n] = (kitB "str" n).map .bl := by simp [cIsi, tyName]
@[simp] theorem isiL_str {z} {ls} : cIsi [(.str z), .tup ls] = (kitL "str" ls).map .bl := by simp [cIsi, tyName]
@[simp] theorem isi_tuple {l} {n} : cIsi [(.tup l), .ty n] = (kitB "tuple" n).map .bl := by simp [cIsi, tyName]
@[simp] theorem isiL_tuple {l} {ls} : cIsi [(.tup l), .tup ls] = (kitL "tuple" ls).map .bl := by simp [cIsi, tyName]
@[simp] theorem isi_list {g l} {n} : cIsi [(.lst g l), .ty n] = (kitB "list" n).map .bl := by simp [cIsi, tyName]
@[simp] theorem isiL_list {g l} {ls} : cIsi [(.lst g l), .tup ls] = (kitL "list" ls).map .bl := by simp [cIsi, tyName]
@[simp] theorem isi_dict {g ks l} {n} : cIsi [(.dic g ks l), .ty n] = (kitB "dict" n).map .bl := by simp [cIsi, tyName]
@[simp] theorem isiL_dict {g ks l} {ls} : cIsi [(.dic g ks l), .tup ls] = (kitL "dict" ls).map .bl := by simp [cIsi, tyName]
@[simp] theorem kitL_nil {t} : kitL t [] = some false := rfl
@[simp] theorem kitL_cons {t n r} : kitL t (.ty n :: r) = (kitB t n).bind fun b => (kitL t r).map fun c => b || c := rfl
@[simp] theorem atVs_nil : atVs [] = some [] := rfl
@[simp] theorem atVs_cons {d l} : atVs (d :: l) = (atV d).bind fun v => (atVs l).map fun vs => v :: vs := rfl
@[simp] theorem atV_i {i} : atV (.int i) = some (.int i) := rfl
@[simp] theorem atV_s {i} : atV (.str i) = some (.str i) := rfl
@[simp] theorem cLen_l {g l} : cLen [.lst g l] = some (.int l.length) := rfl
@[simp] theorem cLen_t {l} : cLen [.tup l] = some (.int l.length) := rfl
@[simp] theorem cTup_l {g l} : cTup [.lst g l] = some (.tup l) := rfl
@[simp] theorem cTup_t {l} : cTup [.tup l] = some (.tup l) := rfl
@[simp] theorem cLst_l {g l} : cLst [.lst g l] = some (.lst .o l) := rfl
@[simp] theorem cLst_t {l} : cLst [.tup l] = some (.lst .o l) := rfl
@[simp] theorem cAbs_i {i} : cAbs [.int i] = some (.int (if i < 0 then -i else i)) := rfl
@[simp] theorem oLe_i {i j : Int} : oLe (.int i) (.int j) = some (.bl (decide (i ≤ j))) := rfl
@[simp] theorem oLt_i {i j : Int} : oLt (.int i) (.int j) = some (.bl (decide (i < j))) := rfl
@[simp] theorem oGe_i {i j : Int} : oGe (.int i) (.int j) = some (.bl (decide (j ≤ i))) := rfl
@[simp] theorem oGt_i {i j : Int} : oGt (.int i) (.int j) = some (.bl (decide (j < i))) := rfl
@[simp] theorem oSub_i {i j : Int} : oSub (.int i) (.int j) = some (.int (i - j)) := rfl
@[simp] theorem oAdd_i {i j : Int} : oAdd (.int i) (.int j) = some (.int (i + j)) := rfl
@[simp] theorem oMul_i {i j : Int} : oMul (.int i) (.int j) = if CMul i j then some (.int (i * j)) else none := rfl
@[simp] theorem oDiv_i {i j : Int} : oDiv (.int i) (.int j) = if CDiv i j then some (.int (i / j)) else none := rfl
@[simp] theorem oMod_i {i j : Int} : oMod (.int i) (.int j) = if 0 < j then some (.int (i % j)) else none := rfl
@[simp] theorem oPow_i {i j : Int} : oPow (.int i) (.int j) = if CPow i j then some (.int (i ^ j.toNat)) else none := rfl
@[simp] theorem oIs_non {a} : oIs a .non = some (.bl (isNon a)) := by cases a <;> rfl
@[simp] theorem oIsnt_non {a} : oIsnt a .non = some (.bl (!isNon a)) := by cases a <;> rfl
@[simp] theorem isNon_non : isNon .non = true := rfl
@[simp] theorem isNon_int {i} : isNon (.int i) = false := rfl
@[simp] theorem isNon_str {i} : isNon (.str i) = false := rfl
@[simp] theorem isNon_bl {i} : isNon (.bl i) = false := rfl
@[simp] theorem isNon_tup {i} : isNon (.tup i) = false := rfl
@[simp] theorem isNon_lst {g i} : isNon (.lst g i) = false := rfl
@[simp] theorem isNon_dic {g k i} : isNon (.dic g k i) = false := rfl
@[simp] theorem isNon_oD {o : Option Int} : isNon (oD o) = o.isNone := by cases o <;> rfl

theorem eqD_of {a b : D} {p q : PyData} (ha : py a = some p) (hb : py b = some q) (sp : SeqAt.shaped p = true) (sq : SeqAt.shaped q = true) : eqD a b = some (PyData.eqv p q) := by
  unfold eqD; rw [ha, hb]; simp [sp, sq]
theorem shp_int {i : Int} : SeqAt.shaped (.int i) = true := by simp [SeqAt.shaped, PyData.canLay0, PyData.depth]
theorem shp_bool {i : Bool} : SeqAt.shaped (.bool i) = true := by simp [SeqAt.shaped, PyData.canLay0, PyData.depth]
theorem shp_none : SeqAt.shaped .none = true := by simp [SeqAt.shaped, PyData.canLay0, PyData.depth]
theorem shp_str {x : Str} (h : PyData.strOk x = true) : SeqAt.shaped (.str x) = true := by simp [SeqAt.shaped, PyData.canLay0, PyData.depth, h]
@[simp] theorem py_int {i} : py (.int i) = some (.int i) := by simp [py]
@[simp] theorem py_bl {i} : py (.bl i) = some (.bool i) := by simp [py]
@[simp] theorem py_str {i} : py (.str i) = some (.str i) := by simp [py]
@[simp] theorem py_non : py .non = some .none := by simp [py]
@[simp] theorem py_tup {l} : py (.tup l) = (pys l).map .tuple := by simp [py]
@[simp] theorem py_lst {g l} : py (.lst g l) = (pys l).map .list := by simp [py]
@[simp] theorem pys_nil : pys [] = some [] := by simp [pys]
@[simp] theorem pys_cons {d l} : pys (d :: l) = (py d).bind fun p => (pys l).map fun q => p :: q := by simp [pys]
@[simp] theorem eqD_ii {i j : Int} : eqD (.int i) (.int j) = some (i == j) := by
  rw [eqD_of py_int py_int shp_int shp_int]; simp [PyData.eqv]
@[simp] theorem eqD_bb {i j : Bool} : eqD (.bl i) (.bl j) = some (i == j) := by
  rw [eqD_of py_bl py_bl shp_bool shp_bool]; simp [PyData.eqv]
theorem eqD_ss {i j : Str} (h : PyData.strOk i = true) (h' : PyData.strOk j = true) : eqD (.str i) (.str j) = some (i == j) := by
  rw [eqD_of py_str py_str (shp_str h) (shp_str h')]; simp [PyData.eqv]
@[simp] theorem oEq_ii {i j : Int} : oEq (.int i) (.int j) = some (.bl (i == j)) := by simp [oEq]
@[simp] theorem oNe_ii {i j : Int} : oNe (.int i) (.int j) = some (.bl (!(i == j))) := by simp [oNe]
@[simp] theorem oEq_bb {i j : Bool} : oEq (.bl i) (.bl j) = some (.bl (i == j)) := by simp [oEq]
@[simp] theorem oNe_bb {i j : Bool} : oNe (.bl i) (.bl j) = some (.bl (!(i == j))) := by simp [oNe]
mutual
theorem eqv_self : ∀ {p : PyData}, p.canLay0 = true → PyData.eqv p p = true
  | .none, _ => by simp [PyData.eqv]
  | .bool b, _ => by simp [PyData.eqv]
  | .int b, _ => by simp [PyData.eqv]
  | .str b, _ => by simp [PyData.eqv]
  | .list l, h => by
    simp only [PyData.canLay0] at h
    simp only [PyData.eqv]
    exact eqvs_self h
  | .tuple l, h => by
    simp only [PyData.canLay0] at h
    simp only [PyData.eqv]
    exact eqvs_self h
  | .dict _, h => by simp [PyData.canLay0] at h
theorem eqvs_self : ∀ {l : List PyData}, PyData.canLayAll0 l = true → PyData.eqvAll l l = true
  | [], _ => by simp [PyData.eqvAll]
  | p :: l, h => by
    simp only [PyData.canLayAll0, Bool.and_eq_true] at h
    simp only [PyData.eqvAll, Bool.and_eq_true]
    exact ⟨eqv_self h.1, eqvs_self h.2⟩
end
/-- the same data are equal -/
theorem eqD_self {a b : D} {p : PyData} (ha : py a = some p) (hb : py b = some p) (sp : SeqAt.shaped p = true) : eqD a b = some true := by
  rw [eqD_of ha hb sp sp, eqv_self (SeqAt.canLay_of_shaped sp)]
@[simp] theorem blsOf_mapD {l : List Bool} : blsOf (l.map .bl) = some l := by induction l <;> simp_all [blsOf]
@[simp] theorem intsOf_dI {l : List Int} : intsOf (dI l) = some l := by
  unfold dI; induction l <;> simp_all [intsOf]
@[simp] theorem blsOf_rep {n : Nat} {b : Bool} : blsOf (List.replicate n (.bl b)) = some (List.replicate n b) := by
  rw [← List.map_replicate]; exact blsOf_mapD
@[simp] theorem frzs_rep {n : Nat} {d : D} : frzs (List.replicate n d) = List.replicate n (frz d) := by induction n <;> simp_all [List.replicate_succ]
@[simp] theorem lends_rep {n : Nat} {d : D} : lends (List.replicate n d) = List.replicate n (lend d) := by induction n <;> simp_all [List.replicate_succ]
@[simp] theorem frzs_bls {l : List Bool} : frzs (l.map .bl) = l.map .bl := by induction l <;> simp_all
@[simp] theorem noOs_bls {l : List Bool} : noOs (l.map .bl) = true := by induction l <;> simp_all
@[simp] theorem frzs_app {a b : List D} : frzs (a ++ b) = frzs a ++ frzs b := by induction a <;> simp_all
@[simp] theorem lends_app {a b : List D} : lends (a ++ b) = lends a ++ lends b := by induction a <;> simp_all
@[simp] theorem noBs_app {a b : List D} : noBs (a ++ b) = (noBs a && noBs b) := by induction a <;> simp_all [Bool.and_assoc]
@[simp] theorem noOs_app {a b : List D} : noOs (a ++ b) = (noOs a && noOs b) := by induction a <;> simp_all [Bool.and_assoc]
@[simp] theorem keepO_none : keepO (some none) = none := rfl
@[simp] theorem keepO_no : keepO none = none := rfl
@[simp] theorem keepO_some {d} : keepO (some (some d)) = if noO d = true then some d else none := rfl
@[simp] theorem wipeE_nil {en} : wipeE en [] = en := rfl
@[simp] theorem wipeE_cons {en v vs} : wipeE en (v :: vs) = (wipeE en vs).set v none := rfl
@[simp] theorem backE_nil {en e} : backE en [] e = e := rfl
@[simp] theorem backE_cons {en v vs e} : backE en (v :: vs) e = backE en vs (e.set v (keepO (wipeE en vs)[v]?)) := rfl
@[simp] theorem cAll_l {g l} : cAll [.lst g l] = (blsOf l).map fun bs => .bl (bs.all id) := rfl
@[simp] theorem oIx_l {g l i} : oIx (.lst g l) (.int i) = atI l i := rfl
@[simp] theorem oIx_t {l i} : oIx (.tup l) (.int i) = atI l i := rfl
@[simp] theorem oAdd_l {g h : Tag} {a b : List D} : oAdd (.lst g a) (.lst h b) = if sz (a.length + b.length) = true then some (.lst .o (a ++ b)) else none := rfl
@[simp] theorem atI_zero {α : Type} {a : α} {l : List α} : atI (a :: l) 0 = some a := by
  have : (0 : Int) = ((0 : Nat) : Int) := rfl
  rw [this]; exact atI_natD rfl
@[simp] theorem atI_one {α : Type} {a b : α} {l : List α} : atI (a :: b :: l) 1 = some b := by
  have : (1 : Int) = ((1 : Nat) : Int) := rfl
  rw [this]; exact atI_natD rfl
@[simp] theorem atI_two {α : Type} {a b c : α} {l : List α} : atI (a :: b :: c :: l) 2 = some c := by
  have : (2 : Int) = ((2 : Nat) : Int) := rfl
  rw [this]; exact atI_natD rfl
@[simp] theorem atI_three {α : Type} {a b c d : α} {l : List α} : atI (a :: b :: c :: d :: l) 3 = some d := by
  have : (3 : Int) = ((3 : Nat) : Int) := rfl
  rw [this]; exact atI_natD rfl
theorem sz_of {n : Nat} (h : n ≤ 1000000) : sz n = true := decide_eq_true h
theorem small_of {i : Int} (h : -1000000 ≤ i ∧ i ≤ 1000000) : small i = true := by simp [small, h]
@[simp] theorem dOp_append {a b} : dOp (a ++ b) = dOp a ++ dOp b := by simp [dOp]
theorem len_bound {α : Type} {l : List α} {i : Nat} {a : α} (h : l[i]? = some a) : i < l.length := (List.getElem?_eq_some_iff.mp h).1
end DL

/-! DM3: stores, slots read as they stand, slices, run forward. -/
namespace DL
open PySem PySem.Spec PyProof.Rows L2
section
variable {Om : Type} {en : Ev} {om : Om}
@[simp] theorem oMul_l {g : Tag} {xs : List D} {j : Int} : oMul (.lst g xs) (.int j) = if sz (xs.length * j.toNat) = true ∧ j < 1000000 ∧ -1000000 < j then some (.lst .o (List.replicate j.toNat xs).flatten) else none := rfl
theorem flat_rep {α : Type} {a : α} {n : Nat} : (List.replicate n [a]).flatten = List.replicate n a := by
  induction n <;> simp_all [List.replicate_succ]
theorem dI_rep {n : Nat} {i : Int} : List.replicate n (D.int i) = dI (List.replicate n i) := by simp [dI]
/-! x += e -/
def kAug (i : Nat) (g : Int → Int → Int) (a : Int) (Q : Out → Ev → Om → Prop) : D → Ev → Om → Prop
  | .int b => fun en om => i < en.length ∧ Q .nx (en.set i (some (.int (g a b)))) om
  | _ => fun _ _ => False
@[simp] theorem kAug_at {i g a b} {Q : Out → Ev → Om → Prop} : kAug i g a Q (.int b) en om = (i < en.length ∧ Q .nx (en.set i (some (.int (g a b)))) om) := rfl
def augQ (i : Nat) (g : Int → Int → Int) (f : DE Om) (Q : Out → Ev → Om → Prop) (en : Ev) (om : Om) : Option (Option D) → Prop
  | some (some (.int a)) => wE f (kAug i g a Q) en om
  | _ => False
@[simp] theorem augQ_at {i g a} {f : DE Om} {Q} : augQ i g f Q en om (some (some (.int a))) = wE f (kAug i g a Q) en om := rfl
@[simp] theorem wS_aug {i g} {f : DE Om} {Q} : wS (sAug i g f) Q en om = augQ i g f Q en om en[i]? := by
  unfold wS sAug augQ
  cases h : en[i]? with
  | none => simp
  | some x =>
    cases x with
    | none => simp
    | some d =>
      cases d <;> simp
      unfold wE
      simp only [ex_map, wO_bind]
      apply iff_of_eq
      congr 1
      funext ⟨y, e, m⟩
      cases y <;> simp [kAug, wO_if]
/-! xs[e] += f -/
def aiQ3 (i : Nat) (v : Int) (n j : Nat) (Q : Out → Ev → Om → Prop) (en : Ev) (om : Om) : Option (Option D) → Prop
  | some (some (.lst .o l2)) => (l2.length = n ∧ noO (l2.getD j .non) = true) ∧ Q .nx (en.set i (some (.lst .o (l2.set j (.int v))))) om
  | _ => False
@[simp] theorem aiQ3_at {i v n j l2} {Q : Out → Ev → Om → Prop} : aiQ3 i v n j Q en om (some (some (.lst .o l2))) = ((l2.length = n ∧ noO (l2.getD j .non) = true) ∧ Q .nx (en.set i (some (.lst .o (l2.set j (.int v))))) om) := rfl
def kAI2 (i : Nat) (g : Int → Int → Int) (a : Int) (n j : Nat) (Q : Out → Ev → Om → Prop) : D → Ev → Om → Prop
  | .int b => fun en om => aiQ3 i (g a b) n j Q en om en[i]?
  | _ => fun _ _ => False
@[simp] theorem kAI2_at {i g a n j b} {Q : Out → Ev → Om → Prop} : kAI2 i g a n j Q (.int b) en om = aiQ3 i (g a b) n j Q en om en[i]? := rfl
def aiQ2 (i : Nat) (g : Int → Int → Int) (f : DE Om) (n j : Nat) (Q : Out → Ev → Om → Prop) (en : Ev) (om : Om) : D → Prop
  | .int a => wE f (kAI2 i g a n j Q) en om
  | _ => False
@[simp] theorem aiQ2_at {i g n j a} {f : DE Om} {Q} : aiQ2 i g f n j Q en om (.int a) = wE f (kAI2 i g a n j Q) en om := rfl
def aiQ1 (i : Nat) (g : Int → Int → Int) (f : DE Om) (k : D) (Q : Out → Ev → Om → Prop) (en : Ev) (om : Om) : Option (Option D) → Prop
  | some (some (.lst .o l)) => match k with
    | .int k => wO (ixN l.length k) fun j => aiQ2 i g f l.length j Q en om (l.getD j .non)
    | _ => False
  | _ => False
@[simp] theorem aiQ1_at {i g k l} {f : DE Om} {Q} : aiQ1 i g f (.int k) Q en om (some (some (.lst .o l))) = wO (ixN l.length k) fun j => aiQ2 i g f l.length j Q en om (l.getD j .non) := rfl
def kAI1 (i : Nat) (g : Int → Int → Int) (f : DE Om) (Q : Out → Ev → Om → Prop) : D → Ev → Om → Prop := fun k en om => aiQ1 i g f (frz k) Q en om en[i]?
@[simp] theorem kAI1_at {i g k} {f : DE Om} {Q} : kAI1 i g f Q k en om = aiQ1 i g f (frz k) Q en om en[i]? := rfl
@[simp] theorem wS_augIx {i g} {f fj : DE Om} {Q} : wS (sAugIx i g f fj) Q en om = (has en i = true ∧ wE fj (kAI1 i g f Q) en om) := by
  unfold wS sAugIx
  simp only [ex_map, wO_if, wO_none, if_false_right]
  congr 1
  unfold wE
  simp only [ex_map, wO_bind]
  congr 1
  funext ⟨k, e, m⟩
  unfold kAI1 aiQ1
  simp only
  cases h : e[i]? with
  | none => simp
  | some x =>
    cases x with
    | none => simp
    | some d =>
      cases d <;> simp
      rename_i t l
      cases t <;> simp
      cases hk : frz k <;> simp [wO_bind]
      rename_i k
      apply iff_of_eq
      congr 1
      funext j
      unfold aiQ2
      cases hj : l[j]?.getD .non <;> simp [wO_bind]
      unfold wE
      simp only [ex_map, wO_bind]
      apply iff_of_eq
      congr 1
      funext ⟨y, e2, m2⟩
      unfold kAI2
      cases y <;> simp
      unfold aiQ3
      cases h2 : e2[i]? with
      | none => simp
      | some x =>
        cases x with
        | none => simp
        | some d =>
          cases d <;> simp
          rename_i t l2
          cases t <;> simp [wO_if]
@[simp] theorem has_at {i : Nat} : has en i = (match en[i]? with | some (some _) => true | _ => false) := rfl
/-! xs.append(e) -/
def apQ2 (i : Nat) (d : D) (Q : Out → Ev → Om → Prop) (en : Ev) (om : Om) : Option (Option D) → Prop
  | some (some (.lst .o l)) => l.length < 1000 ∧ Q .nx (en.set i (some (.lst .o (l ++ [d])))) om
  | _ => False
@[simp] theorem apQ2_at {i d l} {Q : Out → Ev → Om → Prop} : apQ2 i d Q en om (some (some (.lst .o l))) = (l.length < 1000 ∧ Q .nx (en.set i (some (.lst .o (l ++ [d])))) om) := rfl
def kAp (i : Nat) (Q : Out → Ev → Om → Prop) : D → Ev → Om → Prop := fun d en om => apQ2 i d Q en om en[i]?
@[simp] theorem kAp_at {i d} {Q : Out → Ev → Om → Prop} : kAp i Q d en om = apQ2 i d Q en om en[i]? := rfl
def apQ1 (i : Nat) (f : DE Om) (Q : Out → Ev → Om → Prop) (en : Ev) (om : Om) : Option (Option D) → Prop
  | some (some (.lst _ _)) => wE f (kAp i Q) en om
  | _ => False
@[simp] theorem apQ1_at {i g l} {f : DE Om} {Q} : apQ1 i f Q en om (some (some (.lst g l))) = wE f (kAp i Q) en om := rfl
@[simp] theorem wS_app {i} {f : DE Om} {Q} : wS (sApp i f) Q en om = apQ1 i f Q en om en[i]? := by
  unfold wS sApp apQ1
  cases h : en[i]? with
  | none => simp
  | some x =>
    cases x with
    | none => simp
    | some d =>
      cases d <;> simp
      unfold wE
      simp only [ex_map, wO_bind]
      apply iff_of_eq
      congr 1
      funext ⟨y, e, m⟩
      unfold kAp apQ2
      simp only
      cases h : e[i]? with
      | none => simp
      | some x =>
        cases x with
        | none => simp
        | some d =>
          cases d <;> simp
          rename_i t l
          cases t <;> simp [wO_if]
/-! xs[e] = f -/
def siQ (i : Nat) (k v : D) (Q : Out → Ev → Om → Prop) (en : Ev) (om : Om) : Option (Option D) → Prop
  | some (some (.lst .o l)) => match k with
    | .int k => wO (ixN l.length k) fun j => noO (l.getD j .non) = true ∧ Q .nx (en.set i (some (.lst .o (l.set j v)))) om
    | _ => False
  | _ => False
@[simp] theorem siQ_at {i k v l} {Q : Out → Ev → Om → Prop} : siQ i (.int k) v Q en om (some (some (.lst .o l))) = wO (ixN l.length k) fun j => noO (l.getD j .non) = true ∧ Q .nx (en.set i (some (.lst .o (l.set j v)))) om := rfl
def kSI2 (i : Nat) (v : D) (Q : Out → Ev → Om → Prop) : D → Ev → Om → Prop := fun k en om => siQ i (frz k) v Q en om en[i]?
@[simp] theorem kSI2_at {i v k} {Q : Out → Ev → Om → Prop} : kSI2 i v Q k en om = siQ i (frz k) v Q en om en[i]? := rfl
def kSI1 (i : Nat) (fj : DE Om) (Q : Out → Ev → Om → Prop) : D → Ev → Om → Prop := fun v en om => has en i = true ∧ wE fj (kSI2 i v Q) en om
@[simp] theorem kSI1_at {i v} {fj : DE Om} {Q} : kSI1 i fj Q v en om = (has en i = true ∧ wE fj (kSI2 i v Q) en om) := rfl
@[simp] theorem wS_setIx {i} {f fj : DE Om} {Q} : wS (sSetIx i f fj) Q en om = wE f (kSI1 i fj Q) en om := by
  unfold wS sSetIx wE
  simp only [ex_map, wO_bind]
  congr 1
  funext ⟨v, e, m⟩
  unfold kSI1 wE
  simp only [wO_if, wO_none, if_false_right, ex_map, wO_bind]
  congr 1
  congr 1
  funext ⟨k, e, m⟩
  unfold kSI2 siQ
  simp only
  cases h : e[i]? with
  | none => simp
  | some x =>
    cases x with
    | none => simp
    | some d =>
      cases d <;> simp
      rename_i t l
      cases t <;> simp
      cases hk : frz k <;> simp [wO_bind, wO_if]
/-! a, b = .. -/
def kPar (i j : Nat) (Q : Out → Ev → Om → Prop) : List D → Ev → Om → Prop
  | [a, b] => fun en om => (i < en.length ∧ j < en.length) ∧ Q .nx ((en.set i (some a)).set j (some b)) om
  | _ => fun _ _ => False
@[simp] theorem kPar_at {i j a b} {Q : Out → Ev → Om → Prop} : kPar i j Q [a, b] en om = ((i < en.length ∧ j < en.length) ∧ Q .nx ((en.set i (some a)).set j (some b)) om) := rfl
@[simp] theorem wS_par {i j} {fa : DA Om} {Q} : wS (sPar i j fa) Q en om = wA fa (kPar i j Q) en om := by
  unfold wS sPar wA
  simp only [ex_map, wO_bind]
  congr 1
  funext ⟨ds, e, m⟩
  rcases ds with _ | ⟨a, _ | ⟨b, _ | ⟨c, ds⟩⟩⟩ <;> simp [kPar, wO_if]
def kPar3 (i j l : Nat) (Q : Out → Ev → Om → Prop) : List D → Ev → Om → Prop
  | [a, b, c] => fun en om => (i < en.length ∧ j < en.length ∧ l < en.length) ∧ Q .nx (((en.set i (some a)).set j (some b)).set l (some c)) om
  | _ => fun _ _ => False
@[simp] theorem kPar3_at {i j l a b c} {Q : Out → Ev → Om → Prop} : kPar3 i j l Q [a, b, c] en om = ((i < en.length ∧ j < en.length ∧ l < en.length) ∧ Q .nx (((en.set i (some a)).set j (some b)).set l (some c)) om) := rfl
@[simp] theorem wS_par3 {i j l} {fa : DA Om} {Q} : wS (sPar3 i j l fa) Q en om = wA fa (kPar3 i j l Q) en om := by
  unfold wS sPar3 wA
  simp only [ex_map, wO_bind]
  congr 1
  funext ⟨ds, e, m⟩
  rcases ds with _ | ⟨a, _ | ⟨b, _ | ⟨c, _ | ⟨d, ds⟩⟩⟩⟩ <;> simp [kPar3, wO_if]
/-! slots read as they stand -/
def lnQ (Q : D → Ev → Om → Prop) (en : Ev) (om : Om) : Option (Option D) → Prop
  | some (some d) => wO (cLen [d]) fun c => Q c en om
  | _ => False
@[simp] theorem lnQ_at {Q : D → Ev → Om → Prop} {d} : lnQ Q en om (some (some d)) = wO (cLen [d]) fun c => Q c en om := rfl
@[simp] theorem wE_lenN {i} {Q} : wE (dLenN i : DE Om) Q en om = lnQ Q en om en[i]? := by
  unfold wE dLenN lnQ
  cases h : en[i]? with
  | none => simp
  | some x => cases x <;> simp only [ex_map, wO_map, wO_none]
def ixQ (k : D) (Q : D → Ev → Om → Prop) (en : Ev) (om : Om) : Option (Option D) → Prop
  | some (some d) => wO (oIx d k) fun c => noO c = true ∧ Q c en om
  | _ => False
@[simp] theorem ixQ_at {k d} {Q : D → Ev → Om → Prop} : ixQ k Q en om (some (some d)) = wO (oIx d k) fun c => noO c = true ∧ Q c en om := rfl
def kIxN (i : Nat) (Q : D → Ev → Om → Prop) : D → Ev → Om → Prop := fun k en om => ixQ (frz k) Q en om en[i]?
@[simp] theorem kIxN_at {i k} {Q : D → Ev → Om → Prop} : kIxN i Q k en om = ixQ (frz k) Q en om en[i]? := rfl
@[simp] theorem wE_ixN {i} {f : DE Om} {Q} : wE (dIxN i f) Q en om = (has en i = true ∧ wE f (kIxN i Q) en om) := by
  unfold wE dIxN
  simp only [ex_map, wO_if, wO_none, if_false_right, wO_bind]
  congr 1
  congr 1
  funext ⟨k, e, m⟩
  unfold kIxN ixQ
  simp only
  cases h : e[i]? with
  | none => simp
  | some x => cases x <;> simp [wO_bind, wO_if]
/-! slices -/
def kO (Q : Option Int → Ev → Om → Prop) : D → Ev → Om → Prop
  | .int i => Q (some i)
  | _ => fun _ _ => False
@[simp] theorem kO_at {Q : Option Int → Ev → Om → Prop} {i} : kO Q (.int i) en om = Q (some i) en om := rfl
def wOp (f : Option (DE Om)) (Q : Option Int → Ev → Om → Prop) (en : Ev) (om : Om) : Prop := ∃ d en' om', optE f en om = some (d, en', om') ∧ Q d en' om'
@[simp] theorem wOp_none {Q} : wOp (none : Option (DE Om)) Q en om = Q none en om := by simp only [wOp, optE, ex_map, wO_some]
@[simp] theorem wOp_some {f : DE Om} {Q} : wOp (some f) Q en om = wE f (kO Q) en om := by
  unfold wOp optE wE
  simp only [ex_map, wO_bind]
  congr 1
  funext ⟨d, e, m⟩
  cases d <;> simp [kO]
def kS3 (d : D) (lo : Option Int) (Q : D → Ev → Om → Prop) : Option Int → Ev → Om → Prop := fun hi en om => wO (oSl d lo hi) fun c => Q c en om
@[simp] theorem kS3_at {d lo hi} {Q : D → Ev → Om → Prop} : kS3 d lo Q hi en om = wO (oSl d lo hi) fun c => Q c en om := rfl
def kS2 (d : D) (hi : Option (DE Om)) (Q : D → Ev → Om → Prop) : Option Int → Ev → Om → Prop := fun lo en om => wOp hi (kS3 d lo Q) en om
@[simp] theorem kS2_at {d lo} {hi : Option (DE Om)} {Q} : kS2 d hi Q lo en om = wOp hi (kS3 d lo Q) en om := rfl
def kS1 (lo hi : Option (DE Om)) (Q : D → Ev → Om → Prop) : D → Ev → Om → Prop := fun d en om => wOp lo (kS2 (frz d) hi Q) en om
@[simp] theorem kS1_at {d} {lo hi : Option (DE Om)} {Q} : kS1 lo hi Q d en om = wOp lo (kS2 (frz d) hi Q) en om := rfl
@[simp] theorem wE_sl {f : DE Om} {lo hi} {Q} : wE (dSl f lo hi) Q en om = wE f (kS1 lo hi Q) en om := by
  unfold wE dSl kS1 wOp kS2 wOp kS3; simp only [ex_map, wO_bind, wO_map]
@[simp] theorem oSl_l {g l lo hi} : oSl (.lst g l) lo hi = some (.lst .o (cutG l lo hi)) := rfl
@[simp] theorem oSl_t {l lo hi} : oSl (.tup l) lo hi = some (.tup (cutG l lo hi)) := rfl
/-! the draw state -/
end
section
variable {en : Ev} {om : DSt}
def stQ (sA scA : Addr) (j : Nat) (Q : D → Ev → DSt → Prop) (en : Ev) (om : DSt) : Option (Option D) → Prop
  | some (some (.opq a)) => a = sA ∧ wO (stGet scA om j) fun d => Q d en om
  | _ => False
@[simp] theorem stQ_at {sA scA j a} {Q : D → Ev → DSt → Prop} : stQ sA scA j Q en om (some (some (.opq a))) = (a = sA ∧ wO (stGet scA om j) fun d => Q d en om) := rfl
@[simp] theorem wE_st {sA scA i j} {Q} : wE (dSt sA scA i j) Q en om = stQ sA scA j Q en om en[i]? := by
  unfold wE dSt stQ
  cases h : en[i]? with
  | none => simp
  | some x =>
    cases x with
    | none => simp
    | some d => cases d <;> simp only [ex_map, wO_if, wO_map, wO_none, if_false_right]
def lcQ (scA : Addr) (script : List Int) (Q : D → Ev → DSt → Prop) : D → Ev → DSt → Prop
  | .opq a => fun en om => a = scA ∧ Q (.int (script.length : Nat)) en om
  | _ => fun _ _ => False
@[simp] theorem lcQ_at {scA script a} {Q : D → Ev → DSt → Prop} : lcQ scA script Q (.opq a) en om = (a = scA ∧ Q (.int (script.length : Nat)) en om) := rfl
@[simp] theorem wE_lenC {scA script} {f : DE DSt} {Q} : wE (dLenC scA script f) Q en om = wE f (lcQ scA script Q) en om := by
  unfold wE dLenC
  simp only [ex_map, wO_bind]
  congr 1
  funext ⟨d, e, m⟩
  cases d <;> simp [lcQ, wO_if]
def acQ2 (script : List Int) (Q : D → Ev → DSt → Prop) : D → Ev → DSt → Prop
  | .int k => fun en om => wO (atI script k) fun n => Q (.int n) en om
  | _ => fun _ _ => False
@[simp] theorem acQ2_at {script k} {Q : D → Ev → DSt → Prop} : acQ2 script Q (.int k) en om = wO (atI script k) fun n => Q (.int n) en om := rfl
def acQ (scA : Addr) (script : List Int) (g : DE DSt) (Q : D → Ev → DSt → Prop) : D → Ev → DSt → Prop
  | .opq a => fun en om => a = scA ∧ wE g (acQ2 script Q) en om
  | _ => fun _ _ => False
@[simp] theorem acQ_at {scA script a g} {Q : D → Ev → DSt → Prop} : acQ scA script g Q (.opq a) en om = (a = scA ∧ wE g (acQ2 script Q) en om) := rfl
@[simp] theorem wE_atC {scA script} {f g : DE DSt} {Q} : wE (dAtC scA script f g) Q en om = wE f (acQ scA script g Q) en om := by
  unfold wE dAtC
  simp only [ex_map, wO_bind]
  congr 1
  funext ⟨d, e, m⟩
  cases d <;> simp [acQ, wO_if, wO_bind]
  rename_i a
  intro _
  unfold wE
  simp only [ex_map]
  apply iff_of_eq
  congr 1
  funext ⟨d, e, m⟩
  cases d <;> simp [acQ2, wO_map]
def ssQ (sA : Addr) (j : Nat) (n : Int) (Q : Out → Ev → DSt → Prop) (en : Ev) (om : DSt) : Option (Option D) → Prop
  | some (some (.opq a)) => a = sA ∧ wO (stSet om n j) fun m => Q .nx en m
  | _ => False
@[simp] theorem ssQ_at {sA j n a} {Q : Out → Ev → DSt → Prop} : ssQ sA j n Q en om (some (some (.opq a))) = (a = sA ∧ wO (stSet om n j) fun m => Q .nx en m) := rfl
def kSs (sA : Addr) (i j : Nat) (Q : Out → Ev → DSt → Prop) : D → Ev → DSt → Prop
  | .int n => fun en om => ssQ sA j n Q en om en[i]?
  | _ => fun _ _ => False
@[simp] theorem kSs_at {sA i j n} {Q : Out → Ev → DSt → Prop} : kSs sA i j Q (.int n) en om = ssQ sA j n Q en om en[i]? := rfl
@[simp] theorem wS_stSet {sA i j} {f : DE DSt} {Q} : wS (sStSet sA i j f) Q en om = wE f (kSs sA i j Q) en om := by
  unfold wS sStSet wE
  simp only [ex_map, wO_bind]
  congr 1
  funext ⟨d, e, m⟩
  cases d <;> simp [kSs]
  unfold ssQ
  cases h : e[i]? with
  | none => simp
  | some x =>
    cases x with
    | none => simp
    | some d => cases d <;> simp [wO_if, wO_map]
@[simp] theorem stGet0 {scA} {m : DSt} : stGet scA m 0 = some (.opq scA) := rfl
@[simp] theorem stGet1 {scA} {m : DSt} : stGet scA m 1 = some (.int m.1) := rfl
@[simp] theorem stGet2 {scA} {m : DSt} : stGet scA m 2 = some (.int m.2.1) := rfl
@[simp] theorem stGet3 {scA} {m : DSt} : stGet scA m 3 = some (.int m.2.2) := rfl
@[simp] theorem stSet1 {m : DSt} {n} : stSet m n 1 = some (n, m.2.1, m.2.2) := rfl
@[simp] theorem stSet2 {m : DSt} {n} : stSet m n 2 = some (m.1, n, m.2.2) := rfl
@[simp] theorem stSet3 {m : DSt} {n} : stSet m n 3 = some (m.1, m.2.1, n) := rfl
end
end DL

/-! DM4: what becomes of an error, run forward. -/
namespace DL
open PySem PySem.Spec PyProof.Rows L2
section
variable {Om : Type} {en : Ev} {om : Om}
def kBm2 (g : List Bool → Bool → Option D) (l : List D) (Q : D → Ev → Om → Prop) : List D → Ev → Om → Prop
  | [.bl b] => fun en om => wO ((blsOf l).bind fun bs => g bs b) fun d => Q d en om
  | _ => fun _ _ => False
@[simp] theorem kBm2_at {g l b} {Q : D → Ev → Om → Prop} : kBm2 g l Q [.bl b] en om = wO ((blsOf l).bind fun bs => g bs b) fun d => Q d en om := rfl
def bmQ (g : List Bool → Bool → Option D) (fa : DA Om) (Q : D → Ev → Om → Prop) (en : Ev) (om : Om) : D → Prop
  | .lst _ l => wA fa (kBm2 g l Q) en om
  | _ => False
@[simp] theorem bmQ_at {g t l} {fa : DA Om} {Q} : bmQ g fa Q en om (.lst t l) = wA fa (kBm2 g l Q) en om := rfl
def kBm (g : List Bool → Bool → Option D) (fa : DA Om) (Q : D → Ev → Om → Prop) : D → Ev → Om → Prop := fun d en om => bmQ g fa Q en om (frz d)
@[simp] theorem kBm_at {g d} {fa : DA Om} {Q} : kBm g fa Q d en om = bmQ g fa Q en om (frz d) := rfl
@[simp] theorem wE_bm {g} {f : DE Om} {fa : DA Om} {Q} : wE (dBm g f fa) Q en om = wE f (kBm g fa Q) en om := by
  unfold wE dBm
  simp only [ex_map, wO_bind]
  congr 1
  funext ⟨d, e, m⟩
  unfold kBm
  cases h : frz d <;> simp [h, bmQ, wO_bind]
  unfold wA
  simp only [ex_map]
  apply iff_of_eq
  congr 1
  funext ⟨ds, e, m⟩
  rcases ds with _ | ⟨d, _ | ⟨d2, ds⟩⟩
  · simp [kBm2]
  · cases d <;> simp [kBm2, wO_map, wO_bind]
  · cases d <;> simp [kBm2]
def kFld (a : Addr) (fs : List (Str × V)) (n : Str) (Q : D → Ev → Om → Prop) : D → Ev → Om → Prop
  | .opq b => fun en om => b = a ∧ wO ((fs.lookup n).bind vD) fun d => Q d en om
  | _ => fun _ _ => False
@[simp] theorem kFld_at {a fs n b} {Q : D → Ev → Om → Prop} : kFld a fs n Q (.opq b) en om = (b = a ∧ wO ((fs.lookup n).bind vD) fun d => Q d en om) := rfl
@[simp] theorem wE_fld {a fs n} {f : DE Om} {Q} : wE (dFld a fs n f) Q en om = wE f (kFld a fs n Q) en om := by
  unfold wE dFld
  simp only [ex_map, wO_bind]
  congr 1
  funext ⟨d, e, m⟩
  cases d <;> simp [kFld, wO_if, wO_bind, wO_map]
@[simp] theorem cIsX_o {a b c kit} : cIsX a kit [.opq b, .opq c] = if b = a then (kit (.ref c)).map .bl else none := rfl
@[simp] theorem cIsX_t {a b n kit} : cIsX a kit [.opq b, .ty n] = if b = a then (kit (.type n)).map .bl else none := rfl
@[simp] theorem blsOf_cons {b l} : blsOf (.bl b :: l) = (blsOf l).map fun r => b :: r := rfl
@[simp] theorem blsOf_nil : blsOf [] = some [] := rfl
end
section
variable {K : PySem.W.Frag} {C D : Addr} {b : Bool}
theorem kitCls_of (h2 : PySem.W.isClsIn K D = true) (h3 : PySem.W.typeIn K (.ref D) = some (.type "type")) (h4 : PySem.W.subIn K (.ref C) (.ref D) = some b) : PySem.W.kitCls K (.ref C) (.ref D) = some b := by
  have e2 : ((PySem.W.clsIn K D).isSome && PySem.W.typeIn K (.ref D) == some (.type "type")) = true := by
    have h2' : (PySem.W.clsIn K D).isSome = true := h2
    rw [h2', h3] <;> rfl
  unfold PySem.W.kitCls
  simp only
  rw [if_pos e2]
  exact h4
theorem kit_of (h2 : PySem.W.isClsIn K D = true) (h3 : PySem.W.typeIn K (.ref D) = some (.type "type")) (h4 : PySem.W.subIn K (.ref C) (.ref D) = some b) (hs : PySem.W.subIn K (.ref C) (.ref C) = some true) : PySem.W.kitOne K (.ref C) (.ref D) = some b := by
  unfold PySem.W.kitOne
  split
  · rename_i h
    have : (Value.ref C) = Value.ref D := by simpa using h
    cases this
    rw [hs] at h4
    exact h4
  · exact kitCls_of h2 h3 h4
theorem exm_of (h1 : PySem.W.subIn K (.ref D) (.type "BaseException") = some true) (h2 : PySem.W.isClsIn K D = true) (h3 : PySem.W.typeIn K (.ref D) = some (.type "type")) (h4 : PySem.W.subIn K (.ref C) (.ref D) = some b) : PySem.W.exmOne K (.ref C) (.ref D) = some b := by
  have e1 : (PySem.W.subIn K (.ref D) (.type "BaseException") == some true) = true := by rw [h1] <;> rfl
  unfold PySem.W.exmOne
  rw [if_pos e1]
  exact kitCls_of h2 h3 h4
theorem kit_ve (h : PySem.W.subIn K (.ref C) (.type "ValueError") = some true) : PySem.W.kitOne K (.ref C) (.type "ValueError") = some true := by
  unfold PySem.W.kitOne
  split
  · rfl
  · unfold PySem.W.kitCls
    simp only
    rw [if_pos (by decide +kernel)]
    exact h
end
end DL

/-! DSv: walks of a dict that is shared: its keys, its items. It is locked meanwhile. -/
namespace DL
open PySem PySem.Spec PyProof.Rows L2
inductive Pk where
  | nm (i : Nat) | ix (i : Nat) (a : At)
def pkD (en : Ev) : Pk → Option D
  | .nm i => match en[i]? with
    | some (some d) => some d
    | _ => none
  | .ix i a => match en[i]? with
    | some (some d) => (atE en a).bind fun k => ownAt d k
    | _ => none
def tPk (K : PySem.W.Frag) : Pk → TE
  | .nm i => tVar i
  | .ix i a => tOp (rIxA K) (tVar i) (tAt a)
section
variable {Om : Type} {W : Wld Om} {B : AS} {Z : XK} {X : Cx} {en en' en1 : Ev} {om om' om1 : Om} {G G1 H H1 : Hp} {F F1 R : List Addr} {σ σ1 : L2.St} {v w x y : V} {d : D} {Q : VK} {Dn : Ends} {tg : Expr}
theorem pk_nm (i : Nat) {x : Str} {pos : Pos} (hN : X.N[i]? = some x := by rfl) (hv : Vis X.env.scope x := by first | exact Or.inl rfl | exact Or.inr (Or.inl rfl) | exact Or.inr (Or.inr rfl)) (hd : (x == ("__debug__" : Str)) = false := by decide)
    (hcd : (x == ("__classdict__" : Str)) = false := by decide) : PE X (.Name x pos) (tPk X.K (.nm i)) := pe_var hN hv hd hcd
theorem pk_ix (i : Nat) {a : At} {x : Str} {e1 : Expr} {p pos : Pos} (hu : X.A.units + 1 < cLine) (ha : PE X e1 (tAt a)) (hN : X.N[i]? = some x := by rfl) (hv : Vis X.env.scope x := by first | exact Or.inl rfl | exact Or.inr (Or.inl rfl) | exact Or.inr (Or.inr rfl))
    (hs1 : PlainIx e1 := by exact fun _ _ => rfl) (hd : (x == ("__debug__" : Str)) = false := by decide) (hcd : (x == ("__classdict__" : Str)) = false := by decide) : PE X (.Subscript (.Name x p) e1 pos) (tPk X.K (.ix i a)) := pe_ix (ix_all hu) (pe_var hN hv hd hcd) ha hs1
/-- what is peeked at, wherever lists and tuples stay -/
theorem pk_use {K : PySem.W.Frag} {p : Pk} (S : Rst W B en om G F σ H) (h : pkD en p = some d) : ∃ v T, Rel B G H T v d ∧ ∀ H1, (∀ a xs, H a = some (.lst xs) → H1 a = some (.lst xs)) → (∀ a xs, H a = some (.tup xs) → H1 a = some (.tup xs)) → ∀ Q : VK, Q v H1 → tPk K p σ H1 Q := by
  cases p with
  | nm i =>
    unfold pkD at h
    dsimp only at h
    split at h
    · rename_i d' hd
      cases h
      obtain ⟨v, P, R, T, _, e, r⟩ := S.get hd
      exact ⟨v, R, r, fun H1 _ _ Q q => ⟨v, e, q⟩⟩
    · cases h
  | ix i a =>
    unfold pkD at h
    dsimp only at h
    split at h
    · rename_i d' hd
      obtain ⟨k, h1, h2⟩ := bind_some h
      obtain ⟨v, P, R, T, _, e, r⟩ := S.get hd
      have atI' : ∀ {vs : List V} {ds : List D} {R : List Addr}, Rels B G H R vs ds → L2.atI ds k = some d → ∃ v T, L2.atI vs k = some v ∧ Rel B G H T v d := fun {vs ds R} r h => by
        unfold L2.atI at h ⊢
        obtain ⟨j, h1, h2⟩ := bind_some h
        rw [r.length, h1]
        obtain ⟨v, P, R', S, e, e2, r2, _⟩ := r.split h2
        exact ⟨v, R', e2, r2⟩
      have at1 : ∀ H1 (Q : VK), Q (.int k) H1 → tAt a σ H1 Q := fun H1 Q q => by
        cases a with
        | v j =>
          unfold atE at h1
          dsimp only at h1
          split at h1
          · rename_i i' hj
            cases h1
            obtain ⟨v, P, R, T, _, e, r⟩ := S.get hj
            cases r
            exact ⟨_, e, q⟩
          · cases h1
        | c i' =>
          cases h1
          exact q
      unfold ownAt at h2
      split at h2
      · cases r with
        | lstf e1 n r =>
          obtain ⟨w, T, e2, rw'⟩ := atI' r h2
          exact ⟨w, T, rw', fun H1 kl kt Q q => ⟨_, e, at1 H1 _ (.inl ⟨_, _, k, w, rfl, rfl, .of (kl _ _ (S.sub _ _ e1)), e2, q⟩)⟩⟩
        | lstb e1 r =>
          obtain ⟨w, T, e2, rw'⟩ := atI' r h2
          exact ⟨w, T, rw', fun H1 kl kt Q q => ⟨_, e, at1 H1 _ (.inl ⟨_, _, k, w, rfl, rfl, .of (kl _ _ (S.sub _ _ e1)), e2, q⟩)⟩⟩
        | lsto e1 r =>
          obtain ⟨w, T, e2, rw'⟩ := atI' r h2
          exact ⟨w, T, rw', fun H1 kl kt Q q => ⟨_, e, at1 H1 _ (.inl ⟨_, _, k, w, rfl, rfl, .of (kl _ _ e1), e2, q⟩)⟩⟩
      · cases r with
        | tup e1 r =>
          obtain ⟨w, T, e2, rw'⟩ := atI' r h2
          exact ⟨w, T, rw', fun H1 kl kt Q q => ⟨_, e, at1 H1 _ (.inr (.inl ⟨_, _, k, w, rfl, rfl, .of (kt _ _ (S.sub _ _ e1)), e2, q⟩))⟩⟩
      · cases h2
    · cases h
/-! ### locked, and unlocked again -/
section
variable {a : Addr} {od : Obj} {kvs : List (Key × V)}
theorem Le.locked (h : G a = some (.dK kvs)) : Le B B G (upd G a (.frz od (.dK kvs))) := by
  refine ⟨fun b vs e => ?_, fun b vs e => ?_, fun b ks e => ?_, fun b e n => n⟩
  · rw [upd_ne fun z => by rw [z, h] at e; cases e]; exact e
  · rw [upd_ne fun z => by rw [z, h] at e; cases e]; exact e
  · by_cases z : b = a
    · subst z
      refine .inr ⟨od, ?_⟩
      rw [upd_same]
      rcases e with e | ⟨o, e⟩
      · rw [h] at e; cases e; rfl
      · rw [h] at e; cases e
    · unfold Rd
      rw [upd_ne z]
      exact e
theorem Le.unlocked (h : G a = some (.frz od (.dK kvs))) : Le B B G (upd G a (.dK kvs)) := by
  refine ⟨fun b vs e => ?_, fun b vs e => ?_, fun b ks e => ?_, fun b e n => n⟩
  · rw [upd_ne fun z => by rw [z, h] at e; cases e]; exact e
  · rw [upd_ne fun z => by rw [z, h] at e; cases e]; exact e
  · by_cases z : b = a
    · subst z
      refine .inl ?_
      rw [upd_same]
      rcases e with e | ⟨o, e⟩
      · rw [h] at e; cases e
      · rw [h] at e; cases e; rfl
    · unfold Rd
      rw [upd_ne z]
      exact e
theorem Rst.shift {u u' : HO} (S : Rst W B en om G F σ H) (h : G a = some u) (l : Le B B G (upd G a u')) (k : W.ok om (upd H a u')) : Rst W B en om (upd G a u') F σ (upd H a u') := by
  have nF : ∀ b ∈ F, b ≠ a := fun b hb z => by have := S.FG b hb; rw [z, h] at this; cases this
  refine ⟨fun b o e => ?_, S.env.mono l fun b hb => upd_ne (nF b hb), S.nd, fun b hb => by rw [upd_ne (nF b hb)]; exact S.FG b hb, S.FW, fun b hb => ?_, fun b hb => ?_, k⟩
  · by_cases z : b = a
    · subst z; rw [upd_same] at e ⊢; exact e
    · rw [upd_ne z] at e ⊢; exact S.sub b o e
  · rw [upd_ne fun z => by have := S.WG b hb; rw [z, h] at this; cases this]
    exact S.WG b hb
  · by_cases z : b = a
    · subst z; rw [upd_same]; exact fun q => nomatch q
    · rw [upd_ne z]; exact S.BG b hb
theorem Rst.locked (S : Rst W B en om G F σ H) (h : G a = some (.dK kvs)) : Rst W B en om (upd G a (.frz od (.dK kvs))) F σ (upd H a (.frz od (.dK kvs))) :=
  S.shift h (Le.locked h) (W.put S.wok (fun z => by have := S.WG a z; rw [h] at this; cases this) (.inr (.inr ⟨kvs, S.sub _ _ h⟩)))
theorem Rst.unlocked (S : Rst W B en om G F σ H) (h : G a = some (.frz od (.dK kvs))) : Rst W B en om (upd G a (.dK kvs)) F σ (upd H a (.dK kvs)) :=
  S.shift h (Le.unlocked h) (W.loc om H _ (fun b hb => upd_ne fun z => by have := S.WG b hb; rw [z, h] at this; cases this) (fun b u e _ _ _ n => by
    rw [upd_ne fun z => ?_]
    · exact e
    · rw [z, S.sub _ _ h] at e
      cases e
      exact n _ _ rfl) S.wok)
theorem Nx.unlocked {G' H' : Hp} {F' R : List Addr} (h : G a = some (.dK kvs)) (n : Nx W (upd G a (.frz od (.dK kvs))) F (upd H a (.frz od (.dK kvs))) G' F' H' R) : Nx W G F H (upd G' a (.dK kvs)) F' (upd H' a (.dK kvs)) R := by
  refine ⟨fun b o e => ?_, fun b e1 e2 e3 e4 e5 => ?_⟩
  · by_cases z : b = a
    · subst z; rw [h] at e; cases e; exact upd_same
    · rw [upd_ne z]
      exact n.sub b o (by rw [upd_ne z]; exact e)
  · have z : b ≠ a := fun z => by rw [z, h] at e3; cases e3
    have := n.frm b (by rw [upd_ne z]; exact e1) (by rw [upd_ne z]; exact e2) (by rw [upd_ne z]; exact e3) e4 e5
    rw [upd_ne z] at this
    rw [upd_ne z, upd_ne z]
    exact this
theorem Has.unlocked {R : List Addr} {v : V} (x : Has W B G F H R v d) (h : G a = some (.frz od (.dK kvs))) : Has W B (upd G a (.dK kvs)) F (upd H a (.dK kvs)) R v d := by
  have nR : ∀ b ∈ R, b ≠ a := fun b hb z => by have := (x.own b hb).1; rw [z, h] at this; cases this
  refine ⟨x.rel.mono (Le.unlocked h) fun b hb => upd_ne (nR b hb), x.nd, fun b hb => ⟨by rw [upd_ne (nR b hb)]; exact (x.own b hb).1, (x.own b hb).2⟩⟩
end
/-! ### the walk -/
def pairsK (ks : List Int) (ds : List D) : List D := (ks.zip ds).map fun p => .tup [.int p.1, p.2]
def noRz : Option (Out × Ev × Om) → Option (Out × Ev × Om)
  | some (.rz _ _, _) => none
  | r => r
def sForK (p : Pk) (it : Bool) (g : TgD Om) (b : SD Om) : SD Om := fun en om => match pkD en p with
  | some (.dic gt ks ds) => if gt ≠ .o ∧ ks.length = ds.length then noRz (forL g b (if it = true then pairsK ks ds else ks.map .int) en om) else none
  | _ => none
theorem for_core {J : It} {ds : List D} {o : Out} {sl : List Nat} {g : TgD Om} {b : SD Om} (S1 : Rst W B en1 om1 G1 F1 σ H1) (dr : Drives W B J G1 ds) (hf : forL g b ds en1 om1 = some (o, en', om')) (k : ends W B Z Dn en' om' G1 F1 H1 o) :
    ∃ Wf : Nat → Nat → L2.St → Hp → Prop, (∃ m, Wf 0 m σ H1) ∧ ∀ i m σ' H', Wf i m σ' H' → (J.stop i H' ∧ Dn.nx σ' H') ∨ (J.go i H' ∧ ∃ N : L2.St → Hp → Prop, (∀ σ2 H4, N σ2 H4 → ∃ m', m' < m ∧ Wf (i + 1) m' σ2 H4) ∧ ∀ x H3, J.yld i H' x H3 → tG W B sl g x σ' H3 fun σ2 H2 => tS W B Z b { Dn with nx := N, ct := N, bk := Dn.nx } σ2 H2) := by
  refine ⟨fun i m σ' H' => ∃ en om G' F', Nx W G1 F1 H1 G' F' H' [] ∧ Rst W B en om G' F' σ' H' ∧ m = ds.length - i ∧ forL g b (ds.drop i) en om = some (o, en', om'), ⟨_, en1, om1, G1, F1, .refl, S1, rfl, hf⟩, ?_⟩
  rintro i m σ' H' ⟨en2, om2, G2, F2, n2, S2, rfl, hl⟩
  have dri := dr n2.sub S2 i
  cases hd : ds[i]? with
  | none =>
    have hlen : ds.length ≤ i := List.getElem?_eq_none_iff.mp hd
    rw [List.drop_eq_nil_of_le hlen] at hl
    cases hl
    exact .inl ⟨dri.1 hlen, k σ' H' G2 F2 n2 S2⟩
  | some d =>
    have hlt : i < ds.length := (List.getElem?_eq_some_iff.mp hd).1
    have hdrop : ds.drop i = d :: ds.drop (i + 1) := by
      rw [List.drop_eq_getElem_cons hlt, (List.getElem?_eq_some_iff.mp hd).2]
    rw [hdrop] at hl
    unfold forL at hl
    obtain ⟨⟨en3, om3⟩, h3, hl⟩ := bind_some hl
    obtain ⟨⟨o4, en4, om4⟩, h4, hl⟩ := bind_some hl
    obtain ⟨go, yl⟩ := dri.2 d hd
    refine .inr ⟨go, fun σ' H' => ∃ en om G' F', Nx W G1 F1 H1 G' F' H' [] ∧ Rst W B en om G' F' σ' H' ∧ forL g b (ds.drop (i + 1)) en om = some (o, en', om'), ?_, fun x H3 hy => ?_⟩
    · rintro σ2 H4 ⟨en5, om5, G5, F5, n5, S5, h5⟩
      exact ⟨ds.length - (i + 1), by omega, en5, om5, G5, F5, n5, S5, rfl, h5⟩
    · obtain ⟨G3, n3, S3, r3⟩ := yl x H3 hy
      refine ⟨en2, om2, G3, F2, [], d, en3, om3, S3, .sh r3, h3, fun σ4 H4 G4 F4 kn S4 _ => ?_⟩
      have n4 : Nx W G1 F1 H1 G4 F4 H4 [] := kn (n2.trans n3)
      refine tS.run S4 h4 ?_
      cases o4 with
      | nx => exact fun σ5 H5 G5 F5 n5 S5 => ⟨en4, om4, G5, F5, n4.trans n5, S5, hl⟩
      | ct => exact fun σ5 H5 G5 F5 n5 S5 => ⟨en4, om4, G5, F5, n4.trans n5, S5, hl⟩
      | bk =>
        cases hl
        exact fun σ5 H5 G5 F5 n5 S5 => k σ5 H5 G5 F5 (n4.trans n5) S5
      | rt d =>
        cases hl
        exact fun σ5 v H5 G5 F5 R n5 S5 x => k σ5 v H5 G5 F5 R (n4.trans n5) S5 x
      | rz C fs =>
        cases hl
        exact fun σ5 H5 G5 F5 o n5 S5 x => k σ5 H5 G5 F5 o (n4.trans n5) S5 x
theorem ks_get {kvs : List (Key × V)} {ks : List Int} (h : KsOk kvs ks) {i : Nat} {k : Key} {v : V} (e : kvs[i]? = some (k, v)) : ∃ j, ks[i]? = some j ∧ k = .inl j := by
  have := congrArg (fun l => l[i]?) h
  simp only [List.getElem?_map, e, Option.map_some] at this
  obtain ⟨j, h1, h2⟩ := Option.map_eq_some_iff.mp this.symm
  exact ⟨j, h1, h2.symm⟩
theorem ks_len {kvs : List (Key × V)} {ks : List Int} (h : KsOk kvs ks) : kvs.length = ks.length := by
  have := congrArg List.length h
  simpa using this
theorem drives_keys {a : Addr} {od : Obj} {kvs : List (Key × V)} {ks : List Int} (h : G a = some (.frz od (.dK kvs))) (hk : KsOk kvs ks) : Drives W B (Itk a od kvs) G (ks.map .int) := by
  intro en om G2 H2 F2 σ2 sm S i
  have hl : H2 a = some (.frz od (.dK kvs)) := S.sub _ _ (sm _ _ h)
  refine ⟨fun hi => ⟨hl, by rw [ks_len hk]; simpa using hi⟩, fun d hd => ?_⟩
  rw [List.getElem?_map] at hd
  obtain ⟨j, h1, rfl⟩ := Option.map_eq_some_iff.mp hd
  refine ⟨⟨hl, by rw [ks_len hk]; exact (List.getElem?_eq_some_iff.mp h1).1⟩, fun x H3 y => ?_⟩
  obtain ⟨rfl, k, v, e, rfl⟩ := y
  obtain ⟨j', e1, rfl⟩ := ks_get hk e
  rw [h1] at e1
  cases e1
  exact ⟨G2, .refl, S, .int _⟩
theorem drives_items {a : Addr} {od : Obj} {kvs : List (Key × V)} {ks : List Int} {ds : List D} (h : G a = some (.frz od (.dK kvs))) (hk : KsOk kvs ks) (r : Rels B G H [] (kvs.map (·.2)) ds) : Drives W B (Iti a od kvs) G (pairsK ks ds) := by
  intro en om G2 H2 F2 σ2 sm S i
  have hl : H2 a = some (.frz od (.dK kvs)) := S.sub _ _ (sm _ _ h)
  have l1 := ks_len hk
  have l2 := r.length
  rw [List.length_map] at l2
  refine ⟨fun hi => ⟨hl, by simp [pairsK] at hi; omega⟩, fun d hd => ?_⟩
  unfold pairsK at hd
  rw [List.getElem?_map] at hd
  obtain ⟨⟨j, c⟩, h1, rfl⟩ := Option.map_eq_some_iff.mp hd
  have hz := List.getElem?_zip_eq_some.mp h1
  refine ⟨⟨hl, by rw [l1]; exact (List.getElem?_eq_some_iff.mp hz.1).1⟩, fun x H3 y => ?_⟩
  obtain ⟨T, k, v, e, rfl, hT, rfl⟩ := y
  obtain ⟨j', e1, rfl⟩ := ks_get hk e
  rw [hz.1] at e1
  cases e1
  obtain ⟨v', e2, rv⟩ := r.get hz.2
  rw [List.getElem?_map, e] at e2
  cases e2
  exact S.pair hT (.int _) (rv.mono (.of_same sm) fun a ha => by simp at ha)
theorem noRz_some {x : Option (Out × Ev × Om)} {o : Out} {en' : Ev} {om' : Om} (h : noRz x = some (o, en', om')) : x = some (o, en', om') ∧ ∀ C fs, o ≠ .rz C fs := by
  unfold noRz at h
  split at h
  · cases h
  · rename_i r n
    subst h
    exact ⟨rfl, fun C fs z => n C fs (en', om') (by rw [z])⟩
theorem dic_asK {a : D} {gt : Tag} {ks : List Int} {ds : List D} {R : List Addr} (r : Rel B G H R v (.dic gt ks ds)) (hg : gt ≠ .o) : ∃ (a : Addr) (kvs : List (Key × V)), v = .ref a ∧ Rd G a (.dK kvs) ∧ KsOk kvs ks ∧ Rels B G H [] (kvs.map (·.2)) ds := by
  cases r with
  | dicf e n k r => exact ⟨_, _, rfl, e, k, r⟩
  | dicb e k r => exact ⟨_, _, rfl, e, k, r⟩
  | dico e k r => exact absurd rfl hg
/-- the walk's reading: ti is what the kit's rule asks of the iterable (keys: it = false, items: it = true) -/
theorem forK_run {iter : Expr} {body : List Stmt} {pos : Pos} {p : Pk} {it : Bool} {sl : List Nat} {g : TgD Om} {b : SD Om} {ti : TI} (h0 : PS X (.For tg iter body [] pos) (tFor ti (tG W B sl g) (tS W B Z b)))
    (hti : ∀ (a : Addr) (od : Obj) (kvs : List (Key × V)) (σ : L2.St) (H : Hp) (R : It → Hp → Prop), (∀ Q : VK, Q (.ref a) H → tPk X.K p σ H Q) → H a = some (.frz od (.dK kvs)) → R (if it = true then Iti a od kvs else Itk a od kvs) H → ti σ H R) :
    PS X (.For tg iter body [] pos) (tS W B Z (sForK p it g b)) := by
  refine ⟨fun pins s σ H Dn I q => ?_⟩
  obtain ⟨en, om, G, F, o, en', om', S, hf, k⟩ := q
  unfold sForK at hf
  split at hf
  · rename_i gt ks ds hp
    split at hf
    · rename_i hg
      obtain ⟨hf, nrz⟩ := noRz_some hf
      obtain ⟨v, T, rel, use⟩ := pk_use (K := X.K) S hp
      obtain ⟨a, kvs, rfl, hrd, hks, hrs⟩ := dic_asK (a := .non) rel hg.1
      have core : ∀ (od : Obj) (G1 H1 : Hp) (Dn : Ends), Rst W B en om G1 F σ H1 → G1 a = some (.frz od (.dK kvs)) → Rels B G1 H1 [] (kvs.map (·.2)) ds → (∀ Q : VK, Q (.ref a) H1 → tPk X.K p σ H1 Q) → ends W B Z Dn en' om' G1 F H1 o → tFor ti (tG W B sl g) (tS W B Z b) Dn σ H1 := by
        intro od G1 H1 Dn S1 g1 r1 u1 k1
        refine hti a od kvs σ H1 _ u1 (S1.sub _ _ g1) ?_
        cases it with
        | true => exact for_core S1 (drives_items g1 hks r1) (by simpa using hf) k1
        | false => exact for_core S1 (drives_keys g1 hks) (by simpa using hf) k1
      rcases hrd with g0 | ⟨od, g0⟩
      · refine (ps_lock h0).run pins s σ H Dn I ⟨a, .dK kvs, S.sub _ _ g0, trivial, fun od => ?_⟩
        have keepL : ∀ b xs, H b = some (.lst xs) → upd H a (.frz od (.dK kvs)) b = some (.lst xs) := fun b xs e => by
          rw [upd_ne fun z => by rw [z, S.sub _ _ g0] at e; cases e]; exact e
        have keepT : ∀ b xs, H b = some (.tup xs) → upd H a (.frz od (.dK kvs)) b = some (.tup xs) := fun b xs e => by
          rw [upd_ne fun z => by rw [z, S.sub _ _ g0] at e; cases e]; exact e
        refine core od _ _ _ (S.locked g0) upd_same (hrs.mono (Le.locked g0) fun b hb => by simp at hb) (use _ keepL keepT) ?_
        have at1 : ∀ {G' H' : Hp} {F' R : List Addr}, Nx W (upd G a (.frz od (.dK kvs))) F (upd H a (.frz od (.dK kvs))) G' F' H' R → G' a = some (.frz od (.dK kvs)) := fun n => n.sub _ _ upd_same
        cases o with
        | nx => exact fun σ' H' G' F' n S' => ⟨S'.sub _ _ (at1 n), k σ' _ _ F' (Nx.unlocked g0 n) (S'.unlocked (at1 n))⟩
        | bk => exact fun σ' H' G' F' n S' => ⟨S'.sub _ _ (at1 n), k σ' _ _ F' (Nx.unlocked g0 n) (S'.unlocked (at1 n))⟩
        | ct => exact fun σ' H' G' F' n S' => ⟨S'.sub _ _ (at1 n), k σ' _ _ F' (Nx.unlocked g0 n) (S'.unlocked (at1 n))⟩
        | rt d => exact fun σ' v H' G' F' R n S' x => ⟨S'.sub _ _ (at1 n), k σ' v _ _ F' R (Nx.unlocked g0 n) (S'.unlocked (at1 n)) (x.unlocked (at1 n))⟩
        | rz C fs => exact absurd rfl (nrz C fs)
      · exact h0.run pins s σ H Dn I (core od G H Dn S g0 hrs (use H (fun _ _ e => e) fun _ _ e => e) k)
    · cases hf
  · cases hf
theorem ds_forKeys {e : Expr} {body : List Stmt} {pos : Pos} {p : Pk} {sl : List Nat} {g : TgD Om} {b : SD Om} (hp : PassesOwn (model X.prog X.w) X.A X.env X.xe) (hc : X.calm = true) (he : PE X e (tPk X.K p)) (hg : PG X tg (tG W B sl g)) (hb : PSs X body (tS W B Z b))
    (hs : ∀ x, foldedSetIterable e X.env x = pure x := by intro _; rfl) : PS X (.For tg e body [] pos) (tS W B Z (sForK p false g b)) :=
  forK_run (ps_for hp hc (pi_keys he) hg hb hs) fun a od kvs σ H R u h r => u _ ⟨a, od, rfl, .inl ⟨kvs, h, r⟩⟩
theorem ds_forItems {e : Expr} {elts : List Expr} {kk : Nat} {tpos apos cpos : Pos} {body : List Stmt} {pos : Pos} {p : Pk} {sl : List Nat} {g : TgD Om} {b : SD Om} (hp : PassesOwn (model X.prog X.w) X.A X.env X.xe) (hc : X.calm = true) (he : PE X e (tPk X.K p)) (hg : PG X (.Tuple elts kk tpos) (tG W B sl g)) (hb : PSs X body (tS W B Z b))
    (hs : ∀ x, foldedSetIterable (.Call (.Attribute e "items" apos) [] [] cpos) X.env x = pure x := by intro _; rfl) (hbase : attributeBase e "items" X.env (eval e X.env) = eval e X.env := by rfl) (hline : (apos.endLine == cpos.line) = true := by rfl) :
    PS X (.For (.Tuple elts kk tpos) (.Call (.Attribute e "items" apos) [] [] cpos) body [] pos) (tS W B Z (sForK p true g b)) :=
  forK_run (ps_for hp hc (pi_items he hbase hline) hg hb hs) fun a od kvs σ H R u h r => u _ ⟨a, od, kvs, rfl, h, r⟩
end
end DL

/-! DSu: x[::-1]; sorted of a dict with whole numbers as keys, of pairs. -/
namespace DL
open PySem PySem.Spec PyProof.Rows L2
section
variable {Om : Type} {W : Wld Om} {B : AS} {Z : XK} {X : Cx}
def dRev (f : DE Om) : DE Om := fun en om => (f en om).bind fun p => match frz p.1 with
  | .lst _ l => some (.lst .o l.reverse, p.2.1, p.2.2)
  | _ => none
theorem Rels.rev {G H : Hp} : ∀ {vs : List V} {ds : List D}, Rels B G H [] vs ds → Rels B G H [] vs.reverse ds.reverse := by
  intro vs
  induction vs with
  | nil =>
    intro ds h
    generalize hF : ([] : List Addr) = F at h
    cases h
    exact .nil
  | cons v vs ih =>
    intro ds h
    generalize hF : ([] : List Addr) = F at h
    cases h with
    | cons r t =>
      obtain ⟨rfl, rfl⟩ := List.append_eq_nil_iff.mp hF.symm
      rw [List.reverse_cons, List.reverse_cons]
      exact Rels.append0 (ih t) (Rels.cons0 r .nil)
theorem de_rev {e : Expr} {k : Nat} {p1 p2 p3 pos : Pos} {f : DE Om} (he : PE X e (tD W B f)) : PE X (.Subscript e (.Slice none none (some (.UnaryOp .USub (.Constant (.int 1) k p1) p2)) p3) pos) (tD W B (dRev f)) := (pe_revL he).le fun σ H Q q => by
  obtain ⟨en, om, G, F, c, en', om', S, hf, kk⟩ := q
  obtain ⟨⟨d, en1, om1⟩, h1, hf⟩ := bind_some hf
  dsimp only at hf
  split at hf
  · rename_i g l hl
    cases hf
    refine tD.use S h1 fun v H' G' F' n S' r => ?_
    rw [hl] at r
    obtain ⟨a, vs, rfl, ga, rs⟩ := r.asL
    refine ⟨a, vs, rfl, .of (S'.sub _ _ ga), fun p hp => ?_⟩
    obtain ⟨n2, S2, hh⟩ := S'.lnew hp rs.rev
    exact kk _ _ _ _ _ (n.trans n2) S2 hh
  · cases hf
def cSortedD : List D → Option D
  | [.dic _ ks _] => if ks.length < 64 then some (.lst .o ((sortI ks).map .int)) else none
  | _ => none
theorem sc_sortedD : SC W B cSortedD (fun xs H Q => ∃ (a : Addr) (kvs : List (Key × V)) (ks : List Int), xs = [.ref a] ∧ Rd H a (.dK kvs) ∧ kvs.map (·.1) = ks.map Sum.inl ∧ ks.length < 64 ∧
    ∀ (ys : List Int) (p : Addr), ys.Perm ks → ys.Pairwise (· ≤ ·) → H p = none → Q (.ref p) (upd H p (.lst (ys.map V.int)))) := by
  intro en om G H F σ vs ds c Q S r h k
  unfold cSortedD at h
  split at h
  · rename_i gt ks l
    split at h
    · rename_i hl
      cases h
      obtain ⟨v, rfl, r1⟩ := one0 r
      have rdH : ∀ {a : Addr} {kvs : List (Key × V)}, Rd G a (.dK kvs) → Rd H a (.dK kvs) := fun e => e.elim (fun e => .inl (S.sub _ _ e)) fun ⟨o, e⟩ => .inr ⟨o, S.sub _ _ e⟩
      have fin : ∀ (ys : List Int) (p : Addr), ys.Perm ks → ys.Pairwise (· ≤ ·) → H p = none → Q (.ref p) (upd H p (.lst (ys.map V.int))) := fun ys p pm so hp => by
        have e : ys = sortI ks := sorted_uniq so (sortI_sorted ks) (pm.trans (sortI_perm ks).symm)
        subst e
        obtain ⟨n, S', hh⟩ := S.lnew hp (Rels.of_ints (sortI ks))
        exact k _ _ _ _ n S' hh
      generalize hF : ([] : List Addr) = F' at r1
      cases r1 with
      | dicf e n q r => exact ⟨_, _, ks, rfl, rdH e, q, hl, fin⟩
      | dicb e q r => exact ⟨_, _, ks, rfl, rdH e, q, hl, fin⟩
      | dico e q r => cases hF
    · cases h
  · cases h
theorem de_sortedD {e : Expr} {es : List Expr} {p pos : Pos} {fa : DA Om} (hc : X.calm = true) (hm : X.mg "sorted" = none) (ha : PA X (e :: es) (tDA W B fa)) (hgl : Gl X "sorted" := by rfl) (he : starEach (e :: es) X.env = (false, eval e X.env) :: starEach es X.env := by rfl) (hpl : (backTo pos (starEach es X.env)).any (·.1) = false := by rfl) :
    PE X (.Call (.Name "sorted" p) (e :: es) [] pos) (tD W B (dCB cSortedD fa)) := de_callB (call_sortedDI hc) sc_sortedD hm (by decide +kernel) ha hgl (by decide) (by decide) he hpl
/-! ### pairs -/
def pairsOf : List D → Option (List (Int × Int))
  | [] => some []
  | .tup [.int i, .int j] :: ds => (pairsOf ds).map fun l => (i, j) :: l
  | _ :: _ => none
def pairD (p : Int × Int) : D := .tup [.int p.1, .int p.2]
def insP (a : Int × Int) : List (Int × Int) → List (Int × Int)
  | [] => [a]
  | b :: l => if SrtO.lexB b a = true then b :: insP a l else a :: b :: l
def sortP : List (Int × Int) → List (Int × Int)
  | [] => []
  | a :: l => insP a (sortP l)
theorem insP_perm (a : Int × Int) : ∀ l : List (Int × Int), (insP a l).Perm (a :: l)
  | [] => .refl _
  | b :: l => by
    unfold insP
    split
    · exact ((insP_perm a l).cons b).trans (.swap a b l)
    · exact .refl _
theorem sortP_perm : ∀ l : List (Int × Int), (sortP l).Perm l
  | [] => .refl _
  | a :: l => (insP_perm a (sortP l)).trans ((sortP_perm l).cons a)
theorem lex_tr {a b c : Int × Int} (h1 : SrtO.lexB b a = false) (h2 : SrtO.lexB c b = false) : SrtO.lexB c a = false := by
  rw [SrtO.lexB_no] at *; omega
theorem lex_as {a b : Int × Int} (h : SrtO.lexB b a = true) : SrtO.lexB a b = false := by
  rw [SrtO.lexB_no]; rw [SrtO.lexB_iff] at h; omega
theorem lex_eq {a b : Int × Int} (h1 : SrtO.lexB b a = false) (h2 : SrtO.lexB a b = false) : a = b := by
  rw [SrtO.lexB_no] at *
  obtain ⟨a1, a2⟩ := a
  obtain ⟨b1, b2⟩ := b
  simp only [Prod.mk.injEq] at *
  omega
abbrev SrtP (l : List (Int × Int)) : Prop := SrtO.Srtd SrtO.lexB l
theorem insP_sorted (a : Int × Int) : ∀ l : List (Int × Int), SrtP l → SrtP (insP a l)
  | [], _ => by simp [insP]
  | b :: l, h => by
    unfold insP
    have h' := List.pairwise_cons.mp h
    split
    · rename_i hab
      refine List.pairwise_cons.mpr ⟨fun c hc => ?_, insP_sorted a l h'.2⟩
      rcases List.mem_cons.mp ((insP_perm a l).mem_iff.mp hc) with rfl | e
      · exact lex_as hab
      · exact h'.1 c e
    · rename_i hab
      have hab : SrtO.lexB b a = false := by simpa using hab
      refine List.pairwise_cons.mpr ⟨fun c hc => ?_, h⟩
      rcases List.mem_cons.mp hc with rfl | e
      · exact hab
      · exact lex_tr hab (h'.1 c e)
theorem sortP_sorted : ∀ l : List (Int × Int), SrtP (sortP l)
  | [] => .nil
  | a :: l => insP_sorted a _ (sortP_sorted l)
theorem sortedP_uniq : ∀ {l l' : List (Int × Int)}, SrtP l → SrtP l' → l.Perm l' → l = l'
  | [], l', _, _, p => p.nil_eq
  | a :: l, [], _, _, p => by
    have := p.length_eq
    simp at this
  | a :: l, b :: l', h, h', p => by
    have g := List.pairwise_cons.mp h
    have g' := List.pairwise_cons.mp h'
    have e : a = b := by
      rcases List.mem_cons.mp (p.mem_iff.mp List.mem_cons_self) with e | e
      · exact e
      · rcases List.mem_cons.mp (p.mem_iff.mpr List.mem_cons_self) with f | f
        · exact f.symm
        · exact lex_eq (g.1 b f) (g'.1 a e)
    subst e
    rw [sortedP_uniq g.2 g'.2 p.cons_inv]
def cSortedP : List D → Option D
  | [.lst _ l] => (pairsOf l).map fun ps => .lst .o ((sortP ps).map pairD)
  | _ => none
theorem pairsOf_eq : ∀ {l : List D} {ps : List (Int × Int)}, pairsOf l = some ps → l = ps.map pairD
  | [], ps, h => by cases h; rfl
  | d :: ds, ps, h => by
    unfold pairsOf at h
    split at h
    · rename_i e; cases e
    · rename_i hh
      obtain ⟨rfl, rfl⟩ := List.cons.inj hh
      obtain ⟨q, h1, rfl⟩ := Option.map_eq_some_iff.mp h
      rw [pairsOf_eq h1]; rfl
    · cases h
/-- what the refs of pairs are worth -/
theorem pairs_key {G H : Hp} : ∀ {vs : List V} {ps : List (Int × Int)}, Rels B G H [] vs (ps.map pairD) → ∃ k : V → Int × Int, vs.map k = ps ∧ ∀ x ∈ vs, ∃ t, x = V.ref t ∧ G t = some (.tup [.int (k x).1, .int (k x).2]) := by
  intro vs ps r
  let k : V → Int × Int := fun v => match v with
    | .ref t => match G t with
      | some (.tup [.int i, .int j]) => (i, j)
      | _ => (0, 0)
    | _ => (0, 0)
  refine ⟨k, ?_⟩
  induction vs generalizing ps with
  | nil =>
    have := r.length
    cases ps with
    | nil => exact ⟨rfl, fun x hx => by simp at hx⟩
    | cons p ps => simp at this
  | cons v vs ih =>
    cases ps with
    | nil => have := r.length; simp at this
    | cons p ps =>
      obtain ⟨r1, r2⟩ := r.inv0
      obtain ⟨e1, e2⟩ := ih r2
      obtain ⟨t, ws, rfl, gt, rw'⟩ := Rel.asT r1
      have ew : ws = [.int p.1, .int p.2] := by
        obtain ⟨e, _⟩ := Rels.ints (ns := [p.1, p.2]) rw'
        exact e
      subst ew
      have ek : k (.ref t) = p := by
        show (match G t with
          | some (.tup [.int i, .int j]) => (i, j)
          | _ => (0, 0)) = p
        rw [gt]
      refine ⟨by rw [List.map_cons, ek, e1], fun x hx => ?_⟩
      rcases List.mem_cons.mp hx with rfl | hx
      · exact ⟨t, rfl, by rw [ek]; exact gt⟩
      · exact e2 x hx
theorem sc_sortedP {K : PySem.W.Frag} : SC W B cSortedP (rSortedPO K) := by
  intro en om G H F σ vs ds c Q S r h kk
  unfold cSortedP at h
  split at h
  · obtain ⟨ps, h1, rfl⟩ := Option.map_eq_some_iff.mp h
    obtain ⟨v, rfl, r1⟩ := one0 r
    obtain ⟨p, ws, rfl, g1, r2⟩ := r1.asL
    rw [pairsOf_eq h1] at r2
    obtain ⟨k, e1, e2⟩ := pairs_key r2
    refine ⟨p, ws, k, rfl, .of (S.sub _ _ g1), fun x hx => ?_, fun ys q so st hq => ?_⟩
    · obtain ⟨t, e, g⟩ := e2 x hx
      exact ⟨t, e, S.sub _ _ g⟩
    · have e : ys.map k = sortP ps := sortedP_uniq (SrtO.srtd_map so) (sortP_sorted ps) ((st.perm.map k).trans (by rw [e1]; exact (sortP_perm ps).symm))
      have rr : Rels B G H [] ys ((sortP ps).map pairD) := by
        rw [← e]
        have mem : ∀ x ∈ ys, x ∈ ws := fun x hx => st.perm.mem_iff.mp hx
        clear so st e
        induction ys with
        | nil => exact .nil
        | cons y ys ih =>
          rw [List.map_cons, List.map_cons]
          refine Rels.cons0 ?_ (ih fun x hx => mem x (List.mem_cons_of_mem _ hx))
          obtain ⟨t, e, g⟩ := e2 y (mem y List.mem_cons_self)
          rw [e] at g ⊢
          exact .tup g (Rels.of_ints [(k (.ref t)).1, (k (.ref t)).2])
      obtain ⟨n, S', hh⟩ := S.lnew hq rr
      exact kk _ _ _ _ n S' hh
  · cases h
theorem de_sortedP {e : Expr} {es : List Expr} {p pos : Pos} {fa : DA Om} (hm : X.mg "sorted" = none) (ha : PA X (e :: es) (tDA W B fa)) (hgl : Gl X "sorted" := by rfl) (he : starEach (e :: es) X.env = (false, eval e X.env) :: starEach es X.env := by rfl) (hpl : (backTo pos (starEach es X.env)).any (·.1) = false := by rfl) :
    PE X (.Call (.Name "sorted" p) (e :: es) [] pos) (tD W B (dCB cSortedP fa)) := de_callB cr_sortedPO sc_sortedP hm (by decide +kernel) ha hgl (by decide) (by decide) he hpl
end
end DL

/-! DSt: a def's own set of whole numbers, as a world of its own. -/
namespace DL
open PySem PySem.Spec PyProof.Rows L2
abbrev SSt := (Int → Bool) × Nat
theorem upd_upd {H : Hp} {a : Addr} {u u' : HO} : upd (upd H a u) a u' = upd H a u' := by
  funext b
  by_cases z : b = a
  · subst z; rw [upd_same, upd_same]
  · rw [upd_ne z, upd_ne z, upd_ne z]
theorem upd_id {H : Hp} {a : Addr} {u : HO} (h : H a = some u) : upd H a u = H := by
  funext b
  by_cases z : b = a
  · subst z; rw [upd_same, h]
  · rw [upd_ne z]
/-- W, and a set at a (W does not ask what is in it) -/
def WS {Om : Type} (W : Wld Om) (w : World) (a : Addr) : Wld (Om × SSt) where
  ok := fun m H => (∀ S n, W.ok m.1 (upd H a (SetO w a S n))) ∧ H a = some (SetO w a m.2.1 m.2.2)
  fp := fun b => W.fp b ∨ b = a
  here := fun m H b h f => by
    by_cases z : b = a
    · subst z; rw [h.2]; exact fun z => nomatch z
    · rcases f with f | f
      · have := W.here m.1 _ b (h.1 (fun _ => false) 0) f
        rwa [upd_ne z] at this
      · exact absurd f z
  loc := fun m H H' h1 h2 h => ⟨fun S n => W.loc m.1 _ _ (fun b hb => by
      by_cases z : b = a
      · subst z; rw [upd_same, upd_same]
      · rw [upd_ne z, upd_ne z]; exact h1 b (.inl hb)) (fun b u e n1 n2 n3 n4 => by
      by_cases z : b = a
      · subst z; rw [upd_same] at e ⊢; exact e
      · rw [upd_ne z] at e ⊢; exact h2 b u e n1 n2 n3 n4) (h.1 S n), (h1 a (.inr rfl)).trans h.2⟩
section
variable {Om : Type} {W : Wld Om} {B : AS} {Z : XK} {X : Cx} {a : Addr}
/-- e not in the set -/
def dNotInS (a : Addr) (i : Nat) (f : DE (Om × SSt)) : DE (Om × SSt) := fun en om => (f en om).bind fun p => match p.1, p.2.1[i]? with
  | .int k, some (some (.opq b)) => if b = a then some (.bl (!p.2.2.2.1 k), p.2.1, p.2.2) else none
  | _, _ => none
theorem setO_lst {w : World} {a : Addr} {S : Int → Bool} {n : Nat} : ∀ o, SetO w a S n = o → (∀ f, o ≠ .ext f) → False := fun o e h => by
  unfold SetO at e
  exact h _ e.symm
theorem dt_notinS (i : Nat) {e : Expr} {x : Str} {p pos : Pos} {f : DE (Om × SSt)} (he : PE X e (tD (WS W X.w a) B f)) (hN : X.N[i]? = some x := by rfl) (hv : Vis X.env.scope x := by first | exact Or.inl rfl | exact Or.inr (Or.inl rfl) | exact Or.inr (Or.inr rfl))
    (hd : (x == ("__debug__" : Str)) = false := by decide) (hcd : (x == ("__classdict__" : Str)) = false := by decide) : PT X (.Compare e [.NotIn] [.Name x p] pos) (tDT (WS W X.w a) B (dB (dNotInS a i f))) :=
  (pt_cmpR or_snotin he (pe_var hN hv hd hcd) (by rfl)).le fun σ H Q q => by
    obtain ⟨en, om, G, F, b, en', om', S, hf, k⟩ := q
    have hq := dB_some hf
    unfold dNotInS at hq
    obtain ⟨⟨d, en1, om1⟩, h1, hg⟩ := bind_some hq
    clear hq hf
    dsimp only at hg
    split at hg
    · rename_i j b hb
      split at hg
      · rename_i eb
        subst eb
        cases hg
        refine tD.hold S h1 fun v H' G' F' R n S' x => ?_
        have rv := x.rel
        cases rv
        obtain ⟨v2, P, R2, T, _, e2, r2⟩ := S'.get hb
        cases r2
        exact ⟨_, e2, j, _, _, _, rfl, rfl, S'.wok.2, _, rfl, k H' G' F' n.drop S'⟩
      · cases hg
    · cases hg
/-- the set takes e -/
def sAddS (a : Addr) (i : Nat) (f : DE (Om × SSt)) : SD (Om × SSt) := fun en om => match en[i]? with
  | some (some (.opq b)) => if b = a then (f en om).bind fun p => match p.1 with
    | .int k => if p.2.2.2.2 < 1000 then some (.nx, p.2.1, (p.2.2.1, ((fun j => p.2.2.2.1 j || decide (j = k)), if p.2.2.2.1 k = true then p.2.2.2.2 else p.2.2.2.2 + 1))) else none
    | _ => none
    else none
  | _ => none
/-- the set is another -/
theorem Rst.setS {en : Ev} {om : Om × SSt} {G H : Hp} {F : List Addr} {σ : L2.St} {w : World} {S : Int → Bool} {n : Nat} (St : Rst (WS W w a) B en om G F σ H) : Rst (WS W w a) B en (om.1, (S, n)) G F σ (upd H a (SetO w a S n)) ∧ Nx (WS W w a) G F H G F (upd H a (SetO w a S n)) [] := by
  have ga := St.WG a (.inr rfl)
  have nF : ∀ b ∈ F, b ≠ a := fun b hb z => St.FW b hb (.inr z)
  refine ⟨⟨fun b o e => ?_, St.env.mono (.refl _ _) fun b hb => upd_ne (nF b hb), St.nd, St.FG, St.FW, St.WG, St.BG, fun S' n' => ?_, upd_same⟩, ⟨Same.refl _, fun b e1 e2 e3 e4 e5 => ⟨upd_ne fun z => e5 (.inr z), e3, e4, by simp⟩⟩⟩
  · rw [upd_ne fun z => by rw [z, ga] at e; cases e]
    exact St.sub b o e
  · rw [upd_upd]
    exact St.wok.1 S' n'
theorem ds_addS (i : Nat) {e : Expr} {x : Str} {p apos cpos pos : Pos} {f : DE (Om × SSt)} (he : PE X e (tD (WS W X.w a) B f)) (hN : X.N[i]? = some x := by rfl) (hv : Vis X.env.scope x := by first | exact Or.inl rfl | exact Or.inr (Or.inl rfl) | exact Or.inr (Or.inr rfl))
    (hd : (x == ("__debug__" : Str)) = false := by decide) (hcd : (x == ("__classdict__" : Str)) = false := by decide)
    (hs1 : starEach [e] X.env = (false, eval e X.env) :: starEach [] X.env := by rfl) (hbase : attributeBase (.Name x p) "add" X.env (eval (.Name x p) X.env) = eval (.Name x p) X.env := by rfl)
    (hfew : ((backTo cpos (starEach [e] X.env)).all (fun x => !x.1) && (backToKw cpos (keywordEach [] X.env)).all (fun x => x.1.isSome) && decide (([e] : List Expr).length + ([] : List Keyword).length + (if ([] : List Keyword).isEmpty then 0 else 1) < 30)) = true := by rfl)
    (hline : (apos.endLine == cpos.line) = true := by rfl) (hplain : (backTo cpos (starEach [] X.env)).any (·.1) = false := by rfl) (hsw : swapsWith (.Call (.Attribute (.Name x p) "add" apos) [e] [] cpos) none pos.line X.env = pure false := by rfl) :
    PS X (.Expr (.Call (.Attribute (.Name x p) "add" apos) [e] [] cpos) pos) (tS (WS W X.w a) B Z (sAddS a i f)) :=
  (ps_expr (pe_sadd (pe_var hN hv hd hcd) (da_cons he da_nil hs1) hbase hfew hline hs1 hplain) hsw).le fun Dn σ H q => by
    obtain ⟨en, om, G, F, o, en', om', S, hf, k⟩ := q
    unfold sAddS at hf
    split at hf
    · rename_i b hb
      split at hf
      · rename_i eb
        subst eb
        obtain ⟨⟨d, en1, om1⟩, h1, hg⟩ := bind_some hf
        clear hf
        dsimp only at hg
        split at hg
        · rename_i j
          split at hg
          · rename_i hroom
            cases hg
            obtain ⟨v0, P, R, T, _, e0, r0⟩ := S.get hb
            cases r0
            refine ⟨_, e0, ⟨b, _, _, rfl, S.wok.2⟩, ?_⟩
            have t : tDA (WS W X.w b) B (aCons f aNil) σ H (fun xs H2 => rSAdd X.w (.ref b) xs H2 fun _ H3 => Dn.nx σ H3) := by
              refine tDA.hold (ds := [.int j]) S (by unfold aCons; rw [h1]; rfl) fun vs H' G' F' R n S' x => ?_
              have xr := x.rel
              obtain ⟨e, _⟩ := Rels.ints (ns := [j]) xr
              subst e
              refine ⟨b, j, om1.2.1, om1.2.2, rfl, rfl, S'.wok.2, by unfold scanBound; omega, ?_⟩
              obtain ⟨S2, n2⟩ := S'.setS (S := fun i => om1.2.1 i || decide (i = j)) (n := if om1.2.1 j = true then om1.2.2 else om1.2.2 + 1)
              exact k _ _ _ _ (n.drop.trans n2) S2
            exact t
          · cases hg
        · cases hg
      · cases hf
    · cases hf
open Classical in
/-- x = set() in slot i, then b2 of the set's place: what comes is the same wherever the set stands -/
noncomputable def withSet (i : Nat) (b2 : Addr → SD (Om × SSt)) : SD Om := fun en om =>
  if h : ∃ p : D × Om, i < en.length ∧ ∀ a, ∃ en' S', en'.length = en.length ∧ b2 a (en.set i (some (.opq a))) (om, (fun _ => false, 0)) = some (.rt p.1, en', (p.2, S')) then some (.rt h.choose.1, List.replicate en.length none, h.choose.2) else none
theorem withSet_run {i : Nat} {b2 : Addr → SD (Om × SSt)} {en : Ev} {om om' : Om} {d : D} (hi : i < en.length) (h : ∀ a, ∃ en' S', en'.length = en.length ∧ b2 a (en.set i (some (.opq a))) (om, (fun _ => false, 0)) = some (.rt d, en', (om', S'))) : withSet i b2 en om = some (.rt d, List.replicate en.length none, om') := by
  have ex : ∃ p : D × Om, i < en.length ∧ ∀ a, ∃ en' S', en'.length = en.length ∧ b2 a (en.set i (some (.opq a))) (om, (fun _ => false, 0)) = some (.rt p.1, en', (p.2, S')) := ⟨(d, om'), hi, h⟩
  unfold withSet
  rw [dif_pos ex]
  obtain ⟨en1, S1, _, e1⟩ := ex.choose_spec.2 0
  obtain ⟨en2, S2, _, e2⟩ := h 0
  rw [e2] at e1
  simp only [Option.some.injEq, Prod.mk.injEq, Out.rt.injEq] at e1
  obtain ⟨q1, _, q2, _⟩ := e1
  rw [← q1, ← q2]
theorem withSet_some {i : Nat} {b2 : Addr → SD (Om × SSt)} {en en' : Ev} {om om' : Om} {o : Out} (h : withSet i b2 en om = some (o, en', om')) : ∃ d, o = .rt d ∧ en' = List.replicate en.length none ∧ i < en.length ∧ ∀ a, ∃ en2 S', en2.length = en.length ∧ b2 a (en.set i (some (.opq a))) (om, (fun _ => false, 0)) = some (.rt d, en2, (om', S')) := by
  unfold withSet at h
  split at h
  · rename_i ex
    cases h
    exact ⟨_, rfl, rfl, ex.choose_spec.1, ex.choose_spec.2⟩
  · cases h
theorem ds_withSet (i : Nat) {x : Str} {p q pos pos2 : Pos} {rest : List Stmt} {b2 : Addr → SD (Om × SSt)} (nd : X.N.Nodup) (hm : X.mg "set" = none) (hrest : ∀ a, PSs X rest (tS (WS W X.w a) B Z (b2 a))) (hN : X.N[i]? = some x := by rfl) (hx : Loc X.env.scope x := by first | exact .inl rfl | exact .inr rfl)
    (hg : Gl X "set" := by rfl) (hs : swapsWith (.Call (.Name "set" q) [] [] pos) (some (.Name x p)) pos2.line X.env = pure false := by rfl) (hf : X.fn x = true ∨ X.env.scope.names.lookup x = some .local := by first | exact .inl rfl | exact .inr rfl | assumption) : PSs X (.Assign [.Name x p] (.Call (.Name "set" q) [] [] pos) pos2 :: rest) (tS W B Z (withSet i b2)) := by
  refine (pss_cons (u := fun Dn σ H => ∃ a, tS (WS W X.w a) B Z (b2 a) Dn σ H) (ps_set (i := i) nd hN hx (pe_callTy0 cr_set0 hg hm (by decide +kernel)) hs hf) ⟨fun pins s' σ H' Dn I h => ?_⟩).le fun Dn σ H h => ?_
  · obtain ⟨a, h⟩ := h
    exact (hrest a).run pins s' σ H' Dn I h
  · obtain ⟨en, om, G, F, o, en', om', S, hf, k⟩ := h
    obtain ⟨d, rfl, rfl, hi, hrun⟩ := withSet_some hf
    refine ⟨rfl, fun a ha => ?_⟩
    obtain ⟨en2, S', hl2, hr⟩ := hrun a
    have ga : G a = none := S.sub.free ha
    have na : ¬ W.fp a := fun z => W.here om H a S.wok z ha
    have nF : ∀ b ∈ F, b ≠ a := fun b hb z => S.fs hb (z ▸ ha)
    obtain ⟨P, T, U, e, kk, ks, _⟩ := S.env.at hi
    subst e
    have env := ks (B' := B) (G' := G) (H' := upd H a (SetO X.w a (fun _ => false) 0)) (.refl _ _) (fun b hb => upd_ne (nF b (by simp [hb]))) (fun b hb => upd_ne (nF b (by simp [hb]))) (.opq a)
    have nd' := S.nd
    have sub' : ∀ b ∈ P ++ ([] ++ U), b ∈ P ++ (T ++ U) := fun b hb => by simp at hb ⊢; rcases hb with h | h <;> simp [h]
    have S2 : Rst (WS W X.w a) B (en.set i (some (.opq a))) (om, (fun _ => false, 0)) G (P ++ ([] ++ U)) (σ.set i (some (.ref a))) (upd H a (SetO X.w a (fun _ => false) 0)) := by
      refine ⟨fun b u e => by rw [upd_ne (ne_of_none e ga)]; exact S.sub b u e, env, ?_, fun b hb => S.FG b (sub' b hb), fun b hb z => z.elim (S.FW b (sub' b hb)) (nF b (sub' b hb)), fun b z => z.elim (S.WG b) fun z => z ▸ ga, S.BG, fun S' n' => ?_, upd_same⟩
      · simp only [List.nil_append]
        simp only [List.nodup_append] at nd' ⊢
        exact ⟨nd'.1, nd'.2.1.2.1, fun b hb c hc => nd'.2.2 b hb c (by simp [hc])⟩
      · rw [upd_upd]
        exact W.put S.wok na (.inl ha)
    refine ⟨a, tS.run S2 hr ?_⟩
    intro σ' v H' G' F' R n S3 x
    have hl3 : σ'.length = en.length := S3.env.length.trans hl2
    have em : Envs B G' H' [] σ' (List.replicate en.length none) := by rw [← hl3]; exact envs_none σ'
    have wok : W.ok om' H' := by
      have := S3.wok.1 S'.1 S'.2
      rwa [upd_id S3.wok.2] at this
    refine k σ' v H' G' [] R ⟨n.sub, fun b e1 e2 e3 e4 e5 => ?_⟩ ⟨S3.sub, em, .nil, fun b hb => by simp at hb, fun b hb => by simp at hb, fun b z => S3.WG b (.inl z), S3.BG, wok⟩ ⟨x.rel, x.nd, fun b hb => ⟨(x.own b hb).1, by simp, fun z => (x.own b hb).2.2 (.inl z)⟩⟩
    have z : b ≠ a := fun z => e1 (z ▸ ha)
    have := n.frm b (by rw [upd_ne z]; exact e1) (by rw [upd_ne z]; exact e2) e3 (fun q => e4 (sub' b q)) (fun q => q.elim e5 z)
    rw [upd_ne z] at this
    exact ⟨this.1, this.2.1, by simp, this.2.2.2⟩
end
end DL

/-! DSs: e not in d, e in d, a dict as it stands in its slot. -/
namespace DL
open PySem PySem.Spec PyProof.Rows L2
section
variable {Om : Type} {W : Wld Om} {B : AS} {Z : XK} {X : Cx}
def dInN (neg : Bool) (i : Nat) (f : DE Om) : DE Om := fun en om => (f en om).bind fun p => match p.1, p.2.1[i]? with
  | .int k, some (some (.dic _ ks _)) => some (.bl (if neg then !ks.contains k else ks.contains k), p.2.1, p.2.2)
  | _, _ => none
theorem valV_some : ∀ {kvs : List (Key × V)} {ks : List Int}, KsOk kvs ks → ∀ j : Int, (valV kvs (Sum.inl j)).isSome = ks.contains j
  | [], [], _, j => rfl
  | [], k :: ks, h, j => by simp [KsOk] at h
  | p :: l, [], h, j => by simp [KsOk] at h
  | p :: l, k :: ks, h, j => by
    unfold KsOk at h
    simp only [List.map_cons, List.cons.injEq] at h
    have ih := valV_some (kvs := l) (ks := ks) h.2 j
    unfold valV at ih ⊢
    simp only [Option.isSome_map] at ih ⊢
    rw [List.find?_cons]
    by_cases z : k = j
    · have : p.1 = Sum.inl j := by rw [h.1, z]
      simp [this, z]
    · have : ¬ p.1 = Sum.inl j := by rw [h.1]; intro q; exact z (Sum.inl.inj q)
      simp only [this, decide_false]
      rw [ih, List.contains_cons]
      have : (j == k) = false := by simpa using fun q : j = k => z q.symm
      rw [this, Bool.false_or]
theorem dic_get {G H : Hp} {v : V} {gt : Tag} {ks : List Int} {ds : List D} {R : List Addr} (sub : Same G H) (r : Rel B G H R v (.dic gt ks ds)) (j : Int) : ∃ a o, v = .ref a ∧ DGet H a (.int j) o ∧ o.isSome = ks.contains j := by
  have rdH : ∀ {a : Addr} {kvs : List (Key × V)}, Rd G a (.dK kvs) → Rd H a (.dK kvs) := fun e => e.elim (fun e => .inl (sub _ _ e)) fun ⟨o, e⟩ => .inr ⟨o, sub _ _ e⟩
  cases r with
  | dicf e n k r => exact ⟨_, _, rfl, .inl ⟨_, Sum.inl j, rdH e, rfl, rfl⟩, valV_some k j⟩
  | dicb e k r => exact ⟨_, _, rfl, .inl ⟨_, Sum.inl j, rdH e, rfl, rfl⟩, valV_some k j⟩
  | dico e k r => exact ⟨_, _, rfl, .inl ⟨_, Sum.inl j, .inl e, rfl, rfl⟩, valV_some k j⟩
theorem dt_notinN (hu : X.A.units + 1 < cLine) (i : Nat) {e : Expr} {x : Str} {p pos : Pos} {f : DE Om} (he : PE X e (tD W B f)) (hN : X.N[i]? = some x := by rfl) (hv : Vis X.env.scope x := by first | exact Or.inl rfl | exact Or.inr (Or.inl rfl) | exact Or.inr (Or.inr rfl))
    (hd : (x == ("__debug__" : Str)) = false := by decide) (hcd : (x == ("__classdict__" : Str)) = false := by decide) : PT X (.Compare e [.NotIn] [.Name x p] pos) (tDT W B (dB (dInN true i f))) :=
  (pt_cmpR (or_dnotin hu) he (pe_var hN hv hd hcd) (by rfl)).le fun σ H Q q => by
    obtain ⟨en, om, G, F, b, en', om', S, hf, k⟩ := q
    have hq := dB_some hf
    unfold dInN at hq
    obtain ⟨⟨d, en1, om1⟩, h1, hg⟩ := bind_some hq
    clear hq hf
    dsimp only at hg
    split at hg
    · rename_i j g ks l hb
      cases hg
      refine tD.hold S h1 fun v H' G' F' R n S' x => ?_
      have rv := x.rel
      cases rv
      obtain ⟨v2, P, R2, T, _, e2, r2⟩ := S'.get hb
      obtain ⟨a, o, rfl, dg, ho⟩ := dic_get S'.sub r2 j
      refine ⟨_, e2, a, o, rfl, dg, _, rfl, ?_⟩
      simp only [if_true] at k ⊢
      rw [ho]
      exact k H' G' F' n.drop S'
    · cases hg
/-- x is None, x as it stands in its slot -/
def dIsN (neg : Bool) (i : Nat) : DE Om := fun en om => match en[i]? with
  | some (some d) => some (.bl (if neg then !isNon d else isNon d), en, om)
  | _ => none
theorem isNon_rel {G H : Hp} {R : List Addr} {v : V} {d : D} (r : Rel B G H R v d) : decide (v = .non) = isNon d := by
  cases r <;> simp [isNon]
theorem de_isN (i : Nat) {x : Str} {p p2 pos : Pos} {j : Nat} (hN : X.N[i]? = some x := by rfl) (hv : Vis X.env.scope x := by first | exact Or.inl rfl | exact Or.inr (Or.inl rfl) | exact Or.inr (Or.inr rfl))
    (hd : (x == ("__debug__" : Str)) = false := by decide) (hcd : (x == ("__classdict__" : Str)) = false := by decide) : PE X (.Compare (.Name x p) [.Is] [.Constant .none j p2] pos) (tD W B (dIsN false i)) :=
  (pe_cmpR op_isN (pe_var hN hv hd hcd) pe_non (nomark _)).le fun σ H Q q => by
    obtain ⟨en, om, G, F, d, en', om', S, hf, k⟩ := q
    unfold dIsN at hf
    split at hf
    · rename_i d' hd'
      cases hf
      obtain ⟨v, P, R, T, _, e, r⟩ := S.get hd'
      refine ⟨v, e, rfl, ?_⟩
      rw [isNon_rel r]
      exact k _ H G F [] .refl S (.sh (.bl _))
    · cases hf
theorem de_notN (i : Nat) {x : Str} {p p2 pos : Pos} {j : Nat} (hN : X.N[i]? = some x := by rfl) (hv : Vis X.env.scope x := by first | exact Or.inl rfl | exact Or.inr (Or.inl rfl) | exact Or.inr (Or.inr rfl))
    (hd : (x == ("__debug__" : Str)) = false := by decide) (hcd : (x == ("__classdict__" : Str)) = false := by decide) : PE X (.Compare (.Name x p) [.IsNot] [.Constant .none j p2] pos) (tD W B (dIsN true i)) :=
  (pe_cmpR op_notN (pe_var hN hv hd hcd) pe_non (nomark _)).le fun σ H Q q => by
    obtain ⟨en, om, G, F, d, en', om', S, hf, k⟩ := q
    unfold dIsN at hf
    split at hf
    · rename_i d' hd'
      cases hf
      obtain ⟨v, P, R, T, _, e, r⟩ := S.get hd'
      refine ⟨v, e, rfl, ?_⟩
      have := isNon_rel r
      simp only [if_true] at k ⊢
      rw [← this] at k
      exact k _ H G F [] .refl S (.sh (.bl _))
    · cases hf
theorem dt_isN (i : Nat) {x : Str} {p p2 pos : Pos} {j : Nat} (hN : X.N[i]? = some x := by rfl) (hv : Vis X.env.scope x := by first | exact Or.inl rfl | exact Or.inr (Or.inl rfl) | exact Or.inr (Or.inr rfl))
    (hd : (x == ("__debug__" : Str)) = false := by decide) (hcd : (x == ("__classdict__" : Str)) = false := by decide) : PT X (.Compare (.Name x p) [.Is] [.Constant .none j p2] pos) (tDT W B (dB (dIsN false i))) :=
  (pt_cmpR op_isN (pe_var hN hv hd hcd) pe_non (nomark _)).le fun σ H Q q => by
    obtain ⟨en, om, G, F, d, en', om', S, hf, k⟩ := q
    have hf := dB_some hf
    unfold dIsN at hf
    split at hf
    · rename_i d' hd'
      cases hf
      obtain ⟨v, P, R, T, _, e, r⟩ := S.get hd'
      refine ⟨v, e, rfl, _, rfl, ?_⟩
      have := isNon_rel r
      simp only [if_true, Bool.false_eq_true, if_false] at k ⊢
      rw [← this] at k
      exact k H G F .refl S
    · cases hf
theorem dt_notN (i : Nat) {x : Str} {p p2 pos : Pos} {j : Nat} (hN : X.N[i]? = some x := by rfl) (hv : Vis X.env.scope x := by first | exact Or.inl rfl | exact Or.inr (Or.inl rfl) | exact Or.inr (Or.inr rfl))
    (hd : (x == ("__debug__" : Str)) = false := by decide) (hcd : (x == ("__classdict__" : Str)) = false := by decide) : PT X (.Compare (.Name x p) [.IsNot] [.Constant .none j p2] pos) (tDT W B (dB (dIsN true i))) :=
  (pt_cmpR op_notN (pe_var hN hv hd hcd) pe_non (nomark _)).le fun σ H Q q => by
    obtain ⟨en, om, G, F, d, en', om', S, hf, k⟩ := q
    have hf := dB_some hf
    unfold dIsN at hf
    split at hf
    · rename_i d' hd'
      cases hf
      obtain ⟨v, P, R, T, _, e, r⟩ := S.get hd'
      refine ⟨v, e, rfl, _, rfl, ?_⟩
      have := isNon_rel r
      simp only [if_true, Bool.false_eq_true, if_false] at k ⊢
      rw [← this] at k
      exact k H G F .refl S
    · cases hf
end
end DL

/-! DM5: dicts, sets, whiles, run forward. -/
namespace DL
open PySem PySem.Spec PyProof.Rows L2
section
variable {Om : Type} {en : Ev} {om : Om}
@[simp] theorem wE_dnew {Q} : wE (dDnew : DE Om) Q en om = Q (.dic .o [] []) en om := by simp only [wE, dDnew, ex_map, wO_some]
def kD2 (k : D) (Q : D → Ev → Om → Prop) : D → Ev → Om → Prop := fun v en om => match k with
  | .int i => Q (.dic .o [i] [frz v]) en om
  | _ => False
@[simp] theorem kD2_at {i v} {Q : D → Ev → Om → Prop} : kD2 (.int i) Q v en om = Q (.dic .o [i] [frz v]) en om := rfl
def kD1 (g : DE Om) (Q : D → Ev → Om → Prop) : D → Ev → Om → Prop := fun k en om => wE g (kD2 (frz k) Q) en om
@[simp] theorem kD1_at {g : DE Om} {Q k} : kD1 g Q k en om = wE g (kD2 (frz k) Q) en om := rfl
@[simp] theorem wE_dict1 {f g : DE Om} {Q} : wE (dDict1 f g) Q en om = wE f (kD1 g Q) en om := by
  unfold wE dDict1
  simp only [ex_map, wO_bind]
  congr 1
  funext ⟨k, e, m⟩
  unfold kD1 wE
  simp only [ex_map]
  congr 1
  funext ⟨v, e, m⟩
  unfold kD2
  cases frz k <;> simp
def revQ (Q : D → Ev → Om → Prop) (en : Ev) (om : Om) : D → Prop
  | .lst _ l => Q (.lst .o l.reverse) en om
  | _ => False
@[simp] theorem revQ_at {g l} {Q : D → Ev → Om → Prop} : revQ Q en om (.lst g l) = Q (.lst .o l.reverse) en om := rfl
def kRev (Q : D → Ev → Om → Prop) : D → Ev → Om → Prop := fun d en om => revQ Q en om (frz d)
@[simp] theorem kRev_at {Q : D → Ev → Om → Prop} {d} : kRev Q d en om = revQ Q en om (frz d) := rfl
@[simp] theorem wE_rev {f : DE Om} {Q} : wE (dRev f) Q en om = wE f (kRev Q) en om := by
  unfold wE dRev
  simp only [ex_map, wO_bind]
  congr 1
  funext ⟨d, e, m⟩
  unfold kRev
  cases h : frz d <;> simp [h, revQ]
/-! d[k] = v -/
def putQ (i : Nat) (k v : D) (Q : Out → Ev → Om → Prop) (en : Ev) (om : Om) : Option (Option D) → Prop
  | some (some (.dic .o ks l)) => match k with
    | .int k => (noOs l = true ∧ noO v = true ∧ ks.length = l.length ∧ ks.length < 1000) ∧ (if ks.contains k = true then Q .nx (en.set i (some (.dic .o ks (dput ks l k v)))) om else Q .nx (en.set i (some (.dic .o (ks ++ [k]) (l ++ [v])))) om)
    | _ => False
  | _ => False
@[simp] theorem putQ_at {i k v ks l} {Q : Out → Ev → Om → Prop} : putQ i (.int k) v Q en om (some (some (.dic .o ks l))) = ((noOs l = true ∧ noO v = true ∧ ks.length = l.length ∧ ks.length < 1000) ∧ (if ks.contains k = true then Q .nx (en.set i (some (.dic .o ks (dput ks l k v)))) om else Q .nx (en.set i (some (.dic .o (ks ++ [k]) (l ++ [v])))) om)) := rfl
def kPut2 (i : Nat) (v : D) (Q : Out → Ev → Om → Prop) : D → Ev → Om → Prop := fun k en om => putQ i (frz k) v Q en om en[i]?
@[simp] theorem kPut2_at {i v k} {Q : Out → Ev → Om → Prop} : kPut2 i v Q k en om = putQ i (frz k) v Q en om en[i]? := rfl
def kPut1 (i : Nat) (fj : DE Om) (Q : Out → Ev → Om → Prop) : D → Ev → Om → Prop := fun v en om => has en i = true ∧ wE fj (kPut2 i v Q) en om
@[simp] theorem kPut1_at {i v} {fj : DE Om} {Q} : kPut1 i fj Q v en om = (has en i = true ∧ wE fj (kPut2 i v Q) en om) := rfl
@[simp] theorem wS_put {i} {f fj : DE Om} {Q} : wS (sPut i f fj) Q en om = wE f (kPut1 i fj Q) en om := by
  unfold wS sPut wE
  simp only [ex_map, wO_bind]
  congr 1
  funext ⟨v, e, m⟩
  unfold kPut1 wE
  simp only [wO_if, wO_none, if_false_right, ex_map, wO_bind]
  congr 1
  congr 1
  funext ⟨k, e, m⟩
  unfold kPut2 putQ
  simp only
  cases h : e[i]? with
  | none => simp
  | some x =>
    cases x with
    | none => simp
    | some d =>
      cases d <;> simp
      rename_i t ks l
      cases t <;> simp
      cases hk : frz k <;> simp [wO_if]
/-- d[a][b] = v: what is wanted of the list of dicts -/
def put2Q (i : Nat) (ia ib : Option Int) (v : D) (Q : Out → Ev → Om → Prop) (en : Ev) (om : Om) : Option (Option D) → Prop
  | some (some (.lst .o l)) => wO ia fun ia => wO (ixN l.length ia) fun ja => match l.getD ja .non with
    | .dic .o ks l2 => wO ib fun k => (noOs l2 = true ∧ noO v = true ∧ ks.length = l2.length ∧ ks.length < 1000) ∧
        (if ks.contains k = true then Q .nx (en.set i (some (.lst .o (l.set ja (.dic .o ks (dput ks l2 k v)))))) om else Q .nx (en.set i (some (.lst .o (l.set ja (.dic .o (ks ++ [k]) (l2 ++ [v])))))) om)
    | _ => False
  | _ => False
def kPut22 (i : Nat) (a b : At) (Q : Out → Ev → Om → Prop) : D → Ev → Om → Prop := fun v en om => put2Q i (atE en a) (atE en b) v Q en om en[i]?
@[simp] theorem kPut22_at {i a b v} {Q : Out → Ev → Om → Prop} : kPut22 i a b Q v en om = put2Q i (atE en a) (atE en b) v Q en om en[i]? := rfl
@[simp] theorem wS_put2 {i} {f : DE Om} {a b} {Q} : wS (sPut2 i f a b) Q en om = wE f (kPut22 i a b Q) en om := by
  unfold wS sPut2 wE
  simp only [ex_map, wO_bind]
  congr 1
  funext ⟨v, e, m⟩
  unfold kPut22 put2Q
  simp only
  cases h : e[i]? with
  | none => simp
  | some x =>
    cases x with
    | none => simp
    | some d =>
      cases d <;> simp
      rename_i t l
      cases t <;> simp [wO_bind]
      apply iff_of_eq
      congr 1
      funext ia
      congr 1
      funext ja
      cases hj : l[ja]?.getD .non <;> simp
      rename_i t ks l2
      cases t <;> simp [wO_bind, wO_if]
@[simp] theorem atE_v {j} : atE en (.v j) = (match en[j]? with | some (some (.int i)) => some i | _ => none) := rfl
@[simp] theorem atE_c {i} : atE en (.c i) = some i := rfl
/-! membership in a dict as it stands -/
def inQ (neg : Bool) (k : D) (Q : D → Ev → Om → Prop) (en : Ev) (om : Om) : Option (Option D) → Prop
  | some (some (.dic _ ks _)) => match k with
    | .int k => Q (.bl (if neg then !ks.contains k else ks.contains k)) en om
    | _ => False
  | _ => False
@[simp] theorem inQ_at {neg k g ks l} {Q : D → Ev → Om → Prop} : inQ neg (.int k) Q en om (some (some (.dic g ks l))) = Q (.bl (if neg then !ks.contains k else ks.contains k)) en om := rfl
def kIn (neg : Bool) (i : Nat) (Q : D → Ev → Om → Prop) : D → Ev → Om → Prop := fun k en om => inQ neg k Q en om en[i]?
@[simp] theorem kIn_at {neg i k} {Q : D → Ev → Om → Prop} : kIn neg i Q k en om = inQ neg k Q en om en[i]? := rfl
@[simp] theorem wE_inN {neg i} {f : DE Om} {Q} : wE (dInN neg i f) Q en om = wE f (kIn neg i Q) en om := by
  unfold wE dInN
  simp only [ex_map, wO_bind]
  congr 1
  funext ⟨k, e, m⟩
  unfold kIn inQ
  simp only
  cases h : e[i]? with
  | none => cases k <;> simp
  | some x =>
    cases x with
    | none => cases k <;> simp
    | some d => cases k <;> cases d <;> simp
def isnQ (neg : Bool) (Q : D → Ev → Om → Prop) (en : Ev) (om : Om) : Option (Option D) → Prop
  | some (some d) => Q (.bl (if neg then !isNon d else isNon d)) en om
  | _ => False
@[simp] theorem isnQ_at {neg d} {Q : D → Ev → Om → Prop} : isnQ neg Q en om (some (some d)) = Q (.bl (if neg then !isNon d else isNon d)) en om := rfl
@[simp] theorem wE_isN {neg i} {Q} : wE (dIsN neg i : DE Om) Q en om = isnQ neg Q en om en[i]? := by
  unfold wE dIsN isnQ
  cases h : en[i]? with
  | none => simp
  | some x => cases x <;> simp only [ex_map, wO_some, wO_none]
@[simp] theorem oIx_d {g ks ds i} : oIx (.dic g ks ds) (.int i) = dlook ks ds i := rfl
@[simp] theorem cSortedD_at {g ks ds} : cSortedD [.dic g ks ds] = if ks.length < 64 then some (.lst .o ((sortI ks).map .int)) else none := rfl
@[simp] theorem cSortedP_at {g l} : cSortedP [.lst g l] = (pairsOf l).map fun ps => .lst .o ((sortP ps).map pairD) := rfl
/-! walks of dicts -/
theorem wS_forK {p : Pk} {it : Bool} {g : TgD Om} {b : SD Om} {Q : Out → Ev → Om → Prop} {gt : Tag} {ks : List Int} {ds : List D} (h : pkD en p = some (.dic gt ks ds)) (hg : gt ≠ .o) (hl : ks.length = ds.length)
    (H : wS (forL g b (if it = true then pairsK ks ds else ks.map .int)) (fun o en om => (∀ C fs, o ≠ .rz C fs) ∧ Q o en om) en om) : wS (sForK p it g b) Q en om := by
  obtain ⟨o, e, m, h1, h2, h3⟩ := H
  refine ⟨o, e, m, ?_, h3⟩
  unfold sForK
  rw [h]
  simp only
  rw [if_pos ⟨hg, hl⟩, h1]
  unfold noRz
  cases o <;> first | rfl | exact absurd rfl (h2 _ _)
@[simp] theorem pkD_nm {i} : pkD en (.nm i) = (match en[i]? with | some (some d) => some d | _ => none) := rfl
@[simp] theorem pkD_ix {i a} : pkD en (.ix i a) = (match en[i]? with | some (some d) => (atE en a).bind fun k => ownAt d k | _ => none) := rfl
@[simp] theorem ownAt_l {g l k} : ownAt (.lst g l) k = atI l k := rfl
@[simp] theorem ownAt_t {l k} : ownAt (.tup l) k = atI l k := rfl
/-! while -/
theorem wS_while {c : DT Om} {b : SD Om} {Q : Out → Ev → Om → Prop} (I : Nat → Ev → Om → Prop) (step : ∀ m en om, I m en om → wT c (fun t en om => if t = true then wS b (fun o en om => match o with
      | .nx => ∃ m', m' < m ∧ I m' en om
      | .ct => ∃ m', m' < m ∧ I m' en om
      | .bk => Q .nx en om
      | o => Q o en om) en om else Q .nx en om) en om) : ∀ (n m : Nat) (en : Ev) (om : Om), m < n → I m en om → wS (whileN c b n) Q en om
  | 0, m, en, om, h, _ => by omega
  | n + 1, m, en, om, h, hI => by
    obtain ⟨t, en1, om1, e1, q⟩ := step m en om hI
    unfold wS whileN
    rw [e1]
    simp only [Option.bind_some]
    cases t with
    | false =>
      simp only [Bool.false_eq_true, if_false] at q ⊢
      exact ⟨_, _, _, rfl, q⟩
    | true =>
      simp only [if_true] at q ⊢
      obtain ⟨o, en2, om2, e2, q⟩ := q
      rw [e2]
      simp only [Option.bind_some]
      cases o with
      | nx =>
        obtain ⟨m', hm, hI⟩ := q
        exact wS_while I step n m' en2 om2 (by omega) hI
      | ct =>
        obtain ⟨m', hm, hI⟩ := q
        exact wS_while I step n m' en2 om2 (by omega) hI
      | bk => exact ⟨_, _, _, rfl, q⟩
      | rt d => exact ⟨_, _, _, rfl, q⟩
      | rz C fs => exact ⟨_, _, _, rfl, q⟩
/-! sets -/
theorem wS_withSet {i : Nat} {b2 : Addr → SD (Om × SSt)} {Q : Out → Ev → Om → Prop} {d : D} {om' : Om} (hi : i < en.length) (h : ∀ a, wS (b2 a) (fun o en' m => o = .rt d ∧ en'.length = en.length ∧ m.1 = om') (en.set i (some (.opq a))) (om, (fun _ => false, 0))) (q : Q (.rt d) (List.replicate en.length none) om') : wS (withSet i b2) Q en om := by
  refine ⟨_, _, _, withSet_run (d := d) (om' := om') hi fun a => ?_, q⟩
  obtain ⟨o, e, m, h1, rfl, h2, h3⟩ := h a
  exact ⟨e, m.2, h2, by rw [h1]; subst h3; rfl⟩
end
section
variable {Om : Type} {en : Ev} {om : Om × SSt}
def nsQ (a : Addr) (k : D) (Q : D → Ev → Om × SSt → Prop) (en : Ev) (om : Om × SSt) : Option (Option D) → Prop
  | some (some (.opq b)) => match k with
    | .int k => b = a ∧ Q (.bl (!om.2.1 k)) en om
    | _ => False
  | _ => False
@[simp] theorem nsQ_at {a k b} {Q : D → Ev → Om × SSt → Prop} : nsQ a (.int k) Q en om (some (some (.opq b))) = (b = a ∧ Q (.bl (!om.2.1 k)) en om) := rfl
def kNs (a : Addr) (i : Nat) (Q : D → Ev → Om × SSt → Prop) : D → Ev → Om × SSt → Prop := fun k en om => nsQ a k Q en om en[i]?
@[simp] theorem kNs_at {a i k} {Q : D → Ev → Om × SSt → Prop} : kNs a i Q k en om = nsQ a k Q en om en[i]? := rfl
@[simp] theorem wE_notInS {a i} {f : DE (Om × SSt)} {Q} : wE (dNotInS a i f) Q en om = wE f (kNs a i Q) en om := by
  unfold wE dNotInS
  simp only [ex_map, wO_bind]
  congr 1
  funext ⟨k, e, m⟩
  unfold kNs nsQ
  simp only
  cases h : e[i]? with
  | none => cases k <;> simp
  | some x =>
    cases x with
    | none => cases k <;> simp
    | some d => cases k <;> cases d <;> simp [wO_if]
def kAs (i : Nat) (Q : Out → Ev → Om × SSt → Prop) : D → Ev → Om × SSt → Prop
  | .int k => fun en om => om.2.2 < 1000 ∧ Q .nx en (om.1, ((fun j => om.2.1 j || decide (j = k)), if om.2.1 k = true then om.2.2 else om.2.2 + 1))
  | _ => fun _ _ => False
@[simp] theorem kAs_at {i k} {Q : Out → Ev → Om × SSt → Prop} : kAs i Q (.int k) en om = (om.2.2 < 1000 ∧ Q .nx en (om.1, ((fun j => om.2.1 j || decide (j = k)), if om.2.1 k = true then om.2.2 else om.2.2 + 1))) := rfl
def asQ (a : Addr) (i : Nat) (f : DE (Om × SSt)) (Q : Out → Ev → Om × SSt → Prop) (en : Ev) (om : Om × SSt) : Option (Option D) → Prop
  | some (some (.opq b)) => b = a ∧ wE f (kAs i Q) en om
  | _ => False
@[simp] theorem asQ_at {a i b} {f : DE (Om × SSt)} {Q} : asQ a i f Q en om (some (some (.opq b))) = (b = a ∧ wE f (kAs i Q) en om) := rfl
@[simp] theorem wS_addS {a i} {f : DE (Om × SSt)} {Q} : wS (sAddS a i f) Q en om = asQ a i f Q en om en[i]? := by
  unfold wS sAddS asQ
  cases h : en[i]? with
  | none => simp
  | some x =>
    cases x with
    | none => simp
    | some d =>
      cases d <;> simp only [ex_map, wO_none, wO_if, if_false_right]
      rename_i b
      apply propext
      constructor
      · rintro ⟨h1, h2⟩
        refine ⟨h1, ?_⟩
        unfold wE
        rw [wO_bind] at h2
        simp only [ex_map]
        refine Eq.mp (congrArg (wO _) (funext fun ⟨k, e, m⟩ => ?_)) h2
        cases k <;> simp [kAs, wO_if]
      · rintro ⟨h1, h2⟩
        refine ⟨h1, ?_⟩
        unfold wE at h2
        rw [wO_bind]
        simp only [ex_map] at h2
        refine Eq.mpr (congrArg (wO _) (funext fun ⟨k, e, m⟩ => ?_)) h2
        cases k <;> simp [kAs, wO_if]
end
end DL

/-! DSA: len(x[a]), the lists x's own. -/
namespace DL
open PySem PySem.Spec PyProof.Rows L2
section
variable {Om : Type} {W : Wld Om} {B : AS} {Z : XK} {X : Cx} {en en' en1 : Ev} {om om' om1 : Om} {G G1 H H1 : Hp} {F F1 R : List Addr} {σ σ1 : L2.St} {v w x y : V} {d : D} {Q : VK} {Dn : Ends}
def dLenN2 (i : Nat) (a : At) : DE Om := fun en om => match en[i]? with
  | some (some d) => (atE en a).bind fun ia => (ownAt d ia).bind fun d2 => (cLen [d2]).map fun c => (c, en, om)
  | _ => none
theorem lenN2_use {K K' : PySem.W.Frag} {i : Nat} {a : At} (q : tD W B (dLenN2 i a) σ H Q) : tCB (fun xs H Q => ∃ p ys, xs = [.ref p] ∧ (SqL K H p ys ∨ SqT K H p ys) ∧ Q (.int ys.length) H) (tCons (tOp (rIxA K') (tVar i) (tAt a)) tNil) σ H Q := by
  obtain ⟨en, om, G, F, c, en', om', S, hf, k⟩ := q
  unfold dLenN2 at hf
  split at hf
  · rename_i d hd
    obtain ⟨ia, h1, hf⟩ := bind_some hf
    obtain ⟨d2, h2, hf⟩ := bind_some hf
    obtain ⟨c', h3, hf⟩ := Option.map_eq_some_iff.mp hf
    cases hf
    obtain ⟨v, P, R, T, _, e2, rv⟩ := S.get hd
    refine ⟨v, e2, tAt.use S h1 (ownAt_use S rv h2 fun w T2 r2 => ?_)⟩
    unfold cLen at h3
    split at h3
    · rename_i g l hl
      cases h3
      cases hl
      cases r2 with
      | lstf e n r => exact ⟨_, _, rfl, .inl (.of (S.sub _ _ e)), k _ H G F [] .refl S (.sh (by rw [r.length]; exact .int _))⟩
      | lstb e r => exact ⟨_, _, rfl, .inl (.of (S.sub _ _ e)), k _ H G F [] .refl S (.sh (by rw [r.length]; exact .int _))⟩
      | lsto e r => exact ⟨_, _, rfl, .inl (.of e), k _ H G F [] .refl S (.sh (by rw [r.length]; exact .int _))⟩
    · rename_i l hl
      cases h3
      cases hl
      cases r2 with
      | tup e r => exact ⟨_, _, rfl, .inr (.of (S.sub _ _ e)), k _ H G F [] .refl S (.sh (by rw [r.length]; exact .int _))⟩
    · cases h3
  · cases hf
theorem de_lenN2 (i : Nat) {a : At} {x : Str} {e1 : Expr} {p p2 pos pos1 : Pos} (hu : X.A.units + 1 < cLine) (hm : X.mg "len" = none) (ha : PE X e1 (tAt a)) (hN : X.N[i]? = some x := by rfl) (hv : Vis X.env.scope x := by first | exact Or.inl rfl | exact Or.inr (Or.inl rfl) | exact Or.inr (Or.inr rfl)) (hs1 : PlainIx e1 := by exact fun _ _ => rfl) (hgl : Gl X "len" := by rfl) (hd : (x == ("__debug__" : Str)) = false := by decide)
    (hcd : (x == ("__classdict__" : Str)) = false := by decide) (he : starEach (.Subscript (.Name x p2) e1 pos1 :: []) X.env = (false, eval (.Subscript (.Name x p2) e1 pos1) X.env) :: starEach [] X.env := by rfl) (hpl : (backTo pos (starEach [] X.env)).any (·.1) = false := by rfl) : PE X (.Call (.Name "len" p) [.Subscript (.Name x p2) e1 pos1] [] pos) (tD W B (dLenN2 i a)) :=
  (pe_callB call_len_seq hgl hm PySem.boot_len (pa_cons (pe_ix (ix_all hu) (pe_var hN hv hd hcd) ha hs1) pa_nil he) (by decide) (by decide) he hpl).le fun _ _ _ q => lenN2_use q
end
end DL

/-! DSB: a call whose first argument is a name that keeps what it holds. -/
namespace DL
open PySem PySem.Spec PyProof.Rows L2
section
variable {Om : Type} {W : Wld Om} {B : AS} {Z : XK} {X : Cx} {en en' en1 : Ev} {om om' om1 : Om} {G G1 H H1 : Hp} {F F1 R : List Addr} {σ σ1 : L2.St} {v w x y : V} {d : D} {Q : VK} {Dn : Ends}
def dCallK (i : Nat) (M : DF Om) (fa : DA Om) : DE Om := fun en om => if has en i = true then (fa en om).bind fun p => match p.2.1[i]? with
    | some (some d) => (M (lend d :: lends p.1) p.2.2).map fun q => (q.1, p.2.1, q.2)
    | _ => none
  else none
open Classical in
theorem callK_use {i : Nat} {M : DF Om} {ps : List Str} {fa : DA Om} {E : XK} (hlen : ∀ ts om r, M ts om = some r → ts.length = ps.length) (q : tD W B (dCallK i M fa) σ H Q) : tCall (spF W M ps) [] E (tCons (tVar i) (tDA W B fa)) σ H Q := by
  obtain ⟨en, om, G, F, c, en', om', S, hf, k⟩ := q
  unfold dCallK at hf
  split at hf
  rotate_left
  · cases hf
  rename_i hhas
  obtain ⟨⟨ds, en1, om1⟩, h1, hf⟩ := bind_some hf
  dsimp only at hf
  split at hf
  rotate_left
  · cases hf
  rename_i d hd
  obtain ⟨⟨t, om2⟩, h2, hf2⟩ := Option.map_eq_some_iff.mp hf
  rw [Prod.mk.injEq, Prod.mk.injEq] at hf2
  obtain ⟨rfl, rfl, rfl⟩ := hf2
  obtain ⟨v0, hv0⟩ := S.has hhas
  refine ⟨v0, hv0, ?_⟩
  refine tDA.hold S h1 fun vs0 H1 G1 F1 R1 n1 S1 x1 => ?_
  obtain ⟨v, Pp, Rr, Tt, eF, ev, rv⟩ := S1.get hd
  obtain rfl : v0 = v := by rw [hv0] at ev; cases ev; rfl
  rw [List.append_nil]
  have le1 : Same G1 (cut W H1) := fun a o e => by
    rw [cut_nf fun z => by have := S1.WG a z; rw [e] at this; cases this]
    exact S1.sub a o e
  let Zz : Addr → Prop := fun a => G1 a = none ∧ H1 a ≠ none ∧ ∀ vs, H1 a ≠ some (.tup vs)
  let Bo : AS := fun a => B a ∨ (Zz a ∧ ¬ W.fp a)
  have lens : ∀ ds : List D, (lends ds).length = ds.length := fun ds => by
    induction ds with
    | nil => simp [lends]
    | cons d ds ih => simp [lends, ih]
  refine ⟨Bo, lend d :: lends ds, om1, t, om2, ?_, fun a h => ?_, ?_, S1.wok, h2, fun v H' G' R s1 s2 rel nd own wg nb wk => ?_⟩
  · rw [List.length_cons, x1.rel.length, ← lens, ← List.length_cons (a := lend d)]
    exact hlen _ _ _ h2
  · rcases h with h | ⟨h, w⟩
    · have := S1.BG a h
      intro z
      cases e : G1 a with
      | none => exact this e
      | some o => rw [le1 a o e] at z; cases z
    · rw [cut_nf w]
      exact h.2.1
  · exact Rels.cons0 (Rel.lend' (.of_same le1) (fun a ha => cut_nf (S1.FW a (by rw [eF]; simp [ha]))) rv) (x1.rel.lend' (.of_same le1) fun a ha => cut_nf (x1.own a ha).2.2)
  · let G2 : Hp := fun a => if Zz a then none else G' a
    have g2n : ∀ a, ¬ Zz a → G2 a = G' a := fun a h => if_neg h
    have g2z : ∀ a, Zz a → G2 a = none := fun a h => if_pos h
    have sG : Same G1 G2 := fun a o e => by
      rw [g2n a fun z => by have := z.1; rw [e] at this; cases this]
      exact s1 a o (le1 a o e)
    have keep : ∀ a, H1 a ≠ none → ¬ W.fp a → H' a = H1 a ∧ G' a = H1 a := fun a h w => by
      cases e : H1 a with
      | none => exact absurd e h
      | some o =>
        have := s1 a o (by rw [cut_nf w]; exact e)
        exact ⟨s2 a o this, this⟩
    have new : ∀ a ∈ R, H1 a = none := fun a ha => by
      obtain ⟨o1, o2⟩ := own a ha
      cases e : H1 a with
      | none => rfl
      | some o =>
        have := s1 a o (by rw [cut_nf o2]; exact e)
        rw [o1] at this
        cases this
    have S2 : Rst W B en1 om2 G2 F1 σ H' := by
      refine ⟨fun a o e => ?_, S1.env.mono (.of_same sG) fun a ha => (keep a (S1.fs ha) (S1.FW a ha)).1, S1.nd, fun a ha => ?_, S1.FW, fun a ha => ?_, fun a ha => ?_, wk⟩
      · by_cases z : Zz a
        · rw [g2z a z] at e; cases e
        · rw [g2n a z] at e
          exact s2 a o e
      · refine g2z a ⟨S1.FG a ha, S1.fs ha, ?_⟩
        rcases S1.env.there ha with ⟨vs, e⟩ | ⟨kvs, e⟩
        · rw [e]; exact fun _ z => nomatch z
        · rw [e]; exact fun _ z => nomatch z
      · by_cases z : Zz a
        · exact g2z a z
        · rw [g2n a z]
          exact wg a ha
      · have := S1.BG a ha
        cases e : G1 a with
        | none => exact absurd e this
        | some o => rw [sG a o e]; exact fun z => nomatch z
    refine k v H' G2 F1 R ⟨n1.sub.trans sG, fun a h ht g f w => ?_⟩ S2 ⟨?_, nd, fun a ha => ⟨?_, fun z => S1.fs z (new a ha), (own a ha).2⟩⟩
    · obtain ⟨e1, e2, e3, e4⟩ := n1.frm a h ht g f w
      have ne : H1 a ≠ none := by rw [e1]; exact h
      exact ⟨(keep a ne w).1.trans e1, g2z a ⟨e2, ne, by rw [e1]; exact ht⟩, e3, fun z => ne (new a z)⟩
    · refine rel.nob (fun a vs e => ?_) (fun a o nb' e => ?_) nb
      · by_cases z : Zz a
        · by_cases w : W.fp a
          · rw [wg a w] at e; cases e
          · have := (keep a z.2.1 w).2
            rw [e] at this
            exact absurd this.symm (z.2.2 vs)
        · rw [g2n a z]
          exact e
      · have nz : ¬ Zz a := fun z => nb' (.inr ⟨z, fun w => by rw [wg a w] at e; cases e⟩)
        exact ⟨by rw [g2n a nz]; exact e, fun z => nb' (.inl z)⟩
    · rw [g2n a fun z => z.2.1 (new a ha)]
      exact (own a ha).1
theorem dcallK (i : Nat) {M : DF Om} {j k : Nat} {ps : List Str} {x xi : Str} {p p2 pos : Pos} {es : List Expr} {fa : DA Om} (Df : Def X.prog X.w X.K X.mg X.base W x k ps M) (hr : Room j X.A) (ha : PA X es (tDA W B fa)) (hk : k ≤ j := by decide) (hN : X.N[i]? = some xi := by rfl) (hv : Vis X.env.scope xi := by first | exact Or.inl rfl | exact Or.inr (Or.inl rfl) | exact Or.inr (Or.inr rfl)) (hg : Gl X x := by rfl) (hdb : (x == ("__debug__" : Str)) = false := by decide)
    (hd : (xi == ("__debug__" : Str)) = false := by decide) (hcd : (xi == ("__classdict__" : Str)) = false := by decide)
    (he : starEach (.Name xi p2 :: es) X.env = (false, eval (.Name xi p2) X.env) :: starEach es X.env := by rfl) (hpl : (backTo pos (starEach es X.env)).any (·.1) = false := by rfl) :
    PE X (.Call (.Name x p) (.Name xi p2 :: es) [] pos) (tD W B (dCallK i M fa)) := by
  obtain ⟨f, fd, Fo, hm, hkp, hb⟩ := Df.ex
  exact (pe_call Fo (hr.mono hk) hg hm hkp hb .nil pass0 (pa_cons (pe_var hN hv hd hcd) ha he) hdb he hpl).le fun _ _ _ q => callK_use Df.len q
/-- x = f(..)[c], f one that may raise -/
def sSetXI (i : Nat) (M : DX Om) (fa : DA Om) (c : Int) : SD Om := callS M fa fun d en om => (oIx (frz d) (.int c)).bind fun v => (gN i v en om).map fun q => (.nx, q.1, q.2)
theorem ds_setXI (i : Nat) {M : DX Om} {j k : Nat} {ps : List Str} {x : Str} {p pos spos pix pc : Pos} {e : Expr} {es : List Expr} {fa : DA Om} {y : Str} {py : Pos} {c : Int} {jc : Tok} (Df : DefX X.prog X.w X.K X.mg X.base W x k ps M) (tk : Tk X Z) (hr : Room j X.A) (hN : X.N.Nodup) (hu : X.A.units + 1 < cLine) (ha : PA X (e :: es) (tDA W B fa)) (hi : X.N[i]? = some y := by rfl) (hx : Loc X.env.scope y := by first | exact .inl rfl | exact .inr rfl)
    (hs : swapsWith (.Subscript (.Call (.Name x p) (e :: es) [] pos) (.Constant (.int c) jc pc) pix) (some (.Name y py)) spos.line X.env = pure false := by rfl) (hf : X.fn y = true ∨ X.env.scope.names.lookup y = some .local := by first | exact .inl rfl | exact .inr rfl | assumption) (hk : k ≤ j := by decide) (hg : Gl X x := by rfl) (hdb : (x == ("__debug__" : Str)) = false := by decide)
    (he : starEach (e :: es) X.env = (false, eval e X.env) :: starEach es X.env := by rfl) (hpl : (backTo pos (starEach es X.env)).any (·.1) = false := by rfl) :
    PS X (.Assign [.Name y py] (.Subscript (.Call (.Name x p) (e :: es) [] pos) (.Constant (.int c) jc pc) pix) spos) (tS W B Z (sSetXI i M fa c)) := (ps_set hN hi hx (pe_ix (ix_all hu) (pcallX Df tk hr ha hk hg hdb he hpl) pe_int (fun _ _ => rfl)) hs hf).le fun Dn σ H q => by
  obtain ⟨en, om, G, F, o, en', om', S, hf, k⟩ := q
  obtain ⟨⟨ds, en1, om1⟩, h1, hf⟩ := bind_some hf
  obtain ⟨⟨r, om2⟩, h2, hf⟩ := bind_some hf
  refine callX_use Df.len S h1 h2 ?_
  cases r with
  | inl t =>
    obtain ⟨v, hv, hf⟩ := bind_some hf
    obtain ⟨⟨en3, om3⟩, h3, hf⟩ := Option.map_eq_some_iff.mp hf
    cases hf
    refine fun w H' G' F' R n S' x => ?_
    obtain ⟨S2, r2, kn⟩ := S'.share x
    refine s2_ix S2 r2 (.int c) hv fun u H3 G3 R3 n3 S3 x3 => ?_
    unfold gN at h3
    split at h3
    · rename_i hl
      cases h3
      obtain ⟨F2, S4, _, kn4⟩ := S3.take x3 hl
      exact k _ _ _ _ (kn4 ((kn n).trans n3)) S4
    · cases h3
  | inr e =>
    cases hf
    exact fun H' G' F' o n S' x => k σ H' G' F' o n S' x
end
end DL

/-! DM6: own lists of own lists, run forward. -/
namespace DL
open PySem PySem.Spec PyProof.Rows L2
section
variable {Om : Type} {en : Ev} {om : Om}
def ln2Q (ia : Option Int) (Q : D → Ev → Om → Prop) (en : Ev) (om : Om) : Option (Option D) → Prop
  | some (some d) => wO ia fun ia => wO (ownAt d ia) fun d2 => wO (cLen [d2]) fun c => Q c en om
  | _ => False
@[simp] theorem ln2Q_at {ia} {Q : D → Ev → Om → Prop} {d} : ln2Q ia Q en om (some (some d)) = wO ia fun ia => wO (ownAt d ia) fun d2 => wO (cLen [d2]) fun c => Q c en om := rfl
@[simp] theorem wE_lenN2 {i a} {Q} : wE (dLenN2 i a : DE Om) Q en om = ln2Q (atE en a) Q en om en[i]? := by
  unfold wE dLenN2 ln2Q
  cases h : en[i]? with
  | none => simp
  | some x => cases x <;> simp only [ex_map, wO_map, wO_none, wO_bind]
def ix2Q (ia ib : Option Int) (Q : D → Ev → Om → Prop) (en : Ev) (om : Om) : Option (Option D) → Prop
  | some (some d) => wO ia fun ia => wO (ownAt d ia) fun d2 => wO ib fun ib => wO (oIx d2 (.int ib)) fun c => noO c = true ∧ Q c en om
  | _ => False
@[simp] theorem ix2Q_at {ia ib} {Q : D → Ev → Om → Prop} {d} : ix2Q ia ib Q en om (some (some d)) = wO ia fun ia => wO (ownAt d ia) fun d2 => wO ib fun ib => wO (oIx d2 (.int ib)) fun c => noO c = true ∧ Q c en om := rfl
@[simp] theorem wE_ixN2 {i a b} {Q} : wE (dIxN2 i a b : DE Om) Q en om = ix2Q (atE en a) (atE en b) Q en om en[i]? := by
  unfold wE dIxN2 ix2Q
  cases h : en[i]? with
  | none => simp
  | some x => cases x <;> simp only [ex_map, wO_bind, wO_if, wO_none, wO_some, if_false_right]
def set2Q (i : Nat) (ia ib : Option Int) (v : D) (Q : Out → Ev → Om → Prop) (en : Ev) (om : Om) : Option (Option D) → Prop
  | some (some (.lst .o l)) => wO ia fun ia => wO (ixN l.length ia) fun ja => match l.getD ja .non with
    | .lst .o l2 => wO ib fun ib => wO (ixN l2.length ib) fun jb => (noOs l2 = true ∧ noO v = true) ∧ Q .nx (en.set i (some (.lst .o (l.set ja (.lst .o (l2.set jb v)))))) om
    | _ => False
  | _ => False
def kSet22 (i : Nat) (a b : At) (Q : Out → Ev → Om → Prop) : D → Ev → Om → Prop := fun v en om => set2Q i (atE en a) (atE en b) v Q en om en[i]?
@[simp] theorem kSet22_at {i a b v} {Q : Out → Ev → Om → Prop} : kSet22 i a b Q v en om = set2Q i (atE en a) (atE en b) v Q en om en[i]? := rfl
@[simp] theorem wS_setIx2 {i} {f : DE Om} {a b} {Q} : wS (sSetIx2 i f a b) Q en om = wE f (kSet22 i a b Q) en om := by
  unfold wS sSetIx2 wE
  simp only [ex_map, wO_bind]
  congr 1
  funext ⟨v, e, m⟩
  unfold kSet22 set2Q
  simp only
  cases h : e[i]? with
  | none => simp
  | some x =>
    cases x with
    | none => simp
    | some d =>
      cases d <;> simp
      rename_i t l
      cases t <;> simp [wO_bind]
      apply iff_of_eq
      congr 1
      funext ia
      congr 1
      funext ja
      cases hj : l[ja]?.getD .non <;> simp
      rename_i t l2
      cases t <;> simp [wO_bind, wO_if]
/-- a list of own rows -/
def mD (t t' : Tag) (gl : List (List (Option Int))) : D := .lst t (gl.map fun r => .lst t' (dOp r))
theorem mD_at {t t' : Tag} {gl : List (List (Option Int))} {i : Nat} {r : List (Option Int)} (h : gl[i]? = some r) : ownAt (mD t t' gl) (i : Int) = some (.lst t' (dOp r)) := by
  refine atI_natD ?_
  rw [List.getElem?_map, h]; rfl
theorem set2_m {i r j : Nat} {gl : List (List (Option Int))} {row : List (Option Int)} {x : Option Int} {Q : Out → Ev → Om → Prop} (hr : gl[r]? = some row) (hj : j < row.length) : set2Q i (some (r : Int)) (some (j : Int)) (oD x) Q en om (some (some (mD .o .o gl))) = Q .nx (en.set i (some (mD .o .o (gl.set r (row.set j x))))) om := by
  have hrl := (List.getElem?_eq_some_iff.mp hr).1
  have e2 : (gl.map fun r => D.lst .o (dOp r)).getD r .non = .lst .o (dOp row) := by
    rw [List.getD_eq_getElem?_getD, List.getElem?_map, hr]; rfl
  unfold mD set2Q
  simp only [wO_some]
  rw [List.length_map, ixN_nat hrl, wO_some, e2]
  simp only [wO_some]
  rw [ixN_nat (by simpa [dOp] using hj), wO_some]
  have e3 : noO (oD x) = true := by cases x <;> simp [oD]
  rw [eq_true (show noOs (dOp row) = true ∧ noO (oD x) = true from ⟨by simp, e3⟩), true_and]
  have e4 : (gl.map fun r => D.lst .o (dOp r)).set r (.lst .o ((dOp row).set j (oD x))) = (gl.set r (row.set j x)).map fun r => D.lst .o (dOp r) := by
    simp [List.map_set, dOp]
  rw [e4]
def ckQ (M : DF Om) (ds : List D) (Q : D → Ev → Om → Prop) (en : Ev) (om : Om) : Option (Option D) → Prop
  | some (some d) => wM M (lend d :: lends ds) (fun c om => Q c en om) om
  | _ => False
@[simp] theorem ckQ_at {M : DF Om} {ds d} {Q : D → Ev → Om → Prop} : ckQ M ds Q en om (some (some d)) = wM M (lend d :: lends ds) (fun c om => Q c en om) om := rfl
def kCK (i : Nat) (M : DF Om) (Q : D → Ev → Om → Prop) : List D → Ev → Om → Prop := fun ds en om => ckQ M ds Q en om en[i]?
@[simp] theorem kCK_at {i} {M : DF Om} {ds} {Q : D → Ev → Om → Prop} : kCK i M Q ds en om = ckQ M ds Q en om en[i]? := rfl
@[simp] theorem wE_callK {i} {M : DF Om} {fa : DA Om} {Q} : wE (dCallK i M fa) Q en om = (has en i = true ∧ wA fa (kCK i M Q) en om) := by
  unfold wE dCallK wA
  simp only [ex_map, wO_if, wO_none, if_false_right, wO_bind]
  congr 1
  congr 1
  funext ⟨ds, e, m⟩
  unfold kCK ckQ wM
  simp only
  cases h : e[i]? with
  | none => simp
  | some x => cases x <;> simp only [ex_map, ex_map2, wO_map, wO_none]
def kCXr (Q : D → Ev → Om → Prop) (en : Ev) : Res → Om → Prop
  | .inl t, om => Q t en om
  | .inr _, _ => False
@[simp] theorem kCXr_l {Q : D → Ev → Om → Prop} {t} : kCXr Q en (.inl t) om = Q t en om := rfl
def kCallX (M : DX Om) (Q : D → Ev → Om → Prop) : List D → Ev → Om → Prop := fun ds en om => wX M (lends ds) (kCXr Q en) om
@[simp] theorem kCallX_at {M : DX Om} {Q : D → Ev → Om → Prop} {ds} : kCallX M Q ds en om = wX M (lends ds) (kCXr Q en) om := rfl
@[simp] theorem wE_callX {M : DX Om} {f : DA Om} {Q} : wE (dCallX M f) Q en om = wA f (kCallX M Q) en om := by
  unfold wE wA dCallX kCallX wX
  simp only [ex_map, ex_map2, wO_bind]
  congr 1
  funext ⟨ds, e, m⟩
  simp only
  congr 1
  funext ⟨r, m2⟩
  cases r <;> simp only [kCXr, wO_some, wO_none]
@[simp] theorem wS_setXI {i} {M : DX Om} {f : DA Om} {c : Int} {Q} : wS (sSetXI i M f c) Q en om = wA f (kCallS M (fun d en om => (oIx (frz d) (.int c)).bind fun v => (gN i v en om).map fun q => (.nx, q.1, q.2)) Q) en om := wS_callS
@[simp] theorem wS_gXI {i} {d : D} {c : Int} {Q} : wS (fun en om => (oIx (frz d) (.int c)).bind fun v => (gN i v en om).map fun q => (Out.nx, q.1, q.2) : SD Om) Q en om = wO (oIx (frz d) (.int c)) fun v => wG (gN i) v (fun en om => Q .nx en om) en om := by simp only [wS, wG, ex_map, ex_map2, wO_bind, wO_map]
end
end DL

/-! DM7: what a call comes out as, run forward. -/
namespace DL
open PySem PySem.Spec PyProof.Rows L2
section
variable {Om : Type} {om : Om}
def outQ (out : Addr → List (Str × V) → Option D) (Q : D → Ev → Om → Prop) (en : Ev) : Res → Om → Prop
  | .inl t => fun om => Q t en om
  | .inr e => fun om => wO (out e.1 e.2) fun d => Q d en om
@[simp] theorem outQ_l {out : Addr → List (Str × V) → Option D} {Q : D → Ev → Om → Prop} {en t} : outQ out Q en (.inl t) om = Q t en om := rfl
@[simp] theorem outQ_r {out : Addr → List (Str × V) → Option D} {Q : D → Ev → Om → Prop} {en e} : outQ out Q en (.inr e) om = wO (out e.1 e.2) fun d => Q d en om := rfl
def kOut (M : DX Om) (out : Addr → List (Str × V) → Option D) (Q : D → Ev → Om → Prop) : List D → Ev → Om → Prop := fun ds en om => wX M (lends ds) (outQ out Q en) om
@[simp] theorem kOut_at {M : DX Om} {out : Addr → List (Str × V) → Option D} {Q : D → Ev → Om → Prop} {ds en} : kOut M out Q ds en om = wX M (lends ds) (outQ out Q en) om := rfl
@[simp] theorem wE_out {M : DX Om} {out : Addr → List (Str × V) → Option D} {fa : DA Om} {Q : D → Ev → Om → Prop} {en} : wE (dOut M out fa) Q en om = wA fa (kOut M out Q) en om := by
  unfold wE wA dOut kOut wX
  simp only [ex_map, ex_map2, wO_bind]
  congr 1
  funext p
  congr 1
  funext ⟨r, m⟩
  cases r with
  | inl t => simp only [wO_some, outQ]
  | inr e => simp only [wO_map, outQ]
end
end DL

/-! DSn: another draw state as the world: a seed, a list of its own, a place. -/
namespace DL
open PySem PySem.Spec PyProof.Rows L2 LamX
abbrev DSh := Int × List Int × Int
abbrev hL (bA : Addr) (m : DSh) : HO := .lst [.int m.1, .ref bA, .int m.2.2]
abbrev hB (l : List Int) : HO := .lst (l.map V.int)
def WH (hA bA : Addr) : Wld DSh where
  ok := fun m H => bA ≠ hA ∧ H hA = some (hL bA m) ∧ H bA = some (hB m.2.1)
  fp := fun a => a = hA ∨ a = bA
  here := fun m H a h f => by
    rcases f with rfl | rfl
    · rw [h.2.1]; exact fun z => nomatch z
    · rw [h.2.2]; exact fun z => nomatch z
  loc := fun m H H' h1 h2 h => ⟨h.1, (h1 _ (.inl rfl)).trans h.2.1, (h1 _ (.inr rfl)).trans h.2.2⟩
structure HistW (W : Wld DSh) (hA bA : Addr) : Prop where
  fpH : W.fp hA
  fpB : W.fp bA
  atH : ∀ m H, W.ok m H → H hA = some (hL bA m)
  atB : ∀ m H, W.ok m H → H bA = some (hB m.2.1)
  putH : ∀ m m' H, W.ok m H → m'.2.1 = m.2.1 → W.ok m' (upd H hA (hL bA m'))
  putB : ∀ m l H, W.ok m H → W.ok (m.1, l, m.2.2) (upd H bA (hB l))
theorem histWH {hA bA : Addr} : HistW (WH hA bA) hA bA where
  fpH := .inl rfl
  fpB := .inr rfl
  atH := fun m H k => k.2.1
  atB := fun m H k => k.2.2
  putH := fun m m' H k e => ⟨k.1, upd_same, by rw [upd_ne k.1, e]; exact k.2.2⟩
  putB := fun m l H k => ⟨k.1, by rw [upd_ne (Ne.symm k.1)]; exact k.2.1, upd_same⟩
section
variable {W : Wld DSh} {B : AS} {Z : XK} {X : Cx} {en : Ev} {om om' : DSh} {G H : Hp} {F : List Addr} {σ : L2.St} {hA bA : Addr}
theorem Rst.hist {a : Addr} {o : HO} (fa : W.fp a) (S : Rst W B en om G F σ H) (hok : W.ok om' (upd H a o)) : Rst W B en om' G F σ (upd H a o) ∧ ∀ {G0 F0 H0 R}, Nx W G0 F0 H0 G F H R → Nx W G0 F0 H0 G F (upd H a o) R := by
  have g0 : G a = none := S.WG a fa
  refine ⟨⟨fun b o e => by rw [upd_ne fun z => by rw [z, g0] at e; cases e]; exact S.sub b o e, S.env.mono (.refl _ _) fun b hb => upd_ne fun z => S.FW b hb (z ▸ fa), S.nd, S.FG, S.FW, S.WG, S.BG, hok⟩, fun n => ⟨n.sub, fun b h ht g f w => ?_⟩⟩
  obtain ⟨e1, e2, e3, e4⟩ := n.frm b h ht g f w
  exact ⟨by rw [upd_ne fun z => w (by rw [z]; exact fa)]; exact e1, e2, e3, e4⟩
def hGet (bA : Addr) (m : DSh) : Nat → Option D
  | 0 => some (.int m.1)
  | 1 => some (.opq bA)
  | 2 => some (.int m.2.2)
  | _ => none
def hSet (m : DSh) (n : Int) : Nat → Option DSh
  | 0 => some (n, m.2.1, m.2.2)
  | 2 => some (m.1, m.2.1, n)
  | _ => none
/-- h[j] -/
def dHt (hA bA : Addr) (i j : Nat) : DE DSh := fun en om => match en[i]? with
  | some (some (.opq a)) => if a = hA then (hGet bA om j).map fun d => (d, en, om) else none
  | _ => none
theorem de_ht (Dw : HistW W hA bA) (i j : Nat) {x : Str} {p cp pos : Pos} {jj : Nat} (hN : X.N[i]? = some x := by rfl) (hv : Vis X.env.scope x := by first | exact Or.inl rfl | exact Or.inr (Or.inl rfl) | exact Or.inr (Or.inr rfl)) (hd : (x == ("__debug__" : Str)) = false := by decide) (hcd : (x == ("__classdict__" : Str)) = false := by decide) :
    PE X (.Subscript (.Name x p) (.Constant (.int (j : Nat)) jj cp) pos) (tD W B (dHt hA bA i j)) := (pe_ix ix_list (pe_var hN hv hd hcd) pe_int (by exact fun _ _ => rfl)).le fun σ H Q q => by
  obtain ⟨en, om, G, F, c, en', om', S, hf, k⟩ := q
  unfold dHt at hf
  split at hf
  · rename_i a ha
    by_cases ea : a = hA
    · rw [if_pos ea] at hf
      subst ea
      obtain ⟨d, hd2, hf⟩ := Option.map_eq_some_iff.mp hf
      cases hf
      obtain ⟨v, _, _, _, _, e, r⟩ := S.get ha
      cases r
      have hs := SqL.of (K := X.K) (Dw.atH _ _ S.wok)
      match j, hd2 with
      | 0, hd2 => cases hd2; exact ⟨_, e, a, _, _, .int om.1, rfl, rfl, hs, atI_nat rfl, k _ H G F [] .refl S (.sh (.int _))⟩
      | 1, hd2 => cases hd2; exact ⟨_, e, a, _, _, .ref bA, rfl, rfl, hs, atI_nat rfl, k _ H G F [] .refl S (.sh (.opq _))⟩
      | 2, hd2 => cases hd2; exact ⟨_, e, a, _, _, .int om.2.2, rfl, rfl, hs, atI_nat rfl, k _ H G F [] .refl S (.sh (.int _))⟩
      | n + 3, hd2 => cases hd2
    · rw [if_neg ea] at hf
      cases hf
  · cases hf
/-- len(h[1]) -/
def dLenH (bA : Addr) (f : DE DSh) : DE DSh := fun en om => (f en om).bind fun p => match p.1 with
  | .opq a => if a = bA then some (.int (p.2.2.2.1.length : Nat), p.2.1, p.2.2) else none
  | _ => none
theorem de_lenH (Dw : HistW W hA bA) {e : Expr} {p pos : Pos} {f : DE DSh} (he : PE X e (tD W B f)) (hm : X.mg "len" = none := by rfl) (hg : Gl X "len" := by rfl) (hst : starEach [e] X.env = (false, eval e X.env) :: starEach [] X.env := by rfl) (hpl : (backTo pos (starEach [] X.env)).any (·.1) = false := by rfl) :
    PE X (.Call (.Name "len" p) [e] [] pos) (tD W B (dLenH bA f)) := (pe_callB call_len_seq hg hm PySem.boot_len (pa_cons he pa_nil hst) (by decide) (by decide) hst hpl).le fun σ H Q q => by
  obtain ⟨en, om, G, F, c, en', om', S, hf, k⟩ := q
  obtain ⟨⟨d, en1, om1⟩, h1, h2⟩ := bind_some hf
  clear hf
  cases d <;> dsimp only at h2 <;> first | (cases h2; done) | skip
  rename_i a
  by_cases ea : a = bA
  · rw [if_pos ea] at h2
    subst ea
    cases h2
    refine tD.hold S h1 fun x H1 G1 F1 R1 n1 S1 x1 => ?_
    obtain ⟨rel, _, _⟩ := x1
    cases rel
    refine ⟨a, _, rfl, .inl (.of (Dw.atB _ _ S1.wok)), ?_⟩
    rw [List.length_map]
    exact k _ H1 G1 F1 [] n1 S1 (.sh (.int _))
  · rw [if_neg ea] at h2
    cases h2
/-- h[j] = e -/
def sHSet (hA : Addr) (i j : Nat) (f : DE DSh) : SD DSh := fun en om => (f en om).bind fun p => match p.1 with
  | .int n => (match p.2.1[i]? with
    | some (some (.opq a)) => if a = hA then (hSet p.2.2 n j).map fun m => (.nx, p.2.1, m) else none
    | _ => none)
  | _ => none
theorem de_hSet (Dw : HistW W hA bA) (i j : Nat) {x : Str} {e : Expr} {p cp spos pos : Pos} {jj : Nat} {f : DE DSh} (he : PE X e (tD W B f)) (hN : X.N[i]? = some x := by rfl) (hv : Vis X.env.scope x := by first | exact Or.inl rfl | exact Or.inr (Or.inl rfl) | exact Or.inr (Or.inr rfl)) (hd : (x == ("__debug__" : Str)) = false := by decide) (hcd : (x == ("__classdict__" : Str)) = false := by decide)
    (ha : ∀ v, assign (.Subscript (.Name x p) (.Constant (.int (j : Nat)) jj cp) spos) X.env v = (do
      let ov ← holding [v] (eval (.Name x p) X.env)
      let iv ← holding [v, ov] (eval (.Constant (.int (j : Nat)) jj cp) X.env)
      standAt spos
      (holding [v, ov, iv] (setItem ov iv v) >>= fun _ => release [v, ov, iv] [])) := by intro _; rfl) (hs : swapsWithSole [.Subscript (.Name x p) (.Constant (.int (j : Nat)) jj cp) spos] e pos.line X.env = pure false := by rfl) (hw : swappedStores [.Subscript (.Name x p) (.Constant (.int (j : Nat)) jj cp) spos] e X.env = pure none := by rfl)
    (h1 : (assignEach [.Subscript (.Name x p) (.Constant (.int (j : Nat)) jj cp) spos] X.env).map (·.2) = [assign (.Subscript (.Name x p) (.Constant (.int (j : Nat)) jj cp) spos) X.env] := by rfl) :
    PS X (.Assign [.Subscript (.Name x p) (.Constant (.int (j : Nat)) jj cp) spos] e pos) (tS W B Z (sHSet hA i j f)) := (ps_asg he (pg_sub (pe_var hN hv hd hcd) pe_int set_list ha) hs hw h1).le fun Dn σ H q => by
  obtain ⟨en, om, G, F, o, en', om', S, hf, k⟩ := q
  obtain ⟨⟨d, en1, om1⟩, h1, h2⟩ := bind_some hf
  clear hf
  cases d <;> dsimp only at h2 <;> first | (cases h2; done) | skip
  rename_i n
  split at h2
  · rename_i a ha2
    by_cases ea : a = hA
    · rw [if_pos ea] at h2
      subst ea
      obtain ⟨m, hm, h2⟩ := Option.map_eq_some_iff.mp h2
      cases h2
      refine tD.hold S h1 fun v H1 G1 F1 R1 n1 S1 x1 => ?_
      obtain ⟨rel, _, _⟩ := x1
      cases rel
      obtain ⟨w, _, _, _, _, e, r⟩ := S1.get ha2
      cases r
      have hat := Dw.atH _ _ S1.wok
      have fin : ∀ (jn : Nat), om'.2.1 = om1.2.1 → ixN 3 ((j : Nat) : Int) = some jn → ([V.int om1.1, .ref bA, .int om1.2.2].set jn (.int n)) = [V.int om'.1, .ref bA, .int om'.2.2] → ∃ v, σ[i]? = some (some v) ∧ rSetL v (.int (j : Nat)) (.int n) H1 fun H3 => Dn.nx σ H3 := fun jn hq h5 h6 => by
        obtain ⟨S2, n2⟩ := S1.hist (om' := om') Dw.fpH (Dw.putH _ _ _ S1.wok hq)
        refine ⟨_, e, a, _, _, jn, rfl, rfl, hat, h5, ?_⟩
        rw [h6]
        exact k σ _ G1 F1 (n2 n1.drop) S2
      match j, hm with
      | 0, hm => cases hm; exact fin 0 rfl rfl rfl
      | 2, hm => cases hm; exact fin 2 rfl rfl rfl
      | 1, hm => cases hm
      | n + 3, hm => cases hm
    · rw [if_neg ea] at h2
      cases h2
  · cases h2
theorem rels_ints : ∀ (l : List Int), Rels B G H [] (l.map V.int) (l.map D.int)
  | [] => .nil
  | i :: l => Rels.cons0 (.int i) (rels_ints l)
/-- h[1] + xs -/
def dHAdd (bA : Addr) (f g : DE DSh) : DE DSh := fun en om => (f en om).bind fun p => match p.1 with
  | .opq a => if a = bA then (g p.2.1 p.2.2).bind fun q => match frz q.1 with
    | .lst _ ys => if sz (q.2.2.2.1.length + ys.length) = true then some (.lst .o (q.2.2.2.1.map D.int ++ ys), q.2.1, q.2.2) else none
    | _ => none
    else none
  | _ => none
theorem de_hAdd (Dw : HistW W hA bA) {a b : Expr} {pos : Pos} {f g : DE DSh} (ha : PE X a (tD W B f)) (hb : PE X b (tD W B g)) : PE X (.BinOp a .Add b pos) (tD W B (dHAdd bA f g)) := (pe_op or_add ha hb).le fun σ H Q q => by
  obtain ⟨en, om, G, F, c, en', om', S, hf, k⟩ := q
  obtain ⟨⟨d, en1, om1⟩, h1, h2⟩ := bind_some hf
  clear hf
  cases d <;> dsimp only at h2 <;> first | (cases h2; done) | skip
  rename_i r
  by_cases ea : r = bA
  · rw [if_pos ea] at h2
    subst ea
    obtain ⟨⟨d2, en2, om2⟩, h3, h4⟩ := bind_some h2
    clear h2
    dsimp only at h4
    split at h4
    · rename_i t ys hy
      split at h4
      · rename_i hz
        cases h4
        refine tD.hold S h1 fun x H1 G1 F1 R1 n1 S1 x1 => tD.use S1 h3 fun y H2 G2 F2 n2 S2 r2 => ?_
        obtain ⟨rel, _, _⟩ := x1
        cases rel
        rw [hy] at r2
        obtain ⟨q, ws, rfl, g2, r3⟩ := r2.asL
        have hz' := sz_le hz
        rw [← r3.length] at hz'
        refine .inr (.inl ⟨r, q, _, ws, rfl, rfl, Dw.atB _ _ S2.wok, S2.sub _ _ g2, by rw [List.length_map]; exact hz', fun u hu => ?_⟩)
        obtain ⟨n, S', hh⟩ := S2.lnew hu ((rels_ints _).append0 r3)
        exact k _ _ _ _ _ ((n1.trans n2).trans n) S' hh
      · cases h4
    · cases h4
  · rw [if_neg ea] at h2
    cases h2
/-- h[1][e] = v -/
def sHPut (hA : Addr) (i : Nat) (f g : DE DSh) : SD DSh := fun en om => (f en om).bind fun p => match p.1 with
  | .int n => (match p.2.1[i]? with
    | some (some (.opq a)) => if a = hA then (g p.2.1 p.2.2).bind fun q => match q.1 with
      | .int k => (ixN q.2.2.2.1.length k).bind fun jk => some (.nx, q.2.1, (q.2.2.1, q.2.2.2.1.set jk n, q.2.2.2.2))
      | _ => none
      else none
    | _ => none)
  | _ => none
theorem de_hPut (Dw : HistW W hA bA) (i : Nat) {x : Str} {e e2 : Expr} {p cp spos pos pos1 : Pos} {jj : Nat} {f g : DE DSh} (he : PE X e (tD W B f)) (hb : PE X e2 (tD W B g)) (hN : X.N[i]? = some x := by rfl) (hv : Vis X.env.scope x := by first | exact Or.inl rfl | exact Or.inr (Or.inl rfl) | exact Or.inr (Or.inr rfl)) (hd : (x == ("__debug__" : Str)) = false := by decide) (hcd : (x == ("__classdict__" : Str)) = false := by decide)
    (has : ∀ v, assign (.Subscript (.Subscript (.Name x p) (.Constant (.int 1) jj cp) pos1) e2 spos) X.env v = (do
      let ov ← holding [v] (eval (.Subscript (.Name x p) (.Constant (.int 1) jj cp) pos1) X.env)
      let iv ← holding [v, ov] (eval e2 X.env)
      standAt spos
      holding [v, ov, iv] (setItem ov iv v)
      release [v, ov, iv] []) := by intro _; rfl) (hs : swapsWithSole [.Subscript (.Subscript (.Name x p) (.Constant (.int 1) jj cp) pos1) e2 spos] e pos.line X.env = pure false := by rfl) (hw : swappedStores [.Subscript (.Subscript (.Name x p) (.Constant (.int 1) jj cp) pos1) e2 spos] e X.env = pure none := by rfl)
    (h1 : (assignEach [.Subscript (.Subscript (.Name x p) (.Constant (.int 1) jj cp) pos1) e2 spos] X.env).map (·.2) = [assign (.Subscript (.Subscript (.Name x p) (.Constant (.int 1) jj cp) pos1) e2 spos) X.env] := by rfl) :
    PS X (.Assign [.Subscript (.Subscript (.Name x p) (.Constant (.int 1) jj cp) pos1) e2 spos] e pos) (tS W B Z (sHPut hA i f g)) := (ps_asg he (pg_sub (pe_ix ix_list (pe_var hN hv hd hcd) pe_int (by exact fun _ _ => rfl)) hb set_list has) hs hw h1).le fun Dn σ H q => by
  obtain ⟨en, om, G, F, o, en', om', S, hf, k⟩ := q
  obtain ⟨⟨d, en1, om1⟩, h1, h2⟩ := bind_some hf
  clear hf
  cases d <;> dsimp only at h2 <;> first | (cases h2; done) | skip
  rename_i n
  split at h2
  · rename_i a ha2
    by_cases ea : a = hA
    · rw [if_pos ea] at h2
      subst ea
      obtain ⟨⟨d2, en2, om2⟩, h3, h4⟩ := bind_some h2
      clear h2
      cases d2 <;> dsimp only at h4 <;> first | (cases h4; done) | skip
      rename_i kk
      obtain ⟨jk, h5, h4⟩ := bind_some h4
      cases h4
      refine tD.hold S h1 fun v H1 G1 F1 R1 n1 S1 x1 => ?_
      obtain ⟨rel, _, _⟩ := x1
      cases rel
      obtain ⟨w, _, _, _, _, e, r⟩ := S1.get ha2
      cases r
      refine ⟨_, e, a, _, _, .ref bA, rfl, rfl, SqL.of (K := X.K) (Dw.atH _ _ S1.wok), atI_nat rfl, ?_⟩
      refine tD.hold S1 h3 fun y H2 G2 F2 R2 n2 S2 x2 => ?_
      obtain ⟨rel2, _, _⟩ := x2
      cases rel2
      obtain ⟨S3, n3⟩ := S2.hist (om' := (om2.1, om2.2.1.set jk n, om2.2.2)) Dw.fpB (Dw.putB _ _ _ S2.wok)
      refine ⟨bA, _, kk, jk, rfl, rfl, Dw.atB _ _ S2.wok, by rw [List.length_map]; exact h5, ?_⟩
      rw [show (om2.2.1.map V.int).set jk (.int n) = (om2.2.1.set jk n).map V.int by rw [List.map_set]]
      exact k σ _ G2 F2 (n3 (n1.drop.trans n2.drop)) S3
    · rw [if_neg ea] at h2
      cases h2
  · cases h2
end
end DL

/-! DM8: the other draws, run forward. -/
namespace DL
open PySem PySem.Spec PyProof.Rows L2
section
variable {en : Ev} {om : DSh} {hA bA : Addr}
def htQ (hA bA : Addr) (j : Nat) (Q : D → Ev → DSh → Prop) (en : Ev) (om : DSh) : Option (Option D) → Prop
  | some (some (.opq a)) => a = hA ∧ wO (hGet bA om j) fun d => Q d en om
  | _ => False
@[simp] theorem htQ_at {j a} {Q : D → Ev → DSh → Prop} : htQ hA bA j Q en om (some (some (.opq a))) = (a = hA ∧ wO (hGet bA om j) fun d => Q d en om) := rfl
@[simp] theorem hGet_0 {m : DSh} : hGet bA m 0 = some (.int m.1) := rfl
@[simp] theorem hGet_1 {m : DSh} : hGet bA m 1 = some (.opq bA) := rfl
@[simp] theorem hGet_2 {m : DSh} : hGet bA m 2 = some (.int m.2.2) := rfl
@[simp] theorem hSet_0 {m : DSh} {n} : hSet m n 0 = some (n, m.2.1, m.2.2) := rfl
@[simp] theorem hSet_2 {m : DSh} {n} : hSet m n 2 = some (m.1, m.2.1, n) := rfl
@[simp] theorem wE_ht {i j} {Q} : wE (dHt hA bA i j) Q en om = htQ hA bA j Q en om en[i]? := by
  unfold wE dHt htQ
  cases h : en[i]? with
  | none => simp
  | some x =>
    cases x with
    | none => simp
    | some d => cases d <;> simp only [ex_map, wO_none, wO_if, wO_map, if_false_right]
def lenHQ (bA : Addr) (Q : D → Ev → DSh → Prop) (en : Ev) (om : DSh) : D → Prop
  | .opq a => a = bA ∧ Q (.int (om.2.1.length : Nat)) en om
  | _ => False
@[simp] theorem lenHQ_at {a} {Q : D → Ev → DSh → Prop} : lenHQ bA Q en om (.opq a) = (a = bA ∧ Q (.int (om.2.1.length : Nat)) en om) := rfl
def kLenH (bA : Addr) (Q : D → Ev → DSh → Prop) : D → Ev → DSh → Prop := fun d en om => lenHQ bA Q en om d
@[simp] theorem kLenH_at {d} {Q : D → Ev → DSh → Prop} : kLenH bA Q d en om = lenHQ bA Q en om d := rfl
@[simp] theorem wE_lenH {f} {Q} : wE (dLenH bA f) Q en om = wE f (kLenH bA Q) en om := by
  unfold wE dLenH
  simp only [ex_map, wO_bind]
  congr 1
  funext ⟨d, e, m⟩
  unfold kLenH lenHQ
  cases d <;> simp [wO_if]
def addHQ (Q : D → Ev → DSh → Prop) (en : Ev) (om : DSh) : D → Prop
  | .lst _ ys => sz (om.2.1.length + ys.length) = true ∧ Q (.lst .o (om.2.1.map D.int ++ ys)) en om
  | _ => False
@[simp] theorem addHQ_at {t ys} {Q : D → Ev → DSh → Prop} : addHQ Q en om (.lst t ys) = (sz (om.2.1.length + ys.length) = true ∧ Q (.lst .o (om.2.1.map D.int ++ ys)) en om) := rfl
def kAddH2 (Q : D → Ev → DSh → Prop) : D → Ev → DSh → Prop := fun d en om => addHQ Q en om (frz d)
@[simp] theorem kAddH2_at {d} {Q : D → Ev → DSh → Prop} : kAddH2 Q d en om = addHQ Q en om (frz d) := rfl
def addH1Q (bA : Addr) (g : DE DSh) (Q : D → Ev → DSh → Prop) (en : Ev) (om : DSh) : D → Prop
  | .opq a => a = bA ∧ wE g (kAddH2 Q) en om
  | _ => False
@[simp] theorem addH1Q_at {g a} {Q : D → Ev → DSh → Prop} : addH1Q bA g Q en om (.opq a) = (a = bA ∧ wE g (kAddH2 Q) en om) := rfl
def kAddH1 (bA : Addr) (g : DE DSh) (Q : D → Ev → DSh → Prop) : D → Ev → DSh → Prop := fun d en om => addH1Q bA g Q en om d
@[simp] theorem kAddH1_at {g d} {Q : D → Ev → DSh → Prop} : kAddH1 bA g Q d en om = addH1Q bA g Q en om d := rfl
@[simp] theorem wE_hAdd {f g} {Q} : wE (dHAdd bA f g) Q en om = wE f (kAddH1 bA g Q) en om := by
  unfold wE dHAdd
  simp only [ex_map, wO_bind]
  congr 1
  funext ⟨d, e, m⟩
  unfold kAddH1 addH1Q
  cases d <;> simp only [wO_none, wO_if, if_false_right, wO_bind]
  congr 1
  unfold wE
  simp only [ex_map]
  congr 1
  funext ⟨d, e, m⟩
  unfold kAddH2 addHQ
  cases h : frz d <;> simp [wO_if, h]
def hsetQ (hA : Addr) (j : Nat) (n : Int) (Q : Out → Ev → DSh → Prop) (en : Ev) (om : DSh) : Option (Option D) → Prop
  | some (some (.opq a)) => a = hA ∧ wO (hSet om n j) fun m => Q .nx en m
  | _ => False
@[simp] theorem hsetQ_at {j n a} {Q : Out → Ev → DSh → Prop} : hsetQ hA j n Q en om (some (some (.opq a))) = (a = hA ∧ wO (hSet om n j) fun m => Q .nx en m) := rfl
def kHSet (hA : Addr) (i j : Nat) (Q : Out → Ev → DSh → Prop) : D → Ev → DSh → Prop
  | .int n => fun en om => hsetQ hA j n Q en om en[i]?
  | _ => fun _ _ => False
@[simp] theorem kHSet_at {i j n} {Q : Out → Ev → DSh → Prop} : kHSet hA i j Q (.int n) en om = hsetQ hA j n Q en om en[i]? := rfl
@[simp] theorem wS_hSet {i j f} {Q} : wS (sHSet hA i j f) Q en om = wE f (kHSet hA i j Q) en om := by
  unfold wS sHSet wE
  simp only [ex_map, wO_bind]
  congr 1
  funext ⟨d, e, m⟩
  unfold kHSet hsetQ
  cases d <;> simp
  cases h : e[i]? with
  | none => simp
  | some x =>
    cases x with
    | none => simp
    | some d => cases d <;> simp [wO_if, wO_map]
def kHP2 (n : Int) (Q : Out → Ev → DSh → Prop) : D → Ev → DSh → Prop
  | .int k => fun en om => wO (ixN om.2.1.length k) fun jk => Q .nx en (om.1, om.2.1.set jk n, om.2.2)
  | _ => fun _ _ => False
@[simp] theorem kHP2_at {n k} {Q : Out → Ev → DSh → Prop} : kHP2 n Q (.int k) en om = wO (ixN om.2.1.length k) fun jk => Q .nx en (om.1, om.2.1.set jk n, om.2.2) := rfl
def hputQ (hA : Addr) (n : Int) (g : DE DSh) (Q : Out → Ev → DSh → Prop) (en : Ev) (om : DSh) : Option (Option D) → Prop
  | some (some (.opq a)) => a = hA ∧ wE g (kHP2 n Q) en om
  | _ => False
@[simp] theorem hputQ_at {n g a} {Q : Out → Ev → DSh → Prop} : hputQ hA n g Q en om (some (some (.opq a))) = (a = hA ∧ wE g (kHP2 n Q) en om) := rfl
def kHPut (hA : Addr) (i : Nat) (g : DE DSh) (Q : Out → Ev → DSh → Prop) : D → Ev → DSh → Prop
  | .int n => fun en om => hputQ hA n g Q en om en[i]?
  | _ => fun _ _ => False
@[simp] theorem kHPut_at {i g n} {Q : Out → Ev → DSh → Prop} : kHPut hA i g Q (.int n) en om = hputQ hA n g Q en om en[i]? := rfl
@[simp] theorem wS_hPut {i f g} {Q} : wS (sHPut hA i f g) Q en om = wE f (kHPut hA i g Q) en om := by
  unfold wS sHPut wE
  simp only [ex_map, wO_bind]
  congr 1
  funext ⟨d, e, m⟩
  unfold kHPut hputQ
  cases d <;> simp
  cases h : e[i]? with
  | none => simp
  | some x =>
    cases x with
    | none => simp
    | some d =>
      cases d <;> simp [wO_if, wO_bind]
      intro _
      unfold wE
      simp only [ex_map]
      apply iff_of_eq
      congr 1
      funext ⟨k, e2, m2⟩
      cases k <;> simp [kHP2, wO_bind]
end
end DL

/-! PG: the graph of the lines, its trees, its shifts: plain lists. -/
namespace GP
abbrev Adj := List (Nat × Int)
abbrev Gr := List Adj
abbrev Tr := List (Nat × Option Nat)
def keys {α : Type} (l : List (Nat × α)) : List Nat := l.map (·.1)
def nb (g : Gr) (l : Nat) : Adj := g.getD l []
/-- what a graph of lines is: whom l knows knows l, by the same number, and each but once -/
structure GOk (g : Gr) : Prop where
  sym : ∀ l o x, (o, x) ∈ nb g l → (l, x) ∈ nb g o
  lt : ∀ l o x, (o, x) ∈ nb g l → o < g.length
  nd : ∀ l, (keys (nb g l)).Nodup
theorem GOk.src {g : Gr} (G : GOk g) {l o : Nat} {x : Int} (h : (o, x) ∈ nb g l) : l < g.length := G.lt o l x (G.sym l o x h)
theorem nodup_val {α : Type} : ∀ {l : List (Nat × α)} {k : Nat} {x y : α}, (keys l).Nodup → (k, x) ∈ l → (k, y) ∈ l → x = y
  | [], _, _, _, _, h, _ => by simp at h
  | (k0, x0) :: l, k, x, y, nd, hx, hy => by
    unfold keys at nd
    simp only [List.map_cons, List.nodup_cons] at nd
    rcases List.mem_cons.mp hx with e | hx
    · cases e
      rcases List.mem_cons.mp hy with e | hy
      · cases e; rfl
      · exact absurd (List.mem_map_of_mem (f := (·.1)) hy) nd.1
    · rcases List.mem_cons.mp hy with e | hy
      · cases e
        exact absurd (List.mem_map_of_mem (f := (·.1)) hx) nd.1
      · exact nodup_val nd.2 hx hy
/-! ### trees -/
def visit (l : Nat) (tr : Tr) (o : Nat) : Tr := if (keys tr).contains o then tr else tr ++ [(o, some l)]
def stepT (g : Gr) (tr : Tr) (l : Nat) : Tr := (keys (nb g l)).foldl (visit l) tr
def bfs (g : Gr) : Nat → Nat → Tr → Tr
  | 0, _, tr => tr
  | f + 1, i, tr => match tr[i]? with
    | some p => bfs g f (i + 1) (stepT g tr p.1)
    | none => tr
def treeFrom (g : Gr) (r : Nat) : Tr := bfs g g.length 0 [(r, none)]
/-- a tree under way, i its lines looked at -/
structure TOk (g : Gr) (r : Nat) (tr : Tr) : Prop where
  hd : tr[0]? = some (r, none)
  nd : (keys tr).Nodup
  lt : ∀ k ∈ keys tr, k < g.length
  par : ∀ i k p, tr[i]? = some (k, p) → (i = 0 ∧ p = none) ∨ ∃ j q x, p = some q ∧ j < i ∧ (∃ p', tr[j]? = some (q, p')) ∧ (k, x) ∈ nb g q
theorem keys_app {α : Type} {a b : List (Nat × α)} : keys (a ++ b) = keys a ++ keys b := by simp [keys]
theorem TOk.start {g : Gr} {r : Nat} (h : r < g.length) : TOk g r [(r, none)] := by
  refine ⟨rfl, by simp [keys], fun k hk => by simp [keys] at hk; omega, fun i k p e => ?_⟩
  cases i with
  | zero => simp at e; exact .inl ⟨rfl, e.2.symm⟩
  | succ i => simp at e
theorem TOk.visit {g : Gr} {r l o : Nat} {x : Int} {tr : Tr} (T : TOk g r tr) (hl : l ∈ keys tr) (hx : (o, x) ∈ nb g l) (ho : o < g.length) : TOk g r (visit l tr o) := by
  unfold GP.visit
  split
  · exact T
  · rename_i hn
    have hn : o ∉ keys tr := by simpa using hn
    have h0 : 0 < tr.length := (List.getElem?_eq_some_iff.mp T.hd).1
    refine ⟨by rw [List.getElem?_append_left h0]; exact T.hd, ?_, fun k hk => ?_, fun i k p e => ?_⟩
    · rw [keys_app]
      refine List.nodup_append.mpr ⟨T.nd, by simp [keys], fun a ha b hb => ?_⟩
      simp [keys] at hb
      subst hb
      exact fun e => hn (e ▸ ha)
    · rw [keys_app] at hk
      rcases List.mem_append.mp hk with hk | hk
      · exact T.lt k hk
      · simp [keys] at hk; omega
    · by_cases hi : i < tr.length
      · rw [List.getElem?_append_left hi] at e
        rcases T.par i k p e with h | ⟨j, q, x, h1, h2, ⟨p', h3⟩, h4⟩
        · exact .inl h
        · exact .inr ⟨j, q, x, h1, h2, ⟨p', by rw [List.getElem?_append_left (by omega)]; exact h3⟩, h4⟩
      · rw [List.getElem?_append_right (by omega)] at e
        have hi' : i - tr.length = 0 := by
          have := (List.getElem?_eq_some_iff.mp e).1
          simp at this; omega
        rw [hi'] at e
        simp at e
        obtain ⟨rfl, rfl⟩ := e
        obtain ⟨⟨q, p'⟩, hq, rfl⟩ := List.mem_map.mp hl
        obtain ⟨j, hj, ej⟩ := List.mem_iff_getElem.mp hq
        exact .inr ⟨j, q, x, rfl, by omega, ⟨p', by rw [List.getElem?_append_left hj, List.getElem?_eq_getElem hj, ej]⟩, hx⟩
theorem visit_pre {l o : Nat} {tr : Tr} : tr <+: visit l tr o := by
  unfold visit
  split
  · exact List.prefix_refl _
  · exact List.prefix_append _ _
theorem foldl_pre {l : Nat} : ∀ (os : List Nat) (tr : Tr), tr <+: os.foldl (visit l) tr
  | [], tr => List.prefix_refl _
  | o :: os, tr => by
    rw [List.foldl_cons]
    exact visit_pre.trans (foldl_pre os _)
theorem pre_keys {α : Type} {a b : List (Nat × α)} (h : a <+: b) : ∀ k ∈ keys a, k ∈ keys b := fun k hk => by
  obtain ⟨c, rfl⟩ := h
  rw [keys_app]
  exact List.mem_append_left _ hk
theorem visit_mem {l o : Nat} {tr : Tr} : o ∈ keys (visit l tr o) := by
  unfold visit
  split
  · rename_i h; simpa using h
  · rw [keys_app]; simp [keys]
theorem foldl_mem {l : Nat} : ∀ (os : List Nat) (tr : Tr), ∀ o ∈ os, o ∈ keys (os.foldl (visit l) tr)
  | [], tr, o, h => by simp at h
  | p :: os, tr, o, h => by
    rw [List.foldl_cons]
    rcases List.mem_cons.mp h with rfl | h
    · exact pre_keys (foldl_pre os _) _ visit_mem
    · exact foldl_mem os _ o h
theorem TOk.fold {g : Gr} {r l : Nat} (G : GOk g) : ∀ (os : List Nat) (tr : Tr), TOk g r tr → l ∈ keys tr → (∀ o ∈ os, ∃ x, (o, x) ∈ nb g l) → TOk g r (os.foldl (GP.visit l) tr)
  | [], tr, T, _, _ => T
  | o :: os, tr, T, hl, h => by
    rw [List.foldl_cons]
    obtain ⟨x, hx⟩ := h o (by simp)
    exact TOk.fold G os _ (T.visit hl hx (G.lt l o x hx)) (pre_keys visit_pre _ hl) fun o ho => h o (by simp [ho])
theorem keys_mem {α : Type} {l : List (Nat × α)} {k : Nat} (h : k ∈ keys l) : ∃ x, (k, x) ∈ l := by
  obtain ⟨⟨k', x⟩, h1, rfl⟩ := List.mem_map.mp h
  exact ⟨x, h1⟩
theorem mem_keys {α : Type} {l : List (Nat × α)} {k : Nat} {x : α} (h : (k, x) ∈ l) : k ∈ keys l := List.mem_map.mpr ⟨_, h, rfl⟩
theorem TOk.step {g : Gr} {r l : Nat} {tr : Tr} (G : GOk g) (T : TOk g r tr) (hl : l ∈ keys tr) : TOk g r (stepT g tr l) := T.fold G _ _ hl fun _ ho => keys_mem ho
theorem TOk.len {g : Gr} {r : Nat} {tr : Tr} (T : TOk g r tr) : tr.length ≤ g.length := by
  have h : (keys tr).length ≤ (List.range g.length).length := T.nd.length_le_of_subset fun k hk => List.mem_range.mpr (T.lt k hk)
  simpa [keys] using h
/-- the first i of tr have been looked at -/
def Seen (g : Gr) (tr : Tr) (i : Nat) : Prop := ∀ j k p, j < i → tr[j]? = some (k, p) → ∀ o x, (o, x) ∈ nb g k → o ∈ keys tr
theorem Seen.step {g : Gr} {tr : Tr} {i k : Nat} {p : Option Nat} (S : Seen g tr i) (e : tr[i]? = some (k, p)) : Seen g (stepT g tr k) (i + 1) := by
  intro j k' p' hj e' o x hx
  have pre : tr <+: stepT g tr k := foldl_pre _ _
  obtain ⟨c, hc⟩ := pre
  have hi : i < tr.length := (List.getElem?_eq_some_iff.mp e).1
  rw [← hc, List.getElem?_append_left (by omega)] at e'
  by_cases hji : j = i
  · subst hji
    rw [e] at e'
    cases e'
    exact foldl_mem _ _ _ (mem_keys hx)
  · exact pre_keys ⟨c, hc⟩ _ (S j k' p' (by omega) e' o x hx)
theorem bfs_ok {g : Gr} {r : Nat} (G : GOk g) : ∀ (f i : Nat) (tr : Tr), TOk g r tr → Seen g tr i → f + i = g.length → TOk g r (bfs g f i tr) ∧ ∀ k ∈ keys (bfs g f i tr), ∀ o x, (o, x) ∈ nb g k → o ∈ keys (bfs g f i tr)
  | 0, i, tr, T, S, h => by
    unfold bfs
    refine ⟨T, fun k hk o x hx => ?_⟩
    obtain ⟨p, hp⟩ := keys_mem hk
    obtain ⟨j, hj, ej⟩ := List.mem_iff_getElem.mp hp
    have := T.len
    exact S j k p (by omega) (by rw [List.getElem?_eq_getElem hj, ej]) o x hx
  | f + 1, i, tr, T, S, h => by
    unfold bfs
    split
    · rename_i p e
      obtain ⟨k, p⟩ := p
      exact bfs_ok G f (i + 1) _ (T.step G (mem_keys (List.mem_of_getElem? e))) (S.step e) (by omega)
    · rename_i e
      refine ⟨T, fun k hk o x hx => ?_⟩
      obtain ⟨p, hp⟩ := keys_mem hk
      obtain ⟨j, hj, ej⟩ := List.mem_iff_getElem.mp hp
      have := List.getElem?_eq_none_iff.mp e
      exact S j k p (by omega) (by rw [List.getElem?_eq_getElem hj, ej]) o x hx
theorem treeFrom_ok {g : Gr} {r : Nat} (G : GOk g) (h : r < g.length) : TOk g r (treeFrom g r) ∧ ∀ k ∈ keys (treeFrom g r), ∀ o x, (o, x) ∈ nb g k → o ∈ keys (treeFrom g r) :=
  bfs_ok G _ _ _ (TOk.start h) (fun j k p hj => by omega) (by omega)
/-! ### joined lines -/
inductive Joined (g : Gr) : Nat → Nat → Prop where
  | refl (l : Nat) : Joined g l l
  | step {l k o : Nat} {x : Int} : Joined g l k → (o, x) ∈ nb g k → Joined g l o
theorem Joined.trans {g : Gr} {a b c : Nat} (h1 : Joined g a b) (h2 : Joined g b c) : Joined g a c := by
  induction h2 with
  | refl => exact h1
  | step _ hx ih => exact .step ih hx
theorem Joined.symm {g : Gr} (G : GOk g) {a b : Nat} (h : Joined g a b) : Joined g b a := by
  induction h with
  | refl => exact .refl _
  | step _ hx ih => exact (Joined.step (.refl _) (G.sym _ _ _ hx)).trans ih
theorem tree_joined {g : Gr} {r : Nat} {tr : Tr} (T : TOk g r tr) : ∀ (i k : Nat) (p : Option Nat), tr[i]? = some (k, p) → Joined g r k := by
  intro i
  induction i using Nat.strongRecOn with
  | ind i ih =>
    intro k p e
    rcases T.par i k p e with ⟨rfl, _⟩ | ⟨j, q, x, _, hj, ⟨p', hq⟩, hx⟩
    · rw [T.hd] at e
      cases e
      exact .refl _
    · exact .step (ih j hj q p' hq) hx
theorem tree_mem {g : Gr} {r : Nat} (G : GOk g) (h : r < g.length) {k : Nat} : k ∈ keys (treeFrom g r) ↔ Joined g r k := by
  obtain ⟨T, cl⟩ := treeFrom_ok G h
  constructor
  · intro hk
    obtain ⟨p, hp⟩ := keys_mem hk
    obtain ⟨j, hj, ej⟩ := List.mem_iff_getElem.mp hp
    exact tree_joined T j k p (by rw [List.getElem?_eq_getElem hj, ej])
  · intro hj
    induction hj with
    | refl => exact mem_keys (List.mem_of_getElem? T.hd)
    | step _ hx ih => exact cl _ ih _ _ hx
/-! ### shifts -/
def gap (g : Gr) (q k : Nat) : Int := ((nb g q).lookup k).getD 0
theorem lookup_mem {α : Type} : ∀ {l : List (Nat × α)} {k : Nat} {x : α}, (keys l).Nodup → (k, x) ∈ l → l.lookup k = some x
  | [], _, _, _, h => by simp at h
  | (k0, x0) :: l, k, x, nd, h => by
    unfold keys at nd
    simp only [List.map_cons, List.nodup_cons] at nd
    rcases List.mem_cons.mp h with e | h
    · cases e; simp [List.lookup]
    · have : k ≠ k0 := fun e => nd.1 (e ▸ List.mem_map_of_mem (f := (·.1)) h)
      have h2 : (k == k0) = false := by simpa using this
      rw [List.lookup, h2]
      exact lookup_mem nd.2 h
theorem gap_of {g : Gr} (G : GOk g) {q k : Nat} {x : Int} (h : (k, x) ∈ nb g q) : gap g q k = x := by
  unfold gap; rw [lookup_mem (G.nd q) h]; rfl
abbrev Sh := List (Nat × Int)
def at_ (sh : Sh) (k : Nat) : Int := (sh.lookup k).getD 0
def shStep (g : Gr) (s0 : Int) (sh : Sh) (p : Nat × Option Nat) : Sh := sh ++ [(p.1, match p.2 with
  | none => s0
  | some q => gap g q p.1 - at_ sh q)]
def shiftsIn (g : Gr) (tr : Tr) (s0 : Int) : Sh := tr.foldl (shStep g s0) []
theorem sh_keys {g : Gr} {s0 : Int} : ∀ (tr : Tr) (sh : Sh), keys (tr.foldl (shStep g s0) sh) = keys sh ++ keys tr
  | [], sh => by simp [keys]
  | p :: tr, sh => by
    rw [List.foldl_cons, sh_keys tr]
    simp [shStep, keys]
theorem sh_take {g : Gr} {s0 : Int} {tr : Tr} {i : Nat} {p : Nat × Option Nat} (h : tr[i]? = some p) : shiftsIn g (tr.take (i + 1)) s0 = shStep g s0 (shiftsIn g (tr.take i) s0) p := by
  unfold shiftsIn
  rw [List.take_succ, h]
  simp
end GP

/-! PG2: the groups of joined lines. -/
namespace GP
open DL
def insN (a : Nat) : List Nat → List Nat
  | [] => [a]
  | b :: l => if a ≤ b then a :: b :: l else b :: insN a l
def sortN : List Nat → List Nat
  | [] => []
  | a :: l => insN a (sortN l)
theorem insI_cast (a : Nat) : ∀ l : List Nat, insI (a : Int) (l.map fun k : Nat => (k : Int)) = (insN a l).map fun k : Nat => (k : Int)
  | [] => rfl
  | b :: l => by
    rw [List.map_cons]
    unfold insI insN
    by_cases h : a ≤ b
    · rw [if_pos h, if_pos (by omega)]; rfl
    · rw [if_neg h, if_neg (by omega), insI_cast a l]; rfl
theorem sortI_cast : ∀ l : List Nat, sortI (l.map fun k : Nat => (k : Int)) = (sortN l).map fun k : Nat => (k : Int)
  | [] => rfl
  | a :: l => by
    rw [List.map_cons]
    unfold sortI sortN
    rw [sortI_cast l, insI_cast]
theorem insN_perm (a : Nat) : ∀ l : List Nat, (insN a l).Perm (a :: l)
  | [] => .refl _
  | b :: l => by
    unfold insN
    split
    · exact .refl _
    · exact ((insN_perm a l).cons b).trans (.swap a b l)
theorem sortN_perm : ∀ l : List Nat, (sortN l).Perm l
  | [] => .refl _
  | a :: l => (insN_perm a (sortN l)).trans ((sortN_perm l).cons a)
theorem insN_sorted (a : Nat) : ∀ l : List Nat, l.Pairwise (· ≤ ·) → (insN a l).Pairwise (· ≤ ·)
  | [], _ => by simp [insN]
  | b :: l, h => by
    unfold insN
    rw [List.pairwise_cons] at h
    split
    · rename_i hab
      refine List.pairwise_cons.mpr ⟨fun c hc => ?_, List.pairwise_cons.mpr h⟩
      rcases List.mem_cons.mp hc with e | e
      · omega
      · have := h.1 c e; omega
    · rename_i hab
      refine List.pairwise_cons.mpr ⟨fun c hc => ?_, insN_sorted a l h.2⟩
      rcases List.mem_cons.mp ((insN_perm a l).mem_iff.mp hc) with e | e
      · omega
      · exact h.1 c e
theorem sortN_sorted : ∀ l : List Nat, (sortN l).Pairwise (· ≤ ·)
  | [] => .nil
  | a :: l => insN_sorted a _ (sortN_sorted l)
def grp (g : Gr) (l : Nat) : List Nat := sortN (keys (treeFrom g l))
theorem grp_mem {g : Gr} (G : GOk g) {l k : Nat} (h : l < g.length) : k ∈ grp g l ↔ Joined g l k := by
  unfold grp
  rw [(sortN_perm _).mem_iff]
  exact tree_mem G h
theorem grp_nd {g : Gr} (G : GOk g) {l : Nat} (h : l < g.length) : (grp g l).Nodup := (sortN_perm _).nodup_iff.mpr (treeFrom_ok G h).1.nd
theorem grp_lt {g : Gr} (G : GOk g) {l k : Nat} (h : l < g.length) (hk : k ∈ grp g l) : k < g.length := (treeFrom_ok G h).1.lt k ((sortN_perm _).mem_iff.mp hk)
theorem grp_len {g : Gr} (G : GOk g) {l : Nat} (h : l < g.length) : (grp g l).length ≤ g.length := by
  have := (treeFrom_ok G h).1.len
  unfold grp
  rw [(sortN_perm _).length_eq]
  simpa [keys] using this
def addG (g : Gr) (gs : List (List Nat)) (l : Nat) : List (List Nat) := if gs.any (·.contains l) = true then gs else gs ++ [grp g l]
def groupsTo (g : Gr) (k : Nat) : List (List Nat) := (List.range k).foldl (addG g) []
def groups (g : Gr) : List (List Nat) := groupsTo g g.length
theorem groupsTo_succ {g : Gr} {k : Nat} : groupsTo g (k + 1) = addG g (groupsTo g k) k := by
  unfold groupsTo
  rw [List.range_succ, List.foldl_append]; rfl
structure GsOk (g : Gr) (i : Nat) (gs : List (List Nat)) : Prop where
  each : ∀ G ∈ gs, ∃ l, l < g.length ∧ G = grp g l ∧ G.head? = some l
  all : ∀ l, l < i → ∃ G ∈ gs, l ∈ G
  nd : gs.flatten.Nodup
theorem any_iff {gs : List (List Nat)} {l : Nat} : gs.any (·.contains l) = true ↔ ∃ G ∈ gs, l ∈ G := by simp
theorem GsOk.closed {g : Gr} (GG : GOk g) {i : Nat} {gs : List (List Nat)} (O : GsOk g i gs) {G : List Nat} (hG : G ∈ gs) {k k' : Nat} (hk : k ∈ G) (hj : Joined g k k') : k' ∈ G := by
  obtain ⟨l, hl, rfl, _⟩ := O.each G hG
  exact (grp_mem GG hl).mpr (((grp_mem GG hl).mp hk).trans hj)
theorem sorted_head : ∀ {l : List Nat} {k : Nat}, l.Pairwise (· ≤ ·) → k ∈ l → (∀ m ∈ l, k ≤ m) → l.head? = some k
  | [], k, _, h, _ => by simp at h
  | a :: l, k, s, h, m => by
    have h1 := m a (by simp)
    rcases List.mem_cons.mp h with rfl | h
    · rfl
    · have := (List.pairwise_cons.mp s).1 k h
      have : a = k := by omega
      rw [this]; rfl
theorem GsOk.add {g : Gr} (GG : GOk g) {i : Nat} {gs : List (List Nat)} (O : GsOk g i gs) (hi : i < g.length) : GsOk g (i + 1) (addG g gs i) := by
  unfold addG
  split
  · rename_i h
    refine ⟨O.each, fun l hl => ?_, O.nd⟩
    by_cases e : l = i
    · subst e; exact any_iff.mp h
    · exact O.all l (by omega)
  · rename_i h
    have h : ∀ G ∈ gs, i ∉ G := fun G hG hm => h (any_iff.mpr ⟨G, hG, hm⟩)
    have hself : i ∈ grp g i := (grp_mem GG hi).mpr (.refl _)
    have disj : ∀ G ∈ gs, ∀ k ∈ grp g i, k ∉ G := fun G hG k hk hkG => h G hG (O.closed GG hG hkG (((grp_mem GG hi).mp hk).symm GG))
    refine ⟨fun G hG => ?_, fun l hl => ?_, ?_⟩
    · rcases List.mem_append.mp hG with hG | hG
      · exact O.each G hG
      · simp at hG
        subst hG
        refine ⟨i, hi, rfl, sorted_head (sortN_sorted _) hself fun m hm => ?_⟩
        by_cases hmi : m < i
        · obtain ⟨G, hG, hmG⟩ := O.all m hmi
          exact absurd hmG (disj G hG m hm)
        · omega
    · by_cases e : l = i
      · subst e; exact ⟨_, by simp, hself⟩
      · obtain ⟨G, hG, hm⟩ := O.all l (by omega)
        exact ⟨G, by simp [hG], hm⟩
    · rw [List.flatten_append]
      refine List.nodup_append.mpr ⟨O.nd, by simpa using grp_nd GG hi, fun a ha b hb e => ?_⟩
      simp at hb
      subst e
      obtain ⟨G, hG, haG⟩ := List.mem_flatten.mp ha
      exact disj G hG a hb haG
theorem groupsTo_ok {g : Gr} (GG : GOk g) : ∀ i, i ≤ g.length → GsOk g i (groupsTo g i)
  | 0, _ => ⟨fun G h => by simp [groupsTo] at h, fun l h => by omega, by simp [groupsTo]⟩
  | i + 1, h => by
    rw [groupsTo_succ]
    exact (groupsTo_ok GG i (by omega)).add GG (by omega)
theorem groups_ok {g : Gr} (GG : GOk g) : GsOk g g.length (groups g) := groupsTo_ok GG _ (Nat.le_refl _)
theorem GsOk.mem_lt {g : Gr} (GG : GOk g) {i : Nat} {gs : List (List Nat)} (O : GsOk g i gs) {k : Nat} (h : k ∈ gs.flatten) : k < g.length := by
  obtain ⟨G, hG, hk⟩ := List.mem_flatten.mp h
  obtain ⟨l, hl, rfl, _⟩ := O.each G hG
  exact grp_lt GG hl hk
theorem GsOk.len {g : Gr} (GG : GOk g) {i : Nat} {gs : List (List Nat)} (O : GsOk g i gs) : gs.flatten.length ≤ g.length := by
  have h : gs.flatten.length ≤ (List.range g.length).length := O.nd.length_le_of_subset fun k hk => List.mem_range.mpr (O.mem_lt GG hk)
  simpa using h
theorem GsOk.count {g : Gr} (GG : GOk g) {i : Nat} {gs : List (List Nat)} (O : GsOk g i gs) : gs.length ≤ g.length := by
  have h1 := O.len GG
  have h2 : ∀ gs : List (List Nat), (∀ G ∈ gs, G ≠ []) → gs.length ≤ gs.flatten.length := by
    intro gs
    induction gs with
    | nil => simp
    | cons G gs ih =>
      intro h
      have := ih fun G hG => h G (by simp [hG])
      have h0 : 0 < G.length := List.length_pos_iff.mpr (h G (by simp))
      rw [List.flatten_cons, List.length_append, List.length_cons]; omega
  have := h2 gs fun G hG e => by
    obtain ⟨l, _, _, h⟩ := O.each G hG
    rw [e] at h; simp at h
  omega
end GP

/-! PG3: the graph that a goal makes. -/
namespace GP
def cellAt (c : List (List Int)) (r j : Nat) : Int := ((c.getD r []).getD j 0)
def ins1 (g : Gr) (l o : Nat) (x : Int) : Gr := g.set l (nb g l ++ [(o, x)])
def bcell (c : List (List Int)) (n r : Nat) (g : Gr) (p : Nat × Option Int) : Gr := match p.2 with
  | none => g
  | some v => ins1 (ins1 g r (n + p.1) (v - cellAt c r p.1)) (n + p.1) r (v - cellAt c r p.1)
def idx {α : Type} (l : List α) : List (Nat × α) := l.mapIdx fun i a => (i, a)
def brow (c : List (List Int)) (n : Nat) (g : Gr) (p : Nat × List (Option Int)) : Gr := (idx p.2).foldl (bcell c n p.1) g
def buildG (c : List (List Int)) (gl : List (List (Option Int))) (n w : Nat) : Gr := (idx gl).foldl (brow c n) (List.replicate (n + w) [])
theorem idx_len {α : Type} {l : List α} : (idx l).length = l.length := by simp [idx]
theorem idx_get {α : Type} {l : List α} {i : Nat} : (idx l)[i]? = l[i]?.map fun a => (i, a) := by simp [idx, List.getElem?_mapIdx]
/-- the specified cell at r, j asks x of its lines -/
def Edge (c : List (List Int)) (gl : List (List (Option Int))) (r j : Nat) (x : Int) : Prop := ∃ row v, gl[r]? = some row ∧ row[j]? = some (some v) ∧ x = v - cellAt c r j
structure BOk (c : List (List Int)) (gl : List (List (Option Int))) (n w : Nat) (dn : Nat → Nat → Prop) (g : Gr) : Prop where
  len : g.length = n + w
  mem : ∀ l o x, (o, x) ∈ nb g l ↔ ∃ r j, dn r j ∧ Edge c gl r j x ∧ ((l = r ∧ o = n + j) ∨ (l = n + j ∧ o = r))
  nd : ∀ l, (keys (nb g l)).Nodup
theorem nb_set {g : Gr} {l k : Nat} {a : Adj} (h : l < g.length) : nb (g.set l a) k = if k = l then a else nb g k := by
  unfold nb
  simp only [List.getD_eq_getElem?_getD, List.getElem?_set]
  by_cases e : l = k
  · subst e; simp [h]
  · have : ¬ k = l := fun z => e z.symm
    simp [e, this]
theorem ins1_len {g : Gr} {l o : Nat} {x : Int} : (ins1 g l o x).length = g.length := by simp [ins1]
theorem ins1_nb {g : Gr} {l o k : Nat} {x : Int} (h : l < g.length) : nb (ins1 g l o x) k = if k = l then nb g l ++ [(o, x)] else nb g k := nb_set h
structure Shape (c : List (List Int)) (gl : List (List (Option Int))) (n w : Nat) : Prop where
  gn : gl.length = n
  gw : ∀ row ∈ gl, row.length = w
theorem BOk.cell {c : List (List Int)} {gl : List (List (Option Int))} {n w r j : Nat} {row : List (Option Int)} {e : Option Int} {dn : Nat → Nat → Prop} {g : Gr} (S : Shape c gl n w) (B : BOk c gl n w dn g) (hr : gl[r]? = some row) (hj : row[j]? = some e) (hn : ¬ dn r j) :
    BOk c gl n w (fun r' j' => dn r' j' ∨ (r' = r ∧ j' = j)) (bcell c n r g (j, e)) := by
  have hrn : r < n := by rw [← S.gn]; exact (List.getElem?_eq_some_iff.mp hr).1
  have hjw : j < w := by rw [← S.gw row (List.mem_of_getElem? hr)]; exact (List.getElem?_eq_some_iff.mp hj).1
  cases e with
  | none =>
    refine ⟨B.len, fun l o x => ?_, B.nd⟩
    show (o, x) ∈ nb g l ↔ _
    rw [B.mem]
    constructor
    · rintro ⟨r', j', h1, h2, h3⟩; exact ⟨r', j', .inl h1, h2, h3⟩
    · rintro ⟨r', j', h1 | ⟨rfl, rfl⟩, h2, h3⟩
      · exact ⟨r', j', h1, h2, h3⟩
      · obtain ⟨row', v, e1, e2, _⟩ := h2
        rw [hr] at e1; cases e1
        rw [hj] at e2; cases e2
  | some v =>
    have l1 : r < g.length := by rw [B.len]; omega
    have l2 : n + j < (ins1 g r (n + j) (v - cellAt c r j)).length := by rw [ins1_len, B.len]; omega
    have nbv : ∀ k, nb (bcell c n r g (j, some v)) k = if k = n + j then nb g (n + j) ++ [(r, v - cellAt c r j)] else if k = r then nb g r ++ [(n + j, v - cellAt c r j)] else nb g k := fun k => by
      show nb (ins1 (ins1 g r (n + j) (v - cellAt c r j)) (n + j) r (v - cellAt c r j)) k = _
      rw [ins1_nb l2]
      by_cases e : k = n + j
      · rw [if_pos e, if_pos e, ins1_nb l1, if_neg (by omega)]
      · rw [if_neg e, if_neg e, ins1_nb l1]
    have bip : ∀ l o x, (o, x) ∈ nb g l → ∃ r' j', dn r' j' ∧ Edge c gl r' j' x ∧ r' < n ∧ ((l = r' ∧ o = n + j') ∨ (l = n + j' ∧ o = r')) := fun l o x h => by
      obtain ⟨r', j', h1, h2, h3⟩ := (B.mem l o x).mp h
      obtain ⟨row', v', e1, _⟩ := id h2
      exact ⟨r', j', h1, h2, by rw [← S.gn]; exact (List.getElem?_eq_some_iff.mp e1).1, h3⟩
    have n1 : n + j ∉ keys (nb g r) := fun h => by
      obtain ⟨x, hx⟩ := keys_mem h
      obtain ⟨r', j', h1, _, h4, h3 | h3⟩ := bip _ _ _ hx
      · have : j' = j := by omega
        rw [← h3.1, this] at h1; exact hn h1
      · omega
    have n2 : r ∉ keys (nb g (n + j)) := fun h => by
      obtain ⟨x, hx⟩ := keys_mem h
      obtain ⟨r', j', h1, _, h4, h3 | h3⟩ := bip _ _ _ hx
      · omega
      · have : j' = j := by omega
        rw [← h3.2, this] at h1; exact hn h1
    have snoc_nd : ∀ (a : Adj) (k : Nat) (x : Int), (keys a).Nodup → k ∉ keys a → (keys (a ++ [(k, x)])).Nodup := fun a k x h1 h2 => by
      rw [keys_app]
      refine List.nodup_append.mpr ⟨h1, by simp [keys], fun y hy z hz e => ?_⟩
      simp [keys] at hz
      subst hz; subst e
      exact h2 hy
    refine ⟨?_, fun l o x => ?_, fun l => ?_⟩
    · show (ins1 (ins1 g r (n + j) (v - cellAt c r j)) (n + j) r (v - cellAt c r j)).length = _
      rw [ins1_len, ins1_len, B.len]
    · rw [nbv]
      have hE : Edge c gl r j (v - cellAt c r j) := ⟨row, v, hr, hj, rfl⟩
      have uniq : ∀ x, Edge c gl r j x → x = v - cellAt c r j := fun x ⟨row', v', e1, e2, e3⟩ => by
        rw [hr] at e1; cases e1
        rw [hj] at e2; cases e2
        exact e3
      have old : ∀ l, (o, x) ∈ nb g l → ∃ r' j', (dn r' j' ∨ (r' = r ∧ j' = j)) ∧ Edge c gl r' j' x ∧ ((l = r' ∧ o = n + j') ∨ (l = n + j' ∧ o = r')) := fun l h => by
        obtain ⟨r', j', h1, h2, h3⟩ := (B.mem l o x).mp h
        exact ⟨r', j', .inl h1, h2, h3⟩
      split
      · rename_i e
        subst e
        constructor
        · intro h
          rcases List.mem_append.mp h with h | h
          · exact old _ h
          · simp at h
            obtain ⟨rfl, rfl⟩ := h
            exact ⟨_, _, .inr ⟨rfl, rfl⟩, hE, .inr ⟨rfl, rfl⟩⟩
        · rintro ⟨r', j', h1 | ⟨rfl, rfl⟩, h2, h3⟩
          · exact List.mem_append_left _ ((B.mem _ o x).mpr ⟨r', j', h1, h2, h3⟩)
          · rcases h3 with h3 | h3
            · omega
            · rw [uniq x h2, h3.2]; simp
      · rename_i ne
        split
        · rename_i e
          subst e
          constructor
          · intro h
            rcases List.mem_append.mp h with h | h
            · exact old _ h
            · simp at h
              obtain ⟨rfl, rfl⟩ := h
              exact ⟨_, _, .inr ⟨rfl, rfl⟩, hE, .inl ⟨rfl, rfl⟩⟩
          · rintro ⟨r', j', h1 | ⟨rfl, rfl⟩, h2, h3⟩
            · exact List.mem_append_left _ ((B.mem _ o x).mpr ⟨r', j', h1, h2, h3⟩)
            · rcases h3 with h3 | h3
              · rw [uniq x h2, h3.2]; simp
              · omega
        · rename_i ne2
          constructor
          · exact old _
          · rintro ⟨r', j', h1 | ⟨rfl, rfl⟩, h2, h3⟩
            · exact (B.mem _ o x).mpr ⟨r', j', h1, h2, h3⟩
            · rcases h3 with h3 | h3
              · exact absurd h3.1 ne2
              · exact absurd h3.1 ne
    · rw [nbv]
      split
      · exact snoc_nd _ _ _ (B.nd _) n2
      · split
        · exact snoc_nd _ _ _ (B.nd _) n1
        · exact B.nd _
theorem BOk.bip {c : List (List Int)} {gl : List (List (Option Int))} {n w : Nat} {dn : Nat → Nat → Prop} {g : Gr} (S : Shape c gl n w) (B : BOk c gl n w dn g) {l o : Nat} {x : Int} (h : (o, x) ∈ nb g l) : ∃ r j, dn r j ∧ Edge c gl r j x ∧ r < n ∧ j < w ∧ ((l = r ∧ o = n + j) ∨ (l = n + j ∧ o = r)) := by
  obtain ⟨r', j', h1, h2, h3⟩ := (B.mem l o x).mp h
  obtain ⟨row', v', e1, e2, _⟩ := id h2
  exact ⟨r', j', h1, h2, by rw [← S.gn]; exact (List.getElem?_eq_some_iff.mp e1).1, by rw [← S.gw row' (List.mem_of_getElem? e1)]; exact (List.getElem?_eq_some_iff.mp e2).1, h3⟩
theorem BOk.fresh {c : List (List Int)} {gl : List (List (Option Int))} {n w r j : Nat} {dn : Nat → Nat → Prop} {g : Gr} (S : Shape c gl n w) (B : BOk c gl n w dn g) (hr : r < n) (hn : ¬ dn r j) : n + j ∉ keys (nb g r) ∧ r ∉ keys (nb g (n + j)) := by
  refine ⟨fun h => ?_, fun h => ?_⟩
  · obtain ⟨x, hx⟩ := keys_mem h
    obtain ⟨r', j', h1, _, h4, h5, h3 | h3⟩ := B.bip S hx
    · have : j' = j := by omega
      rw [← h3.1, this] at h1; exact hn h1
    · omega
  · obtain ⟨x, hx⟩ := keys_mem h
    obtain ⟨r', j', h1, _, h4, h5, h3 | h3⟩ := B.bip S hx
    · omega
    · have : j' = j := by omega
      rw [← h3.2, this] at h1; exact hn h1
theorem BOk.few {c : List (List Int)} {gl : List (List (Option Int))} {n w : Nat} {dn : Nat → Nat → Prop} {g : Gr} (S : Shape c gl n w) (B : BOk c gl n w dn g) (l : Nat) : (nb g l).length ≤ n + w := by
  have h : (keys (nb g l)).length ≤ (List.range (n + w)).length := (B.nd l).length_le_of_subset fun k hk => by
    obtain ⟨x, hx⟩ := keys_mem hk
    obtain ⟨r', j', _, _, h4, h5, h3⟩ := B.bip S hx
    exact List.mem_range.mpr (by omega)
  simpa [keys] using h
theorem BOk.weaken {c : List (List Int)} {gl : List (List (Option Int))} {n w : Nat} {dn dn' : Nat → Nat → Prop} {g : Gr} (S : Shape c gl n w) (B : BOk c gl n w dn g) (h : ∀ r j, r < n → j < w → (dn r j ↔ dn' r j)) : BOk c gl n w dn' g := by
  refine ⟨B.len, fun l o x => ?_, B.nd⟩
  rw [B.mem]
  have lt : ∀ {r j x}, Edge c gl r j x → r < n ∧ j < w := fun ⟨row, v, e1, e2, _⟩ => ⟨by rw [← S.gn]; exact (List.getElem?_eq_some_iff.mp e1).1, by rw [← S.gw row (List.mem_of_getElem? e1)]; exact (List.getElem?_eq_some_iff.mp e2).1⟩
  constructor
  · rintro ⟨r, j, h1, h2, h3⟩; exact ⟨r, j, (h r j (lt h2).1 (lt h2).2).mp h1, h2, h3⟩
  · rintro ⟨r, j, h1, h2, h3⟩; exact ⟨r, j, (h r j (lt h2).1 (lt h2).2).mpr h1, h2, h3⟩
/-- the first cells in row order -/
def Dn (r j : Nat) : Nat → Nat → Prop := fun r' j' => r' < r ∨ (r' = r ∧ j' < j)
theorem BOk.start {c : List (List Int)} {gl : List (List (Option Int))} {n w : Nat} : BOk c gl n w (Dn 0 0) (List.replicate (n + w) []) := by
  have e : ∀ l, nb (List.replicate (n + w) ([] : Adj)) l = [] := fun l => by
    unfold nb
    rw [List.getD_eq_getElem?_getD, List.getElem?_replicate]
    split <;> rfl
  refine ⟨by simp, fun l o x => ?_, fun l => by rw [e]; simp [keys]⟩
  rw [e]
  constructor
  · intro h; simp at h
  · rintro ⟨r, j, h, _⟩; unfold Dn at h; omega
theorem BOk.next {c : List (List Int)} {gl : List (List (Option Int))} {n w r j : Nat} {row : List (Option Int)} {e : Option Int} {g : Gr} (S : Shape c gl n w) (B : BOk c gl n w (Dn r j) g) (hr : gl[r]? = some row) (hj : row[j]? = some e) : BOk c gl n w (Dn r (j + 1)) (bcell c n r g (j, e)) :=
  (B.cell S hr hj (by unfold Dn; omega)).weaken S fun r' j' _ _ => by unfold Dn; omega
theorem BOk.newrow {c : List (List Int)} {gl : List (List (Option Int))} {n w r : Nat} {g : Gr} (S : Shape c gl n w) (B : BOk c gl n w (Dn r w) g) : BOk c gl n w (Dn (r + 1) 0) g :=
  B.weaken S fun r' j' _ _ => by unfold Dn; omega
theorem BOk.row {c : List (List Int)} {gl : List (List (Option Int))} {n w r : Nat} {row : List (Option Int)} {g : Gr} (S : Shape c gl n w) (B : BOk c gl n w (Dn r 0) g) (hr : gl[r]? = some row) : ∀ j, j ≤ row.length → BOk c gl n w (Dn r j) (((idx row).take j).foldl (bcell c n r) g)
  | 0, _ => by simpa using B
  | j + 1, h => by
    have ih := BOk.row S B hr j (by omega)
    have hj : row[j]? = some row[j] := List.getElem?_eq_getElem (by omega)
    have : (idx row).take (j + 1) = (idx row).take j ++ [(j, row[j])] := by rw [List.take_succ, idx_get, hj]; rfl
    rw [this, List.foldl_append]
    exact ih.next S hr hj
theorem BOk.rows {c : List (List Int)} {gl : List (List (Option Int))} {n w : Nat} (S : Shape c gl n w) : ∀ r, r ≤ gl.length → BOk c gl n w (Dn r 0) (((idx gl).take r).foldl (brow c n) (List.replicate (n + w) []))
  | 0, _ => by simpa using BOk.start
  | r + 1, h => by
    have ih := BOk.rows S r (by omega)
    have hr : gl[r]? = some gl[r] := List.getElem?_eq_getElem (by omega)
    have : (idx gl).take (r + 1) = (idx gl).take r ++ [(r, gl[r])] := by rw [List.take_succ, idx_get, hr]; rfl
    rw [this, List.foldl_append]
    have b := ih.row S hr gl[r].length (Nat.le_refl _)
    have et : (idx gl[r]).take gl[r].length = idx gl[r] := List.take_of_length_le (by rw [idx_len]; exact Nat.le_refl _)
    rw [et] at b
    have hw := S.gw _ (List.mem_of_getElem? hr)
    rw [hw] at b
    exact b.newrow S
theorem buildG_ok {c : List (List Int)} {gl : List (List (Option Int))} {n w : Nat} (S : Shape c gl n w) : BOk c gl n w (fun _ _ => True) (buildG c gl n w) := by
  have b := BOk.rows (c := c) S gl.length (Nat.le_refl _)
  rw [List.take_of_length_le (by rw [idx_len]; exact Nat.le_refl _)] at b
  exact b.weaken S fun r j hr _ => by unfold Dn; rw [S.gn]; simp; omega
theorem BOk.gok {c : List (List Int)} {gl : List (List (Option Int))} {n w : Nat} {g : Gr} (S : Shape c gl n w) (B : BOk c gl n w (fun _ _ => True) g) : GOk g := by
  refine ⟨fun l o x h => ?_, fun l o x h => ?_, B.nd⟩
  · obtain ⟨r, j, h1, h2, h3⟩ := (B.mem l o x).mp h
    exact (B.mem o l x).mpr ⟨r, j, h1, h2, h3.elim (fun h => .inr ⟨h.2, h.1⟩) fun h => .inl ⟨h.2, h.1⟩⟩
  · obtain ⟨r, j, h1, ⟨row, v, e1, e2, _⟩, h3⟩ := (B.mem l o x).mp h
    have hr : r < n := by rw [← S.gn]; exact (List.getElem?_eq_some_iff.mp e1).1
    have hj : j < w := by rw [← S.gw row (List.mem_of_getElem? e1)]; exact (List.getElem?_eq_some_iff.mp e2).1
    rw [B.len]
    omega
end GP

/-! PG4: what the shifts of a tree are: the only ones that keep the gaps. -/
namespace GP
theorem at_app {a b : Sh} {k : Nat} (h : k ∈ keys a) : at_ (a ++ b) k = at_ a k := by
  unfold at_
  obtain ⟨x, hx⟩ := keys_mem h
  have : ∃ y, a.lookup k = some y := by
    clear b
    induction a with
    | nil => simp at hx
    | cons p a ih =>
      obtain ⟨k0, x0⟩ := p
      rw [List.lookup]
      cases hk : k == k0 with
      | true => exact ⟨x0, rfl⟩
      | false =>
        have hk : k ≠ k0 := by simpa using hk
        rcases List.mem_cons.mp hx with e | hx
        · cases e; exact absurd rfl hk
        · exact ih (mem_keys hx) hx
  obtain ⟨y, hy⟩ := this
  rw [List.lookup_append, hy]; rfl
theorem at_new {a b : Sh} {k : Nat} {x : Int} (h : k ∉ keys a) : at_ ((a ++ [(k, x)]) ++ b) k = x := by
  rw [at_app (by simp [keys])]
  unfold at_
  have : a.lookup k = none := by
    induction a with
    | nil => rfl
    | cons p a ih =>
      obtain ⟨k0, x0⟩ := p
      unfold keys at h ih
      simp at h
      rw [List.lookup]
      have : (k == k0) = false := by simpa using h.1
      rw [this]
      exact ih (by simpa using h.2)
  rw [List.lookup_append, this]
  simp
theorem sh_app {g : Gr} {s0 : Int} : ∀ (tr : Tr) (sh : Sh), ∃ r, tr.foldl (shStep g s0) sh = sh ++ r
  | [], sh => ⟨[], by simp⟩
  | p :: tr, sh => by
    obtain ⟨r, hr⟩ := sh_app tr (shStep g s0 sh p)
    rw [List.foldl_cons, hr]
    exact ⟨_, List.append_assoc _ _ _⟩
theorem sh_eq {g : Gr} {r : Nat} {tr : Tr} {s0 : Int} (T : TOk g r tr) {i k : Nat} {p : Option Nat} (e : tr[i]? = some (k, p)) :
    at_ (shiftsIn g tr s0) k = match p with
      | none => s0
      | some q => gap g q k - at_ (shiftsIn g tr s0) q := by
  have h1 := sh_take (g := g) (s0 := s0) e
  obtain ⟨rest, hr⟩ : ∃ rest, shiftsIn g tr s0 = shiftsIn g (tr.take (i + 1)) s0 ++ rest := by
    obtain ⟨r, hr⟩ := sh_app (g := g) (s0 := s0) (tr.drop (i + 1)) (shiftsIn g (tr.take (i + 1)) s0)
    refine ⟨r, ?_⟩
    rw [← hr]
    unfold shiftsIn
    rw [← List.foldl_append, List.take_append_drop]
  have hk : keys (shiftsIn g (tr.take i) s0) = keys (tr.take i) := by
    unfold shiftsIn; rw [sh_keys]; simp [keys]
  have hn : k ∉ keys (tr.take i) := by
    intro h
    have nd := T.nd
    have hi := (List.getElem?_eq_some_iff.mp e).1
    have es : tr = tr.take i ++ (k, p) :: tr.drop (i + 1) := by
      have := List.take_append_drop i tr
      rw [List.drop_eq_getElem_cons hi, show tr[i] = (k, p) from (List.getElem?_eq_some_iff.mp e).2] at this
      exact this.symm
    rw [es, keys_app] at nd
    exact (List.nodup_append.mp nd).2.2 k h k (by simp [keys]) rfl
  rw [hr, h1]
  unfold shStep
  rw [at_new (by rw [hk]; exact hn)]
  cases p with
  | none => rfl
  | some q =>
    have hq : q ∈ keys (shiftsIn g (tr.take i) s0) := by
      rw [hk]
      rcases T.par i k _ e with ⟨_, h⟩ | ⟨j, q', x, h1, h2, ⟨p', h3⟩, h4⟩
      · cases h
      · cases h1
        refine mem_keys (x := p') (List.mem_of_getElem? (i := j) ?_)
        rw [List.getElem?_take_of_lt h2]; exact h3
    show gap g q k - at_ _ q = gap g q k - at_ _ q
    rw [List.append_assoc, at_app hq]
/-- shifts that keep the gaps -/
def Keeps (g : Gr) (s : Nat → Int) : Prop := ∀ l o x, (o, x) ∈ nb g l → s l + s o = x
theorem sh_uniq {g : Gr} {r : Nat} {tr : Tr} {s : Nat → Int} (GG : GOk g) (T : TOk g r tr) (hs : Keeps g s) : ∀ (i k : Nat) (p : Option Nat), tr[i]? = some (k, p) → at_ (shiftsIn g tr (s r)) k = s k := by
  intro i
  induction i using Nat.strongRecOn with
  | ind i ih =>
    intro k p e
    rw [sh_eq T e]
    rcases T.par i k p e with ⟨rfl, rfl⟩ | ⟨j, q, x, rfl, hj, ⟨p', hq⟩, hx⟩
    · rw [T.hd] at e
      cases e
      rfl
    · show gap g q k - at_ _ q = s k
      rw [ih j hj q p' hq, gap_of GG hx]
      have := hs q k x hx
      omega
theorem sh_uniq' {g : Gr} {r : Nat} {tr : Tr} {s : Nat → Int} (GG : GOk g) (T : TOk g r tr) (hs : Keeps g s) {k : Nat} (hk : k ∈ keys tr) : at_ (shiftsIn g tr (s r)) k = s k := by
  obtain ⟨p, hp⟩ := keys_mem hk
  obtain ⟨j, hj, ej⟩ := List.mem_iff_getElem.mp hp
  exact sh_uniq GG T hs j k p (by rw [List.getElem?_eq_getElem hj, ej])
/-- two sides, no line tied to one of its own -/
def Sided (g : Gr) (side : Nat → Bool) : Prop := ∀ l o x, (o, x) ∈ nb g l → side o = !side l
theorem sh_sign {g : Gr} {r : Nat} {tr : Tr} {side : Nat → Bool} {s0 : Int} (GG : GOk g) (T : TOk g r tr) (hs : Sided g side) : ∀ (i k : Nat) (p : Option Nat), tr[i]? = some (k, p) → at_ (shiftsIn g tr s0) k = at_ (shiftsIn g tr 0) k + (if side k = side r then s0 else - s0) := by
  intro i
  induction i using Nat.strongRecOn with
  | ind i ih =>
    intro k p e
    rw [sh_eq T e, sh_eq T e]
    rcases T.par i k p e with ⟨rfl, rfl⟩ | ⟨j, q, x, rfl, hj, ⟨p', hq⟩, hx⟩
    · rw [T.hd] at e
      cases e
      simp
    · show gap g q k - at_ _ q = (gap g q k - at_ _ q) + _
      rw [ih j hj q p' hq]
      have := hs q k x hx
      rw [this]
      cases side q <;> cases side r <;> simp <;> omega
theorem sh_sign' {g : Gr} {r : Nat} {tr : Tr} {side : Nat → Bool} {s0 : Int} (GG : GOk g) (T : TOk g r tr) (hs : Sided g side) {k : Nat} (hk : k ∈ keys tr) : at_ (shiftsIn g tr s0) k = at_ (shiftsIn g tr 0) k + (if side k = side r then s0 else - s0) := by
  obtain ⟨p, hp⟩ := keys_mem hk
  obtain ⟨j, hj, ej⟩ := List.mem_iff_getElem.mp hp
  exact sh_sign GG T hs j k p (by rw [List.getElem?_eq_getElem hj, ej])
end GP

/-! DSC: what is made is shared at once. -/
namespace DL
open PySem PySem.Spec PyProof.Rows L2
section
variable {Om : Type} {W : Wld Om} {B : AS} {Z : XK} {X : Cx}
def dFz (f : DE Om) : DE Om := fun en om => (f en om).map fun p => (frz p.1, p.2.1, p.2.2)
theorem de_fz {e : Expr} {f : DE Om} (he : PE X e (tD W B f)) : PE X e (tD W B (dFz f)) := he.le fun σ H Q q => by
  obtain ⟨en, om, G, F, c, en', om', S, hf, k⟩ := q
  obtain ⟨⟨d, en1, om1⟩, h1, e⟩ := Option.map_eq_some_iff.mp hf
  cases e
  exact tD.use S h1 fun v H' G' F' n S' r => k v H' G' F' [] n S' (Has.sh r)
theorem dt_inN (hu : X.A.units + 1 < cLine) (i : Nat) {e : Expr} {x : Str} {p pos : Pos} {f : DE Om} (he : PE X e (tD W B f)) (hN : X.N[i]? = some x := by rfl) (hv : Vis X.env.scope x := by first | exact Or.inl rfl | exact Or.inr (Or.inl rfl) | exact Or.inr (Or.inr rfl))
    (hd : (x == ("__debug__" : Str)) = false := by decide) (hcd : (x == ("__classdict__" : Str)) = false := by decide) : PT X (.Compare e [.In] [.Name x p] pos) (tDT W B (dB (dInN false i f))) :=
  (pt_cmpR (or_din hu) he (pe_var hN hv hd hcd) (by rfl)).le fun σ H Q q => by
    obtain ⟨en, om, G, F, b, en', om', S, hf, k⟩ := q
    have hq := dB_some hf
    unfold dInN at hq
    obtain ⟨⟨d, en1, om1⟩, h1, hg⟩ := bind_some hq
    clear hq hf
    dsimp only at hg
    split at hg
    · rename_i j g ks l hb
      cases hg
      refine tD.hold S h1 fun v H' G' F' R n S' x => ?_
      have rv := x.rel
      cases rv
      obtain ⟨v2, P, R2, T, _, e2, r2⟩ := S'.get hb
      obtain ⟨a, o, rfl, dg, ho⟩ := dic_get S'.sub r2 j
      refine ⟨_, e2, a, o, rfl, dg, _, rfl, ?_⟩
      simp only [Bool.false_eq_true, if_false] at k ⊢
      rw [ho]
      exact k H' G' F' n.drop S'
    · cases hg
end
end DL

/-! DSD: sorted of tuples of three whole numbers. -/
namespace DL
open PySem PySem.Spec PyProof.Rows L2 Srt SrtO
abbrev Tri := Int × Int × Int
/-- a tuple of three whole numbers that stands there -/
def IsTri (h : Heap) (v : Value) (m : Tri) : Prop := ∃ a o t u r n, v = .ref a ∧ h.get? a = some o ∧ o.cls = .type "tuple" ∧ o.data = .seq #[.int m.1 t, .int m.2.1 u, .int m.2.2 r] n
theorem IsTri.keeps {h h2 : Heap} {v : Value} {m : Tri} (p : IsTri h v m) (kp : ∀ b o, h.get? b = some o → o.cls = .type "tuple" → h2.get? b = some o) : IsTri h2 v m := by
  obtain ⟨a, o, t, u, r, n, e, ho, hc, hd⟩ := p
  exact ⟨a, o, t, u, r, n, e, kp _ _ ho hc, hc, hd⟩
def lex3 (p q : Tri) : Bool := if p.1 = q.1 then lexB p.2 q.2 else decide (p.1 < q.1)
theorem lex3_iff {p q : Tri} : lex3 p q = true ↔ p.1 < q.1 ∨ (p.1 = q.1 ∧ (p.2.1 < q.2.1 ∨ (p.2.1 = q.2.1 ∧ p.2.2 < q.2.2))) := by
  unfold lex3
  split
  · rw [lexB_iff]; omega
  · simp; omega
theorem lex3_no {p q : Tri} : lex3 p q = false ↔ ¬ (p.1 < q.1 ∨ (p.1 = q.1 ∧ (p.2.1 < q.2.1 ∨ (p.2.1 = q.2.1 ∧ p.2.2 < q.2.2)))) := by
  rw [← lex3_iff]; simp
theorem swo3 {α : Type} (k : α → Tri) : Swo fun v u => lex3 (k v) (k u) := by
  refine ⟨fun x y h => ?_, fun x y z h1 h2 => ?_⟩
  · rw [lex3_iff] at h
    rw [lex3_no]
    omega
  · rw [lex3_no] at *
    omega
section
variable {prog : Program} {w : World} {A : Around} {E : Value → Shared → Prop} {s : Shared}
theorem tri_cmp {vs : List Value} {k : Value → Tri} (hp : ∀ v ∈ vs, IsTri s.heap v (k v)) : SrtO.Cmp prog w A s (tuples' true) (fun p => p.1 ∈ vs) (lt2 fun v u => lex3 (k v) (k u)) := by
  intro p q hm hm'
  have h1 := hp _ hm
  have h2 := hp _ hm'
  show wpAny (model prog w) A (keyLt' (tuples' true) p.1 q.1) (fun b s2 => s2 = s ∧ b = lex3 (k p.1) (k q.1)) (fun _ _ => False) s
  generalize k p.1 = m1 at h1 ⊢
  generalize k q.1 = m2 at h2 ⊢
  obtain ⟨x1, y1, z1⟩ := m1
  obtain ⟨x2, y2, z2⟩ := m2
  obtain ⟨a1, o1, t1, u1, r1, n1, e1, ho1, hc1, hd1⟩ := h1
  obtain ⟨a2, o2, t2, u2, r2, n2, e2, ho2, hc2, hd2⟩ := h2
  rw [e1, e2]
  refine PySem.W.kat_lt ho1 hd1 ho2 hd2 ?_
  show PySem.W.KatLex prog w A true (decide (3 < 3)) _ [(.int x1 t1, .int x2 t2), (.int y1 u1, .int y2 u2), (.int z1 r1, .int z2 r2)] 0 s
  refine PySem.W.kat_cons (SeqAt.EqAt.int_int x1 t1 x2 t2 prog w _ _ ?_)
  refine PySem.W.kat_go (fun g1 => ?_) (fun g1 => ?_)
  · obtain rfl : x1 = x2 := by simpa using g1
    refine PySem.W.kat_yes (PySem.W.kat_cons (SeqAt.EqAt.int_int y1 u1 y2 u2 prog w _ _ ?_))
    refine PySem.W.kat_go (fun g2 => ?_) (fun g2 => ?_)
    · obtain rfl : y1 = y2 := by simpa using g2
      refine PySem.W.kat_yes (PySem.W.kat_cons (SeqAt.EqAt.int_int z1 r1 z2 r2 prog w _ _ ?_))
      refine PySem.W.kat_go (fun g3 => ?_) (fun g3 => ?_)
      · obtain rfl : z1 = z2 := by simpa using g3
        exact PySem.W.kat_yes (PySem.W.kat_nil ⟨rfl, by simp [lex3, lexB]⟩)
      · refine PySem.W.kat_no (PySem.W.kat_one _ _ (PyProof.Rows.lt_int ?_))
        exact (show s = s ∧ decide (z1 < z2) = lex3 (x1, y1, z1) (x1, y1, z2) from ⟨rfl, by simp [lex3, lexB]⟩)
    · have ey : ¬ y1 = y2 := by simpa using g2
      refine PySem.W.kat_no (PySem.W.kat_one _ _ (PyProof.Rows.lt_int ?_))
      exact (show s = s ∧ decide (y1 < y2) = lex3 (x1, y1, z1) (x1, y2, z2) from ⟨rfl, by simp [lex3, lexB, ey]⟩)
  · have ex : ¬ x1 = x2 := by simpa using g1
    exact PySem.W.kat_no (oneLt_int ⟨rfl, by simp [lex3, ex]⟩)
theorem tri_firsts {h : Heap} : ∀ {vs : List Value}, (∀ v ∈ vs, ∃ m, IsTri h v m) → ∃ fs : List Value, PySem.W.KatTups h vs fs ∧ fs.length = vs.length ∧ ∀ f ∈ fs, ∃ x t, f = Value.int x t
  | [], _ => ⟨[], .nil, rfl, fun _ z => absurd z (by simp)⟩
  | v :: us, hp => by
    obtain ⟨fs, h1, h2, h3⟩ := tri_firsts (vs := us) fun u hu => hp u (List.mem_cons_of_mem _ hu)
    obtain ⟨m, a, o, t, u, r, n, rfl, ho, hc, hd⟩ := hp v (List.mem_cons_self ..)
    refine ⟨.int m.1 t :: fs, .cons ho hc hd rfl h1, by simp [h2], fun f hf => ?_⟩
    rcases List.mem_cons.mp hf with e | e
    · exact ⟨m.1, t, e⟩
    · exact h3 f e
theorem tri_sortable {a : Addr} {vs : List Value} {k : Value → Tri} (h0 : 0 < vs.length) (hp : ∀ v ∈ vs, IsTri s.heap v (k v)) (ha : ∀ o, s.heap.get? a = some o → o.cls ≠ .type "tuple") : SortableO prog w A s a vs fun v u => lex3 (k v) (k u) := by
  intro h2 kp
  have hp2 : ∀ v ∈ vs, IsTri h2 v (k v) := fun v hv => (hp v hv).keeps fun b o e c => kp b o (fun z => ha o (z ▸ e) c) e
  obtain ⟨fs, q1, q2, q3⟩ := tri_firsts (h := h2) fun v hv => ⟨_, hp2 v hv⟩
  refine ⟨tuples' true, fun Q E hq => ?_, tri_cmp hp2⟩
  refine PySem.W.kat_kind (T := .type "int") q1 (by omega) (fun f hf => ?_) (by rfl) ?_
  · obtain ⟨x, t, rfl⟩ := q3 f hf
    exact PySem.W.Looks.now
  · rw [show (Value.type "int" != Value.type "tuple") = true by first | decide +kernel | rfl]
    exact hq
theorem sorted_tris {l : Addr} {vs : List Value} {k : Value → Tri} {Q : Value → Shared → Prop} (hl : s.heap.IsList l vs.toArray) (hz : vs.length ≤ sizeLine) (hp : ∀ v ∈ vs, IsTri s.heap v (k v))
    (h : ∀ (h2 : Heap) (d : Addr) (out : List Value), Srtd (fun v u => lex3 (k v) (k u)) out → Stb (fun v u => lex3 (k v) (k u)) out vs → (∀ b o, s.heap.get? b = some o → h2.get? b = some o) → s.heap.objs.size ≤ d → (∃ n, h2.get? d = some (seqObj "list" out.toArray n)) → Q (.ref d) { s with heap := h2 }) :
    wpAny (model prog w) A (call (.builtin "sorted") [.ref l]) Q E s := by
  refine sorted_ord (swo3 k) hl hz (fun g2 h₁ a ha kk => ?_) fun out hs hb => ?_
  · refine tri_sortable (s := { s with heap := h₁ }) (by omega) (fun v hv => (hp v hv).keeps fun b o e _ => (kk b o e).2) fun o e c => ?_
    cases (show some o = some (seqObj "list" vs.toArray 0) from e.symm.trans ha)
    exact absurd (Value.type.inj c) (by decide)
  · exact h _ _ out hs hb (fun _ _ e => sortedAll_old e) (Nat.le_succ _) (sortedAll_at s.heap vs out.toArray)
end
/-- sorted(xs) of tuples of three whole numbers -/
def rSorted3 (K : PySem.W.Frag) : List V → Hp → VK → Prop := fun vs H Q => ∃ (a : Addr) (xs : List V) (k : V → Tri), vs = [V.ref a] ∧ SqL K H a xs ∧ (∀ x ∈ xs, ∃ t, x = V.ref t ∧ H t = some (.tup [.int (k x).1, .int (k x).2.1, .int (k x).2.2])) ∧
  ∀ ys p, Srtd (fun x y => lex3 (k x) (k y)) ys → Stb (fun x y => lex3 (k x) (k y)) ys xs → H p = none → Q (.ref p) (upd H p (.lst ys))
theorem cr_sorted3 {X : Cx} : CallR X (.builtin "sorted") (rSorted3 X.K) := by
  intro pins s σ H vs us Q I r h
  obtain ⟨a, xs, k, rfl, hs, hx, q⟩ := h
  obtain ⟨its, rv, hl, hz⟩ := I.list hs
  obtain ⟨u, rfl, ru⟩ := vals1 r
  obtain rfl : u = Value.ref a := ru
  obtain ⟨e1, e2⟩ := refs_back rv fun x m => (hx x m).elim fun t e => ⟨t, e.1⟩
  refine sorted_tris (k := fun u => k (backV u)) hl.isList (by rw [← rv.length]; exact hz) (fun v hv => ?_) fun h2 d out g1 g2 kp hd hn => ?_
  · obtain ⟨t, rfl⟩ := e2 v hv
    obtain ⟨t2, e, ht⟩ := hx (V.ref t) (by rw [e1]; exact List.mem_map.mpr ⟨_, hv, rfl⟩)
    cases e
    obtain ⟨_, its2, r2, o, ho, hc, n, hd⟩ := I.hok _ _ ht
    obtain ⟨u1, u2, u3, rfl, ri, rj, rl⟩ : ∃ u1 u2 u3, its2 = [u1, u2, u3] ∧ RelV (.int (k (V.ref t)).1) u1 ∧ RelV (.int (k (V.ref t)).2.1) u2 ∧ RelV (.int (k (V.ref t)).2.2) u3 := by
      cases r2 with
      | cons ra r2 =>
        cases r2 with
        | cons rb r2 =>
          cases r2 with
          | cons rc r2 =>
            cases r2
            exact ⟨_, _, _, rfl, ra, rb, rc⟩
    obtain ⟨t1, rfl⟩ := ri
    obtain ⟨t2, rfl⟩ := rj
    obtain ⟨t3, rfl⟩ := rl
    exact ⟨t, o, t1, t2, t3, n, rfl, ho, hc, hd⟩
  · have g3 : ∀ u ∈ out, ∃ a, u = Value.ref a := fun u hu => e2 u (g2.perm.mem_iff.mp hu)
    obtain ⟨n, hn⟩ := hn
    have hb : Stb (fun x y => lex3 (k x) (k y)) (out.map backV) xs := by
      rw [e1]
      exact Stb.map (swo3 k) backV g2
    refine ⟨.ref d, upd H d (.lst (out.map backV)), I.laid (t' := s.toks) kp hd ⟨?_, out, n, vals_back g3, hn⟩, rfl, q _ d (srtd_map g1) hb (I.hok.fresh hd)⟩
    rw [hb.len]
    exact hz
/-! ### as data -/
def trisOf : List D → Option (List Tri)
  | [] => some []
  | .tup [.int i, .int j, .int l] :: ds => (trisOf ds).map fun r => (i, j, l) :: r
  | _ :: _ => none
def triD (p : Tri) : D := .tup [.int p.1, .int p.2.1, .int p.2.2]
def ins3 (a : Tri) : List Tri → List Tri
  | [] => [a]
  | b :: l => if lex3 b a = true then b :: ins3 a l else a :: b :: l
def sort3 : List Tri → List Tri
  | [] => []
  | a :: l => ins3 a (sort3 l)
theorem ins3_perm (a : Tri) : ∀ l : List Tri, (ins3 a l).Perm (a :: l)
  | [] => .refl _
  | b :: l => by
    unfold ins3
    split
    · exact ((ins3_perm a l).cons b).trans (.swap a b l)
    · exact .refl _
theorem sort3_perm : ∀ l : List Tri, (sort3 l).Perm l
  | [] => .refl _
  | a :: l => (ins3_perm a (sort3 l)).trans ((sort3_perm l).cons a)
abbrev Srt3 (l : List Tri) : Prop := Srtd lex3 l
theorem ins3_sorted (a : Tri) : ∀ l : List Tri, Srt3 l → Srt3 (ins3 a l)
  | [], _ => by simp [ins3]
  | b :: l, h => by
    unfold ins3
    have g := List.pairwise_cons.mp h
    split
    · rename_i hab
      refine List.pairwise_cons.mpr ⟨fun c hc => ?_, ins3_sorted a l g.2⟩
      rcases List.mem_cons.mp ((ins3_perm a l).mem_iff.mp hc) with rfl | e
      · exact (swo3 id).asym _ _ hab
      · exact g.1 c e
    · rename_i hab
      have hab : lex3 b a = false := by simpa using hab
      refine List.pairwise_cons.mpr ⟨fun c hc => ?_, h⟩
      rcases List.mem_cons.mp hc with rfl | e
      · exact hab
      · exact (swo3 id).tr a b c hab (g.1 c e)
theorem sort3_sorted : ∀ l : List Tri, Srt3 (sort3 l)
  | [] => .nil
  | a :: l => ins3_sorted a _ (sort3_sorted l)
theorem lex3_eq {a b : Tri} (h1 : lex3 b a = false) (h2 : lex3 a b = false) : a = b := by
  rw [lex3_no] at *
  obtain ⟨a1, a2, a3⟩ := a
  obtain ⟨b1, b2, b3⟩ := b
  simp only [Prod.mk.injEq] at *
  omega
theorem sorted3_uniq : ∀ {l m : List Tri}, Srt3 l → Srt3 m → l.Perm m → l = m
  | [], m, _, _, p => p.nil_eq
  | a :: l, [], _, _, p => absurd p.length_eq (by simp)
  | a :: l, b :: m, h, g, p => by
    have h1 := List.pairwise_cons.mp h
    have g1 := List.pairwise_cons.mp g
    have e : a = b := by
      rcases List.mem_cons.mp (p.mem_iff.mp List.mem_cons_self) with e | e
      · exact e
      · rcases List.mem_cons.mp (p.mem_iff.mpr List.mem_cons_self) with f | f
        · exact f.symm
        · exact lex3_eq (h1.1 b f) (g1.1 a e)
    subst e
    rw [sorted3_uniq h1.2 g1.2 p.cons_inv]
def cSorted3 : List D → Option D
  | [.lst _ l] => (trisOf l).map fun ps => .lst .o ((sort3 ps).map triD)
  | _ => none
theorem trisOf_eq : ∀ {l : List D} {ps : List Tri}, trisOf l = some ps → l = ps.map triD
  | [], ps, h => by cases h; rfl
  | d :: ds, ps, h => by
    unfold trisOf at h
    split at h
    · rename_i e; cases e
    · rename_i hh
      obtain ⟨rfl, rfl⟩ := List.cons.inj hh
      obtain ⟨q, h1, rfl⟩ := Option.map_eq_some_iff.mp h
      rw [trisOf_eq h1]; rfl
    · cases h
section
variable {Om : Type} {W : Wld Om} {B : AS} {Z : XK} {X : Cx}
theorem tris_key {G H : Hp} : ∀ {vs : List V} {ps : List Tri}, Rels B G H [] vs (ps.map triD) → ∃ k : V → Tri, vs.map k = ps ∧ ∀ x ∈ vs, ∃ t, x = V.ref t ∧ G t = some (.tup [.int (k x).1, .int (k x).2.1, .int (k x).2.2]) := by
  intro vs ps r
  let k : V → Tri := fun v => match v with
    | .ref t => match G t with
      | some (.tup [.int i, .int j, .int l]) => (i, j, l)
      | _ => (0, 0, 0)
    | _ => (0, 0, 0)
  refine ⟨k, ?_⟩
  induction vs generalizing ps with
  | nil =>
    have := r.length
    cases ps with
    | nil => exact ⟨rfl, fun x hx => by simp at hx⟩
    | cons p ps => simp at this
  | cons v vs ih =>
    cases ps with
    | nil => have := r.length; simp at this
    | cons p ps =>
      obtain ⟨r1, r2⟩ := r.inv0
      obtain ⟨e1, e2⟩ := ih r2
      obtain ⟨t, ws, rfl, gt, rw'⟩ := Rel.asT r1
      have ew : ws = [.int p.1, .int p.2.1, .int p.2.2] := by
        obtain ⟨e, _⟩ := Rels.ints (ns := [p.1, p.2.1, p.2.2]) rw'
        exact e
      subst ew
      have ek : k (.ref t) = p := by
        show (match G t with
          | some (.tup [.int i, .int j, .int l]) => (i, j, l)
          | _ => (0, 0, 0)) = p
        rw [gt]
      refine ⟨by rw [List.map_cons, ek, e1], fun x hx => ?_⟩
      rcases List.mem_cons.mp hx with rfl | hx
      · exact ⟨t, rfl, by rw [ek]; exact gt⟩
      · exact e2 x hx
theorem sc_sorted3 {K : PySem.W.Frag} : SC W B cSorted3 (rSorted3 K) := by
  intro en om G H F σ vs ds c Q S r h kk
  unfold cSorted3 at h
  split at h
  · obtain ⟨ps, h1, rfl⟩ := Option.map_eq_some_iff.mp h
    obtain ⟨v, rfl, r1⟩ := one0 r
    obtain ⟨p, ws, rfl, g1, r2⟩ := r1.asL
    rw [trisOf_eq h1] at r2
    obtain ⟨k, e1, e2⟩ := tris_key r2
    refine ⟨p, ws, k, rfl, .of (S.sub _ _ g1), fun x hx => ?_, fun ys q so st hq => ?_⟩
    · obtain ⟨t, e, g⟩ := e2 x hx
      exact ⟨t, e, S.sub _ _ g⟩
    · have e : ys.map k = sort3 ps := sorted3_uniq (srtd_map so) (sort3_sorted ps) ((st.perm.map k).trans (by rw [e1]; exact (sort3_perm ps).symm))
      have rr : Rels B G H [] ys ((sort3 ps).map triD) := by
        rw [← e]
        have mem : ∀ x ∈ ys, x ∈ ws := fun x hx => st.perm.mem_iff.mp hx
        clear so st e
        induction ys with
        | nil => exact .nil
        | cons y ys ih =>
          rw [List.map_cons, List.map_cons]
          refine Rels.cons0 ?_ (ih fun x hx => mem x (List.mem_cons_of_mem _ hx))
          obtain ⟨t, e, g⟩ := e2 y (mem y List.mem_cons_self)
          rw [e] at g ⊢
          exact .tup g (Rels.of_ints [(k (.ref t)).1, (k (.ref t)).2.1, (k (.ref t)).2.2])
      obtain ⟨n, S', hh⟩ := S.lnew hq rr
      exact kk _ _ _ _ n S' hh
  · cases h
theorem de_sorted3 {e : Expr} {es : List Expr} {p pos : Pos} {fa : DA Om} (hm : X.mg "sorted" = none) (ha : PA X (e :: es) (tDA W B fa)) (hgl : Gl X "sorted" := by rfl) (he : starEach (e :: es) X.env = (false, eval e X.env) :: starEach es X.env := by rfl) (hpl : (backTo pos (starEach es X.env)).any (·.1) = false := by rfl) :
    PE X (.Call (.Name "sorted" p) (e :: es) [] pos) (tD W B (dCB cSorted3 fa)) := de_callB cr_sorted3 sc_sorted3 hm (by decide +kernel) ha hgl (by decide) (by decide) he hpl
end
theorem u65_of {k : Nat} {A : Around} (r : Room k A) : A.units + 65 < cLine := by have := r.un; omega
section
variable {Om : Type} {W : Wld Om} {B : AS}
/-- x in xs, by their data -/
def oInP (a b : D) : Option D := (py a).bind fun p => (py b).bind fun q => match q with
  | .list ds => if SeqAt.shaped p = true ∧ SeqAt.shaped (.list ds) = true then some (.bl (ds.any fun z => PyData.eqv z p)) else none
  | _ => none
theorem s2_inP {K : PySem.W.Frag} : S2 W B oInP (L2.rInD K) := by
  intro en om G H F σ x y a b c Q S ra rb h k
  unfold oInP at h
  obtain ⟨p, h1, h⟩ := bind_some h
  obtain ⟨q, h2, h⟩ := bind_some h
  split at h
  · split at h
    · rename_i hs
      cases h
      exact ⟨p, _, ra.dp S.sub h1, rb.dp S.sub h2, hs.1, hs.2, k _ H G [] .refl S (.sh (.bl _))⟩
    · cases h
  · cases h
end
@[simp] theorem trisOf_map {l : List Tri} : trisOf (l.map triD) = some l := by
  induction l with
  | nil => rfl
  | cons p l ih =>
    show (trisOf (l.map triD)).map (fun r => (p.1, p.2.1, p.2.2) :: r) = _
    rw [ih]; rfl
end DL

namespace K
open PySem PySem.Spec PyProof.Rows L2 DL LamX
def top (i : Nat) : Stmt := PySem.Challenge.pw_crosslift_k34_whole_goals_opened_and_clo.main.body.getD i (.Pass ⟨0, 0, 0, 0⟩)
structure Txt (mg : Str → Option Value) : Prop where
  abs : mg "abs" = none
  all : mg "all" = none
  bool : mg "bool" = none
  c_LARGEST_COST : ∃ t, mg "LARGEST_COST" = some (.int 99 t)
  c_LARGEST_NUMBER : ∃ t, mg "LARGEST_NUMBER" = some (.int 1000000 t)
  c_LONGEST_SIDE : ∃ t, mg "LONGEST_SIDE" = some (.int 7 t)
  c_SETTLED : ∃ t, mg "SETTLED" = some (.int (-1) t)
  enumerate : mg "enumerate" = none
  int : mg "int" = none
  isinstance : mg "isinstance" = none
  len : mg "len" = none
  list : mg "list" = none
  max : mg "max" = none
  range : mg "range" = none
  set : mg "set" = none
  sorted : mg "sorted" = none
  sum : mg "sum" = none
  tuple : mg "tuple" = none
  zip : mg "zip" = none
structure Adr where
  sA : Addr
  scA : Addr
  script : List Int
  InvalidGoal : Addr
  InvalidTable : Addr
  NoSolution : Addr
  is_cost : Addr
  is_goal_entry : Addr
def b_is_integer {Om : Type} (Ad : Adr) : SD Om := (sRet (dAndV (dCB cIsi (aCons (dV 0) (aCons (dC (.ty "int")) aNil))) (dAndV (dNotV (dCB cIsi (aCons (dV 0) (aCons (dC (.ty "bool")) aNil)))) (dChain oLe oLe (dV 1) (dV 0) (dV 2)))))
def M_is_integer {Om : Type} (Ad : Adr) : DF Om := mkM 3 3 (b_is_integer Ad)
def b_is_number {Om : Type} (Ad : Adr) : SD Om := (sRet (dCall (M_is_integer Ad) (aCons (dV 0) (aCons (dNeg (dC (.int 1000000))) (aCons (dC (.int 1000000)) aNil)))))
def M_is_number {Om : Type} (Ad : Adr) : DF Om := mkM 1 1 (b_is_number Ad)
def b_is_cost {Om : Type} (Ad : Adr) : SD Om := (sRet (dOrV (dIsN false 0) (dCall (M_is_integer Ad) (aCons (dV 0) (aCons (dC (.int 1)) (aCons (dC (.int 99)) aNil))))))
def M_is_cost {Om : Type} (Ad : Adr) : DF Om := mkM 1 1 (b_is_cost Ad)
def b_is_goal_entry {Om : Type} (Ad : Adr) : SD Om := (sRet (dOrV (dIsN false 0) (dCall (M_is_number Ad) (aCons (dV 0) aNil))))
def M_is_goal_entry {Om : Type} (Ad : Adr) : DF Om := mkM 1 1 (b_is_goal_entry Ad)
def b_is_row {Om : Type} (Ad : Adr) : SD Om := (sRet (dAndV (dCB cIsi (aCons (dV 0) (aCons (dC (.ty "tuple")) aNil))) (dAndV (d2 oEq (dCB cLen (aCons (dV 0) aNil)) (dV 1)) (dCB cAll (aCons (dLc (iSeq (dV 0)) (gN 2) dYes (dCall (M_is_number Ad) (aCons (dV 2) aNil)) [2]) aNil)))))
def M_is_row {Om : Type} (Ad : Adr) : DF Om := mkM 2 3 (b_is_row Ad)
def b_first_wrong_row {Om : Type} (Ad : Adr) : SD Om := (sSeq (sIf (dOrT (dNotT (dB (dCB cIsi (aCons (dV 0) (aCons (dC (.ty "tuple")) aNil))))) (dB (d2 oEq (dCB cLen (aCons (dV 0) aNil)) (dC (.int 0))))) (sRet (dC (.int 0))) sSkip)
    (sSeq (sAsg (d2 oIx (dV 0) (dC (.int 0))) (gN 1))
    (sSeq (sIf (dOrT (dNotT (dB (dCB cIsi (aCons (dV 1) (aCons (dC (.ty "tuple")) aNil))))) (dNotT (dB (dChain oLe oLe (dC (.int 1)) (dCB cLen (aCons (dV 1) aNil)) (dC (.int 7)))))) (sRet (dC (.int 0))) sSkip)
    (sSeq (sFor (iEn (dV 0)) (gT 2 (gsCons (gN 2) (gsCons (gN 3) gsNil)))
    (sIf (dOrT (dB (d2 oEq (dV 2) (dC (.int 7)))) (dNotT (dB (dCall (M_is_row Ad) (aCons (dV 3) (aCons (dCB cLen (aCons (dV 1) aNil)) aNil)))))) (sRet (dM 2)) sSkip))
    (sRet (dC .non))))))
def M_first_wrong_row {Om : Type} (Ad : Adr) : DF Om := mkM 1 4 (b_first_wrong_row Ad)
def S_first_wrong_entry {Om : Type} (Ad : Adr) (f : Addr) : Option (DF Om) := if f = Ad.is_cost then some (M_is_cost Ad) else if f = Ad.is_goal_entry then some (M_is_goal_entry Ad) else none
def b_first_wrong_entry {Om : Type} (Ad : Adr) : SD Om := (sSeq (sIf (dNotT (dB (dCB cIsi (aCons (dV 0) (aCons (dC (.ty "tuple")) aNil))))) (sRet (dC (.int 0))) sSkip)
    (sSeq (sFor (iEn (dV 0)) (gT 2 (gsCons (gN 3) (gsCons (gN 4) gsNil)))
    (sIf (dOrT (dB (d2 oEq (dV 3) (dV 1))) (dNotT (dB (dCallL 2 (S_first_wrong_entry Ad) (aCons (dV 4) aNil))))) (sRet (dM 3)) sSkip))
    (sSeq (sIf (dB (d2 oLt (dCB cLen (aCons (dV 0) aNil)) (dV 1))) (sRet (dCB cLen (aCons (dV 0) aNil))) sSkip)
    (sRet (dC .non)))))
def M_first_wrong_entry {Om : Type} (Ad : Adr) : DF Om := mkM 3 5 (b_first_wrong_entry Ad)
def b_check_costs {Om : Type} (Ad : Adr) : SD Om := (sSeq (sAsg (dCall (M_first_wrong_entry Ad) (aCons (dV 1) (aCons (dV 2) (aCons (dC (.opq Ad.is_cost)) aNil)))) (gN 3))
    (sIf (dB (dIsN true 3)) (sRaise Ad.InvalidTable ["part", "index"] (aCons (dV 0) (aCons (dV 3) aNil))) sSkip))
def M_check_costs {Om : Type} (Ad : Adr) : DX Om := mkX 3 4 (b_check_costs Ad)
def b_check_table {Om : Type} (Ad : Adr) : SD Om := (sSeq (sIf (dOrT (dNotT (dB (dCB cIsi (aCons (dV 0) (aCons (dC (.ty "tuple")) aNil))))) (dB (d2 oNe (dCB cLen (aCons (dV 0) aNil)) (dC (.int 3))))) (sRaise Ad.InvalidTable ["part", "index"] (aCons (dNeg (dC (.int 1))) (aCons (dC (.int 0)) aNil))) sSkip)
    (sSeq (sAsg (dV 0) (gT 3 (gsCons (gN 1) (gsCons (gN 2) (gsCons (gN 3) gsNil)))))
    (sSeq (sAsg (dCall (M_first_wrong_row Ad) (aCons (dV 1) aNil)) (gN 4))
    (sSeq (sIf (dB (dIsN true 4)) (sRaise Ad.InvalidTable ["part", "index"] (aCons (dC (.int 0)) (aCons (dV 4) aNil))) sSkip)
    (sSeq (sExprX (M_check_costs Ad) (aCons (dC (.int 1)) (aCons (dV 2) (aCons (dCB cLen (aCons (dV 1) aNil)) aNil))))
    (sExprX (M_check_costs Ad) (aCons (dC (.int 2)) (aCons (dV 3) (aCons (dCB cLen (aCons (d2 oIx (dV 1) (dC (.int 0))) aNil)) aNil)))))))))
def M_check_table {Om : Type} (Ad : Adr) : DX Om := mkX 1 5 (b_check_table Ad)
def b_check_goal {Om : Type} (Ad : Adr) : SD Om := (sSeq (sIf (dNotT (dB (dCB cIsi (aCons (dV 1) (aCons (dC (.ty "tuple")) aNil))))) (sRaise Ad.InvalidGoal ["row", "column"] (aCons (dC (.int 0)) (aCons (dC (.int 0)) aNil))) sSkip)
    (sSeq (sFor (iEn (dV 1)) (gT 2 (gsCons (gN 2) (gsCons (gN 3) gsNil)))
    (sSeq (sIf (dB (d2 oEq (dV 2) (dCB cLen (aCons (dV 0) aNil)))) (sRaise Ad.InvalidGoal ["row", "column"] (aCons (dV 2) (aCons (dC (.int 0)) aNil))) sSkip)
    (sSeq (sAsg (dCall (M_first_wrong_entry Ad) (aCons (dV 3) (aCons (dCB cLen (aCons (d2 oIx (dV 0) (dC (.int 0))) aNil)) (aCons (dC (.opq Ad.is_goal_entry)) aNil)))) (gN 4))
    (sIf (dB (dIsN true 4)) (sRaise Ad.InvalidGoal ["row", "column"] (aCons (dV 2) (aCons (dV 4) aNil))) sSkip))))
    (sIf (dB (d2 oLt (dCB cLen (aCons (dV 1) aNil)) (dCB cLen (aCons (dV 0) aNil)))) (sRaise Ad.InvalidGoal ["row", "column"] (aCons (dCB cLen (aCons (dV 1) aNil)) (aCons (dC (.int 0)) aNil))) sSkip)))
def M_check_goal {Om : Type} (Ad : Adr) : DX Om := mkX 2 5 (b_check_goal Ad)
def b_line_costs {Om : Type} (Ad : Adr) : SD Om := (sRet (dLst (aStar (d2 oIx (dV 0) (dC (.int 1))) (aStar (d2 oIx (dV 0) (dC (.int 2))) aNil))))
def M_line_costs {Om : Type} (Ad : Adr) : DF Om := mkM 1 1 (b_line_costs Ad)
def b_build_graph {Om : Type} (Ad : Adr) : SD Om := (sSeq (sAsg (dLc (iR1 (aCons (d2 oAdd (dCB cLen (aCons (dV 0) aNil)) (dCB cLen (aCons (d2 oIx (dV 0) (dC (.int 0))) aNil))) aNil)) (gN 9) dYes dDnew [9]) (gN 2))
    (sSeq (sFor (iEn (dV 1)) (gT 2 (gsCons (gN 3) (gsCons (gN 4) gsNil)))
    (sFor (iEn (dV 4)) (gT 2 (gsCons (gN 5) (gsCons (gN 6) gsNil)))
    (sIf (dB (dIsN true 6)) (sSeq (sAsg (d2 oAdd (dCB cLen (aCons (dV 0) aNil)) (dV 5)) (gN 7))
    (sSeq (sAsg (d2 oSub (dV 6) (d2 oIx (d2 oIx (dV 0) (dV 3)) (dV 5))) (gN 8))
    (sSeq (sPut2 2 (dV 8) (.v 3) (.v 7))
    (sPut2 2 (dV 8) (.v 7) (.v 3))))) sSkip)))
    (sRet (dM 2))))
def M_build_graph {Om : Type} (Ad : Adr) : DF Om := mkM 2 10 (b_build_graph Ad)
def b_tree_from {Om : Type} (Ad : Adr) : SD Om := (sSeq (sAsg (dDict1 (dV 1) (dC .non)) (gN 2))
    (sSeq (sAsg (dLst (aCons (dV 1) aNil)) (gN 3))
    (sSeq (sAsg (dC (.int 0)) (gN 4))
    (sSeq (whileN (dB (d2 oLt (dV 4) (dLenN 3))) (sSeq (sAsg (dIxN 3 (dV 4)) (gN 5))
    (sSeq (sAug 4 (fun i j => i + j) (dC (.int 1)))
    (sForK (.ix 0 (.v 5)) false (gN 6)
    (sIf (dB (dInN true 2 (dV 6))) (sSeq (sPut 2 (dV 5) (dV 6))
    (sApp 3 (dV 6))) sSkip)))) 1000)
    (sRet (dM 2))))))
def M_tree_from {Om : Type} (Ad : Adr) : DF Om := mkM 2 7 (b_tree_from Ad)
def b_path_in_tree {Om : Type} (Ad : Adr) : SD Om := (sSeq (sAsg (dLst (aCons (dV 1) aNil)) (gN 2))
    (sSeq (whileN (dB (d2 oIsnt (d2 oIx (dV 0) (dV 1)) (dC .non))) (sSeq (sAsg (d2 oIx (dV 0) (dV 1)) (gN 1))
    (sApp 2 (dV 1))) 1000)
    (sRet (dRev (dV 2)))))
def M_path_in_tree {Om : Type} (Ad : Adr) : DF Om := mkM 2 3 (b_path_in_tree Ad)
def b_shifts_in_tree {Om : Type} (Ad : Adr) : SD Om := (sSeq (sAsg dDnew (gN 3))
    (sSeq (sForK (.nm 1) true (gT 2 (gsCons (gN 4) (gsCons (gN 5) gsNil)))
    (sIf (dB (dIsN false 5)) (sPut 3 (dV 2) (dV 4)) (sPut 3 (d2 oSub (d2 oIx (d2 oIx (dV 0) (dV 5)) (dV 4)) (dIxN 3 (dV 5))) (dV 4))))
    (sRet (dM 3))))
def M_shifts_in_tree {Om : Type} (Ad : Adr) : DF Om := mkM 3 6 (b_shifts_in_tree Ad)
noncomputable def b_group_lines {Om : Type} (Ad : Adr) : SD Om := (sSeq (sAsg (dLst aNil) (gN 1))
    (withSet 2 (fun a => (sSeq (sFor (iR1 (aCons (dCB cLen (aCons (dV 0) aNil)) aNil)) (gN 3)
    (sIf (dB (dNotInS a 2 (dV 3))) (sSeq (sAsg (dCB cSortedD (aCons (dCall (M_tree_from Ad) (aCons (dV 0) (aCons (dV 3) aNil))) aNil)) (gN 4))
    (sSeq (sApp 1 (dV 4))
    (sFor (iSeq (dV 4)) (gN 5)
    (sAddS a 2 (dV 5))))) sSkip))
    (sRet (dM 1))))))
noncomputable def M_group_lines {Om : Type} (Ad : Adr) : DF Om := mkM 1 6 (b_group_lines Ad)
def b_anchor_line {Om : Type} (Ad : Adr) : SD Om := (sSeq (sFor (iSeq (dV 1)) (gN 2)
    (sIf (dB (d2 oIs (d2 oIx (dV 0) (dV 2)) (dC .non))) (sRet (dM 2)) sSkip))
    (sRet (d2 oIx (dV 1) (dC (.int 0)))))
def M_anchor_line {Om : Type} (Ad : Adr) : DF Om := mkM 2 3 (b_anchor_line Ad)
def b_contradiction_in_group {Om : Type} (Ad : Adr) : SD Om := (sSeq (sAsg (dCall (M_tree_from Ad) (aCons (dV 0) (aCons (dCall (M_anchor_line Ad) (aCons (dV 1) (aCons (dV 2) aNil))) aNil))) (gN 3))
    (sSeq (sAsg (dCall (M_shifts_in_tree Ad) (aCons (dV 0) (aCons (dV 3) (aCons (dC (.int 0)) aNil)))) (gN 4))
    (sSeq (sFor (iSeq (dV 2)) (gN 5)
    (sSeq (sIf (dAndT (dB (d2 oIs (d2 oIx (dV 1) (dV 5)) (dC .non))) (dB (d2 oNe (d2 oIx (dV 4) (dV 5)) (dC (.int 0))))) (sRet (dCall (M_path_in_tree Ad) (aCons (dV 3) (aCons (dV 5) aNil)))) sSkip)
    (sForK (.ix 0 (.v 5)) true (gT 2 (gsCons (gN 6) (gsCons (gN 7) gsNil)))
    (sIf (dB (d2 oNe (d2 oAdd (d2 oIx (dV 4) (dV 5)) (d2 oIx (dV 4) (dV 6))) (dV 7))) (sRet (d2 oAdd (dCall (M_path_in_tree Ad) (aCons (dV 3) (aCons (dV 5) aNil))) (dRev (dCall (M_path_in_tree Ad) (aCons (dV 3) (aCons (dV 6) aNil)))))) sSkip))))
    (sRet (dC .non)))))
def M_contradiction_in_group {Om : Type} (Ad : Adr) : DF Om := mkM 3 8 (b_contradiction_in_group Ad)
noncomputable def b_contradiction_in_graph {Om : Type} (Ad : Adr) : SD Om := (sSeq (sFor (iSeq (dCall (M_group_lines Ad) (aCons (dV 0) aNil))) (gN 2)
    (sSeq (sAsg (dCall (M_contradiction_in_group Ad) (aCons (dV 0) (aCons (dV 1) (aCons (dV 2) aNil)))) (gN 3))
    (sIf (dB (dIsN true 3)) (sRet (dM 3)) sSkip)))
    (sRet (dC .non)))
noncomputable def M_contradiction_in_graph {Om : Type} (Ad : Adr) : DF Om := mkM 2 4 (b_contradiction_in_graph Ad)
def b_shift_cells {Om : Type} (Ad : Adr) : SD Om := (sSeq (sAsg (dLst aNil) (gN 2))
    (sSeq (sFor (iEn (dV 0)) (gT 2 (gsCons (gN 3) (gsCons (gN 4) gsNil)))
    (sApp 2 (dCB cTup (aCons (dLc (iEn (dV 4)) (gT 2 (gsCons (gN 5) (gsCons (gN 6) gsNil))) dYes (d2 oAdd (d2 oAdd (dV 6) (d2 oIx (dV 1) (dV 3))) (d2 oIx (dV 1) (d2 oAdd (dCB cLen (aCons (dV 0) aNil)) (dV 5)))) [5, 6]) aNil))))
    (sRet (dCB cTup (aCons (dV 2) aNil)))))
def M_shift_cells {Om : Type} (Ad : Adr) : DF Om := mkM 2 7 (b_shift_cells Ad)
def b_first_bend {Om : Type} (Ad : Adr) : SD Om := (sSeq (sAsg (dC (.int 0)) (gN 2))
    (sSeq (sAsg (dC (.int 0)) (gN 3))
    (sSeq (whileN (dB (d2 oLt (dV 2) (dV 1))) (sSeq (sAug 2 (fun i j => i + j) (d2 oMul (dC (.int 2)) (d2 oIx (d2 oIx (dV 0) (dV 3)) (dC (.int 1)))))
    (sAug 3 (fun i j => i + j) (dC (.int 1)))) 1000)
    (sRet (d2 oIx (d2 oIx (dV 0) (d2 oSub (dV 3) (dC (.int 1)))) (dC (.int 0)))))))
def M_first_bend {Om : Type} (Ad : Adr) : DF Om := mkM 2 4 (b_first_bend Ad)
def b_cheapest_range {Om : Type} (Ad : Adr) : SD Om := (sSeq (sAsg (dCB (cInts fun ns => some (.int ns.sum)) (aCons (dLc (iSeq (dV 0)) (gT 2 (gsCons (gN 2) (gsCons (gN 3) gsNil))) dYes (dV 3) [2, 3]) aNil)) (gN 1))
    (sRet (dTup (aCons (dCall (M_first_bend Ad) (aCons (dV 0) (aCons (dV 1) aNil))) (aCons (dCall (M_first_bend Ad) (aCons (dV 0) (aCons (d2 oAdd (dV 1) (dC (.int 1))) aNil))) aNil)))))
def M_cheapest_range {Om : Type} (Ad : Adr) : DF Om := mkM 1 4 (b_cheapest_range Ad)
def b_first_line_range {Om : Type} (Ad : Adr) : SD Om := (sSeq (sAsg (d2 oIx (dV 3) (dC (.int 0))) (gN 4))
    (sSeq (sAsg (dCall (M_anchor_line Ad) (aCons (dV 1) (aCons (dV 3) aNil))) (gN 5))
    (sSeq (sAsg (dCall (M_shifts_in_tree Ad) (aCons (dV 0) (aCons (dCall (M_tree_from Ad) (aCons (dV 0) (aCons (dV 5) aNil))) (aCons (dC (.int 0)) aNil)))) (gN 6))
    (sSeq (sIf (dB (d2 oIs (d2 oIx (dV 1) (dV 5)) (dC .non))) (sRet (dTup (aCons (d2 oIx (dV 6) (dV 4)) (aCons (d2 oIx (dV 6) (dV 4)) aNil)))) sSkip)
    (sSeq (sAsg (dLc (iSeq (dV 3)) (gN 8) dYes (dTup (aCons (dIf (dB (d2 oLt (dV 8) (dV 2))) (dNeg (d2 oIx (dV 6) (dV 8))) (d2 oIx (dV 6) (dV 8))) (aCons (d2 oIx (dV 1) (dV 8)) aNil))) [8]) (gN 7))
    (sRet (dCall (M_cheapest_range Ad) (aCons (dCB cSortedP (aCons (dV 7) aNil)) aNil))))))))
def M_first_line_range {Om : Type} (Ad : Adr) : DF Om := mkM 4 9 (b_first_line_range Ad)
noncomputable def b_cheapest_shifts {Om : Type} (Ad : Adr) : SD Om := (sSeq (sAsg (dCall (M_build_graph Ad) (aCons (dV 0) (aCons (dV 2) aNil))) (gN 3))
    (sSeq (sIf (dB (d2 oIsnt (dCall (M_contradiction_in_graph Ad) (aCons (dV 3) (aCons (dV 1) aNil))) (dC .non))) (sRet (dC .non)) sSkip)
    (sSeq (sAsg (d2 oMul (dLst (aCons (dC (.int 0)) aNil)) (dCB cLen (aCons (dV 1) aNil))) (gN 4))
    (sSeq (sFor (iSeq (dCall (M_group_lines Ad) (aCons (dV 3) aNil))) (gN 5)
    (sSeq (sAsg (d2 oIx (dCall (M_first_line_range Ad) (aCons (dV 3) (aCons (dV 1) (aCons (dCB cLen (aCons (dV 0) aNil)) (aCons (dV 5) aNil))))) (dC (.int 0))) (gN 6))
    (sSeq (sAsg (dCall (M_shifts_in_tree Ad) (aCons (dV 3) (aCons (dCall (M_tree_from Ad) (aCons (dV 3) (aCons (d2 oIx (dV 5) (dC (.int 0))) aNil))) (aCons (dV 6) aNil)))) (gN 7))
    (sFor (iSeq (dV 5)) (gN 8)
    (sSetIx 4 (d2 oIx (dV 7) (dV 8)) (dV 8))))))
    (sSeq (sAsg (dCB (cInts fun ns => some (.int ns.sum)) (aCons (dLc (iZp (aCons (dV 4) (aCons (dV 1) aNil))) (gT 2 (gsCons (gN 10) (gsCons (gN 11) gsNil))) (dB (dIsN true 11)) (d2 oMul (dCB cAbs (aCons (dV 10) aNil)) (dV 11)) [10, 11]) aNil)) (gN 9))
    (sRet (dTup (aCons (dM 9) (aCons (dM 4) aNil)))))))))
noncomputable def M_cheapest_shifts {Om : Type} (Ad : Adr) : DF Om := mkM 3 12 (b_cheapest_shifts Ad)
noncomputable def b_shifts_to_goal {Om : Type} (Ad : Adr) : SD Om := (sSeq (sAsg (dCall (M_cheapest_shifts Ad) (aCons (dV 0) (aCons (dV 1) (aCons (dV 2) aNil)))) (gN 3))
    (sSeq (sIf (dB (dIsN false 3)) (sRaise0 Ad.NoSolution) sSkip)
    (sRet (dM 3))))
noncomputable def M_shifts_to_goal {Om : Type} (Ad : Adr) : DX Om := mkX 3 4 (b_shifts_to_goal Ad)
noncomputable def b_minimum_cost {Om : Type} (Ad : Adr) : SD Om := (sSeq (sExprX (M_check_table Ad) (aCons (dV 0) aNil))
    (sSeq (sExprX (M_check_goal Ad) (aCons (d2 oIx (dV 0) (dC (.int 0))) (aCons (dV 1) aNil)))
    (sRet (dCall (M_cheapest_shifts Ad) (aCons (d2 oIx (dV 0) (dC (.int 0))) (aCons (dCall (M_line_costs Ad) (aCons (dV 0) aNil)) (aCons (dV 1) aNil)))))))
noncomputable def M_minimum_cost {Om : Type} (Ad : Adr) : DX Om := mkX 2 2 (b_minimum_cost Ad)
noncomputable def b_dependence_labels {Om : Type} (Ad : Adr) : SD Om := (sSeq (sAsg (d2 oMul (dLst (aCons (dC (.int (-1))) aNil)) (dCB cLen (aCons (dV 1) aNil))) (gN 2))
    (sSeq (sFor (iSeq (dCall (M_group_lines Ad) (aCons (dV 0) aNil))) (gN 3)
    (sIf (dB (d2 oIsnt (d2 oIx (dV 1) (dCall (M_anchor_line Ad) (aCons (dV 1) (aCons (dV 3) aNil)))) (dC .non))) (sFor (iSeq (dV 3)) (gN 4)
    (sSetIx 2 (d2 oIx (dV 3) (dC (.int 0))) (dV 4))) sSkip))
    (sRet (dM 2))))
noncomputable def M_dependence_labels {Om : Type} (Ad : Adr) : DF Om := mkM 2 5 (b_dependence_labels Ad)
noncomputable def b_forced_cells {Om : Type} (Ad : Adr) : SD Om := (sSeq (sExprX (M_check_table Ad) (aCons (dV 0) aNil))
    (sSeq (sExprX (M_check_goal Ad) (aCons (d2 oIx (dV 0) (dC (.int 0))) (aCons (dV 1) aNil)))
    (sSeq (sAsg (d2 oIx (dV 0) (dC (.int 0))) (gN 2))
    (sSeq (sAsg (dCall (M_line_costs Ad) (aCons (dV 0) aNil)) (gN 3))
    (sSeq (sAsg (dCall (M_shift_cells Ad) (aCons (dV 2) (aCons (d2 oIx (dCallX (M_shifts_to_goal Ad) (aCons (dV 2) (aCons (dV 3) (aCons (dV 1) aNil)))) (dC (.int 1))) aNil))) (gN 4))
    (sSeq (sAsg (dCall (M_dependence_labels Ad) (aCons (dCall (M_build_graph Ad) (aCons (dV 2) (aCons (dV 1) aNil))) (aCons (dV 3) aNil))) (gN 5))
    (sSeq (sAsg (dLst aNil) (gN 6))
    (sSeq (sFor (iEn (dV 1)) (gT 2 (gsCons (gN 7) (gsCons (gN 8) gsNil)))
    (sFor (iEn (dV 8)) (gT 2 (gsCons (gN 9) (gsCons (gN 10) gsNil)))
    (sIf (dAndT (dB (dIsN false 10)) (dB (d2 oEq (d2 oIx (dV 5) (dV 7)) (d2 oIx (dV 5) (d2 oAdd (dCB cLen (aCons (dV 2) aNil)) (dV 9)))))) (sApp 6 (dTup (aCons (dV 7) (aCons (dV 9) (aCons (d2 oIx (d2 oIx (dV 4) (dV 7)) (dV 9)) aNil))))) sSkip)))
    (sRet (dM 6))))))))))
noncomputable def M_forced_cells {Om : Type} (Ad : Adr) : DX Om := mkX 2 11 (b_forced_cells Ad)
def b__law_mix (Ad : Adr) : SD DSh := (sSeq (sAsg (dV 1) (gN 2))
    (sSeq (sFor (iSeq (dV 0)) (gN 3)
    (sAsg (d2 oMod (dCB cInt (aCons (d2 oAdd (d2 oAdd (d2 oMul (dV 2) (dC (.int 48271))) (d2 oMod (dCB cInt (aCons (dV 3) aNil)) (dC (.int 2147483629)))) (dC (.int 1))) aNil)) (dC (.int 2147483647))) (gN 2)))
    (sRet (dLst (aCons (dV 2) (aCons (dCB cLst (aCons (dV 0) aNil)) (aCons (dC (.int 0)) aNil)))))))
def M__law_mix (Ad : Adr) : DF DSh := mkM 2 4 (b__law_mix Ad)
def b__law_next (Ad : Adr) : SD DSh := (sSeq (sAsg (d2 oIx (dHAdd Ad.scA (dHt Ad.sA Ad.scA 0 1) (dLst (aCons (dC (.int 0)) aNil))) (d2 oMod (dCB cInt (aCons (dHt Ad.sA Ad.scA 0 2) aNil)) (dCB cMax2 (aCons (dC (.int 1)) (aCons (dLenH Ad.scA (dHt Ad.sA Ad.scA 0 1)) aNil))))) (gN 2))
    (sSeq (sIf (dB (d2 oGe (dV 2) (d2 oPow (dC (.int 10)) (dC (.int 18))))) (sSeq (sHPut Ad.sA 0 (d2 oDiv (dV 2) (dV 1)) (d2 oMod (dCB cInt (aCons (dHt Ad.sA Ad.scA 0 2) aNil)) (dLenH Ad.scA (dHt Ad.sA Ad.scA 0 1))))
    (sRet (d2 oMod (dCB cInt (aCons (dV 2) aNil)) (dV 1)))) sSkip)
    (sSeq (sHSet Ad.sA 0 0 (d2 oMod (dCB cInt (aCons (d2 oAdd (d2 oAdd (d2 oMul (dHt Ad.sA Ad.scA 0 0) (dC (.int 48271))) (d2 oMul (dV 2) (dC (.int 69621)))) (dC (.int 11))) aNil)) (dC (.int 2147483647))))
    (sSeq (sHSet Ad.sA 0 2 (d2 oAdd (dHt Ad.sA Ad.scA 0 2) (dC (.int 1))))
    (sRet (d2 oMod (dCB cInt (aCons (d2 oDiv (dHt Ad.sA Ad.scA 0 0) (dC (.int 7))) aNil)) (dV 1)))))))
def M__law_next (Ad : Adr) : DF DSh := mkM 2 3 (b__law_next Ad)
def b__law_table (Ad : Adr) : SD DSh := (sSeq (sAsg (dTup (aCons (d2 oAdd (dC (.int 1)) (dCall (M__law_next Ad) (aCons (dV 0) (aCons (dV 1) aNil)))) (aCons (d2 oAdd (dC (.int 1)) (dCall (M__law_next Ad) (aCons (dV 0) (aCons (dV 1) aNil)))) aNil))) (gT 2 (gsCons (gN 2) (gsCons (gN 3) gsNil))))
    (sSeq (sAsg (dCB cTup (aCons (dLc (iR1 (aCons (dV 2) aNil)) (gN 6) dYes (dCB cTup (aCons (dLc (iR1 (aCons (dV 3) aNil)) (gN 7) dYes (d2 oSub (dCall (M__law_next Ad) (aCons (dV 0) (aCons (dC (.int 19)) aNil))) (dC (.int 9))) [7]) aNil)) [6]) aNil)) (gN 4))
    (sSeq (sAsg (dLc (iR1 (aCons (d2 oAdd (dV 2) (dV 3)) aNil)) (gN 8) dYes (dIf (dB (d2 oEq (dCall (M__law_next Ad) (aCons (dV 0) (aCons (dC (.int 7)) aNil))) (dC (.int 0)))) (dC .non) (d2 oAdd (dC (.int 1)) (dCall (M__law_next Ad) (aCons (dV 0) (aCons (dC (.int 5)) aNil))))) [8]) (gN 5))
    (sRet (dTup (aCons (dM 4) (aCons (dCB cTup (aCons (dSl (dV 5) none (some (dV 2))) aNil)) (aCons (dCB cTup (aCons (dSl (dV 5) (some (dV 2)) none) aNil)) aNil))))))))
def M__law_table (Ad : Adr) : DF DSh := mkM 2 9 (b__law_table Ad)
def b__law_shifted (Ad : Adr) : SD DSh := (sSeq (sAsg (dTup (aCons (dLst aNil) (aCons (dCB cLen (aCons (dV 0) aNil)) aNil))) (gT 2 (gsCons (gN 2) (gsCons (gN 3) gsNil))))
    (sSeq (sFor (iR1 (aCons (dV 3) aNil)) (gN 4)
    (sApp 2 (dCB cTup (aCons (dLc (iR1 (aCons (dCB cLen (aCons (d2 oIx (dV 0) (dC (.int 0))) aNil)) aNil)) (gN 5) dYes (d2 oAdd (d2 oAdd (d2 oIx (d2 oIx (dV 0) (dV 4)) (dV 5)) (d2 oIx (dV 1) (dV 4))) (d2 oIx (dV 1) (d2 oAdd (dV 3) (dV 5)))) [5]) aNil))))
    (sRet (dCB cTup (aCons (dV 2) aNil)))))
def M__law_shifted (Ad : Adr) : DF DSh := mkM 2 6 (b__law_shifted Ad)
def b__law_goal (Ad : Adr) : SD DSh := (sSeq (sPar 3 4 (aCons (d2 oIx (dV 1) (dC (.int 0))) (aCons (d2 oAdd (d2 oIx (dV 1) (dC (.int 1))) (d2 oIx (dV 1) (dC (.int 2)))) aNil)))
    (sSeq (sAsg (dLc (iSeq (dV 4)) (gN 10) dYes (dIf (dB (dIsN false 10)) (dC (.int 0)) (d2 oSub (dCall (M__law_next Ad) (aCons (dV 0) (aCons (dC (.int 11)) aNil))) (dC (.int 5)))) [10]) (gN 5))
    (sSeq (sAsg (dLst aNil) (gN 6))
    (sSeq (sFor (iSeq (dCall (M__law_shifted Ad) (aCons (dV 3) (aCons (dV 5) aNil)))) (gN 7)
    (sApp 6 (dLc (iSeq (dV 7)) (gN 11) dYes (dIf (dB (d2 oGt (dCall (M__law_next Ad) (aCons (dV 0) (aCons (dC (.int 5)) aNil))) (dC (.int 1)))) (dV 11) (dC .non)) [11])))
    (sSeq (sIf (dB (dV 2)) (sSeq (sPar 8 9 (aCons (dCall (M__law_next Ad) (aCons (dV 0) (aCons (dLenN 6) aNil))) (aCons (dCall (M__law_next Ad) (aCons (dV 0) (aCons (dLenN2 6 (.c 0)) aNil))) aNil)))
    (sSetIx2 6 (d2 oSub (dCall (M__law_next Ad) (aCons (dV 0) (aCons (dC (.int 30)) aNil))) (dC (.int 15))) (.v 8) (.v 9))) sSkip)
    (sRet (dCB cTup (aCons (dLc (iSeq (dV 6)) (gN 7) dYes (dCB cTup (aCons (dV 7) aNil)) [7]) aNil))))))))
def M__law_goal (Ad : Adr) : DF DSh := mkM 3 12 (b__law_goal Ad)
def b__law_opened (Ad : Adr) : SD DSh := (sSeq (sAsg (d2 oAdd (d2 oAdd (dSl (d2 oIx (dV 0) (dV 1)) none (some (dV 2))) (dTup (aCons (dV 3) aNil))) (dSl (d2 oIx (dV 0) (dV 1)) (some (d2 oAdd (dV 2) (dC (.int 1)))) none)) (gN 4))
    (sRet (d2 oAdd (d2 oAdd (dSl (dV 0) none (some (dV 1))) (dTup (aCons (dV 4) aNil))) (dSl (dV 0) (some (d2 oAdd (dV 1) (dC (.int 1)))) none))))
def M__law_opened (Ad : Adr) : DF DSh := mkM 4 5 (b__law_opened Ad)
noncomputable def b_law (Ad : Adr) (out : Addr → List (Str × V) → Option D) : SD DSh := (sSeq (sFor (iR1 (aCons (dC (.int 3)) aNil)) (gN 2)
    (sSeq (sAsg (dCall (M__law_table Ad) (aCons (dV 1) (aCons (dC (.int 3)) aNil))) (gN 3))
    (sSeq (sAsg (dCall (M__law_goal Ad) (aCons (dV 1) (aCons (dV 3) (aCons (dC (.bl false)) aNil)))) (gN 4))
    (sSeq (sAsg (dCallX (M_minimum_cost Ad) (aCons (dV 3) (aCons (dV 4) aNil))) (gT 2 (gsCons (gN 5) (gsCons (gN 6) gsNil))))
    (sSeq (sAsg (dTup (aCons (dCall (M__law_shifted Ad) (aCons (d2 oIx (dV 3) (dC (.int 0))) (aCons (dV 6) aNil))) (aCons (dCallX (M_forced_cells Ad) (aCons (dV 3) (aCons (dV 4) aNil))) aNil))) (gT 2 (gsCons (gN 7) (gsCons (gN 8) gsNil))))
    (sSeq (sIf (dB (d2 oNe (dV 8) (dCB cSorted3 (aCons (dV 8) aNil)))) (sRet (dC (.bl false))) sSkip)
    (sSeq (sIf (dB (d2 oNe (dLc (iSeq (dV 8)) (gN 13) (dB (d2 oIsnt (d2 oIx (d2 oIx (dV 4) (d2 oIx (dV 13) (dC (.int 0)))) (d2 oIx (dV 13) (dC (.int 1)))) (dC .non))) (dV 13) [13]) (dLst aNil))) (sRet (dC (.bl false))) sSkip)
    (sSeq (sFor (iR1 (aCons (dCB cLen (aCons (dV 4) aNil)) aNil)) (gN 9)
    (sFor (iR1 (aCons (dCB cLen (aCons (d2 oIx (dV 4) (dC (.int 0))) aNil)) aNil)) (gN 10)
    (sIf (dB (d2 oIsnt (d2 oIx (d2 oIx (dV 4) (dV 9)) (dV 10)) (dC .non))) (sIf (dB (d2 oGt (d2 oIx (dCallX (M_minimum_cost Ad) (aCons (dV 3) (aCons (dCall (M__law_opened Ad) (aCons (dV 4) (aCons (dV 9) (aCons (dV 10) (aCons (dC .non) aNil))))) aNil))) (dC (.int 0))) (dV 5))) (sRet (dC (.bl false))) sSkip) (sSeq (sAsg (dLc (iSeq (dTup (aCons (dC (.int 0)) (aCons (dC (.int 1)) (aCons (d2 oSub (dC (.int 0)) (dC (.int 1))) aNil))))) (gN 14) dYes (dCallX (M_minimum_cost Ad) (aCons (dV 3) (aCons (dCall (M__law_opened Ad) (aCons (dV 4) (aCons (dV 9) (aCons (dV 10) (aCons (d2 oAdd (d2 oIx (d2 oIx (dV 7) (dV 9)) (dV 10)) (dV 14)) aNil))))) aNil))) [14]) (gN 11))
    (sSeq (sIf (dOrT (dB (d2 oIs (d2 oIx (dV 11) (dC (.int 0))) (dC .non))) (dB (d2 oNe (d2 oIx (d2 oIx (dV 11) (dC (.int 0))) (dC (.int 0))) (dV 5)))) (sRet (dC (.bl false))) sSkip)
    (sIf (dB (d2 oNe (d2 oInP (dTup (aCons (dV 9) (aCons (dV 10) (aCons (d2 oIx (d2 oIx (dV 7) (dV 9)) (dV 10)) aNil)))) (dV 8)) (dAndV (d2 oIs (d2 oIx (dV 11) (dC (.int 1))) (dC .non)) (d2 oIs (d2 oIx (dV 11) (dC (.int 2))) (dC .non))))) (sRet (dC (.bl false))) sSkip))))))
    (sSeq (sAsg (dCB cTup (aCons (dLc (iSeq (dV 7)) (gN 13) dYes (dCB cTup (aCons (dV 13) aNil)) [13]) aNil)) (gN 12))
    (sIf (dOrT (dB (d2 oIs (dCallX (M_minimum_cost Ad) (aCons (dV 3) (aCons (dV 12) aNil))) (dC .non))) (dB (d2 oNe (dCallX (M_forced_cells Ad) (aCons (dV 3) (aCons (dV 12) aNil))) (dLst aNil)))) (sRet (dC (.bl false))) sSkip))))))))))
    (sRet (dC (.bl true))))
section
variable {P : Program} {w : World} {K : PySem.W.Frag} {mg : Str → Option Value} {base : Heap} {Ad : Adr}
abbrev s_is_integer : Stmt := top 9
theorem sc_is_integer : FnScope ["value", "low", "high"] ["value", "low", "high"] (defScope s_is_integer) := ⟨rfl, rfl, rfl, by decide +kernel, rfl, by decide +kernel, by decide +kernel⟩
theorem ok_is_integer {Om : Type} {W : Wld Om} {f : Addr} {fd : FuncData} (F : Fun K "is_integer" "is_integer" s_is_integer f fd) (hm : mg "is_integer" = some (.ref f)) (hb : Binds K fd ["value", "low", "high"] []) (T : Txt mg)  : Def P w K mg base W "is_integer" 1 ["value", "low", "high"] (M_is_integer Ad) := by
  have nd := sc_is_integer.nd
  exact def_of F hm hb sc_is_integer ⟨rfl, rfl⟩ fun cdv A outer s H E Bo hr =>
    (ds_one (ds_ret (de_and (de_callB or_isi sc_isi T.isinstance (by decide +kernel) (da_cons (dv 0) (da_cons (de_ty (T := "int") T.int (by decide +kernel)) da_nil))) (de_and (de_not (de_callB or_isi sc_isi T.isinstance (by decide +kernel) (da_cons (dv 0) (da_cons (de_ty (T := "bool") T.bool (by decide +kernel)) da_nil)))) (de_one (de_chain op_le op_le s2_le s2_le (dv 1) (dv 0) (dv 2)))))))
abbrev s_is_number : Stmt := top 10
theorem sc_is_number : FnScope ["value"] ["value"] (defScope s_is_number) := ⟨rfl, rfl, rfl, by decide +kernel, rfl, by decide +kernel, by decide +kernel⟩
theorem ok_is_number {Om : Type} {W : Wld Om} {f : Addr} {fd : FuncData} (F : Fun K "is_number" "is_number" s_is_number f fd) (hm : mg "is_number" = some (.ref f)) (hb : Binds K fd ["value"] []) (T : Txt mg) (D_is_integer : Def P w K mg base W "is_integer" 1 ["value", "low", "high"] (M_is_integer Ad)) : Def P w K mg base W "is_number" 2 ["value"] (M_is_number Ad) := by
  have nd := sc_is_number.nd
  exact def_of F hm hb sc_is_number ⟨rfl, rfl⟩ fun cdv A outer s H E Bo hr =>
    (ds_one (ds_ret (dcall D_is_integer hr (da_cons (dv 0) (da_cons (de_neg (de_glob T.c_LARGEST_NUMBER)) (da_cons (de_glob T.c_LARGEST_NUMBER) da_nil))))))
abbrev s_is_cost : Stmt := top 11
theorem sc_is_cost : FnScope ["value"] ["value"] (defScope s_is_cost) := ⟨rfl, rfl, rfl, by decide +kernel, rfl, by decide +kernel, by decide +kernel⟩
theorem ok_is_cost {Om : Type} {W : Wld Om} {f : Addr} {fd : FuncData} (F : Fun K "is_cost" "is_cost" s_is_cost f fd) (hm : mg "is_cost" = some (.ref f)) (hb : Binds K fd ["value"] []) (T : Txt mg) (D_is_integer : Def P w K mg base W "is_integer" 1 ["value", "low", "high"] (M_is_integer Ad)) : Def P w K mg base W "is_cost" 2 ["value"] (M_is_cost Ad) := by
  have nd := sc_is_cost.nd
  exact def_of F hm hb sc_is_cost ⟨rfl, rfl⟩ fun cdv A outer s H E Bo hr =>
    (ds_one (ds_ret (de_or (de_isN 0) (de_one (dcall D_is_integer hr (da_cons (dv 0) (da_cons de_int (da_cons (de_glob T.c_LARGEST_COST) da_nil))))))))
abbrev s_is_goal_entry : Stmt := top 12
theorem sc_is_goal_entry : FnScope ["value"] ["value"] (defScope s_is_goal_entry) := ⟨rfl, rfl, rfl, by decide +kernel, rfl, by decide +kernel, by decide +kernel⟩
theorem ok_is_goal_entry {Om : Type} {W : Wld Om} {f : Addr} {fd : FuncData} (F : Fun K "is_goal_entry" "is_goal_entry" s_is_goal_entry f fd) (hm : mg "is_goal_entry" = some (.ref f)) (hb : Binds K fd ["value"] []) (T : Txt mg) (D_is_number : Def P w K mg base W "is_number" 2 ["value"] (M_is_number Ad)) : Def P w K mg base W "is_goal_entry" 3 ["value"] (M_is_goal_entry Ad) := by
  have nd := sc_is_goal_entry.nd
  exact def_of F hm hb sc_is_goal_entry ⟨rfl, rfl⟩ fun cdv A outer s H E Bo hr =>
    (ds_one (ds_ret (de_or (de_isN 0) (de_one (dcall D_is_number hr (da_cons (dv 0) da_nil))))))
abbrev s_is_row : Stmt := top 13
theorem sc_is_row : FnScope ["row", "length", "value"] ["row", "length"] (defScope s_is_row) := ⟨rfl, rfl, rfl, by decide +kernel, rfl, by decide +kernel, by decide +kernel⟩
theorem ok_is_row {Om : Type} {W : Wld Om} {f : Addr} {fd : FuncData} (F : Fun K "is_row" "is_row" s_is_row f fd) (hm : mg "is_row" = some (.ref f)) (hb : Binds K fd ["row", "length"] []) (T : Txt mg) (D_is_number : Def P w K mg base W "is_number" 2 ["value"] (M_is_number Ad)) : Def P w K mg base W "is_row" 3 ["row", "length"] (M_is_row Ad) := by
  have nd := sc_is_row.nd
  exact def_of F hm hb sc_is_row ⟨rfl, rfl⟩ fun cdv A outer s H E Bo hr =>
    (ds_one (ds_ret (de_and (de_callB or_isi sc_isi T.isinstance (by decide +kernel) (da_cons (dv 0) (da_cons (de_ty (T := "tuple") T.tuple (by decide +kernel)) da_nil))) (de_and (de_cmp (op_eqD hr.units) s2_eq (de_len T.len (dv 0)) (dv 1) (nomark _)) (de_one (de_callB (cr_all rfl) sc_all T.all (by decide +kernel) (da_cons (de_lc (own := [("value", 2)]) rfl nd (di_seq (dv 0)) (blkOk_by (N := ["row", "length", "value"]) (sc := defScope s_is_row) (own := [("value", 2)]) (by decide +kernel)) (fun _ _ _ _ _ => (gname 2 nd)) (fun _ _ _ _ _ => dts_nil) (fun _ _ _ _ _ => (dcall D_is_number hr (da_cons (dv 2) da_nil)))) da_nil)))))))
abbrev s_first_wrong_row : Stmt := top 14
theorem sc_first_wrong_row : FnScope ["cells", "first", "index", "row"] ["cells"] (defScope s_first_wrong_row) := ⟨rfl, rfl, rfl, by decide +kernel, rfl, by decide +kernel, by decide +kernel⟩
theorem ok_first_wrong_row {Om : Type} {W : Wld Om} {f : Addr} {fd : FuncData} (F : Fun K "first_wrong_row" "first_wrong_row" s_first_wrong_row f fd) (hm : mg "first_wrong_row" = some (.ref f)) (hb : Binds K fd ["cells"] []) (T : Txt mg) (D_is_row : Def P w K mg base W "is_row" 3 ["row", "length"] (M_is_row Ad)) : Def P w K mg base W "first_wrong_row" 4 ["cells"] (M_first_wrong_row Ad) := by
  have nd := sc_first_wrong_row.nd
  exact def_of F hm hb sc_first_wrong_row ⟨rfl, rfl⟩ fun cdv A outer s H E Bo hr =>
    (ds_cons (ds_if (PW.pt (dw_or (dt_not (dt_val (de_callB or_isi sc_isi T.isinstance (by decide +kernel) (da_cons (dv 0) (da_cons (de_ty (T := "tuple") T.tuple (by decide +kernel)) da_nil))))) (dw_or1 (dt_cmp (op_eqD hr.units) s2_eq (de_len T.len (dv 0)) de_int (nomark _))))) (ds_one (ds_ret de_int)) ds_nil)
    (ds_cons (dset 1 nd (de_ix (hu_of hr) (dv 0) de_int))
    (ds_cons (ds_if (PW.pt (dw_or (dt_not (dt_val (de_callB or_isi sc_isi T.isinstance (by decide +kernel) (da_cons (dv 1) (da_cons (de_ty (T := "tuple") T.tuple (by decide +kernel)) da_nil))))) (dw_or1 (dt_not (dt_chain op_le op_le s2_le s2_le de_int (de_len T.len (dv 1)) (de_glob T.c_LONGEST_SIDE)))))) (ds_one (ds_ret de_int)) ds_nil)
    (ds_cons (ds_for PassesOwn.never rfl (di_enum (dv 0) (by rfl) T.enumerate) (dg_tup rfl (dgs_cons (gname 2 nd) (dgs_cons (gname 3 nd) dgs_nil)))
    (ds_one (ds_if (PW.pt (dw_or (dt_cmp (op_eqD hr.units) s2_eq (dv 2) (de_glob T.c_LONGEST_SIDE) (nomark _)) (dw_or1 (dt_not (dt_val (dcall D_is_row hr (da_cons (dv 3) (da_cons (de_len T.len (dv 1)) da_nil)))))))) (ds_one (ds_ret (dvM 2))) ds_nil)))
    (ds_one (ds_ret de_non))))))
abbrev s_first_wrong_entry : Stmt := top 15
theorem sc_first_wrong_entry : FnScope ["entries", "length", "is_valid", "index", "entry"] ["entries", "length", "is_valid"] (defScope s_first_wrong_entry) := ⟨rfl, rfl, rfl, by decide +kernel, rfl, by decide +kernel, by decide +kernel⟩
theorem ok_first_wrong_entry {Om : Type} {W : Wld Om} {f : Addr} {fd : FuncData} (F : Fun K "first_wrong_entry" "first_wrong_entry" s_first_wrong_entry f fd) (hm : mg "first_wrong_entry" = some (.ref f)) (hb : Binds K fd ["entries", "length", "is_valid"] []) (T : Txt mg) (D_is_cost : Def P w K mg base W "is_cost" 2 ["value"] (M_is_cost Ad)) (D_is_goal_entry : Def P w K mg base W "is_goal_entry" 3 ["value"] (M_is_goal_entry Ad)) (V_is_cost : mg "is_cost" = some (.ref Ad.is_cost)) (V_is_goal_entry : mg "is_goal_entry" = some (.ref Ad.is_goal_entry)) : Def P w K mg base W "first_wrong_entry" 4 ["entries", "length", "is_valid"] (M_first_wrong_entry Ad) := by
  have nd := sc_first_wrong_entry.nd
  have hSL : ∀ f M, S_first_wrong_entry Ad f = some M → ∃ y, Def P w K mg base W y 3 ["value"] M ∧ mg y = some (.ref f) := by
    intro f M h
    unfold S_first_wrong_entry at h
    split at h
    · rename_i e; cases h; subst e; exact ⟨_, D_is_cost.mono (by decide), V_is_cost⟩
    split at h
    · rename_i e; cases h; subst e; exact ⟨_, D_is_goal_entry.mono (by decide), V_is_goal_entry⟩
    cases h
  exact def_of F hm hb sc_first_wrong_entry ⟨rfl, rfl⟩ fun cdv A outer s H E Bo hr =>
    (ds_cons (ds_if (dt_not (dt_val (de_callB or_isi sc_isi T.isinstance (by decide +kernel) (da_cons (dv 0) (da_cons (de_ty (T := "tuple") T.tuple (by decide +kernel)) da_nil))))) (ds_one (ds_ret de_int)) ds_nil)
    (ds_cons (ds_for PassesOwn.never rfl (di_enum (dv 0) (by rfl) T.enumerate) (dg_tup rfl (dgs_cons (gname 3 nd) (dgs_cons (gname 4 nd) dgs_nil)))
    (ds_one (ds_if (PW.pt (dw_or (dt_cmp (op_eqD hr.units) s2_eq (dv 3) (dv 1) (nomark _)) (dw_or1 (dt_not (dt_val (dcallL (i := 2) hSL hr (da_cons (dv 4) da_nil))))))) (ds_one (ds_ret (dvM 3))) ds_nil)))
    (ds_cons (ds_if (dt_cmp op_lt s2_lt (de_len T.len (dv 0)) (dv 1) (nomark _)) (ds_one (ds_ret (de_len T.len (dv 0)))) ds_nil)
    (ds_one (ds_ret de_non)))))
abbrev s_check_costs : Stmt := top 16
theorem sc_check_costs : FnScope ["part", "costs", "length", "index"] ["part", "costs", "length"] (defScope s_check_costs) := ⟨rfl, rfl, rfl, by decide +kernel, rfl, by decide +kernel, by decide +kernel⟩
theorem ok_check_costs {Om : Type} {W : Wld Om} {f : Addr} {fd : FuncData} (F : Fun K "check_costs" "check_costs" s_check_costs f fd) (hm : mg "check_costs" = some (.ref f)) (hb : Binds K fd ["part", "costs", "length"] []) (T : Txt mg) (D_first_wrong_entry : Def P w K mg base W "first_wrong_entry" 4 ["entries", "length", "is_valid"] (M_first_wrong_entry Ad)) (C_InvalidTable : CEx P w K mg base "InvalidTable" Ad.InvalidTable ["part", "index"] 1) (V_is_cost : mg "is_cost" = some (.ref Ad.is_cost)) : DefX P w K mg base W "check_costs" 5 ["part", "costs", "length"] (M_check_costs Ad) := by
  have nd := sc_check_costs.nd
  exact defX_of F hm hb sc_check_costs ⟨rfl, rfl⟩ fun cdv A outer s H E Bo hr =>
    (ds_cons (dset 3 nd (dcall D_first_wrong_entry hr (da_cons (dv 1) (da_cons (dv 2) (da_cons (de_cls V_is_cost) da_nil)))))
    (ds_one (ds_if (dt_notN 3) (ds_one (ds_raise C_InvalidTable (takes_of rfl rfl rfl rfl) hr (dk_cons (dv 0) (dk_cons (dv 3) dk_nil)))) ds_nil)))
abbrev s_check_table : Stmt := top 17
theorem sc_check_table : FnScope ["table", "cells", "row_costs", "column_costs", "index"] ["table"] (defScope s_check_table) := ⟨rfl, rfl, rfl, by decide +kernel, rfl, by decide +kernel, by decide +kernel⟩
theorem ok_check_table {Om : Type} {W : Wld Om} {f : Addr} {fd : FuncData} (F : Fun K "check_table" "check_table" s_check_table f fd) (hm : mg "check_table" = some (.ref f)) (hb : Binds K fd ["table"] []) (T : Txt mg) (D_check_costs : DefX P w K mg base W "check_costs" 5 ["part", "costs", "length"] (M_check_costs Ad)) (D_first_wrong_row : Def P w K mg base W "first_wrong_row" 4 ["cells"] (M_first_wrong_row Ad)) (C_InvalidTable : CEx P w K mg base "InvalidTable" Ad.InvalidTable ["part", "index"] 1) : DefX P w K mg base W "check_table" 6 ["table"] (M_check_table Ad) := by
  have nd := sc_check_table.nd
  exact defX_of F hm hb sc_check_table ⟨rfl, rfl⟩ fun cdv A outer s H E Bo hr =>
    (ds_cons (ds_if (PW.pt (dw_or (dt_not (dt_val (de_callB or_isi sc_isi T.isinstance (by decide +kernel) (da_cons (dv 0) (da_cons (de_ty (T := "tuple") T.tuple (by decide +kernel)) da_nil))))) (dw_or1 (dt_cmp (op_neD hr.units) s2_ne (de_len T.len (dv 0)) de_int (nomark _))))) (ds_one (ds_raise C_InvalidTable (takes_of rfl rfl rfl rfl) hr (dk_cons (de_neg de_int) (dk_cons de_int dk_nil)))) ds_nil)
    (ds_cons (ds_asg (dv 0) (dg_tup rfl (dgs_cons (gname 1 nd) (dgs_cons (gname 2 nd) (dgs_cons (gname 3 nd) dgs_nil)))))
    (ds_cons (dset 4 nd (dcall D_first_wrong_row hr (da_cons (dv 1) da_nil)))
    (ds_cons (ds_if (dt_notN 4) (ds_one (ds_raise C_InvalidTable (takes_of rfl rfl rfl rfl) hr (dk_cons de_int (dk_cons (dv 4) dk_nil)))) ds_nil)
    (ds_cons (ds_exprX D_check_costs (takes_of rfl rfl rfl rfl) hr (da_cons de_int (da_cons (dv 2) (da_cons (de_len T.len (dv 1)) da_nil))))
    (ds_one (ds_exprX D_check_costs (takes_of rfl rfl rfl rfl) hr (da_cons de_int (da_cons (dv 3) (da_cons (de_len T.len (de_ix (hu_of hr) (dv 1) de_int)) da_nil))))))))))
abbrev s_check_goal : Stmt := top 18
theorem sc_check_goal : FnScope ["cells", "goal", "row", "entries", "column"] ["cells", "goal"] (defScope s_check_goal) := ⟨rfl, rfl, rfl, by decide +kernel, rfl, by decide +kernel, by decide +kernel⟩
theorem ok_check_goal {Om : Type} {W : Wld Om} {f : Addr} {fd : FuncData} (F : Fun K "check_goal" "check_goal" s_check_goal f fd) (hm : mg "check_goal" = some (.ref f)) (hb : Binds K fd ["cells", "goal"] []) (T : Txt mg) (D_first_wrong_entry : Def P w K mg base W "first_wrong_entry" 4 ["entries", "length", "is_valid"] (M_first_wrong_entry Ad)) (C_InvalidGoal : CEx P w K mg base "InvalidGoal" Ad.InvalidGoal ["row", "column"] 1) (V_is_goal_entry : mg "is_goal_entry" = some (.ref Ad.is_goal_entry)) : DefX P w K mg base W "check_goal" 5 ["cells", "goal"] (M_check_goal Ad) := by
  have nd := sc_check_goal.nd
  exact defX_of F hm hb sc_check_goal ⟨rfl, rfl⟩ fun cdv A outer s H E Bo hr =>
    (ds_cons (ds_if (dt_not (dt_val (de_callB or_isi sc_isi T.isinstance (by decide +kernel) (da_cons (dv 1) (da_cons (de_ty (T := "tuple") T.tuple (by decide +kernel)) da_nil))))) (ds_one (ds_raise C_InvalidGoal (takes_of rfl rfl rfl rfl) hr (dk_cons de_int (dk_cons de_int dk_nil)))) ds_nil)
    (ds_cons (ds_for (passes_of rfl) rfl (di_enum (dv 1) (by rfl) T.enumerate) (dg_tup rfl (dgs_cons (gname 2 nd) (dgs_cons (gname 3 nd) dgs_nil)))
    (ds_cons (ds_if (dt_cmp (op_eqD hr.units) s2_eq (dv 2) (de_len T.len (dv 0)) (nomark _)) (ds_one (ds_raise C_InvalidGoal (takes_of rfl rfl rfl rfl) hr (dk_cons (dv 2) (dk_cons de_int dk_nil)))) ds_nil)
    (ds_cons (dset 4 nd (dcall D_first_wrong_entry hr (da_cons (dv 3) (da_cons (de_len T.len (de_ix (hu_of hr) (dv 0) de_int)) (da_cons (de_cls V_is_goal_entry) da_nil)))))
    (ds_one (ds_if (dt_notN 4) (ds_one (ds_raise C_InvalidGoal (takes_of rfl rfl rfl rfl) hr (dk_cons (dv 2) (dk_cons (dv 4) dk_nil)))) ds_nil)))))
    (ds_one (ds_if (dt_cmp op_lt s2_lt (de_len T.len (dv 1)) (de_len T.len (dv 0)) (nomark _)) (ds_one (ds_raise C_InvalidGoal (takes_of rfl rfl rfl rfl) hr (dk_cons (de_len T.len (dv 1)) (dk_cons de_int dk_nil)))) ds_nil))))
abbrev s_line_costs : Stmt := top 19
theorem sc_line_costs : FnScope ["table"] ["table"] (defScope s_line_costs) := ⟨rfl, rfl, rfl, by decide +kernel, rfl, by decide +kernel, by decide +kernel⟩
theorem ok_line_costs {Om : Type} {W : Wld Om} {f : Addr} {fd : FuncData} (F : Fun K "line_costs" "line_costs" s_line_costs f fd) (hm : mg "line_costs" = some (.ref f)) (hb : Binds K fd ["table"] []) (T : Txt mg)  : Def P w K mg base W "line_costs" 1 ["table"] (M_line_costs Ad) := by
  have nd := sc_line_costs.nd
  exact def_of F hm hb sc_line_costs ⟨rfl, rfl⟩ fun cdv A outer s H E Bo hr =>
    (ds_one (ds_ret (de_lst (da_star (de_ix (hu_of hr) (dv 0) de_int) (da_star (de_ix (hu_of hr) (dv 0) de_int) da_nil)))))
abbrev s_build_graph : Stmt := top 21
theorem sc_build_graph : FnScope ["cells", "goal", "graph", "row", "entries", "column", "entry", "line", "gap", "_"] ["cells", "goal"] (defScope s_build_graph) := ⟨rfl, rfl, rfl, by decide +kernel, rfl, by decide +kernel, by decide +kernel⟩
theorem ok_build_graph {Om : Type} {W : Wld Om} {f : Addr} {fd : FuncData} (F : Fun K "build_graph" "build_graph" s_build_graph f fd) (hm : mg "build_graph" = some (.ref f)) (hb : Binds K fd ["cells", "goal"] []) (T : Txt mg)  : Def P w K mg base W "build_graph" 1 ["cells", "goal"] (M_build_graph Ad) := by
  have nd := sc_build_graph.nd
  exact def_of F hm hb sc_build_graph ⟨rfl, rfl⟩ fun cdv A outer s H E Bo hr =>
    (ds_cons (by first | exact ds_setLc (i := 2) (own := [("_", 9)]) rfl nd rfl rfl (sw_true rfl rfl rfl (by decide +kernel)) (di_range1 T.range (da_cons (de_op or_add s2_add (de_len T.len (dv 0)) (de_len T.len (de_ix (hu_of hr) (dv 0) de_int))) da_nil)) (blkOk_by (N := ["cells", "goal", "graph", "row", "entries", "column", "entry", "line", "gap", "_"]) (sc := defScope s_build_graph) (own := [("_", 9)]) (by decide +kernel)) (fun _ _ _ _ _ => (gname 9 nd)) (fun _ _ _ _ _ => dts_nil) (fun _ _ _ _ _ => de_dnew) | exact dset 2 nd (de_lc (own := [("_", 9)]) rfl nd (di_range1 T.range (da_cons (de_op or_add s2_add (de_len T.len (dv 0)) (de_len T.len (de_ix (hu_of hr) (dv 0) de_int))) da_nil)) (blkOk_by (N := ["cells", "goal", "graph", "row", "entries", "column", "entry", "line", "gap", "_"]) (sc := defScope s_build_graph) (own := [("_", 9)]) (by decide +kernel)) (fun _ _ _ _ _ => (gname 9 nd)) (fun _ _ _ _ _ => dts_nil) (fun _ _ _ _ _ => de_dnew)))
    (ds_cons (ds_for PassesOwn.never rfl (di_enum (dv 1) (by rfl) T.enumerate) (dg_tup rfl (dgs_cons (gname 3 nd) (dgs_cons (gname 4 nd) dgs_nil)))
    (ds_one (ds_for PassesOwn.never rfl (di_enum (dv 4) (by rfl) T.enumerate) (dg_tup rfl (dgs_cons (gname 5 nd) (dgs_cons (gname 6 nd) dgs_nil)))
    (ds_one (ds_if (dt_notN 6) (ds_cons (dset 7 nd (de_op or_add s2_add (de_len T.len (dv 0)) (dv 5)))
    (ds_cons (dset 8 nd (de_op op_sub s2_sub (dv 6) (de_ix (hu_of hr) (de_ix (hu_of hr) (dv 0) (dv 3)) (dv 5))))
    (ds_cons (ds_put2 2 (hu_of hr) (dv 8) (at_v 3) (at_v 7))
    (ds_one (ds_put2 2 (hu_of hr) (dv 8) (at_v 7) (at_v 3)))))) ds_nil)))))
    (ds_one (ds_ret (dvM 2)))))
abbrev s_tree_from : Stmt := top 22
theorem sc_tree_from : FnScope ["graph", "root", "before", "reached", "at", "line", "other"] ["graph", "root"] (defScope s_tree_from) := ⟨rfl, rfl, rfl, by decide +kernel, rfl, by decide +kernel, by decide +kernel⟩
theorem ok_tree_from {Om : Type} {W : Wld Om} {f : Addr} {fd : FuncData} (F : Fun K "tree_from" "tree_from" s_tree_from f fd) (hm : mg "tree_from" = some (.ref f)) (hb : Binds K fd ["graph", "root"] []) (T : Txt mg)  : Def P w K mg base W "tree_from" 1 ["graph", "root"] (M_tree_from Ad) := by
  have nd := sc_tree_from.nd
  exact def_of F hm hb sc_tree_from ⟨rfl, rfl⟩ fun cdv A outer s H E Bo hr =>
    (ds_cons (dset 2 nd (de_dict1 (dv 1) de_non))
    (ds_cons (dset 3 nd (de_lst (da_cons (dv 1) da_nil)))
    (ds_cons (dset 4 nd de_int)
    (ds_cons (ds_while 1000 PassesOwn.never (dt_cmp op_lt s2_lt (dv 4) (de_lenN 3 T.len) (nomark _)) (ds_cons (dset 5 nd (de_ixN 3 (hu_of hr) (dv 4)))
    (ds_cons (daug 4 ip_add nd de_int)
    (ds_one (ds_forKeys PassesOwn.never rfl (pk_ix 0 (hu_of hr) (at_v 5)) (gname 6 nd)
    (ds_one (ds_if (dt_notinN (hu_of hr) 2 (dv 6)) (ds_cons (ds_put 2 (hu_of hr) (dv 5) (dv 6))
    (ds_one (ds_app (pe_bm PySem.F.plainAttrs_list PySem.F.slot_list_append PySem.F.type_list_append mt_append (pv 3) (pa_cons (dv 6) pa_nil))))) ds_nil)))))))
    (ds_one (ds_ret (dvM 2)))))))
abbrev s_path_in_tree : Stmt := top 23
theorem sc_path_in_tree : FnScope ["tree", "line", "backwards"] ["tree", "line"] (defScope s_path_in_tree) := ⟨rfl, rfl, rfl, by decide +kernel, rfl, by decide +kernel, by decide +kernel⟩
theorem ok_path_in_tree {Om : Type} {W : Wld Om} {f : Addr} {fd : FuncData} (F : Fun K "path_in_tree" "path_in_tree" s_path_in_tree f fd) (hm : mg "path_in_tree" = some (.ref f)) (hb : Binds K fd ["tree", "line"] []) (T : Txt mg)  : Def P w K mg base W "path_in_tree" 1 ["tree", "line"] (M_path_in_tree Ad) := by
  have nd := sc_path_in_tree.nd
  exact def_of F hm hb sc_path_in_tree ⟨rfl, rfl⟩ fun cdv A outer s H E Bo hr =>
    (ds_cons (dset 2 nd (de_lst (da_cons (dv 1) da_nil)))
    (ds_cons (ds_while 1000 PassesOwn.never (dt_cmp op_notN s2_isnt (de_ix (hu_of hr) (dv 0) (dv 1)) de_non (nomark _)) (ds_cons (dset 1 nd (de_ix (hu_of hr) (dv 0) (dv 1)))
    (ds_one (ds_app (pe_bm PySem.F.plainAttrs_list PySem.F.slot_list_append PySem.F.type_list_append mt_append (pv 2) (pa_cons (dv 1) pa_nil))))))
    (ds_one (ds_ret (de_rev (dv 2))))))
abbrev s_shifts_in_tree : Stmt := top 24
theorem sc_shifts_in_tree : FnScope ["graph", "tree", "root_shift", "shifts", "line", "before"] ["graph", "tree", "root_shift"] (defScope s_shifts_in_tree) := ⟨rfl, rfl, rfl, by decide +kernel, rfl, by decide +kernel, by decide +kernel⟩
theorem ok_shifts_in_tree {Om : Type} {W : Wld Om} {f : Addr} {fd : FuncData} (F : Fun K "shifts_in_tree" "shifts_in_tree" s_shifts_in_tree f fd) (hm : mg "shifts_in_tree" = some (.ref f)) (hb : Binds K fd ["graph", "tree", "root_shift"] []) (T : Txt mg)  : Def P w K mg base W "shifts_in_tree" 1 ["graph", "tree", "root_shift"] (M_shifts_in_tree Ad) := by
  have nd := sc_shifts_in_tree.nd
  exact def_of F hm hb sc_shifts_in_tree ⟨rfl, rfl⟩ fun cdv A outer s H E Bo hr =>
    (ds_cons (dset 3 nd de_dnew)
    (ds_cons (ds_forItems PassesOwn.never rfl (pk_nm 1) (dg_tup rfl (dgs_cons (gname 4 nd) (dgs_cons (gname 5 nd) dgs_nil)))
    (ds_one (ds_if (dt_isN 5) (ds_one (ds_put 3 (hu_of hr) (dv 2) (dv 4))) (ds_one (ds_put 3 (hu_of hr) (de_op op_sub s2_sub (de_ix (hu_of hr) (de_ix (hu_of hr) (dv 0) (dv 5)) (dv 4)) (de_ixN 3 (hu_of hr) (dv 5))) (dv 4))))))
    (ds_one (ds_ret (dvM 3)))))
abbrev s_group_lines : Stmt := top 25
theorem sc_group_lines : FnScope ["graph", "groups", "grouped", "line", "group", "member"] ["graph"] (defScope s_group_lines) := ⟨rfl, rfl, rfl, by decide +kernel, rfl, by decide +kernel, by decide +kernel⟩
theorem ok_group_lines {Om : Type} {W : Wld Om} {f : Addr} {fd : FuncData} (F : Fun K "group_lines" "group_lines" s_group_lines f fd) (hm : mg "group_lines" = some (.ref f)) (hb : Binds K fd ["graph"] []) (T : Txt mg) (D_tree_from : ∀ {Om : Type} (W : Wld Om), Def P w K mg base W "tree_from" 1 ["graph", "root"] (M_tree_from Ad)) : Def P w K mg base W "group_lines" 2 ["graph"] (M_group_lines Ad) := by
  have nd := sc_group_lines.nd
  exact def_of F hm hb sc_group_lines ⟨rfl, rfl⟩ fun cdv A outer s H E Bo hr =>
    (ds_cons (dset 1 nd (de_lst da_nil))
    (ds_withSet 2 nd T.set (fun a => (ds_cons (ds_for PassesOwn.never rfl (di_range1 T.range (da_cons (de_len T.len (dv 0)) da_nil)) (gname 3 nd)
    (ds_one (ds_if (dt_notinS 2 (dv 3)) (ds_cons (dset 4 nd (de_sortedD rfl T.sorted (da_cons (dcall (D_tree_from _) hr (da_cons (dv 0) (da_cons (dv 3) da_nil))) da_nil)))
    (ds_cons (ds_app (pe_bm PySem.F.plainAttrs_list PySem.F.slot_list_append PySem.F.type_list_append mt_append (pv 1) (pa_cons (dv 4) pa_nil)))
    (ds_one (ds_for PassesOwn.never rfl (di_seq (dv 4)) (gname 5 nd)
    (ds_one (ds_addS 2 (dv 5))))))) ds_nil)))
    (ds_one (ds_ret (dvM 1)))))))
abbrev s_anchor_line : Stmt := top 26
theorem sc_anchor_line : FnScope ["costs", "group", "line"] ["costs", "group"] (defScope s_anchor_line) := ⟨rfl, rfl, rfl, by decide +kernel, rfl, by decide +kernel, by decide +kernel⟩
theorem ok_anchor_line {Om : Type} {W : Wld Om} {f : Addr} {fd : FuncData} (F : Fun K "anchor_line" "anchor_line" s_anchor_line f fd) (hm : mg "anchor_line" = some (.ref f)) (hb : Binds K fd ["costs", "group"] []) (T : Txt mg)  : Def P w K mg base W "anchor_line" 1 ["costs", "group"] (M_anchor_line Ad) := by
  have nd := sc_anchor_line.nd
  exact def_of F hm hb sc_anchor_line ⟨rfl, rfl⟩ fun cdv A outer s H E Bo hr =>
    (ds_cons (ds_for PassesOwn.never rfl (di_seq (dv 1)) (gname 2 nd)
    (ds_one (ds_if (dt_cmp op_isN s2_is (de_ix (hu_of hr) (dv 0) (dv 2)) de_non (nomark _)) (ds_one (ds_ret (dvM 2))) ds_nil)))
    (ds_one (ds_ret (de_ix (hu_of hr) (dv 1) de_int))))
abbrev s_contradiction_in_group : Stmt := top 27
theorem sc_contradiction_in_group : FnScope ["graph", "costs", "group", "tree", "shifts", "line", "other", "gap"] ["graph", "costs", "group"] (defScope s_contradiction_in_group) := ⟨rfl, rfl, rfl, by decide +kernel, rfl, by decide +kernel, by decide +kernel⟩
theorem ok_contradiction_in_group {Om : Type} {W : Wld Om} {f : Addr} {fd : FuncData} (F : Fun K "contradiction_in_group" "contradiction_in_group" s_contradiction_in_group f fd) (hm : mg "contradiction_in_group" = some (.ref f)) (hb : Binds K fd ["graph", "costs", "group"] []) (T : Txt mg) (D_anchor_line : Def P w K mg base W "anchor_line" 1 ["costs", "group"] (M_anchor_line Ad)) (D_path_in_tree : Def P w K mg base W "path_in_tree" 1 ["tree", "line"] (M_path_in_tree Ad)) (D_shifts_in_tree : Def P w K mg base W "shifts_in_tree" 1 ["graph", "tree", "root_shift"] (M_shifts_in_tree Ad)) (D_tree_from : Def P w K mg base W "tree_from" 1 ["graph", "root"] (M_tree_from Ad)) : Def P w K mg base W "contradiction_in_group" 2 ["graph", "costs", "group"] (M_contradiction_in_group Ad) := by
  have nd := sc_contradiction_in_group.nd
  exact def_of F hm hb sc_contradiction_in_group ⟨rfl, rfl⟩ fun cdv A outer s H E Bo hr =>
    (ds_cons (dset 3 nd (dcall D_tree_from hr (da_cons (dv 0) (da_cons (dcall D_anchor_line hr (da_cons (dv 1) (da_cons (dv 2) da_nil))) da_nil))))
    (ds_cons (dset 4 nd (dcall D_shifts_in_tree hr (da_cons (dv 0) (da_cons (dv 3) (da_cons de_int da_nil)))))
    (ds_cons (ds_for PassesOwn.never rfl (di_seq (dv 2)) (gname 5 nd)
    (ds_cons (ds_if (PW.pt (dw_and (dt_cmp op_isN s2_is (de_ix (hu_of hr) (dv 1) (dv 5)) de_non (nomark _)) (dw_and1 (dt_cmp (op_neD hr.units) s2_ne (de_ix (hu_of hr) (dv 4) (dv 5)) de_int (nomark _))))) (ds_one (ds_ret (dcall D_path_in_tree hr (da_cons (dv 3) (da_cons (dv 5) da_nil))))) ds_nil)
    (ds_one (ds_forItems PassesOwn.never rfl (pk_ix 0 (hu_of hr) (at_v 5)) (dg_tup rfl (dgs_cons (gname 6 nd) (dgs_cons (gname 7 nd) dgs_nil)))
    (ds_one (ds_if (dt_cmp (op_neD hr.units) s2_ne (de_op or_add s2_add (de_ix (hu_of hr) (dv 4) (dv 5)) (de_ix (hu_of hr) (dv 4) (dv 6))) (dv 7) (nomark _)) (ds_one (ds_ret (de_op or_add s2_add (dcall D_path_in_tree hr (da_cons (dv 3) (da_cons (dv 5) da_nil))) (de_rev (dcall D_path_in_tree hr (da_cons (dv 3) (da_cons (dv 6) da_nil))))))) ds_nil))))))
    (ds_one (ds_ret de_non)))))
abbrev s_contradiction_in_graph : Stmt := top 28
theorem sc_contradiction_in_graph : FnScope ["graph", "costs", "group", "path"] ["graph", "costs"] (defScope s_contradiction_in_graph) := ⟨rfl, rfl, rfl, by decide +kernel, rfl, by decide +kernel, by decide +kernel⟩
theorem ok_contradiction_in_graph {Om : Type} {W : Wld Om} {f : Addr} {fd : FuncData} (F : Fun K "contradiction_in_graph" "contradiction_in_graph" s_contradiction_in_graph f fd) (hm : mg "contradiction_in_graph" = some (.ref f)) (hb : Binds K fd ["graph", "costs"] []) (T : Txt mg) (D_contradiction_in_group : Def P w K mg base W "contradiction_in_group" 2 ["graph", "costs", "group"] (M_contradiction_in_group Ad)) (D_group_lines : Def P w K mg base W "group_lines" 2 ["graph"] (M_group_lines Ad)) : Def P w K mg base W "contradiction_in_graph" 3 ["graph", "costs"] (M_contradiction_in_graph Ad) := by
  have nd := sc_contradiction_in_graph.nd
  exact def_of F hm hb sc_contradiction_in_graph ⟨rfl, rfl⟩ fun cdv A outer s H E Bo hr =>
    (ds_cons (ds_for PassesOwn.never rfl (di_seq (dcall D_group_lines hr (da_cons (dv 0) da_nil))) (gname 2 nd)
    (ds_cons (dset 3 nd (dcall D_contradiction_in_group hr (da_cons (dv 0) (da_cons (dv 1) (da_cons (dv 2) da_nil)))))
    (ds_one (ds_if (dt_notN 3) (ds_one (ds_ret (dvM 3))) ds_nil))))
    (ds_one (ds_ret de_non)))
abbrev s_shift_cells : Stmt := top 30
theorem sc_shift_cells : FnScope ["cells", "shifts", "moved", "row", "values", "column", "value"] ["cells", "shifts"] (defScope s_shift_cells) := ⟨rfl, rfl, rfl, by decide +kernel, rfl, by decide +kernel, by decide +kernel⟩
theorem ok_shift_cells {Om : Type} {W : Wld Om} {f : Addr} {fd : FuncData} (F : Fun K "shift_cells" "shift_cells" s_shift_cells f fd) (hm : mg "shift_cells" = some (.ref f)) (hb : Binds K fd ["cells", "shifts"] []) (T : Txt mg)  : Def P w K mg base W "shift_cells" 1 ["cells", "shifts"] (M_shift_cells Ad) := by
  have nd := sc_shift_cells.nd
  exact def_of F hm hb sc_shift_cells ⟨rfl, rfl⟩ fun cdv A outer s H E Bo hr =>
    (ds_cons (dset 2 nd (de_lst da_nil))
    (ds_cons (ds_for PassesOwn.never rfl (di_enum (dv 0) (by rfl) T.enumerate) (dg_tup rfl (dgs_cons (gname 3 nd) (dgs_cons (gname 4 nd) dgs_nil)))
    (ds_one (ds_app (pe_bm PySem.F.plainAttrs_list PySem.F.slot_list_append PySem.F.type_list_append mt_append (pv 2) (pa_cons (de_callTy call_tuple_of sc_tup T.tuple (by decide +kernel) (da_cons (de_lc (own := [("column", 5), ("value", 6)]) rfl nd (di_enum (dv 4) (by rfl) T.enumerate) (blkOk_by (N := ["cells", "shifts", "moved", "row", "values", "column", "value"]) (sc := defScope s_shift_cells) (own := [("column", 5), ("value", 6)]) (by decide +kernel)) (fun _ _ _ _ _ => (dg_tup rfl (dgs_cons (gname 5 nd) (dgs_cons (gname 6 nd) dgs_nil)))) (fun _ _ _ _ _ => dts_nil) (fun _ _ _ _ _ => (de_op or_add s2_add (de_op or_add s2_add (dv 6) (de_ix (hu_of hr) (dv 1) (dv 3))) (de_ix (hu_of hr) (dv 1) (de_op or_add s2_add (de_len T.len (dv 0)) (dv 5)))))) da_nil)) pa_nil)))))
    (ds_one (ds_ret (de_callTy call_tuple_of sc_tup T.tuple (by decide +kernel) (da_cons (dv 2) da_nil))))))
abbrev s_first_bend : Stmt := top 32
theorem sc_first_bend : FnScope ["bends", "wanted", "passed", "at"] ["bends", "wanted"] (defScope s_first_bend) := ⟨rfl, rfl, rfl, by decide +kernel, rfl, by decide +kernel, by decide +kernel⟩
theorem ok_first_bend {Om : Type} {W : Wld Om} {f : Addr} {fd : FuncData} (F : Fun K "first_bend" "first_bend" s_first_bend f fd) (hm : mg "first_bend" = some (.ref f)) (hb : Binds K fd ["bends", "wanted"] []) (T : Txt mg)  : Def P w K mg base W "first_bend" 1 ["bends", "wanted"] (M_first_bend Ad) := by
  have nd := sc_first_bend.nd
  exact def_of F hm hb sc_first_bend ⟨rfl, rfl⟩ fun cdv A outer s H E Bo hr =>
    (ds_cons (dset 2 nd de_int)
    (ds_cons (dset 3 nd de_int)
    (ds_cons (ds_while 1000 PassesOwn.never (dt_cmp op_lt s2_lt (dv 2) (dv 1) (nomark _)) (ds_cons (daug 2 ip_add nd (de_op or_mul s2_mul de_int (de_ix (hu_of hr) (de_ix (hu_of hr) (dv 0) (dv 3)) de_int)))
    (ds_one (daug 3 ip_add nd de_int))))
    (ds_one (ds_ret (de_ix (hu_of hr) (de_ix (hu_of hr) (dv 0) (de_op op_sub s2_sub (dv 3) de_int)) de_int))))))
abbrev s_cheapest_range : Stmt := top 33
theorem sc_cheapest_range : FnScope ["bends", "total", "_", "weight"] ["bends"] (defScope s_cheapest_range) := ⟨rfl, rfl, rfl, by decide +kernel, rfl, by decide +kernel, by decide +kernel⟩
theorem ok_cheapest_range {Om : Type} {W : Wld Om} {f : Addr} {fd : FuncData} (F : Fun K "cheapest_range" "cheapest_range" s_cheapest_range f fd) (hm : mg "cheapest_range" = some (.ref f)) (hb : Binds K fd ["bends"] []) (T : Txt mg) (D_first_bend : Def P w K mg base W "first_bend" 1 ["bends", "wanted"] (M_first_bend Ad)) : Def P w K mg base W "cheapest_range" 2 ["bends"] (M_cheapest_range Ad) := by
  have nd := sc_cheapest_range.nd
  exact def_of F hm hb sc_cheapest_range ⟨rfl, rfl⟩ fun cdv A outer s H E Bo hr =>
    (ds_cons (dset 1 nd (de_callB (cr_sum rfl) sc_sum T.sum (by decide +kernel) (da_cons (de_lc (own := [("_", 2), ("weight", 3)]) rfl nd (di_seq (dv 0)) (blkOk_by (N := ["bends", "total", "_", "weight"]) (sc := defScope s_cheapest_range) (own := [("_", 2), ("weight", 3)]) (by decide +kernel)) (fun _ _ _ _ _ => (dg_tup rfl (dgs_cons (gname 2 nd) (dgs_cons (gname 3 nd) dgs_nil)))) (fun _ _ _ _ _ => dts_nil) (fun _ _ _ _ _ => (dv 3))) da_nil)))
    (ds_one (ds_ret (de_tup (da_cons (dcall D_first_bend hr (da_cons (dv 0) (da_cons (dv 1) da_nil))) (da_cons (dcall D_first_bend hr (da_cons (dv 0) (da_cons (de_op or_add s2_add (dv 1) de_int) da_nil))) da_nil))))))
abbrev s_first_line_range : Stmt := top 34
theorem sc_first_line_range : FnScope ["graph", "costs", "rows", "group", "first", "anchor", "shifts", "bends", "line"] ["graph", "costs", "rows", "group"] (defScope s_first_line_range) := ⟨rfl, rfl, rfl, by decide +kernel, rfl, by decide +kernel, by decide +kernel⟩
theorem ok_first_line_range {Om : Type} {W : Wld Om} {f : Addr} {fd : FuncData} (F : Fun K "first_line_range" "first_line_range" s_first_line_range f fd) (hm : mg "first_line_range" = some (.ref f)) (hb : Binds K fd ["graph", "costs", "rows", "group"] []) (T : Txt mg) (D_anchor_line : Def P w K mg base W "anchor_line" 1 ["costs", "group"] (M_anchor_line Ad)) (D_cheapest_range : Def P w K mg base W "cheapest_range" 2 ["bends"] (M_cheapest_range Ad)) (D_shifts_in_tree : Def P w K mg base W "shifts_in_tree" 1 ["graph", "tree", "root_shift"] (M_shifts_in_tree Ad)) (D_tree_from : Def P w K mg base W "tree_from" 1 ["graph", "root"] (M_tree_from Ad)) : Def P w K mg base W "first_line_range" 3 ["graph", "costs", "rows", "group"] (M_first_line_range Ad) := by
  have nd := sc_first_line_range.nd
  exact def_of F hm hb sc_first_line_range ⟨rfl, rfl⟩ fun cdv A outer s H E Bo hr =>
    (ds_cons (dset 4 nd (de_ix (hu_of hr) (dv 3) de_int))
    (ds_cons (dset 5 nd (dcall D_anchor_line hr (da_cons (dv 1) (da_cons (dv 3) da_nil))))
    (ds_cons (dset 6 nd (dcall D_shifts_in_tree hr (da_cons (dv 0) (da_cons (dcall D_tree_from hr (da_cons (dv 0) (da_cons (dv 5) da_nil))) (da_cons de_int da_nil)))))
    (ds_cons (ds_if (dt_cmp op_isN s2_is (de_ix (hu_of hr) (dv 1) (dv 5)) de_non (nomark _)) (ds_one (ds_ret (de_tup (da_cons (de_ix (hu_of hr) (dv 6) (dv 4)) (da_cons (de_ix (hu_of hr) (dv 6) (dv 4)) da_nil))))) ds_nil)
    (ds_cons (by first | exact ds_setLc (i := 7) (own := [("line", 8)]) rfl nd rfl rfl (sw_true rfl rfl rfl (by decide +kernel)) (di_seq (dv 3)) (blkOk_by (N := ["graph", "costs", "rows", "group", "first", "anchor", "shifts", "bends", "line"]) (sc := defScope s_first_line_range) (own := [("line", 8)]) (by decide +kernel)) (fun _ _ _ _ _ => (gname 8 nd)) (fun _ _ _ _ _ => dts_nil) (fun _ _ _ _ _ => (de_tup (da_cons (de_ifExp (dt_cmp op_lt s2_lt (dv 8) (dv 2) (nomark _)) (de_neg (de_ix (hu_of hr) (dv 6) (dv 8))) (de_ix (hu_of hr) (dv 6) (dv 8))) (da_cons (de_ix (hu_of hr) (dv 1) (dv 8)) da_nil)))) | exact dset 7 nd (de_lc (own := [("line", 8)]) rfl nd (di_seq (dv 3)) (blkOk_by (N := ["graph", "costs", "rows", "group", "first", "anchor", "shifts", "bends", "line"]) (sc := defScope s_first_line_range) (own := [("line", 8)]) (by decide +kernel)) (fun _ _ _ _ _ => (gname 8 nd)) (fun _ _ _ _ _ => dts_nil) (fun _ _ _ _ _ => (de_tup (da_cons (de_ifExp (dt_cmp op_lt s2_lt (dv 8) (dv 2) (nomark _)) (de_neg (de_ix (hu_of hr) (dv 6) (dv 8))) (de_ix (hu_of hr) (dv 6) (dv 8))) (da_cons (de_ix (hu_of hr) (dv 1) (dv 8)) da_nil))))))
    (ds_one (ds_ret (dcall D_cheapest_range hr (da_cons (de_sortedP T.sorted (da_cons (dv 7) da_nil)) da_nil)))))))))
abbrev s_cheapest_shifts : Stmt := top 35
theorem sc_cheapest_shifts : FnScope ["cells", "costs", "goal", "graph", "shifts", "group", "low", "settled", "line", "total", "shift", "cost"] ["cells", "costs", "goal"] (defScope s_cheapest_shifts) := ⟨rfl, rfl, rfl, by decide +kernel, rfl, by decide +kernel, by decide +kernel⟩
theorem ok_cheapest_shifts {Om : Type} {W : Wld Om} {f : Addr} {fd : FuncData} (F : Fun K "cheapest_shifts" "cheapest_shifts" s_cheapest_shifts f fd) (hm : mg "cheapest_shifts" = some (.ref f)) (hb : Binds K fd ["cells", "costs", "goal"] []) (T : Txt mg) (D_build_graph : Def P w K mg base W "build_graph" 1 ["cells", "goal"] (M_build_graph Ad)) (D_contradiction_in_graph : Def P w K mg base W "contradiction_in_graph" 3 ["graph", "costs"] (M_contradiction_in_graph Ad)) (D_first_line_range : Def P w K mg base W "first_line_range" 3 ["graph", "costs", "rows", "group"] (M_first_line_range Ad)) (D_group_lines : Def P w K mg base W "group_lines" 2 ["graph"] (M_group_lines Ad)) (D_shifts_in_tree : Def P w K mg base W "shifts_in_tree" 1 ["graph", "tree", "root_shift"] (M_shifts_in_tree Ad)) (D_tree_from : Def P w K mg base W "tree_from" 1 ["graph", "root"] (M_tree_from Ad)) : Def P w K mg base W "cheapest_shifts" 4 ["cells", "costs", "goal"] (M_cheapest_shifts Ad) := by
  have nd := sc_cheapest_shifts.nd
  exact def_of F hm hb sc_cheapest_shifts ⟨rfl, rfl⟩ fun cdv A outer s H E Bo hr =>
    (ds_cons (dset 3 nd (dcall D_build_graph hr (da_cons (dv 0) (da_cons (dv 2) da_nil))))
    (ds_cons (ds_if (dt_cmp op_notN s2_isnt (dcall D_contradiction_in_graph hr (da_cons (dv 3) (da_cons (dv 1) da_nil))) de_non (nomark _)) (ds_one (ds_ret de_non)) ds_nil)
    (ds_cons (dset 4 nd (de_op or_mul s2_mul (de_lst (da_cons de_int da_nil)) (de_len T.len (dv 1))))
    (ds_cons (ds_for PassesOwn.never rfl (di_seq (dcall D_group_lines hr (da_cons (dv 3) da_nil))) (gname 5 nd)
    (ds_cons (dset 6 nd (de_ix (hu_of hr) (dcall D_first_line_range hr (da_cons (dv 3) (da_cons (dv 1) (da_cons (de_len T.len (dv 0)) (da_cons (dv 5) da_nil))))) de_int))
    (ds_cons (dset 7 nd (dcall D_shifts_in_tree hr (da_cons (dv 3) (da_cons (dcall D_tree_from hr (da_cons (dv 3) (da_cons (de_ix (hu_of hr) (dv 5) de_int) da_nil))) (da_cons (dv 6) da_nil)))))
    (ds_one (ds_for PassesOwn.never rfl (di_seq (dv 5)) (gname 8 nd)
    (ds_one (ds_setIx 4 (de_ix (hu_of hr) (dv 7) (dv 8)) (dv 8))))))))
    (ds_cons (dset 9 nd (de_callB (cr_sum rfl) sc_sum T.sum (by decide +kernel) (da_cons (de_lc (own := [("shift", 10), ("cost", 11)]) rfl nd (di_zip (da_cons (dv 4) (da_cons (dv 1) da_nil)) (by rfl) T.zip) (blkOk_by (N := ["cells", "costs", "goal", "graph", "shifts", "group", "low", "settled", "line", "total", "shift", "cost"]) (sc := defScope s_cheapest_shifts) (own := [("shift", 10), ("cost", 11)]) (by decide +kernel)) (fun _ _ _ _ _ => (dg_tup rfl (dgs_cons (gname 10 nd) (dgs_cons (gname 11 nd) dgs_nil)))) (fun _ _ _ _ _ => (dts_one (dt_notN 11))) (fun _ _ _ _ _ => (de_op or_mul s2_mul (de_callB call_abs sc_abs T.abs (by decide +kernel) (da_cons (dv 10) da_nil)) (dv 11)))) da_nil)))
    (ds_one (ds_ret (de_tup (da_cons (dvM 9) (da_cons (dvM 4) da_nil))))))))))
abbrev s_shifts_to_goal : Stmt := top 36
theorem sc_shifts_to_goal : FnScope ["cells", "costs", "goal", "found"] ["cells", "costs", "goal"] (defScope s_shifts_to_goal) := ⟨rfl, rfl, rfl, by decide +kernel, rfl, by decide +kernel, by decide +kernel⟩
theorem ok_shifts_to_goal {Om : Type} {W : Wld Om} {f : Addr} {fd : FuncData} (F : Fun K "shifts_to_goal" "shifts_to_goal" s_shifts_to_goal f fd) (hm : mg "shifts_to_goal" = some (.ref f)) (hb : Binds K fd ["cells", "costs", "goal"] []) (T : Txt mg) (D_cheapest_shifts : Def P w K mg base W "cheapest_shifts" 4 ["cells", "costs", "goal"] (M_cheapest_shifts Ad)) (C_NoSolution : CE0 K mg "NoSolution" Ad.NoSolution) : DefX P w K mg base W "shifts_to_goal" 5 ["cells", "costs", "goal"] (M_shifts_to_goal Ad) := by
  have nd := sc_shifts_to_goal.nd
  exact defX_of F hm hb sc_shifts_to_goal ⟨rfl, rfl⟩ fun cdv A outer s H E Bo hr =>
    (ds_cons (dset 3 nd (dcall D_cheapest_shifts hr (da_cons (dv 0) (da_cons (dv 1) (da_cons (dv 2) da_nil)))))
    (ds_cons (ds_if (dt_isN 3) (ds_one (ds_raise0 C_NoSolution (takes_of rfl rfl rfl rfl))) ds_nil)
    (ds_one (ds_ret (dvM 3)))))
abbrev s_minimum_cost : Stmt := top 37
theorem sc_minimum_cost : FnScope ["table", "goal"] ["table", "goal"] (defScope s_minimum_cost) := ⟨rfl, rfl, rfl, by decide +kernel, rfl, by decide +kernel, by decide +kernel⟩
theorem ok_minimum_cost {Om : Type} {W : Wld Om} {f : Addr} {fd : FuncData} (F : Fun K "minimum_cost" "minimum_cost" s_minimum_cost f fd) (hm : mg "minimum_cost" = some (.ref f)) (hb : Binds K fd ["table", "goal"] []) (T : Txt mg) (D_cheapest_shifts : Def P w K mg base W "cheapest_shifts" 4 ["cells", "costs", "goal"] (M_cheapest_shifts Ad)) (D_check_goal : DefX P w K mg base W "check_goal" 5 ["cells", "goal"] (M_check_goal Ad)) (D_check_table : DefX P w K mg base W "check_table" 6 ["table"] (M_check_table Ad)) (D_line_costs : Def P w K mg base W "line_costs" 1 ["table"] (M_line_costs Ad)) : DefX P w K mg base W "minimum_cost" 7 ["table", "goal"] (M_minimum_cost Ad) := by
  have nd := sc_minimum_cost.nd
  exact defX_of F hm hb sc_minimum_cost ⟨rfl, rfl⟩ fun cdv A outer s H E Bo hr =>
    (ds_cons (ds_exprX D_check_table (takes_of rfl rfl rfl rfl) hr (da_cons (dv 0) da_nil))
    (ds_cons (ds_exprX D_check_goal (takes_of rfl rfl rfl rfl) hr (da_cons (de_ix (hu_of hr) (dv 0) de_int) (da_cons (dv 1) da_nil)))
    (ds_one (ds_ret (dcall D_cheapest_shifts hr (da_cons (de_ix (hu_of hr) (dv 0) de_int) (da_cons (dcall D_line_costs hr (da_cons (dv 0) da_nil)) (da_cons (dv 1) da_nil))))))))
abbrev s_dependence_labels : Stmt := top 40
theorem sc_dependence_labels : FnScope ["graph", "costs", "labels", "group", "line"] ["graph", "costs"] (defScope s_dependence_labels) := ⟨rfl, rfl, rfl, by decide +kernel, rfl, by decide +kernel, by decide +kernel⟩
theorem ok_dependence_labels {Om : Type} {W : Wld Om} {f : Addr} {fd : FuncData} (F : Fun K "dependence_labels" "dependence_labels" s_dependence_labels f fd) (hm : mg "dependence_labels" = some (.ref f)) (hb : Binds K fd ["graph", "costs"] []) (T : Txt mg) (D_anchor_line : Def P w K mg base W "anchor_line" 1 ["costs", "group"] (M_anchor_line Ad)) (D_group_lines : Def P w K mg base W "group_lines" 2 ["graph"] (M_group_lines Ad)) : Def P w K mg base W "dependence_labels" 3 ["graph", "costs"] (M_dependence_labels Ad) := by
  have nd := sc_dependence_labels.nd
  exact def_of F hm hb sc_dependence_labels ⟨rfl, rfl⟩ fun cdv A outer s H E Bo hr =>
    (ds_cons (dset 2 nd (de_op or_mul s2_mul (de_lst (da_cons (de_glob T.c_SETTLED) da_nil)) (de_len T.len (dv 1))))
    (ds_cons (ds_for PassesOwn.never rfl (di_seq (dcall D_group_lines hr (da_cons (dv 0) da_nil))) (gname 3 nd)
    (ds_one (ds_if (dt_cmp op_notN s2_isnt (de_ix (hu_of hr) (dv 1) (dcall D_anchor_line hr (da_cons (dv 1) (da_cons (dv 3) da_nil)))) de_non (nomark _)) (ds_one (ds_for PassesOwn.never rfl (di_seq (dv 3)) (gname 4 nd)
    (ds_one (ds_setIx 2 (de_ix (hu_of hr) (dv 3) de_int) (dv 4))))) ds_nil)))
    (ds_one (ds_ret (dvM 2)))))
abbrev s_forced_cells : Stmt := top 41
theorem sc_forced_cells : FnScope ["table", "goal", "cells", "costs", "final", "labels", "forced", "row", "entries", "column", "entry"] ["table", "goal"] (defScope s_forced_cells) := ⟨rfl, rfl, rfl, by decide +kernel, rfl, by decide +kernel, by decide +kernel⟩
theorem ok_forced_cells {Om : Type} {W : Wld Om} {f : Addr} {fd : FuncData} (F : Fun K "forced_cells" "forced_cells" s_forced_cells f fd) (hm : mg "forced_cells" = some (.ref f)) (hb : Binds K fd ["table", "goal"] []) (T : Txt mg) (D_build_graph : Def P w K mg base W "build_graph" 1 ["cells", "goal"] (M_build_graph Ad)) (D_check_goal : DefX P w K mg base W "check_goal" 5 ["cells", "goal"] (M_check_goal Ad)) (D_check_table : DefX P w K mg base W "check_table" 6 ["table"] (M_check_table Ad)) (D_dependence_labels : Def P w K mg base W "dependence_labels" 3 ["graph", "costs"] (M_dependence_labels Ad)) (D_line_costs : Def P w K mg base W "line_costs" 1 ["table"] (M_line_costs Ad)) (D_shift_cells : Def P w K mg base W "shift_cells" 1 ["cells", "shifts"] (M_shift_cells Ad)) (D_shifts_to_goal : DefX P w K mg base W "shifts_to_goal" 5 ["cells", "costs", "goal"] (M_shifts_to_goal Ad)) : DefX P w K mg base W "forced_cells" 7 ["table", "goal"] (M_forced_cells Ad) := by
  have nd := sc_forced_cells.nd
  exact defX_of F hm hb sc_forced_cells ⟨rfl, rfl⟩ fun cdv A outer s H E Bo hr =>
    (ds_cons (ds_exprX D_check_table (takes_of rfl rfl rfl rfl) hr (da_cons (dv 0) da_nil))
    (ds_cons (ds_exprX D_check_goal (takes_of rfl rfl rfl rfl) hr (da_cons (de_ix (hu_of hr) (dv 0) de_int) (da_cons (dv 1) da_nil)))
    (ds_cons (dset 2 nd (de_ix (hu_of hr) (dv 0) de_int))
    (ds_cons (dset 3 nd (dcall D_line_costs hr (da_cons (dv 0) da_nil)))
    (ds_cons (dset 4 nd (dcall D_shift_cells hr (da_cons (dv 2) (da_cons (de_ix (hu_of hr) (dcallX D_shifts_to_goal hr (da_cons (dv 2) (da_cons (dv 3) (da_cons (dv 1) da_nil)))) de_int) da_nil))))
    (ds_cons (dset 5 nd (dcall D_dependence_labels hr (da_cons (dcall D_build_graph hr (da_cons (dv 2) (da_cons (dv 1) da_nil))) (da_cons (dv 3) da_nil))))
    (ds_cons (dset 6 nd (de_lst da_nil))
    (ds_cons (ds_for (passes_of rfl) rfl (di_enum (dv 1) (by rfl) T.enumerate) (dg_tup rfl (dgs_cons (gname 7 nd) (dgs_cons (gname 8 nd) dgs_nil)))
    (ds_one (ds_for (passes_of rfl) rfl (di_enum (dv 8) (by rfl) T.enumerate) (dg_tup rfl (dgs_cons (gname 9 nd) (dgs_cons (gname 10 nd) dgs_nil)))
    (ds_one (ds_if (PW.pt (dw_and (dt_isN 10) (dw_and1 (dt_cmp (op_eqD hr.units) s2_eq (de_ix (hu_of hr) (dv 5) (dv 7)) (de_ix (hu_of hr) (dv 5) (de_op or_add s2_add (de_len T.len (dv 2)) (dv 9))) (nomark _))))) (ds_one (ds_app (pe_bm PySem.F.plainAttrs_list PySem.F.slot_list_append PySem.F.type_list_append mt_append (pv 6) (pa_cons (de_tup (da_cons (dv 7) (da_cons (dv 9) (da_cons (de_ix (hu_of hr) (de_ix (hu_of hr) (dv 4) (dv 7)) (dv 9)) da_nil)))) pa_nil)))) ds_nil)))))
    (ds_one (ds_ret (dvM 6)))))))))))
abbrev s__law_mix : Stmt := top 43
theorem sc__law_mix : FnScope ["_law_script", "_law_seed", "_law_state", "_law_cell"] ["_law_script", "_law_seed"] (defScope s__law_mix) := ⟨rfl, rfl, rfl, by decide +kernel, rfl, by decide +kernel, by decide +kernel⟩
theorem ok__law_mix {W : Wld DSh} {f : Addr} {fd : FuncData} (F : Fun K "_law_mix" "_law_mix" s__law_mix f fd) (hm : mg "_law_mix" = some (.ref f)) (hb : Binds K fd ["_law_script", "_law_seed"] []) (T : Txt mg)  : Def P w K mg base W "_law_mix" 1 ["_law_script", "_law_seed"] (M__law_mix Ad) := by
  have nd := sc__law_mix.nd
  exact def_of F hm hb sc__law_mix ⟨rfl, rfl⟩ fun cdv A outer s H E Bo hr =>
    (ds_cons (dset 2 nd (dv 1))
    (ds_cons (ds_for PassesOwn.never rfl (di_seq (dv 0)) (gname 3 nd)
    (ds_one (dset 2 nd (de_op op_mod s2_mod (de_callTy call_int1 sc_int T.int (by decide +kernel) (da_cons (de_op or_add s2_add (de_op or_add s2_add (de_op or_mul s2_mul (dv 2) de_int) (de_op op_mod s2_mod (de_callTy call_int1 sc_int T.int (by decide +kernel) (da_cons (dv 3) da_nil)) de_int)) de_int) da_nil)) de_int))))
    (ds_one (ds_ret (de_lst (da_cons (dv 2) (da_cons (de_callTy call_list_of sc_lst T.list (by decide +kernel) (da_cons (dv 0) da_nil)) (da_cons de_int da_nil))))))))
abbrev s__law_next : Stmt := top 44
theorem sc__law_next : FnScope ["_law_h", "_law_limit", "_law_cell"] ["_law_h", "_law_limit"] (defScope s__law_next) := ⟨rfl, rfl, rfl, by decide +kernel, rfl, by decide +kernel, by decide +kernel⟩
theorem ok__law_next {W : Wld DSh} {f : Addr} {fd : FuncData} (F : Fun K "_law_next" "_law_next" s__law_next f fd) (hm : mg "_law_next" = some (.ref f)) (hb : Binds K fd ["_law_h", "_law_limit"] []) (T : Txt mg)  (Dw : HistW W Ad.sA Ad.scA) : Def P w K mg base W "_law_next" 1 ["_law_h", "_law_limit"] (M__law_next Ad) := by
  have nd := sc__law_next.nd
  exact def_of F hm hb sc__law_next ⟨rfl, rfl⟩ fun cdv A outer s H E Bo hr =>
    (ds_cons (dset 2 nd (de_ix (hu_of hr) (de_hAdd Dw (de_ht Dw 0 1) (de_lst (da_cons de_int da_nil))) (de_op op_mod s2_mod (de_callTy call_int1 sc_int T.int (by decide +kernel) (da_cons (de_ht Dw 0 2) da_nil)) (de_callB (call_max2 rfl) sc_max2 T.max (by decide +kernel) (da_cons de_int (da_cons (de_lenH Dw (de_ht Dw 0 1) T.len) da_nil))))))
    (ds_cons (ds_if (dt_cmp op_ge s2_ge (dv 2) (de_op op_pow s2_pow de_int de_int) (nomark _)) (ds_cons (de_hPut Dw 0 (de_op op_fdiv s2_div (dv 2) (dv 1)) (de_op op_mod s2_mod (de_callTy call_int1 sc_int T.int (by decide +kernel) (da_cons (de_ht Dw 0 2) da_nil)) (de_lenH Dw (de_ht Dw 0 1) T.len)))
    (ds_one (ds_ret (de_op op_mod s2_mod (de_callTy call_int1 sc_int T.int (by decide +kernel) (da_cons (dv 2) da_nil)) (dv 1))))) ds_nil)
    (ds_cons (de_hSet Dw 0 0 (de_op op_mod s2_mod (de_callTy call_int1 sc_int T.int (by decide +kernel) (da_cons (de_op or_add s2_add (de_op or_add s2_add (de_op or_mul s2_mul (de_ht Dw 0 0) de_int) (de_op or_mul s2_mul (dv 2) de_int)) de_int) da_nil)) de_int))
    (ds_cons (de_hSet Dw 0 2 (de_op or_add s2_add (de_ht Dw 0 2) de_int))
    (ds_one (ds_ret (de_op op_mod s2_mod (de_callTy call_int1 sc_int T.int (by decide +kernel) (da_cons (de_op op_fdiv s2_div (de_ht Dw 0 0) de_int) da_nil)) (dv 1))))))))
abbrev s__law_table : Stmt := top 45
theorem sc__law_table : FnScope ["_law_h", "_law_most", "_law_height", "_law_width", "_law_cells", "_law_costs", "_law_r", "_law_c", "_law_line"] ["_law_h", "_law_most"] (defScope s__law_table) := ⟨rfl, rfl, rfl, by decide +kernel, rfl, by decide +kernel, by decide +kernel⟩
theorem ok__law_table {W : Wld DSh} {f : Addr} {fd : FuncData} (F : Fun K "_law_table" "_law_table" s__law_table f fd) (hm : mg "_law_table" = some (.ref f)) (hb : Binds K fd ["_law_h", "_law_most"] []) (T : Txt mg) (D__law_next : Def P w K mg base W "_law_next" 1 ["_law_h", "_law_limit"] (M__law_next Ad)) : Def P w K mg base W "_law_table" 2 ["_law_h", "_law_most"] (M__law_table Ad) := by
  have nd := sc__law_table.nd
  exact def_of F hm hb sc__law_table ⟨rfl, rfl⟩ fun cdv A outer s H E Bo hr =>
    (ds_cons (ds_asg (de_tup (da_cons (de_op or_add s2_add de_int (dcall D__law_next hr (da_cons (dv 0) (da_cons (dv 1) da_nil)))) (da_cons (de_op or_add s2_add de_int (dcall D__law_next hr (da_cons (dv 0) (da_cons (dv 1) da_nil)))) da_nil))) (dg_tup rfl (dgs_cons (gname 2 nd) (dgs_cons (gname 3 nd) dgs_nil))))
    (ds_cons (dset 4 nd (de_callTy call_tuple_of sc_tup T.tuple (by decide +kernel) (da_cons (de_lc (own := [("_law_r", 6)]) rfl nd (di_range1 T.range (da_cons (dv 2) da_nil)) (blkOk_by (N := ["_law_h", "_law_most", "_law_height", "_law_width", "_law_cells", "_law_costs", "_law_r", "_law_c", "_law_line"]) (sc := defScope s__law_table) (own := [("_law_r", 6)]) (by decide +kernel)) (fun _ _ _ _ _ => (gname 6 nd)) (fun _ _ _ _ _ => dts_nil) (fun _ _ _ _ _ => (de_callTy call_tuple_of sc_tup T.tuple (by decide +kernel) (da_cons (de_lc (own := [("_law_c", 7)]) rfl nd (di_range1 T.range (da_cons (dv 3) da_nil)) (blkOk_by (own := [("_law_c", 7)]) (by kernel_rfl)) (fun _ _ _ _ _ => (gname 7 nd)) (fun _ _ _ _ _ => dts_nil) (fun _ _ _ _ _ => (de_op op_sub s2_sub (dcall D__law_next hr (da_cons (dv 0) (da_cons de_int da_nil))) de_int))) da_nil)))) da_nil)))
    (ds_cons (by first | exact ds_setLc (i := 5) (own := [("_law_line", 8)]) rfl nd rfl rfl (sw_true rfl rfl rfl (by decide +kernel)) (di_range1 T.range (da_cons (de_op or_add s2_add (dv 2) (dv 3)) da_nil)) (blkOk_by (N := ["_law_h", "_law_most", "_law_height", "_law_width", "_law_cells", "_law_costs", "_law_r", "_law_c", "_law_line"]) (sc := defScope s__law_table) (own := [("_law_line", 8)]) (by decide +kernel)) (fun _ _ _ _ _ => (gname 8 nd)) (fun _ _ _ _ _ => dts_nil) (fun _ _ _ _ _ => (de_ifExp (dt_cmp (op_eqD hr.units) s2_eq (dcall D__law_next hr (da_cons (dv 0) (da_cons de_int da_nil))) de_int (nomark _)) de_non (de_op or_add s2_add de_int (dcall D__law_next hr (da_cons (dv 0) (da_cons de_int da_nil)))))) | exact dset 5 nd (de_lc (own := [("_law_line", 8)]) rfl nd (di_range1 T.range (da_cons (de_op or_add s2_add (dv 2) (dv 3)) da_nil)) (blkOk_by (N := ["_law_h", "_law_most", "_law_height", "_law_width", "_law_cells", "_law_costs", "_law_r", "_law_c", "_law_line"]) (sc := defScope s__law_table) (own := [("_law_line", 8)]) (by decide +kernel)) (fun _ _ _ _ _ => (gname 8 nd)) (fun _ _ _ _ _ => dts_nil) (fun _ _ _ _ _ => (de_ifExp (dt_cmp (op_eqD hr.units) s2_eq (dcall D__law_next hr (da_cons (dv 0) (da_cons de_int da_nil))) de_int (nomark _)) de_non (de_op or_add s2_add de_int (dcall D__law_next hr (da_cons (dv 0) (da_cons de_int da_nil))))))))
    (ds_one (ds_ret (de_tup (da_cons (dvM 4) (da_cons (de_callTy call_tuple_of sc_tup T.tuple (by decide +kernel) (da_cons (de_slice (dv 5) do_none (do_some (dv 2))) da_nil)) (da_cons (de_callTy call_tuple_of sc_tup T.tuple (by decide +kernel) (da_cons (de_slice (dv 5) (do_some (dv 2)) do_none) da_nil)) da_nil)))))))))
abbrev s__law_shifted : Stmt := top 46
theorem sc__law_shifted : FnScope ["_law_cells", "_law_shifts", "_law_found", "_law_height", "_law_r", "_law_c"] ["_law_cells", "_law_shifts"] (defScope s__law_shifted) := ⟨rfl, rfl, rfl, by decide +kernel, rfl, by decide +kernel, by decide +kernel⟩
theorem ok__law_shifted {W : Wld DSh} {f : Addr} {fd : FuncData} (F : Fun K "_law_shifted" "_law_shifted" s__law_shifted f fd) (hm : mg "_law_shifted" = some (.ref f)) (hb : Binds K fd ["_law_cells", "_law_shifts"] []) (T : Txt mg)  : Def P w K mg base W "_law_shifted" 1 ["_law_cells", "_law_shifts"] (M__law_shifted Ad) := by
  have nd := sc__law_shifted.nd
  exact def_of F hm hb sc__law_shifted ⟨rfl, rfl⟩ fun cdv A outer s H E Bo hr =>
    (ds_cons (ds_asg (de_tup (da_cons (de_lst da_nil) (da_cons (de_len T.len (dv 0)) da_nil))) (dg_tup rfl (dgs_cons (gname 2 nd) (dgs_cons (gname 3 nd) dgs_nil))))
    (ds_cons (ds_for PassesOwn.never rfl (di_range1 T.range (da_cons (dv 3) da_nil)) (gname 4 nd)
    (ds_one (ds_app (pe_bm PySem.F.plainAttrs_list PySem.F.slot_list_append PySem.F.type_list_append mt_append (pv 2) (pa_cons (de_callTy call_tuple_of sc_tup T.tuple (by decide +kernel) (da_cons (de_lc (own := [("_law_c", 5)]) rfl nd (di_range1 T.range (da_cons (de_len T.len (de_ix (hu_of hr) (dv 0) de_int)) da_nil)) (blkOk_by (N := ["_law_cells", "_law_shifts", "_law_found", "_law_height", "_law_r", "_law_c"]) (sc := defScope s__law_shifted) (own := [("_law_c", 5)]) (by decide +kernel)) (fun _ _ _ _ _ => (gname 5 nd)) (fun _ _ _ _ _ => dts_nil) (fun _ _ _ _ _ => (de_op or_add s2_add (de_op or_add s2_add (de_ix (hu_of hr) (de_ix (hu_of hr) (dv 0) (dv 4)) (dv 5)) (de_ix (hu_of hr) (dv 1) (dv 4))) (de_ix (hu_of hr) (dv 1) (de_op or_add s2_add (dv 3) (dv 5)))))) da_nil)) pa_nil)))))
    (ds_one (ds_ret (de_callTy call_tuple_of sc_tup T.tuple (by decide +kernel) (da_cons (dv 2) da_nil))))))
abbrev s__law_goal : Stmt := top 47
theorem sc__law_goal : FnScope ["_law_h", "_law_table_here", "_law_spoiled", "_law_cells", "_law_costs", "_law_shifts", "_law_found", "_law_row", "_law_r", "_law_c", "_law_cost", "_law_value"] ["_law_h", "_law_table_here", "_law_spoiled"] (defScope s__law_goal) := ⟨rfl, rfl, rfl, by decide +kernel, rfl, by decide +kernel, by decide +kernel⟩
theorem ok__law_goal {W : Wld DSh} {f : Addr} {fd : FuncData} (F : Fun K "_law_goal" "_law_goal" s__law_goal f fd) (hm : mg "_law_goal" = some (.ref f)) (hb : Binds K fd ["_law_h", "_law_table_here", "_law_spoiled"] []) (T : Txt mg) (D__law_next : Def P w K mg base W "_law_next" 1 ["_law_h", "_law_limit"] (M__law_next Ad)) (D__law_shifted : Def P w K mg base W "_law_shifted" 1 ["_law_cells", "_law_shifts"] (M__law_shifted Ad)) : Def P w K mg base W "_law_goal" 2 ["_law_h", "_law_table_here", "_law_spoiled"] (M__law_goal Ad) := by
  have nd := sc__law_goal.nd
  exact def_of F hm hb sc__law_goal ⟨rfl, rfl⟩ fun cdv A outer s H E Bo hr =>
    (ds_cons (ds_par (i := 3) (j := 4) rfl nd rfl rfl (by decide) rfl rfl (da_cons (de_ix (hu_of hr) (dv 1) de_int) (da_cons (de_op or_add s2_add (de_ix (hu_of hr) (dv 1) de_int) (de_ix (hu_of hr) (dv 1) de_int)) da_nil)))
    (ds_cons (by first | exact ds_setLc (i := 5) (own := [("_law_cost", 10)]) rfl nd rfl rfl (sw_true rfl rfl rfl (by decide +kernel)) (di_seq (dv 4)) (blkOk_by (N := ["_law_h", "_law_table_here", "_law_spoiled", "_law_cells", "_law_costs", "_law_shifts", "_law_found", "_law_row", "_law_r", "_law_c", "_law_cost", "_law_value"]) (sc := defScope s__law_goal) (own := [("_law_cost", 10)]) (by decide +kernel)) (fun _ _ _ _ _ => (gname 10 nd)) (fun _ _ _ _ _ => dts_nil) (fun _ _ _ _ _ => (de_ifExp (dt_isN 10) de_int (de_op op_sub s2_sub (dcall D__law_next hr (da_cons (dv 0) (da_cons de_int da_nil))) de_int))) | exact dset 5 nd (de_lc (own := [("_law_cost", 10)]) rfl nd (di_seq (dv 4)) (blkOk_by (N := ["_law_h", "_law_table_here", "_law_spoiled", "_law_cells", "_law_costs", "_law_shifts", "_law_found", "_law_row", "_law_r", "_law_c", "_law_cost", "_law_value"]) (sc := defScope s__law_goal) (own := [("_law_cost", 10)]) (by decide +kernel)) (fun _ _ _ _ _ => (gname 10 nd)) (fun _ _ _ _ _ => dts_nil) (fun _ _ _ _ _ => (de_ifExp (dt_isN 10) de_int (de_op op_sub s2_sub (dcall D__law_next hr (da_cons (dv 0) (da_cons de_int da_nil))) de_int)))))
    (ds_cons (dset 6 nd (de_lst da_nil))
    (ds_cons (ds_for PassesOwn.never rfl (di_seq (dcall D__law_shifted hr (da_cons (dv 3) (da_cons (dv 5) da_nil)))) (gname 7 nd)
    (ds_one (ds_app (pe_bm PySem.F.plainAttrs_list PySem.F.slot_list_append PySem.F.type_list_append mt_append (pv 6) (pa_cons (de_lc (own := [("_law_value", 11)]) rfl nd (di_seq (dv 7)) (blkOk_by (N := ["_law_h", "_law_table_here", "_law_spoiled", "_law_cells", "_law_costs", "_law_shifts", "_law_found", "_law_row", "_law_r", "_law_c", "_law_cost", "_law_value"]) (sc := defScope s__law_goal) (own := [("_law_value", 11)]) (by decide +kernel)) (fun _ _ _ _ _ => (gname 11 nd)) (fun _ _ _ _ _ => dts_nil) (fun _ _ _ _ _ => (de_ifExp (dt_cmp op_gt s2_gt (dcall D__law_next hr (da_cons (dv 0) (da_cons de_int da_nil))) de_int (nomark _)) (dv 11) de_non))) pa_nil)))))
    (ds_cons (ds_if (dt_val (dv 2)) (ds_cons (ds_par (i := 8) (j := 9) rfl nd rfl rfl (by decide) rfl rfl (da_cons (dcall D__law_next hr (da_cons (dv 0) (da_cons (de_lenN 6 T.len) da_nil))) (da_cons (dcall D__law_next hr (da_cons (dv 0) (da_cons (de_lenN2 6 (hu_of hr) T.len at_c) da_nil))) da_nil)))
    (ds_one (ds_setIx2 6 (hu_of hr) (de_op op_sub s2_sub (dcall D__law_next hr (da_cons (dv 0) (da_cons de_int da_nil))) de_int) (at_v 8) (at_v 9)))) ds_nil)
    (ds_one (ds_ret (de_callTy call_tuple_of sc_tup T.tuple (by decide +kernel) (da_cons (de_lc (own := [("_law_row", 7)]) rfl nd (di_seq (dv 6)) (blkOk_by (N := ["_law_h", "_law_table_here", "_law_spoiled", "_law_cells", "_law_costs", "_law_shifts", "_law_found", "_law_row", "_law_r", "_law_c", "_law_cost", "_law_value"]) (sc := defScope s__law_goal) (own := [("_law_row", 7)]) (by decide +kernel)) (fun _ _ _ _ _ => (gname 7 nd)) (fun _ _ _ _ _ => dts_nil) (fun _ _ _ _ _ => (de_callTy call_tuple_of sc_tup T.tuple (by decide +kernel) (da_cons (dv 7) da_nil)))) da_nil)))))))))
abbrev s__law_opened : Stmt := top 48
theorem sc__law_opened : FnScope ["_law_goal_here", "_law_r", "_law_c", "_law_value", "_law_row"] ["_law_goal_here", "_law_r", "_law_c", "_law_value"] (defScope s__law_opened) := ⟨rfl, rfl, rfl, by decide +kernel, rfl, by decide +kernel, by decide +kernel⟩
theorem ok__law_opened {W : Wld DSh} {f : Addr} {fd : FuncData} (F : Fun K "_law_opened" "_law_opened" s__law_opened f fd) (hm : mg "_law_opened" = some (.ref f)) (hb : Binds K fd ["_law_goal_here", "_law_r", "_law_c", "_law_value"] []) (T : Txt mg)  : Def P w K mg base W "_law_opened" 1 ["_law_goal_here", "_law_r", "_law_c", "_law_value"] (M__law_opened Ad) := by
  have nd := sc__law_opened.nd
  exact def_of F hm hb sc__law_opened ⟨rfl, rfl⟩ fun cdv A outer s H E Bo hr =>
    (ds_cons (dset 4 nd (de_op or_add s2_add (de_op or_add s2_add (de_slice (de_ix (hu_of hr) (dv 0) (dv 1)) do_none (do_some (dv 2))) (de_tup (da_cons (dv 3) da_nil))) (de_slice (de_ix (hu_of hr) (dv 0) (dv 1)) (do_some (de_op or_add s2_add (dv 2) de_int)) do_none)))
    (ds_one (ds_ret (de_op or_add s2_add (de_op or_add s2_add (de_slice (dv 0) do_none (do_some (dv 1))) (de_tup (da_cons (dv 4) da_nil))) (de_slice (dv 0) (do_some (de_op or_add s2_add (dv 1) de_int)) do_none)))))
abbrev s_law : Stmt := top 49
theorem sc_law : FnScope ["_law_script", "_law_h", "_law_turn", "_law_table_here", "_law_goal_here", "_law_cost", "_law_shifts", "_law_cells", "_law_forced", "_law_r", "_law_c", "_law_near", "_law_full", "_law_row", "_law_k"] ["_law_script"] (defScope s_law) := ⟨rfl, rfl, rfl, by decide +kernel, rfl, by decide +kernel, by decide +kernel⟩
theorem body_law {W : Wld DSh} {f c : Addr} {A : Around} {outer : List Env} {s : Shared} {H : Hp} {E Z : XK} {Bo : AS} (hr : Room 10 (A.deeper (envOfC "law" (defScope s_law) s.heap.objs.size f (.ref c)))) (T : Txt mg) (D__law_goal : Def P w K mg base W "_law_goal" 2 ["_law_h", "_law_table_here", "_law_spoiled"] (M__law_goal Ad)) (D__law_opened : Def P w K mg base W "_law_opened" 1 ["_law_goal_here", "_law_r", "_law_c", "_law_value"] (M__law_opened Ad)) (D__law_shifted : Def P w K mg base W "_law_shifted" 1 ["_law_cells", "_law_shifts"] (M__law_shifted Ad)) (D__law_table : Def P w K mg base W "_law_table" 2 ["_law_h", "_law_most"] (M__law_table Ad)) (D_forced_cells : DefX P w K mg base W "forced_cells" 7 ["table", "goal"] (M_forced_cells Ad)) (D_minimum_cost : DefX P w K mg base W "minimum_cost" 7 ["table", "goal"] (M_minimum_cost Ad))  :
    PSs (cxOf CX0 P w K mg base ["_law_script", "_law_h", "_law_turn", "_law_table_here", "_law_goal_here", "_law_cost", "_law_shifts", "_law_cells", "_law_forced", "_law_r", "_law_c", "_law_near", "_law_full", "_law_row", "_law_k"] "law" (defScope s_law) f (.ref c) A outer s H E).nox ((defBody s_law).drop 1) (tS W Bo Z (b_law Ad out)) := by
  have nd := sc_law.nd
  have hrO : Room (8 + 2) (cxOf CX0 P w K mg base ["_law_script", "_law_h", "_law_turn", "_law_table_here", "_law_goal_here", "_law_cost", "_law_shifts", "_law_cells", "_law_forced", "_law_r", "_law_c", "_law_near", "_law_full", "_law_row", "_law_k"] "law" (defScope s_law) f (.ref c) A outer s H E).nox.A := hr
  exact
    (ds_cons (ds_for PassesOwn.never rfl (di_range1 T.range (da_cons de_int da_nil)) (gname 2 nd)
    (ds_cons (dset 3 nd (dcall D__law_table hr (da_cons (dv 1) (da_cons de_int da_nil))))
    (ds_cons (dset 4 nd (dcall D__law_goal hr (da_cons (dv 1) (da_cons (dv 3) (da_cons de_bl da_nil)))))
    (ds_cons (ds_asg (dcallX D_minimum_cost hr (da_cons (dv 3) (da_cons (dv 4) da_nil))) (dg_tup rfl (dgs_cons (gname 5 nd) (dgs_cons (gname 6 nd) dgs_nil))))
    (ds_cons (ds_asg (de_tup (da_cons (dcall D__law_shifted hr (da_cons (de_ix (hu_of hr) (dv 3) de_int) (da_cons (dv 6) da_nil))) (da_cons (dcallX D_forced_cells hr (da_cons (dv 3) (da_cons (dv 4) da_nil))) da_nil))) (dg_tup rfl (dgs_cons (gname 7 nd) (dgs_cons (gname 8 nd) dgs_nil))))
    (ds_cons (ds_if (dt_cmp (op_neD hr.units) s2_ne (dv 8) (de_sorted3 T.sorted (da_cons (dv 8) da_nil)) (nomark _)) (ds_one (ds_ret de_bl)) ds_nil)
    (ds_cons (ds_if (dt_cmp (op_neD hr.units) s2_ne (de_lc (own := [("_law_row", 13)]) rfl nd (di_seq (dv 8)) (blkOk_by (N := ["_law_script", "_law_h", "_law_turn", "_law_table_here", "_law_goal_here", "_law_cost", "_law_shifts", "_law_cells", "_law_forced", "_law_r", "_law_c", "_law_near", "_law_full", "_law_row", "_law_k"]) (sc := defScope s_law) (own := [("_law_row", 13)]) (by decide +kernel)) (fun _ _ _ _ _ => (gname 13 nd)) (fun _ _ _ _ _ => (dts_one (dt_cmp op_notN s2_isnt (de_ix (hu_of hr) (de_ix (hu_of hr) (dv 4) (de_ix (hu_of hr) (dv 13) de_int)) (de_ix (hu_of hr) (dv 13) de_int)) de_non (nomark _)))) (fun _ _ _ _ _ => (dv 13))) (de_lst da_nil) (nomark _)) (ds_one (ds_ret de_bl)) ds_nil)
    (ds_cons (ds_for PassesOwn.never rfl (di_range1 T.range (da_cons (de_len T.len (dv 4)) da_nil)) (gname 9 nd)
    (ds_one (ds_for PassesOwn.never rfl (di_range1 T.range (da_cons (de_len T.len (de_ix (hu_of hr) (dv 4) de_int)) da_nil)) (gname 10 nd)
    (ds_one (ds_if (dt_cmp op_notN s2_isnt (de_ix (hu_of hr) (de_ix (hu_of hr) (dv 4) (dv 9)) (dv 10)) de_non (nomark _)) (ds_one (ds_if (dt_cmp op_gt s2_gt (de_ix (hu_of hr) (dcallX D_minimum_cost hr (da_cons (dv 3) (da_cons (dcall D__law_opened hr (da_cons (dv 4) (da_cons (dv 9) (da_cons (dv 10) (da_cons de_non da_nil))))) da_nil))) de_int) (dv 5) (nomark _)) (ds_one (ds_ret de_bl)) ds_nil)) (ds_cons (by first | exact ds_setLc (i := 11) (own := [("_law_k", 14)]) rfl nd rfl rfl (sw_true rfl rfl rfl (by decide +kernel)) (di_seq (de_tup (da_cons de_int (da_cons de_int (da_cons (de_op op_sub s2_sub de_int de_int) da_nil))))) (blkOk_by (N := ["_law_script", "_law_h", "_law_turn", "_law_table_here", "_law_goal_here", "_law_cost", "_law_shifts", "_law_cells", "_law_forced", "_law_r", "_law_c", "_law_near", "_law_full", "_law_row", "_law_k"]) (sc := defScope s_law) (own := [("_law_k", 14)]) (by decide +kernel)) (fun _ _ _ _ _ => (gname 14 nd)) (fun _ _ _ _ _ => dts_nil) (fun _ _ _ _ _ => (dcallX D_minimum_cost hr (da_cons (dv 3) (da_cons (dcall D__law_opened hr (da_cons (dv 4) (da_cons (dv 9) (da_cons (dv 10) (da_cons (de_op or_add s2_add (de_ix (hu_of hr) (de_ix (hu_of hr) (dv 7) (dv 9)) (dv 10)) (dv 14)) da_nil))))) da_nil)))) | exact dset 11 nd (de_lc (own := [("_law_k", 14)]) rfl nd (di_seq (de_tup (da_cons de_int (da_cons de_int (da_cons (de_op op_sub s2_sub de_int de_int) da_nil))))) (blkOk_by (N := ["_law_script", "_law_h", "_law_turn", "_law_table_here", "_law_goal_here", "_law_cost", "_law_shifts", "_law_cells", "_law_forced", "_law_r", "_law_c", "_law_near", "_law_full", "_law_row", "_law_k"]) (sc := defScope s_law) (own := [("_law_k", 14)]) (by decide +kernel)) (fun _ _ _ _ _ => (gname 14 nd)) (fun _ _ _ _ _ => dts_nil) (fun _ _ _ _ _ => (dcallX D_minimum_cost hr (da_cons (dv 3) (da_cons (dcall D__law_opened hr (da_cons (dv 4) (da_cons (dv 9) (da_cons (dv 10) (da_cons (de_op or_add s2_add (de_ix (hu_of hr) (de_ix (hu_of hr) (dv 7) (dv 9)) (dv 10)) (dv 14)) da_nil))))) da_nil))))))
    (ds_cons (ds_if (PW.pt (dw_or (dt_cmp op_isN s2_is (de_ix (hu_of hr) (dv 11) de_int) de_non (nomark _)) (dw_or1 (dt_cmp (op_neD hr.units) s2_ne (de_ix (hu_of hr) (de_ix (hu_of hr) (dv 11) de_int) de_int) (dv 5) (nomark _))))) (ds_one (ds_ret de_bl)) ds_nil)
    (ds_one (ds_if (dt_cmp (op_neD hr.units) s2_ne (de_cmp (L2.op_inD (u65_of hr)) s2_inP (de_tup (da_cons (dv 9) (da_cons (dv 10) (da_cons (de_ix (hu_of hr) (de_ix (hu_of hr) (dv 7) (dv 9)) (dv 10)) da_nil)))) (dv 8) (by rfl)) (de_and (de_cmp op_isN s2_is (de_ix (hu_of hr) (dv 11) de_int) de_non (nomark _)) (de_one (de_cmp op_isN s2_is (de_ix (hu_of hr) (dv 11) de_int) de_non (nomark _)))) (nomark _)) (ds_one (ds_ret de_bl)) ds_nil)))))))))
    (ds_cons (dset 12 nd (de_callTy call_tuple_of sc_tup T.tuple (by decide +kernel) (da_cons (de_lc (own := [("_law_row", 13)]) rfl nd (di_seq (dv 7)) (blkOk_by (N := ["_law_script", "_law_h", "_law_turn", "_law_table_here", "_law_goal_here", "_law_cost", "_law_shifts", "_law_cells", "_law_forced", "_law_r", "_law_c", "_law_near", "_law_full", "_law_row", "_law_k"]) (sc := defScope s_law) (own := [("_law_row", 13)]) (by decide +kernel)) (fun _ _ _ _ _ => (gname 13 nd)) (fun _ _ _ _ _ => dts_nil) (fun _ _ _ _ _ => (de_callTy call_tuple_of sc_tup T.tuple (by decide +kernel) (da_cons (dv 13) da_nil)))) da_nil)))
    (ds_one (ds_if (PW.pt (dw_or (dt_cmp op_isN s2_is (dcallX D_minimum_cost hr (da_cons (dv 3) (da_cons (dv 12) da_nil))) de_non (nomark _)) (dw_or1 (dt_cmp (op_neD hr.units) s2_ne (dcallX D_forced_cells hr (da_cons (dv 3) (da_cons (dv 12) da_nil))) (de_lst da_nil) (nomark _))))) (ds_one (ds_ret de_bl)) ds_nil)))))))))))
    (ds_one (ds_ret de_bl)))
end
end K

/-! DM9: what is shared at once, run forward. -/
namespace DL
open PySem PySem.Spec PyProof.Rows L2
section
variable {Om : Type} {en : Ev} {om : Om}
def kFz (Q : D → Ev → Om → Prop) : D → Ev → Om → Prop := fun d en om => Q (frz d) en om
@[simp] theorem kFz_at {Q : D → Ev → Om → Prop} {d} : kFz Q d en om = Q (frz d) en om := rfl
@[simp] theorem wE_fz {f : DE Om} {Q} : wE (dFz f) Q en om = wE f (kFz Q) en om := by
  unfold wE dFz
  simp only [ex_map, wO_map]
  rfl
end
end DL

/-! DMA: sorted of threes, run forward. -/
namespace DL
open PySem PySem.Spec PyProof.Rows L2
theorem cSorted3_at {g l} : cSorted3 [.lst g l] = (trisOf l).map fun ps => .lst .o ((sort3 ps).map triD) := rfl
@[simp] theorem frz_triD {p} : frz (triD p) = triD p := by simp [triD]
@[simp] theorem lend_triD {p} : lend (triD p) = triD p := by simp [triD]
@[simp] theorem noB_triD {p} : noB (triD p) = true := by simp [triD]
@[simp] theorem noO_triD {p} : noO (triD p) = true := by simp [triD]
def triP (p : Tri) : PyData := .tuple [.int p.1, .int p.2.1, .int p.2.2]
theorem py_tri {p} : py (triD p) = some (triP p) := by simp [triD, triP]
theorem pys_tri : ∀ {l : List Tri}, pys (l.map triD) = some (l.map triP)
  | [] => by simp
  | p :: l => by simp [pys_tri (l := l), py_tri]
theorem lay_tri : ∀ {l : List Tri}, PyData.canLayAll0 (l.map triP) = true ∧ PyData.depthAll (l.map triP) ≤ 1
  | [] => by simp [PyData.canLayAll0, PyData.depthAll]
  | p :: l => by
    obtain ⟨h1, h2⟩ := lay_tri (l := l)
    refine ⟨by simp [PyData.canLayAll0, h1, triP, PyData.canLay0], ?_⟩
    simp [PyData.depthAll, triP, PyData.depth]
    omega
theorem shp_tris {l : List Tri} : SeqAt.shaped (.list (l.map triP)) = true := by
  obtain ⟨h1, h2⟩ := lay_tri (l := l)
  simp [SeqAt.shaped, PyData.canLay0, h1, PyData.depth]
  omega
theorem shp_tri {p : Tri} : SeqAt.shaped (triP p) = true := by simp [triP, SeqAt.shaped, PyData.canLay0, PyData.canLayAll0, PyData.depth, PyData.depthAll]
theorem oNe_tris {g g' : Tag} {l : List Tri} : oNe (.lst g (l.map triD)) (.lst g' (l.map triD)) = some (.bl false) := by
  unfold oNe
  rw [eqD_self (p := .list (l.map triP)) (by simp [pys_tri]) (by simp [pys_tri]) shp_tris]
  rfl
theorem oInP_tris {g : Tag} {p : Tri} {l : List Tri} : oInP (triD p) (.lst g (l.map triD)) = some (.bl (decide (p ∈ l))) := by
  unfold oInP
  rw [py_tri, py_lst, pys_tri]
  simp only [Option.map_some, Option.bind_some, shp_tri, shp_tris, and_self, if_true, Option.some.injEq, D.bl.injEq]
  rw [Bool.eq_iff_iff]
  simp only [List.any_eq_true, List.mem_map, decide_eq_true_eq]
  constructor
  · rintro ⟨z, ⟨q, hq, rfl⟩, h⟩
    have : q = p := by
      obtain ⟨q1, q2, q3⟩ := q
      obtain ⟨p1, p2, p3⟩ := p
      simp [triP, PyData.eqv, PyData.eqvAll] at h
      simp [h]
    exact this ▸ hq
  · intro h
    exact ⟨_, ⟨p, h, rfl⟩, eqv_self (SeqAt.canLay_of_shaped shp_tri)⟩
end DL

namespace K
open PySem PySem.Spec PyProof.Rows L2 DL LamX GP
section
variable {Om : Type} {Ad : Adr} {om : Om}
def aD (t : Tag) (a : Adj) : D := .dic t (a.map fun p => (p.1 : Int)) (a.map fun p => .int p.2)
def gD (t t' : Tag) (g : Gr) : D := .lst t (g.map (aD t'))
def vT : Option Nat → D
  | none => .non
  | some q => .int q
def trD (t : Tag) (tr : Tr) : D := .dic t (tr.map fun p => (p.1 : Int)) (tr.map fun p => vT p.2)
def nD (l : List Nat) : List D := l.map fun k => .int (k : Nat)
theorem frzs_map {α : Type} {l : List α} {f h : α → D} (e : ∀ a, frz (f a) = h a) : frzs (l.map f) = l.map h := by induction l <;> simp_all
theorem lends_map {α : Type} {l : List α} {f h : α → D} (e : ∀ a, lend (f a) = h a) : lends (l.map f) = l.map h := by induction l <;> simp_all
theorem noBs_map {α : Type} {l : List α} {f : α → D} (e : ∀ a, noB (f a) = true) : noBs (l.map f) = true := by induction l <;> simp_all
theorem noOs_map {α : Type} {l : List α} {f : α → D} (e : ∀ a, noO (f a) = true) : noOs (l.map f) = true := by induction l <;> simp_all
@[simp] theorem frz_vT {o} : frz (vT o) = vT o := by cases o <;> simp [vT]
@[simp] theorem lend_vT {o} : lend (vT o) = vT o := by cases o <;> simp [vT]
@[simp] theorem noB_vT {o} : noB (vT o) = true := by cases o <;> simp [vT]
@[simp] theorem noO_vT {o} : noO (vT o) = true := by cases o <;> simp [vT]
@[simp] theorem isNon_vT {o} : DL.isNon (vT o) = o.isNone := by cases o <;> rfl
@[simp] theorem frz_aD {t a} : frz (aD t a) = aD t.fz a := by simp [aD]; exact frzs_map fun _ => frz_int
@[simp] theorem lend_aD {t a} : lend (aD t a) = aD .b a := by simp [aD]; exact lends_map fun _ => lend_int
@[simp] theorem frz_gD {t t' g} : frz (gD t t' g) = gD t.fz t'.fz g := by simp [gD]; exact frzs_map fun _ => frz_aD
@[simp] theorem lend_gD {t t' g} : lend (gD t t' g) = gD .b .b g := by simp [gD]; exact lends_map fun _ => lend_aD
@[simp] theorem frz_trD {t a} : frz (trD t a) = trD t.fz a := by simp [trD]; exact frzs_map fun _ => frz_vT
@[simp] theorem lend_trD {t a} : lend (trD t a) = trD .b a := by simp [trD]; exact lends_map fun _ => lend_vT
@[simp] theorem frzs_nD {l} : frzs (nD l) = nD l := frzs_map fun _ => frz_int
@[simp] theorem lends_nD {l} : lends (nD l) = nD l := lends_map fun _ => lend_int
@[simp] theorem noBs_nD {l} : noBs (nD l) = true := noBs_map fun _ => noB_int
@[simp] theorem noOs_nD {l} : noOs (nD l) = true := noOs_map fun _ => noO_int
@[simp] theorem nD_length {l} : (nD l).length = l.length := by simp [nD]
theorem nD_get {l : List Nat} {i : Nat} : (nD l)[i]? = l[i]?.map fun k => .int (k : Nat) := by simp [nD]
theorem noB_aD {t a} (h : t ≠ .b) : noB (aD t a) = true := by
  simp only [aD, noB, Bool.and_eq_true]
  exact ⟨by simpa using h, noBs_map fun _ => noB_int⟩
theorem noB_trD {t a} (h : t ≠ .b) : noB (trD t a) = true := by
  simp only [trD, noB, Bool.and_eq_true]
  exact ⟨by simpa using h, noBs_map fun _ => noB_vT⟩
theorem noB_gD {t t' g} (h : t ≠ .b) (h' : t' ≠ .b) : noB (gD t t' g) = true := by
  simp only [gD, noB, Bool.and_eq_true]
  exact ⟨by simpa using h, noBs_map fun _ => noB_aD h'⟩
theorem noO_aD {t a} (h : t ≠ .o) : noO (aD t a) = true := by
  simp only [aD, noO, Bool.and_eq_true]
  exact ⟨by simpa using h, noOs_map fun _ => noO_int⟩
theorem contains_cast {α : Type} : ∀ {l : List (Nat × α)} {k : Nat}, (l.map fun p => (p.1 : Int)).contains (k : Int) = (keys l).contains k
  | [], k => rfl
  | p :: l, k => by
    have ih := contains_cast (l := l) (k := k)
    unfold keys at ih ⊢
    rw [List.map_cons, List.map_cons, List.contains_cons, List.contains_cons, ih]
    congr 1
    by_cases h : k = p.1
    · rw [h]; simp
    · have h2 : ¬ (k : Int) = p.1 := by omega
      rw [beq_eq_false_iff_ne.mpr h, beq_eq_false_iff_ne.mpr h2]
theorem dlook_cast {α : Type} {f : α → D} : ∀ {l : List (Nat × α)} {k : Nat}, dlook (l.map fun p => (p.1 : Int)) (l.map fun p => f p.2) (k : Int) = (l.lookup k).map f
  | [], k => rfl
  | p :: l, k => by
    have ih := dlook_cast (f := f) (l := l) (k := k)
    rw [List.map_cons, List.map_cons]
    unfold dlook
    by_cases h : p.1 = k
    · have : (k == p.1) = true := by simp [h]
      have h2 : (p.1 : Int) = k := by omega
      rw [List.lookup, this, if_pos h2]; rfl
    · have : (k == p.1) = false := by simpa using fun e : k = p.1 => h e.symm
      have h2 : ¬ (p.1 : Int) = k := by omega
      rw [List.lookup, this, if_neg h2]; exact ih
theorem nb_get {g : Gr} {l : Nat} (h : l < g.length) : g[l]? = some (nb g l) := by
  unfold nb; simp [List.getD_eq_getElem?_getD, List.getElem?_eq_getElem h]
theorem atG {g : Gr} {l : Nat} {t' : Tag} (h : l < g.length) : atI (g.map (aD t')) (l : Int) = some (aD t' (nb g l)) := atI_natD (by rw [List.getElem?_map, nb_get h]; rfl)
theorem keys_len {α : Type} {l : List (Nat × α)} : (keys l).length = l.length := by simp [keys]
@[simp] theorem inQ_tr {neg : Bool} {k : Nat} {t : Tag} {tr : Tr} {Q : D → Ev → Om → Prop} {en : Ev} : inQ neg (.int (k : Nat)) Q en om (some (some (trD t tr))) = Q (.bl (if neg then !(keys tr).contains k else (keys tr).contains k)) en om := by
  unfold trD
  rw [inQ_at, contains_cast]
theorem putQ_tr {i k : Nat} {q : Option Nat} {tr : Tr} {Q : Out → Ev → Om → Prop} {en : Ev} (h : (keys tr).contains k = false) (hl : tr.length < 1000) : putQ i (.int (k : Nat)) (vT q) Q en om (some (some (trD .o tr))) = Q .nx (en.set i (some (trD .o (tr ++ [(k, q)])))) om := by
  have e1 : (tr.map fun p => (p.1 : Int)).contains (k : Int) = false := by rw [contains_cast]; exact h
  unfold trD
  rw [putQ_at, e1]
  simp only [Bool.false_eq_true, if_false, List.map_append, List.map_cons, List.map_nil]
  rw [eq_true (show noOs (tr.map fun p => vT p.2) = true ∧ noO (vT q) = true ∧ (tr.map fun p => (p.1 : Int)).length = (tr.map fun p => vT p.2).length ∧ (tr.map fun p => (p.1 : Int)).length < 1000 from ⟨noOs_map fun _ => noO_vT, noO_vT, by simp, by simpa using hl⟩), true_and]
theorem putQ_ad {i k : Nat} {q : Int} {tr : Adj} {Q : Out → Ev → Om → Prop} {en : Ev} (h : (keys tr).contains k = false) (hl : tr.length < 1000) : putQ i (.int (k : Nat)) (.int q) Q en om (some (some (aD .o tr))) = Q .nx (en.set i (some (aD .o (tr ++ [(k, q)])))) om := by
  have e1 : (tr.map fun p => (p.1 : Int)).contains (k : Int) = false := by rw [contains_cast]; exact h
  unfold aD
  rw [putQ_at, e1]
  simp only [Bool.false_eq_true, if_false, List.map_append, List.map_cons, List.map_nil]
  rw [eq_true (show noOs (tr.map fun p => D.int p.2) = true ∧ noO (D.int q) = true ∧ (tr.map fun p => (p.1 : Int)).length = (tr.map fun p => D.int p.2).length ∧ (tr.map fun p => (p.1 : Int)).length < 1000 from ⟨noOs_map fun _ => noO_int, noO_int, by simp, by simpa using hl⟩), true_and]
theorem tree_from_ok {g : Gr} {r : Nat} (G : GOk g) (hr : r < g.length) (h14 : g.length ≤ 14) : M_tree_from Ad [gD .b .b g, .int r] om = some (trD .o (treeFrom g r), om) := by
  apply M_of
  unfold M_tree_from b_tree_from
  simp [wM_mk, startE]
  refine wS_while (fun m en o => o = om ∧ ∃ (i : Nat) (tr : Tr) (x5 x6 : Option D), en = [some (gD .b .b g), some (.int r), some (trD .o tr), some (.lst .o (nD (keys tr))), some (.int i), x5, x6] ∧ bfs g m i tr = treeFrom g r ∧ m + i = g.length ∧ TOk g r tr ∧ GP.Seen g tr i) ?_ 1000 g.length _ _ (by omega) ⟨rfl, 0, [(r, none)], none, none, by simp [trD, vT, nD, keys], rfl, by omega, TOk.start hr, fun j k p hj => by omega⟩
  rintro m en o ⟨rfl, i, tr, x5, x6, rfl, hb, hm, T, S⟩
  have hlen := T.len
  simp
  split
  · rename_i hi
    have hi : i < tr.length := by rw [keys_len] at hi; omega
    obtain ⟨m, rfl⟩ : ∃ m', m = m' + 1 := ⟨m - 1, by omega⟩
    have e : tr[i]? = some tr[i] := List.getElem?_eq_getElem hi
    generalize tr[i] = kp at e
    obtain ⟨k, kp⟩ := kp
    have hk : k ∈ keys tr := mem_keys (List.mem_of_getElem? e)
    have hkl := T.lt k hk
    have e2 : atI (nD (keys tr)) (i : Int) = some (.int k) := atI_natD (by rw [nD_get]; simp [keys, e])
    simp [e2]
    refine wS_forK (gt := .b) (ks := (nb g k).map fun p => (p.1 : Int)) (ds := (nb g k).map fun p => .int p.2) (by simp [gD, atG hkl]; rfl) (by decide) (by simp) ?_
    have hkeys : (((nb g k).map fun p => (p.1 : Int)).map D.int) = nD (keys (nb g k)) := by simp [nD, keys]
    simp only [Bool.false_eq_true, if_false]
    rw [hkeys]
    refine wS_walk (fun j en o' => o' = o ∧ ∃ x6 : Option D, en = [some (gD .b .b g), some (.int r), some (trD .o (((keys (nb g k)).take j).foldl (visit k) tr)), some (.lst .o (nD (keys (((keys (nb g k)).take j).foldl (visit k) tr)))), some (.int (i + 1)), some (.int k), x6]) ⟨rfl, x6, by simp⟩ ?_ ?_
    · rintro j d en o' hd ⟨rfl, x6, rfl⟩
      rw [nD_get] at hd
      obtain ⟨ob, ho, rfl⟩ := Option.map_eq_some_iff.mp hd
      have htake : (keys (nb g k)).take (j + 1) = (keys (nb g k)).take j ++ [ob] := by rw [List.take_succ, ho]; rfl
      have Tj : TOk g r (((keys (nb g k)).take j).foldl (visit k) tr) := T.fold G _ _ hk fun o hx => keys_mem (List.mem_of_mem_take hx)
      rw [htake, List.foldl_append]
      generalize ((keys (nb g k)).take j).foldl (visit k) tr = tj at *
      have hlj := Tj.len
      cases hc : (keys tj).contains ob with
      | true =>
        have hm : ob ∈ keys tj := by simpa using hc
        simp [GP.visit, hm]
      | false =>
        have hm : ob ∉ keys tj := by simpa using hc
        have hp := fun Q en => putQ_tr (om := o') (q := some k) (i := 2) (Q := Q) (en := en) hc (by omega)
        simp only [vT] at hp
        simp [GP.visit, hm, hp]
        simp [nD, keys]
        omega
    · rintro en o' ⟨rfl, x6, rfl⟩
      have hfull : (keys (nb g k)).take (nD (keys (nb g k))).length = keys (nb g k) := List.take_of_length_le (by simp)
      rw [hfull]
      refine ⟨fun _ _ => by simp, m, by omega, rfl, i + 1, stepT g tr k, ⟨_, _, by simp [stepT]; exact ⟨rfl, rfl⟩⟩, ?_, by omega, T.step G hk, S.step e⟩
      rw [← hb]
      conv => rhs; unfold bfs
      rw [e]
  · rename_i hi
    have hi : tr.length ≤ i := by rw [keys_len] at hi; omega
    have : bfs g m i tr = tr := by
      cases m with
      | zero => rfl
      | succ m => unfold bfs; rw [List.getElem?_eq_none_iff.mpr hi]
    rw [this] at hb
    subst hb
    simp
    exact noB_trD (by decide)

def shD (t : Tag) (sh : Sh) : D := aD t sh
theorem item_tr {tr : Tr} {i : Nat} : (pairsK (tr.map fun p => (p.1 : Int)) (tr.map fun p => vT p.2))[i]? = tr[i]?.map fun p => .tup [.int (p.1 : Nat), vT p.2] := by
  unfold pairsK
  rw [List.zip_map, List.map_map, List.getElem?_map]
  have : tr.zip tr = tr.map fun p => (p, p) := by
    induction tr <;> simp_all
  rw [this]
  simp [List.getElem?_map]
  cases tr[i]? <;> rfl
theorem item_ad {tr : Adj} {i : Nat} : (pairsK (tr.map fun p => (p.1 : Int)) (tr.map fun p => .int p.2))[i]? = tr[i]?.map fun p => .tup [.int (p.1 : Nat), .int p.2] := by
  unfold pairsK
  rw [List.zip_map, List.map_map, List.getElem?_map]
  have : tr.zip tr = tr.map fun p => (p, p) := by
    induction tr <;> simp_all
  rw [this]
  simp [List.getElem?_map]
  cases tr[i]? <;> rfl
theorem pairsK_len {ks : List Int} {ds : List D} (h : ks.length = ds.length) : (pairsK ks ds).length = ks.length := by simp [pairsK]; omega
@[simp] theorem frz_shD {t a} : frz (shD t a) = shD t.fz a := frz_aD
@[simp] theorem lend_shD {t a} : lend (shD t a) = shD .b a := lend_aD
theorem oIx_ad {t : Tag} {a : Adj} {k : Nat} : oIx (aD t a) (.int (k : Nat)) = (a.lookup k).map .int := by
  unfold aD
  rw [oIx_d]
  exact dlook_cast (f := D.int)
theorem oIx_tr {t : Tag} {a : Tr} {k : Nat} : oIx (trD t a) (.int (k : Nat)) = (a.lookup k).map vT := by
  unfold trD
  rw [oIx_d]
  exact dlook_cast (f := vT)
theorem mem_lookup {α : Type} : ∀ {l : List (Nat × α)} {k : Nat}, k ∈ keys l → ∃ x, l.lookup k = some x
  | [], k, h => by simp [keys] at h
  | (k0, x0) :: l, k, h => by
    by_cases e : k = k0
    · exact ⟨x0, by simp [List.lookup, e]⟩
    · have h2 : (k == k0) = false := by simpa using e
      have : k ∈ keys l := by
        unfold keys at h ⊢
        simp only [List.map_cons, List.mem_cons] at h
        exact h.resolve_left e
      rw [List.lookup, h2]
      exact mem_lookup this
theorem shifts_in_tree_ok {g : Gr} {r : Nat} {tr : Tr} {s0 : Int} (G : GOk g) (T : TOk g r tr) (h14 : g.length ≤ 14) : M_shifts_in_tree Ad [gD .b .b g, trD .b tr, .int s0] om = some (shD .o (shiftsIn g tr s0), om) := by
  apply M_of
  unfold M_shifts_in_tree b_shifts_in_tree
  simp [wM_mk, startE]
  have hlen := T.len
  refine wS_forK (gt := .b) (ks := tr.map fun p => (p.1 : Int)) (ds := tr.map fun p => vT p.2) (by simp [trD]) (by decide) (by simp) ?_
  simp only [if_true]
  refine wS_walk (fun i en o => o = om ∧ ∃ x4 x5 : Option D, en = [some (gD .b .b g), some (trD .b tr), some (.int s0), some (shD .o (shiftsIn g (tr.take i) s0)), x4, x5]) ⟨rfl, none, none, by simp [shD, aD, shiftsIn]⟩ ?_ ?_
  · rintro i d en o hd ⟨rfl, x4, x5, rfl⟩
    rw [item_tr] at hd
    obtain ⟨⟨k, p⟩, hp, rfl⟩ := Option.map_eq_some_iff.mp hd
    have htk : tr.take (i + 1) = tr.take i ++ [(k, p)] := by rw [List.take_succ, hp]; rfl
    have hi := (List.getElem?_eq_some_iff.mp hp).1
    have hks : keys (shiftsIn g (tr.take i) s0) = keys (tr.take i) := by
      unfold shiftsIn; rw [sh_keys]; simp [keys]
    have hnew : (keys (shiftsIn g (tr.take i) s0)).contains k = false := by
      rw [hks]
      have nd := T.nd
      rw [← List.take_append_drop (i + 1) tr, keys_app, htk, keys_app] at nd
      have := (List.nodup_append.mp (List.nodup_append.mp nd).1).2.2
      have h2 : k ∉ keys (tr.take i) := fun hk => this k hk k (by simp [keys]) rfl
      simpa using h2
    have hl1 : (shiftsIn g (tr.take i) s0).length < 1000 := by
      have := congrArg List.length hks
      rw [keys_len, keys_len] at this
      simp at this
      omega
    rw [sh_take hp]
    cases p with
    | none =>
      have hp2 := fun Q en => putQ_ad (om := o) (q := s0) (i := 3) (Q := Q) (en := en) hnew hl1
      simp [vT, shD] at hp2 ⊢
      simp [hp2, shStep]
    | some q =>
      rcases T.par i k (some q) hp with ⟨_, h⟩ | ⟨j, q', x, h1, hj, ⟨p', hq⟩, hx⟩
      · cases h
      · cases h1
        have hqk : q ∈ keys (tr.take i) := mem_keys (List.mem_of_getElem? (show (tr.take i)[j]? = some (q, p') by rw [List.getElem?_take]; simp [hj, hq]))
        obtain ⟨y, hy⟩ := mem_lookup (hks ▸ hqk : q ∈ keys (shiftsIn g (tr.take i) s0))
        have hql : q < g.length := G.src hx
        have hlk := lookup_mem (G.nd q) hx
        have e1 : oIx (gD .b .b g) (.int (q : Nat)) = some (aD .b (nb g q)) := by unfold gD; rw [oIx_l]; exact atG hql
        have e2 : oIx (aD .b (nb g q)) (.int (k : Nat)) = some (.int x) := by rw [oIx_ad, hlk]; rfl
        have e3 : oIx (aD .o (shiftsIn g (tr.take i) s0)) (.int (q : Nat)) = some (.int y) := by rw [oIx_ad, hy]; rfl
        have hp2 := fun Q en => putQ_ad (om := o) (q := x - y) (i := 3) (Q := Q) (en := en) hnew hl1
        simp [vT, shD] at hp2 ⊢
        simp [e1, e2, e3, hp2, shStep, gap_of G hx, at_, hy]
  · rintro en o ⟨rfl, x4, x5, rfl⟩
    have : tr.take (pairsK (tr.map fun p => (p.1 : Int)) (tr.map fun p => vT p.2)).length = tr := List.take_of_length_le (by rw [pairsK_len (by simp)]; simp)
    rw [this]
    simp
    exact noB_aD (by decide)
end
end K

namespace K
open PySem PySem.Spec PyProof.Rows L2 DL LamX GP
section
variable {Om : Type} {Ad : Adr} {om : Om}
@[simp] theorem nD_rev {l : List Nat} : (nD l).reverse = nD l.reverse := by simp [nD]
@[simp] theorem nD_app {a b : List Nat} : nD a ++ nD b = nD (a ++ b) := by simp [nD]
def lD (l : List Nat) : D := .lst .f (nD l)
def gsD (t : Tag) (gs : List (List Nat)) : D := .lst t (gs.map lD)
@[simp] theorem frz_lD {l} : frz (lD l) = lD l := by simp [lD]
@[simp] theorem noB_lD {l} : noB (lD l) = true := by simp [lD]
@[simp] theorem noO_lD {l} : noO (lD l) = true := by simp [lD]
@[simp] theorem frz_gsD {t gs} : frz (gsD t gs) = gsD t.fz gs := by simp [gsD]; exact frzs_map fun _ => frz_lD
theorem cSortedD_tr {t : Tag} {tr : Tr} (h : tr.length < 64) : cSortedD [trD t tr] = some (.lst .o (nD (sortN (keys tr)))) := by
  unfold trD
  rw [cSortedD_at, if_pos (by simpa using h)]
  have : (tr.map fun p => (p.1 : Int)) = (keys tr).map fun k : Nat => (k : Int) := by simp [keys]
  rw [this, sortI_cast]
  simp [nD]
@[simp] theorem apQ1_gs {i : Nat} {t : Tag} {gs : List (List Nat)} {f : DE Om} {Q : Out → Ev → Om → Prop} {en : Ev} : apQ1 i f Q en om (some (some (gsD t gs))) = wE f (kAp i Q) en om := rfl
@[simp] theorem apQ2_gs {i : Nat} {gs : List (List Nat)} {l : List Nat} {Q : Out → Ev → Om → Prop} {en : Ev} : apQ2 i (lD l) Q en om (some (some (gsD .o gs))) = (gs.length < 1000 ∧ Q .nx (en.set i (some (gsD .o (gs ++ [l])))) om) := by
  unfold gsD
  rw [apQ2_at]
  simp
theorem group_lines_ok {g : Gr} {t t' : Tag} (G : GOk g) (h14 : g.length ≤ 14) (ht : t = .b) (ht' : t' = .b) : M_group_lines Ad [gD t t' g] om = some (gsD .o (groups g), om) := by
  subst ht ht'
  apply M_of
  unfold M_group_lines b_group_lines
  simp [wM_mk, startE]
  refine wS_withSet (d := gsD .o (groups g)) (om' := om) (by simp) (fun a => ?_) (by simp; simp [gsD]; exact noBs_map fun _ => noB_lD)
  simp
  simp [gD, small_of (show -1000000 ≤ (g.length : Int) ∧ (g.length : Int) ≤ 1000000 by omega)]
  refine wS_walk (fun i en m => m.1 = om ∧ (∃ (x3 x4 x5 : Option D), en = [some (gD .b .b g), some (gsD .o (groupsTo g i)), some (.opq a), x3, x4, x5]) ∧ (∀ k : Nat, m.2.1 (k : Int) = (groupsTo g i).any (·.contains k)) ∧ m.2.2 ≤ (groupsTo g i).flatten.length ∧ i ≤ g.length) ⟨rfl, ⟨none, none, none, by simp [gD, gsD, groupsTo]⟩, by simp [groupsTo], by simp, by omega⟩ ?_ ?_
  · rintro i d en m hd ⟨hm1, ⟨x3, x4, x5, rfl⟩, hS, hc, hi0⟩
    rw [rng_getI] at hd
    split at hd
    · rename_i hi
      cases hd
      have O := groupsTo_ok G i (by omega)
      have hlen := O.len G
      have hcnt := O.count G
      have tf := tree_from_ok (Ad := Ad) (om := m) G hi h14
      rw [groupsTo_succ]
      unfold addG
      simp
      simp [hS]
      by_cases hany : ∃ x ∈ groupsTo g i, i ∈ x
      · simp [hany]
        refine ⟨hm1, ?_, by omega⟩
        simpa using hc
      · simp [hany]
        have T := (treeFrom_ok G hi).1
        have hT := T.len
        have hgl := grp_len G hi
        simp [wM_eq tf, cSortedD_tr (show (treeFrom g i).length < 64 by omega)]
        have hg : sortN (keys (treeFrom g i)) = grp g i := rfl
        rw [hg]
        have hl : D.lst .f (nD (grp g i)) = lD (grp g i) := rfl
        rw [hl]
        simp
        refine ⟨by omega, ?_⟩
        simp [lD]
        refine wS_walk (fun j en m' => m'.1 = om ∧ (∃ x5 : Option D, en = [some (gD .b .b g), some (gsD .o (groupsTo g i ++ [grp g i])), some (.opq a), some (.int i), some (lD (grp g i)), x5]) ∧ (∀ k : Nat, m'.2.1 (k : Int) = ((groupsTo g i).any (·.contains k) || ((grp g i).take j).contains k)) ∧ m'.2.2 ≤ (groupsTo g i).flatten.length + j) ⟨hm1, ⟨x5, rfl⟩, by simpa using hS, by simpa using hc⟩ ?_ ?_
        · rintro j d en m' hd ⟨h1, ⟨x5, rfl⟩, h2, h3⟩
          rw [nD_get] at hd
          obtain ⟨k, hk, rfl⟩ := Option.map_eq_some_iff.mp hd
          have hj := (List.getElem?_eq_some_iff.mp hk).1
          have htk : (grp g i).take (j + 1) = (grp g i).take j ++ [k] := by rw [List.take_succ, hk]; rfl
          simp
          refine ⟨by omega, h1, fun k' => ?_, ?_⟩
          · rw [h2, htk]
            by_cases e : k' = k
            · subst e; simp
            · have : ¬ (k' : Int) = k := by omega
              simp [e, this]
          · have h3 : m'.2.2 ≤ ((groupsTo g i).map List.length).sum + j := by simpa using h3
            split <;> omega
        · rintro en m' ⟨h1, ⟨x5, rfl⟩, h2, h3⟩
          simp at h2 h3
          refine ⟨h1, ⟨_, _, _, rfl⟩, fun k => ?_, by omega, by omega⟩
          have : (grp g i).take (nD (grp g i)).length = grp g i := List.take_of_length_le (by simp)
          rw [h2]
    · cases hd
  · rintro en m ⟨hm1, ⟨x3, x4, x5, rfl⟩, hS, hc, hi0⟩
    simp
    exact ⟨by unfold groups; rfl, hm1⟩

/-! anchors -/
def anchorOf (cs : List (Option Int)) (G : List Nat) : Nat := (G.find? fun l => cs[l]? == some none).getD (G.headD 0)
theorem cs_get {cs : List (Option Int)} {l : Nat} (h : l < cs.length) {t : Tag} : oIx (.lst t (dOp cs)) (.int (l : Nat)) = some (oD cs[l]) := by
  rw [oIx_l]
  exact atI_natD (by rw [dOp_get, List.getElem?_eq_getElem h]; rfl)
theorem anchor_line_ok {cs : List (Option Int)} {G : List Nat} (h : ∀ l ∈ G, l < cs.length) (hG : G ≠ []) : M_anchor_line Ad [.lst .b (dOp cs), .lst .b (nD G)] om = some (.int (anchorOf cs G : Nat), om) := by
  apply M_of
  unfold M_anchor_line b_anchor_line
  simp [wM_mk, startE]
  refine wS_walk (fun i en o => o = om ∧ (∃ x : Option D, en = [some (.lst .b (dOp cs)), some (.lst .b (nD G)), x]) ∧ (G.find? fun l => cs[l]? == some none) = (G.drop i).find? fun l => cs[l]? == some none) ⟨rfl, ⟨none, rfl⟩, rfl⟩ ?_ ?_
  · rintro i d en o hd ⟨rfl, ⟨x, rfl⟩, hI⟩
    rw [nD_get] at hd
    obtain ⟨l, hl, rfl⟩ := Option.map_eq_some_iff.mp hd
    have hlc := h l (List.mem_of_getElem? hl)
    have hdr : G.drop i = l :: G.drop (i + 1) := by
      obtain ⟨hh, rfl⟩ := List.getElem?_eq_some_iff.mp hl
      exact List.drop_eq_getElem_cons hh
    have e1 := cs_get hlc (t := .b)
    rw [hdr, List.find?_cons] at hI
    simp at e1
    simp [e1]
    cases hc : cs[l] with
    | none =>
      simp [hlc, hc] at hI
      simp [anchorOf, hI]
    | some c =>
      simp [hlc, hc] at hI
      simp [hI]
  · rintro en o ⟨rfl, ⟨x, rfl⟩, hI⟩
    simp at hI
    obtain ⟨a, G', rfl⟩ : ∃ a G', G = a :: G' := by
      cases G with
      | nil => exact absurd rfl hG
      | cons a b => exact ⟨a, b, rfl⟩
    have : (List.find? (fun l => cs[l]? == some none) (a :: G')) = none := by
      rw [List.find?_eq_none]
      simpa using hI
    simp [nD, anchorOf, this]
/-! paths -/
def up (tr : Tr) : Nat → Nat → List Nat
  | 0, k => [k]
  | m + 1, k => match tr.lookup k with
    | some (some q) => k :: up tr m q
    | _ => [k]
def pathT (tr : Tr) (k : Nat) : List Nat := (up tr tr.length k).reverse
theorem up_hd {tr : Tr} {m k : Nat} : up tr m k = k :: (up tr m k).tail := by
  cases m with
  | zero => rfl
  | succ m => unfold up; split <;> rfl
theorem up_len {tr : Tr} : ∀ (m k : Nat), (up tr m k).length ≤ m + 1
  | 0, k => by simp [up]
  | m + 1, k => by
    unfold up
    split
    · have := up_len (tr := tr) m
      rename_i q _
      have := this q
      simp; omega
    · simp
theorem path_in_tree_ok {g : Gr} {r k : Nat} {tr : Tr} (T : TOk g r tr) (hk : k ∈ keys tr) (hlen : tr.length ≤ 14) : M_path_in_tree Ad [trD .b tr, .int (k : Nat)] om = some (.lst .o (nD (pathT tr k)), om) := by
  apply M_of
  unfold M_path_in_tree b_path_in_tree
  simp [wM_mk, startE]
  obtain ⟨p0, hp0⟩ := keys_mem hk
  obtain ⟨j0, hj0, ej0⟩ := List.mem_iff_getElem.mp hp0
  refine wS_while (fun m en o => o = om ∧ ∃ (l j : Nat) (p : Option Nat) (B : List Nat), en = [some (trD .b tr), some (.int (l : Nat)), some (.lst .o (nD B))] ∧ tr[j]? = some (l, p) ∧ j ≤ m ∧ B ++ (up tr m l).tail = up tr tr.length k ∧ B.length + m ≤ 40) ?_ 1000 tr.length _ _ (by omega) ⟨rfl, k, j0, p0, [k], by simp [nD], by rw [List.getElem?_eq_getElem hj0, ej0], by omega, up_hd.symm, by simp; omega⟩
  rintro m en o ⟨rfl, l, j, p, B, rfl, hl, hjm, hB, hbl⟩
  have hlk := lookup_mem T.nd (List.mem_of_getElem? hl)
  have e1 : oIx (trD .b tr) (.int (l : Nat)) = some (vT p) := by rw [oIx_tr, hlk]; rfl
  simp [e1]
  cases p with
  | none =>
    simp
    have : (up tr m l).tail = [] := by
      cases m with
      | zero => rfl
      | succ m => unfold up; rw [hlk]; rfl
    rw [this, List.append_nil] at hB
    rw [hB]
    unfold pathT
    simp
  | some q =>
    rcases T.par j l (some q) hl with ⟨_, h⟩ | ⟨j', q', x, h1, hj, ⟨p', hq⟩, hx⟩
    · cases h
    · cases h1
      obtain ⟨m, rfl⟩ : ∃ m', m = m' + 1 := ⟨m - 1, by omega⟩
      simp [vT]
      refine ⟨by omega, m, by omega, q, j', p', B ++ [q], by simp [nD], hq, by omega, ?_, by simp; omega⟩
      rw [← hB]
      conv => rhs; unfold up
      rw [hlk]
      show B ++ [q] ++ (up tr m q).tail = B ++ (up tr m q)
      conv => rhs; rw [up_hd]
      simp

/-! contradictions -/
theorem drop_getN {α : Type} {l : List α} {i : Nat} {a : α} (h : l[i]? = some a) : l.drop i = a :: l.drop (i + 1) := by
  obtain ⟨hl, rfl⟩ := List.getElem?_eq_some_iff.mp h
  exact List.drop_eq_getElem_cons hl

def conG (g : Gr) (cs : List (Option Int)) (G : List Nat) : Option (List Nat) :=
  let tr := treeFrom g (anchorOf cs G)
  let sh := shiftsIn g tr 0
  G.findSome? fun l => if cs[l]? = some none ∧ at_ sh l ≠ 0 then some (pathT tr l) else (nb g l).findSome? fun p => if at_ sh l + at_ sh p.1 ≠ p.2 then some (pathT tr l ++ (pathT tr p.1).reverse) else none
def oLst : Option (List Nat) → D
  | none => .non
  | some p => .lst .o (nD p)
theorem pathT_len {tr : Tr} {k : Nat} : (pathT tr k).length ≤ tr.length + 1 := by
  unfold pathT; rw [List.length_reverse]; exact up_len _ _
theorem sh_mem {g : Gr} {tr : Tr} {s0 : Int} {k : Nat} (h : k ∈ keys tr) : (shiftsIn g tr s0).lookup k = some (at_ (shiftsIn g tr s0) k) := by
  have : k ∈ keys (shiftsIn g tr s0) := by unfold shiftsIn; rw [sh_keys]; simpa [keys] using h
  obtain ⟨x, hx⟩ := mem_lookup this
  unfold at_
  rw [hx]; rfl
theorem anchor_mem {cs : List (Option Int)} {G : List Nat} (hG : G ≠ []) : anchorOf cs G ∈ G := by
  unfold anchorOf
  cases h : G.find? fun l => cs[l]? == some none with
  | none => cases G with
    | nil => exact absurd rfl hG
    | cons a b => simp
  | some l => exact List.mem_of_find?_eq_some h
theorem contradiction_in_group_ok {g : Gr} {cs : List (Option Int)} {G : List Nat} (GG : GOk g) (h14 : g.length ≤ 14) (hc : cs.length = g.length) (hG : G ≠ []) (hlt : ∀ k ∈ G, k < g.length) (hcl : ∀ k, k ∈ G ↔ Joined g (anchorOf cs G) k) : M_contradiction_in_group Ad [gD .b .b g, .lst .b (dOp cs), .lst .b (nD G)] om = some (oLst (conG g cs G), om) := by
  have ha : anchorOf cs G < g.length := hlt _ (anchor_mem hG)
  have ea := anchor_line_ok (Ad := Ad) (om := om) (cs := cs) (G := G) (fun l hl => hc ▸ hlt l hl) hG
  have et := tree_from_ok (Ad := Ad) (om := om) GG ha h14
  have T := (treeFrom_ok GG ha).1
  have es := shifts_in_tree_ok (Ad := Ad) (om := om) (s0 := 0) GG T h14
  have hk : ∀ k, k ∈ G → k ∈ keys (treeFrom g (anchorOf cs G)) := fun k h => (tree_mem GG ha).mpr ((hcl k).mp h)
  have ep := fun k hkG => path_in_tree_ok (Ad := Ad) (om := om) (k := k) T (hk k hkG) (by have := T.len; omega)
  have el := fun k hkG => sh_mem (g := g) (s0 := 0) (hk k hkG)
  have hlen := T.len
  unfold conG
  dsimp only
  generalize treeFrom g (anchorOf cs G) = tr at *
  generalize shiftsIn g tr 0 = sh at *
  apply M_of
  unfold M_contradiction_in_group b_contradiction_in_group
  simp [wM_mk, startE, wM_eq ea, wM_eq et, wM_eq es]
  have hnx : ∀ k, k ∈ G → ∀ o x, (o, x) ∈ nb g k → o ∈ G := fun k h o x hx => (hcl o).mpr (((hcl k).mp h).step hx)
  generalize hR : (G.findSome? fun l => if cs[l]? = some none ∧ ¬ at_ sh l = 0 then some (pathT tr l) else (nb g l).findSome? fun p => if at_ sh l + at_ sh p.1 = p.2 then none else some (pathT tr l ++ (pathT tr p.1).reverse)) = R
  refine wS_walk (fun i en o => o = om ∧ (∃ (t4 : Tag) (x5 x6 x7 : Option D), en = [some (gD .b .b g), some (.lst .b (dOp cs)), some (.lst .b (nD G)), some (trD .f tr), some (shD t4 sh), x5, x6, x7]) ∧ ((G.drop i).findSome? fun l => if cs[l]? = some none ∧ ¬ at_ sh l = 0 then some (pathT tr l) else (nb g l).findSome? fun p => if at_ sh l + at_ sh p.1 = p.2 then none else some (pathT tr l ++ (pathT tr p.1).reverse)) = R) ⟨rfl, ⟨.o, none, none, none, rfl⟩, by simpa using hR⟩ ?_ ?_
  · rintro i d en o hd ⟨rfl, ⟨t4, x5, x6, x7, rfl⟩, hI⟩
    rw [nD_get] at hd
    obtain ⟨l, hl, rfl⟩ := Option.map_eq_some_iff.mp hd
    have hlG := List.mem_of_getElem? hl
    have hlg := hlt l hlG
    have hlc : l < cs.length := by omega
    rw [drop_getN hl, List.findSome?_cons] at hI
    have e1 := cs_get hlc (t := .b)
    have e4 : ∀ (t : Tag) k, k ∈ G → oIx (aD t sh) (.int (k : Nat)) = some (.int (at_ sh k)) := fun t k hkG => by rw [oIx_ad, el k hkG]; rfl
    have tail : ¬ (cs[l]? = some none ∧ ¬ at_ sh l = 0) → ∀ t4 : Tag, wS (sForK (.ix 0 (.v 5)) true (gT 2 (gsCons (gN 6) (gsCons (gN 7) gsNil))) (sIf (dB (d2 oNe (d2 oAdd (d2 oIx (dV 4) (dV 5)) (d2 oIx (dV 4) (dV 6))) (dV 7))) (sRet (d2 oAdd (dCall (M_path_in_tree Ad) (aCons (dV 3) (aCons (dV 5) aNil))) (dRev (dCall (M_path_in_tree Ad) (aCons (dV 3) (aCons (dV 6) aNil)))))) sSkip))
        (fun ot en om_1 => match ot with
          | .nx => om_1 = o ∧ (∃ (t4 : Tag) (x5 x6 x7 : Option D), en = [some (gD .b .b g), some (.lst .b (dOp cs)), some (.lst .b (nD G)), some (trD .f tr), some (shD t4 sh), x5, x6, x7]) ∧ ((G.drop (i + 1)).findSome? fun l => if cs[l]? = some none ∧ ¬ at_ sh l = 0 then some (pathT tr l) else (nb g l).findSome? fun p => if at_ sh l + at_ sh p.1 = p.2 then none else some (pathT tr l ++ (pathT tr p.1).reverse)) = R
          | .rt d => noB d = true ∧ d = oLst R ∧ om_1 = o
          | _ => False) [some (gD .b .b g), some (.lst .b (dOp cs)), some (.lst .b (nD G)), some (trD .f tr), some (shD t4 sh), some (.int (l : Nat)), x6, x7] o := by
      intro hn t4
      rw [if_neg hn] at hI
      refine wS_forK (gt := .b) (ks := (nb g l).map fun p => (p.1 : Int)) (ds := (nb g l).map fun p => .int p.2) (by simp [gD, atG hlg]; rfl) (by decide) (by simp) ?_
      simp only [if_true]
      generalize hR2 : ((nb g l).findSome? fun p => if at_ sh l + at_ sh p.1 = p.2 then none else some (pathT tr l ++ (pathT tr p.1).reverse)) = R2 at hI
      refine wS_walk (fun j en om_1 => om_1 = o ∧ (∃ (t4 : Tag) (x6 x7 : Option D), en = [some (gD .b .b g), some (.lst .b (dOp cs)), some (.lst .b (nD G)), some (trD .f tr), some (shD t4 sh), some (.int (l : Nat)), x6, x7]) ∧ (((nb g l).drop j).findSome? fun p => if at_ sh l + at_ sh p.1 = p.2 then none else some (pathT tr l ++ (pathT tr p.1).reverse)) = R2) ⟨rfl, ⟨t4, x6, x7, rfl⟩, by simpa using hR2⟩ ?_ ?_
      · rintro j d en om_1 hd2 ⟨rfl, ⟨t4, x6, x7, rfl⟩, hJ⟩
        rw [item_ad] at hd2
        obtain ⟨⟨ob, x⟩, hp, rfl⟩ := Option.map_eq_some_iff.mp hd2
        have hob := hnx l hlG ob x (List.mem_of_getElem? hp)
        rw [drop_getN hp, List.findSome?_cons] at hJ
        have p1 := ep l hlG
        have p2 := ep ob hob
        have l1 := pathT_len (tr := tr) (k := l)
        have l2 := pathT_len (tr := tr) (k := ob)
        simp [shD, e4 _ l hlG, e4 _ ob hob]
        by_cases hx : at_ sh l + at_ sh ob = x
        · simp [hx] at hJ ⊢
          exact ⟨⟨_, rfl⟩, hJ⟩
        · simp [hx] at hJ ⊢
          subst hJ
          simp at hI
          subst hI
          simp [wM_eq p1, wM_eq p2, sz_of (show (pathT tr l).length + (pathT tr ob).length ≤ 1000000 by omega), oLst]
      · rintro en om_1 ⟨rfl, ⟨t4, x6, x7, rfl⟩, hJ⟩
        have : (nb g l).drop (pairsK ((nb g l).map fun p => (p.1 : Int)) ((nb g l).map fun p => D.int p.2)).length = [] := by rw [pairsK_len (by simp)]; simp
        rw [this] at hJ
        simp at hJ
        subst hJ
        exact ⟨fun _ _ => by simp, rfl, ⟨t4, _, _, _, rfl⟩, by simpa using hI⟩
    simp at e1
    cases hcl' : cs[l] with
    | none =>
      by_cases h0 : at_ sh l = 0
      · simp [e1, hcl', oD, e4 _ l hlG, shD, h0]
        refine wS_mono (tail (by simp [h0]) t4.fz) fun ot en om_1 q => ?_
        cases ot <;> first | exact q | exact q.elim
      · have hy : cs[l]? = some none := by rw [List.getElem?_eq_getElem hlc, hcl']
        rw [if_pos ⟨hy, h0⟩] at hI
        simp at hI
        subst hI
        simp [e1, hcl', oD, e4 _ l hlG, shD, h0, wM_eq (ep l hlG), oLst]
    | some c =>
      have hy : ¬ (cs[l]? = some none ∧ ¬ at_ sh l = 0) := by rw [List.getElem?_eq_getElem hlc, hcl']; simp
      simp [e1, hcl', oD]
      refine wS_mono (tail hy t4) fun ot en om_1 q => ?_
      cases ot <;> first | exact q | exact q.elim
  · rintro en o ⟨rfl, ⟨t4, x5, x6, x7, rfl⟩, hI⟩
    simp at hI
    subst hI
    simp [oLst]

def conAll (g : Gr) (cs : List (Option Int)) : Option (List Nat) := (groups g).findSome? (conG g cs)
theorem group_facts {g : Gr} {cs : List (Option Int)} {G : List Nat} (GG : GOk g) (h : G ∈ groups g) : G ≠ [] ∧ (∀ k ∈ G, k < g.length) ∧ (∀ a ∈ G, ∀ k, k ∈ G ↔ Joined g a k) := by
  have O := groups_ok GG
  obtain ⟨l, hl, rfl, hh⟩ := O.each G h
  refine ⟨fun e => by rw [e] at hh; simp at hh, fun k hk => grp_lt GG hl hk, fun a ha k => ?_⟩
  have ja := (grp_mem GG hl).mp ha
  rw [grp_mem GG hl]
  exact ⟨fun j => (ja.symm GG).trans j, fun j => ja.trans j⟩
theorem contradiction_in_graph_ok {g : Gr} {cs : List (Option Int)} (GG : GOk g) (h14 : g.length ≤ 14) (hc : cs.length = g.length) : M_contradiction_in_graph Ad [gD .b .b g, .lst .b (dOp cs)] om = some (oLst (conAll g cs), om) := by
  have eg := group_lines_ok (Ad := Ad) (om := om) GG h14 rfl rfl
  apply M_of
  unfold M_contradiction_in_graph b_contradiction_in_graph
  simp [wM_mk, startE, wM_eq eg]
  simp [gsD]
  unfold conAll
  refine wS_walk (fun i en o => o = om ∧ (∃ x2 x3 : Option D, en = [some (gD .b .b g), some (.lst .b (dOp cs)), x2, x3]) ∧ (groups g).findSome? (conG g cs) = ((groups g).drop i).findSome? (conG g cs)) ⟨rfl, ⟨none, none, rfl⟩, rfl⟩ ?_ ?_
  · rintro i d en o hd ⟨rfl, ⟨x2, x3, rfl⟩, hI⟩
    rw [List.getElem?_map] at hd
    obtain ⟨G, hG, rfl⟩ := Option.map_eq_some_iff.mp hd
    obtain ⟨f1, f2, f3⟩ := group_facts (cs := cs) GG (List.mem_of_getElem? hG)
    have ec := contradiction_in_group_ok (Ad := Ad) (om := o) GG h14 hc f1 f2 (f3 _ (anchor_mem f1))
    rw [drop_getN hG, List.findSome?_cons] at hI
    simp [lD, wM_eq ec]
    cases hcG : conG g cs G with
    | none =>
      rw [hcG] at hI
      simp at hI
      simp [oLst, hI]
    | some p =>
      rw [hcG] at hI
      simp at hI
      simp [oLst, hI]
  · rintro en o ⟨rfl, ⟨x2, x3, rfl⟩, hI⟩
    rw [List.drop_of_length_le (by simp)] at hI
    rw [hI]
    simp [oLst]
end
end K

namespace K
open PySem PySem.Spec PyProof.Rows L2 DL LamX
section
variable {Om : Type} {Ad : Adr} {om : Om}
/-- known kinds -/
def tyOk : D → Bool
  | .opq _ => false | .ty _ => false
  | _ => true
def intIn (x : D) (lo hi : Int) : Bool := match x with
  | .int i => decide (lo ≤ i) && decide (i ≤ hi)
  | _ => false
@[simp] theorem intIn_int {i lo hi : Int} : intIn (.int i) lo hi = (decide (lo ≤ i) && decide (i ≤ hi)) := rfl
theorem is_integer_ok {x : D} {lo hi : Int} (h : tyOk x = true) : M_is_integer Ad [x, .int lo, .int hi] om = some (.bl (intIn x lo hi), om) := by
  apply M_of
  unfold M_is_integer b_is_integer
  cases x <;> first | (simp [tyOk] at h; done) | (simp [wM_mk, startE, intIn]; done) | (simp [wM_mk, startE, intIn]; split <;> omega)
theorem is_number_ok {x : D} (h : tyOk x = true) : M_is_number Ad [x] om = some (.bl (intIn x (-1000000) 1000000), om) := by
  apply M_of
  unfold M_is_number b_is_number
  have e : ∀ x : D, tyOk x = true → tyOk (lend (frz x)) = true ∧ intIn (lend (frz x)) (-1000000) 1000000 = intIn x (-1000000) 1000000 := fun x h => by cases x <;> simp_all [tyOk, intIn, frz, lend]
  simp [wM_mk, startE, wM_eq (is_integer_ok (e x h).1), (e x h).2]
def costOk : Option Int → Prop
  | none => True
  | some i => 1 ≤ i ∧ i ≤ 99
theorem is_cost_ok {o : Option Int} (h : costOk o) : M_is_cost Ad [oD o] om = some (.bl true, om) := by
  apply M_of
  unfold M_is_cost b_is_cost
  cases o with
  | none => simp [wM_mk, startE, oD]
  | some i => simp [costOk] at h; simp [wM_mk, startE, oD, wM_eq (is_integer_ok (x := .int i) rfl), h]
theorem is_row_ok {r : List Int} {n : Nat} (hn : r.length = n) (h : ∀ i ∈ r, -1000000 ≤ i ∧ i ≤ 1000000) (hs : r.length ≤ 1000) : M_is_row Ad [rowD r, .int n] om = some (.bl true, om) := by
  apply M_of
  unfold M_is_row b_is_row
  simp [wM_mk, startE, rowD, hn]
  refine kLc_walk (by simpa using hs) (fun i en o acc => en = [some (rowD r), some (.int n), none] ∧ o = om ∧ acc = (List.replicate i true).map .bl) ?_ ?_ ?_
  · simp [wipeE, rowD]
  · rintro i d en o acc hd ⟨rfl, rfl, rfl⟩
    rw [dI_get] at hd
    obtain ⟨x, hx, rfl⟩ := Option.map_eq_some_iff.mp hd
    have := h x (List.mem_of_getElem? hx)
    simp [wM_eq (is_number_ok (x := .int x) rfl), wipeE, this]
    simp [List.replicate_succ']
  · rintro en o acc ⟨rfl, rfl, rfl⟩
    simp
structure VT (c : List (List Int)) (rc cc : List (Option Int)) (n w : Nat) : Prop where
  cl : c.length = n
  n1 : 1 ≤ n
  n7 : n ≤ 7
  w1 : 1 ≤ w
  w7 : w ≤ 7
  rows : ∀ r ∈ c, r.length = w ∧ ∀ i ∈ r, -1000000 ≤ i ∧ i ≤ 1000000
  rl : rc.length = n
  ccl : cc.length = w
  co : ∀ o ∈ rc ++ cc, costOk o
def tD (c : List (List Int)) (rc cc : List (Option Int)) : D := .tup [.tup (rowsD c), .tup (dOp rc), .tup (dOp cc)]
theorem first_wrong_row_ok {c : List (List Int)} {n w : Nat} (cl : c.length = n) (n1 : 1 ≤ n) (n7 : n ≤ 7) (w1 : 1 ≤ w) (w7 : w ≤ 7) (rows : ∀ r ∈ c, r.length = w ∧ ∀ i ∈ r, -1000000 ≤ i ∧ i ≤ 1000000) : M_first_wrong_row Ad [.tup (rowsD c)] om = some (.non, om) := by
  apply M_of
  unfold M_first_wrong_row b_first_wrong_row
  obtain ⟨r0, c', rfl⟩ : ∃ r0 c', c = r0 :: c' := by
    cases c with
    | nil => simp at cl; omega
    | cons a b => exact ⟨a, b, rfl⟩
  have h0 := rows r0 (by simp)
  simp [wM_mk, startE]
  refine ⟨by omega, ?_⟩
  have e : rowsD (r0 :: c') = rowD r0 :: rowsD c' := rfl
  rw [e]
  simp [rowD, h0.1]
  have q1 : (1 : Int) ≤ w := by omega
  have q7 : (w : Int) ≤ 7 := by omega
  simp [q1, q7]
  refine wS_walk (fun i en o => (∃ a b, en = [some (.tup (rowsD (r0 :: c'))), some (rowD r0), a, b]) ∧ o = om) ⟨⟨_, _, rfl⟩, rfl⟩ ?_ ?_
  · rintro i d en o hd ⟨⟨a, b, rfl⟩, rfl⟩
    rw [pairsI_at] at hd
    obtain ⟨x, hx, rfl⟩ := Option.map_eq_some_iff.mp hd
    change (rowsD (r0 :: c'))[i]? = _ at hx
    rw [rowsD_get] at hx
    obtain ⟨r, hr, rfl⟩ := Option.map_eq_some_iff.mp hx
    have hb := len_bound hr
    have hm := rows r (List.mem_of_getElem? hr)
    have i7 : (i : Int) ≠ 7 := by omega
    simp [i7, rowD, h0.1]
    have := is_row_ok (Ad := Ad) (om := o) hm.1 hm.2 (by omega)
    simp [rowD] at this
    simp [wM_eq this]
  · rintro en o ⟨⟨a, b, rfl⟩, rfl⟩
    simp
theorem first_wrong_entry_gen {l : List (Option Int)} {n : Nat} {f : Addr} {M : DF Om} (hn : l.length = n) (hS : S_first_wrong_entry Ad f = some M) (h : ∀ o ∈ l, ∀ om, M [oD o] om = some (.bl true, om)) : M_first_wrong_entry Ad [.tup (dOp l), .int n, .opq f] om = some (.non, om) := by
  apply M_of
  unfold M_first_wrong_entry b_first_wrong_entry
  simp [wM_mk, startE]
  refine wS_walk (fun i en o => (∃ a b, en = [some (.tup (dOp l)), some (.int n), some (.opq f), a, b]) ∧ o = om) ⟨⟨_, _, rfl⟩, rfl⟩ ?_ ?_
  · rintro i d en o hd ⟨⟨a, b, rfl⟩, rfl⟩
    rw [pairsI_at] at hd
    obtain ⟨x, hx, rfl⟩ := Option.map_eq_some_iff.mp hd
    rw [dOp_get] at hx
    obtain ⟨r, hr, rfl⟩ := Option.map_eq_some_iff.mp hx
    have hb := len_bound hr
    have ne : (i : Int) ≠ n := by omega
    simp [ne, hS, wM_eq (h r (List.mem_of_getElem? hr) o)]
  · rintro en o ⟨⟨a, b, rfl⟩, rfl⟩
    simp [hn]
theorem first_wrong_entry_ok {l : List (Option Int)} {n : Nat} (hn : l.length = n) (h : ∀ o ∈ l, costOk o) : M_first_wrong_entry Ad [.tup (dOp l), .int n, .opq Ad.is_cost] om = some (.non, om) :=
  first_wrong_entry_gen (M := M_is_cost Ad) hn (by simp [S_first_wrong_entry]) fun o ho om => is_cost_ok (h o ho)
theorem check_costs_ok {p : Int} {l : List (Option Int)} {n : Nat} (hn : l.length = n) (h : ∀ o ∈ l, costOk o) : M_check_costs Ad [.int p, .tup (dOp l), .int n] om = some (.inl .non, om) := by
  apply X_of
  unfold M_check_costs b_check_costs
  simp [wX_mk, startE, wM_eq (first_wrong_entry_ok hn h)]
theorem check_table_ok {c rc cc} {n w : Nat} (h : VT c rc cc n w) : M_check_table Ad [tD c rc cc] om = some (.inl .non, om) := by
  apply X_of
  unfold M_check_table b_check_table
  have e := first_wrong_row_ok (Ad := Ad) (om := om) h.cl h.n1 h.n7 h.w1 h.w7 h.rows
  have e1 := check_costs_ok (Ad := Ad) (om := om) (p := 1) h.rl (fun o ho => h.co o (by simp [ho]))
  have e2 := check_costs_ok (Ad := Ad) (om := om) (p := 2) h.ccl (fun o ho => h.co o (by simp [ho]))
  obtain ⟨r0, c', rfl⟩ : ∃ r0 c', c = r0 :: c' := by
    cases c with
    | nil => have := h.cl; have := h.n1; simp at *; omega
    | cons a b => exact ⟨a, b, rfl⟩
  have h0 := h.rows r0 (by simp)
  have hc := h.cl
  simp at hc
  have hc : (c'.length : Int) + 1 = n := by omega
  simp [wX_mk, startE, tD, wM_eq e]
  simp [hc, wX_eq e1]
  have er : rowsD (r0 :: c') = rowD r0 :: rowsD c' := rfl
  simp [er, rowD, h0.1, wX_eq e2]
theorem line_costs_ok {c rc cc} {n w : Nat} (h : VT c rc cc n w) : M_line_costs Ad [tD c rc cc] om = some (.lst .o (dOp (rc ++ cc)), om) := by
  apply M_of
  unfold M_line_costs b_line_costs
  have h1 := h.rl
  have h2 := h.ccl
  have h3 := h.n7
  have h4 := h.w7
  simp [wM_mk, startE, tD, h1, h2]
  omega
end
end K

namespace K
open PySem PySem.Spec PyProof.Rows L2 DL LamX GP
section
variable {Om : Type} {Ad : Adr} {om : Om}
/-! goals -/
def rowsG (gl : List (List (Option Int))) : List D := gl.map fun r => .tup (dOp r)
def goalD (gl : List (List (Option Int))) : D := .tup (rowsG gl)
theorem plain_goal {gl : List (List (Option Int))} : DL.plains (rowsG gl) = true := by
  refine plains_all.mpr fun d h => ?_
  obtain ⟨r, _, rfl⟩ := List.mem_map.mp h
  simp [DL.plain, plains_dOp]
@[simp] theorem frzs_rowsG {gl} : frzs (rowsG gl) = rowsG gl := (plains_id plain_goal).1
@[simp] theorem lends_rowsG {gl} : lends (rowsG gl) = rowsG gl := (plains_id plain_goal).2.1
@[simp] theorem noBs_rowsG {gl} : noBs (rowsG gl) = true := (plains_id plain_goal).2.2.1
@[simp] theorem noOs_rowsG {gl} : noOs (rowsG gl) = true := (plains_id plain_goal).2.2.2
@[simp] theorem rowsG_length {gl} : (rowsG gl).length = gl.length := by simp [rowsG]
theorem rowsG_get {gl : List (List (Option Int))} {i : Nat} : (rowsG gl)[i]? = gl[i]?.map fun r => .tup (dOp r) := by simp [rowsG]
@[simp] theorem frz_goal {gl} : frz (goalD gl) = goalD gl := by simp [goalD]
@[simp] theorem lend_goal {gl} : lend (goalD gl) = goalD gl := by simp [goalD]
@[simp] theorem noB_goal {gl} : noB (goalD gl) = true := by simp [goalD]
@[simp] theorem noO_goal {gl} : noO (goalD gl) = true := by simp [goalD]
structure VG (gl : List (List (Option Int))) (n w : Nat) : Prop where
  sh : ∀ c, Shape c gl n w
  vals : ∀ row ∈ gl, ∀ v : Int, some v ∈ row → -1000000 ≤ v ∧ v ≤ 1000000
theorem is_goal_entry_ok {o : Option Int} (h : ∀ v, o = some v → -1000000 ≤ v ∧ v ≤ 1000000) : M_is_goal_entry Ad [oD o] om = some (.bl true, om) := by
  apply M_of
  unfold M_is_goal_entry b_is_goal_entry
  cases o with
  | none => simp [wM_mk, startE, oD]
  | some v => simp [wM_mk, startE, oD, wM_eq (is_number_ok (x := .int v) rfl), h v rfl]
theorem check_goal_ok {c : List (List Int)} {gl : List (List (Option Int))} {n w : Nat} (hne : Ad.is_goal_entry ≠ Ad.is_cost) (hc : c.length = n) (hn : 1 ≤ n) (hn7 : n ≤ 7) (hw : ∀ r ∈ c, r.length = w) (g : VG gl n w) : M_check_goal Ad [.tup (rowsD c), goalD gl] om = some (.inl .non, om) := by
  apply X_of
  unfold M_check_goal b_check_goal
  obtain ⟨r0, c', rfl⟩ : ∃ r0 c', c = r0 :: c' := by
    cases c with
    | nil => simp at hc; omega
    | cons a b => exact ⟨a, b, rfl⟩
  have hr0 := hw r0 (by simp)
  have hgl := (g.sh (r0 :: c')).gn
  have e0 : oIx (.tup (rowsD (r0 :: c'))) (.int 0) = some (rowD r0) := by simp [rowsD]
  simp [wX_mk, startE, goalD]
  refine wS_walk (fun i en o => o = om ∧ ∃ a b d : Option D, en = [some (.tup (rowsD (r0 :: c'))), some (goalD gl), a, b, d]) ⟨rfl, none, none, none, by simp [goalD]⟩ ?_ ?_
  · rintro i d en o hd ⟨rfl, a, b, dd, rfl⟩
    rw [pairsI_at] at hd
    obtain ⟨x, hx, rfl⟩ := Option.map_eq_some_iff.mp hd
    rw [rowsG_get] at hx
    obtain ⟨row, hrow, rfl⟩ := Option.map_eq_some_iff.mp hx
    have hi := (List.getElem?_eq_some_iff.mp hrow).1
    have hrm := List.mem_of_getElem? hrow
    have e1 := first_wrong_entry_gen (Ad := Ad) (om := o) (l := row) (n := w) (f := Ad.is_goal_entry) (M := M_is_goal_entry Ad) ((g.sh (r0 :: c')).gw row hrm) (by simp [S_first_wrong_entry, hne]) fun ob ho om => is_goal_entry_ok fun v hv => g.vals row hrm v (hv ▸ ho)
    have ne : ¬ (i : Int) = (c'.length : Int) + 1 := by simp at hc; omega
    simp [ne, e0, rowD, hr0, wM_eq e1]
  · rintro en o ⟨rfl, a, b, dd, rfl⟩
    have hl : ¬ (gl.length : Int) < (c'.length : Int) + 1 := by simp at hc; omega
    simp [goalD, hl]

/-! the graph of a goal -/
theorem noO_gD {t t' : Tag} {g : Gr} (h : t ≠ .o) (h' : t' ≠ .o) : noO (gD t t' g) = true := by
  simp only [gD, noO, Bool.and_eq_true]
  exact ⟨by simpa using h, noOs_map fun _ => noO_aD h'⟩
theorem put2_g {i l o : Nat} {x : Int} {g : Gr} {Q : Out → Ev → Om → Prop} {en : Ev} (hl : l < g.length) (hn : o ∉ keys (nb g l)) (h1 : (nb g l).length < 1000) : put2Q i (some (l : Int)) (some (o : Int)) (.int x) Q en om (some (some (gD .o .o g))) = Q .nx (en.set i (some (gD .o .o (ins1 g l o x)))) om := by
  have e1 : ((nb g l).map fun p => (p.1 : Int)).contains (o : Int) = false := by
    rw [contains_cast]; simpa using hn
  have e2 : (g.map (aD .o)).getD l .non = aD .o (nb g l) := by
    rw [List.getD_eq_getElem?_getD, List.getElem?_map, nb_get hl]; rfl
  unfold gD put2Q
  simp only [wO_some]
  rw [List.length_map, ixN_nat hl, wO_some, e2]
  unfold aD
  simp only [wO_some, e1, Bool.false_eq_true, if_false]
  rw [eq_true (show noOs ((nb g l).map fun p => D.int p.2) = true ∧ noO (D.int x) = true ∧ ((nb g l).map fun p => (p.1 : Int)).length = ((nb g l).map fun p => D.int p.2).length ∧ ((nb g l).map fun p => (p.1 : Int)).length < 1000 from ⟨noOs_map fun _ => noO_int, noO_int, by simp, by simpa using h1⟩), true_and]
  have e3 : (g.map fun a : Adj => D.dic .o (a.map fun p => (p.1 : Int)) (a.map fun p => D.int p.2)).set l (.dic .o (((nb g l).map fun p => (p.1 : Int)) ++ [(o : Int)]) (((nb g l).map fun p => D.int p.2) ++ [.int x])) = (ins1 g l o x).map fun a : Adj => D.dic .o (a.map fun p => (p.1 : Int)) (a.map fun p => D.int p.2) := by
    unfold ins1
    rw [List.map_set]
    simp
  rw [e3]
theorem build_graph_ok {c : List (List Int)} {gl : List (List (Option Int))} {n w : Nat} (hc : c.length = n) (hn : 1 ≤ n) (hn7 : n ≤ 7) (hw : ∀ r ∈ c, r.length = w) (hw7 : w ≤ 7) (g : VG gl n w) : M_build_graph Ad [.tup (rowsD c), goalD gl] om = some (gD .o .o (buildG c gl n w), om) := by
  apply M_of
  unfold M_build_graph b_build_graph
  obtain ⟨r0, c', rfl⟩ : ∃ r0 c', c = r0 :: c' := by
    cases c with
    | nil => simp at hc; omega
    | cons a b => exact ⟨a, b, rfl⟩
  have hr0 := hw r0 (by simp)
  have S := g.sh (r0 :: c')
  have e0 : oIx (.tup (rowsD (r0 :: c'))) (.int 0) = some (rowD r0) := by simp [rowsD]
  have hc2 : (c'.length : Int) + 1 = n := by simp at hc; omega
  simp [wM_mk, startE, e0, rowD, hr0, hc2, small_of (show -1000000 ≤ (n : Int) + (w : Int) ∧ (n : Int) + (w : Int) ≤ 1000000 by omega)]
  have hnw : ((n : Int) + (w : Int)).toNat = n + w := by omega
  rw [hnw]
  refine kLc_walk (by simp; omega) (fun i en o acc => o = om ∧ en = [some (.tup (rowsD (r0 :: c'))), some (goalD gl), none, none, none, none, none, none, none, none] ∧ acc = (List.replicate i ([] : Adj)).map (aD .o)) ⟨rfl, by simp, rfl⟩ ?_ ?_
  · rintro i d en o acc hd ⟨rfl, rfl, rfl⟩
    simp [aD, List.replicate_succ']
  · rintro en o acc ⟨rfl, rfl, rfl⟩
    simp [goalD]
    have e1 : D.lst .o (List.replicate (n + w) (aD .o [])) = gD .o .o (List.replicate (n + w) []) := by simp [gD]
    rw [e1]
    refine wS_walk (fun i en o' => o' = o ∧ i ≤ gl.length ∧ ∃ x3 x4 x5 x6 x7 x8 : Option D, en = [some (.tup (rowsD (r0 :: c'))), some (goalD gl), some (gD .o .o (((idx gl).take i).foldl (brow (r0 :: c') n) (List.replicate (n + w) []))), x3, x4, x5, x6, x7, x8, none]) ⟨rfl, by omega, none, none, none, none, none, none, by simp [goalD]⟩ ?_ ?_
    · rintro i d en o' hd ⟨rfl, hi0, x3, x4, x5, x6, x7, x8, rfl⟩
      rw [pairsI_at] at hd
      obtain ⟨x, hx, rfl⟩ := Option.map_eq_some_iff.mp hd
      rw [rowsG_get] at hx
      obtain ⟨row, hrow, rfl⟩ := Option.map_eq_some_iff.mp hx
      have hi := (List.getElem?_eq_some_iff.mp hrow).1
      have hgn := S.gn
      have hci : (r0 :: c')[i]? = some ((r0 :: c')[i]'(by omega)) := List.getElem?_eq_getElem _
      generalize hcr : (r0 :: c')[i]'(by omega) = cr at hci
      have hcr' : (rowsD (r0 :: c'))[i]? = some (rowD cr) := by rw [rowsD_get, hci]; rfl
      have hcw := hw cr (List.mem_of_getElem? hci)
      have hgw := S.gw row (List.mem_of_getElem? hrow)
      have B0 := BOk.rows S i (by omega)
      have htk : (idx gl).take (i + 1) = (idx gl).take i ++ [(i, row)] := by rw [List.take_succ, idx_get, hrow]; rfl
      rw [htk, List.foldl_append]
      generalize ((idx gl).take i).foldl (brow (r0 :: c') n) (List.replicate (n + w) []) = g0 at *
      simp
      refine wS_walk (fun j en o => o = o' ∧ j ≤ row.length ∧ ∃ x5 x6 x7 x8 : Option D, en = [some (.tup (rowsD (r0 :: c'))), some (goalD gl), some (gD .o .o (((idx row).take j).foldl (bcell (r0 :: c') n i) g0)), some (.int (i : Nat)), some (.tup (dOp row)), x5, x6, x7, x8, none]) ⟨rfl, by omega, x5, x6, x7, x8, by simp⟩ ?_ ?_
      · rintro j d en o hd2 ⟨rfl, hj0, x5, x6, x7, x8, rfl⟩
        rw [pairsI_at] at hd2
        obtain ⟨x, hx2, rfl⟩ := Option.map_eq_some_iff.mp hd2
        rw [dOp_get] at hx2
        obtain ⟨e, he, rfl⟩ := Option.map_eq_some_iff.mp hx2
        have hj := (List.getElem?_eq_some_iff.mp he).1
        have B1 := B0.row S hrow j (by omega)
        have B2 := B1.next S hrow he
        have htk2 : (idx row).take (j + 1) = (idx row).take j ++ [(j, e)] := by rw [List.take_succ, idx_get, he]; rfl
        rw [htk2, List.foldl_append]
        generalize ((idx row).take j).foldl (bcell (r0 :: c') n i) g0 = g1 at *
        cases e with
        | none => simp [oD, bcell]; omega
        | some v =>
          have hcv : cr[j]? = some cr[j] := List.getElem?_eq_getElem (by omega)
          have hcv' : (dI cr)[j]? = some (.int cr[j]) := by rw [dI_get, hcv]; rfl
          have hcell : cellAt (r0 :: c') i j = cr[j] := by simp [cellAt, List.getD_eq_getElem?_getD, hci, hcv]
          have l1 : i < g1.length := by rw [B1.len]; omega
          obtain ⟨f1, f2⟩ := B1.fresh S (show i < n by omega) (show ¬ Dn i j i j by unfold Dn; omega)
          have w1 := B1.few S i
          have w2 := B1.few S (n + j)
          have l2 : n + j < (ins1 g1 i (n + j) (v - cr[j])).length := by rw [ins1_len, B1.len]; omega
          have nb2 : nb (ins1 g1 i (n + j) (v - cr[j])) (n + j) = nb g1 (n + j) := by rw [ins1_nb l1, if_neg (by omega)]
          have p1 := fun Q en => put2_g (om := o) (i := 2) (l := i) (o := n + j) (x := v - cr[j]) (Q := Q) (en := en) l1 f1 (by omega)
          have p2 := fun Q en => put2_g (om := o) (i := 2) (l := n + j) (o := i) (x := v - cr[j]) (g := ins1 g1 i (n + j) (v - cr[j])) (Q := Q) (en := en) l2 (by rw [nb2]; exact f2) (by rw [nb2]; omega)
          simp at p1 p2
          simp [oD, atI_natD hcr', rowD, atI_natD hcv', hc2, p1, p2]
          exact ⟨by omega, by simp [bcell, hcell]⟩
      · rintro en o ⟨rfl, hj0, x5, x6, x7, x8, rfl⟩
        have : (idx row).take (pairsI (dOp row)).length = idx row := List.take_of_length_le (by rw [idx_len]; simp)
        rw [this]
        exact ⟨rfl, by omega, _, _, _, _, _, _, rfl⟩
    · rintro en o' ⟨rfl, hi0, x3, x4, x5, x6, x7, x8, rfl⟩
      have : (idx gl).take (pairsI (rowsG gl)).length = idx gl := List.take_of_length_le (by rw [idx_len]; simp)
      rw [this]
      simp
      exact ⟨noB_gD (by decide) (by decide), rfl⟩
end
end K

namespace K
open PySem PySem.Spec PyProof.Rows L2 DL LamX GP
section
variable {Om : Type} {Ad : Adr} {om : Om}
/-! bends -/
def psD (t : Tag) (b : List (Int × Int)) : D := .lst t (b.map DL.pairD)
@[simp] theorem frz_pairD {p} : frz (DL.pairD p) = DL.pairD p := by simp [DL.pairD]
@[simp] theorem lend_pairD {p} : lend (DL.pairD p) = DL.pairD p := by simp [DL.pairD]
@[simp] theorem noB_pairD {p} : noB (DL.pairD p) = true := by simp [DL.pairD]
@[simp] theorem frz_psD {t b} : frz (psD t b) = psD t.fz b := by simp [psD]; exact frzs_map fun _ => frz_pairD
@[simp] theorem lend_psD {t b} : lend (psD t b) = psD .b b := by simp [psD]; exact lends_map fun _ => lend_pairD
def wSum (b : List (Int × Int)) : Int := (b.map (·.2)).sum
def fb : List (Int × Int) → Int → Int → Int → Int
  | [], _, _, prev => prev
  | (p, wt) :: rest, passed, wanted, prev => if passed < wanted then fb rest (passed + 2 * wt) wanted p else prev
theorem psD_at {b : List (Int × Int)} {i : Nat} {p : Int × Int} {t : Tag} (h : b[i]? = some p) : oIx (psD t b) (.int (i : Nat)) = some (DL.pairD p) := by
  unfold psD
  rw [oIx_l]
  exact atI_natD (by rw [List.getElem?_map, h]; rfl)
theorem wSum_drop {b : List (Int × Int)} {i : Nat} {p : Int × Int} (h : b[i]? = some p) : wSum (b.drop i) = p.2 + wSum (b.drop (i + 1)) := by
  rw [drop_getN h]; simp [wSum]
theorem first_bend_ok {b : List (Int × Int)} {wanted : Int} (h0 : 0 < wanted) (h : wanted ≤ 2 * wSum b) (hl : b.length ≤ 14) (hpos : ∀ p ∈ b, 1 ≤ p.2 ∧ p.2 ≤ 99) : M_first_bend Ad [psD .b b, .int wanted] om = some (.int (fb b 0 wanted 0), om) := by
  apply M_of
  unfold M_first_bend b_first_bend
  simp [wM_mk, startE]
  refine wS_while (fun m en o => o = om ∧ ∃ (i : Nat) (passed prev : Int), en = [some (psD .b b), some (.int wanted), some (.int passed), some (.int (i : Nat))] ∧ m + i = b.length ∧ wanted ≤ passed + 2 * wSum (b.drop i) ∧ fb b 0 wanted 0 = fb (b.drop i) passed wanted prev ∧ (0 < passed → 0 < i) ∧ (∀ j, i = j + 1 → ∃ p, b[j]? = some p ∧ p.1 = prev)) ?_ 1000 b.length _ _ (by omega) ⟨rfl, 0, 0, 0, by simp, by omega, by simpa using h, rfl, by omega, by omega⟩
  rintro m en o ⟨rfl, i, passed, prev, rfl, hm, hw, hf, hp, hj⟩
  simp
  split
  · rename_i hlt
    have hi : i < b.length := by
      by_cases hi : i < b.length
      · exact hi
      · have : b.drop i = [] := List.drop_of_length_le (by omega)
        rw [this] at hw
        simp [wSum] at hw
        omega
    have e : b[i]? = some b[i] := List.getElem?_eq_getElem hi
    have hpb := hpos b[i] (List.getElem_mem hi)
    have hd := wSum_drop e
    rw [drop_getN e] at hf
    generalize b[i] = p at *
    obtain ⟨p1, p2⟩ := p
    have cm : CMul 2 p2 := by unfold CMul; omega
    simp [psD_at e, DL.pairD, cm]
    rw [fb, if_pos hlt] at hf
    refine ⟨m - 1, by omega, i + 1, passed + 2 * p2, ⟨rfl, by simp⟩, by omega, by rw [hd] at hw; simp at hw ⊢; omega, p1, hf, by omega, fun j hj' => ?_⟩
    have : j = i := by omega
    subst this
    exact ⟨p2, e⟩
  · rename_i hlt
    have hi : 0 < i := hp (by omega)
    obtain ⟨j, rfl⟩ : ∃ j, i = j + 1 := ⟨i - 1, by omega⟩
    obtain ⟨p, e, hpv⟩ := hj j rfl
    have hR : fb b 0 wanted 0 = prev := by
      rw [hf]
      cases b.drop (j + 1) with
      | nil => rfl
      | cons q l => obtain ⟨q1, q2⟩ := q; rw [fb, if_neg hlt]
    have e2 := psD_at (t := .b) e
    have e3 : ((j : Int) + 1 - 1) = (j : Int) := by omega
    simp [e2, DL.pairD, hR, hpv]
theorem sum_map_int (l : List Int) : intsOf (l.map D.int) = some l := by
  have := intsOf_dI (l := l)
  exact this
theorem cheapest_range_ok {b : List (Int × Int)} (hl : b.length ≤ 14) (hne : b ≠ []) (hpos : ∀ p ∈ b, 1 ≤ p.2 ∧ p.2 ≤ 99) : M_cheapest_range Ad [psD .b b] om = some (.tup [.int (fb b 0 (wSum b) 0), .int (fb b 0 (wSum b + 1) 0)], om) := by
  have hs : 1 ≤ wSum b := by
    obtain ⟨p, l, rfl⟩ : ∃ p l, b = p :: l := by
      cases b with
      | nil => exact absurd rfl hne
      | cons p l => exact ⟨p, l, rfl⟩
    have h1 := hpos p (by simp)
    have h2 : ∀ l : List (Int × Int), (∀ p ∈ l, 1 ≤ p.2 ∧ p.2 ≤ 99) → 0 ≤ wSum l := by
      intro l
      induction l with
      | nil => intro _; simp [wSum]
      | cons q l ih =>
        intro h
        have := ih fun p hp => h p (by simp [hp])
        have := h q (by simp)
        simp [wSum] at *
        omega
    have := h2 l fun q hq => hpos q (by simp [hq])
    simp [wSum] at *
    omega
  have e1 := first_bend_ok (Ad := Ad) (om := om) (b := b) (wanted := wSum b) (by omega) (by omega) hl hpos
  have e2 := first_bend_ok (Ad := Ad) (om := om) (b := b) (wanted := wSum b + 1) (by omega) (by omega) hl hpos
  apply M_of
  unfold M_cheapest_range b_cheapest_range
  simp [wM_mk, startE]
  simp [psD]
  refine kLc_walk (by simp; omega) (fun i en o acc => o = om ∧ en = [some (psD .b b), none, none, none] ∧ acc = dI ((b.map (·.2)).take i)) ⟨rfl, by simp [psD], by simp [dI]⟩ ?_ ?_
  · rintro i d en o acc hd ⟨rfl, rfl, rfl⟩
    rw [List.getElem?_map] at hd
    obtain ⟨p, hp, rfl⟩ := Option.map_eq_some_iff.mp hd
    have : (b.map (·.2)).take (i + 1) = (b.map (·.2)).take i ++ [p.2] := by rw [List.take_succ, List.getElem?_map, hp]; rfl
    rw [this]
    simp [DL.pairD, dI]
  · rintro en o acc ⟨rfl, rfl, rfl⟩
    have : (b.map (·.2)).take (b.map DL.pairD).length = b.map (·.2) := List.take_of_length_le (by simp)
    rw [this]
    have hw : (b.map (·.2)).sum = wSum b := rfl
    simp [cInts, intsOf_dI, hw, wM_eq e1, wM_eq e2]
/-! the first line's range -/
def costOf (cs : List (Option Int)) (l : Nat) : Int := (cs.getD l none).getD 0
def bendsOf (cs : List (Option Int)) (n : Nat) (sh : Sh) (G : List Nat) : List (Int × Int) := G.map fun l => (if l < n then - at_ sh l else at_ sh l, costOf cs l)
def flr (g : Gr) (cs : List (Option Int)) (n : Nat) (G : List Nat) : Int × Int :=
  let sh := shiftsIn g (treeFrom g (anchorOf cs G)) 0
  if cs[anchorOf cs G]? = some none then (at_ sh (G.headD 0), at_ sh (G.headD 0)) else
    let b := sortP (bendsOf cs n sh G)
    (fb b 0 (wSum b) 0, fb b 0 (wSum b + 1) 0)
theorem anchor_free {cs : List (Option Int)} {G : List Nat} (hG : G ≠ []) (h : cs[anchorOf cs G]? ≠ some none) : ∀ l ∈ G, cs[l]? ≠ some none := fun l hl e => by
  unfold anchorOf at h
  cases hf : G.find? fun l => cs[l]? == some none with
  | none =>
    have := List.find?_eq_none.mp hf l hl
    simp [e] at this
  | some a =>
    have := List.find?_some hf
    rw [hf] at h
    simp at this h
    exact h this
theorem pairsOf_ps {l : List (Int × Int)} : DL.pairsOf (l.map DL.pairD) = some l := by
  induction l with
  | nil => rfl
  | cons p l ih =>
    obtain ⟨a, b⟩ := p
    show (DL.pairsOf (l.map DL.pairD)).map _ = _
    rw [ih]; rfl
theorem first_line_range_ok {g : Gr} {cs : List (Option Int)} {n : Nat} {G : List Nat} (GG : GOk g) (h14 : g.length ≤ 14) (hc : cs.length = g.length) (hco : ∀ o ∈ cs, costOk o) (hG : G ≠ []) (hlt : ∀ k ∈ G, k < g.length) (hcl : ∀ a ∈ G, ∀ k, k ∈ G ↔ Joined g a k) (hl : G.length ≤ 14) :
    M_first_line_range Ad [gD .b .b g, .lst .b (dOp cs), .int (n : Nat), .lst .b (nD G)] om = some (.tup [.int (flr g cs n G).1, .int (flr g cs n G).2], om) := by
  have hcl := hcl _ (anchor_mem (cs := cs) hG)
  have ha : anchorOf cs G < g.length := hlt _ (anchor_mem hG)
  have ea := anchor_line_ok (Ad := Ad) (om := om) (cs := cs) (G := G) (fun l hl => hc ▸ hlt l hl) hG
  have et := tree_from_ok (Ad := Ad) (om := om) GG ha h14
  have T := (treeFrom_ok GG ha).1
  have es := shifts_in_tree_ok (Ad := Ad) (om := om) (s0 := 0) GG T h14
  have hk : ∀ k, k ∈ G → k ∈ keys (treeFrom g (anchorOf cs G)) := fun k h => (tree_mem GG ha).mpr ((hcl k).mp h)
  have el := fun k hkG => sh_mem (g := g) (s0 := 0) (hk k hkG)
  have hlen := T.len
  have hfree := anchor_free (cs := cs) hG
  have hlc : anchorOf cs G < cs.length := by omega
  have e1 := cs_get hlc (t := .b)
  have e1' : cs[anchorOf cs G]? = some cs[anchorOf cs G] := List.getElem?_eq_getElem hlc
  unfold flr
  dsimp only
  generalize treeFrom g (anchorOf cs G) = tr at *
  generalize shiftsIn g tr 0 = sh at *
  have e4 : ∀ (t : Tag) k, k ∈ G → oIx (aD t sh) (.int (k : Nat)) = some (.int (at_ sh k)) := fun t k hkG => by rw [oIx_ad, el k hkG]; rfl
  obtain ⟨l0, G', rfl⟩ : ∃ l0 G', G = l0 :: G' := by
    cases G with
    | nil => exact absurd rfl hG
    | cons a b => exact ⟨a, b, rfl⟩
  have e0 : oIx (.lst .b (nD (l0 :: G'))) (.int 0) = some (.int (l0 : Nat)) := by simp [nD]
  apply M_of
  unfold M_first_line_range b_first_line_range
  simp at e0 e1
  simp [wM_mk, startE, e0, wM_eq ea, wM_eq et, wM_eq es, e1]
  cases hcA : cs[anchorOf cs (l0 :: G')] with
  | none =>
    rw [hcA] at e1'
    simp [e1', shD, e4 _ l0 (by simp)]
  | some cc =>
    rw [hcA] at e1'
    have hf := hfree (by rw [e1']; simp)
    simp [e1']
    generalize hGG : l0 :: G' = G at *
    have cost1 : ∀ l ∈ G, ∃ k, cs[l]? = some (some k) ∧ 1 ≤ k ∧ k ≤ 99 ∧ costOf cs l = k := fun l hl => by
      have hll : l < cs.length := by have := hlt l hl; omega
      have h1 : cs[l]? = some cs[l] := List.getElem?_eq_getElem hll
      cases hx : cs[l] with
      | none => exact absurd (by rw [h1, hx]) (hf l hl)
      | some k =>
        have := hco (some k) (List.mem_of_getElem? (by rw [h1, hx]))
        exact ⟨k, by rw [h1, hx], this.1, this.2, by simp [costOf, List.getD_eq_getElem?_getD, h1, hx]⟩
    refine kLc_walk (by simp; omega) (fun i en o acc => o = om ∧ (∃ t6 : Tag, en = [some (gD .b .b g), some (.lst .b (dOp cs)), some (.int (n : Nat)), some (.lst .b (nD G)), some (.int (l0 : Nat)), some (.int (anchorOf cs G : Nat)), some (shD t6 sh), none, none]) ∧ acc = ((bendsOf cs n sh G).take i).map DL.pairD) ⟨rfl, ⟨.o, by simp [shD]⟩, by simp⟩ ?_ ?_
    · rintro i d en o acc hd ⟨rfl, ⟨t6, rfl⟩, rfl⟩
      rw [nD_get] at hd
      obtain ⟨l, hl', rfl⟩ := Option.map_eq_some_iff.mp hd
      have hlG := List.mem_of_getElem? hl'
      obtain ⟨k, hk1, hk2, hk3, hk4⟩ := cost1 l hlG
      have e5 : oIx (.lst .b (dOp cs)) (.int (l : Nat)) = some (.int k) := by
        rw [oIx_l]; exact atI_natD (by rw [dOp_get, hk1]; rfl)
      have htk : (bendsOf cs n sh G).take (i + 1) = (bendsOf cs n sh G).take i ++ [(if l < n then - at_ sh l else at_ sh l, costOf cs l)] := by
        rw [List.take_succ]; unfold bendsOf; rw [List.getElem?_map, hl']; rfl
      rw [htk]
      simp at e5
      by_cases hln : l < n
      · simp [hln, shD, e4 _ l hlG, e5, DL.pairD, hk4]
        exact ⟨_, rfl⟩
      · simp [hln, shD, e4 _ l hlG, e5, DL.pairD, hk4]
        exact ⟨_, rfl⟩
    · rintro en o acc ⟨rfl, ⟨t6, rfl⟩, rfl⟩
      have : (bendsOf cs n sh G).take (nD G).length = bendsOf cs n sh G := List.take_of_length_le (by simp [bendsOf])
      rw [this]
      have hpm := sortP_perm (bendsOf cs n sh G)
      have er := cheapest_range_ok (Ad := Ad) (om := o) (b := sortP (bendsOf cs n sh G)) (by rw [hpm.length_eq]; simp [bendsOf]; omega) (fun e => by
        have := hpm.length_eq
        rw [e] at this
        simp [bendsOf] at this
        exact hG (List.eq_nil_of_length_eq_zero this.symm)) fun p hp => by
          obtain ⟨l, hl', rfl⟩ := List.mem_map.mp (hpm.mem_iff.mp hp)
          obtain ⟨k, hk1, hk2, hk3, hk4⟩ := cost1 l hl'
          exact ⟨by simpa [hk4] using hk2, by simpa [hk4] using hk3⟩
      unfold psD at er
      simp [frzs_map (fun _ => frz_pairD), lends_map (fun _ => lend_pairD), pairsOf_ps, wM_eq er]
end
end K

namespace K
open PySem PySem.Spec PyProof.Rows L2 DL LamX GP
section
variable {Om : Type} {Ad : Adr} {om : Om}
def absI (i : Int) : Int := if i < 0 then -i else i
def setG (sf : Nat → Int) (G : List Nat) (s : List Int) : List Int := G.foldl (fun s l => s.set l (sf l)) s
theorem setG_len {sf : Nat → Int} : ∀ {G : List Nat} {s : List Int}, (setG sf G s).length = s.length
  | [], s => rfl
  | l :: G, s => by
    show (setG sf G (s.set l (sf l))).length = _
    rw [setG_len]; simp
def stepSh (g : Gr) (cs : List (Option Int)) (n : Nat) (s : List Int) (G : List Nat) : List Int :=
  setG (at_ (shiftsIn g (treeFrom g (G.headD 0)) (flr g cs n G).1)) G s
def shiftsAll (g : Gr) (cs : List (Option Int)) (n : Nat) : List Int := (groups g).foldl (stepSh g cs n) (List.replicate cs.length 0)
def costAll (cs : List (Option Int)) (s : List Int) : Int := ((s.zip cs).filterMap fun p => p.2.map fun c => absI p.1 * c).sum
theorem shiftsTo_len {g : Gr} {cs : List (Option Int)} {n : Nat} : ∀ (gs : List (List Nat)) (s : List Int), (gs.foldl (stepSh g cs n) s).length = s.length
  | [], s => rfl
  | G :: gs, s => by
    rw [List.foldl_cons, shiftsTo_len gs]
    exact setG_len
def minD (g : Gr) (cs : List (Option Int)) (n : Nat) : D := match conAll g cs with
  | some _ => .non
  | none => .tup [.int (costAll cs (shiftsAll g cs n)), .lst .f (dI (shiftsAll g cs n))]
theorem zip_at {s : List Int} {cs : List (Option Int)} {i : Nat} : (pairsZ (dI s) (dOp cs))[i]? = (s.zip cs)[i]?.map fun p => .tup [.int p.1, oD p.2] := by
  unfold pairsZ dI dOp
  rw [List.zip_map, List.map_map, List.getElem?_map]
  cases (s.zip cs)[i]? <;> rfl
theorem cheapest_shifts_ok {c : List (List Int)} {cs : List (Option Int)} {gl : List (List (Option Int))} {n w : Nat} (hc : c.length = n) (hn : 1 ≤ n) (hn7 : n ≤ 7) (hw : ∀ r ∈ c, r.length = w) (hw7 : w ≤ 7) (hcs : cs.length = n + w) (hco : ∀ o ∈ cs, costOk o) (vg : VG gl n w) :
    M_cheapest_shifts Ad [.tup (rowsD c), .lst .b (dOp cs), goalD gl] om = some (minD (buildG c gl n w) cs n, om) := by
  have eb := build_graph_ok (Ad := Ad) (om := om) hc hn hn7 hw hw7 vg
  have B := buildG_ok (vg.sh c)
  have GG := B.gok (vg.sh c)
  have hgl := B.len
  generalize buildG c gl n w = g at *
  have h14 : g.length ≤ 14 := by omega
  have hcg : cs.length = g.length := by omega
  have ec := contradiction_in_graph_ok (Ad := Ad) (om := om) GG h14 hcg
  have eg := group_lines_ok (Ad := Ad) (om := om) GG h14 rfl rfl
  have O := groups_ok GG
  apply M_of
  unfold M_cheapest_shifts b_cheapest_shifts
  unfold minD
  simp [wM_mk, startE, wM_eq eb, wM_eq ec]
  cases hcon : conAll g cs with
  | some p => simp [oLst]
  | none =>
    simp [oLst, hc, hcg]
    rw [if_pos ⟨sz_of (by omega), by omega, by omega⟩]
    simp [flat_rep, dI_rep, wM_eq eg]
    simp [gsD]
    refine wS_walk (fun i en o => o = om ∧ i ≤ (groups g).length ∧ ∃ (x5 x6 x7 x8 : Option D), en = [some (.tup (rowsD c)), some (.lst .b (dOp cs)), some (goalD gl), some (gD .f .f g), some (.lst .o (dI (((groups g).take i).foldl (stepSh g cs n) (List.replicate cs.length 0)))), x5, x6, x7, x8, none, none, none]) ⟨rfl, by omega, none, none, none, none, by simp [hcg]⟩ ?_ ?_
    · rintro i d en o hd ⟨rfl, hi0, x5, x6, x7, x8, rfl⟩
      rw [List.getElem?_map] at hd
      obtain ⟨G, hG, rfl⟩ := Option.map_eq_some_iff.mp hd
      have hi := (List.getElem?_eq_some_iff.mp hG).1
      have hGm := List.mem_of_getElem? hG
      obtain ⟨f1, f2, f3⟩ := group_facts (cs := cs) GG hGm
      obtain ⟨l0, hl0, hG0, hh⟩ := O.each G hGm
      have hGl : G.length ≤ 14 := by rw [hG0]; have := grp_len GG hl0; omega
      have er := first_line_range_ok (Ad := Ad) (om := o) (n := n) GG h14 hcg hco f1 f2 f3 hGl
      have hhd : G.headD 0 = l0 := by cases G with
        | nil => simp at hh
        | cons a b => simp at hh; simp [hh]
      have et := tree_from_ok (Ad := Ad) (om := o) GG hl0 h14
      have T := (treeFrom_ok GG hl0).1
      have es := shifts_in_tree_ok (Ad := Ad) (om := o) (s0 := (flr g cs n G).1) GG T h14
      have e0 : atI (nD G) 0 = some (.int (l0 : Nat)) := atI_natD (i := 0) (by rw [nD_get]; cases G with
          | nil => simp at hh
          | cons a b => simp at hh; simp [hh])
      have hkk : ∀ k ∈ G, k ∈ keys (treeFrom g l0) := fun k hk => by rw [hG0] at hk; exact (sortN_perm _).mem_iff.mp hk
      have el := fun k hk => sh_mem (g := g) (s0 := (flr g cs n G).1) (hkk k hk)
      have htk : (groups g).take (i + 1) = (groups g).take i ++ [G] := by rw [List.take_succ, hG]; rfl
      rw [htk, List.foldl_append]
      have hsl := shiftsTo_len (g := g) (cs := cs) (n := n) ((groups g).take i) (List.replicate cs.length 0)
      generalize ((groups g).take i).foldl (stepSh g cs n) (List.replicate cs.length 0) = s at *
      have hstep : List.foldl (stepSh g cs n) s [G] = setG (at_ (shiftsIn g (treeFrom g l0) (flr g cs n G).1)) G s := by
        show setG (at_ (shiftsIn g (treeFrom g (G.headD 0)) (flr g cs n G).1)) G s = _
        rw [hhd]
      rw [hstep]
      generalize shiftsIn g (treeFrom g l0) (flr g cs n G).1 = sh at *
      have e4 : ∀ (t : Tag) k, k ∈ G → oIx (aD t sh) (.int (k : Nat)) = some (.int (at_ sh k)) := fun t k hkG => by rw [oIx_ad, el k hkG]; rfl
      simp [lD, hc, wM_eq er, e0, wM_eq et, wM_eq es]
      simp at hsl
      refine wS_walk (fun j en o' => o' = o ∧ ∃ (t7 : Tag) (x8 : Option D), en = [some (.tup (rowsD c)), some (.lst .b (dOp cs)), some (goalD gl), some (gD .f .f g), some (.lst .o (dI (setG (at_ sh) (G.take j) s))), some (lD G), some (.int (flr g cs n G).1), some (shD t7 sh), x8, none, none, none]) ?_ ?_ ?_
      · exact ⟨rfl, .o, x8, by simp [setG, lD]⟩
      · rintro j d en o' hd2 ⟨rfl, t7, x8, rfl⟩
        rw [nD_get] at hd2
        obtain ⟨k, hk, rfl⟩ := Option.map_eq_some_iff.mp hd2
        have hkG := List.mem_of_getElem? hk
        have hkl : k < (setG (at_ sh) (G.take j) s).length := by rw [setG_len, hsl, hcg]; exact f2 k hkG
        have htk2 : G.take (j + 1) = G.take j ++ [k] := by rw [List.take_succ, hk]; rfl
        have hst : setG (at_ sh) (G.take j ++ [k]) s = (setG (at_ sh) (G.take j) s).set k (at_ sh k) := by unfold setG; rw [List.foldl_append]; rfl
        rw [htk2, hst]
        generalize setG (at_ sh) (G.take j) s = s2 at *
        have hg2 : (dI s2)[k]? = some (.int s2[k]) := by rw [dI_get, List.getElem?_eq_getElem hkl]; rfl
        simp [shD, e4 _ k hkG, ixN_nat hkl, hg2]
        exact ⟨by simp [dI, List.map_set], _, rfl⟩
      · rintro en o' ⟨rfl, t7, x8, rfl⟩
        have : G.take (nD G).length = G := List.take_of_length_le (by simp)
        rw [this]
        exact ⟨rfl, by omega, _, _, _, _, rfl⟩
    · rintro en o ⟨rfl, hi0, x5, x6, x7, x8, rfl⟩
      have : (groups g).take ((groups g).map lD).length = groups g := List.take_of_length_le (by simp)
      rw [this]
      have hsl := shiftsTo_len (g := g) (cs := cs) (n := n) (groups g) (List.replicate cs.length 0)
      unfold shiftsAll
      generalize (groups g).foldl (stepSh g cs n) (List.replicate cs.length 0) = s at *
      simp at hsl
      have hz : zipL [.lst .f (dI s), .lst .b (dOp cs)] = some (pairsZ (dI s) (dOp cs)) := rfl
      simp [hz]
      refine kLc_walk (by simp [pairsZ]; omega) (fun i en o' acc => o' = o ∧ en = [some (.tup (rowsD c)), some (.lst .b (dOp cs)), some (goalD gl), some (gD .f .f g), some (.lst .f (dI s)), x5, x6, x7, x8, none, none, none] ∧ acc = dI (((s.zip cs).take i).filterMap fun p => p.2.map fun c => absI p.1 * c)) ⟨rfl, by simp, by simp [dI]⟩ ?_ ?_
      · rintro i d en o' acc hd ⟨rfl, rfl, rfl⟩
        rw [zip_at] at hd
        obtain ⟨⟨a, b⟩, hp, rfl⟩ := Option.map_eq_some_iff.mp hd
        have htk : (s.zip cs).take (i + 1) = (s.zip cs).take i ++ [(a, b)] := by rw [List.take_succ, hp]; rfl
        rw [htk, List.filterMap_append]
        cases b with
        | none => simp [oD]
        | some k =>
          have hk := hco (some k) (List.of_mem_zip (List.mem_of_getElem? hp)).2
          have cm : CMul (if a < 0 then -a else a) k := by
            have := hk.1
            have := hk.2
            unfold CMul; omega
          simp [oD, cm, absI, dI]
      · rintro en o' acc ⟨rfl, rfl, rfl⟩
        have : (s.zip cs).take (pairsZ (dI s) (dOp cs)).length = s.zip cs := List.take_of_length_le (by simp [pairsZ])
        rw [this]
        simp [cInts, intsOf_dI, costAll]
end
end K

namespace K
open PySem PySem.Spec PyProof.Rows L2 DL LamX GP
section
/-- shifts that reach the goal and leave the locked lines alone -/
structure Feas (g : Gr) (cs : List (Option Int)) (s : Nat → Int) : Prop where
  keeps : Keeps g s
  locked : ∀ l, cs[l]? = some none → s l = 0
theorem conG_none {g : Gr} {cs : List (Option Int)} {G : List Nat} : conG g cs G = none ↔ ∀ l ∈ G, (cs[l]? = some none → at_ (shiftsIn g (treeFrom g (anchorOf cs G)) 0) l = 0) ∧ ∀ p ∈ nb g l, at_ (shiftsIn g (treeFrom g (anchorOf cs G)) 0) l + at_ (shiftsIn g (treeFrom g (anchorOf cs G)) 0) p.1 = p.2 := by
  unfold conG
  simp only [List.findSome?_eq_none_iff]
  constructor
  · intro h l hl
    have := h l hl
    split at this
    · cases this
    · rename_i hn
      rw [List.findSome?_eq_none_iff] at this
      refine ⟨fun e => Classical.byContradiction fun z => hn ⟨e, z⟩, fun p hp => ?_⟩
      have := this p hp
      split at this
      · cases this
      · rename_i hz; exact Classical.byContradiction hz
  · intro h l hl
    obtain ⟨h1, h2⟩ := h l hl
    rw [if_neg fun z => z.2 (h1 z.1), List.findSome?_eq_none_iff]
    intro p hp
    rw [if_neg fun z => z (h2 p hp)]
theorem find_congr {α : Type} {p q : α → Bool} : ∀ {l : List α}, (∀ a ∈ l, p a = q a) → l.find? p = l.find? q
  | [], _ => rfl
  | a :: l, h => by
    rw [List.find?_cons, List.find?_cons, h a (List.mem_cons_self ..), find_congr fun b hb => h b (List.mem_cons_of_mem _ hb)]
theorem anchor_locked {cs : List (Option Int)} {G : List Nat} {l : Nat} (hl : l ∈ G) (h : cs[l]? = some none) : cs[anchorOf cs G]? = some none := by
  apply Classical.byContradiction
  intro z
  exact anchor_free (List.ne_nil_of_mem hl) z l hl h
/-- the sum of signs of two ends of a tie -/
theorem feas_none {g : Gr} {cs : List (Option Int)} {side : Nat → Bool} {s : Nat → Int} (GG : GOk g) (hs : Sided g side) (F : Feas g cs s) : conAll g cs = none := by
  unfold conAll
  rw [List.findSome?_eq_none_iff]
  intro G hG
  obtain ⟨f1, f2, f3⟩ := group_facts (cs := cs) GG hG
  rw [conG_none]
  have ha := anchor_mem (cs := cs) f1
  have hal := f2 _ ha
  have T := (treeFrom_ok GG hal).1
  have hk : ∀ k, k ∈ G → k ∈ keys (treeFrom g (anchorOf cs G)) := fun k hk => (tree_mem GG hal).mpr ((f3 _ ha k).mp hk)
  have key : ∀ k, k ∈ G → at_ (shiftsIn g (treeFrom g (anchorOf cs G)) 0) k = s k - (if side k = side (anchorOf cs G) then s (anchorOf cs G) else - s (anchorOf cs G)) := fun k hkG => by
    have h1 := sh_uniq' GG T F.keeps (hk k hkG)
    rw [sh_sign' GG T hs (hk k hkG)] at h1
    omega
  intro l hl
  refine ⟨fun e => ?_, fun p hp => ?_⟩
  · rw [key l hl, F.locked l e, F.locked _ (anchor_locked hl e)]
    simp
  · obtain ⟨o, x⟩ := p
    have ho : o ∈ G := (f3 l hl o).mpr (.step (.refl _) hp)
    have := F.keeps l o x hp
    have hsd := hs l o x hp
    rw [key l hl, key o ho, hsd]
    cases side l <;> cases side (anchorOf cs G) <;> simp <;> omega
def shOf (g : Gr) (cs : List (Option Int)) (l : Nat) : Int := match (groups g).find? (·.contains l) with
  | some G => at_ (shiftsIn g (treeFrom g (anchorOf cs G)) 0) l
  | none => 0
theorem none_feas {g : Gr} {cs : List (Option Int)} (GG : GOk g) (hc : cs.length = g.length) (h : conAll g cs = none) : Feas g cs (shOf g cs) := by
  unfold conAll at h
  rw [List.findSome?_eq_none_iff] at h
  have O := groups_ok GG
  have fd : ∀ l, l < g.length → ∃ G ∈ groups g, l ∈ G ∧ (groups g).find? (·.contains l) = some G := fun l hl => by
    obtain ⟨G, hG, hlG⟩ := O.all l hl
    cases hf : (groups g).find? (·.contains l) with
    | none => 
      have := List.find?_eq_none.mp hf G hG
      simp [hlG] at this
    | some G' =>
      have h1 := List.find?_some hf
      exact ⟨G', List.mem_of_find?_eq_some hf, by simpa using h1, rfl⟩
  refine ⟨fun l o x hx => ?_, fun l hl => ?_⟩
  · obtain ⟨G, hG, hlG, e⟩ := fd l (GG.src hx)
    have e2 : (groups g).find? (·.contains o) = some G := by
      rw [← e]
      refine find_congr fun G' hG' => ?_
      obtain ⟨f1, f2, f3⟩ := group_facts (cs := cs) GG hG'
      have : o ∈ G' ↔ l ∈ G' := ⟨fun ho => (f3 o ho l).mpr (.step (.refl _) (GG.sym _ _ _ hx)), fun hl => (f3 l hl o).mpr (.step (.refl _) hx)⟩
      simpa using this
    unfold shOf
    rw [e, e2]
    exact ((conG_none.mp (h G hG)) l hlG).2 (o, x) hx
  · have hl2 : l < g.length := by rw [← hc]; exact (List.getElem?_eq_some_iff.mp hl).1
    obtain ⟨G, hG, hlG, e⟩ := fd l hl2
    unfold shOf
    rw [e]
    exact ((conG_none.mp (h G hG)) l hlG).1 hl
theorem con_iff {g : Gr} {cs : List (Option Int)} {side : Nat → Bool} (GG : GOk g) (hs : Sided g side) (hc : cs.length = g.length) : conAll g cs = none ↔ ∃ s, Feas g cs s :=
  ⟨fun h => ⟨_, none_feas GG hc h⟩, fun ⟨s, F⟩ => feas_none GG hs F⟩
theorem sided_build {c : List (List Int)} {gl : List (List (Option Int))} {n w : Nat} (S : Shape c gl n w) : Sided (buildG c gl n w) (fun l => decide (l < n)) := fun l o x h => by
  obtain ⟨r, j, _, _, hr, hj, h | h⟩ := (buildG_ok S).bip S h
  · obtain ⟨rfl, rfl⟩ := h
    simp [hr]
  · obtain ⟨rfl, rfl⟩ := h
    simp [hr]
end
end K

namespace K
open PySem PySem.Spec PyProof.Rows L2 DL LamX GP
section
/-! the cheapest place among weighted bends -/
def wAbs (t : Int) (b : List (Int × Int)) : Int := (b.map fun p => absI (t - p.1) * p.2).sum
theorem wAbs_nil {t} : wAbs t [] = 0 := rfl
theorem wAbs_cons {t p b} : wAbs t (p :: b) = absI (t - p.1) * p.2 + wAbs t b := by simp [wAbs]
theorem wAbs_app {t a b} : wAbs t (a ++ b) = wAbs t a + wAbs t b := by simp [wAbs]
theorem wSum_cons {p b} : wSum (p :: b) = p.2 + wSum b := by simp [wSum]
theorem wSum_app {a b} : wSum (a ++ b) = wSum a + wSum b := by simp [wSum]
theorem wAbs_up {m t : Int} (h : m ≤ t) : ∀ {b : List (Int × Int)}, (∀ p ∈ b, p.1 ≤ m) → wAbs t b = wAbs m b + (t - m) * wSum b
  | [], _ => by simp [wAbs_nil, wSum]
  | p :: b, hb => by
    have h1 := wAbs_up h (b := b) fun q hq => hb q (List.mem_cons_of_mem _ hq)
    have hp := hb p (List.mem_cons_self ..)
    rw [wAbs_cons, wAbs_cons, wSum_cons, h1]
    have e1 : absI (t - p.1) = t - p.1 := by unfold absI; rw [if_neg (by omega)]
    have e2 : absI (m - p.1) = m - p.1 := by unfold absI; rw [if_neg (by omega)]
    rw [e1, e2]
    simp only [Int.sub_mul, Int.mul_add]
    omega
theorem wAbs_down {m t : Int} (h : t ≤ m) : ∀ {b : List (Int × Int)}, (∀ p ∈ b, m ≤ p.1) → wAbs t b = wAbs m b + (m - t) * wSum b
  | [], _ => by simp [wAbs_nil, wSum]
  | p :: b, hb => by
    have h1 := wAbs_down h (b := b) fun q hq => hb q (List.mem_cons_of_mem _ hq)
    have hp := hb p (List.mem_cons_self ..)
    rw [wAbs_cons, wAbs_cons, wSum_cons, h1]
    have e1 : absI (t - p.1) = p.1 - t := by unfold absI; split <;> omega
    have e2 : absI (m - p.1) = p.1 - m := by unfold absI; split <;> omega
    rw [e1, e2]
    simp only [Int.sub_mul, Int.mul_add]
    omega
theorem absI_tri (a b : Int) : absI a ≤ absI b + absI (a - b) := by unfold absI; split <;> split <;> split <;> omega
theorem wAbs_tri {m t : Int} : ∀ {b : List (Int × Int)}, (∀ p ∈ b, 1 ≤ p.2) → wAbs m b ≤ wAbs t b + absI (m - t) * wSum b
  | [], _ => by simp [wAbs_nil, wSum]
  | p :: b, hb => by
    have h1 := wAbs_tri (m := m) (t := t) (b := b) fun q hq => hb q (List.mem_cons_of_mem _ hq)
    have hp := hb p (List.mem_cons_self ..)
    rw [wAbs_cons, wAbs_cons, wSum_cons]
    have h2 : absI (m - p.1) ≤ absI (t - p.1) + absI (m - t) := by
      have := absI_tri (m - p.1) (t - p.1)
      rw [show m - p.1 - (t - p.1) = m - t by omega] at this
      exact this
    have h3 := Int.mul_le_mul_of_nonneg_right h2 (show 0 ≤ p.2 by omega)
    rw [Int.add_mul] at h3
    rw [Int.mul_add]
    omega
theorem fb_split : ∀ {b : List (Int × Int)} {passed wanted prev : Int}, passed < wanted → wanted ≤ passed + 2 * wSum b → ∃ pre m w post, b = pre ++ (m, w) :: post ∧ fb b passed wanted prev = m ∧ passed + 2 * wSum pre < wanted ∧ wanted ≤ passed + 2 * (wSum pre + w)
  | [], passed, wanted, prev, h1, h2 => by simp [wSum] at h2; omega
  | (p, w) :: rest, passed, wanted, prev, h1, h2 => by
    rw [fb, if_pos h1]
    by_cases h3 : passed + 2 * w < wanted
    · rw [wSum_cons] at h2
      obtain ⟨pre, m, w', post, e, ef, h4, h5⟩ := fb_split (b := rest) (passed := passed + 2 * w) (prev := p) h3 (by simp only at h2; omega)
      refine ⟨(p, w) :: pre, m, w', post, by rw [e]; rfl, ef, ?_, ?_⟩
      · rw [wSum_cons]; simp only; omega
      · rw [wSum_cons]; simp only; omega
    · refine ⟨[], p, w, rest, rfl, ?_, by simp [wSum]; exact h1, by simp [wSum]; omega⟩
      cases rest with
      | nil => rfl
      | cons q l => obtain ⟨q1, q2⟩ := q; rw [fb, if_neg h3]
theorem fb_least {b : List (Int × Int)} {wanted : Int} (hs : b.Pairwise fun p q => p.1 ≤ q.1) (hpos : ∀ p ∈ b, 1 ≤ p.2) (h0 : 0 < wanted) (h1 : wanted = wSum b ∨ wanted = wSum b + 1) (h2 : wanted ≤ 2 * wSum b) (t : Int) : wAbs (fb b 0 wanted 0) b ≤ wAbs t b := by
  obtain ⟨pre, m, w, post, e, ef, h3, h4⟩ := fb_split (b := b) (passed := 0) (wanted := wanted) (prev := 0) h0 (by omega)
  rw [ef]
  subst e
  rw [List.pairwise_append] at hs
  obtain ⟨s1, s2, s3⟩ := hs
  rw [List.pairwise_cons] at s2
  have hpre : ∀ p ∈ pre, p.1 ≤ m := fun p hp => s3 p hp (m, w) (List.mem_cons_self ..)
  have hpost : ∀ p ∈ post, m ≤ p.1 := fun p hp => s2.1 p hp
  have ppre : ∀ p ∈ pre, 1 ≤ p.2 := fun p hp => hpos p (by simp [hp])
  have ppost : ∀ p ∈ post, 1 ≤ p.2 := fun p hp => hpos p (by simp [hp])
  rw [wSum_app, wSum_cons] at h1 h2
  simp only at h1 h2
  rw [wAbs_app, wAbs_app, wAbs_cons, wAbs_cons]
  have e0 : absI (m - m) = 0 := by simp [absI]
  simp only [e0]
  rcases Int.le_total m t with hmt | hmt
  · have a1 := wAbs_up hmt hpre
    have a2 := wAbs_tri (m := m) (t := t) ppost
    have e1 : absI (t - m) = t - m := by unfold absI; rw [if_neg (by omega)]
    have e2 : absI (m - t) = t - m := by unfold absI; split <;> omega
    rw [e2] at a2
    rw [e1]
    have : 0 ≤ (t - m) * (wSum pre + w - wSum post) := Int.mul_nonneg (by omega) (by omega)
    rw [Int.mul_sub, Int.mul_add] at this
    omega
  · have a1 := wAbs_down hmt hpost
    have a2 := wAbs_tri (m := m) (t := t) ppre
    have e1 : absI (t - m) = m - t := by unfold absI; split <;> omega
    have e2 : absI (m - t) = m - t := by unfold absI; split <;> omega
    rw [e2] at a2
    rw [e1]
    have : 0 ≤ (m - t) * (wSum post + w - wSum pre) := Int.mul_nonneg (by omega) (by omega)
    rw [Int.mul_sub, Int.mul_add] at this
    omega
end
end K

namespace K
open PySem PySem.Spec PyProof.Rows L2 DL LamX GP
section
def costF (cs : List (Option Int)) (s : Nat → Int) (ls : List Nat) : Int := (ls.map fun l => absI (s l) * costOf cs l).sum
theorem sum_perm {a b : List Int} (p : a.Perm b) : a.sum = b.sum := by
  induction p with
  | nil => rfl
  | cons x _ ih => simp [ih]
  | swap x y l => simp; omega
  | trans _ _ h1 h2 => exact h1.trans h2
theorem costF_perm {cs s} {a b : List Nat} (p : a.Perm b) : costF cs s a = costF cs s b := by
  unfold costF
  exact sum_perm (p.map _)
theorem costF_flat {cs s} : ∀ {gs : List (List Nat)}, costF cs s gs.flatten = (gs.map (costF cs s)).sum
  | [] => rfl
  | G :: gs => by
    have := costF_flat (cs := cs) (s := s) (gs := gs)
    rw [List.map_cons, List.sum_cons, ← this, List.flatten_cons]
    unfold costF
    rw [List.map_append, List.sum_append]
theorem costF_congr {cs : List (Option Int)} {s s' : Nat → Int} {ls : List Nat} (h : ∀ l ∈ ls, s l = s' l) : costF cs s ls = costF cs s' ls := by
  unfold costF
  congr 1
  exact List.map_congr_left fun l hl => by rw [h l hl]
theorem side_one {g : Gr} {n : Nat} {G : List Nat} (hs : Sided g fun l => decide (l < n)) (hh : ∀ l ∈ G, G.headD 0 ≤ l) (hcl : ∀ a ∈ G, ∀ k, k ∈ G ↔ Joined g a k) (hm : G.headD 0 ∈ G) (hn : n ≤ G.headD 0) : ∀ l ∈ G, l = G.headD 0 := by
  intro l hl
  have hj := (hcl _ hm l).mp hl
  generalize G.headD 0 = r at *
  have key : ∀ b, Joined g r b → b = r := fun b h => by
    induction h with
    | refl => rfl
    | step hj hx ih =>
      rename_i k o x
      rw [ih] at hx
      have h1 : decide (o < n) = !decide (r < n) := hs _ _ _ hx
      have ho : o ∈ G := (hcl _ hm o).mpr (.step (.refl _) hx)
      have h2 := hh o ho
      have h3 : decide (o < n) = true := by
        rw [h1]
        have : ¬ r < n := by omega
        simp [this]
      have h4 := of_decide_eq_true h3
      omega
  exact key _ hj
/-- what a group costs, its first line at t -/
theorem group_cost {g : Gr} {cs : List (Option Int)} {n : Nat} {G : List Nat} {s : Nat → Int} (GG : GOk g) (hs : Sided g fun l => decide (l < n)) (hh : ∀ l ∈ G, G.headD 0 ≤ l) (hcl : ∀ a ∈ G, ∀ k, k ∈ G ↔ Joined g a k) (hm : G.headD 0 ∈ G) (hlt : ∀ k ∈ G, k < g.length)
    (he : ∀ l ∈ G, s l = at_ (shiftsIn g (treeFrom g (G.headD 0)) 0) l + (if decide (l < n) = decide (G.headD 0 < n) then s (G.headD 0) else - s (G.headD 0))) :
    costF cs s G = wAbs (s (G.headD 0)) (bendsOf cs n (shiftsIn g (treeFrom g (G.headD 0)) 0) G) := by
  unfold costF wAbs bendsOf
  rw [List.map_map]
  congr 1
  refine List.map_congr_left fun l hl => ?_
  have e := he l hl
  show absI (s l) * costOf cs l = absI (s (G.headD 0) - (if l < n then - at_ _ l else at_ _ l)) * costOf cs l
  congr 1
  by_cases hr : G.headD 0 < n
  · by_cases hl' : l < n
    · simp only [hr, hl', decide_true, if_true] at e ⊢
      rw [e]; congr 1; omega
    · simp only [hr, hl', decide_true, decide_false, if_false, Bool.false_eq_true] at e ⊢
      rw [e]
      unfold absI
      split <;> split <;> omega
  · have hl1 := side_one hs hh hcl hm (by omega) l hl
    have hz : at_ (shiftsIn g (treeFrom g (G.headD 0)) 0) (G.headD 0) = 0 := by
      have T := (treeFrom_ok GG (hlt _ hm)).1
      rw [sh_eq T T.hd]
    rw [hl1] at e ⊢
    rw [hz] at e ⊢
    simp only [hr, if_false]
    congr 1
    omega
theorem costOf_pos {cs : List (Option Int)} {l : Nat} (hco : ∀ o ∈ cs, costOk o) (h : cs[l]? ≠ some none) (hl : l < cs.length) : 1 ≤ costOf cs l := by
  have e := List.getElem?_eq_getElem hl
  have hm := hco _ (List.getElem_mem hl)
  unfold costOf
  rw [List.getD_eq_getElem?_getD, e]
  rw [e] at h
  cases hc : cs[l] with
  | none => rw [hc] at h; exact absurd rfl h
  | some v => rw [hc] at hm; exact hm.1
theorem srt_fst {l : List (Int × Int)} : (sortP l).Pairwise fun p q => p.1 ≤ q.1 := by
  have h : SrtO.Srtd SrtO.lexB (sortP l) := sortP_sorted l
  refine List.Pairwise.imp (fun {a b} (hab : SrtO.lexB b a = false) => ?_) h
  unfold SrtO.lexB at hab
  split at hab
  · omega
  · have := of_decide_eq_false hab; omega
/-- a feasible group: its shifts, by its first line's -/
theorem feas_form {g : Gr} {cs : List (Option Int)} {n : Nat} {G : List Nat} {s : Nat → Int} (GG : GOk g) (hs : Sided g fun l => decide (l < n)) (K : Keeps g s) (hcl : ∀ a ∈ G, ∀ k, k ∈ G ↔ Joined g a k) {r : Nat} (hm : r ∈ G) (hlt : ∀ k ∈ G, k < g.length) :
    ∀ l ∈ G, s l = at_ (shiftsIn g (treeFrom g r) 0) l + (if decide (l < n) = decide (r < n) then s r else - s r) := by
  intro l hl
  have hk := (tree_mem GG (hlt _ hm)).mpr ((hcl _ hm l).mp hl)
  have T := (treeFrom_ok GG (hlt _ hm)).1
  rw [← sh_uniq' GG T K hk, sh_sign' GG T hs hk]
/-- the group's own choice -/
def optG (g : Gr) (cs : List (Option Int)) (n : Nat) (G : List Nat) : Nat → Int := at_ (shiftsIn g (treeFrom g (G.headD 0)) (flr g cs n G).1)
theorem optG_form {g : Gr} {cs : List (Option Int)} {n : Nat} {G : List Nat} (GG : GOk g) (hs : Sided g fun l => decide (l < n)) (hcl : ∀ a ∈ G, ∀ k, k ∈ G ↔ Joined g a k) (hm : G.headD 0 ∈ G) (hlt : ∀ k ∈ G, k < g.length) :
    ∀ l ∈ G, optG g cs n G l = at_ (shiftsIn g (treeFrom g (G.headD 0)) 0) l + (if decide (l < n) = decide (G.headD 0 < n) then (flr g cs n G).1 else - (flr g cs n G).1) := by
  intro l hl
  have hk := (tree_mem GG (hlt _ hm)).mpr ((hcl _ hm l).mp hl)
  have T := (treeFrom_ok GG (hlt _ hm)).1
  unfold optG
  rw [sh_sign' GG T hs hk]
theorem optG_head {g : Gr} {cs : List (Option Int)} {n : Nat} {G : List Nat} (GG : GOk g) (hm : G.headD 0 ∈ G) (hlt : ∀ k ∈ G, k < g.length) : optG g cs n G (G.headD 0) = (flr g cs n G).1 := by
  have T := (treeFrom_ok GG (hlt _ hm)).1
  unfold optG
  rw [sh_eq T T.hd]
/-- a locked group: but one way -/
theorem optG_locked {g : Gr} {cs : List (Option Int)} {n : Nat} {G : List Nat} {s : Nat → Int} (GG : GOk g) (F : Feas g cs s) (hcl : ∀ a ∈ G, ∀ k, k ∈ G ↔ Joined g a k) (hG : G ≠ []) (hm : G.headD 0 ∈ G) (hlt : ∀ k ∈ G, k < g.length) (hlk : cs[anchorOf cs G]? = some none) :
    ∀ l ∈ G, optG g cs n G l = s l := by
  intro l hl
  have ha := anchor_mem (cs := cs) hG
  have Ta := (treeFrom_ok GG (hlt _ ha)).1
  have Th := (treeFrom_ok GG (hlt _ hm)).1
  have h0 := F.locked _ hlk
  have e1 : (flr g cs n G).1 = s (G.headD 0) := by
    unfold flr
    simp only [hlk, if_true]
    have := sh_uniq' GG Ta F.keeps ((tree_mem GG (hlt _ ha)).mpr ((hcl _ ha _).mp hm))
    rw [h0] at this
    exact this
  unfold optG
  rw [e1]
  exact sh_uniq' GG Th F.keeps ((tree_mem GG (hlt _ hm)).mpr ((hcl _ hm l).mp hl))
end
end K

namespace K
open PySem PySem.Spec PyProof.Rows L2 DL LamX GP
section
theorem wAbs_perm {t : Int} {a b : List (Int × Int)} (p : a.Perm b) : wAbs t a = wAbs t b := sum_perm (p.map _)
theorem wSum_perm {a b : List (Int × Int)} (p : a.Perm b) : wSum a = wSum b := sum_perm (p.map _)
theorem wSum_pos : ∀ {b : List (Int × Int)}, (∀ p ∈ b, 1 ≤ p.2) → b ≠ [] → 0 < wSum b
  | [], _, h => absurd rfl h
  | p :: b, hb, _ => by
    rw [wSum_cons]
    have h1 := hb p (List.mem_cons_self ..)
    cases b with
    | nil => simp [wSum]; omega
    | cons q l => have := wSum_pos (b := q :: l) (fun r hr => hb r (List.mem_cons_of_mem _ hr)) (by simp); omega
theorem anchor_head {cs : List (Option Int)} {G : List Nat} (hG : G ≠ []) (h : cs[anchorOf cs G]? ≠ some none) : anchorOf cs G = G.headD 0 := by
  unfold anchorOf
  cases hf : G.find? fun l => cs[l]? == some none with
  | none => rfl
  | some a =>
    have h1 := List.find?_some hf
    have h2 := List.mem_of_find?_eq_some hf
    exact absurd (by simpa using h1) (anchor_free hG h a h2)
theorem group_least {g : Gr} {cs : List (Option Int)} {n : Nat} {G : List Nat} {s : Nat → Int} (GG : GOk g) (hs : Sided g fun l => decide (l < n)) (hc : cs.length = g.length) (hco : ∀ o ∈ cs, costOk o) (F : Feas g cs s) (hh : ∀ l ∈ G, G.headD 0 ≤ l) (hcl : ∀ a ∈ G, ∀ k, k ∈ G ↔ Joined g a k) (hG : G ≠ []) (hm : G.headD 0 ∈ G) (hlt : ∀ k ∈ G, k < g.length) : costF cs (optG g cs n G) G ≤ costF cs s G := by
  by_cases hlk : cs[anchorOf cs G]? = some none
  · rw [costF_congr (optG_locked (n := n) GG F hcl hG hm hlt hlk)]
    exact Int.le_refl _
  · have hah := anchor_head hG hlk
    rw [group_cost (cs := cs) GG hs hh hcl hm hlt (feas_form (cs := cs) GG hs F.keeps hcl hm hlt)]
    have hoh := optG_head (cs := cs) (n := n) GG hm hlt
    rw [group_cost (cs := cs) (s := optG g cs n G) GG hs hh hcl hm hlt (by rw [hoh]; exact optG_form GG hs hcl hm hlt), hoh]
    have hfree := anchor_free hG hlk
    have hpos : ∀ p ∈ bendsOf cs n (shiftsIn g (treeFrom g (G.headD 0)) 0) G, 1 ≤ p.2 := fun p hp => by
      obtain ⟨l, hl, rfl⟩ := List.mem_map.mp hp
      exact costOf_pos hco (hfree l hl) (by rw [hc]; exact hlt l hl)
    have e1 : (flr g cs n G).1 = fb (sortP (bendsOf cs n (shiftsIn g (treeFrom g (G.headD 0)) 0) G)) 0 (wSum (sortP (bendsOf cs n (shiftsIn g (treeFrom g (G.headD 0)) 0) G))) 0 := by
      unfold flr
      simp only [hlk, if_false]
      rw [hah]
    rw [e1]
    have hne : bendsOf cs n (shiftsIn g (treeFrom g (G.headD 0)) 0) G ≠ [] := by unfold bendsOf; simpa using hG
    generalize bendsOf cs n (shiftsIn g (treeFrom g (G.headD 0)) 0) G = b at *
    have hp := sortP_perm b
    rw [← wAbs_perm hp, ← wAbs_perm (t := s (G.headD 0)) hp]
    have hpos2 : ∀ p ∈ sortP b, 1 ≤ p.2 := fun p hp' => hpos p (hp.mem_iff.mp hp')
    have hw := wSum_pos hpos hne
    have hw2 := wSum_perm hp
    exact fb_least srt_fst hpos2 (by omega) (.inl rfl) (by omega) _
/-! the shifts of all lines -/
theorem setG_get {sf : Nat → Int} {l : Nat} : ∀ {G : List Nat} {s : List Int}, l < s.length → (setG sf G s)[l]? = some (if l ∈ G then sf l else s.getD l 0)
  | [], s, h => by
    rw [List.getD_eq_getElem?_getD]
    show s[l]? = _
    rw [List.getElem?_eq_getElem h]; simp
  | k :: G, s, h => by
    show (setG sf G (s.set k (sf k)))[l]? = _
    rw [setG_get (by simpa using h)]
    by_cases hl : l ∈ G
    · simp [hl]
    · by_cases hk : l = k
      · subst hk
        simp [hl, h]
      · have : k ≠ l := fun e => hk e.symm
        simp [hl, hk, this]
theorem optG_eq {g cs n G} : stepSh g cs n s G = setG (optG g cs n G) G s := rfl
theorem steps_get {g : Gr} {cs : List (Option Int)} {n l : Nat} : ∀ {gs : List (List Nat)} {s : List Int}, gs.flatten.Nodup → l < s.length → (gs.foldl (stepSh g cs n) s).getD l 0 = match gs.find? (·.contains l) with
    | some G => optG g cs n G l
    | none => s.getD l 0
  | [], s, _, _ => rfl
  | G :: gs, s, nd, h => by
    rw [List.flatten_cons, List.nodup_append] at nd
    have hl2 : l < (setG (optG g cs n G) G s).length := by rw [setG_len]; exact h
    rw [List.foldl_cons, optG_eq, steps_get nd.2.1 hl2, List.find?_cons]
    have hg : (setG (optG g cs n G) G s).getD l 0 = if l ∈ G then optG g cs n G l else s.getD l 0 := by
      rw [List.getD_eq_getElem?_getD, setG_get h]; rfl
    by_cases hl : l ∈ G
    · have hn : gs.find? (·.contains l) = none := by
        rw [List.find?_eq_none]
        intro G' hG' hc
        exact nd.2.2 l hl l (List.mem_flatten.mpr ⟨G', hG', by simpa using hc⟩) rfl
      have hc : G.contains l = true := by simpa using hl
      rw [hn, hc]
      show (setG (optG g cs n G) G s).getD l 0 = optG g cs n G l
      rw [hg, if_pos hl]
    · have hc : G.contains l = false := by simpa using hl
      rw [hc]
      show (match gs.find? (·.contains l) with | some G => optG g cs n G l | none => (setG (optG g cs n G) G s).getD l 0) = _
      rw [hg, if_neg hl]
end
end K

namespace K
open PySem PySem.Spec PyProof.Rows L2 DL LamX GP
section
def optF (g : Gr) (cs : List (Option Int)) (n l : Nat) : Int := match (groups g).find? (·.contains l) with
  | some G => optG g cs n G l
  | none => 0
theorem shiftsAll_len {g : Gr} {cs : List (Option Int)} {n : Nat} : (shiftsAll g cs n).length = cs.length := by
  unfold shiftsAll; rw [shiftsTo_len]; simp
theorem shiftsAll_get {g : Gr} {cs : List (Option Int)} {n l : Nat} (GG : GOk g) (hl : l < cs.length) : (shiftsAll g cs n).getD l 0 = optF g cs n l := by
  unfold shiftsAll optF
  rw [steps_get (groups_ok GG).nd (by simpa using hl)]
  cases (groups g).find? (·.contains l) with
  | some G => rfl
  | none => simp [List.getD_eq_getElem?_getD, hl]
theorem groups_perm {g : Gr} (GG : GOk g) : (groups g).flatten.Perm (List.range g.length) := by
  have O := groups_ok GG
  refine (List.perm_ext_iff_of_nodup O.nd List.nodup_range).mpr fun l => ?_
  rw [List.mem_range]
  constructor
  · exact fun h => O.mem_lt GG h
  · intro h
    obtain ⟨G, hG, hl⟩ := O.all l h
    exact List.mem_flatten.mpr ⟨G, hG, hl⟩
/-- all that is known of a group -/
structure GrpOk (g : Gr) (G : List Nat) : Prop where
  ne : G ≠ []
  lt : ∀ k ∈ G, k < g.length
  cl : ∀ a ∈ G, ∀ k, k ∈ G ↔ Joined g a k
  hd : G.headD 0 ∈ G
  least : ∀ l ∈ G, G.headD 0 ≤ l
theorem grp_ok {g : Gr} {G : List Nat} (GG : GOk g) (hG : G ∈ groups g) : GrpOk g G := by
  obtain ⟨f1, f2, f3⟩ := group_facts (cs := []) GG hG
  obtain ⟨l0, hl0, hG0, hh⟩ := (groups_ok GG).each G hG
  have hhd : G.headD 0 = l0 := by cases G with
    | nil => simp at hh
    | cons a b => simp at hh; simp [hh]
  refine ⟨f1, f2, f3, ?_, fun l hl => ?_⟩
  · cases G with
    | nil => exact absurd rfl f1
    | cons a b => simp
  · have hs : (grp g l0).Pairwise (· ≤ ·) := sortN_sorted _
    rw [← hG0] at hs
    cases G with
    | nil => exact absurd rfl f1
    | cons a b =>
      show a ≤ l
      rcases List.mem_cons.mp hl with rfl | hl
      · exact Nat.le_refl _
      · exact (List.pairwise_cons.mp hs).1 l hl
theorem find_in {g : Gr} {l : Nat} (GG : GOk g) (hl : l < g.length) : ∃ G ∈ groups g, l ∈ G ∧ (groups g).find? (·.contains l) = some G := by
  obtain ⟨G, hG, hlG⟩ := (groups_ok GG).all l hl
  cases hf : (groups g).find? (·.contains l) with
  | none =>
    have := List.find?_eq_none.mp hf G hG
    simp [hlG] at this
  | some G' =>
    have h1 := List.find?_some hf
    exact ⟨G', List.mem_of_find?_eq_some hf, by simpa using h1, rfl⟩
theorem find_same {g : Gr} {l o : Nat} {x : Int} (GG : GOk g) (hx : (o, x) ∈ nb g l) : (groups g).find? (·.contains o) = (groups g).find? (·.contains l) := by
  refine find_congr fun G' hG' => ?_
  have K := grp_ok GG hG'
  have : o ∈ G' ↔ l ∈ G' := ⟨fun ho => (K.cl o ho l).mpr (.step (.refl _) (GG.sym _ _ _ hx)), fun hl => (K.cl l hl o).mpr (.step (.refl _) hx)⟩
  simpa using this
theorem find_mem {g : Gr} {l : Nat} {G : List Nat} (GG : GOk g) (hG : G ∈ groups g) (hl : l ∈ G) : (groups g).find? (·.contains l) = some G := by
  have nd := (groups_ok GG).nd
  generalize groups g = gs at *
  induction gs with
  | nil => simp at hG
  | cons a gs ih =>
    rw [List.flatten_cons, List.nodup_append] at nd
    rw [List.find?_cons]
    by_cases ha : l ∈ a
    · have hc : a.contains l = true := by simpa using ha
      rw [hc]
      rcases List.mem_cons.mp hG with rfl | hG
      · rfl
      · exact absurd rfl (nd.2.2 l ha l (List.mem_flatten.mpr ⟨G, hG, hl⟩))
    · have hc : a.contains l = false := by simpa using ha
      rw [hc]
      rcases List.mem_cons.mp hG with rfl | hG
      · exact absurd hl ha
      · exact ih hG nd.2.1
theorem opt_feas {g : Gr} {cs : List (Option Int)} {n : Nat} {s : Nat → Int} (GG : GOk g) (hs : Sided g fun l => decide (l < n)) (hc : cs.length = g.length) (F : Feas g cs s) : Feas g cs (optF g cs n) := by
  refine ⟨fun l o x hx => ?_, fun l hl => ?_⟩
  · obtain ⟨G, hG, hlG, e⟩ := find_in GG (GG.src hx)
    have K := grp_ok GG hG
    have ho : o ∈ G := (K.cl l hlG o).mpr (.step (.refl _) hx)
    unfold optF
    rw [find_same GG hx, e]
    show optG g cs n G l + optG g cs n G o = x
    have fo := optG_form (cs := cs) (n := n) GG hs K.cl K.hd K.lt
    have ff := feas_form (cs := cs) GG hs F.keeps K.cl K.hd K.lt
    have h1 := F.keeps l o x hx
    have h2 : decide (o < n) = !decide (l < n) := hs _ _ _ hx
    have a1 := ff l hlG
    have a2 := ff o ho
    rw [fo l hlG, fo o ho]
    rw [h2] at a2 ⊢
    cases hd1 : decide (l < n) <;> cases hd2 : decide (G.headD 0 < n) <;> simp [hd1, hd2] at a1 a2 ⊢ <;> omega
  · have hl2 : l < g.length := by rw [← hc]; exact (List.getElem?_eq_some_iff.mp hl).1
    obtain ⟨G, hG, hlG, e⟩ := find_in GG hl2
    have K := grp_ok GG hG
    unfold optF
    rw [e]
    show optG g cs n G l = 0
    rw [optG_locked (n := n) GG F K.cl K.ne K.hd K.lt (anchor_locked hlG hl) l hlG]
    exact F.locked l hl
theorem costAll_F : ∀ {cs : List (Option Int)} {s : List Int}, s.length = cs.length → costAll cs s = costF cs (fun l => s.getD l 0) (List.range cs.length)
  | [], [], _ => rfl
  | [], _ :: _, h => by simp at h
  | _ :: _, [], h => by simp at h
  | c :: cs, a :: s, h => by
    have ih := costAll_F (cs := cs) (s := s) (by simpa using h)
    have e1 : costF (c :: cs) (fun l => (a :: s).getD l 0) (List.range (cs.length + 1)) = absI a * costOf (c :: cs) 0 + costF cs (fun l => s.getD l 0) (List.range cs.length) := by
      unfold costF
      rw [List.range_succ_eq_map, List.map_cons, List.sum_cons, List.map_map]
      rfl
    rw [List.length_cons, e1, ← ih]
    unfold costAll
    rw [List.zip_cons_cons, List.filterMap_cons]
    cases c with
    | none => simp [costOf]
    | some v => simp [costOf]
theorem opt_least {g : Gr} {cs : List (Option Int)} {n : Nat} {s : Nat → Int} (GG : GOk g) (hs : Sided g fun l => decide (l < n)) (hc : cs.length = g.length) (hco : ∀ o ∈ cs, costOk o) (F : Feas g cs s) : costAll cs (shiftsAll g cs n) ≤ costF cs s (List.range cs.length) := by
  have e1 : costAll cs (shiftsAll g cs n) = costF cs (optF g cs n) (List.range cs.length) := by
    rw [costAll_F shiftsAll_len]
    exact costF_congr fun l hl => shiftsAll_get GG (by simpa using hl)
  rw [e1, hc, ← costF_perm (groups_perm GG), ← costF_perm (groups_perm GG), costF_flat, costF_flat]
  have key : ∀ gs : List (List Nat), (∀ G ∈ gs, G ∈ groups g) → (gs.map (costF cs (optF g cs n))).sum ≤ (gs.map (costF cs s)).sum := fun gs => by
    induction gs with
    | nil => intro _; simp
    | cons G gs ih =>
      intro h
      have h1 := ih fun G' hG' => h G' (List.mem_cons_of_mem _ hG')
      have hG := h G (List.mem_cons_self ..)
      have K := grp_ok GG hG
      have h2 := group_least (n := n) GG hs hc hco F K.least K.cl K.ne K.hd K.lt
      have h3 : costF cs (optF g cs n) G = costF cs (optG g cs n G) G := costF_congr fun l hl => by
        unfold optF
        rw [find_mem GG hG hl]
      simp only [List.map_cons, List.sum_cons]
      omega
  exact key _ fun G h => h
end
end K

namespace K
open PySem PySem.Spec PyProof.Rows L2 DL LamX GP
section
/-- reached: what the cells say -/
theorem feas_cells {c : List (List Int)} {gl : List (List (Option Int))} {cs : List (Option Int)} {n w : Nat} {s : Nat → Int} (S : Shape c gl n w) : Feas (buildG c gl n w) cs s ↔ (∀ (i j : Nat) row v, gl[i]? = some row → row[j]? = some (some v) → s i + s (n + j) = v - cellAt c i j) ∧ ∀ l : Nat, cs[l]? = some none → s l = 0 := by
  have B := buildG_ok S
  constructor
  · intro F
    refine ⟨fun i j row v h1 h2 => ?_, F.locked⟩
    exact F.keeps i (n + j) _ ((B.mem _ _ _).mpr ⟨i, j, trivial, ⟨row, v, h1, h2, rfl⟩, .inl ⟨rfl, rfl⟩⟩)
  · rintro ⟨h, hl⟩
    refine ⟨fun l o x hx => ?_, hl⟩
    obtain ⟨r, j, _, ⟨row, v, h1, h2, rfl⟩, hr, hj, h' | h'⟩ := B.bip S hx
    · obtain ⟨rfl, rfl⟩ := h'
      exact h _ _ _ _ h1 h2
    · obtain ⟨rfl, rfl⟩ := h'
      have := h _ _ _ _ h1 h2
      omega
/-- each cost 1 -/
def onesOf (cs : List (Option Int)) : List (Option Int) := cs.map fun o => o.map fun _ => 1
theorem ones_len {cs : List (Option Int)} : (onesOf cs).length = cs.length := by simp [onesOf]
theorem ones_get {cs : List (Option Int)} {l : Nat} : (onesOf cs)[l]? = some none ↔ cs[l]? = some none := by
  unfold onesOf
  rw [List.getElem?_map]
  cases cs[l]? with
  | none => simp
  | some o => cases o <;> simp
theorem ones_ok {cs : List (Option Int)} : ∀ o ∈ onesOf cs, costOk o := fun o ho => by
  unfold onesOf at ho
  obtain ⟨a, _, rfl⟩ := List.mem_map.mp ho
  cases a with
  | none => exact trivial
  | some v => exact ⟨(by decide : (1 : Int) ≤ 1), (by decide : (1 : Int) ≤ 99)⟩
theorem feas_ones {g : Gr} {cs : List (Option Int)} {s : Nat → Int} : Feas g (onesOf cs) s ↔ Feas g cs s :=
  ⟨fun F => ⟨F.keeps, fun l h => F.locked l (ones_get.mpr h)⟩, fun F => ⟨F.keeps, fun l h => F.locked l (ones_get.mp h)⟩⟩
theorem ones_set {cs : List (Option Int)} {k : Nat} : onesOf (cs.set k none) = (onesOf cs).set k none := by simp [onesOf, List.map_set]
/-- the least cost, or what stands for none -/
def bestC (g : Gr) (cs : List (Option Int)) (n : Nat) : Int := match conAll g cs with
  | some _ => 1000000000000
  | none => costAll cs (shiftsAll g cs n)
/-- a graph of two sides whose gaps are small -/
structure GrB (g : Gr) (n : Nat) : Prop where
  ok : GOk g
  sd : Sided g fun l => decide (l < n)
  gp : ∀ l o x, (o, x) ∈ nb g l → absI x ≤ 2000000
  len : g.length ≤ 14
theorem absI_le {a b : Int} : absI a ≤ b ↔ -b ≤ a ∧ a ≤ b := by unfold absI; split <;> omega
theorem at_bound {g : Gr} {r : Nat} {tr : Tr} {M : Int} (GG : GOk g) (T : TOk g r tr) (hM : ∀ l o x, (o, x) ∈ nb g l → absI x ≤ M) : ∀ (i k : Nat) (p : Option Nat), tr[i]? = some (k, p) → absI (at_ (shiftsIn g tr 0) k) ≤ i * M := by
  intro i
  induction i using Nat.strongRecOn with
  | ind i ih =>
    intro k p e
    rw [sh_eq T e]
    rcases T.par i k p e with ⟨rfl, rfl⟩ | ⟨j, q, x, rfl, hj, ⟨p', hq⟩, hx⟩
    · simp [absI]
    · show absI (gap g q k - at_ _ q) ≤ _
      have h1 := ih j hj q p' hq
      rw [gap_of GG hx]
      have h2 := hM q k x hx
      have h0 : 0 ≤ M := by unfold absI at h2; split at h2 <;> omega
      have h3 : ((j : Int) + 1) * M ≤ (i : Int) * M := Int.mul_le_mul_of_nonneg_right (by omega) h0
      rw [Int.add_mul] at h3
      rw [absI_le] at *
      omega
theorem costF_bound {cs : List (Option Int)} {s : Nat → Int} {M : Int} (hco : ∀ o ∈ cs, costOk o) (h0 : 0 ≤ M) : ∀ {ls : List Nat}, (∀ l ∈ ls, absI (s l) ≤ M) → costF cs s ls ≤ ls.length * (M * 99)
  | [], _ => by simp [costF]
  | l :: ls, h => by
    have h1 := costF_bound (ls := ls) hco h0 fun a ha => h a (List.mem_cons_of_mem _ ha)
    have h2 := h l (List.mem_cons_self ..)
    have hc : 0 ≤ costOf cs l ∧ costOf cs l ≤ 99 := by
      unfold costOf
      rw [List.getD_eq_getElem?_getD]
      cases e : cs[l]? with
      | none => simp
      | some o =>
        have := hco o (List.mem_of_getElem? e)
        cases o with
        | none => simp
        | some v => simp [costOk] at this ⊢; omega
    have hn : 0 ≤ absI (s l) := by unfold absI; split <;> omega
    have h3 : absI (s l) * costOf cs l ≤ M * 99 := Int.le_trans (Int.mul_le_mul_of_nonneg_left hc.2 hn) (Int.mul_le_mul_of_nonneg_right h2 (by omega))
    unfold costF at *
    rw [List.map_cons, List.sum_cons, List.length_cons]
    rw [show ((ls.length + 1 : Nat) : Int) * (M * 99) = ls.length * (M * 99) + M * 99 by rw [Int.natCast_add, Int.add_mul]; simp]
    omega
section
variable {g g' : Gr} {cs cs' : List (Option Int)} {n n' : Nat} {s : Nat → Int}
theorem shOf_bound (B : GrB g n) (l : Nat) : absI (shOf g cs l) ≤ 14 * 2000000 := by
  unfold shOf
  cases hf : (groups g).find? (·.contains l) with
  | none => simp [absI]
  | some G =>
    have hG := List.mem_of_find?_eq_some hf
    obtain ⟨f1, f2, f3⟩ := group_facts (cs := cs) B.ok hG
    have ha := anchor_mem (cs := cs) f1
    obtain ⟨T, _⟩ := treeFrom_ok B.ok (f2 _ ha)
    have hl : l ∈ G := by simpa using List.find?_some hf
    have hm : l ∈ keys (treeFrom g (anchorOf cs G)) := (tree_mem B.ok (f2 _ ha)).mpr ((f3 _ ha l).mp hl)
    obtain ⟨p, hp⟩ := keys_mem hm
    obtain ⟨i, hi⟩ := List.getElem?_of_mem hp
    have h1 := at_bound B.ok T B.gp i l p hi
    have h2 := (List.getElem?_eq_some_iff.mp hi).1
    have h3 := T.len
    have h4 := B.len
    show absI (at_ (shiftsIn g (treeFrom g (anchorOf cs G)) 0) l) ≤ _
    omega
theorem best_le (B : GrB g n) (hc : cs.length = g.length) (hco : ∀ o ∈ cs, costOk o) (F : Feas g cs s) : bestC g cs n ≤ costF cs s (List.range g.length) := by
  unfold bestC
  rw [feas_none B.ok B.sd F]
  rw [← hc]
  exact opt_least B.ok B.sd hc hco F
theorem best_at (B : GrB g n) (hc : cs.length = g.length) (F : Feas g cs s) : Feas g cs (optF g cs n) ∧ bestC g cs n = costF cs (optF g cs n) (List.range g.length) := by
  refine ⟨opt_feas B.ok B.sd hc F, ?_⟩
  unfold bestC
  rw [feas_none B.ok B.sd F]
  show costAll cs (shiftsAll g cs n) = _
  rw [costAll_F shiftsAll_len, hc]
  exact costF_congr fun l hl => shiftsAll_get B.ok (by rw [hc]; simpa using hl)
theorem best_bound (B : GrB g n) (hc : cs.length = g.length) (hco : ∀ o ∈ cs, costOk o) : bestC g cs n ≤ 1000000000000 := by
  cases h : conAll g cs with
  | some p => unfold bestC; rw [h]; exact Int.le_refl _
  | none =>
    have F := none_feas B.ok hc h
    have h1 := best_le B hc hco F
    have h2 := costF_bound (cs := cs) (s := shOf g cs) (M := 14 * 2000000) hco (by omega) (ls := List.range g.length) fun l _ => shOf_bound B l
    have h3 := B.len
    simp at h2
    omega
theorem best_mono (B : GrB g n) (B' : GrB g' n') (hc : cs.length = g.length) (hc' : cs'.length = g'.length) (hco' : ∀ o ∈ cs', costOk o) (h : ∀ s, Feas g cs s → ∃ s', Feas g' cs' s' ∧ costF cs' s' (List.range g'.length) ≤ costF cs s (List.range g.length)) : bestC g' cs' n' ≤ bestC g cs n := by
  cases hn : conAll g cs with
  | some p =>
    have : bestC g cs n = 1000000000000 := by unfold bestC; rw [hn]
    rw [this]
    exact best_bound B' hc' hco'
  | none =>
    have F := none_feas B.ok hc hn
    obtain ⟨F1, e⟩ := best_at B hc F
    obtain ⟨s', F', hle⟩ := h _ F1
    have := best_le B' hc' hco' F'
    omega
end
theorem costF_neg {cs : List (Option Int)} {s : Nat → Int} {ls : List Nat} : costF cs (fun l => - s l) ls = costF cs s ls := by
  unfold costF
  congr 1
  refine List.map_congr_left fun l _ => ?_
  have : absI (- s l) = absI (s l) := by unfold absI; split <;> split <;> omega
  rw [this]
theorem costF_add {cs : List (Option Int)} (hco : ∀ o ∈ cs, costOk o) {s t : Nat → Int} : ∀ {ls : List Nat}, costF cs (fun l => s l + t l) ls ≤ costF cs s ls + costF cs t ls
  | [] => by simp [costF]
  | l :: ls => by
    have h1 := costF_add hco (s := s) (t := t) (ls := ls)
    have hc : 0 ≤ costOf cs l := by
      unfold costOf
      rw [List.getD_eq_getElem?_getD]
      cases e : cs[l]? with
      | none => simp
      | some o =>
        have := hco o (List.mem_of_getElem? e)
        cases o with
        | none => simp
        | some v => simp [costOk] at this ⊢; omega
    have h2 : absI (s l + t l) ≤ absI (s l) + absI (t l) := by unfold absI; split <;> split <;> split <;> omega
    have h3 := Int.mul_le_mul_of_nonneg_right h2 hc
    rw [Int.add_mul] at h3
    unfold costF at h1 ⊢
    simp only [List.map_cons, List.sum_cons] at h1 ⊢
    omega
theorem cellAt_bound {c : List (List Int)} {M : Int} (h0 : 0 ≤ M) (h : ∀ r ∈ c, ∀ x ∈ r, -M ≤ x ∧ x ≤ M) (i j : Nat) : -M ≤ cellAt c i j ∧ cellAt c i j ≤ M := by
  unfold cellAt
  rw [List.getD_eq_getElem?_getD, List.getD_eq_getElem?_getD]
  cases e : c[i]? with
  | none => simp; omega
  | some r =>
    simp
    cases e2 : r[j]? with
    | none => simp; omega
    | some x => simp; exact h r (List.mem_of_getElem? e) x (List.mem_of_getElem? e2)
theorem grB_build {c : List (List Int)} {gl : List (List (Option Int))} {n w : Nat} (S : Shape c gl n w) (hc : ∀ r ∈ c, ∀ x ∈ r, -1000000 ≤ x ∧ x ≤ 1000000) (hg : ∀ row ∈ gl, ∀ v : Int, some v ∈ row → -1000000 ≤ v ∧ v ≤ 1000000) (h14 : n + w ≤ 14) : GrB (buildG c gl n w) n := by
  have B := buildG_ok S
  refine ⟨B.gok S, sided_build S, fun l o x hx => ?_, by rw [B.len]; exact h14⟩
  obtain ⟨r, j, _, ⟨row, v, h1, h2, rfl⟩, _⟩ := B.bip S hx
  have a1 := hg row (List.mem_of_getElem? h1) v (List.mem_of_getElem? h2)
  have a2 := cellAt_bound (by omega) hc r j
  rw [absI_le]
  omega
end
end K

namespace K
open PySem PySem.Spec PyProof.Rows L2 DL LamX GP
section
variable {Om : Type} {Ad : Adr} {om : Om}
theorem VT.rw {c rc cc} {n w : Nat} (h : VT c rc cc n w) : ∀ r ∈ c, r.length = w := fun r hr => (h.rows r hr).1
theorem VT.csl {c rc cc} {n w : Nat} (h : VT c rc cc n w) : (rc ++ cc).length = n + w := by simp [h.rl, h.ccl]
@[simp] theorem noB_minD {g cs n} : noB (minD g cs n) = true := by unfold minD; split <;> simp
@[simp] theorem isNon_minD {g cs n} : DL.isNon (minD g cs n) = (conAll g cs).isSome := by unfold minD; split <;> simp [*, DL.isNon]
end
end K

namespace K
open PySem PySem.Spec PyProof.Rows L2 DL LamX GP
section
variable {Om : Type} {Ad : Adr} {om : Om}
theorem tD_fz {c rc cc} : frz (tD c rc cc) = tD c rc cc ∧ lend (tD c rc cc) = tD c rc cc := by simp [tD]
theorem frz_minD0 {g cs n} : oIx (frz (minD g cs n)) (.int 0) = (match conAll g cs with | some _ => none | none => some (.int (costAll cs (shiftsAll g cs n)))) := by
  unfold minD
  cases conAll g cs
  · simp
  · simp; rfl
@[simp] theorem isNon_frz_minD {g cs n} : DL.isNon (frz (minD g cs n)) = (conAll g cs).isSome := by unfold minD; cases conAll g cs <;> simp [DL.isNon]
end
end K

namespace K
open PySem PySem.Spec PyProof.Rows L2 DL LamX GP
section
variable {Ad : Adr} {om : DSh}
/-- what a draw keeps -/
def HOk (m : DSh) : Prop := 0 ≤ m.2.2 ∧ m.2.1.length ≤ 63
theorem next_ok {n : Int} {Q : D → DSh → Prop} (n0 : 0 < n) (n1 : n < 1073741824) (h0 : HOk om) (k : ∀ r om', 0 ≤ r → r < n → HOk om' → Q (.int r) om') : wM (M__law_next Ad) [.opq Ad.sA, .int n] Q om := by
  obtain ⟨s, l, p⟩ := om
  obtain ⟨hp, hl⟩ := h0
  simp only at hp hl
  have md : ∀ a : Int, 0 ≤ a % n ∧ a % n < n := fun a => ⟨Int.emod_nonneg _ (by omega), Int.emod_lt_of_pos _ n0⟩
  have cd : ∀ a, CDiv a n := fun a => ⟨n0, n1⟩
  have cd7 : ∀ a, CDiv a 7 := fun a => ⟨by omega, by omega⟩
  have cp : CPow 10 18 := by unfold CPow; omega
  have cm : ∀ a, CMul a 48271 := fun a => by unfold CMul; omega
  have cm2 : ∀ a, CMul a 69621 := fun a => by unfold CMul; omega
  have hcI : ∀ i : Int, cInt [.int i] = some (.int i) := fun _ => rfl
  have hcM : cMax2 [.int 1, .int l.length] = some (.int (max 1 (l.length : Int))) := by
    unfold cMax2
    simp
    omega
  have hM1 : 0 < max 1 (l.length : Int) := by omega
  have hM2 : max 1 (l.length : Int) < 1073741824 := by omega
  have cdM : ∀ a, CDiv a (max 1 (l.length : Int)) := fun a => ⟨hM1, hM2⟩
  have fl : frzs (l.map D.int) = l.map D.int := frzs_map fun _ => frz_int
  have q0 : 0 ≤ p % max 1 (l.length : Int) := Int.emod_nonneg _ (by omega)
  have q1 : p % max 1 (l.length : Int) < max 1 (l.length : Int) := Int.emod_lt_of_pos _ hM1
  obtain ⟨j, hj⟩ := Int.eq_ofNat_of_zero_le q0
  have hjl : j < (l ++ [0]).length := by simp; omega
  have cx : ∃ x, (l ++ [0])[j]? = some x ∧ (j < l.length ∨ x = 0) := by
    by_cases h : j < l.length
    · exact ⟨_, List.getElem?_eq_getElem hjl, .inl h⟩
    · refine ⟨(l ++ [0])[j], List.getElem?_eq_getElem hjl, .inr ?_⟩
      rw [List.getElem_append_right (by omega)]
      simp
  obtain ⟨x, hx, hxl⟩ := cx
  have ea : atI (l.map D.int ++ [D.int 0]) ((j : Nat) : Int) = some (.int x) := by
    have : l.map D.int ++ [D.int 0] = (l ++ [0]).map D.int := by simp
    rw [this]
    exact atI_natD (by rw [List.getElem?_map, hx]; rfl)
  unfold M__law_next b__law_next
  simp [wM_mk, startE, cp, cm, cm2, cd, cd7, hcI, hcM, cdM, fl, hj, ea, sz_of (show l.length + 1 ≤ 1000000 by omega)]
  rw [if_pos hM1]
  simp [ea]
  split
  · rename_i hbig
    have hj2 : j < l.length := by
      rcases hxl with h | h
      · exact h
      · omega
    have cdl : ∀ a, CDiv a (l.length : Int) := fun a => ⟨by omega, by omega⟩
    have r0 : 0 ≤ p % (l.length : Int) := Int.emod_nonneg _ (by omega)
    have r1 : p % (l.length : Int) < (l.length : Int) := Int.emod_lt_of_pos _ (by omega)
    obtain ⟨jj, hjj⟩ := Int.eq_ofNat_of_zero_le r0
    have hjl2 : jj < l.length := by omega
    simp [hcI, cd, cdl, hjj, ixN_nat hjl2, show 0 < l.length by omega, n0]
    exact k _ _ (md _).1 (md _).2 ⟨hp, by simpa using hl⟩
  · simp [hcI, cd, cd7, cm, cm2, n0]
    exact k _ _ (md _).1 (md _).2 ⟨by simp only; omega, hl⟩
end
end K

namespace K
open PySem PySem.Spec PyProof.Rows L2 DL LamX GP
section
theorem cut_lo {l : List D} {n : Nat} : cutG l none (some (n : Int)) = l.take n := by
  unfold cutG
  rw [HT.sIx_nat, HT.sIx_none]
  simp
theorem cut_hi {l : List D} {n : Nat} : cutG l (some ((n : Int) + 1)) none = l.drop (n + 1) := by
  unfold cutG
  rw [show (n : Int) + 1 = ((n + 1 : Nat) : Int) by omega, HT.sIx_nat, HT.sIx_none, List.take_of_length_le (by simp)]
  rcases Nat.le_total (n + 1) l.length with h | h
  · rw [Nat.min_eq_left h]
  · rw [Nat.min_eq_right h, List.drop_of_length_le (Nat.le_refl _), List.drop_of_length_le h]
theorem take_dOp {l : List (Option Int)} {k} : (dOp l).take k = dOp (l.take k) := by simp [dOp]
theorem drop_dOp {l : List (Option Int)} {k} : (dOp l).drop k = dOp (l.drop k) := by simp [dOp]
theorem take_rG {l : List (List (Option Int))} {k} : (rowsG l).take k = rowsG (l.take k) := by simp [rowsG]
theorem drop_rG {l : List (List (Option Int))} {k} : (rowsG l).drop k = rowsG (l.drop k) := by simp [rowsG]
theorem set_mid {α : Type} {l : List α} {i : Nat} {a : α} (h : i < l.length) : l.take i ++ a :: l.drop (i + 1) = l.set i a := by
  rw [List.set_eq_take_append_cons_drop, if_pos h]
theorem cut_hi0 {l : List D} {n : Nat} : cutG l (some (n : Int)) none = l.drop n := by
  unfold cutG
  rw [HT.sIx_nat, HT.sIx_none, List.take_of_length_le (by simp)]
  rcases Nat.le_total n l.length with h | h
  · rw [Nat.min_eq_left h]
  · rw [Nat.min_eq_right h, List.drop_of_length_le (Nat.le_refl _), List.drop_of_length_le h]
end
end K

namespace K
open PySem PySem.Spec PyProof.Rows L2 DL LamX GP
section
variable {Ad : Adr} {om : DSh}
theorem table_ok {m : Int} {Q : D → DSh → Prop} (m1 : 1 ≤ m) (m7 : m ≤ 7) (h0 : HOk om) (k : ∀ c rc cc n w om', VT c rc cc n w → (∀ r ∈ c, ∀ x ∈ r, -9 ≤ x ∧ x ≤ 9) → HOk om' → Q (tD c rc cc) om') : wM (M__law_table Ad) [.opq Ad.sA, .int m] Q om := by
  unfold M__law_table b__law_table
  simp [wM_mk, startE]
  refine next_ok (by omega) (by omega) h0 fun n' om1 n0 n1 h1 => ?_
  simp
  refine next_ok (by omega) (by omega) h1 fun w' om2 w0 w1 h2 => ?_
  obtain ⟨n, hn⟩ := Int.eq_ofNat_of_zero_le (show 0 ≤ 1 + n' by omega)
  obtain ⟨w, hw⟩ := Int.eq_ofNat_of_zero_le (show 0 ≤ 1 + w' by omega)
  simp [hn, hw, small_of (show -1000000 ≤ (n : Int) ∧ (n : Int) ≤ 1000000 by omega)]
  refine kLc_walk (by simp; omega) (fun i en o acc => en = [some (.opq Ad.sA), some (.int m), some (.int n), some (.int w), none, none, none, none, none] ∧ HOk o ∧ ∃ c : List (List Int), acc = rowsD c ∧ c.length = i ∧ ∀ r ∈ c, r.length = w ∧ ∀ x ∈ r, -9 ≤ x ∧ x ≤ 9) ⟨by simp, h2, [], by simp [rowsD]⟩ ?_ ?_
  · rintro i d en o acc hd ⟨rfl, ho, c, rfl, hc, hr⟩
    simp [small_of (show -1000000 ≤ (w : Int) ∧ (w : Int) ≤ 1000000 by omega)]
    refine kLc_walk (by simp; omega) (fun j en o acc => en = [some (.opq Ad.sA), some (.int m), some (.int n), some (.int w), none, none, some d, none, none] ∧ HOk o ∧ ∃ r : List Int, acc = dI r ∧ r.length = j ∧ ∀ x ∈ r, -9 ≤ x ∧ x ≤ 9) ⟨by simp, ho, [], by simp [dI]⟩ ?_ ?_
    · rintro j d2 en o' acc hd2 ⟨rfl, ho', r, rfl, hrl, hrx⟩
      simp
      refine next_ok (by omega) (by omega) ho' fun x om3 x0 x1 h3 => ?_
      simp
      refine ⟨h3, r ++ [x - 9], by simp [dI], by simp [hrl], fun y hy => ?_⟩
      rcases List.mem_append.mp hy with hy | hy
      · exact hrx y hy
      · simp at hy; omega
    · rintro en o' acc ⟨rfl, ho', r, rfl, hrl, hrx⟩
      simp at hrl
      simp
      refine ⟨ho', c ++ [r], by simp [rowsD, rowD], by simp [hc], fun y hy => ?_⟩
      rcases List.mem_append.mp hy with hy | hy
      · exact hr y hy
      · simp at hy; subst hy; exact ⟨hrl, hrx⟩
  · rintro en om3 acc ⟨rfl, h3, c, rfl, hc, hr⟩
    simp at hc
    have hnw : ((n : Int) + (w : Int)).toNat = n + w := by omega
    simp [small_of (show -1000000 ≤ (n : Int) + (w : Int) ∧ (n : Int) + (w : Int) ≤ 1000000 by omega), hnw]
    refine kLc_walk (by simp; omega) (fun i en o acc => en = [some (.opq Ad.sA), some (.int m), some (.int n), some (.int w), some (.tup (rowsD c)), none, none, none, none] ∧ HOk o ∧ ∃ cs : List (Option Int), acc = dOp cs ∧ cs.length = i ∧ ∀ o ∈ cs, costOk o) ⟨by simp, h3, [], by simp [dOp]⟩ ?_ ?_
    · rintro i d en o acc hd ⟨rfl, ho, cs, rfl, hcs, hco⟩
      simp
      refine next_ok (by omega) (by omega) ho fun x om6 x0 x1 h6 => ?_
      simp
      split
      · refine ⟨h6, cs ++ [none], by simp [dOp, oD], by simp [hcs], fun o ho => ?_⟩
        rcases List.mem_append.mp ho with ho | ho
        · exact hco o ho
        · simp at ho; subst ho; trivial
      · refine next_ok (by omega) (by omega) h6 fun x om7 x0 x1 h7 => ?_
        simp
        refine ⟨h7, cs ++ [some (1 + x)], by simp [dOp, oD], by simp [hcs], fun o ho => ?_⟩
        rcases List.mem_append.mp ho with ho | ho
        · exact hco o ho
        · simp at ho; subst ho; exact ⟨by omega, by omega⟩
    · rintro en o acc ⟨rfl, ho, cs, rfl, hcs, hco⟩
      simp at hcs
      simp [cut_lo, cut_hi0, take_dOp, drop_dOp]
      exact k c (cs.take n) (cs.drop n) n w o ⟨hc, by omega, by omega, by omega, by omega, fun r hr' => ⟨(hr r hr').1, fun x hx => by have := (hr r hr').2 x hx; omega⟩, by simp; omega, by simp; omega, by simpa using hco⟩ (fun r hr' => (hr r hr').2) ho
end
end K

namespace K
open PySem PySem.Spec PyProof.Rows L2 DL LamX GP
section
variable {Ad : Adr} {om : DSh}
def shR (s : List Int) (n i : Nat) (r : List Int) : List Int := r.mapIdx fun j v => v + s.getD i 0 + s.getD (n + j) 0
def shC (c : List (List Int)) (s : List Int) : List (List Int) := c.mapIdx fun i r => shR s c.length i r
theorem take_get {α : Type} {l : List α} {i : Nat} {a : α} (h : l[i]? = some a) : l.take (i + 1) = l.take i ++ [a] := by
  rw [List.take_succ, h]; rfl
theorem law_shifted_ok {c : List (List Int)} {s : List Int} {n w : Nat} {g : Tag} (hn : c.length = n) (hn1 : 1 ≤ n) (hn7 : n ≤ 7) (hw : ∀ r ∈ c, r.length = w) (hw7 : w ≤ 7) (hs : s.length = n + w) : M__law_shifted Ad [.tup (rowsD c), .lst g (dI s)] om = some (.tup (rowsD (shC c s)), om) := by
  apply M_of
  unfold M__law_shifted b__law_shifted
  obtain ⟨r0, hr0⟩ : ∃ r0, c[0]? = some r0 := ⟨_, List.getElem?_eq_getElem (by omega)⟩
  have e0 : atI (rowsD c) 0 = some (rowD r0) := atI_natD (i := 0) (by rw [rowsD_get, hr0]; rfl)
  have hr0w := hw r0 (List.mem_of_getElem? hr0)
  have hlc : cLen [.tup (rowsD c)] = some (.int n) := by simp [hn]
  simp [wM_mk, startE, hn, small_of (show -1000000 ≤ (n : Int) ∧ (n : Int) ≤ 1000000 by omega)]
  refine wS_walk (fun i en o => (∃ (a b : Option D) (gc : Tag), en = [some (.tup (rowsD c)), some (.lst gc (dI s)), some (.lst .o (rowsD ((shC c s).take i))), some (.int n), a, b]) ∧ o = om) ⟨⟨none, none, g, by simp [rowsD]⟩, rfl⟩ ?_ ?_
  · rintro i d en o hd ⟨⟨a, b, gc, rfl⟩, rfl⟩
    rw [rng_getI] at hd
    split at hd
    · rename_i hi
      cases hd
      obtain ⟨r, hr⟩ : ∃ r, c[i]? = some r := ⟨_, List.getElem?_eq_getElem (by omega)⟩
      have hr' : (rowsD c)[i]? = some (rowD r) := by rw [rowsD_get, hr]; rfl
      have hrw := hw r (List.mem_of_getElem? hr)
      have si : s[i]? = some s[i] := List.getElem?_eq_getElem (by omega)
      have si' : (dI s)[i]? = some (.int s[i]) := by rw [dI_get, si]; rfl
      simp [e0, rowD, hr0w, small_of (show -1000000 ≤ (w : Int) ∧ (w : Int) ≤ 1000000 by omega)]
      refine kLc_walk (by simp; omega) (fun j en o' acc => (∃ gc : Tag, en = [some (.tup (rowsD c)), some (.lst gc (dI s)), some (.lst .o (rowsD ((shC c s).take i))), some (.int n), some (.int i), none]) ∧ o' = o ∧ acc = dI ((shR s n i r).take j)) ⟨⟨gc, by simp⟩, rfl, by simp [dI]⟩ ?_ ?_
      · rintro j d en o' acc hd2 ⟨⟨gc, rfl⟩, rfl, rfl⟩
        rw [rng_getI] at hd2
        split at hd2
        · rename_i hj
          cases hd2
          obtain ⟨v, hv⟩ : ∃ v, r[j]? = some v := ⟨_, List.getElem?_eq_getElem (by omega)⟩
          have hv' : (dI r)[j]? = some (.int v) := by rw [dI_get, hv]; rfl
          have sj : s[n + j]? = some s[n + j] := List.getElem?_eq_getElem (by omega)
          have sj' : (dI s)[n + j]? = some (.int s[n + j]) := by rw [dI_get, sj]; rfl
          have ej := atI_natD sj'
          have hg : (shR s n i r)[j]? = some (v + s[i] + s[n + j]) := by simp [shR, hv, si, sj]
          simp at ej
          simp [atI_natD si', atI_natD hr', rowD, atI_natD hv', ej]
          rw [take_get hg]
          simp [dI]
        · cases hd2
      · rintro en o' acc ⟨⟨gc, rfl⟩, rfl, rfl⟩
        have hsr : (shC c s)[i]? = some (shR s n i r) := by simp [shC, hr, hn]
        have hlen : ((shR s n i r).take (rng 0 w).length) = shR s n i r := List.take_of_length_le (by simp [shR, hrw])
        rw [hlen]
        simp
        refine ⟨by omega, ?_⟩
        rw [take_get hsr]
        simp [rowsD, rowD]
    · cases hd
  · rintro en o ⟨⟨a, b, gc, rfl⟩, rfl⟩
    have : (shC c s).take (rng 0 n).length = shC c s := List.take_of_length_le (by simp [shC, hn])
    rw [this]
    have hl : (shC c s).length = n := by simp [shC, hn]
    generalize shC c s = z at hl
    simp
end
end K

namespace K
open PySem PySem.Spec PyProof.Rows L2 DL LamX GP
section
variable {Ad : Adr} {om : DSh}
theorem tD_fz' {c rc cc} : frz (tD c rc cc) = tD c rc cc ∧ lend (tD c rc cc) = tD c rc cc := by simp [tD]
theorem oAdd_t' {a b : List D} (h : a.length + b.length ≤ 1000) : oAdd (.tup a) (.tup b) = some (.tup (a ++ b)) := by
  show (if sz (a.length + b.length) = true then some (D.tup (a ++ b)) else none) = _
  rw [if_pos (sz_of (by omega))]
theorem frzs_m {gl : List (List (Option Int))} {t : Tag} : frzs (gl.map fun r => D.lst t (dOp r)) = gl.map fun r => D.lst t.fz (dOp r) := frzs_map fun r => by simp
/-- the goal is the cells moved, or open -/
structure Moved (c : List (List Int)) (s : List Int) (n : Nat) (gl : List (List (Option Int))) : Prop where
  at_ : ∀ i j row v, gl[i]? = some row → row[j]? = some (some v) → v = cellAt c i j + s.getD i 0 + s.getD (n + j) 0
theorem goal_ok {c rc cc} {n w : Nat} {sp : Bool} {Q : D → DSh → Prop} (hv : VT c rc cc n w) (rows : ∀ r ∈ c, ∀ x ∈ r, -9 ≤ x ∧ x ≤ 9) (h0 : HOk om) (k : ∀ gl om', VG gl n w → (sp = false → ∃ s : List Int, s.length = n + w ∧ (∀ x ∈ s, -5 ≤ x ∧ x ≤ 5) ∧ (∀ l : Nat, (rc ++ cc)[l]? = some none → s.getD l 0 = 0) ∧ Moved c s n gl) → HOk om' → Q (goalD gl) om') : wM (M__law_goal Ad) [.opq Ad.sA, tD c rc cc, .bl sp] Q om := by
  unfold M__law_goal b__law_goal
  have csl := hv.csl
  have hcl := hv.cl
  have hn1 := hv.n1
  have hn7 := hv.n7
  have hw1 := hv.w1
  have hw7 := hv.w7
  have hrw := hv.rw
  have hl1 := hv.rl
  have hl2 := hv.ccl
  have ea : oAdd (.tup (dOp rc)) (.tup (dOp cc)) = some (.tup (dOp (rc ++ cc))) := by
    rw [oAdd_t' (by simp [dOp]; omega)]; simp [dOp]
  unfold tD at *
  generalize rc ++ cc = cs at *
  simp [wM_mk, startE, ea]
  refine kLc_walk (by simp [dOp]; omega) (fun i en o acc => en = [some (.opq Ad.sA), some (.tup [.tup (rowsD c), .tup (dOp rc), .tup (dOp cc)]), some (.bl sp), some (.tup (rowsD c)), some (.tup (dOp cs)), none, none, none, none, none, none, none] ∧ HOk o ∧ ∃ s : List Int, acc = dI s ∧ s.length = i ∧ (∀ x ∈ s, -5 ≤ x ∧ x ≤ 5) ∧ ∀ l, l < i → cs[l]? = some none → s.getD l 0 = 0) ⟨by simp, h0, [], by simp [dI]⟩ ?_ ?_
  · rintro i d en o acc hd ⟨rfl, ho, s, rfl, hs, hsb, hsz⟩
    rw [dOp_get] at hd
    obtain ⟨e, he, rfl⟩ := Option.map_eq_some_iff.mp hd
    have ext : ∀ x : Int, (cs[i]? = some none → x = 0) → -5 ≤ x ∧ x ≤ 5 → (∀ y ∈ s ++ [x], -5 ≤ y ∧ y ≤ 5) ∧ ∀ l, l < i + 1 → cs[l]? = some none → (s ++ [x]).getD l 0 = 0 := fun x hx hb => by
      refine ⟨fun y hy => ?_, fun l hl hc => ?_⟩
      · rcases List.mem_append.mp hy with hy | hy
        · exact hsb y hy
        · simp at hy; omega
      · by_cases h : l < i
        · have := hsz l h hc
          rw [List.getD_eq_getElem?_getD, List.getElem?_append_left (by omega), ← List.getD_eq_getElem?_getD]
          exact this
        · have : l = s.length := by omega
          subst this
          have e2 : (s ++ [x]).getD s.length 0 = x := by simp [List.getD_eq_getElem?_getD]
          rw [e2]
          exact hx (by rw [← hs]; exact hc)
    cases e with
    | none =>
      simp [oD]
      obtain ⟨a1, a2⟩ := ext 0 (fun _ => rfl) (by omega)
      exact ⟨ho, s ++ [0], by simp [dI], by simp [hs], a1, a2⟩
    | some v =>
      simp [oD]
      refine next_ok (by omega) (by omega) ho fun x om3 x0 x1 h3 => ?_
      simp
      obtain ⟨a1, a2⟩ := ext (x - 5) (fun h => by rw [he] at h; cases h) (by omega)
      exact ⟨h3, s ++ [x - 5], by simp [dI], by simp [hs], a1, a2⟩
  · rintro en o acc ⟨rfl, ho, s, rfl, hs, hsb, hsz⟩
    have hsl : s.length = n + w := by simpa [dOp, csl] using hs
    have hsz2 : ∀ l : Nat, cs[l]? = some none → s.getD l 0 = 0 := fun l h => hsz l (by have := (List.getElem?_eq_some_iff.mp h).1; simpa [dOp] using this) h
    have esh := law_shifted_ok (Ad := Ad) (om := o) (g := .b) hcl hn1 hn7 hrw hw7 hsl
    have hfl : (shC c s).length = n := by simp [shC, hcl]
    simp [wM_eq esh]
    have hfw : ∀ r ∈ shC c s, r.length = w := fun r hr => by
      obtain ⟨i, hi⟩ := List.getElem?_of_mem hr
      simp [shC] at hi
      obtain ⟨r0, h0, rfl⟩ := hi
      simp [shR, hrw r0 (List.mem_of_getElem? h0)]
    have hmv : ∀ (i j : Nat) (r : List Int) (v : Int), (shC c s)[i]? = some r → r[j]? = some v → v = cellAt c i j + s.getD i 0 + s.getD (n + j) 0 ∧ -1000000 ≤ v ∧ v ≤ 1000000 := fun i j r v h1 h2 => by
      simp [shC] at h1
      obtain ⟨r0, h0, rfl⟩ := h1
      simp [shR] at h2
      obtain ⟨x, hx, rfl⟩ := h2
      have hxb := rows r0 (List.mem_of_getElem? h0) x (List.mem_of_getElem? hx)
      have hil := (List.getElem?_eq_some_iff.mp h0).1
      have hjl := (List.getElem?_eq_some_iff.mp hx).1
      have hr0 := hrw r0 (List.mem_of_getElem? h0)
      have e1 : cellAt c i j = x := by
        unfold cellAt
        rw [List.getD_eq_getElem?_getD, List.getD_eq_getElem?_getD, h0]
        simp [hx]
      have g1 : s.getD i 0 = s[i]'(by omega) := by rw [List.getD_eq_getElem?_getD, List.getElem?_eq_getElem]; rfl
      have g2 : s.getD (n + j) 0 = s[n + j]'(by omega) := by rw [List.getD_eq_getElem?_getD, List.getElem?_eq_getElem]; rfl
      have b1 := hsb (s[i]'(by omega)) (List.getElem_mem _)
      have b2 := hsb (s[n + j]'(by omega)) (List.getElem_mem _)
      rw [e1, g1, g2]
      simp only [List.getD_eq_getElem?_getD, hcl] at *
      refine ⟨?_, ?_⟩
      · simp [List.getElem?_eq_getElem (show i < s.length by omega), List.getElem?_eq_getElem (show n + j < s.length by omega)]
      · simp [List.getElem?_eq_getElem (show i < s.length by omega), List.getElem?_eq_getElem (show n + j < s.length by omega)]
        omega
    generalize shC c s = sc at *
    refine wS_walk (fun i en o => HOk o ∧ ∃ (gl : List (List (Option Int))) (x7 : Option D), en = [some (.opq Ad.sA), some (.tup [.tup (rowsD c), .tup (dOp rc), .tup (dOp cc)]), some (.bl sp), some (.tup (rowsD c)), some (.tup (dOp cs)), some (.lst .f (dI s)), some (mD .o .o gl), x7, none, none, none, none] ∧ gl.length = i ∧ ∀ (a : Nat) row, gl[a]? = some row → ∃ r, sc[a]? = some r ∧ row.length = r.length ∧ ∀ (b : Nat) v, row[b]? = some (some v) → r[b]? = some v) ⟨ho, [], none, by simp [mD], rfl, by simp⟩ ?_ ?_
    · rintro i d en o hd ⟨ho, gl, x7, rfl, hgl, hrow⟩
      rw [rowsD_get] at hd
      obtain ⟨r, hr, rfl⟩ := Option.map_eq_some_iff.mp hd
      have hrl := hfw r (List.mem_of_getElem? hr)
      have hil := (List.getElem?_eq_some_iff.mp hr).1
      simp [mD, rowD]
      refine kLc_walk (by simp [dI]; omega) (fun j en o acc => HOk o ∧ en = [some (.opq Ad.sA), some (.tup [.tup (rowsD c), .tup (dOp rc), .tup (dOp cc)]), some (.bl sp), some (.tup (rowsD c)), some (.tup (dOp cs)), some (.lst .f (dI s)), some (mD .o .o gl), some (rowD r), none, none, none, none] ∧ ∃ row : List (Option Int), acc = dOp row ∧ row.length = j ∧ ∀ (b : Nat) v, row[b]? = some (some v) → r[b]? = some v) ⟨ho, by simp [mD, rowD], [], by simp [dOp], rfl, by simp⟩ ?_ ?_
      · rintro j d en o acc hd ⟨ho, rfl, row, rfl, hl, hb⟩
        rw [dI_get] at hd
        obtain ⟨v, hvv, rfl⟩ := Option.map_eq_some_iff.mp hd
        simp
        refine next_ok (by omega) (by omega) ho fun x om3 x0 x1 h3 => ?_
        simp
        have ext : ∀ e : Option Int, (∀ u, e = some u → u = v) → ∀ (b : Nat) u, (row ++ [e])[b]? = some (some u) → r[b]? = some u := fun e he b u hu => by
          by_cases h : b < row.length
          · rw [List.getElem?_append_left h] at hu
            exact hb b u hu
          · have hb2 := (List.getElem?_eq_some_iff.mp hu).1
            have : b = j := by simp at hb2; omega
            subst this
            rw [← hl] at hu
            simp at hu
            rw [he u hu]; exact hvv
        split
        · exact ⟨h3, row ++ [some v], by simp [dOp, oD], by simp [hl], ext _ (fun u h => by cases h; rfl)⟩
        · exact ⟨h3, row ++ [none], by simp [dOp, oD], by simp [hl], ext _ (fun u h => by cases h)⟩
      · rintro en o acc ⟨ho, rfl, row, rfl, hl, hb⟩
        simp at hl
        simp [mD]
        refine ⟨by omega, ho, gl ++ [row], by simp, by simp [hgl], fun a row' h => ?_⟩
        by_cases ha : a < gl.length
        · rw [List.getElem?_append_left ha] at h
          exact hrow a row' h
        · have h2 := (List.getElem?_eq_some_iff.mp h).1
          have : a = gl.length := by simp at h2; omega
          subst this
          simp at h
          subst h
          exact ⟨r, by rw [hgl]; exact hr, hl, hb⟩
    · rintro en o ⟨ho, gl, x7, rfl, hgl, hrow⟩
      simp at hgl
      have vg0 : VG gl n w := by
        refine ⟨fun _ => ⟨by omega, fun row h => ?_⟩, fun row h v hv => ?_⟩
        · obtain ⟨a, ha⟩ := List.getElem?_of_mem h
          obtain ⟨r, h1, h2, _⟩ := hrow a row ha
          rw [h2]; exact hfw r (List.mem_of_getElem? h1)
        · obtain ⟨a, ha⟩ := List.getElem?_of_mem h
          obtain ⟨b, hb⟩ := List.getElem?_of_mem hv
          obtain ⟨r, h1, h2, h3⟩ := hrow a row ha
          exact (hmv a b r v h1 (h3 b v hb)).2
      have mv0 : Moved c s n gl := ⟨fun i j row v h1 h2 => by
        obtain ⟨r, h3, _, h4⟩ := hrow i row h1
        exact (hmv i j r v h3 (h4 j v h2)).1⟩
      have fin : ∀ (gl : List (List (Option Int))) (x7 x8 x9 : Option D) (o : DSh), HOk o → gl.length ≤ 1000 → (∀ o, HOk o → Q (goalD gl) o) →
          sqQ (kLc (gN 7) dYes (dCB cTup (aCons (dV 7) aNil)) [7] (kC1 aNil (kCB cTup (kR (kBody Q))))) (frz (mD .o .o gl)) [some (.opq Ad.sA), some (.tup [.tup (rowsD c), .tup (dOp rc), .tup (dOp cc)]), some (.bl sp), some (.tup (rowsD c)), some (.tup (dOp cs)), some (.lst .f (dI s)), some (frz (mD .o .o gl)), x7, x8, x9, none, none] o := fun gl x7 x8 x9 o ho hl hQ => by
        simp [mD, frzs_m]
        refine kLc_walk (by simp; omega) (fun i en (o' : DSh) acc => HOk o' ∧ (∃ x7 : Option D, en = [some (.opq Ad.sA), some (.tup [.tup (rowsD c), .tup (dOp rc), .tup (dOp cc)]), some (.bl sp), some (.tup (rowsD c)), some (.tup (dOp cs)), some (.lst .f (dI s)), some (.lst .f (gl.map fun r => .lst .f (dOp r))), x7, x8, x9, none, none]) ∧ acc = rowsG (gl.take i)) ⟨ho, ⟨none, by simp⟩, by simp [rowsG]⟩ ?_ ?_
        · rintro i d en o' acc hd ⟨ho', ⟨x7, rfl⟩, rfl⟩
          rw [List.getElem?_map] at hd
          obtain ⟨r, hr, rfl⟩ := Option.map_eq_some_iff.mp hd
          rw [take_get hr]
          simp [rowsG]
          exact ho'
        · rintro en o' acc ⟨ho', ⟨x7, rfl⟩, rfl⟩
          rw [List.take_of_length_le (by simp)]
          simp
          exact hQ o' ho'
      cases sp with
      | false =>
        simp
        exact fin gl x7 none none o ho (by omega) fun o' ho' => k gl o' vg0 (fun _ => ⟨s, hsl, hsb, hsz2, mv0⟩) ho'
      | true =>
        obtain ⟨row0, hr0⟩ : ∃ r, gl[0]? = some r := ⟨_, List.getElem?_eq_getElem (by omega)⟩
        have gw0 := (vg0.sh c).gw row0 (List.mem_of_getElem? hr0)
        have c1 : cLen [mD .o .o gl] = some (.int n) := by simp [mD]; omega
        have c2 : ownAt (mD .o .o gl) 0 = some (.lst .o (dOp row0)) := mD_at (i := 0) hr0
        simp [c1, c2, gw0]
        refine next_ok (by omega) (by omega) ho fun ri om4 a0 a1 h4 => ?_
        simp
        refine next_ok (by omega) (by omega) h4 fun ki om5 b0 b1 h5 => ?_
        simp
        refine next_ok (by omega) (by omega) h5 fun vi om6 d0 d1 h6 => ?_
        obtain ⟨r, rfl⟩ := Int.eq_ofNat_of_zero_le a0
        obtain ⟨j, rfl⟩ := Int.eq_ofNat_of_zero_le b0
        obtain ⟨row, hrow'⟩ : ∃ x, gl[r]? = some x := ⟨_, List.getElem?_eq_getElem (by omega)⟩
        have hrw' := (vg0.sh c).gw row (List.mem_of_getElem? hrow')
        simp
        rw [show D.int (vi - 15) = oD (some (vi - 15)) from rfl, set2_m hrow' (by omega)]
        simp
        refine fin (gl.set r (row.set j (some (vi - 15)))) x7 _ _ om6 h6 (by simp; omega) fun o' ho' => k _ o' ⟨fun c => ?_, fun row' h v hv' => ?_⟩ (fun h => by cases h) ho'
        · refine ⟨by simp [(vg0.sh c).gn], fun row' h => ?_⟩
          rcases List.mem_or_eq_of_mem_set h with h | rfl
          · exact (vg0.sh c).gw _ h
          · simpa using hrw'
        · rcases List.mem_or_eq_of_mem_set h with h | rfl
          · exact vg0.vals _ h v hv'
          · rcases List.mem_or_eq_of_mem_set hv' with h' | h'
            · exact vg0.vals _ (List.mem_of_getElem? hrow') v h'
            · cases h'; omega
/-- what is moved there can be reached -/
theorem moved_feas {c : List (List Int)} {cs : List (Option Int)} {gl : List (List (Option Int))} {s : List Int} {n w : Nat} (vg : VG gl n w) (hz : ∀ l : Nat, cs[l]? = some none → s.getD l 0 = 0) (M : Moved c s n gl) : Feas (buildG c gl n w) cs (fun l => s.getD l 0) := by
  refine ⟨fun l o x hx => ?_, fun l h => hz l h⟩
  obtain ⟨r, j, _, ⟨row, v, h1, h2, rfl⟩, hr, hj, h | h⟩ := (buildG_ok (vg.sh c)).bip (vg.sh c) hx
  · obtain ⟨rfl, rfl⟩ := h
    have := M.at_ _ _ _ _ h1 h2
    show s.getD l 0 + s.getD (n + j) 0 = v - cellAt c l j
    omega
  · obtain ⟨rfl, rfl⟩ := h
    have := M.at_ _ _ _ _ h1 h2
    show s.getD (n + j) 0 + s.getD o 0 = v - cellAt c o j
    omega
end
end K

namespace K
open PySem PySem.Spec PyProof.Rows L2 DL LamX GP
section
/-- the label of a line -/
def labOf (g : Gr) (cs : List (Option Int)) (l : Nat) : Int := match (groups g).find? (·.contains l) with
  | some G => if cs[anchorOf cs G]? = some none then -1 else (G.headD 0 : Nat)
  | none => -1
theorem lab_in {g : Gr} {cs : List (Option Int)} {G : List Nat} {l : Nat} (GG : GOk g) (hG : G ∈ groups g) (hl : l ∈ G) : labOf g cs l = if cs[anchorOf cs G]? = some none then -1 else ((G.headD 0 : Nat) : Int) := by
  unfold labOf; rw [find_mem GG hG hl]
theorem grp_same {g : Gr} {G G' : List Nat} {l : Nat} (GG : GOk g) (hG : G ∈ groups g) (hG' : G' ∈ groups g) (h : l ∈ G) (h' : l ∈ G') : G = G' := by
  have := find_mem GG hG h
  rw [find_mem GG hG' h'] at this
  exact (Option.some.inj this).symm
section
variable {g : Gr} {cs : List (Option Int)} {n r k : Nat} {s s' : Nat → Int}
/-- one label: the same sum in every solution -/
theorem lab_same (GG : GOk g) (hs : Sided g fun l => decide (l < n)) (hr : r < g.length) (hk : k < g.length) (hrn : r < n) (hkn : n ≤ k) (e : labOf g cs r = labOf g cs k) (F : Feas g cs s) (F' : Feas g cs s') : s r + s k = s' r + s' k := by
  obtain ⟨G, hG, hrG, _⟩ := find_in GG hr
  obtain ⟨G', hG', hkG, _⟩ := find_in GG hk
  have K := grp_ok GG hG
  have K' := grp_ok GG hG'
  rw [lab_in GG hG hrG, lab_in GG hG' hkG] at e
  have lk : ∀ {A : List Nat} (hA : A ∈ groups g) {l : Nat} (hl : l ∈ A), cs[anchorOf cs A]? = some none → s l = s' l := fun {A} hA {l} hl ha => by
    have KA := grp_ok GG hA
    have hm := anchor_mem (cs := cs) KA.ne
    rw [feas_form (cs := cs) GG hs F.keeps KA.cl hm KA.lt l hl, feas_form (cs := cs) GG hs F'.keeps KA.cl hm KA.lt l hl, F.locked _ ha, F'.locked _ ha]
  split at e
  · rename_i h1
    split at e
    · rename_i h2
      rw [lk hG hrG h1, lk hG' hkG h2]
    · omega
  · split at e
    · omega
    · have eh : G.headD 0 = G'.headD 0 := by omega
      have : G = G' := grp_same GG hG hG' K.hd (eh ▸ K'.hd)
      subst this
      rw [feas_form (cs := cs) GG hs F.keeps K.cl K.hd K.lt r hrG, feas_form (cs := cs) GG hs F.keeps K.cl K.hd K.lt k hkG, feas_form (cs := cs) GG hs F'.keeps K.cl K.hd K.lt r hrG, feas_form (cs := cs) GG hs F'.keeps K.cl K.hd K.lt k hkG]
      have a : decide (r < n) = true := by simp [hrn]
      have b : decide (k < n) = false := by simp; omega
      rw [a, b]
      cases decide (G.headD 0 < n) <;> simp <;> omega
/-- a free group moved -/
def movG (n : Nat) (G : List Nat) (s : Nat → Int) (δ : Int) (l : Nat) : Int := if l ∈ G then (if l < n then s l + δ else s l - δ) else s l
theorem mov_feas {G : List Nat} {δ : Int} (GG : GOk g) (hs : Sided g fun l => decide (l < n)) (hG : G ∈ groups g) (hf : cs[anchorOf cs G]? ≠ some none) (F : Feas g cs s) : Feas g cs (movG n G s δ) := by
  have K := grp_ok GG hG
  refine ⟨fun l o x hx => ?_, fun l h => ?_⟩
  · have hio : o ∈ G ↔ l ∈ G := ⟨fun ho => (K.cl o ho l).mpr (.step (.refl _) (GG.sym _ _ _ hx)), fun hl => (K.cl l hl o).mpr (.step (.refl _) hx)⟩
    have h1 := F.keeps l o x hx
    have h2 := hs l o x hx
    unfold movG
    by_cases hl : l ∈ G
    · rw [if_pos hl, if_pos (hio.mpr hl)]
      by_cases a : l < n <;> by_cases b : o < n <;> simp [a, b] at h2 ⊢ <;> omega
    · rw [if_neg hl, if_neg fun ho => hl (hio.mp ho)]
      exact h1
  · unfold movG
    have : l ∉ G := fun hl => anchor_free K.ne hf l hl h
    rw [if_neg this]
    exact F.locked l h
/-- other labels: any sum -/
theorem lab_free (GG : GOk g) (hs : Sided g fun l => decide (l < n)) (hr : r < g.length) (hk : k < g.length) (hrn : r < n) (hkn : n ≤ k) (e : labOf g cs r ≠ labOf g cs k) (F : Feas g cs s) (δ : Int) : ∃ s', Feas g cs s' ∧ s' r + s' k = s r + s k + δ := by
  obtain ⟨G, hG, hrG, _⟩ := find_in GG hr
  obtain ⟨G', hG', hkG, _⟩ := find_in GG hk
  rw [lab_in GG hG hrG, lab_in GG hG' hkG] at e
  have ne : G ≠ G' := fun h => by subst h; exact e rfl
  have hk1 : k ∉ G := fun h => ne (grp_same GG hG hG' h hkG)
  have hr1 : r ∉ G' := fun h => ne (grp_same GG hG hG' hrG h)
  by_cases h1 : cs[anchorOf cs G]? = some none
  · have h2 : cs[anchorOf cs G']? ≠ some none := fun h => by simp [h1, h] at e
    refine ⟨_, mov_feas (δ := -δ) GG hs hG' h2 F, ?_⟩
    unfold movG
    rw [if_neg hr1, if_pos hkG, if_neg (by omega)]
    omega
  · refine ⟨_, mov_feas (δ := δ) GG hs hG h1 F, ?_⟩
    unfold movG
    rw [if_neg hk1, if_pos hrG, if_pos hrn]
    omega
end
theorem set_shape {c : List (List Int)} {gl : List (List (Option Int))} {n w r j : Nat} {row : List (Option Int)} {x : Option Int} (S : Shape c gl n w) (hr : gl[r]? = some row) : Shape c (gl.set r (row.set j x)) n w := ⟨by simp [S.gn], fun row' h => by
  rcases List.mem_or_eq_of_mem_set h with h | rfl
  · exact S.gw _ h
  · simp [S.gw row (List.mem_of_getElem? hr)]⟩
/-- an open cell closed -/
theorem feas_close {c : List (List Int)} {gl : List (List (Option Int))} {cs : List (Option Int)} {n w r j : Nat} {row : List (Option Int)} {v : Int} {s : Nat → Int} (S : Shape c gl n w) (hr : gl[r]? = some row) (hj : row[j]? = some none) :
    Feas (buildG c (gl.set r (row.set j (some v))) n w) cs s ↔ Feas (buildG c gl n w) cs s ∧ s r + s (n + j) = v - cellAt c r j := by
  have hrl := (List.getElem?_eq_some_iff.mp hr).1
  have hjl := (List.getElem?_eq_some_iff.mp hj).1
  rw [feas_cells (set_shape S hr), feas_cells S]
  constructor
  · rintro ⟨h, hl⟩
    refine ⟨⟨fun a b rw' u h1 h2 => ?_, hl⟩, h r j (row.set j (some v)) v (by rw [List.getElem?_set]; simp [hrl]) (by rw [List.getElem?_set]; simp [hjl])⟩
    by_cases e : a = r
    · subst e
      rw [hr] at h1
      cases h1
      have : b ≠ j := fun e => by subst e; rw [hj] at h2; cases h2
      exact h a b (row.set j (some v)) u (by rw [List.getElem?_set]; simp [hrl]) (by rw [List.getElem?_set, if_neg (fun e => this e.symm)]; exact h2)
    · exact h a b rw' u (by rw [List.getElem?_set, if_neg (fun h => e h.symm)]; exact h1) h2
  · rintro ⟨⟨h, hl⟩, hv⟩
    refine ⟨fun a b rw' u h1 h2 => ?_, hl⟩
    by_cases e : r = a
    · subst e
      rw [List.getElem?_set, if_pos rfl, if_pos hrl] at h1
      cases h1
      by_cases e2 : j = b
      · subst e2
        rw [List.getElem?_set, if_pos rfl, if_pos hjl] at h2
        cases h2
        exact hv
      · rw [List.getElem?_set, if_neg e2] at h2
        exact h _ b row u hr h2
    · rw [List.getElem?_set, if_neg e] at h1
      exact h a b rw' u h1 h2
theorem costOf_nn {cs : List (Option Int)} (hco : ∀ o ∈ cs, costOk o) (l : Nat) : 0 ≤ costOf cs l := by
  unfold costOf
  rw [List.getD_eq_getElem?_getD]
  cases e : cs[l]? with
  | none => simp
  | some o =>
    have := hco o (List.mem_of_getElem? e)
    cases o with
    | none => simp
    | some v => simp [costOk] at this ⊢; omega
theorem absI_nn' (i : Int) : 0 ≤ absI i := by unfold absI; split <;> omega
theorem term_le {cs : List (Option Int)} {s : Nat → Int} (hco : ∀ o ∈ cs, costOk o) : ∀ {ls : List Nat} {l : Nat}, l ∈ ls → absI (s l) * costOf cs l ≤ costF cs s ls
  | a :: ls, l, h => by
    have nn : ∀ {ls : List Nat}, 0 ≤ costF cs s ls := fun {ls} => by
      unfold costF
      induction ls with
      | nil => simp
      | cons b ls ih =>
        have := Int.mul_nonneg (absI_nn' (s b)) (costOf_nn hco b)
        simp only [List.map_cons, List.sum_cons]
        omega
    have n1 := nn (ls := ls)
    have n2 := Int.mul_nonneg (absI_nn' (s a)) (costOf_nn hco a)
    have e : costF cs s (a :: ls) = absI (s a) * costOf cs a + costF cs s ls := by simp [costF]
    rcases List.mem_cons.mp h with rfl | h
    · omega
    · have := term_le (s := s) hco h
      omega
theorem opt_small {g : Gr} {cs : List (Option Int)} {n : Nat} {s : Nat → Int} {b : Int} (B : GrB g n) (hc : cs.length = g.length) (hco : ∀ o ∈ cs, costOk o) (F : Feas g cs s) (b0 : 0 ≤ b) (hb : ∀ l, l < g.length → absI (s l) ≤ b) : ∀ l, l < g.length → absI (optF g cs n l) ≤ 14 * (b * 99) := by
  intro l hl
  obtain ⟨Fo, e⟩ := best_at B hc F
  have h1 := best_le B hc hco F
  have h2 := costF_bound (cs := cs) (s := s) (M := b) hco b0 (ls := List.range g.length) fun l hl => hb l (by simpa using hl)
  have h3 := term_le (s := optF g cs n) hco (ls := List.range g.length) (l := l) (by simpa using hl)
  have h4 := B.len
  rw [List.length_range] at h2
  have h5 : (g.length : Int) * (b * 99) ≤ 14 * (b * 99) := Int.mul_le_mul_of_nonneg_right (by omega) (by omega)
  by_cases h : cs[l]? = some none
  · rw [Fo.locked l h]; simp [absI]; omega
  · have h6 := costOf_pos hco h (by rw [hc]; exact hl)
    have h7 := Int.mul_le_mul_of_nonneg_left h6 (absI_nn' (optF g cs n l))
    omega
end
end K

namespace K
open PySem PySem.Spec PyProof.Rows L2 DL LamX GP
section
variable {Om : Type} {Ad : Adr} {om : Om}
theorem shifts_to_goal_ok {c : List (List Int)} {cs : List (Option Int)} {gl : List (List (Option Int))} {n w : Nat} (hc : c.length = n) (hn : 1 ≤ n) (hn7 : n ≤ 7) (hw : ∀ r ∈ c, r.length = w) (hw7 : w ≤ 7) (hcs : cs.length = n + w) (hco : ∀ o ∈ cs, costOk o) (vg : VG gl n w) :
    M_shifts_to_goal Ad [.tup (rowsD c), .lst .b (dOp cs), goalD gl] om = some ((match conAll (buildG c gl n w) cs with | some _ => .inr (Ad.NoSolution, []) | none => .inl (minD (buildG c gl n w) cs n)), om) := by
  have e4 := cheapest_shifts_ok (Ad := Ad) (om := om) hc hn hn7 hw hw7 hcs hco vg
  apply X_of
  unfold M_shifts_to_goal b_shifts_to_goal
  simp [wX_mk, startE, wM_eq e4]
  unfold minD
  cases hcon : conAll (buildG c gl n w) cs with
  | some p => simp [DL.isNon]
  | none => simp [DL.isNon]

theorem shift_cells_ok {c : List (List Int)} {s : List Int} {n w : Nat} {g : Tag} (hn : c.length = n) (hn7 : n ≤ 7) (hw : ∀ r ∈ c, r.length = w) (hw7 : w ≤ 7) (hs : s.length = n + w) : M_shift_cells Ad [.tup (rowsD c), .lst g (dI s)] om = some (.tup (rowsD (shC c s)), om) := by
  apply M_of
  unfold M_shift_cells b_shift_cells
  simp [wM_mk, startE]
  refine wS_walk (fun i en o => (∃ (a b : Option D) (gc : Tag), en = [some (.tup (rowsD c)), some (.lst gc (dI s)), some (.lst .o (rowsD ((shC c s).take i))), a, b, none, none]) ∧ o = om) ⟨⟨none, none, g, by simp [rowsD]⟩, rfl⟩ ?_ ?_
  · rintro i d en o hd ⟨⟨a, b, gc, rfl⟩, rfl⟩
    rw [pairsI_at] at hd
    obtain ⟨x, hx, rfl⟩ := Option.map_eq_some_iff.mp hd
    rw [rowsD_get] at hx
    obtain ⟨r, hr, rfl⟩ := Option.map_eq_some_iff.mp hx
    have hi := len_bound hr
    have hrw := hw r (List.mem_of_getElem? hr)
    have si : s[i]? = some s[i] := List.getElem?_eq_getElem (by omega)
    have si' : (dI s)[i]? = some (.int s[i]) := by rw [dI_get, si]; rfl
    simp [rowD]
    refine kLc_walk (by simp; omega) (fun j en o' acc => (∃ gc : Tag, en = [some (.tup (rowsD c)), some (.lst gc (dI s)), some (.lst .o (rowsD ((shC c s).take i))), some (.int i), some (rowD r), none, none]) ∧ o' = o ∧ acc = dI ((shR s n i r).take j)) ⟨⟨gc, by simp [rowD]⟩, rfl, by simp [dI]⟩ ?_ ?_
    · rintro j d en o' acc hd2 ⟨⟨gc, rfl⟩, rfl, rfl⟩
      rw [pairsI_at] at hd2
      obtain ⟨x, hx2, rfl⟩ := Option.map_eq_some_iff.mp hd2
      rw [dI_get] at hx2
      obtain ⟨v, hv, rfl⟩ := Option.map_eq_some_iff.mp hx2
      have hj := len_bound hv
      have sj : s[n + j]? = some s[n + j] := List.getElem?_eq_getElem (by omega)
      have sj' : (dI s)[n + j]? = some (.int s[n + j]) := by rw [dI_get, sj]; rfl
      have ej := atI_natD sj'
      have hg : (shR s n i r)[j]? = some (v + s[i] + s[n + j]) := by simp [shR, hv, si, sj]
      simp at ej
      simp [atI_natD si', hn, ej]
      rw [take_get hg]
      simp [dI]
    · rintro en o' acc ⟨⟨gc, rfl⟩, rfl, rfl⟩
      have hsr : (shC c s)[i]? = some (shR s n i r) := by simp [shC, hr, hn]
      have hlen : ((shR s n i r).take (pairsI (dI r)).length) = shR s n i r := List.take_of_length_le (by simp [shR])
      simp only [hlen]
      simp
      refine ⟨by omega, ?_⟩
      rw [take_get hsr]
      simp [rowsD, rowD]
  · rintro en o ⟨⟨a, b, gc, rfl⟩, rfl⟩
    have : (shC c s).take (pairsI (rowsD c)).length = shC c s := List.take_of_length_le (by simp [shC])
    rw [this]
    have hl : (shC c s).length = n := by simp [shC, hn]
    generalize shC c s = z at hl
    simp
theorem idx_take {α : Type} {l : List α} {i : Nat} {a : α} (h : l[i]? = some a) : (idx l).take (i + 1) = (idx l).take i ++ [(i, a)] := by
  rw [List.take_succ, idx_get, h]; rfl
theorem fm_len {α β : Type} (f : α → Option β) : ∀ l : List α, (l.filterMap f).length ≤ l.length
  | [] => by simp
  | a :: l => by
    have := fm_len f l
    rw [List.filterMap_cons]
    split <;> simp <;> omega

def stepLab (cs : List (Option Int)) (L : List Int) (G : List Nat) : List Int := if cs[anchorOf cs G]? = some none then L else setG (fun _ => ((G.headD 0 : Nat) : Int)) G L
theorem stepLab_len {cs L G} : (stepLab cs L G).length = L.length := by unfold stepLab; split; rfl; exact setG_len
def labsL (g : Gr) (cs : List (Option Int)) : List Int := (groups g).foldl (stepLab cs) (List.replicate cs.length (-1))
theorem labsTo_len {cs : List (Option Int)} : ∀ (gs : List (List Nat)) (s : List Int), (gs.foldl (stepLab cs) s).length = s.length
  | [], s => rfl
  | G :: gs, s => by rw [List.foldl_cons, labsTo_len gs, stepLab_len]
theorem labs_get {cs : List (Option Int)} {l : Nat} : ∀ {gs : List (List Nat)} {s : List Int}, gs.flatten.Nodup → l < s.length → (gs.foldl (stepLab cs) s).getD l 0 = match gs.find? (·.contains l) with
    | some G => if cs[anchorOf cs G]? = some none then s.getD l 0 else ((G.headD 0 : Nat) : Int)
    | none => s.getD l 0
  | [], s, _, _ => rfl
  | G :: gs, s, nd, h => by
    rw [List.flatten_cons, List.nodup_append] at nd
    have hl2 : l < (stepLab cs s G).length := by rw [stepLab_len]; exact h
    rw [List.foldl_cons, labs_get nd.2.1 hl2, List.find?_cons]
    have hg : (stepLab cs s G).getD l 0 = if l ∈ G then (if cs[anchorOf cs G]? = some none then s.getD l 0 else ((G.headD 0 : Nat) : Int)) else s.getD l 0 := by
      unfold stepLab
      by_cases ha : cs[anchorOf cs G]? = some none
      · simp [ha]
      · rw [if_neg ha, List.getD_eq_getElem?_getD, setG_get h, if_neg ha]; rfl
    by_cases hl : l ∈ G
    · have hn : gs.find? (·.contains l) = none := by
        rw [List.find?_eq_none]
        intro G' hG' hc
        exact nd.2.2 l hl l (List.mem_flatten.mpr ⟨G', hG', by simpa using hc⟩) rfl
      have hc : G.contains l = true := by simpa using hl
      rw [hn, hc]
      show (stepLab cs s G).getD l 0 = _
      rw [hg, if_pos hl]
    · have hc : G.contains l = false := by simpa using hl
      rw [hc]
      rw [hg, if_neg hl]
theorem labsL_get {g : Gr} {cs : List (Option Int)} {l : Nat} (GG : GOk g) (hl : l < cs.length) : (labsL g cs)[l]? = some (labOf g cs l) := by
  have h := labs_get (cs := cs) (l := l) (groups_ok GG).nd (s := List.replicate cs.length (-1)) (by simpa using hl)
  have hlen : l < (labsL g cs).length := by unfold labsL; rw [labsTo_len]; simpa using hl
  rw [List.getElem?_eq_getElem hlen]
  have e : (labsL g cs).getD l 0 = (labsL g cs)[l] := by rw [List.getD_eq_getElem?_getD, List.getElem?_eq_getElem hlen]; rfl
  rw [← e]
  have hr : (List.replicate cs.length (-1 : Int)).getD l 0 = -1 := by rw [List.getD_eq_getElem?_getD, List.getElem?_eq_getElem (by simpa using hl)]; simp
  rw [hr] at h
  show some ((groups g).foldl (stepLab cs) _ |>.getD l 0) = _
  rw [h]
  rfl
theorem dependence_labels_ok {g : Gr} {cs : List (Option Int)} (GG : GOk g) (h14 : g.length ≤ 14) (hcg : cs.length = g.length) (h1 : 1 ≤ g.length) : M_dependence_labels Ad [gD .b .b g, .lst .b (dOp cs)] om = some (.lst .o (dI (labsL g cs)), om) := by
  have eg := group_lines_ok (Ad := Ad) (om := om) GG h14 rfl rfl
  have O := groups_ok GG
  apply M_of
  unfold M_dependence_labels b_dependence_labels
  simp [wM_mk, startE, hcg]
  rw [if_pos ⟨sz_of (by omega), by omega, by omega⟩]
  simp [flat_rep, wM_eq eg]
  simp [gsD]
  refine wS_walk (fun i en o => o = om ∧ i ≤ (groups g).length ∧ ∃ (x3 x4 : Option D), en = [some (gD .b .b g), some (.lst .b (dOp cs)), some (.lst .o (dI (((groups g).take i).foldl (stepLab cs) (List.replicate cs.length (-1))))), x3, x4]) ⟨rfl, by omega, none, none, by simp [hcg, dI]⟩ ?_ ?_
  · rintro i d en o hd ⟨rfl, hi0, x3, x4, rfl⟩
    rw [List.getElem?_map] at hd
    obtain ⟨G, hG, rfl⟩ := Option.map_eq_some_iff.mp hd
    have hi := (List.getElem?_eq_some_iff.mp hG).1
    have hGm := List.mem_of_getElem? hG
    obtain ⟨f1, f2, f3⟩ := group_facts (cs := cs) GG hGm
    have ha := anchor_line_ok (Ad := Ad) (om := o) (cs := cs) (G := G) (fun l hl => by rw [hcg]; exact f2 l hl) f1
    have hal : anchorOf cs G < cs.length := by rw [hcg]; exact f2 _ (anchor_mem f1)
    have hag := cs_get (cs := cs) (t := .b) hal
    have hae : cs[anchorOf cs G]? = some cs[anchorOf cs G] := List.getElem?_eq_getElem hal
    have htk : (groups g).take (i + 1) = (groups g).take i ++ [G] := by rw [List.take_succ, hG]; rfl
    rw [htk, List.foldl_append]
    have hsl := labsTo_len (cs := cs) ((groups g).take i) (List.replicate cs.length (-1))
    generalize ((groups g).take i).foldl (stepLab cs) (List.replicate cs.length (-1)) = s at *
    have hstep : List.foldl (stepLab cs) s [G] = stepLab cs s G := rfl
    rw [hstep]
    have e0 : atI (nD G) 0 = some (.int (G.headD 0 : Nat)) := atI_natD (i := 0) (by rw [nD_get]; cases G with
      | nil => exact absurd rfl f1
      | cons a b => simp)
    simp [lD, wM_eq ha, hag]
    unfold stepLab
    rw [hae]
    generalize cs[anchorOf cs G] = ce at *
    simp at hsl
    cases ce with
    | none => simp; exact hi
    | some v =>
      generalize G.headD 0 = k0 at *
      simp
      refine wS_walk (fun j en o' => o' = o ∧ ∃ (x4 : Option D), en = [some (gD .b .b g), some (.lst .b (dOp cs)), some (.lst .o (dI (setG (fun _ => (k0 : Int)) (G.take j) s))), some (lD G), x4]) ⟨rfl, x4, by simp [setG, lD]⟩ ?_ ?_
      · rintro j d en o' hd2 ⟨rfl, x4, rfl⟩
        rw [nD_get] at hd2
        obtain ⟨k, hk, rfl⟩ := Option.map_eq_some_iff.mp hd2
        have hkG := List.mem_of_getElem? hk
        have hkl : k < (setG (fun _ => (k0 : Int)) (G.take j) s).length := by rw [setG_len, hsl, hcg]; exact f2 k hkG
        have htk2 : G.take (j + 1) = G.take j ++ [k] := by rw [List.take_succ, hk]; rfl
        have hst : setG (fun _ => (k0 : Int)) (G.take j ++ [k]) s = (setG (fun _ => (k0 : Int)) (G.take j) s).set k (k0 : Int) := by unfold setG; rw [List.foldl_append]; rfl
        rw [htk2, hst]
        generalize setG (fun _ => (k0 : Int)) (G.take j) s = s2 at *
        have hg2 : (dI s2)[k]? = some (.int s2[k]) := by rw [dI_get, List.getElem?_eq_getElem hkl]; rfl
        simp [lD, e0, ixN_nat hkl, hg2]
        simp [dI, List.map_set]
      · rintro en o' ⟨rfl, x4, rfl⟩
        have : G.take (nD G).length = G := List.take_of_length_le (by simp)
        rw [this]
        exact ⟨rfl, by omega, _, _, rfl⟩
  · rintro en o ⟨rfl, hi0, x3, x4, rfl⟩
    have : (groups g).take ((groups g).map lD).length = groups g := List.take_of_length_le (by simp)
    rw [this]
    simp [labsL]
def fcD (l : List (Nat × Nat × Int)) : List D := l.map fun p => .tup [.int (p.1 : Nat), .int (p.2.1 : Nat), .int p.2.2]
@[simp] theorem frzs_fcD {l} : frzs (fcD l) = fcD l := frzs_map fun _ => by simp
@[simp] theorem noBs_fcD {l} : noBs (fcD l) = true := noBs_map fun _ => by simp
@[simp] theorem noOs_fcD {l} : noOs (fcD l) = true := noOs_map fun _ => by simp
@[simp] theorem fcD_length {l} : (fcD l).length = l.length := by simp [fcD]
def fcCell (g : Gr) (cs : List (Option Int)) (n : Nat) (fin : List (List Int)) (i : Nat) (q : Nat × Option Int) : Option (Nat × Nat × Int) := if q.2.isNone && decide (labOf g cs i = labOf g cs (n + q.1)) then some (i, q.1, cellAt fin i q.1) else none
def fcRow (g : Gr) (cs : List (Option Int)) (n : Nat) (fin : List (List Int)) (p : Nat × List (Option Int)) : List (Nat × Nat × Int) := (idx p.2).filterMap (fcCell g cs n fin p.1)
def fcAll (g : Gr) (cs : List (Option Int)) (n : Nat) (fin : List (List Int)) (gl : List (List (Option Int))) : List (Nat × Nat × Int) := (idx gl).flatMap (fcRow g cs n fin)
theorem fc_len {g cs n fin} : ∀ (l : List (Nat × List (Option Int))), (∀ p ∈ l, p.2.length ≤ 7) → (l.flatMap (fcRow g cs n fin)).length ≤ 7 * l.length
  | [], _ => by simp
  | p :: l, h => by
    have h1 := fc_len (g := g) (cs := cs) (n := n) (fin := fin) l fun q hq => h q (List.mem_cons_of_mem _ hq)
    have h2 : (fcRow g cs n fin p).length ≤ p.2.length := Nat.le_trans (fm_len _ _) (by simp [idx_len])
    have := h p (List.mem_cons_self ..)
    rw [List.flatMap_cons, List.length_append, List.length_cons]
    omega
theorem forced_cells_ok {c rc cc gl} {n w : Nat} (hne : Ad.is_goal_entry ≠ Ad.is_cost) (h : VT c rc cc n w) (vg : VG gl n w) (hcon : conAll (buildG c gl n w) (rc ++ cc) = none) : M_forced_cells Ad [tD c rc cc, goalD gl] om = some (.inl (.lst .o (fcD (fcAll (buildG c gl n w) (rc ++ cc) n (shC c (shiftsAll (buildG c gl n w) (rc ++ cc) n)) gl))), om) := by
  have e1 := check_table_ok (Ad := Ad) (om := om) h
  have e2 := check_goal_ok (Ad := Ad) (om := om) hne h.cl h.n1 h.n7 h.rw vg
  have e3 := line_costs_ok (Ad := Ad) (om := om) h
  have hcs := h.csl
  have hco := h.co
  have hcl := h.cl
  have hn1 := h.n1
  have hn7 := h.n7
  have hw7 := h.w7
  have hrw := h.rw
  have e4 := shifts_to_goal_ok (Ad := Ad) (om := om) h.cl h.n1 h.n7 h.rw h.w7 hcs hco vg
  have eb := build_graph_ok (Ad := Ad) (om := om) h.cl h.n1 h.n7 h.rw h.w7 vg
  have B := buildG_ok (vg.sh c)
  have GG := B.gok (vg.sh c)
  have hgl := B.len
  have S := vg.sh c
  apply X_of
  unfold M_forced_cells b_forced_cells
  unfold tD at *
  generalize rc ++ cc = cs at *
  generalize buildG c gl n w = g at *
  have el := dependence_labels_ok (Ad := Ad) (om := om) (g := g) (cs := cs) GG (by omega) (by omega) (by omega)
  rw [hcon] at e4
  simp only at e4
  simp [wX_mk, startE, wX_eq e1, wX_eq e2, wM_eq e3, wX_eq e4]
  have hmin : minD g cs n = .tup [.int (costAll cs (shiftsAll g cs n)), .lst .f (dI (shiftsAll g cs n))] := by unfold minD; rw [hcon]
  rw [hmin]
  have hsl : (shiftsAll g cs n).length = n + w := by rw [shiftsAll_len, hcs]
  have esh := shift_cells_ok (Ad := Ad) (om := om) (g := .b) hcl hn7 hrw hw7 hsl
  have m1 : oIx (.tup [.int (costAll cs (shiftsAll g cs n)), .lst .f (dI (shiftsAll g cs n))]) (.int 1) = some (.lst .f (dI (shiftsAll g cs n))) := rfl
  simp [m1, wM_eq esh, wM_eq eb, wM_eq el]
  have hfl : (shC c (shiftsAll g cs n)).length = n := by simp [shC, hcl]
  have hfw : ∀ r ∈ shC c (shiftsAll g cs n), r.length = w := fun r hr => by
    obtain ⟨i, hi⟩ := List.getElem?_of_mem hr
    simp [shC] at hi
    obtain ⟨r0, h0, rfl⟩ := hi
    simp [shR, hrw r0 (List.mem_of_getElem? h0)]
  generalize shC c (shiftsAll g cs n) = fin at *
  have hlg := fun l hl => labsL_get (g := g) (cs := cs) (l := l) GG hl
  generalize labsL g cs = lb at *
  simp [goalD]
  refine wS_walk (fun i en o => o = om ∧ ∃ (x7 x8 x9 x10 : Option D) (t5 : Tag), en = [some (.tup [.tup (rowsD c), .tup (dOp rc), .tup (dOp cc)]), some (goalD gl), some (.tup (rowsD c)), some (.lst .f (dOp cs)), some (.tup (rowsD fin)), some (.lst t5 (dI lb)), some (.lst .o (fcD (((idx gl).take i).flatMap (fcRow g cs n fin)))), x7, x8, x9, x10]) ⟨rfl, none, none, none, none, .o, by simp [fcD, goalD]⟩ ?_ ?_
  · rintro i d en o hd ⟨rfl, x7, x8, x9, x10, t5, rfl⟩
    rw [pairsI_at, rowsG_get] at hd
    obtain ⟨x, hx, rfl⟩ := Option.map_eq_some_iff.mp hd
    obtain ⟨row, hrow, rfl⟩ := Option.map_eq_some_iff.mp hx
    have hi := (List.getElem?_eq_some_iff.mp hrow).1
    have hrl := S.gw row (List.mem_of_getElem? hrow)
    have hin : i < n := by have := S.gn; omega
    rw [idx_take hrow, List.flatMap_append]
    have hacc := fc_len (g := g) (cs := cs) (n := n) (fin := fin) ((idx gl).take i) (fun p hp => by
      obtain ⟨k, hk⟩ := List.getElem?_of_mem (List.mem_of_mem_take hp)
      rw [idx_get] at hk
      obtain ⟨q, hq, rfl⟩ := Option.map_eq_some_iff.mp hk
      have := S.gw q (List.mem_of_getElem? hq)
      simp; omega)
    rw [List.length_take, idx_len] at hacc
    generalize ((idx gl).take i).flatMap (fcRow g cs n fin) = acc at *
    simp
    refine wS_walk (fun j en o' => o' = o ∧ ∃ (x9 x10 : Option D) (t5 : Tag), en = [some (.tup [.tup (rowsD c), .tup (dOp rc), .tup (dOp cc)]), some (goalD gl), some (.tup (rowsD c)), some (.lst .f (dOp cs)), some (.tup (rowsD fin)), some (.lst t5 (dI lb)), some (.lst .o (fcD (acc ++ ((idx row).take j).filterMap (fcCell g cs n fin i)))), some (.int (i : Nat)), some (.tup (dOp row)), x9, x10]) ⟨rfl, x9, x10, t5, by simp⟩ ?_ ?_
    · rintro j d en o' hd2 ⟨rfl, x9, x10, t5, rfl⟩
      rw [pairsI_at, dOp_get] at hd2
      obtain ⟨x, hx, rfl⟩ := Option.map_eq_some_iff.mp hd2
      obtain ⟨e, he, rfl⟩ := Option.map_eq_some_iff.mp hx
      have hj := (List.getElem?_eq_some_iff.mp he).1
      have hjw : j < w := by omega
      rw [idx_take he, List.filterMap_append]
      have hal : (acc ++ ((idx row).take j).filterMap (fcCell g cs n fin i)).length < 1000 := by
        have := fm_len (fcCell g cs n fin i) ((idx row).take j)
        simp [idx_len] at this ⊢
        omega
      generalize (((idx row).take j).filterMap (fcCell g cs n fin i)) = a2 at *
      cases e with
      | some v => simp [oD, fcCell]
      | none =>
        have l1 := hlg i (by omega)
        have l2 := hlg (n + j) (by omega)
        have d1 : oIx (.lst t5.fz (dI lb)) (.int (i : Nat)) = some (.int (labOf g cs i)) := atI_natD (by rw [dI_get, l1]; rfl)
        have d2 : (dI lb)[n + j]? = some (.int (labOf g cs (n + j))) := by rw [dI_get, l2]; rfl
        have d3 := atI_natD d2
        simp at d1 d3
        obtain ⟨r, hr⟩ : ∃ r, fin[i]? = some r := ⟨_, List.getElem?_eq_getElem (by omega)⟩
        have hrw' := hfw r (List.mem_of_getElem? hr)
        obtain ⟨v, hv⟩ : ∃ v, r[j]? = some v := ⟨_, List.getElem?_eq_getElem (by omega)⟩
        have f1 : atI (rowsD fin) (i : Int) = some (rowD r) := atI_natD (by rw [rowsD_get, hr]; rfl)
        have f2 : atI (dI r) (j : Int) = some (.int v) := atI_natD (by rw [dI_get, hv]; rfl)
        have hcv : cellAt fin i j = v := by unfold cellAt; rw [List.getD_eq_getElem?_getD, List.getD_eq_getElem?_getD, hr]; simp [hv]
        simp [oD, d1, d3, hcl]
        split
        · rename_i hq
          simp [f1, f2, rowD, fcCell, hq, hcv]
          simp at hal
          exact ⟨by omega, by simp [fcD]⟩
        · rename_i hq
          simp [fcCell, hq]
    · rintro en o' ⟨rfl, x9, x10, t5, rfl⟩
      have : (idx row).take (pairsI (dOp row)).length = idx row := List.take_of_length_le (by simp [idx_len, pairsI, dOp])
      rw [this]
      exact ⟨rfl, some (.int (i : Nat)), some (.tup (dOp row)), x9, x10, t5, by simp [fcRow]⟩
  · rintro en o ⟨rfl, x7, x8, x9, x10, t5, rfl⟩
    have : (idx gl).take (pairsI (rowsG gl)).length = idx gl := List.take_of_length_le (by simp [idx_len, pairsI])
    rw [this]
    simp [fcAll]
end
end K

namespace K
open PySem PySem.Spec PyProof.Rows L2 DL LamX GP
section
def full (c : List (List Int)) : List (List (Option Int)) := c.map fun r => r.map some
structure Tab (c : List (List Int)) (n w : Nat) : Prop where
  len : c.length = n
  rw : ∀ r ∈ c, r.length = w
  bd : ∀ r ∈ c, ∀ x ∈ r, -1000000 ≤ x ∧ x ≤ 1000000
theorem cellAt_get {c : List (List Int)} {i j : Nat} {r : List Int} {v : Int} (h1 : c[i]? = some r) (h2 : r[j]? = some v) : cellAt c i j = v := by
  unfold cellAt
  rw [List.getD_eq_getElem?_getD, List.getD_eq_getElem?_getD, h1]
  simp [h2]
theorem full_get {d : List (List Int)} {i j : Nat} {row : List (Option Int)} {v : Int} (h1 : (full d)[i]? = some row) (h2 : row[j]? = some (some v)) : ∃ r, d[i]? = some r ∧ r[j]? = some v := by
  unfold full at h1
  rw [List.getElem?_map] at h1
  obtain ⟨r, hr, rfl⟩ := Option.map_eq_some_iff.mp h1
  rw [List.getElem?_map] at h2
  obtain ⟨x, hx, e⟩ := Option.map_eq_some_iff.mp h2
  cases e
  exact ⟨r, hr, hx⟩
theorem full_shape {c d : List (List Int)} {n w : Nat} (T : Tab d n w) : Shape c (full d) n w := ⟨by simp [full, T.len], fun row h => by
  unfold full at h
  obtain ⟨r, hr, rfl⟩ := List.mem_map.mp h
  simp [T.rw r hr]⟩
theorem feas_full {c d : List (List Int)} {cs : List (Option Int)} {n w : Nat} {s : Nat → Int} (T : Tab d n w) : Feas (buildG c (full d) n w) cs s ↔ (∀ i j : Nat, i < n → j < w → s i + s (n + j) = cellAt d i j - cellAt c i j) ∧ ∀ l : Nat, cs[l]? = some none → s l = 0 := by
  rw [feas_cells (full_shape T)]
  refine ⟨fun ⟨h, hl⟩ => ⟨fun i j hi hj => ?_, hl⟩, fun ⟨h, hl⟩ => ⟨fun i j row v h1 h2 => ?_, hl⟩⟩
  · obtain ⟨r, hr⟩ : ∃ r, d[i]? = some r := ⟨_, List.getElem?_eq_getElem (by rw [T.len]; exact hi)⟩
    have hw := T.rw r (List.mem_of_getElem? hr)
    obtain ⟨v, hv⟩ : ∃ v, r[j]? = some v := ⟨_, List.getElem?_eq_getElem (by rw [hw]; exact hj)⟩
    rw [cellAt_get hr hv]
    exact h i j (r.map some) v (by simp [full, hr]) (by simp [hv])
  · obtain ⟨r, hr, hv⟩ := full_get h1 h2
    have hi := (List.getElem?_eq_some_iff.mp hr).1
    have hj := (List.getElem?_eq_some_iff.mp hv).1
    rw [T.len] at hi
    rw [T.rw r (List.mem_of_getElem? hr)] at hj
    rw [h i j hi hj, cellAt_get hr hv]
theorem full_grB {c d : List (List Int)} {n w : Nat} (C : Tab c n w) (T : Tab d n w) (h14 : n + w ≤ 14) : GrB (buildG c (full d) n w) n :=
  grB_build (full_shape T) C.bd (fun row h v hv => by
    unfold full at h
    obtain ⟨r, hr, rfl⟩ := List.mem_map.mp h
    obtain ⟨x, hx, e⟩ := List.mem_map.mp hv
    cases e
    exact T.bd r hr _ hx) h14
theorem full_len {c d : List (List Int)} {n w : Nat} (T : Tab d n w) : (buildG c (full d) n w).length = n + w := (buildG_ok (full_shape T)).len
section
variable {c d e : List (List Int)} {cs : List (Option Int)} {n w : Nat} {s t : Nat → Int}
theorem back_le (C : Tab c n w) (T : Tab d n w) (h14 : n + w ≤ 14) (hcs : cs.length = n + w) (hco : ∀ o ∈ cs, costOk o) : bestC (buildG d (full c) n w) cs n ≤ bestC (buildG c (full d) n w) cs n := by
  refine best_mono (full_grB C T h14) (full_grB T C h14) (by rw [full_len T]; exact hcs) (by rw [full_len C]; exact hcs) hco fun s F => ⟨fun l => - s l, ?_, ?_⟩
  · rw [feas_full C]
    obtain ⟨h, hl⟩ := (feas_full T).mp F
    exact ⟨fun i j hi hj => by have := h i j hi hj; omega, fun l h => by have := hl l h; omega⟩
  · rw [full_len C, full_len T, costF_neg]
    exact Int.le_refl _
theorem back_eq (C : Tab c n w) (T : Tab d n w) (h14 : n + w ≤ 14) (hcs : cs.length = n + w) (hco : ∀ o ∈ cs, costOk o) : bestC (buildG c (full d) n w) cs n = bestC (buildG d (full c) n w) cs n :=
  Int.le_antisymm (back_le T C h14 hcs hco) (back_le C T h14 hcs hco)
theorem tri_le (C : Tab c n w) (T : Tab d n w) (E : Tab e n w) (h14 : n + w ≤ 14) (hcs : cs.length = n + w) (hco : ∀ o ∈ cs, costOk o) (F1 : Feas (buildG c (full d) n w) cs s) (F2 : Feas (buildG d (full e) n w) cs t) :
    bestC (buildG c (full e) n w) cs n ≤ bestC (buildG c (full d) n w) cs n + bestC (buildG d (full e) n w) cs n := by
  obtain ⟨G1, e1⟩ := best_at (full_grB C T h14) (by rw [full_len T]; exact hcs) F1
  obtain ⟨G2, e2⟩ := best_at (full_grB T E h14) (by rw [full_len E]; exact hcs) F2
  rw [e1, e2, full_len T, full_len E]
  refine Int.le_trans ?_ (costF_add hco)
  have := best_le (s := fun l => optF (buildG c (full d) n w) cs n l + optF (buildG d (full e) n w) cs n l) (full_grB C E h14) (by rw [full_len E]; exact hcs) hco (by
    rw [feas_full E]
    obtain ⟨h1, l1⟩ := (feas_full T).mp G1
    obtain ⟨h2, l2⟩ := (feas_full E).mp G2
    exact ⟨fun i j hi hj => by have := h1 i j hi hj; have := h2 i j hi hj; omega, fun l h => by have := l1 l h; have := l2 l h; omega⟩)
  rw [full_len E] at this
  exact this
/-- one more open cell -/
theorem open_le {gl : List (List (Option Int))} {r j : Nat} {row : List (Option Int)} (S : Shape c gl n w) (B : GrB (buildG c gl n w) n) (S' : Shape c (gl.set r (row.set j none)) n w) (B' : GrB (buildG c (gl.set r (row.set j none)) n w) n) (hr : gl[r]? = some row) (hcs : cs.length = n + w) (hco : ∀ o ∈ cs, costOk o) :
    bestC (buildG c (gl.set r (row.set j none)) n w) cs n ≤ bestC (buildG c gl n w) cs n := by
  have l1 := (buildG_ok S).len
  have l2 := (buildG_ok S').len
  refine best_mono B B' (by rw [l1]; exact hcs) (by rw [l2]; exact hcs) hco fun s F => ⟨s, ?_, by rw [l1, l2]; exact Int.le_refl _⟩
  rw [feas_cells S'] 
  obtain ⟨h, hl⟩ := (feas_cells S).mp F
  refine ⟨fun a b rw' v h1 h2 => ?_, hl⟩
  rw [List.getElem?_set] at h1
  split at h1
  · rename_i e
    subst e
    split at h1
    · cases h1
      rw [List.getElem?_set] at h2
      split at h2
      · split at h2 <;> cases h2
      · exact h r b row v hr h2
    · cases h1
  · exact h a b rw' v h1 h2
/-- one more locked line -/
theorem lock_ge {g : Gr} {k : Nat} (B : GrB g n) (hc : cs.length = g.length) (hco : ∀ o ∈ cs, costOk o) : bestC g cs n ≤ bestC g (cs.set k none) n := by
  refine best_mono B B (by simpa using hc) hc hco fun s F => ⟨s, ⟨F.keeps, fun l h => ?_⟩, ?_⟩
  · refine F.locked l ?_
    rw [List.getElem?_set]
    split
    · rename_i e
      subst e
      have := (List.getElem?_eq_some_iff.mp h).1
      simp [this]
    · exact h
  · unfold costF
    refine Int.le_of_eq (congrArg List.sum (List.map_congr_left fun l hl => ?_))
    by_cases e : k = l
    · subst e
      have hk : k < cs.length := by rw [hc]; simpa using hl
      rw [F.locked k (by simp [hk])]
      simp [absI]
    · unfold costOf
      rw [List.getD_eq_getElem?_getD, List.getD_eq_getElem?_getD, List.getElem?_set, if_neg e]
end
theorem shC_rows {c : List (List Int)} {s : List Int} {n w : Nat} {B b : Int} (cl : c.length = n) (rows : ∀ r ∈ c, r.length = w ∧ ∀ x ∈ r, -B ≤ x ∧ x ≤ B) (hs : s.length = n + w) (hb : ∀ x ∈ s, -b ≤ x ∧ x ≤ b) : ∀ r ∈ shC c s, r.length = w ∧ ∀ x ∈ r, -(B + 2 * b) ≤ x ∧ x ≤ B + 2 * b := by
  intro r hr
  obtain ⟨i, hi⟩ := List.getElem?_of_mem hr
  simp [shC] at hi
  obtain ⟨r0, h0, rfl⟩ := hi
  have hr0 := rows r0 (List.mem_of_getElem? h0)
  have hil := (List.getElem?_eq_some_iff.mp h0).1
  refine ⟨by simp [shR, hr0.1], fun x hx => ?_⟩
  obtain ⟨j, hj⟩ := List.getElem?_of_mem hx
  simp [shR] at hj
  obtain ⟨v, hv, rfl⟩ := hj
  have hvb := hr0.2 v (List.mem_of_getElem? hv)
  have hjl := (List.getElem?_eq_some_iff.mp hv).1
  have b1 := hb (s[i]'(by omega)) (List.getElem_mem _)
  have b2 := hb (s[n + j]'(by omega)) (List.getElem_mem _)
  simp [cl, List.getElem?_eq_getElem (show i < s.length by omega), List.getElem?_eq_getElem (show n + j < s.length by omega)]
  omega
theorem shC_cell {c : List (List Int)} {s : List Int} {n w i j : Nat} (cl : c.length = n) (rw' : ∀ r ∈ c, r.length = w) (hi : i < n) (hj : j < w) : cellAt (shC c s) i j = cellAt c i j + s.getD i 0 + s.getD (n + j) 0 := by
  obtain ⟨r, hr⟩ : ∃ r, c[i]? = some r := ⟨_, List.getElem?_eq_getElem (by omega)⟩
  have hw := rw' r (List.mem_of_getElem? hr)
  obtain ⟨v, hv⟩ : ∃ v, r[j]? = some v := ⟨_, List.getElem?_eq_getElem (by omega)⟩
  rw [cellAt_get hr hv, cellAt_get (c := shC c s) (r := shR s c.length i r) (v := v + s.getD i 0 + s.getD (n + j) 0) (by simp [shC, hr]) (by simp [shR, hv, cl])]
theorem shC_tab {c : List (List Int)} {s : List Int} {n w : Nat} {B b : Int} (cl : c.length = n) (rows : ∀ r ∈ c, r.length = w ∧ ∀ x ∈ r, -B ≤ x ∧ x ≤ B) (hs : s.length = n + w) (hb : ∀ x ∈ s, -b ≤ x ∧ x ≤ b) (h : B + 2 * b ≤ 1000000) : Tab (shC c s) n w :=
  ⟨by simp [shC, cl], fun r hr => (shC_rows cl rows hs hb r hr).1, fun r hr x hx => by have := (shC_rows cl rows hs hb r hr).2 x hx; omega⟩
theorem shC_feas {c : List (List Int)} {cs : List (Option Int)} {s : List Int} {n w : Nat} (cl : c.length = n) (rw' : ∀ r ∈ c, r.length = w) (T : Tab (shC c s) n w) (hz : ∀ l : Nat, cs[l]? = some none → s.getD l 0 = 0) : Feas (buildG c (full (shC c s)) n w) cs (fun l => s.getD l 0) := by
  rw [feas_full T]
  exact ⟨fun i j hi hj => by rw [shC_cell cl rw' hi hj]; omega, hz⟩
theorem VT.tab {c rc cc} {n w : Nat} (h : VT c rc cc n w) : Tab c n w := ⟨h.cl, h.rw, fun r hr => (h.rows r hr).2⟩
theorem VT.swap {c d rc cc} {n w : Nat} (h : VT c rc cc n w) (T : Tab d n w) : VT d rc cc n w := ⟨T.len, h.n1, h.n7, h.w1, h.w7, fun r hr => ⟨T.rw r hr, T.bd r hr⟩, h.rl, h.ccl, h.co⟩
theorem full_vg {d : List (List Int)} {n w : Nat} (T : Tab d n w) : VG (full d) n w := ⟨fun c => full_shape T, fun row h v hv => by
  unfold full at h
  obtain ⟨r, hr, rfl⟩ := List.mem_map.mp h
  obtain ⟨x, hx, e⟩ := List.mem_map.mp hv
  cases e
  exact T.bd r hr _ hx⟩
end
end K

namespace K
open PySem PySem.Spec PyProof.Rows L2 DL LamX GP
section
theorem idx_mem {α : Type} {l : List α} {i : Nat} {a : α} : (i, a) ∈ idx l ↔ l[i]? = some a := by
  constructor
  · intro h
    obtain ⟨k, hk⟩ := List.getElem?_of_mem h
    rw [idx_get] at hk
    obtain ⟨b, hb, e⟩ := Option.map_eq_some_iff.mp hk
    cases e
    exact hb
  · intro h
    refine List.mem_of_getElem? (i := i) ?_
    rw [idx_get, h]; rfl
theorem idx_lt {α : Type} {l : List α} : (idx l).Pairwise fun a b => a.1 < b.1 := by
  rw [List.pairwise_iff_getElem]
  intro i j hi hj h
  simpa [idx] using h
def toT (p : Nat × Nat × Int) : Tri := ((p.1 : Int), (p.2.1 : Int), p.2.2)
def trsD (l : List Tri) : List D := l.map triD
@[simp] theorem frzs_trsD {l} : frzs (trsD l) = trsD l := frzs_map fun _ => frz_triD
@[simp] theorem lends_trsD {l} : lends (trsD l) = trsD l := lends_map fun _ => lend_triD
@[simp] theorem noBs_trsD {l} : noBs (trsD l) = true := noBs_map fun _ => noB_triD
@[simp] theorem noOs_trsD {l} : noOs (trsD l) = true := noOs_map fun _ => noO_triD
@[simp] theorem trsD_length {l} : (trsD l).length = l.length := by simp [trsD]
theorem trsD_get {l : List Tri} {i : Nat} : (trsD l)[i]? = l[i]?.map triD := by simp [trsD]
@[simp] theorem cSorted3_trs {g l} : cSorted3 [.lst g (trsD l)] = some (.lst .o (trsD (sort3 l))) := by
  rw [cSorted3_at]; unfold trsD; rw [trisOf_map]; rfl
theorem oNe_trs {g g' : Tag} {l : List Tri} : oNe (.lst g (trsD l)) (.lst g' (trsD l)) = some (.bl false) := oNe_tris
theorem oInP_trs {g : Tag} {a b v : Int} {l : List Tri} : oInP (.tup [.int a, .int b, .int v]) (.lst g (trsD l)) = some (.bl (decide ((a, b, v) ∈ l))) := oInP_tris (p := (a, b, v))
theorem fcD_tri {l : List (Nat × Nat × Int)} : fcD l = trsD (l.map toT) := by
  unfold fcD trsD; rw [List.map_map]; rfl
section
variable {g : Gr} {cs : List (Option Int)} {n : Nat} {fin : List (List Int)} {gl : List (List (Option Int))}
theorem fcAll_mem {i j : Nat} {v : Int} : (i, j, v) ∈ fcAll g cs n fin gl ↔ ∃ row, gl[i]? = some row ∧ row[j]? = some none ∧ labOf g cs i = labOf g cs (n + j) ∧ v = cellAt fin i j := by
  unfold fcAll fcRow
  simp only [List.mem_flatMap, List.mem_filterMap]
  constructor
  · rintro ⟨⟨a, row⟩, h1, ⟨b, e⟩, h2, h3⟩
    unfold fcCell at h3
    split at h3
    · rename_i hc
      cases h3
      simp only [Bool.and_eq_true, decide_eq_true_eq] at hc
      rw [idx_mem] at h1 h2
      cases e with
      | none => exact ⟨row, h1, h2, hc.2, rfl⟩
      | some x => simp at hc
    · cases h3
  · rintro ⟨row, h1, h2, h3, rfl⟩
    exact ⟨(i, row), idx_mem.mpr h1, (j, none), idx_mem.mpr h2, by simp [fcCell, h3]⟩
theorem fcAll_sorted : Srt3 ((fcAll g cs n fin gl).map toT) := by
  unfold Srt3 SrtO.Srtd
  rw [List.pairwise_map]
  unfold fcAll
  rw [List.pairwise_flatMap]
  have form : ∀ {p : Nat × List (Option Int)} {x}, x ∈ fcRow g cs n fin p → x.1 = p.1 := fun {p x} h => by
    unfold fcRow at h
    obtain ⟨q, _, hq⟩ := List.mem_filterMap.mp h
    unfold fcCell at hq
    split at hq <;> cases hq
    rfl
  refine ⟨fun p _ => ?_, idx_lt.imp fun {a b} hab x hx y hy => ?_⟩
  · unfold fcRow
    rw [List.pairwise_filterMap]
    refine idx_lt.imp fun {a b} hab x hx y hy => ?_
    unfold fcCell at hx hy
    split at hx <;> cases hx
    split at hy <;> cases hy
    rw [lex3_no]
    simp only [toT]
    omega
  · have e1 := form hx
    have e2 := form hy
    rw [lex3_no]
    simp only [toT]
    omega
theorem sort3_fc : sort3 ((fcAll g cs n fin gl).map toT) = (fcAll g cs n fin gl).map toT := sorted3_uniq (sort3_sorted _) fcAll_sorted (sort3_perm _)
theorem mem_toT {i j : Nat} {v : Int} {l : List (Nat × Nat × Int)} : ((i : Int), (j : Int), v) ∈ l.map toT ↔ (i, j, v) ∈ l := by
  rw [List.mem_map]
  constructor
  · rintro ⟨⟨a, b, u⟩, h, e⟩
    simp only [toT, Prod.mk.injEq] at e
    obtain ⟨e1, e2, e3⟩ := e
    have e1 : a = i := by omega
    have e2 : b = j := by omega
    subst e1 e2 e3
    exact h
  · exact fun h => ⟨_, h, rfl⟩
theorem fcAll_full {d : List (List Int)} : fcAll g cs n fin (full d) = [] := by
  rw [List.eq_nil_iff_forall_not_mem]
  rintro ⟨i, j, v⟩ h
  obtain ⟨row, h1, h2, _⟩ := fcAll_mem.mp h
  unfold full at h1
  rw [List.getElem?_map] at h1
  obtain ⟨r, _, rfl⟩ := Option.map_eq_some_iff.mp h1
  rw [List.getElem?_map] at h2
  obtain ⟨x, _, e⟩ := Option.map_eq_some_iff.mp h2
  cases e
end
/-- what the cheapest shifts make of the cells -/
theorem fin_cell {c : List (List Int)} {g : Gr} {cs : List (Option Int)} {n w i j : Nat} (GG : GOk g) (cl : c.length = n) (rw' : ∀ r ∈ c, r.length = w) (hcs : cs.length = n + w) (hi : i < n) (hj : j < w) : cellAt (shC c (shiftsAll g cs n)) i j = cellAt c i j + optF g cs n i + optF g cs n (n + j) := by
  rw [shC_cell cl rw' hi hj, shiftsAll_get GG (by omega), shiftsAll_get GG (by omega)]
end
end K

namespace K
open PySem PySem.Spec PyProof.Rows L2 DL LamX GP
section
section
variable {c : List (List Int)} {gl : List (List (Option Int))} {cs : List (Option Int)} {n w r j : Nat} {row : List (Option Int)} {s u : Nat → Int}
theorem vg_set {x : Option Int} (vg : VG gl n w) (hr : gl[r]? = some row) (hx : ∀ v, x = some v → -1000000 ≤ v ∧ v ≤ 1000000) : VG (gl.set r (row.set j x)) n w := ⟨fun c => set_shape (vg.sh c) hr, fun row' h v hv' => by
  rcases List.mem_or_eq_of_mem_set h with h | rfl
  · exact vg.vals _ h v hv'
  · rcases List.mem_or_eq_of_mem_set hv' with h' | h'
    · exact vg.vals _ (List.mem_of_getElem? hr) v h'
    · exact hx v h'.symm⟩
/-- opened: reached still, for no more -/
theorem open_facts (vg : VG gl n w) (hc : ∀ r ∈ c, ∀ x ∈ r, -1000000 ≤ x ∧ x ≤ 1000000) (h14 : n + w ≤ 14) (hr : gl[r]? = some row) (hcs : cs.length = n + w) (hco : ∀ o ∈ cs, costOk o) (F : Feas (buildG c gl n w) cs s) :
    conAll (buildG c (gl.set r (row.set j none)) n w) cs = none ∧ bestC (buildG c (gl.set r (row.set j none)) n w) cs n ≤ bestC (buildG c gl n w) cs n := by
  have vg' : VG (gl.set r (row.set j none)) n w := vg_set vg hr (fun v h => by cases h)
  have B := grB_build (vg.sh c) hc vg.vals h14
  have B' := grB_build (vg'.sh c) hc vg'.vals h14
  have l1 := (buildG_ok (vg.sh c)).len
  have l2 := (buildG_ok (vg'.sh c)).len
  refine ⟨?_, open_le (vg.sh c) B (vg'.sh c) B' hr hcs hco⟩
  refine feas_none (s := s) B'.ok B'.sd ?_
  rw [feas_cells (vg'.sh c)]
  obtain ⟨h, hl⟩ := (feas_cells (vg.sh c)).mp F
  refine ⟨fun a b rw' v h1 h2 => ?_, hl⟩
  by_cases e : r = a
  · subst e
    rw [List.getElem?_set, if_pos rfl, if_pos (List.getElem?_eq_some_iff.mp hr).1] at h1
    cases h1
    by_cases e2 : j = b
    · subst e2
      rw [List.getElem?_set, if_pos rfl] at h2
      split at h2 <;> cases h2
    · rw [List.getElem?_set, if_neg e2] at h2
      exact h _ b row v hr h2
  · rw [List.getElem?_set, if_neg e] at h1
    exact h a b rw' v h1 h2
/-- closed by what the cheapest shifts make of it -/
theorem close_same (vg : VG gl n w) (hc : ∀ r ∈ c, ∀ x ∈ r, -1000000 ≤ x ∧ x ≤ 1000000) (h14 : n + w ≤ 14) (hr : gl[r]? = some row) (hj : row[j]? = some none) (hcs : cs.length = n + w) (hco : ∀ o ∈ cs, costOk o) (F : Feas (buildG c gl n w) cs s) {v : Int} (hv : v = cellAt c r j + optF (buildG c gl n w) cs n r + optF (buildG c gl n w) cs n (n + j)) (hvb : -1000000 ≤ v ∧ v ≤ 1000000) :
    conAll (buildG c (gl.set r (row.set j (some v))) n w) cs = none ∧ bestC (buildG c (gl.set r (row.set j (some v))) n w) cs n = bestC (buildG c gl n w) cs n := by
  have vg' : VG (gl.set r (row.set j (some v))) n w := vg_set vg hr (fun x h => by cases h; exact hvb)
  have B := grB_build (vg.sh c) hc vg.vals h14
  have B' := grB_build (vg'.sh c) hc vg'.vals h14
  have l1 := (buildG_ok (vg.sh c)).len
  have l2 := (buildG_ok (vg'.sh c)).len
  obtain ⟨Fo, e⟩ := best_at B (by rw [l1]; exact hcs) F
  have F' : Feas (buildG c (gl.set r (row.set j (some v))) n w) cs (optF (buildG c gl n w) cs n) := (feas_close (vg.sh c) hr hj).mpr ⟨Fo, by rw [hv]; omega⟩
  refine ⟨feas_none B'.ok B'.sd F', Int.le_antisymm ?_ ?_⟩
  · have := best_le B' (by rw [l2]; exact hcs) hco F'
    rw [e, l1]
    rw [l2] at this
    exact this
  · refine best_mono B' B (by rw [l2]; exact hcs) (by rw [l1]; exact hcs) hco fun s' F2 => ⟨s', ((feas_close (vg.sh c) hr hj).mp F2).1, by rw [l1, l2]; exact Int.le_refl _⟩
/-- closed by another value -/
theorem close_other (vg : VG gl n w) (hc : ∀ r ∈ c, ∀ x ∈ r, -1000000 ≤ x ∧ x ≤ 1000000) (h14 : n + w ≤ 14) (hr : gl[r]? = some row) (hj : row[j]? = some none) (hcs : cs.length = n + w) (F : Feas (buildG c gl n w) cs u) {v : Int} (hv : v ≠ cellAt c r j + u r + u (n + j)) (hvb : -1000000 ≤ v ∧ v ≤ 1000000) :
    conAll (buildG c (gl.set r (row.set j (some v))) n w) cs = none ↔ labOf (buildG c gl n w) cs r ≠ labOf (buildG c gl n w) cs (n + j) := by
  have vg' : VG (gl.set r (row.set j (some v))) n w := vg_set vg hr (fun x h => by cases h; exact hvb)
  have B := grB_build (vg.sh c) hc vg.vals h14
  have B' := grB_build (vg'.sh c) hc vg'.vals h14
  have l1 := (buildG_ok (vg.sh c)).len
  have l2 := (buildG_ok (vg'.sh c)).len
  have hrn : r < n := by have := (List.getElem?_eq_some_iff.mp hr).1; rw [(vg.sh c).gn] at this; exact this
  have hjw : j < w := by have := (List.getElem?_eq_some_iff.mp hj).1; rw [(vg.sh c).gw row (List.mem_of_getElem? hr)] at this; exact this
  rw [con_iff B'.ok B'.sd (by rw [l2]; exact hcs)]
  constructor
  · rintro ⟨s', F2⟩ e
    obtain ⟨F3, h3⟩ := (feas_close (vg.sh c) hr hj).mp F2
    have := lab_same B.ok B.sd (by omega) (by omega) hrn (by omega) e F3 F
    omega
  · intro e
    obtain ⟨s', F2, h2⟩ := lab_free B.ok B.sd (by omega) (by omega) hrn (by omega) e F (v - (cellAt c r j + u r + u (n + j)))
    exact ⟨s', (feas_close (vg.sh c) hr hj).mpr ⟨F2, by omega⟩⟩
/-- the full goal -/
theorem full_facts {d : List (List Int)} (T : Tab d n w) (hcs : cs.length = n + w) (h : ∀ i j : Nat, i < n → j < w → cellAt d i j = cellAt c i j + u i + u (n + j)) (hl : ∀ l : Nat, cs[l]? = some none → u l = 0) : conAll (buildG c (full d) n w) cs = none := by
  have S := full_shape (c := c) T
  refine feas_none (s := u) ((buildG_ok S).gok S) (sided_build S) ((feas_full T).mpr ⟨fun i j hi hj => by have := h i j hi hj; omega, hl⟩)
end
end
end K

namespace K
open PySem PySem.Spec PyProof.Rows L2 DL LamX GP
section
variable {Om : Type} {Ad : Adr} {om : Om}
def costD (c : List (List Int)) (rc cc : List (Option Int)) (gl : List (List (Option Int))) : D := minD (buildG c gl rc.length cc.length) (rc ++ cc) rc.length
theorem minimum_cost_ok {c rc cc gl} {n w : Nat} (hne : Ad.is_goal_entry ≠ Ad.is_cost) (h : VT c rc cc n w) (vg : VG gl n w) : M_minimum_cost Ad [tD c rc cc, goalD gl] om = some (.inl (costD c rc cc gl), om) := by
  have e1 := check_table_ok (Ad := Ad) (om := om) h
  have e2 := check_goal_ok (Ad := Ad) (om := om) hne h.cl h.n1 h.n7 h.rw vg
  have e3 := line_costs_ok (Ad := Ad) (om := om) h
  have e4 := cheapest_shifts_ok (Ad := Ad) (om := om) h.cl h.n1 h.n7 h.rw h.w7 h.csl h.co vg
  apply X_of
  unfold M_minimum_cost b_minimum_cost costD
  unfold tD at *
  have ea : dOp (rc ++ cc) = dOp rc ++ dOp cc := by simp [dOp]
  rw [ea] at e3 e4
  simp [wX_mk, startE, wX_eq e1, wX_eq e2, wM_eq e3, wM_eq e4, h.rl, h.ccl]
end
end K

namespace K
open PySem PySem.Spec PyProof.Rows L2 DL LamX GP
section
variable {Om : Type} {Ad : Adr} {om : Om}
theorem costD_eq {c rc cc gl} {n w : Nat} (h : VT c rc cc n w) : costD c rc cc gl = minD (buildG c gl n w) (rc ++ cc) n := by
  unfold costD; rw [h.rl, h.ccl]
end
end K

namespace K
open PySem PySem.Spec PyProof.Rows L2 DL LamX GP
section
variable {Ad : Adr} {om : DSh}
theorem oAdd_t {a b : List D} (h : a.length + b.length ≤ 1000) : oAdd (.tup a) (.tup b) = some (.tup (a ++ b)) := oAdd_t' h
theorem opened_ok {gl : List (List (Option Int))} {r j : Nat} {row : List (Option Int)} {x : Option Int} (hr : gl[r]? = some row) (hj : j < row.length) (h1 : gl.length ≤ 400) (h2 : row.length ≤ 400) : M__law_opened Ad [goalD gl, .int (r : Nat), .int (j : Nat), oD x] om = some (goalD (gl.set r (row.set j x)), om) := by
  apply M_of
  unfold M__law_opened b__law_opened
  have hrl := (List.getElem?_eq_some_iff.mp hr).1
  have e0 : oIx (goalD gl) (.int (r : Nat)) = some (.tup (dOp row)) := atI_natD (by rw [rowsG_get, hr]; rfl)
  have ed : goalD (gl.set r (row.set j x)) = .tup ((rowsG gl).take r ++ .tup ((dOp row).take j ++ oD x :: (dOp row).drop (j + 1)) :: (rowsG gl).drop (r + 1)) := by
    rw [set_mid (by simpa using hrl), set_mid (by simpa [dOp] using hj)]
    unfold goalD rowsG
    rw [List.map_set]
    simp [dOp, List.map_set]
  rw [ed]
  have fx : frz (oD x) = oD x ∧ noB (oD x) = true := by cases x <;> simp [oD]
  simp [wM_mk, startE, e0]
  unfold goalD
  simp [cut_lo, cut_hi, take_dOp, drop_dOp, take_rG, drop_rG, fx]
  rw [oAdd_t (by simp [dOp]; omega)]
  simp
  rw [oAdd_t (by simp [dOp]; omega)]
  simp [fx]
  rw [oAdd_t (by simp; omega)]
  simp
  rw [oAdd_t (by simp; omega)]
  simp [fx]
theorem law_math {out : Addr → List (Str × V) → Option D} (hne : Ad.is_goal_entry ≠ Ad.is_cost) (h0 : HOk om) :
    wS (b_law Ad out) (fun o _ _ => o = .rt (.bl true)) ((List.replicate 15 none).set 1 (some (.opq Ad.sA))) om := by
  unfold b_law
  simp [List.replicate, small_of (show -1000000 ≤ (3 : Int) ∧ (3 : Int) ≤ 1000000 by omega)]
  refine wS_walk (fun i en o => HOk o ∧ ∃ x2 x3 x4 x5 x6 x7 x8 x9 x10 x11 x12 x13 x14, en = [none, some (.opq Ad.sA), x2, x3, x4, x5, x6, x7, x8, x9, x10, x11, x12, x13, x14]) ⟨h0, none, none, none, none, none, none, none, none, none, none, none, none, none, rfl⟩ ?_ ?_
  · rintro i d en o hd ⟨ho, x2, x3, x4, x5, x6, x7, x8, x9, x10, x11, x12, x13, x14, rfl⟩
    simp
    refine table_ok (by omega) (by omega) ho fun c rc cc n w om2 hv hb h2 => ?_
    have ft := tD_fz' (c := c) (rc := rc) (cc := cc)
    simp [ft]
    refine goal_ok hv hb h2 fun gl om3 vg hs3 h3 => ?_
    obtain ⟨s, hsl, hsb, hsz, M⟩ := hs3 rfl
    have hn1 := hv.n1
    have hn7 := hv.n7
    have hw1 := hv.w1
    have hw7 := hv.w7
    have S := vg.sh c
    have F0 := moved_feas vg hsz M
    have GG := (buildG_ok S).gok S
    have hs := sided_build S
    have hgl := (buildG_ok S).len
    have em := fun (om : DSh) => minimum_cost_ok (Ad := Ad) (om := om) hne hv vg
    simp only [costD_eq hv] at em
    have hcs := hv.csl
    have hco := hv.co
    have B : GrB (buildG c gl n w) n := grB_build S (fun r hr => (hv.rows r hr).2) vg.vals (by omega)
    have hcon := feas_none GG hs F0
    have hcg : (rc ++ cc).length = (buildG c gl n w).length := by omega
    have ef := fun (om : DSh) => forced_cells_ok (Ad := Ad) (om := om) hne hv vg hcon
    have hmin : minD (buildG c gl n w) (rc ++ cc) n = .tup [.int (costAll (rc ++ cc) (shiftsAll (buildG c gl n w) (rc ++ cc) n)), .lst .f (dI (shiftsAll (buildG c gl n w) (rc ++ cc) n))] := by unfold minD; rw [hcon]
    rw [hmin] at em
    have hshl : (shiftsAll (buildG c gl n w) (rc ++ cc) n).length = n + w := by rw [shiftsAll_len, hcs]
    have esh := fun (om : DSh) => law_shifted_ok (Ad := Ad) (om := om) (g := .b) hv.cl hn1 hn7 hv.rw hw7 hshl
    have t0 : oIx (tD c rc cc) (.int 0) = some (.tup (rowsD c)) := by simp [tD]
    simp [ft, wX_eq (em _), t0, wM_eq (esh _), wX_eq (ef _)]
    have hbd : ∀ r ∈ c, ∀ x ∈ r, -1000000 ≤ x ∧ x ≤ 1000000 := fun r hr => (hv.rows r hr).2
    obtain ⟨Fo, ebest⟩ := best_at B hcg F0
    have hu := opt_small (b := 5) B hcg hco F0 (by omega) (fun l hl => by
      rw [absI_le]
      have hl2 : l < s.length := by omega
      have := hsb (s[l]) (List.getElem_mem hl2)
      show -5 ≤ s.getD l 0 ∧ s.getD l 0 ≤ 5
      rw [List.getD_eq_getElem?_getD, List.getElem?_eq_getElem hl2]
      exact this)
    have hfin := fun a b (ha : a < n) (hb : b < w) => fin_cell (c := c) (g := buildG c gl n w) (cs := rc ++ cc) GG hv.cl hv.rw hcs ha hb
    have hfl : (shC c (shiftsAll (buildG c gl n w) (rc ++ cc) n)).length = n := by simp [shC, hv.cl]
    have hsb2 : ∀ x ∈ shiftsAll (buildG c gl n w) (rc ++ cc) n, -6930 ≤ x ∧ x ≤ 6930 := fun x hx => by
      obtain ⟨l, hl⟩ := List.getElem?_of_mem hx
      have h1 := (List.getElem?_eq_some_iff.mp hl).1
      have h2 := shiftsAll_get (n := n) GG (cs := rc ++ cc) (l := l) (by omega)
      rw [List.getD_eq_getElem?_getD, hl] at h2
      have h3 := hu l (by omega)
      rw [absI_le] at h3
      have h4 : x = optF (buildG c gl n w) (rc ++ cc) n l := h2
      omega
    have T := shC_tab (c := c) (w := w) (B := 9) (b := 6930) hv.cl (fun r hr => ⟨hv.rw r hr, hb r hr⟩) hshl hsb2 (by omega)
    have hbst : costAll (rc ++ cc) (shiftsAll (buildG c gl n w) (rc ++ cc) n) = bestC (buildG c gl n w) (rc ++ cc) n := by unfold bestC; rw [hcon]
    rw [hbst]
    have hfb : ∀ a b, a < n → b < w → -100000 ≤ cellAt (shC c (shiftsAll (buildG c gl n w) (rc ++ cc) n)) a b ∧ cellAt (shC c (shiftsAll (buildG c gl n w) (rc ++ cc) n)) a b ≤ 100000 := fun a b ha hb' => by
      rw [hfin a b ha hb']
      have h1 := hu a (by omega)
      have h2 := hu (n + b) (by omega)
      have h3 := cellAt_bound (M := 9) (by omega) hb a b
      rw [absI_le] at h1 h2
      omega
    generalize shiftsAll (buildG c gl n w) (rc ++ cc) n = shf at *
    generalize hfi : shC c shf = fin at *
    have eo := fun {gl2} (vg2 : VG gl2 n w) (om : DSh) => by
      have := minimum_cost_ok (Ad := Ad) (om := om) hne hv vg2
      rw [costD_eq hv] at this
      exact this
    have efull := full_facts (c := c) (cs := rc ++ cc) (n := n) (w := w) (u := optF (buildG c gl n w) (rc ++ cc) n) T hcs hfin Fo.locked
    have eff := fun (om : DSh) => forced_cells_ok (Ad := Ad) (om := om) hne hv (full_vg T) efull
    have emf := fun (om : DSh) => eo (full_vg T) om
    simp only [fcAll_full] at eff
    have gz : cLen [goalD gl] = some (.int n) := by simp [goalD, S.gn]
    generalize hcse : rc ++ cc = cs at *
    rw [fcD_tri]
    have hL := sort3_fc (g := buildG c gl n w) (cs := cs) (n := n) (fin := fin) (gl := gl)
    have hLm : ∀ (a b : Nat) (v : Int), ((a : Int), (b : Int), v) ∈ (fcAll (buildG c gl n w) cs n fin gl).map toT ↔ ∃ row, gl[a]? = some row ∧ row[b]? = some none ∧ labOf (buildG c gl n w) cs a = labOf (buildG c gl n w) cs (n + b) ∧ v = cellAt fin a b := fun a b v => mem_toT.trans fcAll_mem
    have hLl : ((fcAll (buildG c gl n w) cs n fin gl).map toT).length ≤ 100 := by
      rw [List.length_map]
      have := fc_len (g := buildG c gl n w) (cs := cs) (n := n) (fin := fin) (idx gl) (fun p hp => by
        obtain ⟨k, hk⟩ := List.getElem?_of_mem hp
        rw [idx_get] at hk
        obtain ⟨q, hq, rfl⟩ := Option.map_eq_some_iff.mp hk
        have := S.gw q (List.mem_of_getElem? hq)
        simp; omega)
      rw [idx_len, S.gn] at this
      unfold fcAll
      omega
    have hLf : ∀ t ∈ (fcAll (buildG c gl n w) cs n fin gl).map toT, ∃ a b : Nat, t = ((a : Int), (b : Int), cellAt fin a b) ∧ ∃ row, gl[a]? = some row ∧ row[b]? = some none := fun t ht => by
      obtain ⟨⟨a, b, v⟩, h1, rfl⟩ := List.mem_map.mp ht
      obtain ⟨row, h2, h3, _, h4⟩ := fcAll_mem.mp h1
      exact ⟨a, b, by simp [toT, h4], row, h2, h3⟩
    generalize (fcAll (buildG c gl n w) cs n fin gl).map toT = L at *
    simp [hL, oNe_trs]
    refine kLc_walk (by simp; omega) (fun i en (o : DSh) acc => (∃ x13, en = [none, some (.opq Ad.sA), some d, some (tD c rc cc), some (goalD gl), some (.int (bestC (buildG c gl n w) cs n)), some (.lst .f (dI shf)), some (.tup (rowsD fin)), some (.lst .f (trsD L)), x9, x10, x11, x12, x13, x14]) ∧ HOk o ∧ acc = []) ?_ ?_ ?_
    · exact ⟨⟨none, by simp [wipeE]⟩, h3, rfl⟩
    · rintro i t en o acc hd ⟨⟨x13, rfl⟩, ho, rfl⟩
      rw [trsD_get] at hd
      obtain ⟨p, hp, rfl⟩ := Option.map_eq_some_iff.mp hd
      obtain ⟨a, b, rfl, row, h1, h2⟩ := hLf p (List.mem_of_getElem? hp)
      have e1 : oIx (goalD gl) (.int (a : Nat)) = some (.tup (dOp row)) := atI_natD (by rw [rowsG_get, h1]; rfl)
      have e2 : oIx (.tup (dOp row)) (.int (b : Nat)) = some .non := atI_natD (by rw [dOp_get, h2]; rfl)
      simp [triD, e1, e2]
      exact ho
    · rintro en o acc ⟨⟨x13, rfl⟩, ho, rfl⟩
      have nz : oNe (.lst .f []) (.lst .f []) = some (.bl false) := oNe_trs (l := [])
      simp [nz, gz]
      refine ⟨small_of (by omega), ?_⟩
      obtain ⟨row0, hr0⟩ : ∃ r, gl[0]? = some r := ⟨_, List.getElem?_eq_getElem (by have := S.gn; omega)⟩
      have g0 : oIx (goalD gl) (.int 0) = some (.tup (dOp row0)) := atI_natD (i := 0) (by rw [rowsG_get, hr0]; rfl)
      have gw0 := S.gw row0 (List.mem_of_getElem? hr0)
      refine wS_walk (fun i en (o : DSh) => HOk o ∧ ∃ (x9 x10 x11 x13 x14 : Option D), en = [none, some (.opq Ad.sA), some d, some (tD c rc cc), some (goalD gl), some (.int (bestC (buildG c gl n w) cs n)), some (.lst .f (dI shf)), some (.tup (rowsD fin)), some (.lst .f (trsD L)), x9, x10, x11, x12, x13, x14]) ⟨ho, x9, x10, x11, _, x14, rfl⟩ ?_ ?_
      · rintro r d2 en o hd2 ⟨ho, x9, x10, x11, x13, x14, rfl⟩
        rw [rng_getI] at hd2
        split at hd2
        · rename_i hrn
          cases hd2
          simp [g0, gw0, small_of (show -1000000 ≤ (w : Int) ∧ (w : Int) ≤ 1000000 by omega)]
          obtain ⟨row, hrow⟩ : ∃ x, gl[r]? = some x := ⟨_, List.getElem?_eq_getElem (by have := S.gn; omega)⟩
          have hrw := S.gw row (List.mem_of_getElem? hrow)
          have er : oIx (goalD gl) (.int (r : Nat)) = some (.tup (dOp row)) := atI_natD (by rw [rowsG_get, hrow]; rfl)
          refine wS_walk (fun j en (o : DSh) => HOk o ∧ ∃ (x10 x11 x13 x14 : Option D), en = [none, some (.opq Ad.sA), some d, some (tD c rc cc), some (goalD gl), some (.int (bestC (buildG c gl n w) cs n)), some (.lst .f (dI shf)), some (.tup (rowsD fin)), some (.lst .f (trsD L)), some (.int (r : Nat)), x10, x11, x12, x13, x14]) ⟨ho, x10, x11, x13, x14, rfl⟩ ?_ ?_
          · rintro j d3 en o hd3 ⟨ho, x10, x11, x13, x14, rfl⟩
            rw [rng_getI] at hd3
            split at hd3
            · rename_i hjw
              cases hd3
              obtain ⟨e, he⟩ : ∃ e, row[j]? = some e := ⟨_, List.getElem?_eq_getElem (by omega)⟩
              have ee : oIx (.tup (dOp row)) (.int (j : Nat)) = some (oD e) := atI_natD (by rw [dOp_get, he]; rfl)
              have ew := fun (om : DSh) x => opened_ok (Ad := Ad) (om := om) (x := x) (j := j) hrow (by omega) (by have := S.gn; omega) (by omega)
              cases e with
              | some v =>
                obtain ⟨f1, f2⟩ := open_facts (j := j) vg hbd (by omega) hrow hcs hco F0
                have vg' : VG (gl.set r (row.set j none)) n w := vg_set vg hrow (fun v h => by cases h)
                have m0 := frz_minD0 (g := buildG c (gl.set r (row.set j none)) n w) (cs := cs) (n := n)
                rw [f1] at m0
                have hb2 : costAll cs (shiftsAll (buildG c (gl.set r (row.set j none)) n w) cs n) = bestC (buildG c (gl.set r (row.set j none)) n w) cs n := by unfold bestC; rw [f1]
                have ew' := ew o none
                simp only [oD] at ew'
                simp [er, ee, oD, ft, wM_eq ew', wX_eq (eo vg' _), m0, hb2]
                exact ⟨f2, ho⟩
              | none =>
                simp [er, ee, oD]
                have hrf : ∃ rr, fin[r]? = some rr ∧ rr[j]? = some (cellAt fin r j) := by
                  obtain ⟨rr, h1⟩ : ∃ rr, fin[r]? = some rr := ⟨_, List.getElem?_eq_getElem (by omega)⟩
                  have h2 := T.rw rr (List.mem_of_getElem? h1)
                  obtain ⟨x, hx⟩ : ∃ x, rr[j]? = some x := ⟨_, List.getElem?_eq_getElem (by omega)⟩
                  exact ⟨rr, h1, by rw [cellAt_get h1 hx]; exact hx⟩
                obtain ⟨rr, hr1, hr2⟩ := hrf
                have q1 : atI (rowsD fin) (r : Int) = some (rowD rr) := atI_natD (by rw [rowsD_get, hr1]; rfl)
                have q2 : atI (dI rr) (j : Int) = some (.int (cellAt fin r j)) := atI_natD (by rw [dI_get, hr2]; rfl)
                have hvb := hfb r j hrn hjw
                have hvf := hfin r j hrn hjw
                obtain ⟨a1, a2⟩ := close_same vg hbd (by omega) hrow he hcs hco F0 hvf (by omega)
                have b1 := close_other (v := cellAt fin r j + 1) vg hbd (by omega) hrow he hcs Fo (by omega) (by omega)
                have b2 := close_other (v := cellAt fin r j + -1) vg hbd (by omega) hrow he hcs Fo (by omega) (by omega)
                have hin := hLm r j (cellAt fin r j)
                generalize cellAt fin r j = v at *
                have vgk : ∀ k : Int, -1 ≤ k → k ≤ 1 → VG (gl.set r (row.set j (some (v + k)))) n w := fun k h1 h2 => vg_set vg hrow (fun x h => by cases h; omega)
                have eok := fun (om : DSh) k h1 h2 => eo (vgk k h1 h2) om
                have ewk := fun (om : DSh) (k : Int) => ew om (some (v + k))
                simp only [oD] at ewk
                refine kLc_walk (by simp) (fun i en (o : DSh) acc => (∃ x14, en = [none, some (.opq Ad.sA), some d, some (tD c rc cc), some (goalD gl), some (.int (bestC (buildG c gl n w) cs n)), some (.lst .f (dI shf)), some (.tup (rowsD fin)), some (.lst .f (trsD L)), some (.int (r : Nat)), some (.int (j : Nat)), x11, x12, x13, x14]) ∧ HOk o ∧ acc = (([0, 1, -1] : List Int).take i).map fun k => minD (buildG c (gl.set r (row.set j (some (v + k)))) n w) cs n) ?_ ?_ ?_
                · exact ⟨⟨none, by simp [wipeE]⟩, ho, rfl⟩
                · rintro i d4 en o acc hd4 ⟨⟨x14, rfl⟩, ho, rfl⟩
                  obtain ⟨k, hk, rfl⟩ : ∃ k : Int, ([0, 1, -1] : List Int)[i]? = some k ∧ d4 = .int k := by
                    rcases i with _ | _ | _ | i
                    · simp at hd4; exact ⟨0, rfl, hd4.symm⟩
                    · simp at hd4; exact ⟨1, rfl, hd4.symm⟩
                    · simp at hd4; exact ⟨-1, rfl, hd4.symm⟩
                    · simp at hd4
                  have hkb : -1 ≤ k ∧ k ≤ 1 := by
                    have := List.mem_of_getElem? hk
                    simp at this
                    omega
                  rw [take_get hk]
                  simp [q1, rowD, q2, wM_eq (ewk _ _), ft, wX_eq (eok _ k hkb.1 hkb.2)]
                  exact ho
                · rintro en o acc ⟨⟨x14, rfl⟩, ho, rfl⟩
                  have et : (([0, 1, -1] : List Int).take [D.int 0, D.int 1, D.int (-1)].length) = [0, 1, -1] := rfl
                  rw [et]
                  have m0 := frz_minD0 (g := buildG c (gl.set r (row.set j (some (v + 0)))) n w) (cs := cs) (n := n)
                  simp only [Int.add_zero] at m0
                  rw [a1] at m0
                  have hb2 : costAll cs (shiftsAll (buildG c (gl.set r (row.set j (some v))) n w) cs n) = bestC (buildG c gl n w) cs n := by rw [← a2]; unfold bestC; rw [a1]
                  have i0 : DL.isNon (frz (minD (buildG c (gl.set r (row.set j (some v))) n w) cs n)) = false := by rw [isNon_frz_minD, a1]; rfl
                  have at0 : ∀ (x y z : D), atI [x, y, z] 1 = some y ∧ atI [x, y, z] 2 = some z := fun x y z => ⟨rfl, rfl⟩
                  simp [i0, m0, hb2, q1, rowD, q2, oInP_trs, at0]
                  by_cases hlab : labOf (buildG c gl n w) cs r = labOf (buildG c gl n w) cs (n + j)
                  · have c1 : (conAll (buildG c (gl.set r (row.set j (some (v + 1)))) n w) cs).isSome = true := by
                      cases h : conAll (buildG c (gl.set r (row.set j (some (v + 1)))) n w) cs with
                      | none => exact absurd hlab (b1.mp h)
                      | some q => rfl
                    have c2 : (conAll (buildG c (gl.set r (row.set j (some (v + -1)))) n w) cs).isSome = true := by
                      cases h : conAll (buildG c (gl.set r (row.set j (some (v + -1)))) n w) cs with
                      | none => exact absurd hlab (b2.mp h)
                      | some q => rfl
                    have c3 : ((r : Int), (j : Int), v) ∈ L := hin.mpr ⟨row, hrow, he, hlab, rfl⟩
                    rw [if_pos c1, c2]
                    exact ⟨by simp [c3], ho⟩
                  · have c1 : (conAll (buildG c (gl.set r (row.set j (some (v + 1)))) n w) cs).isSome = false := by rw [b1.mpr hlab]; rfl
                    have c3 : ¬ ((r : Int), (j : Int), v) ∈ L := fun h => by
                      obtain ⟨_, _, _, h, _⟩ := hin.mp h
                      exact hlab h
                    rw [if_neg (by rw [c1]; decide)]
                    exact ⟨c3, ho⟩
            · cases hd3
          · rintro en o ⟨ho, x10, x11, x13, x14, rfl⟩
            exact ⟨ho, _, _, _, _, _, rfl⟩
        · cases hd2
      · rintro en o ⟨ho, x9, x10, x11, x13, x14, rfl⟩
        simp
        refine kLc_walk (by simp; omega) (fun i en (o : DSh) acc => (∃ x13, en = [none, some (.opq Ad.sA), some d, some (tD c rc cc), some (goalD gl), some (.int (bestC (buildG c gl n w) cs n)), some (.lst .f (dI shf)), some (.tup (rowsD fin)), some (.lst .f (trsD L)), x9, x10, x11, x12, x13, x14]) ∧ HOk o ∧ acc = (rowsD fin).take i) ?_ ?_ ?_
        · exact ⟨⟨none, by simp [wipeE]⟩, ho, by simp⟩
        · rintro i t en o acc hd ⟨⟨x13, rfl⟩, ho, rfl⟩
          have hd' := hd
          rw [rowsD_get] at hd
          obtain ⟨rr, hrr, rfl⟩ := Option.map_eq_some_iff.mp hd
          rw [take_get hd']
          simp [rowD]
          exact ho
        · rintro en o acc ⟨⟨x13, rfl⟩, ho, rfl⟩
          rw [List.take_of_length_le (Nat.le_refl _)]
          have i0 : DL.isNon (minD (buildG c (full fin) n w) cs n) = false := by rw [isNon_minD, efull]; rfl
          have nz : oNe (.lst .f []) (.lst .f []) = some (.bl false) := oNe_trs (l := [])
          have fD : D.tup (rowsD fin) = goalD (full fin) := by
            unfold goalD rowsG full rowsD rowD dOp dI
            simp [List.map_map, Function.comp_def, oD]
          have fe : fcD [] = [] := rfl
          simp [fD, ft, wX_eq (emf _), i0, wX_eq (eff _), fe, nz]
          exact ⟨efull, ho⟩
  · rintro en o ⟨ho, x2, x3, x4, x5, x6, x7, x8, x9, x10, x11, x12, x13, x14, rfl⟩
    simp
end
end K

namespace K
open PySem PySem.Spec PyProof.Rows L2 DL LamX
section
variable {P : Program} {w : World} {K : PySem.W.Frag} {mg : Str → Option Value} {base : Heap}
def mixH (seed : Int) (ns : List Int) : Int := ns.foldl (fun m c => (m * 48271 + c % 2147483629 + 1) % 2147483647) seed
def spMix (K : PySem.W.Frag) : Sp := fun vs H Q _ => ∃ (a : Addr) (seed : Int) (ns : List Int), vs = [.ref a, .int seed] ∧ SqL K H a (ns.map V.int) ∧ ∀ l l2, H l2 = none → upd H l2 (hB ns) l = none → Q (.ref l) (upd (upd H l2 (hB ns)) l (hL l2 (mixH seed ns, ns, 0)))
theorem mixH_take {s : Int} {ns : List Int} {i : Nat} {u : Int} (h : ns[i]? = some u) : mixH s (ns.take (i + 1)) = (mixH s (ns.take i) * 48271 + u % 2147483629 + 1) % 2147483647 := by
  have e : ns.take (i + 1) = ns.take i ++ [u] := by
    rw [List.take_succ, h]; rfl
  unfold mixH
  rw [e, List.foldl_append]
  rfl
theorem mix_ok {f : Addr} {fd : FuncData} (T : Txt mg) (F : Fun K "_law_mix" "_law_mix" s__law_mix f fd) : FnOk P w K mg base CX0 1 f fd ["_law_script", "_law_seed"] (spMix K) := by
  have nd := sc__law_mix.nd
  refine F.ok sc__law_mix (fun vs H Q E h => ?_) (fun cdv A outer s H vs Q E hr h => ?_)
  · obtain ⟨a, sd, ns, rfl, _⟩ := h
    rfl
  · obtain ⟨a, sd, ns, rfl, hS, k⟩ := h
    refine ⟨_, pss_cons (ps_set (i := 2) nd rfl (Or.inl rfl) (pv 1)) (pss_cons (ps_for PassesOwn.never rfl (pi_list (pv 0)) (pg_name (i := 3) nd rfl (Or.inl rfl))
      (pss_one (ps_set (i := 2) nd rfl (Or.inl rfl) (pe_op op_mod (pe_callTy call_int1 rfl T.int (by decide +kernel) (pa_cons (pe_op op_add (pe_op op_add (pe_op op_mul (pv 2) pe_int) (pe_op op_mod (pe_callTy call_int1 rfl T.int (by decide +kernel) (pa_cons (pv 3) pa_nil)) pe_int)) pe_int) pa_nil)) pe_int))))
      (pss_one (ps_ret (pe_lst (pa_cons (pv 2) (pa_cons (pe_callTy call_list_of rfl T.list (by decide +kernel) (pa_cons (pv 0) pa_nil)) (pa_cons pe_int pa_nil))))))), ?_⟩
    refine ⟨_, rfl, _, rfl, a, rfl, ⟨_, hS⟩, for_list (K := K) (a := a) (xs := ns.map V.int) (fun i σ H' => ∃ v : Option V, σ = [some (.ref a), some (.int sd), some (.int (mixH sd (ns.take i))), v] ∧ H' = H) ⟨none, rfl, rfl⟩ (fun i σ H' _ ⟨_, _, e⟩ => e ▸ hS) ?_ ?_⟩
    · rintro i y σ H' hi ⟨v, rfl, rfl⟩
      obtain ⟨u, hu, rfl⟩ : ∃ u, ns[i]? = some u ∧ y = V.int u := by
        rw [List.getElem?_map] at hi
        obtain ⟨u, h1, h2⟩ := Option.map_eq_some_iff.mp hi
        exact ⟨u, h1, h2.symm⟩
      refine ⟨_, rfl, _, _, rfl, rfl, .inr ⟨by decide, by decide⟩, _, rfl, .inl ⟨_, rfl, _, _, rfl, rfl, (by show (0 : Int) < 2147483629; decide), _, _, rfl, rfl, _, _, rfl, rfl, .inl ⟨_, rfl, _, _, rfl, rfl, (by show (0 : Int) < 2147483647; decide), ?_⟩⟩⟩
      refine ⟨some (.int u), ?_, rfl⟩
      rw [mixH_take hu]
      rfl
    · rintro σ H' ⟨v, rfl, rfl⟩
      have e : mixH sd (ns.take (ns.map V.int).length) = mixH sd ns := by rw [List.length_map, List.take_length]
      refine ⟨_, rfl, _, rfl, a, _, rfl, .inl hS, fun l2 hl2 => ⟨(by show 3 ≤ sizeLine; decide), fun l hl => ?_⟩⟩
      rw [e]
      exact k l l2 hl2 hl
/-- the promise of law: math is what the data say -/
def spLaw (K : PySem.W.Frag) (math : Addr → Addr → List Int → Prop) : Sp := fun vs H Q _ => ∃ (a : Addr) (ns : List Int), vs = [.ref a] ∧ SqL K H a (ns.map V.int) ∧ ns.length ≤ 63 ∧ (∀ l l2, math l l2 ns) ∧ ∀ H', Q (.bl true) H'
theorem law_ok {L : Nat} {f c fS : Addr} {fdS : FuncData} {Ad : Adr} {out : Addr → List (Str × V) → Option D} {oc kV doc pm ct : Value} {od an : Option Addr} {osl : Array (Option Value)} (lk : K.lookup f = some ⟨oc, od, .func (PySem.W.fnOf "law" "law" (defArgs s_law) (defBody s_law) (defScope s_law) .none kV doc pm an (.ref c) ct), osl⟩) (hcd : PySem.W.codeIn K (.ref c) "law" = true)
    (FS : Fun K "_law_mix" "_law_mix" s__law_mix fS fdS) (hmS : mg "_law_mix" = some (.ref fS)) (hbS : Binds K fdS ["_law_script", "_law_seed"] []) (T : Txt mg) (hLL : 1 ≤ L)
    (hbody : ∀ (W : Wld DSh) (sA scA : Addr), HistW W sA scA → ∀ (A : Around) (outer : List Env) (s : Shared) (H : Hp) (E Z : XK) (Bo : AS), Room L (A.deeper (envOfC "law" (defScope s_law) s.heap.objs.size f (.ref c))) →
      PSs (cxOf CX0 P w K mg base ["_law_script", "_law_h", "_law_turn", "_law_table_here", "_law_goal_here", "_law_cost", "_law_shifts", "_law_cells", "_law_forced", "_law_r", "_law_c", "_law_near", "_law_full", "_law_row", "_law_k"] "law" (defScope s_law) f (.ref c) A outer s H E).nox ((defBody s_law).drop 1) (tS W Bo Z (b_law { Ad with sA := sA, scA := scA } out))) :
    FnOk P w K mg base CX0 (L + 1) f (PySem.W.fnOf "law" "law" (defArgs s_law) (defBody s_law) (defScope s_law) .none kV doc pm an (.ref c) ct) ["_law_script"]
      (spLaw K fun l a ns => ∃ en' om', b_law { Ad with sA := l, scA := a } out ((List.replicate 15 none).set 1 (some (.opq l))) (mixH 34 ns, ns, 0) = some (.rt (.bl true), en', om')) := by
  have nd := sc_law.nd
  refine fn_of lk hcd sc_law (fun vs H Q E h => ?_) (fun A outer s H vs Q E hr h => ?_)
  · obtain ⟨a, ns, rfl, _⟩ := h
    rfl
  · obtain ⟨a, ns, rfl, hS, hlen, hmath, k⟩ := h
    refine ⟨_, PSs.nox (pss_cons (u := fun Dn σ H => ∃ (l l2 : Addr), tS (WH l l2) (fun _ => False) (fun _ _ _ => False) (b_law { Ad with sA := l, scA := l2 } out) Dn σ H)
      (ps_set (i := 1) nd rfl (Or.inl rfl) (pe_call (mix_ok T FS) (hr.mono hLL) rfl hmS FS.kp hbS .nil pass0 (pa_cons (pv 0) (pa_cons pe_int pa_nil)))) ⟨fun pins s' σ H' Dn I h => ?_⟩), ?_⟩
    · obtain ⟨l, l2, h⟩ := h
      exact (hbody _ l l2 histWH A outer s H E _ _ hr).run pins s' σ H' Dn I h
    · refine ⟨_, rfl, a, 34, ns, rfl, hS, fun l l2 hl2 hl => ?_⟩
      obtain ⟨en', om', hm⟩ := hmath l l2
      have ne : l2 ≠ l := fun z => by
        rw [z, upd_same] at hl; cases hl
      have hok : (WH l l2).ok (mixH 34 ns, ns, 0) (upd (upd H l2 (hB ns)) l (hL l2 (mixH 34 ns, ns, 0))) := ⟨ne, upd_same, by rw [upd_ne ne]; exact upd_same⟩
      refine ⟨l, l2, tS.run (G := cut (WH l l2) (upd (upd H l2 (hB ns)) l (hL l2 (mixH 34 ns, ns, 0)))) (F := []) ⟨cut_same, envs_one (.opq l) (L2.start _ [.ref a]) 1, .nil, fun a h => by simp at h, fun a h => by simp at h, fun a h => cut_fp h, fun a h => h.elim, hok⟩ hm ?_⟩
      intro σ' v H' G' F' R n S' x
      obtain ⟨rel, _, _⟩ := x
      cases rel
      exact k H'
end
end K

namespace K
open PySem PySem.Spec PyProof.Rows L2 DL LamX NdefX
def nameOf : Option Obj → Str
  | some ⟨_, _, .func fd, _⟩ => fd.name
  | _ => ""
def clsBody : Stmt → List Stmt
  | .ClassDef (body := b) .. => b
  | _ => []
section
variable {P : Program} {w : World} {K : PySem.W.Frag} {mg : Str → Option Value} {base : Heap}
def i_InvalidGoal : Stmt := (clsBody (top 3)).getD 0 (.Pass ⟨0, 0, 0, 0⟩)
abbrev nf_InvalidGoal (cc cda : Addr) : NF := ⟨"__init__", "InvalidGoal.__init__", defArgs i_InvalidGoal, defBody i_InvalidGoal, defScope i_InvalidGoal, [("__class__", cc)], cda⟩
theorem cx_InvalidGoal {C f cc cda : Addr} (T : IniT P K mg C (nf_InvalidGoal cc cda) f cc "self") (iC : PySem.W.findIn K (.ref C) "__init__" = some (some (.ref f))) (tI : PySem.W.typeIn K (.ref f) = some (.type "function")) (hm : mg "InvalidGoal" = some (.ref C)) (no1 : PySem.W.findIn K (.ref C) "row" = some none) (no2 : PySem.W.findIn K (.ref C) "column" = some none) : CEx P w K mg base "InvalidGoal" C ["row", "column"] 1 :=
  cex2 (ts := [tC (.str "invalid goal: row "), tFmt (tVar 1), tC (.str ", column "), tFmt (tVar 2)]) T (nscope_by (sc := defScope i_InvalidGoal) (by decide +kernel)) rfl (by show List.lookup ("super" : Str) (defScope i_InvalidGoal).names = _; decide +kernel) (fun _ _ _ _ _ us ws h1 h2 => match us, ws, h1, h2 with | [_], [_, _], _, _ => rfl) iC tI hm no1 no2 (by decide +kernel)
    (fun _ _ _ _ _ => (.cons pe_str (.cons (pe_fmt (pv 1)) (.cons pe_str (.cons (pe_fmt (pv 2)) .nil))))) (fun _ => ⟨_, rfl⟩) (fun _ => rfl) (by decide) (fun σ H y1 y2 h1 h2 o1 o2 t ht => by
      simp only [List.mem_cons, List.not_mem_nil, or_false] at ht
      rcases ht with rfl | rfl | rfl | rfl
      · exact tame_txt (by decide +kernel)
      · exact tame_fld h1 o1
      · exact tame_txt (by decide +kernel)
      · exact tame_fld h2 o2)
def i_InvalidTable : Stmt := (clsBody (top 2)).getD 0 (.Pass ⟨0, 0, 0, 0⟩)
abbrev nf_InvalidTable (cc cda : Addr) : NF := ⟨"__init__", "InvalidTable.__init__", defArgs i_InvalidTable, defBody i_InvalidTable, defScope i_InvalidTable, [("__class__", cc)], cda⟩
theorem cx_InvalidTable {C f cc cda : Addr} (T : IniT P K mg C (nf_InvalidTable cc cda) f cc "self") (iC : PySem.W.findIn K (.ref C) "__init__" = some (some (.ref f))) (tI : PySem.W.typeIn K (.ref f) = some (.type "function")) (hm : mg "InvalidTable" = some (.ref C)) (no1 : PySem.W.findIn K (.ref C) "part" = some none) (no2 : PySem.W.findIn K (.ref C) "index" = some none) : CEx P w K mg base "InvalidTable" C ["part", "index"] 1 :=
  cex2 (ts := [tC (.str "invalid table: part "), tFmt (tVar 1), tC (.str ", index "), tFmt (tVar 2)]) T (nscope_by (sc := defScope i_InvalidTable) (by decide +kernel)) rfl (by show List.lookup ("super" : Str) (defScope i_InvalidTable).names = _; decide +kernel) (fun _ _ _ _ _ us ws h1 h2 => match us, ws, h1, h2 with | [_], [_, _], _, _ => rfl) iC tI hm no1 no2 (by decide +kernel)
    (fun _ _ _ _ _ => (.cons pe_str (.cons (pe_fmt (pv 1)) (.cons pe_str (.cons (pe_fmt (pv 2)) .nil))))) (fun _ => ⟨_, rfl⟩) (fun _ => rfl) (by decide) (fun σ H y1 y2 h1 h2 o1 o2 t ht => by
      simp only [List.mem_cons, List.not_mem_nil, or_false] at ht
      rcases ht with rfl | rfl | rfl | rfl
      · exact tame_txt (by decide +kernel)
      · exact tame_fld h1 o1
      · exact tame_txt (by decide +kernel)
      · exact tame_fld h2 o2)
end
theorem law_at {w : World} {K : PySem.W.Frag} {h : Heap} {mg : Str → Option Value} {fa : Addr} (X : K.In h) (G : h.Ns mainGlobals mg) (hfa : mg "law" = some (.ref fa))
    {t_c_LARGEST_COST : Tok}
    {t_c_LARGEST_NUMBER : Tok}
    {t_c_LONGEST_SIDE : Tok}
    {t_c_SETTLED : Tok}
    {f_is_integer : Addr} {od_is_integer an_is_integer : Option Addr} {sl_is_integer : Array (Option Value)} {oc_is_integer kV_is_integer dc_is_integer pm_is_integer cd_is_integer ct_is_integer : Value}
    {f_is_number : Addr} {od_is_number an_is_number : Option Addr} {sl_is_number : Array (Option Value)} {oc_is_number kV_is_number dc_is_number pm_is_number cd_is_number ct_is_number : Value}
    {f_is_cost : Addr} {od_is_cost an_is_cost : Option Addr} {sl_is_cost : Array (Option Value)} {oc_is_cost kV_is_cost dc_is_cost pm_is_cost cd_is_cost ct_is_cost : Value}
    {f_is_goal_entry : Addr} {od_is_goal_entry an_is_goal_entry : Option Addr} {sl_is_goal_entry : Array (Option Value)} {oc_is_goal_entry kV_is_goal_entry dc_is_goal_entry pm_is_goal_entry cd_is_goal_entry ct_is_goal_entry : Value}
    {f_is_row : Addr} {od_is_row an_is_row : Option Addr} {sl_is_row : Array (Option Value)} {oc_is_row kV_is_row dc_is_row pm_is_row cd_is_row ct_is_row : Value}
    {f_first_wrong_row : Addr} {od_first_wrong_row an_first_wrong_row : Option Addr} {sl_first_wrong_row : Array (Option Value)} {oc_first_wrong_row kV_first_wrong_row dc_first_wrong_row pm_first_wrong_row cd_first_wrong_row ct_first_wrong_row : Value}
    {f_first_wrong_entry : Addr} {od_first_wrong_entry an_first_wrong_entry : Option Addr} {sl_first_wrong_entry : Array (Option Value)} {oc_first_wrong_entry kV_first_wrong_entry dc_first_wrong_entry pm_first_wrong_entry cd_first_wrong_entry ct_first_wrong_entry : Value}
    {f_check_costs : Addr} {od_check_costs an_check_costs : Option Addr} {sl_check_costs : Array (Option Value)} {oc_check_costs kV_check_costs dc_check_costs pm_check_costs cd_check_costs ct_check_costs : Value}
    {f_check_table : Addr} {od_check_table an_check_table : Option Addr} {sl_check_table : Array (Option Value)} {oc_check_table kV_check_table dc_check_table pm_check_table cd_check_table ct_check_table : Value}
    {f_check_goal : Addr} {od_check_goal an_check_goal : Option Addr} {sl_check_goal : Array (Option Value)} {oc_check_goal kV_check_goal dc_check_goal pm_check_goal cd_check_goal ct_check_goal : Value}
    {f_line_costs : Addr} {od_line_costs an_line_costs : Option Addr} {sl_line_costs : Array (Option Value)} {oc_line_costs kV_line_costs dc_line_costs pm_line_costs cd_line_costs ct_line_costs : Value}
    {f_build_graph : Addr} {od_build_graph an_build_graph : Option Addr} {sl_build_graph : Array (Option Value)} {oc_build_graph kV_build_graph dc_build_graph pm_build_graph cd_build_graph ct_build_graph : Value}
    {f_tree_from : Addr} {od_tree_from an_tree_from : Option Addr} {sl_tree_from : Array (Option Value)} {oc_tree_from kV_tree_from dc_tree_from pm_tree_from cd_tree_from ct_tree_from : Value}
    {f_path_in_tree : Addr} {od_path_in_tree an_path_in_tree : Option Addr} {sl_path_in_tree : Array (Option Value)} {oc_path_in_tree kV_path_in_tree dc_path_in_tree pm_path_in_tree cd_path_in_tree ct_path_in_tree : Value}
    {f_shifts_in_tree : Addr} {od_shifts_in_tree an_shifts_in_tree : Option Addr} {sl_shifts_in_tree : Array (Option Value)} {oc_shifts_in_tree kV_shifts_in_tree dc_shifts_in_tree pm_shifts_in_tree cd_shifts_in_tree ct_shifts_in_tree : Value}
    {f_group_lines : Addr} {od_group_lines an_group_lines : Option Addr} {sl_group_lines : Array (Option Value)} {oc_group_lines kV_group_lines dc_group_lines pm_group_lines cd_group_lines ct_group_lines : Value}
    {f_anchor_line : Addr} {od_anchor_line an_anchor_line : Option Addr} {sl_anchor_line : Array (Option Value)} {oc_anchor_line kV_anchor_line dc_anchor_line pm_anchor_line cd_anchor_line ct_anchor_line : Value}
    {f_contradiction_in_group : Addr} {od_contradiction_in_group an_contradiction_in_group : Option Addr} {sl_contradiction_in_group : Array (Option Value)} {oc_contradiction_in_group kV_contradiction_in_group dc_contradiction_in_group pm_contradiction_in_group cd_contradiction_in_group ct_contradiction_in_group : Value}
    {f_contradiction_in_graph : Addr} {od_contradiction_in_graph an_contradiction_in_graph : Option Addr} {sl_contradiction_in_graph : Array (Option Value)} {oc_contradiction_in_graph kV_contradiction_in_graph dc_contradiction_in_graph pm_contradiction_in_graph cd_contradiction_in_graph ct_contradiction_in_graph : Value}
    {f_shift_cells : Addr} {od_shift_cells an_shift_cells : Option Addr} {sl_shift_cells : Array (Option Value)} {oc_shift_cells kV_shift_cells dc_shift_cells pm_shift_cells cd_shift_cells ct_shift_cells : Value}
    {f_first_bend : Addr} {od_first_bend an_first_bend : Option Addr} {sl_first_bend : Array (Option Value)} {oc_first_bend kV_first_bend dc_first_bend pm_first_bend cd_first_bend ct_first_bend : Value}
    {f_cheapest_range : Addr} {od_cheapest_range an_cheapest_range : Option Addr} {sl_cheapest_range : Array (Option Value)} {oc_cheapest_range kV_cheapest_range dc_cheapest_range pm_cheapest_range cd_cheapest_range ct_cheapest_range : Value}
    {f_first_line_range : Addr} {od_first_line_range an_first_line_range : Option Addr} {sl_first_line_range : Array (Option Value)} {oc_first_line_range kV_first_line_range dc_first_line_range pm_first_line_range cd_first_line_range ct_first_line_range : Value}
    {f_cheapest_shifts : Addr} {od_cheapest_shifts an_cheapest_shifts : Option Addr} {sl_cheapest_shifts : Array (Option Value)} {oc_cheapest_shifts kV_cheapest_shifts dc_cheapest_shifts pm_cheapest_shifts cd_cheapest_shifts ct_cheapest_shifts : Value}
    {f_shifts_to_goal : Addr} {od_shifts_to_goal an_shifts_to_goal : Option Addr} {sl_shifts_to_goal : Array (Option Value)} {oc_shifts_to_goal kV_shifts_to_goal dc_shifts_to_goal pm_shifts_to_goal cd_shifts_to_goal ct_shifts_to_goal : Value}
    {f_minimum_cost : Addr} {od_minimum_cost an_minimum_cost : Option Addr} {sl_minimum_cost : Array (Option Value)} {oc_minimum_cost kV_minimum_cost dc_minimum_cost pm_minimum_cost cd_minimum_cost ct_minimum_cost : Value}
    {f_dependence_labels : Addr} {od_dependence_labels an_dependence_labels : Option Addr} {sl_dependence_labels : Array (Option Value)} {oc_dependence_labels kV_dependence_labels dc_dependence_labels pm_dependence_labels cd_dependence_labels ct_dependence_labels : Value}
    {f_forced_cells : Addr} {od_forced_cells an_forced_cells : Option Addr} {sl_forced_cells : Array (Option Value)} {oc_forced_cells kV_forced_cells dc_forced_cells pm_forced_cells cd_forced_cells ct_forced_cells : Value}
    {f__law_next : Addr} {od__law_next an__law_next : Option Addr} {sl__law_next : Array (Option Value)} {oc__law_next kV__law_next dc__law_next pm__law_next cd__law_next ct__law_next : Value}
    {f__law_table : Addr} {od__law_table an__law_table : Option Addr} {sl__law_table : Array (Option Value)} {oc__law_table kV__law_table dc__law_table pm__law_table cd__law_table ct__law_table : Value}
    {f__law_shifted : Addr} {od__law_shifted an__law_shifted : Option Addr} {sl__law_shifted : Array (Option Value)} {oc__law_shifted kV__law_shifted dc__law_shifted pm__law_shifted cd__law_shifted ct__law_shifted : Value}
    {f__law_goal : Addr} {od__law_goal an__law_goal : Option Addr} {sl__law_goal : Array (Option Value)} {oc__law_goal kV__law_goal dc__law_goal pm__law_goal cd__law_goal ct__law_goal : Value}
    {f__law_opened : Addr} {od__law_opened an__law_opened : Option Addr} {sl__law_opened : Array (Option Value)} {oc__law_opened kV__law_opened dc__law_opened pm__law_opened cd__law_opened ct__law_opened : Value}
    {f__law_mix : Addr} {od__law_mix an__law_mix : Option Addr} {sl__law_mix : Array (Option Value)} {oc__law_mix kV__law_mix dc__law_mix pm__law_mix cd__law_mix ct__law_mix : Value}
    {f_law : Addr} {od_law an_law : Option Addr} {sl_law : Array (Option Value)} {oc_law kV_law dc_law pm_law ct_law : Value}
    {cL : Addr}
    {C_InvalidGoal : Addr}
    {C_InvalidTable : Addr}
    {C_NoSolution : Addr}
    {f1_InvalidGoal cc_InvalidGoal cda_InvalidGoal : Addr} {od1_InvalidGoal an1_InvalidGoal : Option Addr} {sl1_InvalidGoal sl2_InvalidGoal sl3_InvalidGoal : Array (Option Value)} {oc1_InvalidGoal kV1_InvalidGoal dc1_InvalidGoal pm1_InvalidGoal ct1_InvalidGoal o2_InvalidGoal o3_InvalidGoal : Value} {d2_InvalidGoal d3_InvalidGoal : Option Addr} {vs_InvalidGoal : Array Value} {file_InvalidGoal : Str} {tf_InvalidGoal : Tok} {nm_InvalidGoal q_InvalidGoal : Str} {N_InvalidGoal : Addr} {bs_InvalidGoal bm_InvalidGoal : List Value} {sn_InvalidGoal : List Str} {sub_InvalidGoal : List Value} {ab_InvalidGoal : Bool} {col_InvalidGoal : Option Bool} {dd_InvalidGoal : Option Addr} {k0_InvalidGoal k1_InvalidGoal k2_InvalidGoal k3_InvalidGoal k5_InvalidGoal : Option Value}
    {f1_InvalidTable cc_InvalidTable cda_InvalidTable : Addr} {od1_InvalidTable an1_InvalidTable : Option Addr} {sl1_InvalidTable sl2_InvalidTable sl3_InvalidTable : Array (Option Value)} {oc1_InvalidTable kV1_InvalidTable dc1_InvalidTable pm1_InvalidTable ct1_InvalidTable o2_InvalidTable o3_InvalidTable : Value} {d2_InvalidTable d3_InvalidTable : Option Addr} {vs_InvalidTable : Array Value} {file_InvalidTable : Str} {tf_InvalidTable : Tok} {nm_InvalidTable q_InvalidTable : Str} {N_InvalidTable : Addr} {bs_InvalidTable bm_InvalidTable : List Value} {sn_InvalidTable : List Str} {sub_InvalidTable : List Value} {ab_InvalidTable : Bool} {col_InvalidTable : Option Bool} {dd_InvalidTable : Option Addr} {k0_InvalidTable k1_InvalidTable k2_InvalidTable k3_InvalidTable k5_InvalidTable : Option Value}
    (n_abs : PySem.W.nsIn K mainGlobals "abs" = some none)
    (n_all : PySem.W.nsIn K mainGlobals "all" = some none)
    (n_bool : PySem.W.nsIn K mainGlobals "bool" = some none)
    (n_c_LARGEST_COST : PySem.W.nsIn K mainGlobals "LARGEST_COST" = some (some (.int 99 t_c_LARGEST_COST)))
    (n_c_LARGEST_NUMBER : PySem.W.nsIn K mainGlobals "LARGEST_NUMBER" = some (some (.int 1000000 t_c_LARGEST_NUMBER)))
    (n_c_LONGEST_SIDE : PySem.W.nsIn K mainGlobals "LONGEST_SIDE" = some (some (.int 7 t_c_LONGEST_SIDE)))
    (n_c_SETTLED : PySem.W.nsIn K mainGlobals "SETTLED" = some (some (.int (-1) t_c_SETTLED)))
    (n_enumerate : PySem.W.nsIn K mainGlobals "enumerate" = some none)
    (n_int : PySem.W.nsIn K mainGlobals "int" = some none)
    (n_isinstance : PySem.W.nsIn K mainGlobals "isinstance" = some none)
    (n_len : PySem.W.nsIn K mainGlobals "len" = some none)
    (n_list : PySem.W.nsIn K mainGlobals "list" = some none)
    (n_max : PySem.W.nsIn K mainGlobals "max" = some none)
    (n_range : PySem.W.nsIn K mainGlobals "range" = some none)
    (n_set : PySem.W.nsIn K mainGlobals "set" = some none)
    (n_sorted : PySem.W.nsIn K mainGlobals "sorted" = some none)
    (n_sum : PySem.W.nsIn K mainGlobals "sum" = some none)
    (n_tuple : PySem.W.nsIn K mainGlobals "tuple" = some none)
    (n_zip : PySem.W.nsIn K mainGlobals "zip" = some none)
    (a_is_integer : PySem.W.nsIn K mainGlobals "is_integer" = some (some (.ref f_is_integer)))
    (l_is_integer : K.lookup f_is_integer = some ⟨oc_is_integer, od_is_integer, .func (PySem.W.fnOf "is_integer" "is_integer" (defArgs s_is_integer) (defBody s_is_integer) (defScope s_is_integer) .none kV_is_integer dc_is_integer pm_is_integer an_is_integer cd_is_integer ct_is_integer), sl_is_integer⟩)
    (c_is_integer : PySem.W.codeIn K cd_is_integer "is_integer" = true)
    (k_is_integer : PySem.W.keepIn K (.ref f_is_integer) = true)
    (a_is_number : PySem.W.nsIn K mainGlobals "is_number" = some (some (.ref f_is_number)))
    (l_is_number : K.lookup f_is_number = some ⟨oc_is_number, od_is_number, .func (PySem.W.fnOf "is_number" "is_number" (defArgs s_is_number) (defBody s_is_number) (defScope s_is_number) .none kV_is_number dc_is_number pm_is_number an_is_number cd_is_number ct_is_number), sl_is_number⟩)
    (c_is_number : PySem.W.codeIn K cd_is_number "is_number" = true)
    (k_is_number : PySem.W.keepIn K (.ref f_is_number) = true)
    (a_is_cost : PySem.W.nsIn K mainGlobals "is_cost" = some (some (.ref f_is_cost)))
    (l_is_cost : K.lookup f_is_cost = some ⟨oc_is_cost, od_is_cost, .func (PySem.W.fnOf "is_cost" "is_cost" (defArgs s_is_cost) (defBody s_is_cost) (defScope s_is_cost) .none kV_is_cost dc_is_cost pm_is_cost an_is_cost cd_is_cost ct_is_cost), sl_is_cost⟩)
    (c_is_cost : PySem.W.codeIn K cd_is_cost "is_cost" = true)
    (k_is_cost : PySem.W.keepIn K (.ref f_is_cost) = true)
    (a_is_goal_entry : PySem.W.nsIn K mainGlobals "is_goal_entry" = some (some (.ref f_is_goal_entry)))
    (l_is_goal_entry : K.lookup f_is_goal_entry = some ⟨oc_is_goal_entry, od_is_goal_entry, .func (PySem.W.fnOf "is_goal_entry" "is_goal_entry" (defArgs s_is_goal_entry) (defBody s_is_goal_entry) (defScope s_is_goal_entry) .none kV_is_goal_entry dc_is_goal_entry pm_is_goal_entry an_is_goal_entry cd_is_goal_entry ct_is_goal_entry), sl_is_goal_entry⟩)
    (c_is_goal_entry : PySem.W.codeIn K cd_is_goal_entry "is_goal_entry" = true)
    (k_is_goal_entry : PySem.W.keepIn K (.ref f_is_goal_entry) = true)
    (a_is_row : PySem.W.nsIn K mainGlobals "is_row" = some (some (.ref f_is_row)))
    (l_is_row : K.lookup f_is_row = some ⟨oc_is_row, od_is_row, .func (PySem.W.fnOf "is_row" "is_row" (defArgs s_is_row) (defBody s_is_row) (defScope s_is_row) .none kV_is_row dc_is_row pm_is_row an_is_row cd_is_row ct_is_row), sl_is_row⟩)
    (c_is_row : PySem.W.codeIn K cd_is_row "is_row" = true)
    (k_is_row : PySem.W.keepIn K (.ref f_is_row) = true)
    (a_first_wrong_row : PySem.W.nsIn K mainGlobals "first_wrong_row" = some (some (.ref f_first_wrong_row)))
    (l_first_wrong_row : K.lookup f_first_wrong_row = some ⟨oc_first_wrong_row, od_first_wrong_row, .func (PySem.W.fnOf "first_wrong_row" "first_wrong_row" (defArgs s_first_wrong_row) (defBody s_first_wrong_row) (defScope s_first_wrong_row) .none kV_first_wrong_row dc_first_wrong_row pm_first_wrong_row an_first_wrong_row cd_first_wrong_row ct_first_wrong_row), sl_first_wrong_row⟩)
    (c_first_wrong_row : PySem.W.codeIn K cd_first_wrong_row "first_wrong_row" = true)
    (k_first_wrong_row : PySem.W.keepIn K (.ref f_first_wrong_row) = true)
    (a_first_wrong_entry : PySem.W.nsIn K mainGlobals "first_wrong_entry" = some (some (.ref f_first_wrong_entry)))
    (l_first_wrong_entry : K.lookup f_first_wrong_entry = some ⟨oc_first_wrong_entry, od_first_wrong_entry, .func (PySem.W.fnOf "first_wrong_entry" "first_wrong_entry" (defArgs s_first_wrong_entry) (defBody s_first_wrong_entry) (defScope s_first_wrong_entry) .none kV_first_wrong_entry dc_first_wrong_entry pm_first_wrong_entry an_first_wrong_entry cd_first_wrong_entry ct_first_wrong_entry), sl_first_wrong_entry⟩)
    (c_first_wrong_entry : PySem.W.codeIn K cd_first_wrong_entry "first_wrong_entry" = true)
    (k_first_wrong_entry : PySem.W.keepIn K (.ref f_first_wrong_entry) = true)
    (a_check_costs : PySem.W.nsIn K mainGlobals "check_costs" = some (some (.ref f_check_costs)))
    (l_check_costs : K.lookup f_check_costs = some ⟨oc_check_costs, od_check_costs, .func (PySem.W.fnOf "check_costs" "check_costs" (defArgs s_check_costs) (defBody s_check_costs) (defScope s_check_costs) .none kV_check_costs dc_check_costs pm_check_costs an_check_costs cd_check_costs ct_check_costs), sl_check_costs⟩)
    (c_check_costs : PySem.W.codeIn K cd_check_costs "check_costs" = true)
    (k_check_costs : PySem.W.keepIn K (.ref f_check_costs) = true)
    (a_check_table : PySem.W.nsIn K mainGlobals "check_table" = some (some (.ref f_check_table)))
    (l_check_table : K.lookup f_check_table = some ⟨oc_check_table, od_check_table, .func (PySem.W.fnOf "check_table" "check_table" (defArgs s_check_table) (defBody s_check_table) (defScope s_check_table) .none kV_check_table dc_check_table pm_check_table an_check_table cd_check_table ct_check_table), sl_check_table⟩)
    (c_check_table : PySem.W.codeIn K cd_check_table "check_table" = true)
    (k_check_table : PySem.W.keepIn K (.ref f_check_table) = true)
    (a_check_goal : PySem.W.nsIn K mainGlobals "check_goal" = some (some (.ref f_check_goal)))
    (l_check_goal : K.lookup f_check_goal = some ⟨oc_check_goal, od_check_goal, .func (PySem.W.fnOf "check_goal" "check_goal" (defArgs s_check_goal) (defBody s_check_goal) (defScope s_check_goal) .none kV_check_goal dc_check_goal pm_check_goal an_check_goal cd_check_goal ct_check_goal), sl_check_goal⟩)
    (c_check_goal : PySem.W.codeIn K cd_check_goal "check_goal" = true)
    (k_check_goal : PySem.W.keepIn K (.ref f_check_goal) = true)
    (a_line_costs : PySem.W.nsIn K mainGlobals "line_costs" = some (some (.ref f_line_costs)))
    (l_line_costs : K.lookup f_line_costs = some ⟨oc_line_costs, od_line_costs, .func (PySem.W.fnOf "line_costs" "line_costs" (defArgs s_line_costs) (defBody s_line_costs) (defScope s_line_costs) .none kV_line_costs dc_line_costs pm_line_costs an_line_costs cd_line_costs ct_line_costs), sl_line_costs⟩)
    (c_line_costs : PySem.W.codeIn K cd_line_costs "line_costs" = true)
    (k_line_costs : PySem.W.keepIn K (.ref f_line_costs) = true)
    (a_build_graph : PySem.W.nsIn K mainGlobals "build_graph" = some (some (.ref f_build_graph)))
    (l_build_graph : K.lookup f_build_graph = some ⟨oc_build_graph, od_build_graph, .func (PySem.W.fnOf "build_graph" "build_graph" (defArgs s_build_graph) (defBody s_build_graph) (defScope s_build_graph) .none kV_build_graph dc_build_graph pm_build_graph an_build_graph cd_build_graph ct_build_graph), sl_build_graph⟩)
    (c_build_graph : PySem.W.codeIn K cd_build_graph "build_graph" = true)
    (k_build_graph : PySem.W.keepIn K (.ref f_build_graph) = true)
    (a_tree_from : PySem.W.nsIn K mainGlobals "tree_from" = some (some (.ref f_tree_from)))
    (l_tree_from : K.lookup f_tree_from = some ⟨oc_tree_from, od_tree_from, .func (PySem.W.fnOf "tree_from" "tree_from" (defArgs s_tree_from) (defBody s_tree_from) (defScope s_tree_from) .none kV_tree_from dc_tree_from pm_tree_from an_tree_from cd_tree_from ct_tree_from), sl_tree_from⟩)
    (c_tree_from : PySem.W.codeIn K cd_tree_from "tree_from" = true)
    (k_tree_from : PySem.W.keepIn K (.ref f_tree_from) = true)
    (a_path_in_tree : PySem.W.nsIn K mainGlobals "path_in_tree" = some (some (.ref f_path_in_tree)))
    (l_path_in_tree : K.lookup f_path_in_tree = some ⟨oc_path_in_tree, od_path_in_tree, .func (PySem.W.fnOf "path_in_tree" "path_in_tree" (defArgs s_path_in_tree) (defBody s_path_in_tree) (defScope s_path_in_tree) .none kV_path_in_tree dc_path_in_tree pm_path_in_tree an_path_in_tree cd_path_in_tree ct_path_in_tree), sl_path_in_tree⟩)
    (c_path_in_tree : PySem.W.codeIn K cd_path_in_tree "path_in_tree" = true)
    (k_path_in_tree : PySem.W.keepIn K (.ref f_path_in_tree) = true)
    (a_shifts_in_tree : PySem.W.nsIn K mainGlobals "shifts_in_tree" = some (some (.ref f_shifts_in_tree)))
    (l_shifts_in_tree : K.lookup f_shifts_in_tree = some ⟨oc_shifts_in_tree, od_shifts_in_tree, .func (PySem.W.fnOf "shifts_in_tree" "shifts_in_tree" (defArgs s_shifts_in_tree) (defBody s_shifts_in_tree) (defScope s_shifts_in_tree) .none kV_shifts_in_tree dc_shifts_in_tree pm_shifts_in_tree an_shifts_in_tree cd_shifts_in_tree ct_shifts_in_tree), sl_shifts_in_tree⟩)
    (c_shifts_in_tree : PySem.W.codeIn K cd_shifts_in_tree "shifts_in_tree" = true)
    (k_shifts_in_tree : PySem.W.keepIn K (.ref f_shifts_in_tree) = true)
    (a_group_lines : PySem.W.nsIn K mainGlobals "group_lines" = some (some (.ref f_group_lines)))
    (l_group_lines : K.lookup f_group_lines = some ⟨oc_group_lines, od_group_lines, .func (PySem.W.fnOf "group_lines" "group_lines" (defArgs s_group_lines) (defBody s_group_lines) (defScope s_group_lines) .none kV_group_lines dc_group_lines pm_group_lines an_group_lines cd_group_lines ct_group_lines), sl_group_lines⟩)
    (c_group_lines : PySem.W.codeIn K cd_group_lines "group_lines" = true)
    (k_group_lines : PySem.W.keepIn K (.ref f_group_lines) = true)
    (a_anchor_line : PySem.W.nsIn K mainGlobals "anchor_line" = some (some (.ref f_anchor_line)))
    (l_anchor_line : K.lookup f_anchor_line = some ⟨oc_anchor_line, od_anchor_line, .func (PySem.W.fnOf "anchor_line" "anchor_line" (defArgs s_anchor_line) (defBody s_anchor_line) (defScope s_anchor_line) .none kV_anchor_line dc_anchor_line pm_anchor_line an_anchor_line cd_anchor_line ct_anchor_line), sl_anchor_line⟩)
    (c_anchor_line : PySem.W.codeIn K cd_anchor_line "anchor_line" = true)
    (k_anchor_line : PySem.W.keepIn K (.ref f_anchor_line) = true)
    (a_contradiction_in_group : PySem.W.nsIn K mainGlobals "contradiction_in_group" = some (some (.ref f_contradiction_in_group)))
    (l_contradiction_in_group : K.lookup f_contradiction_in_group = some ⟨oc_contradiction_in_group, od_contradiction_in_group, .func (PySem.W.fnOf "contradiction_in_group" "contradiction_in_group" (defArgs s_contradiction_in_group) (defBody s_contradiction_in_group) (defScope s_contradiction_in_group) .none kV_contradiction_in_group dc_contradiction_in_group pm_contradiction_in_group an_contradiction_in_group cd_contradiction_in_group ct_contradiction_in_group), sl_contradiction_in_group⟩)
    (c_contradiction_in_group : PySem.W.codeIn K cd_contradiction_in_group "contradiction_in_group" = true)
    (k_contradiction_in_group : PySem.W.keepIn K (.ref f_contradiction_in_group) = true)
    (a_contradiction_in_graph : PySem.W.nsIn K mainGlobals "contradiction_in_graph" = some (some (.ref f_contradiction_in_graph)))
    (l_contradiction_in_graph : K.lookup f_contradiction_in_graph = some ⟨oc_contradiction_in_graph, od_contradiction_in_graph, .func (PySem.W.fnOf "contradiction_in_graph" "contradiction_in_graph" (defArgs s_contradiction_in_graph) (defBody s_contradiction_in_graph) (defScope s_contradiction_in_graph) .none kV_contradiction_in_graph dc_contradiction_in_graph pm_contradiction_in_graph an_contradiction_in_graph cd_contradiction_in_graph ct_contradiction_in_graph), sl_contradiction_in_graph⟩)
    (c_contradiction_in_graph : PySem.W.codeIn K cd_contradiction_in_graph "contradiction_in_graph" = true)
    (k_contradiction_in_graph : PySem.W.keepIn K (.ref f_contradiction_in_graph) = true)
    (a_shift_cells : PySem.W.nsIn K mainGlobals "shift_cells" = some (some (.ref f_shift_cells)))
    (l_shift_cells : K.lookup f_shift_cells = some ⟨oc_shift_cells, od_shift_cells, .func (PySem.W.fnOf "shift_cells" "shift_cells" (defArgs s_shift_cells) (defBody s_shift_cells) (defScope s_shift_cells) .none kV_shift_cells dc_shift_cells pm_shift_cells an_shift_cells cd_shift_cells ct_shift_cells), sl_shift_cells⟩)
    (c_shift_cells : PySem.W.codeIn K cd_shift_cells "shift_cells" = true)
    (k_shift_cells : PySem.W.keepIn K (.ref f_shift_cells) = true)
    (a_first_bend : PySem.W.nsIn K mainGlobals "first_bend" = some (some (.ref f_first_bend)))
    (l_first_bend : K.lookup f_first_bend = some ⟨oc_first_bend, od_first_bend, .func (PySem.W.fnOf "first_bend" "first_bend" (defArgs s_first_bend) (defBody s_first_bend) (defScope s_first_bend) .none kV_first_bend dc_first_bend pm_first_bend an_first_bend cd_first_bend ct_first_bend), sl_first_bend⟩)
    (c_first_bend : PySem.W.codeIn K cd_first_bend "first_bend" = true)
    (k_first_bend : PySem.W.keepIn K (.ref f_first_bend) = true)
    (a_cheapest_range : PySem.W.nsIn K mainGlobals "cheapest_range" = some (some (.ref f_cheapest_range)))
    (l_cheapest_range : K.lookup f_cheapest_range = some ⟨oc_cheapest_range, od_cheapest_range, .func (PySem.W.fnOf "cheapest_range" "cheapest_range" (defArgs s_cheapest_range) (defBody s_cheapest_range) (defScope s_cheapest_range) .none kV_cheapest_range dc_cheapest_range pm_cheapest_range an_cheapest_range cd_cheapest_range ct_cheapest_range), sl_cheapest_range⟩)
    (c_cheapest_range : PySem.W.codeIn K cd_cheapest_range "cheapest_range" = true)
    (k_cheapest_range : PySem.W.keepIn K (.ref f_cheapest_range) = true)
    (a_first_line_range : PySem.W.nsIn K mainGlobals "first_line_range" = some (some (.ref f_first_line_range)))
    (l_first_line_range : K.lookup f_first_line_range = some ⟨oc_first_line_range, od_first_line_range, .func (PySem.W.fnOf "first_line_range" "first_line_range" (defArgs s_first_line_range) (defBody s_first_line_range) (defScope s_first_line_range) .none kV_first_line_range dc_first_line_range pm_first_line_range an_first_line_range cd_first_line_range ct_first_line_range), sl_first_line_range⟩)
    (c_first_line_range : PySem.W.codeIn K cd_first_line_range "first_line_range" = true)
    (k_first_line_range : PySem.W.keepIn K (.ref f_first_line_range) = true)
    (a_cheapest_shifts : PySem.W.nsIn K mainGlobals "cheapest_shifts" = some (some (.ref f_cheapest_shifts)))
    (l_cheapest_shifts : K.lookup f_cheapest_shifts = some ⟨oc_cheapest_shifts, od_cheapest_shifts, .func (PySem.W.fnOf "cheapest_shifts" "cheapest_shifts" (defArgs s_cheapest_shifts) (defBody s_cheapest_shifts) (defScope s_cheapest_shifts) .none kV_cheapest_shifts dc_cheapest_shifts pm_cheapest_shifts an_cheapest_shifts cd_cheapest_shifts ct_cheapest_shifts), sl_cheapest_shifts⟩)
    (c_cheapest_shifts : PySem.W.codeIn K cd_cheapest_shifts "cheapest_shifts" = true)
    (k_cheapest_shifts : PySem.W.keepIn K (.ref f_cheapest_shifts) = true)
    (a_shifts_to_goal : PySem.W.nsIn K mainGlobals "shifts_to_goal" = some (some (.ref f_shifts_to_goal)))
    (l_shifts_to_goal : K.lookup f_shifts_to_goal = some ⟨oc_shifts_to_goal, od_shifts_to_goal, .func (PySem.W.fnOf "shifts_to_goal" "shifts_to_goal" (defArgs s_shifts_to_goal) (defBody s_shifts_to_goal) (defScope s_shifts_to_goal) .none kV_shifts_to_goal dc_shifts_to_goal pm_shifts_to_goal an_shifts_to_goal cd_shifts_to_goal ct_shifts_to_goal), sl_shifts_to_goal⟩)
    (c_shifts_to_goal : PySem.W.codeIn K cd_shifts_to_goal "shifts_to_goal" = true)
    (k_shifts_to_goal : PySem.W.keepIn K (.ref f_shifts_to_goal) = true)
    (a_minimum_cost : PySem.W.nsIn K mainGlobals "minimum_cost" = some (some (.ref f_minimum_cost)))
    (l_minimum_cost : K.lookup f_minimum_cost = some ⟨oc_minimum_cost, od_minimum_cost, .func (PySem.W.fnOf "minimum_cost" "minimum_cost" (defArgs s_minimum_cost) (defBody s_minimum_cost) (defScope s_minimum_cost) .none kV_minimum_cost dc_minimum_cost pm_minimum_cost an_minimum_cost cd_minimum_cost ct_minimum_cost), sl_minimum_cost⟩)
    (c_minimum_cost : PySem.W.codeIn K cd_minimum_cost "minimum_cost" = true)
    (k_minimum_cost : PySem.W.keepIn K (.ref f_minimum_cost) = true)
    (a_dependence_labels : PySem.W.nsIn K mainGlobals "dependence_labels" = some (some (.ref f_dependence_labels)))
    (l_dependence_labels : K.lookup f_dependence_labels = some ⟨oc_dependence_labels, od_dependence_labels, .func (PySem.W.fnOf "dependence_labels" "dependence_labels" (defArgs s_dependence_labels) (defBody s_dependence_labels) (defScope s_dependence_labels) .none kV_dependence_labels dc_dependence_labels pm_dependence_labels an_dependence_labels cd_dependence_labels ct_dependence_labels), sl_dependence_labels⟩)
    (c_dependence_labels : PySem.W.codeIn K cd_dependence_labels "dependence_labels" = true)
    (k_dependence_labels : PySem.W.keepIn K (.ref f_dependence_labels) = true)
    (a_forced_cells : PySem.W.nsIn K mainGlobals "forced_cells" = some (some (.ref f_forced_cells)))
    (l_forced_cells : K.lookup f_forced_cells = some ⟨oc_forced_cells, od_forced_cells, .func (PySem.W.fnOf "forced_cells" "forced_cells" (defArgs s_forced_cells) (defBody s_forced_cells) (defScope s_forced_cells) .none kV_forced_cells dc_forced_cells pm_forced_cells an_forced_cells cd_forced_cells ct_forced_cells), sl_forced_cells⟩)
    (c_forced_cells : PySem.W.codeIn K cd_forced_cells "forced_cells" = true)
    (k_forced_cells : PySem.W.keepIn K (.ref f_forced_cells) = true)
    (a__law_next : PySem.W.nsIn K mainGlobals "_law_next" = some (some (.ref f__law_next)))
    (l__law_next : K.lookup f__law_next = some ⟨oc__law_next, od__law_next, .func (PySem.W.fnOf "_law_next" "_law_next" (defArgs s__law_next) (defBody s__law_next) (defScope s__law_next) .none kV__law_next dc__law_next pm__law_next an__law_next cd__law_next ct__law_next), sl__law_next⟩)
    (c__law_next : PySem.W.codeIn K cd__law_next "_law_next" = true)
    (k__law_next : PySem.W.keepIn K (.ref f__law_next) = true)
    (a__law_table : PySem.W.nsIn K mainGlobals "_law_table" = some (some (.ref f__law_table)))
    (l__law_table : K.lookup f__law_table = some ⟨oc__law_table, od__law_table, .func (PySem.W.fnOf "_law_table" "_law_table" (defArgs s__law_table) (defBody s__law_table) (defScope s__law_table) .none kV__law_table dc__law_table pm__law_table an__law_table cd__law_table ct__law_table), sl__law_table⟩)
    (c__law_table : PySem.W.codeIn K cd__law_table "_law_table" = true)
    (k__law_table : PySem.W.keepIn K (.ref f__law_table) = true)
    (a__law_shifted : PySem.W.nsIn K mainGlobals "_law_shifted" = some (some (.ref f__law_shifted)))
    (l__law_shifted : K.lookup f__law_shifted = some ⟨oc__law_shifted, od__law_shifted, .func (PySem.W.fnOf "_law_shifted" "_law_shifted" (defArgs s__law_shifted) (defBody s__law_shifted) (defScope s__law_shifted) .none kV__law_shifted dc__law_shifted pm__law_shifted an__law_shifted cd__law_shifted ct__law_shifted), sl__law_shifted⟩)
    (c__law_shifted : PySem.W.codeIn K cd__law_shifted "_law_shifted" = true)
    (k__law_shifted : PySem.W.keepIn K (.ref f__law_shifted) = true)
    (a__law_goal : PySem.W.nsIn K mainGlobals "_law_goal" = some (some (.ref f__law_goal)))
    (l__law_goal : K.lookup f__law_goal = some ⟨oc__law_goal, od__law_goal, .func (PySem.W.fnOf "_law_goal" "_law_goal" (defArgs s__law_goal) (defBody s__law_goal) (defScope s__law_goal) .none kV__law_goal dc__law_goal pm__law_goal an__law_goal cd__law_goal ct__law_goal), sl__law_goal⟩)
    (c__law_goal : PySem.W.codeIn K cd__law_goal "_law_goal" = true)
    (k__law_goal : PySem.W.keepIn K (.ref f__law_goal) = true)
    (a__law_opened : PySem.W.nsIn K mainGlobals "_law_opened" = some (some (.ref f__law_opened)))
    (l__law_opened : K.lookup f__law_opened = some ⟨oc__law_opened, od__law_opened, .func (PySem.W.fnOf "_law_opened" "_law_opened" (defArgs s__law_opened) (defBody s__law_opened) (defScope s__law_opened) .none kV__law_opened dc__law_opened pm__law_opened an__law_opened cd__law_opened ct__law_opened), sl__law_opened⟩)
    (c__law_opened : PySem.W.codeIn K cd__law_opened "_law_opened" = true)
    (k__law_opened : PySem.W.keepIn K (.ref f__law_opened) = true)
    (a__law_mix : PySem.W.nsIn K mainGlobals "_law_mix" = some (some (.ref f__law_mix)))
    (l__law_mix : K.lookup f__law_mix = some ⟨oc__law_mix, od__law_mix, .func (PySem.W.fnOf "_law_mix" "_law_mix" (defArgs s__law_mix) (defBody s__law_mix) (defScope s__law_mix) .none kV__law_mix dc__law_mix pm__law_mix an__law_mix cd__law_mix ct__law_mix), sl__law_mix⟩)
    (c__law_mix : PySem.W.codeIn K cd__law_mix "_law_mix" = true)
    (k__law_mix : PySem.W.keepIn K (.ref f__law_mix) = true)
    (a_law : PySem.W.nsIn K mainGlobals "law" = some (some (.ref f_law)))
    (l_law : K.lookup f_law = some ⟨oc_law, od_law, .func (PySem.W.fnOf "law" "law" (defArgs s_law) (defBody s_law) (defScope s_law) .none kV_law dc_law pm_law an_law (.ref cL) ct_law), sl_law⟩)
    (c_law : PySem.W.codeIn K (.ref cL) "law" = true)
    
    (e_InvalidGoal : PySem.W.nsIn K mainGlobals "InvalidGoal" = some (some (.ref C_InvalidGoal)))
    (e_InvalidTable : PySem.W.nsIn K mainGlobals "InvalidTable" = some (some (.ref C_InvalidTable)))
    (e_NoSolution : PySem.W.nsIn K mainGlobals "NoSolution" = some (some (.ref C_NoSolution)))
    (topS : (PySem.Challenge.rw_crosslift_k34_whole_goals_opened_and_clo.prog.main.scope.names.lookup ("super" : Str)).isSome = false)
    (n_super : PySem.W.nsIn K mainGlobals "super" = some none)
    (n_any : PySem.W.nsIn K cStatics "thirdparty.any" = some none)
    (xL_InvalidGoal : K.lookup C_InvalidGoal = some (excClassObj nm_InvalidGoal q_InvalidGoal C_InvalidGoal N_InvalidGoal bs_InvalidGoal bm_InvalidGoal true sn_InvalidGoal sub_InvalidGoal ab_InvalidGoal col_InvalidGoal dd_InvalidGoal k0_InvalidGoal k1_InvalidGoal k2_InvalidGoal k3_InvalidGoal k5_InvalidGoal "ValueError.__new__"))
    (hbm_InvalidGoal : HandSPX.refsVE bm_InvalidGoal = true)
    (sa_InvalidGoal : PySem.W.findIn K (.ref C_InvalidGoal) "__setattr__" = some (some (.builtin "object.__setattr__")))
    (exC_InvalidGoal : PySem.W.subIn K (.ref C_InvalidGoal) (.type "BaseException") = some true)
    (tyC_InvalidGoal : PySem.W.typeIn K (.ref C_InvalidGoal) = some (.type "type"))
    (kC_InvalidGoal : PySem.W.keepIn K (.ref C_InvalidGoal) = true)
    (iC_InvalidGoal : PySem.W.findIn K (.ref C_InvalidGoal) "__init__" = some (some (.ref f1_InvalidGoal)))
    (tI_InvalidGoal : PySem.W.typeIn K (.ref f1_InvalidGoal) = some (.type "function"))
    (l1_InvalidGoal : K.lookup f1_InvalidGoal = some ⟨oc1_InvalidGoal, od1_InvalidGoal, .func (PySem.W.fnX "__init__" "InvalidGoal.__init__" (defArgs i_InvalidGoal) (defBody i_InvalidGoal) (defScope i_InvalidGoal) [(("__class__" : Str), cc_InvalidGoal)] .none kV1_InvalidGoal dc1_InvalidGoal pm1_InvalidGoal an1_InvalidGoal (.ref cda_InvalidGoal) ct1_InvalidGoal), sl1_InvalidGoal⟩)
    (c1_InvalidGoal : PySem.W.codeIn K (.ref cda_InvalidGoal) "InvalidGoal.__init__" = true)
    (lc_InvalidGoal : K.lookup cda_InvalidGoal = some ⟨o2_InvalidGoal, d2_InvalidGoal, .fields vs_InvalidGoal, sl2_InvalidGoal⟩)
    (hv_InvalidGoal : vs_InvalidGoal[2]? = some (.str file_InvalidGoal tf_InvalidGoal))
    (hf_InvalidGoal : ((PySem.Challenge.rw_crosslift_k34_whole_goals_opened_and_clo.prog.main.file : Str) == file_InvalidGoal) = true)
    (lcc_InvalidGoal : K.lookup cc_InvalidGoal = some ⟨o3_InvalidGoal, d3_InvalidGoal, .cell (some (.ref C_InvalidGoal)), sl3_InvalidGoal⟩)
    (su_InvalidGoal : PySem.W.ks_superIn K C_InvalidGoal C_InvalidGoal "__init__" = some (some (.builtin "ValueError.__init__")))
    (sb_InvalidGoal : PySem.W.subIn K (.ref C_InvalidGoal) (.type "ValueError") = some true)
    (mr_InvalidGoal : PySem.W.mroIn K C_InvalidGoal (.ref C_InvalidGoal) = some true)
    (no1_InvalidGoal : PySem.W.findIn K (.ref C_InvalidGoal) "row" = some none)
    (no2_InvalidGoal : PySem.W.findIn K (.ref C_InvalidGoal) "column" = some none)
    (xL_InvalidTable : K.lookup C_InvalidTable = some (excClassObj nm_InvalidTable q_InvalidTable C_InvalidTable N_InvalidTable bs_InvalidTable bm_InvalidTable true sn_InvalidTable sub_InvalidTable ab_InvalidTable col_InvalidTable dd_InvalidTable k0_InvalidTable k1_InvalidTable k2_InvalidTable k3_InvalidTable k5_InvalidTable "ValueError.__new__"))
    (hbm_InvalidTable : HandSPX.refsVE bm_InvalidTable = true)
    (sa_InvalidTable : PySem.W.findIn K (.ref C_InvalidTable) "__setattr__" = some (some (.builtin "object.__setattr__")))
    (exC_InvalidTable : PySem.W.subIn K (.ref C_InvalidTable) (.type "BaseException") = some true)
    (tyC_InvalidTable : PySem.W.typeIn K (.ref C_InvalidTable) = some (.type "type"))
    (kC_InvalidTable : PySem.W.keepIn K (.ref C_InvalidTable) = true)
    (iC_InvalidTable : PySem.W.findIn K (.ref C_InvalidTable) "__init__" = some (some (.ref f1_InvalidTable)))
    (tI_InvalidTable : PySem.W.typeIn K (.ref f1_InvalidTable) = some (.type "function"))
    (l1_InvalidTable : K.lookup f1_InvalidTable = some ⟨oc1_InvalidTable, od1_InvalidTable, .func (PySem.W.fnX "__init__" "InvalidTable.__init__" (defArgs i_InvalidTable) (defBody i_InvalidTable) (defScope i_InvalidTable) [(("__class__" : Str), cc_InvalidTable)] .none kV1_InvalidTable dc1_InvalidTable pm1_InvalidTable an1_InvalidTable (.ref cda_InvalidTable) ct1_InvalidTable), sl1_InvalidTable⟩)
    (c1_InvalidTable : PySem.W.codeIn K (.ref cda_InvalidTable) "InvalidTable.__init__" = true)
    (lc_InvalidTable : K.lookup cda_InvalidTable = some ⟨o2_InvalidTable, d2_InvalidTable, .fields vs_InvalidTable, sl2_InvalidTable⟩)
    (hv_InvalidTable : vs_InvalidTable[2]? = some (.str file_InvalidTable tf_InvalidTable))
    (hf_InvalidTable : ((PySem.Challenge.rw_crosslift_k34_whole_goals_opened_and_clo.prog.main.file : Str) == file_InvalidTable) = true)
    (lcc_InvalidTable : K.lookup cc_InvalidTable = some ⟨o3_InvalidTable, d3_InvalidTable, .cell (some (.ref C_InvalidTable)), sl3_InvalidTable⟩)
    (su_InvalidTable : PySem.W.ks_superIn K C_InvalidTable C_InvalidTable "__init__" = some (some (.builtin "ValueError.__init__")))
    (sb_InvalidTable : PySem.W.subIn K (.ref C_InvalidTable) (.type "ValueError") = some true)
    (mr_InvalidTable : PySem.W.mroIn K C_InvalidTable (.ref C_InvalidTable) = some true)
    (no1_InvalidTable : PySem.W.findIn K (.ref C_InvalidTable) "part" = some none)
    (no2_InvalidTable : PySem.W.findIn K (.ref C_InvalidTable) "index" = some none)
    (x0_NoSolution : PySem.W.excIn K C_NoSolution [.type "ValueError", .type "Exception", .type "BaseException", .type "object"] "ValueError.__new__" = true)
    (x1_NoSolution : PySem.W.keepIn K (.ref C_NoSolution) = true)
    (x2_NoSolution : PySem.W.subIn K (.ref C_NoSolution) (.type "BaseException") = some true)
    (x3_NoSolution : PySem.W.typeIn K (.ref C_NoSolution) = some (.type "type")) :
    LamX.LawAtS PySem.Challenge.rw_crosslift_k34_whole_goals_opened_and_clo w K CX0 11 63 "_law_script" mg fa h := by
  have e0 := hfa.symm.trans (PySem.W.mg_of X G a_law)
  cases e0
  have T : Txt mg := ⟨PySem.W.mg_none_of X G n_abs, PySem.W.mg_none_of X G n_all, PySem.W.mg_none_of X G n_bool, ⟨_, PySem.W.mg_of X G n_c_LARGEST_COST⟩, ⟨_, PySem.W.mg_of X G n_c_LARGEST_NUMBER⟩, ⟨_, PySem.W.mg_of X G n_c_LONGEST_SIDE⟩, ⟨_, PySem.W.mg_of X G n_c_SETTLED⟩, PySem.W.mg_none_of X G n_enumerate, PySem.W.mg_none_of X G n_int, PySem.W.mg_none_of X G n_isinstance, PySem.W.mg_none_of X G n_len, PySem.W.mg_none_of X G n_list, PySem.W.mg_none_of X G n_max, PySem.W.mg_none_of X G n_range, PySem.W.mg_none_of X G n_set, PySem.W.mg_none_of X G n_sorted, PySem.W.mg_none_of X G n_sum, PySem.W.mg_none_of X G n_tuple, PySem.W.mg_none_of X G n_zip⟩
  have F_is_integer := fun_mk (st := s_is_integer) l_is_integer c_is_integer k_is_integer
  have m_is_integer := PySem.W.mg_of X G a_is_integer
  have b_is_integer := F_is_integer.binds (ps := ["value", "low", "high"]) fun _ _ _ _ _ _ us hl => match us, hl with | [_, _, _], _ => rfl
  have F_is_number := fun_mk (st := s_is_number) l_is_number c_is_number k_is_number
  have m_is_number := PySem.W.mg_of X G a_is_number
  have b_is_number := F_is_number.binds (ps := ["value"]) fun _ _ _ _ _ _ us hl => match us, hl with | [_], _ => rfl
  have F_is_cost := fun_mk (st := s_is_cost) l_is_cost c_is_cost k_is_cost
  have m_is_cost := PySem.W.mg_of X G a_is_cost
  have b_is_cost := F_is_cost.binds (ps := ["value"]) fun _ _ _ _ _ _ us hl => match us, hl with | [_], _ => rfl
  have F_is_goal_entry := fun_mk (st := s_is_goal_entry) l_is_goal_entry c_is_goal_entry k_is_goal_entry
  have m_is_goal_entry := PySem.W.mg_of X G a_is_goal_entry
  have b_is_goal_entry := F_is_goal_entry.binds (ps := ["value"]) fun _ _ _ _ _ _ us hl => match us, hl with | [_], _ => rfl
  have F_is_row := fun_mk (st := s_is_row) l_is_row c_is_row k_is_row
  have m_is_row := PySem.W.mg_of X G a_is_row
  have b_is_row := F_is_row.binds (ps := ["row", "length"]) fun _ _ _ _ _ _ us hl => match us, hl with | [_, _], _ => rfl
  have F_first_wrong_row := fun_mk (st := s_first_wrong_row) l_first_wrong_row c_first_wrong_row k_first_wrong_row
  have m_first_wrong_row := PySem.W.mg_of X G a_first_wrong_row
  have b_first_wrong_row := F_first_wrong_row.binds (ps := ["cells"]) fun _ _ _ _ _ _ us hl => match us, hl with | [_], _ => rfl
  have F_first_wrong_entry := fun_mk (st := s_first_wrong_entry) l_first_wrong_entry c_first_wrong_entry k_first_wrong_entry
  have m_first_wrong_entry := PySem.W.mg_of X G a_first_wrong_entry
  have b_first_wrong_entry := F_first_wrong_entry.binds (ps := ["entries", "length", "is_valid"]) fun _ _ _ _ _ _ us hl => match us, hl with | [_, _, _], _ => rfl
  have F_check_costs := fun_mk (st := s_check_costs) l_check_costs c_check_costs k_check_costs
  have m_check_costs := PySem.W.mg_of X G a_check_costs
  have b_check_costs := F_check_costs.binds (ps := ["part", "costs", "length"]) fun _ _ _ _ _ _ us hl => match us, hl with | [_, _, _], _ => rfl
  have F_check_table := fun_mk (st := s_check_table) l_check_table c_check_table k_check_table
  have m_check_table := PySem.W.mg_of X G a_check_table
  have b_check_table := F_check_table.binds (ps := ["table"]) fun _ _ _ _ _ _ us hl => match us, hl with | [_], _ => rfl
  have F_check_goal := fun_mk (st := s_check_goal) l_check_goal c_check_goal k_check_goal
  have m_check_goal := PySem.W.mg_of X G a_check_goal
  have b_check_goal := F_check_goal.binds (ps := ["cells", "goal"]) fun _ _ _ _ _ _ us hl => match us, hl with | [_, _], _ => rfl
  have F_line_costs := fun_mk (st := s_line_costs) l_line_costs c_line_costs k_line_costs
  have m_line_costs := PySem.W.mg_of X G a_line_costs
  have b_line_costs := F_line_costs.binds (ps := ["table"]) fun _ _ _ _ _ _ us hl => match us, hl with | [_], _ => rfl
  have F_build_graph := fun_mk (st := s_build_graph) l_build_graph c_build_graph k_build_graph
  have m_build_graph := PySem.W.mg_of X G a_build_graph
  have b_build_graph := F_build_graph.binds (ps := ["cells", "goal"]) fun _ _ _ _ _ _ us hl => match us, hl with | [_, _], _ => rfl
  have F_tree_from := fun_mk (st := s_tree_from) l_tree_from c_tree_from k_tree_from
  have m_tree_from := PySem.W.mg_of X G a_tree_from
  have b_tree_from := F_tree_from.binds (ps := ["graph", "root"]) fun _ _ _ _ _ _ us hl => match us, hl with | [_, _], _ => rfl
  have F_path_in_tree := fun_mk (st := s_path_in_tree) l_path_in_tree c_path_in_tree k_path_in_tree
  have m_path_in_tree := PySem.W.mg_of X G a_path_in_tree
  have b_path_in_tree := F_path_in_tree.binds (ps := ["tree", "line"]) fun _ _ _ _ _ _ us hl => match us, hl with | [_, _], _ => rfl
  have F_shifts_in_tree := fun_mk (st := s_shifts_in_tree) l_shifts_in_tree c_shifts_in_tree k_shifts_in_tree
  have m_shifts_in_tree := PySem.W.mg_of X G a_shifts_in_tree
  have b_shifts_in_tree := F_shifts_in_tree.binds (ps := ["graph", "tree", "root_shift"]) fun _ _ _ _ _ _ us hl => match us, hl with | [_, _, _], _ => rfl
  have F_group_lines := fun_mk (st := s_group_lines) l_group_lines c_group_lines k_group_lines
  have m_group_lines := PySem.W.mg_of X G a_group_lines
  have b_group_lines := F_group_lines.binds (ps := ["graph"]) fun _ _ _ _ _ _ us hl => match us, hl with | [_], _ => rfl
  have F_anchor_line := fun_mk (st := s_anchor_line) l_anchor_line c_anchor_line k_anchor_line
  have m_anchor_line := PySem.W.mg_of X G a_anchor_line
  have b_anchor_line := F_anchor_line.binds (ps := ["costs", "group"]) fun _ _ _ _ _ _ us hl => match us, hl with | [_, _], _ => rfl
  have F_contradiction_in_group := fun_mk (st := s_contradiction_in_group) l_contradiction_in_group c_contradiction_in_group k_contradiction_in_group
  have m_contradiction_in_group := PySem.W.mg_of X G a_contradiction_in_group
  have b_contradiction_in_group := F_contradiction_in_group.binds (ps := ["graph", "costs", "group"]) fun _ _ _ _ _ _ us hl => match us, hl with | [_, _, _], _ => rfl
  have F_contradiction_in_graph := fun_mk (st := s_contradiction_in_graph) l_contradiction_in_graph c_contradiction_in_graph k_contradiction_in_graph
  have m_contradiction_in_graph := PySem.W.mg_of X G a_contradiction_in_graph
  have b_contradiction_in_graph := F_contradiction_in_graph.binds (ps := ["graph", "costs"]) fun _ _ _ _ _ _ us hl => match us, hl with | [_, _], _ => rfl
  have F_shift_cells := fun_mk (st := s_shift_cells) l_shift_cells c_shift_cells k_shift_cells
  have m_shift_cells := PySem.W.mg_of X G a_shift_cells
  have b_shift_cells := F_shift_cells.binds (ps := ["cells", "shifts"]) fun _ _ _ _ _ _ us hl => match us, hl with | [_, _], _ => rfl
  have F_first_bend := fun_mk (st := s_first_bend) l_first_bend c_first_bend k_first_bend
  have m_first_bend := PySem.W.mg_of X G a_first_bend
  have b_first_bend := F_first_bend.binds (ps := ["bends", "wanted"]) fun _ _ _ _ _ _ us hl => match us, hl with | [_, _], _ => rfl
  have F_cheapest_range := fun_mk (st := s_cheapest_range) l_cheapest_range c_cheapest_range k_cheapest_range
  have m_cheapest_range := PySem.W.mg_of X G a_cheapest_range
  have b_cheapest_range := F_cheapest_range.binds (ps := ["bends"]) fun _ _ _ _ _ _ us hl => match us, hl with | [_], _ => rfl
  have F_first_line_range := fun_mk (st := s_first_line_range) l_first_line_range c_first_line_range k_first_line_range
  have m_first_line_range := PySem.W.mg_of X G a_first_line_range
  have b_first_line_range := F_first_line_range.binds (ps := ["graph", "costs", "rows", "group"]) fun _ _ _ _ _ _ us hl => match us, hl with | [_, _, _, _], _ => rfl
  have F_cheapest_shifts := fun_mk (st := s_cheapest_shifts) l_cheapest_shifts c_cheapest_shifts k_cheapest_shifts
  have m_cheapest_shifts := PySem.W.mg_of X G a_cheapest_shifts
  have b_cheapest_shifts := F_cheapest_shifts.binds (ps := ["cells", "costs", "goal"]) fun _ _ _ _ _ _ us hl => match us, hl with | [_, _, _], _ => rfl
  have F_shifts_to_goal := fun_mk (st := s_shifts_to_goal) l_shifts_to_goal c_shifts_to_goal k_shifts_to_goal
  have m_shifts_to_goal := PySem.W.mg_of X G a_shifts_to_goal
  have b_shifts_to_goal := F_shifts_to_goal.binds (ps := ["cells", "costs", "goal"]) fun _ _ _ _ _ _ us hl => match us, hl with | [_, _, _], _ => rfl
  have F_minimum_cost := fun_mk (st := s_minimum_cost) l_minimum_cost c_minimum_cost k_minimum_cost
  have m_minimum_cost := PySem.W.mg_of X G a_minimum_cost
  have b_minimum_cost := F_minimum_cost.binds (ps := ["table", "goal"]) fun _ _ _ _ _ _ us hl => match us, hl with | [_, _], _ => rfl
  have F_dependence_labels := fun_mk (st := s_dependence_labels) l_dependence_labels c_dependence_labels k_dependence_labels
  have m_dependence_labels := PySem.W.mg_of X G a_dependence_labels
  have b_dependence_labels := F_dependence_labels.binds (ps := ["graph", "costs"]) fun _ _ _ _ _ _ us hl => match us, hl with | [_, _], _ => rfl
  have F_forced_cells := fun_mk (st := s_forced_cells) l_forced_cells c_forced_cells k_forced_cells
  have m_forced_cells := PySem.W.mg_of X G a_forced_cells
  have b_forced_cells := F_forced_cells.binds (ps := ["table", "goal"]) fun _ _ _ _ _ _ us hl => match us, hl with | [_, _], _ => rfl
  have F__law_next := fun_mk (st := s__law_next) l__law_next c__law_next k__law_next
  have m__law_next := PySem.W.mg_of X G a__law_next
  have b__law_next := F__law_next.binds (ps := ["_law_h", "_law_limit"]) fun _ _ _ _ _ _ us hl => match us, hl with | [_, _], _ => rfl
  have F__law_table := fun_mk (st := s__law_table) l__law_table c__law_table k__law_table
  have m__law_table := PySem.W.mg_of X G a__law_table
  have b__law_table := F__law_table.binds (ps := ["_law_h", "_law_most"]) fun _ _ _ _ _ _ us hl => match us, hl with | [_, _], _ => rfl
  have F__law_shifted := fun_mk (st := s__law_shifted) l__law_shifted c__law_shifted k__law_shifted
  have m__law_shifted := PySem.W.mg_of X G a__law_shifted
  have b__law_shifted := F__law_shifted.binds (ps := ["_law_cells", "_law_shifts"]) fun _ _ _ _ _ _ us hl => match us, hl with | [_, _], _ => rfl
  have F__law_goal := fun_mk (st := s__law_goal) l__law_goal c__law_goal k__law_goal
  have m__law_goal := PySem.W.mg_of X G a__law_goal
  have b__law_goal := F__law_goal.binds (ps := ["_law_h", "_law_table_here", "_law_spoiled"]) fun _ _ _ _ _ _ us hl => match us, hl with | [_, _, _], _ => rfl
  have F__law_opened := fun_mk (st := s__law_opened) l__law_opened c__law_opened k__law_opened
  have m__law_opened := PySem.W.mg_of X G a__law_opened
  have b__law_opened := F__law_opened.binds (ps := ["_law_goal_here", "_law_r", "_law_c", "_law_value"]) fun _ _ _ _ _ _ us hl => match us, hl with | [_, _, _, _], _ => rfl
  have F__law_mix := fun_mk (st := s__law_mix) l__law_mix c__law_mix k__law_mix
  have m__law_mix := PySem.W.mg_of X G a__law_mix
  have b__law_mix := F__law_mix.binds (ps := ["_law_script", "_law_seed"]) fun _ _ _ _ _ _ us hl => match us, hl with | [_, _], _ => rfl
  have I_InvalidGoal : IniT PySem.Challenge.rw_crosslift_k34_whole_goals_opened_and_clo.prog K mg C_InvalidGoal (nf_InvalidGoal cc_InvalidGoal cda_InvalidGoal) f1_InvalidGoal cc_InvalidGoal "self" := ⟨⟨⟨_, _, _, _, _, _, _, _, _, _, _, _, _, _, _, xL_InvalidGoal, hbm_InvalidGoal⟩, sa_InvalidGoal, exC_InvalidGoal, tyC_InvalidGoal, kC_InvalidGoal⟩, ⟨_, _, _, _, _, _, _, _, l1_InvalidGoal⟩, rfl, ⟨_, _, _, _, _, _, lc_InvalidGoal, hv_InvalidGoal, hf_InvalidGoal⟩, c1_InvalidGoal, ⟨_, _, _, lcc_InvalidGoal⟩, topS, PySem.W.mg_none_of X G n_super, su_InvalidGoal, sb_InvalidGoal, mr_InvalidGoal, n_any, ⟨_, rfl, rfl⟩⟩
  have I_InvalidTable : IniT PySem.Challenge.rw_crosslift_k34_whole_goals_opened_and_clo.prog K mg C_InvalidTable (nf_InvalidTable cc_InvalidTable cda_InvalidTable) f1_InvalidTable cc_InvalidTable "self" := ⟨⟨⟨_, _, _, _, _, _, _, _, _, _, _, _, _, _, _, xL_InvalidTable, hbm_InvalidTable⟩, sa_InvalidTable, exC_InvalidTable, tyC_InvalidTable, kC_InvalidTable⟩, ⟨_, _, _, _, _, _, _, _, l1_InvalidTable⟩, rfl, ⟨_, _, _, _, _, _, lc_InvalidTable, hv_InvalidTable, hf_InvalidTable⟩, c1_InvalidTable, ⟨_, _, _, lcc_InvalidTable⟩, topS, PySem.W.mg_none_of X G n_super, su_InvalidTable, sb_InvalidTable, mr_InvalidTable, n_any, ⟨_, rfl, rfl⟩⟩
  let Ad0 : Adr := { sA := 0, scA := 0, script := [], InvalidGoal := C_InvalidGoal, InvalidTable := C_InvalidTable, NoSolution := C_NoSolution, is_cost := f_is_cost, is_goal_entry := f_is_goal_entry }
  have hne : f_is_goal_entry ≠ f_is_cost := fun e => by
    subst e
    have h1 := congrArg nameOf (l_is_goal_entry.symm.trans l_is_cost)
    exact absurd (show ("is_goal_entry" : Str) = "is_cost" from h1) (by decide)
  refine ⟨PySem.W.fnOf "law" "law" (defArgs s_law) (defBody s_law) (defScope s_law) .none kV_law dc_law pm_law an_law (.ref cL) ct_law, [], spLaw K fun l a ns => ∃ en' om', b_law { Ad0 with sA := l, scA := a } (fun _ _ => none) ((List.replicate 15 none).set 1 (some (.opq l))) (mixH 34 ns, ns, 0) = some (.rt (.bl true), en', om'), ?_, ?_, ?_, ?_, ?_, ?_⟩
  · intro p hp; cases hp
  · intro p hp; cases hp
  · intro p hp; cases hp
  · exact fun s u => .of_eq rfl
  · intro H a ns hl hbits hT hS
    refine ⟨a, ns, rfl, hS, hl, fun l l2 => ?_, fun _ => rfl⟩
    obtain ⟨o, en', om', he, rfl⟩ := law_math (Ad := { Ad0 with sA := l, scA := l2 }) (out := fun _ _ => none) (om := (mixH 34 ns, ns, 0)) hne ⟨(by show (0 : Int) ≤ 0; omega), hl⟩
    exact ⟨en', om', he⟩
  · intro base KB GB TBs
    refine law_ok (Ad := Ad0) l_law c_law F__law_mix m__law_mix b__law_mix T (by decide : 1 ≤ 10) (out := fun _ _ => none) (fun W sA scA Dw A outer s H E Z Bo hr => ?_)
    let Ad : Adr := { Ad0 with sA := sA, scA := scA }
    have X_InvalidGoal : CEx PySem.Challenge.rw_crosslift_k34_whole_goals_opened_and_clo.prog w K mg base "InvalidGoal" Ad.InvalidGoal ["row", "column"] 1 := cx_InvalidGoal I_InvalidGoal iC_InvalidGoal tI_InvalidGoal (PySem.W.mg_of X G e_InvalidGoal) no1_InvalidGoal no2_InvalidGoal
    have X_InvalidTable : CEx PySem.Challenge.rw_crosslift_k34_whole_goals_opened_and_clo.prog w K mg base "InvalidTable" Ad.InvalidTable ["part", "index"] 1 := cx_InvalidTable I_InvalidTable iC_InvalidTable tI_InvalidTable (PySem.W.mg_of X G e_InvalidTable) no1_InvalidTable no2_InvalidTable
    have X_NoSolution : CE0 K mg "NoSolution" Ad.NoSolution := ⟨PySem.W.mg_of X G e_NoSolution, x0_NoSolution, x1_NoSolution, x2_NoSolution, x3_NoSolution⟩
    have D_is_integer : Def PySem.Challenge.rw_crosslift_k34_whole_goals_opened_and_clo.prog w K mg base W "is_integer" 1 ["value", "low", "high"] (M_is_integer Ad) := ok_is_integer F_is_integer m_is_integer b_is_integer T
    have D_is_number : Def PySem.Challenge.rw_crosslift_k34_whole_goals_opened_and_clo.prog w K mg base W "is_number" 2 ["value"] (M_is_number Ad) := ok_is_number F_is_number m_is_number b_is_number T D_is_integer
    have D_is_cost : Def PySem.Challenge.rw_crosslift_k34_whole_goals_opened_and_clo.prog w K mg base W "is_cost" 2 ["value"] (M_is_cost Ad) := ok_is_cost F_is_cost m_is_cost b_is_cost T D_is_integer
    have D_is_goal_entry : Def PySem.Challenge.rw_crosslift_k34_whole_goals_opened_and_clo.prog w K mg base W "is_goal_entry" 3 ["value"] (M_is_goal_entry Ad) := ok_is_goal_entry F_is_goal_entry m_is_goal_entry b_is_goal_entry T D_is_number
    have D_is_row : Def PySem.Challenge.rw_crosslift_k34_whole_goals_opened_and_clo.prog w K mg base W "is_row" 3 ["row", "length"] (M_is_row Ad) := ok_is_row F_is_row m_is_row b_is_row T D_is_number
    have D_first_wrong_row : Def PySem.Challenge.rw_crosslift_k34_whole_goals_opened_and_clo.prog w K mg base W "first_wrong_row" 4 ["cells"] (M_first_wrong_row Ad) := ok_first_wrong_row F_first_wrong_row m_first_wrong_row b_first_wrong_row T D_is_row
    have D_first_wrong_entry : Def PySem.Challenge.rw_crosslift_k34_whole_goals_opened_and_clo.prog w K mg base W "first_wrong_entry" 4 ["entries", "length", "is_valid"] (M_first_wrong_entry Ad) := ok_first_wrong_entry F_first_wrong_entry m_first_wrong_entry b_first_wrong_entry T D_is_cost D_is_goal_entry m_is_cost m_is_goal_entry
    have D_check_costs : DefX PySem.Challenge.rw_crosslift_k34_whole_goals_opened_and_clo.prog w K mg base W "check_costs" 5 ["part", "costs", "length"] (M_check_costs Ad) := ok_check_costs F_check_costs m_check_costs b_check_costs T D_first_wrong_entry X_InvalidTable m_is_cost
    have D_check_table : DefX PySem.Challenge.rw_crosslift_k34_whole_goals_opened_and_clo.prog w K mg base W "check_table" 6 ["table"] (M_check_table Ad) := ok_check_table F_check_table m_check_table b_check_table T D_check_costs D_first_wrong_row X_InvalidTable
    have D_check_goal : DefX PySem.Challenge.rw_crosslift_k34_whole_goals_opened_and_clo.prog w K mg base W "check_goal" 5 ["cells", "goal"] (M_check_goal Ad) := ok_check_goal F_check_goal m_check_goal b_check_goal T D_first_wrong_entry X_InvalidGoal m_is_goal_entry
    have D_line_costs : Def PySem.Challenge.rw_crosslift_k34_whole_goals_opened_and_clo.prog w K mg base W "line_costs" 1 ["table"] (M_line_costs Ad) := ok_line_costs F_line_costs m_line_costs b_line_costs T
    have D_build_graph : Def PySem.Challenge.rw_crosslift_k34_whole_goals_opened_and_clo.prog w K mg base W "build_graph" 1 ["cells", "goal"] (M_build_graph Ad) := ok_build_graph F_build_graph m_build_graph b_build_graph T
    have D_tree_from : Def PySem.Challenge.rw_crosslift_k34_whole_goals_opened_and_clo.prog w K mg base W "tree_from" 1 ["graph", "root"] (M_tree_from Ad) := ok_tree_from F_tree_from m_tree_from b_tree_from T
    have D_path_in_tree : Def PySem.Challenge.rw_crosslift_k34_whole_goals_opened_and_clo.prog w K mg base W "path_in_tree" 1 ["tree", "line"] (M_path_in_tree Ad) := ok_path_in_tree F_path_in_tree m_path_in_tree b_path_in_tree T
    have D_shifts_in_tree : Def PySem.Challenge.rw_crosslift_k34_whole_goals_opened_and_clo.prog w K mg base W "shifts_in_tree" 1 ["graph", "tree", "root_shift"] (M_shifts_in_tree Ad) := ok_shifts_in_tree F_shifts_in_tree m_shifts_in_tree b_shifts_in_tree T
    have D_group_lines : Def PySem.Challenge.rw_crosslift_k34_whole_goals_opened_and_clo.prog w K mg base W "group_lines" 2 ["graph"] (M_group_lines Ad) := ok_group_lines F_group_lines m_group_lines b_group_lines T (fun W => ok_tree_from F_tree_from m_tree_from b_tree_from T)
    have D_anchor_line : Def PySem.Challenge.rw_crosslift_k34_whole_goals_opened_and_clo.prog w K mg base W "anchor_line" 1 ["costs", "group"] (M_anchor_line Ad) := ok_anchor_line F_anchor_line m_anchor_line b_anchor_line T
    have D_contradiction_in_group : Def PySem.Challenge.rw_crosslift_k34_whole_goals_opened_and_clo.prog w K mg base W "contradiction_in_group" 2 ["graph", "costs", "group"] (M_contradiction_in_group Ad) := ok_contradiction_in_group F_contradiction_in_group m_contradiction_in_group b_contradiction_in_group T D_anchor_line D_path_in_tree D_shifts_in_tree D_tree_from
    have D_contradiction_in_graph : Def PySem.Challenge.rw_crosslift_k34_whole_goals_opened_and_clo.prog w K mg base W "contradiction_in_graph" 3 ["graph", "costs"] (M_contradiction_in_graph Ad) := ok_contradiction_in_graph F_contradiction_in_graph m_contradiction_in_graph b_contradiction_in_graph T D_contradiction_in_group D_group_lines
    have D_shift_cells : Def PySem.Challenge.rw_crosslift_k34_whole_goals_opened_and_clo.prog w K mg base W "shift_cells" 1 ["cells", "shifts"] (M_shift_cells Ad) := ok_shift_cells F_shift_cells m_shift_cells b_shift_cells T
    have D_first_bend : Def PySem.Challenge.rw_crosslift_k34_whole_goals_opened_and_clo.prog w K mg base W "first_bend" 1 ["bends", "wanted"] (M_first_bend Ad) := ok_first_bend F_first_bend m_first_bend b_first_bend T
    have D_cheapest_range : Def PySem.Challenge.rw_crosslift_k34_whole_goals_opened_and_clo.prog w K mg base W "cheapest_range" 2 ["bends"] (M_cheapest_range Ad) := ok_cheapest_range F_cheapest_range m_cheapest_range b_cheapest_range T D_first_bend
    have D_first_line_range : Def PySem.Challenge.rw_crosslift_k34_whole_goals_opened_and_clo.prog w K mg base W "first_line_range" 3 ["graph", "costs", "rows", "group"] (M_first_line_range Ad) := ok_first_line_range F_first_line_range m_first_line_range b_first_line_range T D_anchor_line D_cheapest_range D_shifts_in_tree D_tree_from
    have D_cheapest_shifts : Def PySem.Challenge.rw_crosslift_k34_whole_goals_opened_and_clo.prog w K mg base W "cheapest_shifts" 4 ["cells", "costs", "goal"] (M_cheapest_shifts Ad) := ok_cheapest_shifts F_cheapest_shifts m_cheapest_shifts b_cheapest_shifts T D_build_graph D_contradiction_in_graph D_first_line_range D_group_lines D_shifts_in_tree D_tree_from
    have D_shifts_to_goal : DefX PySem.Challenge.rw_crosslift_k34_whole_goals_opened_and_clo.prog w K mg base W "shifts_to_goal" 5 ["cells", "costs", "goal"] (M_shifts_to_goal Ad) := ok_shifts_to_goal F_shifts_to_goal m_shifts_to_goal b_shifts_to_goal T D_cheapest_shifts X_NoSolution
    have D_minimum_cost : DefX PySem.Challenge.rw_crosslift_k34_whole_goals_opened_and_clo.prog w K mg base W "minimum_cost" 7 ["table", "goal"] (M_minimum_cost Ad) := ok_minimum_cost F_minimum_cost m_minimum_cost b_minimum_cost T D_cheapest_shifts D_check_goal D_check_table D_line_costs
    have D_dependence_labels : Def PySem.Challenge.rw_crosslift_k34_whole_goals_opened_and_clo.prog w K mg base W "dependence_labels" 3 ["graph", "costs"] (M_dependence_labels Ad) := ok_dependence_labels F_dependence_labels m_dependence_labels b_dependence_labels T D_anchor_line D_group_lines
    have D_forced_cells : DefX PySem.Challenge.rw_crosslift_k34_whole_goals_opened_and_clo.prog w K mg base W "forced_cells" 7 ["table", "goal"] (M_forced_cells Ad) := ok_forced_cells F_forced_cells m_forced_cells b_forced_cells T D_build_graph D_check_goal D_check_table D_dependence_labels D_line_costs D_shift_cells D_shifts_to_goal
    have D__law_next : Def PySem.Challenge.rw_crosslift_k34_whole_goals_opened_and_clo.prog w K mg base W "_law_next" 1 ["_law_h", "_law_limit"] (M__law_next Ad) := ok__law_next F__law_next m__law_next b__law_next T Dw
    have D__law_table : Def PySem.Challenge.rw_crosslift_k34_whole_goals_opened_and_clo.prog w K mg base W "_law_table" 2 ["_law_h", "_law_most"] (M__law_table Ad) := ok__law_table F__law_table m__law_table b__law_table T D__law_next
    have D__law_shifted : Def PySem.Challenge.rw_crosslift_k34_whole_goals_opened_and_clo.prog w K mg base W "_law_shifted" 1 ["_law_cells", "_law_shifts"] (M__law_shifted Ad) := ok__law_shifted F__law_shifted m__law_shifted b__law_shifted T
    have D__law_goal : Def PySem.Challenge.rw_crosslift_k34_whole_goals_opened_and_clo.prog w K mg base W "_law_goal" 2 ["_law_h", "_law_table_here", "_law_spoiled"] (M__law_goal Ad) := ok__law_goal F__law_goal m__law_goal b__law_goal T D__law_next D__law_shifted
    have D__law_opened : Def PySem.Challenge.rw_crosslift_k34_whole_goals_opened_and_clo.prog w K mg base W "_law_opened" 1 ["_law_goal_here", "_law_r", "_law_c", "_law_value"] (M__law_opened Ad) := ok__law_opened F__law_opened m__law_opened b__law_opened T
    exact body_law (Ad := Ad) hr T D__law_goal D__law_opened D__law_shifted D__law_table D_forced_cells D_minimum_cost
end K
open PySem PySem.W PyProof.Rows in
set_option maxRecDepth 100000 in
set_option maxHeartbeats 0 in
theorem PySem.Challenge.cw_crosslift_k34_whole_goals_opened_and_clo_holds : PySem.Challenge.rw_crosslift_k34_whole_goals_opened_and_clo.Holds := by
  w_on; o_law; k_head; (case hw => w_witness2)
  k_fill
  refine LamX.walk_ofTs (k := 11) (l := PySem.Challenge.rw_crosslift_k34_whole_goals_opened_and_clo) (CX := fun _ => L2.CX0) (x := "_law_script") rfl (by decide) rfl ⟨rfl, by decide, by decide⟩ (fun w h Y => PySem.W.kIn_of Y) ?F (fun _ _ _ _ _ z => z)
  case F =>
    intro w mg fa h Y KX G hmg
    refine' K.law_at KX G hmg ?n_abs ?n_all ?n_bool ?n_c_LARGEST_COST ?n_c_LARGEST_NUMBER ?n_c_LONGEST_SIDE ?n_c_SETTLED ?n_enumerate ?n_int ?n_isinstance ?n_len ?n_list ?n_max ?n_range ?n_set ?n_sorted ?n_sum ?n_tuple ?n_zip ?a_is_integer ?l_is_integer ?c_is_integer ?k_is_integer ?a_is_number ?l_is_number ?c_is_number ?k_is_number ?a_is_cost ?l_is_cost ?c_is_cost ?k_is_cost ?a_is_goal_entry ?l_is_goal_entry ?c_is_goal_entry ?k_is_goal_entry ?a_is_row ?l_is_row ?c_is_row ?k_is_row ?a_first_wrong_row ?l_first_wrong_row ?c_first_wrong_row ?k_first_wrong_row ?a_first_wrong_entry ?l_first_wrong_entry ?c_first_wrong_entry ?k_first_wrong_entry ?a_check_costs ?l_check_costs ?c_check_costs ?k_check_costs ?a_check_table ?l_check_table ?c_check_table ?k_check_table ?a_check_goal ?l_check_goal ?c_check_goal ?k_check_goal ?a_line_costs ?l_line_costs ?c_line_costs ?k_line_costs ?a_build_graph ?l_build_graph ?c_build_graph ?k_build_graph ?a_tree_from ?l_tree_from ?c_tree_from ?k_tree_from ?a_path_in_tree ?l_path_in_tree ?c_path_in_tree ?k_path_in_tree ?a_shifts_in_tree ?l_shifts_in_tree ?c_shifts_in_tree ?k_shifts_in_tree ?a_group_lines ?l_group_lines ?c_group_lines ?k_group_lines ?a_anchor_line ?l_anchor_line ?c_anchor_line ?k_anchor_line ?a_contradiction_in_group ?l_contradiction_in_group ?c_contradiction_in_group ?k_contradiction_in_group ?a_contradiction_in_graph ?l_contradiction_in_graph ?c_contradiction_in_graph ?k_contradiction_in_graph ?a_shift_cells ?l_shift_cells ?c_shift_cells ?k_shift_cells ?a_first_bend ?l_first_bend ?c_first_bend ?k_first_bend ?a_cheapest_range ?l_cheapest_range ?c_cheapest_range ?k_cheapest_range ?a_first_line_range ?l_first_line_range ?c_first_line_range ?k_first_line_range ?a_cheapest_shifts ?l_cheapest_shifts ?c_cheapest_shifts ?k_cheapest_shifts ?a_shifts_to_goal ?l_shifts_to_goal ?c_shifts_to_goal ?k_shifts_to_goal ?a_minimum_cost ?l_minimum_cost ?c_minimum_cost ?k_minimum_cost ?a_dependence_labels ?l_dependence_labels ?c_dependence_labels ?k_dependence_labels ?a_forced_cells ?l_forced_cells ?c_forced_cells ?k_forced_cells ?a__law_next ?l__law_next ?c__law_next ?k__law_next ?a__law_table ?l__law_table ?c__law_table ?k__law_table ?a__law_shifted ?l__law_shifted ?c__law_shifted ?k__law_shifted ?a__law_goal ?l__law_goal ?c__law_goal ?k__law_goal ?a__law_opened ?l__law_opened ?c__law_opened ?k__law_opened ?a__law_mix ?l__law_mix ?c__law_mix ?k__law_mix ?a_law ?l_law ?c_law  ?e_InvalidGoal ?e_InvalidTable ?e_NoSolution ?topS ?n_super ?n_any ?xL_InvalidGoal ?hbm_InvalidGoal ?sa_InvalidGoal ?exC_InvalidGoal ?tyC_InvalidGoal ?kC_InvalidGoal ?iC_InvalidGoal ?tI_InvalidGoal ?l1_InvalidGoal ?c1_InvalidGoal ?lc_InvalidGoal ?hv_InvalidGoal ?hf_InvalidGoal ?lcc_InvalidGoal ?su_InvalidGoal ?sb_InvalidGoal ?mr_InvalidGoal ?no1_InvalidGoal ?no2_InvalidGoal ?xL_InvalidTable ?hbm_InvalidTable ?sa_InvalidTable ?exC_InvalidTable ?tyC_InvalidTable ?kC_InvalidTable ?iC_InvalidTable ?tI_InvalidTable ?l1_InvalidTable ?c1_InvalidTable ?lc_InvalidTable ?hv_InvalidTable ?hf_InvalidTable ?lcc_InvalidTable ?su_InvalidTable ?sb_InvalidTable ?mr_InvalidTable ?no1_InvalidTable ?no2_InvalidTable ?x0_NoSolution ?x1_NoSolution ?x2_NoSolution ?x3_NoSolution
    (case n_abs => k_is)
    (case n_all => k_is)
    (case n_bool => k_is)
    (case n_c_LARGEST_COST => k_is)
    (case n_c_LARGEST_NUMBER => k_is)
    (case n_c_LONGEST_SIDE => k_is)
    (case n_c_SETTLED => k_is)
    (case n_enumerate => k_is)
    (case n_int => k_is)
    (case n_isinstance => k_is)
    (case n_len => k_is)
    (case n_list => k_is)
    (case n_max => k_is)
    (case n_range => k_is)
    (case n_set => k_is)
    (case n_sorted => k_is)
    (case n_sum => k_is)
    (case n_tuple => k_is)
    (case n_zip => k_is)
    (case a_is_integer => k_is)
    (case l_is_integer => k_is)
    (case c_is_integer => k_is)
    (case k_is_integer => k_is)
    (case a_is_number => k_is)
    (case l_is_number => k_is)
    (case c_is_number => k_is)
    (case k_is_number => k_is)
    (case a_is_cost => k_is)
    (case l_is_cost => k_is)
    (case c_is_cost => k_is)
    (case k_is_cost => k_is)
    (case a_is_goal_entry => k_is)
    (case l_is_goal_entry => k_is)
    (case c_is_goal_entry => k_is)
    (case k_is_goal_entry => k_is)
    (case a_is_row => k_is)
    (case l_is_row => k_is)
    (case c_is_row => k_is)
    (case k_is_row => k_is)
    (case a_first_wrong_row => k_is)
    (case l_first_wrong_row => k_is)
    (case c_first_wrong_row => k_is)
    (case k_first_wrong_row => k_is)
    (case a_first_wrong_entry => k_is)
    (case l_first_wrong_entry => k_is)
    (case c_first_wrong_entry => k_is)
    (case k_first_wrong_entry => k_is)
    (case a_check_costs => k_is)
    (case l_check_costs => k_is)
    (case c_check_costs => k_is)
    (case k_check_costs => k_is)
    (case a_check_table => k_is)
    (case l_check_table => k_is)
    (case c_check_table => k_is)
    (case k_check_table => k_is)
    (case a_check_goal => k_is)
    (case l_check_goal => k_is)
    (case c_check_goal => k_is)
    (case k_check_goal => k_is)
    (case a_line_costs => k_is)
    (case l_line_costs => k_is)
    (case c_line_costs => k_is)
    (case k_line_costs => k_is)
    (case a_build_graph => k_is)
    (case l_build_graph => k_is)
    (case c_build_graph => k_is)
    (case k_build_graph => k_is)
    (case a_tree_from => k_is)
    (case l_tree_from => k_is)
    (case c_tree_from => k_is)
    (case k_tree_from => k_is)
    (case a_path_in_tree => k_is)
    (case l_path_in_tree => k_is)
    (case c_path_in_tree => k_is)
    (case k_path_in_tree => k_is)
    (case a_shifts_in_tree => k_is)
    (case l_shifts_in_tree => k_is)
    (case c_shifts_in_tree => k_is)
    (case k_shifts_in_tree => k_is)
    (case a_group_lines => k_is)
    (case l_group_lines => k_is)
    (case c_group_lines => k_is)
    (case k_group_lines => k_is)
    (case a_anchor_line => k_is)
    (case l_anchor_line => k_is)
    (case c_anchor_line => k_is)
    (case k_anchor_line => k_is)
    (case a_contradiction_in_group => k_is)
    (case l_contradiction_in_group => k_is)
    (case c_contradiction_in_group => k_is)
    (case k_contradiction_in_group => k_is)
    (case a_contradiction_in_graph => k_is)
    (case l_contradiction_in_graph => k_is)
    (case c_contradiction_in_graph => k_is)
    (case k_contradiction_in_graph => k_is)
    (case a_shift_cells => k_is)
    (case l_shift_cells => k_is)
    (case c_shift_cells => k_is)
    (case k_shift_cells => k_is)
    (case a_first_bend => k_is)
    (case l_first_bend => k_is)
    (case c_first_bend => k_is)
    (case k_first_bend => k_is)
    (case a_cheapest_range => k_is)
    (case l_cheapest_range => k_is)
    (case c_cheapest_range => k_is)
    (case k_cheapest_range => k_is)
    (case a_first_line_range => k_is)
    (case l_first_line_range => k_is)
    (case c_first_line_range => k_is)
    (case k_first_line_range => k_is)
    (case a_cheapest_shifts => k_is)
    (case l_cheapest_shifts => k_is)
    (case c_cheapest_shifts => k_is)
    (case k_cheapest_shifts => k_is)
    (case a_shifts_to_goal => k_is)
    (case l_shifts_to_goal => k_is)
    (case c_shifts_to_goal => k_is)
    (case k_shifts_to_goal => k_is)
    (case a_minimum_cost => k_is)
    (case l_minimum_cost => k_is)
    (case c_minimum_cost => k_is)
    (case k_minimum_cost => k_is)
    (case a_dependence_labels => k_is)
    (case l_dependence_labels => k_is)
    (case c_dependence_labels => k_is)
    (case k_dependence_labels => k_is)
    (case a_forced_cells => k_is)
    (case l_forced_cells => k_is)
    (case c_forced_cells => k_is)
    (case k_forced_cells => k_is)
    (case a__law_next => k_is)
    (case l__law_next => k_is)
    (case c__law_next => k_is)
    (case k__law_next => k_is)
    (case a__law_table => k_is)
    (case l__law_table => k_is)
    (case c__law_table => k_is)
    (case k__law_table => k_is)
    (case a__law_shifted => k_is)
    (case l__law_shifted => k_is)
    (case c__law_shifted => k_is)
    (case k__law_shifted => k_is)
    (case a__law_goal => k_is)
    (case l__law_goal => k_is)
    (case c__law_goal => k_is)
    (case k__law_goal => k_is)
    (case a__law_opened => k_is)
    (case l__law_opened => k_is)
    (case c__law_opened => k_is)
    (case k__law_opened => k_is)
    (case a__law_mix => k_is)
    (case l__law_mix => k_is)
    (case c__law_mix => k_is)
    (case k__law_mix => k_is)
    (case a_law => k_is)
    (case l_law => k_is)
    (case c_law => k_is)
    (case e_InvalidGoal => k_is)
    (case e_InvalidTable => k_is)
    (case e_NoSolution => k_is)
    (case topS => first | rfl | decide +kernel)
    (case n_super => k_is)
    (case n_any => k_is)
    (case xL_InvalidGoal => k_is)
    (case hbm_InvalidGoal => first | rfl | decide +kernel)
    (case sa_InvalidGoal => k_is)
    (case exC_InvalidGoal => k_is)
    (case tyC_InvalidGoal => k_is)
    (case kC_InvalidGoal => k_is)
    (case iC_InvalidGoal => k_is)
    (case tI_InvalidGoal => k_is)
    (case l1_InvalidGoal => k_is)
    (case c1_InvalidGoal => k_is)
    (case lc_InvalidGoal => k_is)
    (case hv_InvalidGoal => rfl)
    (case hf_InvalidGoal => first | rfl | decide +kernel)
    (case lcc_InvalidGoal => k_is)
    (case su_InvalidGoal => first | k_is | ks_is)
    (case sb_InvalidGoal => k_is)
    (case mr_InvalidGoal => k_is)
    (case no1_InvalidGoal => k_is)
    (case no2_InvalidGoal => k_is)
    (case xL_InvalidTable => k_is)
    (case hbm_InvalidTable => first | rfl | decide +kernel)
    (case sa_InvalidTable => k_is)
    (case exC_InvalidTable => k_is)
    (case tyC_InvalidTable => k_is)
    (case kC_InvalidTable => k_is)
    (case iC_InvalidTable => k_is)
    (case tI_InvalidTable => k_is)
    (case l1_InvalidTable => k_is)
    (case c1_InvalidTable => k_is)
    (case lc_InvalidTable => k_is)
    (case hv_InvalidTable => rfl)
    (case hf_InvalidTable => first | rfl | decide +kernel)
    (case lcc_InvalidTable => k_is)
    (case su_InvalidTable => first | k_is | ks_is)
    (case sb_InvalidTable => k_is)
    (case mr_InvalidTable => k_is)
    (case no1_InvalidTable => k_is)
    (case no2_InvalidTable => k_is)
    (case x0_NoSolution => first | k_exc | decide +kernel | k_is)
    (case x1_NoSolution => k_is)
    (case x2_NoSolution => k_is)
    (case x3_NoSolution => k_is)

