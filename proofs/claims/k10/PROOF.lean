import PyProof.Rows.All
import Wide.All
import OpenK.AllK
import Wide.FinOn
import HandS.ForMost
import HandS.Walk
import HandS.Zip
import HandS.IsInst
import HandS.Steps
import HandS.DeepEq
import HandS.TupAny
import HandS.SortInts
import HandS.Conv
import HandS.Text
import HandS.Deep
import PyProof.StrBlock2
import HandS.DictComp
import HandS.Comp
import KE.SortCalls
import HandS.Ends
import HandS.Small
import HandS.More
import HandS.WordsDict
import HandS.TupLe
import HandS.SetFor
import KE.KRevSl
import HandS.Style
import KE.KTupSum
import KE.DataMinMax
import KE.GoesEnum
import HandS.Iter
import HandS.EndBits
import PyProof.ReprRoads
import PyProof.CallFns
import PyProof.ReprLen
import HandS.ListItems
import HandS.Strs
import HandS.Star
import HandS.TupMul
import PySem.Challenge.RW_poolhopes_k10_questions_and_hopes_recogn
set_option Elab.async false
set_option linter.all false
set_option maxRecDepth 100000
section
/-! Lin: pure data over the hand layer; owned lists and dicts are trees with footprints. -/
namespace Lin
open PySem L2

/-- frozen data: nobody changes it any more -/
inductive D where
  | none | bool (b : Bool) | int (i : Int) | str (s : Str)
  | tup (xs : List D) | lst (xs : List D)
  | dK (ks : List Key) (xs : List D) | dT (ks : List (List Key)) (xs : List D)
  | ins (C : Addr) (fs : List Str) (xs : List D)
  /-- the script -/
  | scr (ns : List Int)

/-- a thing that is owned: a tree of lists, dicts, instances over frozen data -/
inductive M where
  | val (d : D)
  | lst (ms : List M)
  | dK (ks : List Key) (ms : List M) | dT (ks : List (List Key)) (ms : List M)
  | ins (C : Addr) (fs : List Str) (ms : List M)

def WrL (K : PySem.W.Frag) (a : Addr) (xs : List V) : Prop :=
  ∃ (o : Obj) (its : Array Value) (n : Nat), K.lookup a = some o ∧ o.cls = .type "list" ∧ o.dict = none ∧ o.data = .seq its n ∧ its.size ≤ sizeLine ∧ Vals xs its.toList
def WrT (K : PySem.W.Frag) (a : Addr) (xs : List V) : Prop :=
  ∃ (o : Obj) (its : Array Value) (n : Nat), K.lookup a = some o ∧ o.cls = .type "tuple" ∧ o.data = .seq its n ∧ its.size ≤ sizeLine ∧ Vals xs its.toList

abbrev OW := Addr → Prop
section
variable (K : PySem.W.Frag) (O : OW) (H : Hp)
mutual
def Rep : D → V → Prop
  | .none, v => v = .non
  | .bool b, v => v = .bl b
  | .int i, v => v = .int i
  | .str s, v => v = .str s
  | .tup ds, v => ∃ a xs, v = .ref a ∧ ((¬ O a ∧ Rd H a (.tup xs)) ∨ WrT K a xs) ∧ RepL ds xs
  | .lst ds, v => ∃ a xs, v = .ref a ∧ ¬ O a ∧ H a = some (.lst xs) ∧ RepL ds xs
  | .dK ks ds, v => ∃ a kvs, v = .ref a ∧ ¬ O a ∧ Rd H a (.dK kvs) ∧ kvs.map (·.1) = ks ∧ RepL ds (kvs.map (·.2))
  | .dT ks ds, v => ∃ a kvs, v = .ref a ∧ ¬ O a ∧ Rd H a (.dT kvs) ∧ kvs.map (·.1) = ks ∧ RepL ds (kvs.map (·.2))
  | .ins C fs ds, v => ∃ a dx kvs, v = .ref a ∧ ¬ O a ∧ H a = some (.ins C dx kvs) ∧ kvs.map (·.1) = fs ∧ RepL ds (kvs.map (·.2))
  | .scr ns, v => ∃ a, v = .ref a ∧ ((¬ O a ∧ Rd H a (.lst (ns.map V.int))) ∨ WrL K a (ns.map V.int))
def RepL : List D → List V → Prop
  | [], xs => xs = []
  | d :: ds, xs => ∃ v vs, xs = v :: vs ∧ Rep d v ∧ RepL ds vs
end
mutual
def RepM : M → V → List Addr → Prop
  | .val d, v, F => F = [] ∧ Rep K O H d v
  | .lst ms, v, F => ∃ a xs F', v = .ref a ∧ F = a :: F' ∧ H a = some (.lst xs) ∧ RepML ms xs F'
  | .dK ks ms, v, F => ∃ a kvs F', v = .ref a ∧ F = a :: F' ∧ H a = some (.dK kvs) ∧ kvs.map (·.1) = ks ∧ RepML ms (kvs.map (·.2)) F'
  | .dT ks ms, v, F => ∃ a kvs F', v = .ref a ∧ F = a :: F' ∧ H a = some (.dT kvs) ∧ kvs.map (·.1) = ks ∧ RepML ms (kvs.map (·.2)) F'
  | .ins C fs ms, v, F => ∃ a dx kvs F', v = .ref a ∧ F = a :: F' ∧ H a = some (.ins C dx kvs) ∧ kvs.map (·.1) = fs ∧ RepML ms (kvs.map (·.2)) F'
def RepML : List M → List V → List Addr → Prop
  | [], xs, F => xs = [] ∧ F = []
  | m :: ms, xs, F => ∃ v vs F1 F2, xs = v :: vs ∧ F = F1 ++ F2 ∧ RepM m v F1 ∧ RepML ms vs F2
end
end

example (K : PySem.W.Frag) (O : OW) (H : Hp) (v : V) (h : Rep K O H (.int 3) v) : v = .int 3 := h

/-- what holds of a state's owned places -/
structure Wf (O : OW) (H : Hp) (F : List Addr) : Prop where
  nd : F.Nodup
  own : ∀ a ∈ F, O a
  dom : ∀ a, O a → ∃ o, H a = some o

/-- a step that may change the places F alone and leaves F' -/
structure Step (O : OW) (H : Hp) (F : List Addr) (O' : OW) (H' : Hp) (F' : List Addr) : Prop where
  frame : ∀ a o, H a = some o → a ∉ F → H' a = some o
  nw : ∀ a, O' a → O a ∨ H a = none
  old : ∀ a, O a → a ∉ F → O' a
  fp : ∀ a ∈ F', a ∈ F ∨ H a = none
  wf : Wf O' H' F'

theorem Step.refl {O : OW} {H : Hp} {F : List Addr} (w : Wf O H F) : Step O H F O H F :=
  ⟨fun _ _ h _ => h, fun _ h => .inl h, fun _ h _ => h, fun _ h => .inl h, w⟩
theorem none_or (H : Hp) (a : Addr) : H a = none ∨ ∃ o, H a = some o := by
  cases e : H a with
  | none => exact .inl rfl
  | some o => exact .inr ⟨o, rfl⟩
theorem Step.trans {O O1 O2 : OW} {H H1 H2 : Hp} {F F1 F2 : List Addr} (w : Wf O H F) (s : Step O H F O1 H1 F1) (t : Step O1 H1 F1 O2 H2 F2) : Step O H F O2 H2 F2 where
  frame := fun a o h hn => t.frame a o (s.frame a o h hn) fun h1 => by
    rcases s.fp a h1 with q | q
    · exact hn q
    · rw [h] at q; cases q
  nw := fun a h => by
    rcases none_or H a with q | ⟨o, q⟩
    · exact .inr q
    rcases t.nw a h with z | z
    · exact s.nw a z
    · by_cases hf : a ∈ F
      · exact .inl (w.own a hf)
      · have := s.frame a o q hf
        rw [z] at this; cases this
  old := fun a h hn => t.old a (s.old a h hn) fun h1 => by
    rcases s.fp a h1 with q | q
    · exact hn q
    · obtain ⟨o, e⟩ := w.dom a h
      rw [e] at q; cases q
  fp := fun a h => by
    rcases none_or H a with q | ⟨o, q⟩
    · exact .inr q
    rcases t.fp a h with z | z
    · exact s.fp a z
    · by_cases hf : a ∈ F
      · exact .inl hf
      · have := s.frame a o q hf
        rw [z] at this; cases this
  wf := t.wf

section
variable {K : PySem.W.Frag} {O O' : OW} {H H' : Hp}
theorem rd_keep {a : Addr} {u : HO} (k : ∀ a o, H a = some o → ¬ O a → H' a = some o) (hn : ¬ O a) (h : Rd H a u) : Rd H' a u := by
  rcases h with h | ⟨o, h⟩
  · exact .inl (k _ _ h hn)
  · exact .inr ⟨o, k _ _ h hn⟩
theorem no_keep {a : Addr} {u : HO} (n : ∀ a, O' a → O a ∨ H a = none) (hn : ¬ O a) (h : Rd H a u) : ¬ O' a := fun q => by
  rcases n a q with z | z
  · exact hn z
  · rcases h with h | ⟨o, h⟩
    · rw [h] at z; cases z
    · rw [h] at z; cases z
mutual
theorem Rep.keep (k : ∀ a o, H a = some o → ¬ O a → H' a = some o) (n : ∀ a, O' a → O a ∨ H a = none) : ∀ (d : D) {v : V}, Rep K O H d v → Rep K O' H' d v
  | .none, _, h => h
  | .bool _, _, h => h
  | .int _, _, h => h
  | .str _, _, h => h
  | .tup ds, _, ⟨a, xs, e, p, q⟩ => ⟨a, xs, e, p.imp (fun p => ⟨no_keep n p.1 p.2, rd_keep k p.1 p.2⟩) id, RepL.keep k n ds q⟩
  | .lst ds, _, ⟨a, xs, e, p, r, q⟩ => ⟨a, xs, e, no_keep n p (.inl r), k _ _ r p, RepL.keep k n ds q⟩
  | .dK ks ds, _, ⟨a, kvs, e, p, r, z, q⟩ => ⟨a, kvs, e, no_keep n p r, rd_keep k p r, z, RepL.keep k n ds q⟩
  | .dT ks ds, _, ⟨a, kvs, e, p, r, z, q⟩ => ⟨a, kvs, e, no_keep n p r, rd_keep k p r, z, RepL.keep k n ds q⟩
  | .ins C fs ds, _, ⟨a, dx, kvs, e, p, r, z, q⟩ => ⟨a, dx, kvs, e, no_keep n p (.inl r), k _ _ r p, z, RepL.keep k n ds q⟩
  | .scr ns, _, ⟨a, e, p⟩ => ⟨a, e, p.imp (fun p => ⟨no_keep n p.1 p.2, rd_keep k p.1 p.2⟩) id⟩
theorem RepL.keep (k : ∀ a o, H a = some o → ¬ O a → H' a = some o) (n : ∀ a, O' a → O a ∨ H a = none) : ∀ (ds : List D) {xs : List V}, RepL K O H ds xs → RepL K O' H' ds xs
  | [], _, h => h
  | d :: ds, _, ⟨v, vs, e, p, q⟩ => ⟨v, vs, e, Rep.keep k n d p, RepL.keep k n ds q⟩
end
mutual
theorem RepM.keep (k : ∀ a o, H a = some o → ¬ O a → H' a = some o) (n : ∀ a, O' a → O a ∨ H a = none) : ∀ (m : M) {v : V} {F : List Addr}, (∀ a o, a ∈ F → H a = some o → H' a = some o) → RepM K O H m v F → RepM K O' H' m v F
  | .val d, _, _, _, ⟨e, h⟩ => ⟨e, Rep.keep k n d h⟩
  | .lst ms, _, _, hf, ⟨a, xs, F', e, ef, h, r⟩ => ⟨a, xs, F', e, ef, hf a _ (ef ▸ List.mem_cons_self ..) h, RepML.keep k n ms (fun a o z => hf a o (ef ▸ List.mem_cons_of_mem _ z)) r⟩
  | .dK ks ms, _, _, hf, ⟨a, kvs, F', e, ef, h, z, r⟩ => ⟨a, kvs, F', e, ef, hf a _ (ef ▸ List.mem_cons_self ..) h, z, RepML.keep k n ms (fun a o z => hf a o (ef ▸ List.mem_cons_of_mem _ z)) r⟩
  | .dT ks ms, _, _, hf, ⟨a, kvs, F', e, ef, h, z, r⟩ => ⟨a, kvs, F', e, ef, hf a _ (ef ▸ List.mem_cons_self ..) h, z, RepML.keep k n ms (fun a o z => hf a o (ef ▸ List.mem_cons_of_mem _ z)) r⟩
  | .ins C fs ms, _, _, hf, ⟨a, dx, kvs, F', e, ef, h, z, r⟩ => ⟨a, dx, kvs, F', e, ef, hf a _ (ef ▸ List.mem_cons_self ..) h, z, RepML.keep k n ms (fun a o z => hf a o (ef ▸ List.mem_cons_of_mem _ z)) r⟩
theorem RepML.keep (k : ∀ a o, H a = some o → ¬ O a → H' a = some o) (n : ∀ a, O' a → O a ∨ H a = none) : ∀ (ms : List M) {xs : List V} {F : List Addr}, (∀ a o, a ∈ F → H a = some o → H' a = some o) → RepML K O H ms xs F → RepML K O' H' ms xs F
  | [], _, _, _, h => h
  | m :: ms, _, _, hf, ⟨v, vs, F1, F2, e, ef, p, q⟩ => ⟨v, vs, F1, F2, e, ef, RepM.keep k n m (fun a o z => hf a o (ef ▸ List.mem_append_left _ z)) p, RepML.keep k n ms (fun a o z => hf a o (ef ▸ List.mem_append_right _ z)) q⟩
end
end

/-- a slot: owned, or a parameter whose owner waits for it (it keeps its place) -/
inductive Sl where
  | own (m : M) | io (m : M)
def Sl.m : Sl → M
  | .own m => m
  | .io m => m
abbrev Sls := List (Option Sl)
abbrev vl (d : D) : Option Sl := some (.own (.val d))
section
variable (K : PySem.W.Frag) (O : OW) (H : Hp)
def RepS : Sls → L2.St → List Addr → Prop
  | [], σ, F => σ = [] ∧ F = []
  | none :: es, σ, F => ∃ o σ', σ = o :: σ' ∧ RepS es σ' F
  | some s :: es, σ, F => ∃ v σ' F1 F2, σ = some v :: σ' ∧ F = F1 ++ F2 ∧ RepM K O H s.m v F1 ∧ RepS es σ' F2
end
theorem RepS.keep {K : PySem.W.Frag} {O O' : OW} {H H' : Hp} (k : ∀ a o, H a = some o → ¬ O a → H' a = some o) (n : ∀ a, O' a → O a ∨ H a = none) : ∀ (es : Sls) {σ : L2.St} {F : List Addr}, (∀ a o, a ∈ F → H a = some o → H' a = some o) → RepS K O H es σ F → RepS K O' H' es σ F
  | [], _, _, _, h => h
  | none :: es, _, _, hf, ⟨o, σ', e, r⟩ => ⟨o, σ', e, RepS.keep k n es hf r⟩
  | some s :: es, _, _, hf, ⟨v, σ', F1, F2, e, ef, p, q⟩ => ⟨v, σ', F1, F2, e, ef, RepM.keep k n s.m (fun a o z => hf a o (ef ▸ List.mem_append_left _ z)) p, RepS.keep k n es (fun a o z => hf a o (ef ▸ List.mem_append_right _ z)) q⟩
end Lin

end

section
namespace Lin
open PySem L2

/-! ### lists of places -/
theorem Wf.perm {O : OW} {H : Hp} {F F2 : List Addr} (p : F.Perm F2) (w : Wf O H F) : Wf O H F2 :=
  ⟨p.nodup_iff.mp w.nd, fun a h => w.own a (p.mem_iff.mpr h), w.dom⟩
theorem Step.permL {O O' : OW} {H H' : Hp} {F F' F2 : List Addr} (p : F.Perm F2) (s : Step O H F O' H' F') : Step O H F2 O' H' F' :=
  ⟨fun a o h n => s.frame a o h fun q => n (p.mem_iff.mp q), s.nw, fun a h n => s.old a h fun q => n (p.mem_iff.mp q), fun a h => (s.fp a h).imp p.mem_iff.mp id, s.wf⟩
theorem Step.permR {O O' : OW} {H H' : Hp} {F F' F2 : List Addr} (p : F'.Perm F2) (s : Step O H F O' H' F') : Step O H F O' H' F2 :=
  ⟨s.frame, s.nw, s.old, fun a h => s.fp a (p.mem_iff.mpr h), s.wf.perm p⟩
theorem Wf.left {O : OW} {H : Hp} {F G : List Addr} (w : Wf O H (F ++ G)) : Wf O H F :=
  ⟨(List.nodup_append.mp w.nd).1, fun a h => w.own a (List.mem_append_left _ h), w.dom⟩
theorem Wf.right {O : OW} {H : Hp} {F G : List Addr} (w : Wf O H (F ++ G)) : Wf O H G :=
  ⟨(List.nodup_append.mp w.nd).2.1, fun a h => w.own a (List.mem_append_right _ h), w.dom⟩
theorem Wf.apart {O : OW} {H : Hp} {F G : List Addr} (w : Wf O H (F ++ G)) {a : Addr} (h : a ∈ F) (g : a ∈ G) : False :=
  (List.nodup_append.mp w.nd).2.2 a h a g rfl
/-- places may be forgotten -/
theorem Step.dropR {O O' : OW} {H H' : Hp} {F F' G : List Addr} (s : Step O H F O' H' (F' ++ G)) : Step O H F O' H' F' :=
  ⟨s.frame, s.nw, s.old, fun a h => s.fp a (List.mem_append_left _ h), s.wf.left⟩
theorem Step.dropL {O O' : OW} {H H' : Hp} {F F' G : List Addr} (s : Step O H F O' H' (G ++ F')) : Step O H F O' H' F' :=
  ⟨s.frame, s.nw, s.old, fun a h => s.fp a (List.mem_append_right _ h), s.wf.right⟩
/-- a step beside places that it doesn't know -/
theorem Step.beside {O O' : OW} {H H' : Hp} {F F' R : List Addr} (w : Wf O H (F ++ R)) (s : Step O H F O' H' F') : Step O H (F ++ R) O' H' (F' ++ R) where
  frame := fun a o h n => s.frame a o h fun q => n (List.mem_append_left _ q)
  nw := s.nw
  old := fun a h n => s.old a h fun q => n (List.mem_append_left _ q)
  fp := fun a h => by
    rcases List.mem_append.mp h with h | h
    · exact (s.fp a h).imp (List.mem_append_left _) id
    · exact .inl (List.mem_append_right _ h)
  wf := by
    refine ⟨List.nodup_append.mpr ⟨s.wf.nd, w.right.nd, fun a h b g e => ?_⟩, fun a h => ?_, s.wf.dom⟩
    · subst e
      rcases s.fp a h with q | q
      · exact w.apart q g
      · obtain ⟨o, e⟩ := w.dom a (w.right.own a g)
        rw [e] at q; cases q
    · rcases List.mem_append.mp h with h | h
      · exact s.wf.own a h
      · exact s.old a (w.right.own a h) fun q => w.apart q h
/-- what a step leaves of frozen things and of places that it doesn't know -/
theorem Step.kf {O O' : OW} {H H' : Hp} {F F' : List Addr} (w : Wf O H F) (s : Step O H F O' H' F') : ∀ a o, H a = some o → ¬ O a → H' a = some o :=
  fun a o h n => s.frame a o h fun q => n (w.own a q)
theorem Step.rep {K : PySem.W.Frag} {O O' : OW} {H H' : Hp} {F F' : List Addr} (w : Wf O H F) (s : Step O H F O' H' F') {d : D} {v : V} (h : Rep K O H d v) : Rep K O' H' d v :=
  Rep.keep (s.kf w) s.nw d h
theorem Step.repM {K : PySem.W.Frag} {O O' : OW} {H H' : Hp} {F F' G : List Addr} (w : Wf O H F) (s : Step O H F O' H' F') {m : M} {v : V} (hd : ∀ a ∈ G, a ∉ F) (h : RepM K O H m v G) : RepM K O' H' m v G :=
  RepM.keep (s.kf w) s.nw m (fun a o g e => s.frame a o e (hd a g)) h
theorem Step.repML {K : PySem.W.Frag} {O O' : OW} {H H' : Hp} {F F' G : List Addr} (w : Wf O H F) (s : Step O H F O' H' F') {ms : List M} {vs : List V} (hd : ∀ a ∈ G, a ∉ F) (h : RepML K O H ms vs G) : RepML K O' H' ms vs G :=
  RepML.keep (s.kf w) s.nw ms (fun a o g e => s.frame a o e (hd a g)) h
/-- a new place -/
theorem Step.new {O : OW} {H : Hp} {F G : List Addr} {p : Addr} {o : HO} (w : Wf O H (G ++ F)) (hp : H p = none) : Step O H (G ++ F) (fun a => O a ∨ a = p) (upd H p o) (p :: G ++ F) where
  frame := fun a u h _ => by rw [upd_ne (ne_of_none h hp)]; exact h
  nw := fun a h => (show O a ∨ a = p from h).imp id fun e => by rw [e]; exact hp
  old := fun a h _ => .inl h
  fp := fun a h => by
    rcases List.mem_cons.mp h with e | h
    · exact .inr (e ▸ hp)
    · exact .inl h
  wf := by
    refine ⟨List.nodup_cons.mpr ⟨fun h => ?_, w.nd⟩, fun a h => ?_, fun a h => ?_⟩
    · obtain ⟨u, e⟩ := w.dom p (w.own p h)
      rw [hp] at e; cases e
    · rcases List.mem_cons.mp h with e | h
      · exact Or.inr e
      · exact Or.inl (w.own a h)
    · rcases (show O a ∨ a = p from h) with h | h
      · obtain ⟨u, e⟩ := w.dom a h
        exact ⟨u, by rw [upd_ne (ne_of_none e hp)]; exact e⟩
      · exact ⟨o, by rw [h]; exact upd_same⟩
/-- a new frozen place -/
theorem Step.newF {O : OW} {H : Hp} {F : List Addr} {p : Addr} {o : HO} (w : Wf O H F) (hp : H p = none) : Step O H F O (upd H p o) F where
  frame := fun a u h _ => by rw [upd_ne (ne_of_none h hp)]; exact h
  nw := fun a h => .inl h
  old := fun a h _ => h
  fp := fun a h => .inl h
  wf := ⟨w.nd, w.own, fun a h => by
    obtain ⟨u, e⟩ := w.dom a h
    exact ⟨u, by rw [upd_ne (ne_of_none e hp)]; exact e⟩⟩
/-- an owned place is written -/
theorem Step.write {O : OW} {H : Hp} {F : List Addr} {p : Addr} {o : HO} (w : Wf O H F) (hp : p ∈ F) : Step O H F O (upd H p o) F where
  frame := fun a u h n => by
    have e : a ≠ p := fun e => n (by rw [e]; exact hp)
    rw [upd_ne e]; exact h
  nw := fun a h => .inl h
  old := fun a h _ => h
  fp := fun a h => .inl h
  wf := ⟨w.nd, w.own, fun a h => by
    by_cases e : a = p
    · exact ⟨o, by rw [e]; exact upd_same⟩
    · obtain ⟨u, q⟩ := w.dom a h
      exact ⟨u, by rw [upd_ne e]; exact q⟩⟩

/-! ### freezing -/
mutual
def frz : M → D
  | .val d => d
  | .lst ms => .lst (frzL ms)
  | .dK ks ms => .dK ks (frzL ms)
  | .dT ks ms => .dT ks (frzL ms)
  | .ins C fs ms => .ins C fs (frzL ms)
def frzL : List M → List D
  | [] => []
  | m :: ms => frz m :: frzL ms
end
theorem frzL_eq : ∀ ms : List M, frzL ms = ms.map frz
  | [] => rfl
  | m :: ms => by rw [List.map_cons, ← frzL_eq ms]; rfl
section
variable {K : PySem.W.Frag} {O : OW} {H : Hp} {O' : OW}
mutual
theorem Rep.less (h : ∀ a, O' a → O a) : ∀ (d : D) {v : V}, Rep K O H d v → Rep K O' H d v
  | .none, _, h => h
  | .bool _, _, h => h
  | .int _, _, h => h
  | .str _, _, h => h
  | .tup ds, _, ⟨a, xs, e, p, q⟩ => ⟨a, xs, e, p.imp (fun p => ⟨fun z => p.1 (h _ z), p.2⟩) id, RepL.less h ds q⟩
  | .lst ds, _, ⟨a, xs, e, p, r, q⟩ => ⟨a, xs, e, fun z => p (h _ z), r, RepL.less h ds q⟩
  | .dK ks ds, _, ⟨a, kvs, e, p, r, z, q⟩ => ⟨a, kvs, e, fun z => p (h _ z), r, z, RepL.less h ds q⟩
  | .dT ks ds, _, ⟨a, kvs, e, p, r, z, q⟩ => ⟨a, kvs, e, fun z => p (h _ z), r, z, RepL.less h ds q⟩
  | .ins C fs ds, _, ⟨a, dx, kvs, e, p, r, z, q⟩ => ⟨a, dx, kvs, e, fun z => p (h _ z), r, z, RepL.less h ds q⟩
  | .scr ns, _, ⟨a, e, p⟩ => ⟨a, e, p.imp (fun p => ⟨fun z => p.1 (h _ z), p.2⟩) id⟩
theorem RepL.less (h : ∀ a, O' a → O a) : ∀ (ds : List D) {xs : List V}, RepL K O H ds xs → RepL K O' H ds xs
  | [], _, h => h
  | d :: ds, _, ⟨v, vs, e, p, q⟩ => ⟨v, vs, e, Rep.less h d p, RepL.less h ds q⟩
end
mutual
theorem RepM.frz : ∀ (m : M) {v : V} {F : List Addr}, (∀ a, O' a → O a) → (∀ a ∈ F, ¬ O' a) → RepM K O H m v F → Rep K O' H (Lin.frz m) v
  | .val d, _, _, h, _, ⟨_, r⟩ => Rep.less h d r
  | .lst ms, _, _, h, hf, ⟨a, xs, F', e, ef, p, q⟩ => ⟨a, xs, e, hf a (ef ▸ List.mem_cons_self ..), p, RepML.frz ms h (fun a z => hf a (ef ▸ List.mem_cons_of_mem _ z)) q⟩
  | .dK ks ms, _, _, h, hf, ⟨a, kvs, F', e, ef, p, z, q⟩ => ⟨a, kvs, e, hf a (ef ▸ List.mem_cons_self ..), .inl p, z, RepML.frz ms h (fun a z => hf a (ef ▸ List.mem_cons_of_mem _ z)) q⟩
  | .dT ks ms, _, _, h, hf, ⟨a, kvs, F', e, ef, p, z, q⟩ => ⟨a, kvs, e, hf a (ef ▸ List.mem_cons_self ..), .inl p, z, RepML.frz ms h (fun a z => hf a (ef ▸ List.mem_cons_of_mem _ z)) q⟩
  | .ins C fs ms, _, _, h, hf, ⟨a, dx, kvs, F', e, ef, p, z, q⟩ => ⟨a, dx, kvs, e, hf a (ef ▸ List.mem_cons_self ..), p, z, RepML.frz ms h (fun a z => hf a (ef ▸ List.mem_cons_of_mem _ z)) q⟩
theorem RepML.frz : ∀ (ms : List M) {vs : List V} {F : List Addr}, (∀ a, O' a → O a) → (∀ a ∈ F, ¬ O' a) → RepML K O H ms vs F → RepL K O' H (frzL ms) vs
  | [], _, _, _, _, ⟨e, _⟩ => e
  | m :: ms, _, _, h, hf, ⟨v, vs, F1, F2, e, ef, p, q⟩ => ⟨v, vs, e, RepM.frz m h (fun a z => hf a (ef ▸ List.mem_append_left _ z)) p, RepML.frz ms h (fun a z => hf a (ef ▸ List.mem_append_right _ z)) q⟩
end
end
theorem Step.freeze {O : OW} {H : Hp} {G F : List Addr} (w : Wf O H (G ++ F)) : Step O H (G ++ F) (fun a => O a ∧ a ∉ G) H F where
  frame := fun _ _ h _ => h
  nw := fun a h => .inl h.1
  old := fun a h n => ⟨h, fun q => n (List.mem_append_left _ q)⟩
  fp := fun a h => .inl (List.mem_append_right _ h)
  wf := ⟨w.right.nd, fun a h => ⟨w.right.own a h, fun q => w.apart q h⟩, fun a h => w.dom a h.1⟩

/-! ### slots -/
theorem RepS.len {K : PySem.W.Frag} {O : OW} {H : Hp} : ∀ {es : Sls} {σ : L2.St} {F : List Addr}, RepS K O H es σ F → σ.length = es.length
  | [], _, _, ⟨e, _⟩ => by rw [e]; rfl
  | none :: es, _, _, ⟨o, σ', e, r⟩ => by rw [e, List.length_cons, r.len, List.length_cons]
  | some s :: es, _, _, ⟨v, σ', F1, F2, e, ef, p, r⟩ => by rw [e, List.length_cons, r.len, List.length_cons]
/-- one slot out of all -/
theorem RepS.at {K : PySem.W.Frag} {O : OW} {H : Hp} : ∀ {es : Sls} {σ : L2.St} {F : List Addr} {i : Nat} {s : Sl}, RepS K O H es σ F → es[i]? = some (some s) →
    ∃ v F1 Fi F2, σ[i]? = some (some v) ∧ F = F1 ++ (Fi ++ F2) ∧ RepM K O H s.m v Fi ∧ RepS K O H (es.set i none) σ (F1 ++ F2) ∧
      ∀ (O2 : OW) (H2 : Hp), (∀ a o, H a = some o → ¬ O a → H2 a = some o) → (∀ a, O2 a → O a ∨ H a = none) → (∀ a o, a ∈ F1 ++ F2 → H a = some o → H2 a = some o) → ∀ (v' : V) (s' : Sl) (Fi' : List Addr), RepM K O2 H2 s'.m v' Fi' →
        RepS K O2 H2 (es.set i (some s')) (σ.set i (some v')) (F1 ++ (Fi' ++ F2))
  | [], _, _, _, _, _, h => by simp at h
  | none :: es, _, _, 0, _, _, h => by simp at h
  | none :: es, _, F, i + 1, s, ⟨o, σ', e, r⟩, h => by
    obtain ⟨v, F1, Fi, F2, e1, ef, p, q, k⟩ := RepS.at r (i := i) (by simpa using h)
    subst e
    exact ⟨v, F1, Fi, F2, by simpa using e1, ef, p, ⟨o, σ', rfl, q⟩, fun O2 H2 a b c v' s' Fi' z => ⟨o, _, rfl, k O2 H2 a b c v' s' Fi' z⟩⟩
  | some t :: es, _, F, 0, s, ⟨v, σ', F1, F2, e, ef, p, r⟩, h => by
    have e0 : t = s := by simpa using h
    subst e e0
    exact ⟨v, [], F1, F2, rfl, ef, p, ⟨_, σ', rfl, r⟩, fun O2 H2 a b c v' s' Fi' z => ⟨v', σ', Fi', F2, rfl, rfl, z, RepS.keep a b es c r⟩⟩
  | some t :: es, _, F, i + 1, s, ⟨v, σ', G1, G2, e, ef, p, r⟩, h => by
    obtain ⟨w, F1, Fi, F2, e1, ef', p', q, k⟩ := RepS.at r (i := i) (by simpa using h)
    subst e
    refine ⟨w, G1 ++ F1, Fi, F2, by simpa using e1, by rw [ef, ef', List.append_assoc], p', ⟨v, σ', G1, F1 ++ F2, rfl, by rw [List.append_assoc], p, q⟩, fun O2 H2 a b c v' s' Fi' z => ?_⟩
    refine ⟨v, _, G1, F1 ++ (Fi' ++ F2), rfl, by rw [List.append_assoc], RepM.keep a b t.m (fun a o z => c a o (by rw [List.append_assoc]; exact List.mem_append_left _ z)) p, ?_⟩
    exact k O2 H2 a b (fun a o z => c a o (by rw [List.append_assoc]; exact List.mem_append_right _ z)) v' s' Fi' z
/-- a slot is forgotten or overwritten, whatever it held -/
theorem RepS.drop {K : PySem.W.Frag} {O : OW} {H : Hp} : ∀ {es : Sls} {σ : L2.St} {F : List Addr} (i : Nat) (o : Option V), i < es.length → RepS K O H es σ F → ∃ F1 F2 Fi, F = F1 ++ (Fi ++ F2) ∧ RepS K O H (es.set i none) (σ.set i o) (F1 ++ F2) ∧
      ∀ (v' : V) (s' : Sl) (Fi' : List Addr), RepM K O H s'.m v' Fi' → RepS K O H (es.set i (some s')) (σ.set i (some v')) (F1 ++ (Fi' ++ F2))
  | [], _, _, i, _, h, _ => absurd h (Nat.not_lt_zero _)
  | none :: es, _, F, 0, o, _, ⟨o', σ', e, r⟩ => by
    subst e
    exact ⟨[], F, [], rfl, ⟨o, σ', rfl, r⟩, fun v' s' Fi' z => ⟨v', σ', Fi', F, rfl, rfl, z, r⟩⟩
  | none :: es, _, F, i + 1, o, h, ⟨o', σ', e, r⟩ => by
    obtain ⟨F1, F2, Fi, ef, q, k⟩ := RepS.drop i o (Nat.lt_of_succ_lt_succ h) r
    subst e
    exact ⟨F1, F2, Fi, ef, ⟨o', _, rfl, q⟩, fun v' s' Fi' z => ⟨o', _, rfl, k v' s' Fi' z⟩⟩
  | some t :: es, _, F, 0, o, _, ⟨v, σ', F1, F2, e, ef, p, r⟩ => by
    subst e
    exact ⟨[], F2, F1, ef, ⟨o, σ', rfl, r⟩, fun v' s' Fi' z => ⟨v', σ', Fi', F2, rfl, rfl, z, r⟩⟩
  | some t :: es, _, F, i + 1, o, h, ⟨v, σ', G1, G2, e, ef, p, r⟩ => by
    obtain ⟨F1, F2, Fi, ef', q, k⟩ := RepS.drop i o (Nat.lt_of_succ_lt_succ h) r
    subst e
    exact ⟨G1 ++ F1, F2, Fi, by rw [ef, ef', List.append_assoc], ⟨v, _, G1, F1 ++ F2, rfl, by rw [List.append_assoc], p, q⟩,
      fun v' s' Fi' z => ⟨v, _, G1, F1 ++ (Fi' ++ F2), rfl, by rw [List.append_assoc], p, k v' s' Fi' z⟩⟩
end Lin

end

section
namespace Lin
open PySem PySem.Spec PyProof.Rows L2

/-! ### what a piece of syntax may be asked, without a derivation -/
def wE (X : Cx) (e : Expr) : TE := fun σ H Q => ∃ t, PE X e t ∧ t σ H Q
def wT (X : Cx) (e : Expr) : TT := fun σ H Q => ∃ t, PT X e t ∧ t σ H Q
def wA (X : Cx) (es : List Expr) : TA := fun σ H Q => ∃ t, PA X es t ∧ t σ H Q
def wS (X : Cx) (sts : List Stmt) : TS := fun D σ H => ∃ t, PSs X sts t ∧ t D σ H
def wS1 (X : Cx) (st : Stmt) : TS := fun D σ H => ∃ t, PS X st t ∧ t D σ H
theorem pe_w {X : Cx} {e : Expr} : PE X e (wE X e) := ⟨fun pins s σ H Q I ⟨t, p, h⟩ => p.run pins s σ H Q I h⟩
theorem pt_w {X : Cx} {e : Expr} : PT X e (wT X e) := ⟨fun pins s σ H Q I ⟨t, p, h⟩ => p.run pins s σ H Q I h⟩
theorem pa_w {X : Cx} {es : List Expr} : PA X es (wA X es) := ⟨fun pos pins s σ H Q I ⟨t, p, h⟩ => p.run pos pins s σ H Q I h⟩
theorem pss_w {X : Cx} {sts : List Stmt} : PSs X sts (wS X sts) := ⟨fun pins s σ H D I ⟨t, p, h⟩ => p.run pins s σ H D I h⟩
theorem ps_w {X : Cx} {st : Stmt} : PS X st (wS1 X st) := ⟨fun pins s σ H D I ⟨t, p, h⟩ => p.run pins s σ H D I h⟩

/-- parameters whose owner waits stay such -/
def Io (env env' : Sls) : Prop := ∀ (i : Nat) (m : M), env[i]? = some (some (Sl.io m)) → ∃ m' : M, env'[i]? = some (some (Sl.io m'))
theorem Io.refl (env : Sls) : Io env env := fun _ m h => ⟨m, h⟩
theorem Io.trans {e1 e2 e3 : Sls} (a : Io e1 e2) (b : Io e2 e3) : Io e1 e3 := fun i m h => by
  obtain ⟨m', h'⟩ := a i m h
  exact b i m' h'

/-- e gives m and leaves the slots as env' -/
def Ev (X : Cx) (e : Expr) (env : Sls) (m : M) (env' : Sls) : Prop := Io env env' ∧
  ∀ (O : OW) (H : Hp) (σ : L2.St) (F : List Addr), RepS X.K O H env σ F → Wf O H F → ∀ Q : VK,
    (∀ (O' : OW) (H' : Hp) (v : V) (Fv F' : List Addr), RepM X.K O' H' m v Fv → RepS X.K O' H' env' σ F' → Step O H F O' H' (Fv ++ F') → Q v H') → wE X e σ H Q
/-- a test gives b -/
def Tv (X : Cx) (e : Expr) (env : Sls) (b : Bool) (env' : Sls) : Prop := Io env env' ∧
  ∀ (O : OW) (H : Hp) (σ : L2.St) (F : List Addr), RepS X.K O H env σ F → Wf O H F → ∀ Q : Bool → Hp → Prop,
    (∀ (O' : OW) (H' : Hp) (F' : List Addr), RepS X.K O' H' env' σ F' → Step O H F O' H' F' → Q b H') → wT X e σ H Q
/-- an argument: by value, or a name that is lent -/
inductive AK where
  | v (d : D) | lend (i : Nat)
def RepA (K : PySem.W.Frag) (O : OW) (H : Hp) (σ : L2.St) : List AK → List V → Prop
  | [], vs => vs = []
  | .v d :: as, vs => ∃ u us, vs = u :: us ∧ Rep K O H d u ∧ RepA K O H σ as us
  | .lend i :: as, vs => ∃ u us, vs = u :: us ∧ σ[i]? = some (some u) ∧ RepA K O H σ as us
def EvAs (X : Cx) (es : List Expr) (env : Sls) (as : List AK) (env' : Sls) : Prop := Io env env' ∧
  ∀ (O : OW) (H : Hp) (σ : L2.St) (F : List Addr), RepS X.K O H env σ F → Wf O H F → ∀ Q : List V → Hp → Prop,
    (∀ (O' : OW) (H' : Hp) (vs : List V) (F' : List Addr), RepA X.K O' H' σ as vs → RepS X.K O' H' env' σ F' → Step O H F O' H' F' → Q vs H') → wA X es σ H Q

inductive Out where
  | nx (env : Sls) | rt (m : M) (env : Sls) | bk (env : Sls) | ct (env : Sls)
/-- the parameters whose owners wait are at their places -/
def Pins (env : Sls) (σ : L2.St) (env' : Sls) (σ' : L2.St) : Prop := ∀ (i : Nat) (m : M), env[i]? = some (some (Sl.io m)) → (∃ m' : M, env'[i]? = some (some (Sl.io m'))) ∧ σ'[i]? = σ[i]?
theorem Pins.refl {env : Sls} {σ : L2.St} : Pins env σ env σ := fun _ m h => ⟨⟨m, h⟩, rfl⟩
theorem Pins.of {env env' : Sls} {σ : L2.St} (h : Io env env') : Pins env σ env' σ := fun i m e => ⟨h i m e, rfl⟩
theorem Pins.trans {e1 e2 e3 : Sls} {s1 s2 s3 : L2.St} (a : Pins e1 s1 e2 s2) (b : Pins e2 s2 e3 s3) : Pins e1 s1 e3 s3 := fun i m h => by
  obtain ⟨⟨m', h'⟩, q⟩ := a i m h
  obtain ⟨z, q'⟩ := b i m' h'
  exact ⟨z, q'.trans q⟩
/-- what the ends must grant -/
def Grants (X : Cx) (out : Out) (D : Ends) (O : OW) (H : Hp) (env : Sls) (σ : L2.St) (F : List Addr) : Prop :=
  match out with
  | .nx env' => ∀ (O' : OW) (H' : Hp) (σ' : L2.St) (F' : List Addr), RepS X.K O' H' env' σ' F' → Step O H F O' H' F' → Pins env σ env' σ' → D.nx σ' H'
  | .bk env' => ∀ (O' : OW) (H' : Hp) (σ' : L2.St) (F' : List Addr), RepS X.K O' H' env' σ' F' → Step O H F O' H' F' → Pins env σ env' σ' → D.bk σ' H'
  | .ct env' => ∀ (O' : OW) (H' : Hp) (σ' : L2.St) (F' : List Addr), RepS X.K O' H' env' σ' F' → Step O H F O' H' F' → Pins env σ env' σ' → D.ct σ' H'
  | .rt m env' => ∀ (O' : OW) (H' : Hp) (σ' : L2.St) (v : V) (Fv F' : List Addr), RepM X.K O' H' m v Fv → RepS X.K O' H' env' σ' F' → Step O H F O' H' (Fv ++ F') → Pins env σ env' σ' → D.rt v H'
/-- a block ends so -/
def Ex (X : Cx) (body : List Stmt) (env : Sls) (out : Out) : Prop :=
  ∀ (O : OW) (H : Hp) (σ : L2.St) (F : List Addr), RepS X.K O H env σ F → Wf O H F → ∀ D : Ends, Grants X out D O H env σ F → wS X body D σ H
/-- a statement ends so -/
def Ex1 (X : Cx) (st : Stmt) (env : Sls) (out : Out) : Prop :=
  ∀ (O : OW) (H : Hp) (σ : L2.St) (F : List Addr), RepS X.K O H env σ F → Wf O H F → ∀ D : Ends, Grants X out D O H env σ F → wS1 X st D σ H
/-- what is granted ahead of a step is granted behind it -/
theorem Grants.back {X : Cx} {D : Ends} {O O1 : OW} {H H1 : Hp} {env env1 : Sls} {σ σ1 : L2.St} {F F1 : List Addr} (w : Wf O H F) (s : Step O H F O1 H1 F1) (p : Pins env σ env1 σ1) : ∀ {out : Out}, Grants X out D O H env σ F → Grants X out D O1 H1 env1 σ1 F1
  | .nx _, g => fun O' H' σ' F' r t q => g O' H' σ' F' r (s.trans w t) (p.trans q)
  | .bk _, g => fun O' H' σ' F' r t q => g O' H' σ' F' r (s.trans w t) (p.trans q)
  | .ct _, g => fun O' H' σ' F' r t q => g O' H' σ' F' r (s.trans w t) (p.trans q)
  | .rt _ _, g => fun O' H' σ' v Fv F' m r t q => g O' H' σ' v Fv F' m r (s.trans w t) (p.trans q)

/-! ### operations by values -/
/-- x op y gives m, and changes nothing -/
def RO (K : PySem.W.Frag) (r : R2) (x y : D) (m : M) : Prop := ∀ (O : OW) (H : Hp), Wf O H [] → ∀ u v : V, Rep K O H x u → Rep K O H y v → ∀ Q : VK,
  (∀ (O' : OW) (H' : Hp) (z : V) (Fz : List Addr), RepM K O' H' m z Fz → Step O H [] O' H' Fz → Q z H') → r u v H Q
/-- a call by values -/
def RF (K : PySem.W.Frag) (r : List V → Hp → VK → Prop) (ds : List D) (m : M) : Prop := ∀ (O : OW) (H : Hp), Wf O H [] → ∀ vs : List V, RepL K O H ds vs → ∀ Q : VK,
  (∀ (O' : OW) (H' : Hp) (z : V) (Fz : List Addr), RepM K O' H' m z Fz → Step O H [] O' H' Fz → Q z H') → r vs H Q
theorem Wf.nil {O : OW} {H : Hp} {F : List Addr} (w : Wf O H F) : Wf O H [] := ⟨List.nodup_nil, (fun _ h => nomatch h), w.dom⟩
theorem Step.quiet {O O' : OW} {H H' : Hp} {F Fz : List Addr} (w : Wf O H F) (s : Step O H [] O' H' Fz) : Step O H F O' H' (Fz ++ F) := by
  have z := s.beside (R := F) w
  exact z
theorem RepS.quiet {K : PySem.W.Frag} {O O' : OW} {H H' : Hp} {F Fz : List Addr} {env : Sls} {σ : L2.St} (s : Step O H [] O' H' Fz) (r : RepS K O H env σ F) : RepS K O' H' env σ F :=
  RepS.keep (fun a o h _ => s.frame a o h (by simp)) s.nw env (fun a o _ h => s.frame a o h (by simp)) r
theorem Rep.quiet {K : PySem.W.Frag} {O O' : OW} {H H' : Hp} {F F' : List Addr} {d : D} {v : V} (w : Wf O H F) (s : Step O H F O' H' F') (r : Rep K O H d v) : Rep K O' H' d v := s.rep w r
/-- a scalar answer, in the heap as it is -/
theorem ro_val {K : PySem.W.Frag} {r : R2} {x y d : D} (h : ∀ (O : OW) (H : Hp) (u v : V) (Q : VK), Rep K O H x u → Rep K O H y v → (∀ z, Rep K O H d z → Q z H) → r u v H Q) : RO K r x y (.val d) :=
  fun O H w u v a b Q q => h O H u v Q a b fun z rz => q O H z [] ⟨rfl, rz⟩ (Step.refl w)

section
variable {X : Cx} {env env1 env2 env3 : Sls} {a b c e : Expr} {es : List Expr} {pos : Pos} {d x y : D} {m : M} {ms : List M}

/-! ### values -/
theorem Ev.eq {m' : M} (h : Ev X e env m env1) (q : m = m') : Ev X e env m' env1 := q ▸ h
theorem Tv.eq {b b' : Bool} (h : Tv X e env b env1) (q : b = b') : Tv X e env b' env1 := q ▸ h
/-- a new thing is frozen at once -/
theorem Ev.frz (h : Ev X e env m env1) : Ev X e env (.val (Lin.frz m)) env1 := ⟨h.1, fun O H σ F r w Q q => h.2 O H σ F r w Q fun O' H' v Fv F' rm rs st =>
  q (fun a => O' a ∧ a ∉ Fv) H' v [] F' ⟨rfl, RepM.frz m (fun _ z => z.1) (fun a z n => n.2 z) rm⟩
    (RepS.keep (K := X.K) (O := O') (H := H') (fun _ _ z _ => z) (fun a z => .inl z.1) env1 (fun _ _ _ z => z) rs) (st.trans w (Step.freeze st.wf))⟩
/-- a value that leaves the state as it is -/
theorem ev_const {v : V} (hp : PE X e (tC v)) (hr : ∀ (K : PySem.W.Frag) (O : OW) (H : Hp), Rep K O H d v) : Ev X e env (.val d) env :=
  ⟨Io.refl _, fun O H σ F r w Q q => ⟨_, hp, q O H v [] F ⟨rfl, hr _ _ _⟩ r (Step.refl w)⟩⟩
theorem ev_int {i : Int} {j : Nat} : Ev X (.Constant (.int i) j pos) env (.val (.int i)) env := ev_const pe_int fun _ _ _ => rfl
theorem ev_bool {c : Bool} {j : Nat} : Ev X (.Constant (.bool c) j pos) env (.val (.bool c)) env := ev_const pe_bl fun _ _ _ => rfl
theorem ev_none {j : Nat} : Ev X (.Constant .none j pos) env (.val .none) env := ev_const pe_non fun _ _ _ => rfl
theorem ev_str {s : Str} {j : Nat} : Ev X (.Constant (.str s) j pos) env (.val (.str s)) env := ev_const pe_str fun _ _ _ => rfl
theorem repM_val {K : PySem.W.Frag} {O : OW} {H : Hp} {v : V} {F : List Addr} (h : RepM K O H (Sl.own (.val d)).m v F) : F = [] ∧ Rep K O H d v := h
/-- a name of frozen data -/
theorem ev_name (i : Nat) {n : Str} (h : env[i]? = some (some (Sl.own (.val d)))) (hN : X.N[i]? = some n := by rfl) (hv : Vis X.env.scope n := by first | exact Or.inl rfl | exact Or.inr (Or.inl rfl) | exact Or.inr (Or.inr rfl))
    (hd : (n == ("__debug__" : Str)) = false := by decide) (hcd : (n == ("__classdict__" : Str)) = false := by decide) : Ev X (.Name n pos) env (.val d) env :=
  ⟨Io.refl _, fun O H σ F r w Q q => by
    obtain ⟨v, F1, Fi, F2, e1, ef, p, _, _⟩ := RepS.at r h
    obtain ⟨rfl, p'⟩ := repM_val p
    exact ⟨_, pe_var hN hv hd hcd, v, e1, q O H v [] F ⟨rfl, p'⟩ r (Step.refl w)⟩⟩
/-- a name's thing is taken out of it -/
theorem ev_move (i : Nat) {n : Str} (h : env[i]? = some (some (Sl.own m))) (hN : X.N[i]? = some n := by rfl) (hv : Vis X.env.scope n := by first | exact Or.inl rfl | exact Or.inr (Or.inl rfl) | exact Or.inr (Or.inr rfl))
    (hd : (n == ("__debug__" : Str)) = false := by decide) (hcd : (n == ("__classdict__" : Str)) = false := by decide) : Ev X (.Name n pos) env m (env.set i none) :=
  ⟨fun j m' z => ⟨m', by
      rw [List.getElem?_set_ne (fun e => ?_)]
      · exact z
      · subst e; rw [h] at z; cases z⟩, fun O H σ F r w Q q => by
    obtain ⟨v, F1, Fi, F2, e1, ef, p, r', _⟩ := RepS.at r h
    have pm : F.Perm (Fi ++ (F1 ++ F2)) := by
      rw [ef, ← List.append_assoc, ← List.append_assoc]
      exact List.Perm.append_right _ List.perm_append_comm
    exact ⟨_, pe_var hN hv hd hcd, v, e1, q O H v Fi (F1 ++ F2) p r' ((Step.refl w).permR pm)⟩⟩
/-- the two operands, one after the other -/
theorem two (ha : Ev X a env (.val x) env1) (hb : Ev X b env1 (.val y) env2) {O : OW} {H : Hp} {σ : L2.St} {F : List Addr} (r : RepS X.K O H env σ F) (w : Wf O H F) {R : V → V → Hp → Prop}
    (k : ∀ (O' : OW) (H' : Hp) (u v : V) (F' : List Addr), Rep X.K O' H' x u → Rep X.K O' H' y v → RepS X.K O' H' env2 σ F' → Step O H F O' H' F' → R u v H') : wE X a σ H fun u H1 => wE X b σ H1 fun v H2 => R u v H2 :=
  ha.2 O H σ F r w _ fun O1 H1 u Fu F1 ⟨eu, ru⟩ r1 s1 => by
    subst eu
    exact hb.2 O1 H1 σ F1 r1 s1.wf _ fun O2 H2 v Fv F2 ⟨ev, rv⟩ r2 s2 => by
      subst ev
      exact k O2 H2 u v F2 (s2.rep s1.wf ru) rv r2 (s1.trans w s2)
theorem ev_bin {op : Operator} {r : R2} (ho : OpR X (binaryOp op) r) (ha : Ev X a env (.val x) env1) (hb : Ev X b env1 (.val y) env2) (hr : RO X.K r x y m) : Ev X (.BinOp a op b pos) env m env2 :=
  ⟨ha.1.trans hb.1, fun O H σ F rs w Q q => ⟨_, pe_op ho pe_w pe_w, two ha hb rs w fun O' H' u v F' ru rv r' s' =>
    hr O' H' s'.wf.nil u v ru rv Q fun O2 H2 z Fz rz s2 => q O2 H2 z Fz F' rz (r'.quiet s2) (s'.trans w (s2.quiet s'.wf))⟩⟩
theorem ev_cmp {op : CmpOp} {r : R2} (ho : OpR X (compareOp op) r) (ha : Ev X a env (.val x) env1) (hb : Ev X b env1 (.val y) env2) (hr : RO X.K r x y m) (hm : behindInMarks op b = false := by first | exact nomark _ | rfl) : Ev X (.Compare a [op] [b] pos) env m env2 :=
  ⟨ha.1.trans hb.1, fun O H σ F rs w Q q => ⟨_, pe_cmpR ho pe_w pe_w hm, two ha hb rs w fun O' H' u v F' ru rv r' s' =>
    hr O' H' s'.wf.nil u v ru rv Q fun O2 H2 z Fz rz s2 => q O2 H2 z Fz F' rz (r'.quiet s2) (s'.trans w (s2.quiet s'.wf))⟩⟩
theorem tv_cmp {op : CmpOp} {r : R2} {k : Bool} (ho : OpR X (compareOp op) r) (ha : Ev X a env (.val x) env1) (hb : Ev X b env1 (.val y) env2) (hr : RO X.K r x y (.val (.bool k))) (hm : behindInMarks op b = false := by first | exact nomark _ | rfl) : Tv X (.Compare a [op] [b] pos) env k env2 :=
  ⟨ha.1.trans hb.1, fun O H σ F rs w Q q => ⟨_, pt_cmpR ho pe_w pe_w hm, two ha hb rs w fun O' H' u v F' ru rv r' s' =>
    hr O' H' s'.wf.nil u v ru rv _ fun O2 H2 z Fz ⟨ez, rz⟩ s2 => by
      subst ez
      exact ⟨k, rz, q O2 H2 F' (r'.quiet s2) (s'.trans w (s2.quiet s'.wf))⟩⟩⟩
/-- a truth as a test -/
theorem tv_val {k : Bool} (h : Ev X e env (.val (.bool k)) env1) (he : ∀ whole, isTrue e X.env whole = (do let v ← whole; standAt e.pos; holding [v] (truthy v)) := by intro _; rfl) : Tv X e env k env1 :=
  ⟨h.1, fun O H σ F rs w Q q => ⟨_, pt_val pe_w he, h.2 O H σ F rs w _ fun O' H' v Fv F' ⟨ev, rv⟩ r' s' => by
    subst ev
    exact ⟨k, rv, q O' H' F' r' s'⟩⟩⟩
theorem tv_not {k : Bool} (h : Tv X e env k env1) : Tv X (.UnaryOp .Not e pos) env (!k) env1 :=
  ⟨h.1, fun O H σ F rs w Q q => ⟨_, pt_not pt_w, h.2 O H σ F rs w _ fun O' H' F' r' s' => q O' H' F' r' s'⟩⟩
end
end Lin

end

section
namespace Lin
open PySem PySem.Spec PyProof.Rows L2

section
variable {X : Cx} {env env1 env2 env3 : Sls} {a b c e : Expr} {es : List Expr} {pos : Pos} {d x y : D} {m : M} {ms : List M} {st : Stmt} {rest body : List Stmt} {out : Out}

/-! ### statements -/
theorem ex_nil : Ex X [] env (.nx env) := fun O H σ F r w D g => ⟨_, pss_nil, g O H σ F r (Step.refl w) Pins.refl⟩
theorem ex_cons (h : Ex1 X st env (.nx env1)) (k : Ex X rest env1 out) : Ex X (st :: rest) env out := fun O H σ F r w D g =>
  ⟨_, pss_cons ps_w pss_w, h O H σ F r w { D with nx := wS X rest D } fun O' H' σ' F' r' s p => k O' H' σ' F' r' s.wf D (g.back w s p)⟩
/-- a block's statement that goes no further -/
def Out.stops : Out → Prop
  | .nx _ => False
  | _ => True
theorem Grants.nx {D : Ends} {O : OW} {H : Hp} {σ : L2.St} {F : List Addr} {n : L2.St → Hp → Prop} (hs : out.stops) (g : Grants X out D O H env σ F) : Grants X out { D with nx := n } O H env σ F := by
  cases out with
  | nx _ => exact hs.elim
  | rt _ _ => exact g
  | bk _ => exact g
  | ct _ => exact g
theorem ex_stop (h : Ex1 X st env out) (hs : out.stops := by trivial) : Ex X (st :: rest) env out := fun O H σ F r w D g =>
  ⟨_, pss_cons ps_w pss_w, h O H σ F r w { D with nx := wS X rest D } (g.nx hs)⟩
theorem ex_one (h : Ex1 X st env out) : Ex X [st] env out := fun O H σ F r w D g => ⟨_, pss_one ps_w, h O H σ F r w D g⟩

theorem perm_drop {Fv F1 Fi F2 : List Addr} : (Fv ++ (F1 ++ (Fi ++ F2))).Perm ((F1 ++ (Fv ++ F2)) ++ Fi) :=
  List.perm_iff_count.mpr fun a => by simp only [List.count_append]; omega
/-- x = e -/
theorem x1_set (i : Nat) {n : Str} {pos' : Pos} (he : Ev X e env m env1) (hio : ∀ m', env[i]? ≠ some (some (Sl.io m')) := by intro _ h; cases h) (hi : i < env.length := by simp) (hn : X.N.Nodup := by assumption) (hN : X.N[i]? = some n := by rfl)
    (hx : Loc X.env.scope n := by first | exact Or.inl rfl | exact Or.inr rfl) (hs : swapsWith e (some (.Name n pos')) pos.line X.env = pure false := by rfl) (hf : X.fn n = true ∨ X.env.scope.names.lookup n = some .local := by first | exact .inl rfl | exact .inr rfl) :
    Ex1 X (.Assign [.Name n pos'] e pos) env (.nx (env1.set i (some (.own m)))) := fun O H σ F r w D g =>
  ⟨_, ps_set hn hN hx pe_w hs hf, he.2 O H σ F r w _ fun O' H' v Fv F' rm rs s => by
    have hl : i < env1.length := by rw [← rs.len, r.len]; exact hi
    obtain ⟨F1, F2, Fi, ef, _, k⟩ := RepS.drop i (some v) hl rs
    subst ef
    refine g O' H' _ (F1 ++ (Fv ++ F2)) (k v (.own m) Fv rm) ((s.permR perm_drop).dropR) fun j m' z => ?_
    have hne : i ≠ j := fun q => hio m' (q ▸ z)
    obtain ⟨m2, z2⟩ := he.1 j m' z
    exact ⟨⟨m2, by rw [List.getElem?_set_ne hne]; exact z2⟩, List.getElem?_set_ne hne⟩⟩
theorem x1_ret (he : Ev X e env m env1) : Ex1 X (.Return (some e) pos) env (.rt m env1) := fun O H σ F r w D g =>
  ⟨_, ps_ret pe_w, he.2 O H σ F r w _ fun O' H' v Fv F' rm rs s => g O' H' σ v Fv F' rm rs s (Pins.of he.1)⟩
theorem x1_retN : Ex1 X (.Return none pos) env (.rt (.val .none) env) := fun O H σ F r w D g =>
  ⟨_, ps_retN, g O H σ .non [] F ⟨rfl, rfl⟩ r (Step.refl w) Pins.refl⟩
theorem x1_expr (he : Ev X e env m env1) (hs : swapsWith e none pos.line X.env = pure false := by rfl) : Ex1 X (.Expr e pos) env (.nx env1) := fun O H σ F r w D g =>
  ⟨_, ps_expr pe_w hs, he.2 O H σ F r w _ fun O' H' v Fv F' rm rs s => g O' H' σ F' rs s.dropL (Pins.of he.1)⟩
theorem x1_pass : Ex1 X (.Pass pos) env (.nx env) := fun O H σ F r w D g => ⟨_, ps_pass, g O H σ F r (Step.refl w) Pins.refl⟩
theorem x1_break : Ex1 X (.Break pos) env (.bk env) := fun O H σ F r w D g => ⟨_, ps_break, g O H σ F r (Step.refl w) Pins.refl⟩
theorem x1_cont : Ex1 X (.Continue pos) env (.ct env) := fun O H σ F r w D g => ⟨_, ps_continue, g O H σ F r (Step.refl w) Pins.refl⟩
theorem x1_if {k : Bool} {s1 s2 : List Stmt} (hc : Tv X c env k env1) (h1 : k = true → Ex X s1 env1 out) (h2 : k = false → Ex X s2 env1 out) : Ex1 X (.If c s1 s2 pos) env out := fun O H σ F r w D g =>
  ⟨_, ps_if pt_w pss_w pss_w, hc.2 O H σ F r w _ fun O' H' F' rs s => by
    cases k with
    | true => rw [if_pos rfl]; exact h1 rfl O' H' σ F' rs s.wf D (g.back w s (Pins.of hc.1))
    | false => rw [if_neg Bool.false_ne_true]; exact h2 rfl O' H' σ F' rs s.wf D (g.back w s (Pins.of hc.1))⟩
theorem set_same {α : Type} : ∀ {l : List α} {i : Nat} {a : α}, l[i]? = some a → l.set i a = l
  | [], _, _, h => by simp at h
  | b :: l, 0, a, h => by
    have e : b = a := by simpa using h
    rw [e]; rfl
  | b :: l, i + 1, a, h => by
    show b :: l.set i a = b :: l
    rw [set_same (by simpa using h)]
/-- a slot's thing is frozen -/
theorem ex_frz (i : Nat) (h : env[i]? = some (some (Sl.own m))) (k : Ex X body (env.set i (vl (frz m))) out) : Ex X body env out := fun O H σ F r w D g => by
  obtain ⟨v, F1, Fi, F2, e1, ef, p, _, kk⟩ := RepS.at r h
  subst ef
  have pm : (F1 ++ (Fi ++ F2)).Perm (Fi ++ (F1 ++ F2)) := List.perm_iff_count.mpr fun a => by simp only [List.count_append]; omega
  have s : Step O H (F1 ++ (Fi ++ F2)) (fun a => O a ∧ a ∉ Fi) H (F1 ++ F2) := (Step.freeze (w.perm pm)).permL pm.symm
  have r' : RepS X.K (fun a => O a ∧ a ∉ Fi) H (env.set i (vl (frz m))) (σ.set i (some v)) (F1 ++ ([] ++ F2)) :=
    kk (fun a => O a ∧ a ∉ Fi) H (fun _ _ z _ => z) (fun a z => .inl z.1) (fun _ _ _ z => z) v (.own (.val (frz m))) [] ⟨rfl, RepM.frz m (fun _ z => z.1) (fun a z n => n.2 z) p⟩
  rw [show σ.set i (some v) = σ from set_same e1] at r'
  refine k _ H σ _ r' s.wf D (g.back w s fun j m' z => ⟨⟨m', ?_⟩, rfl⟩)
  have hne : i ≠ j := fun q => by subst q; rw [h] at z; cases z
  rw [List.getElem?_set_ne hne]; exact z

/-! ### argument lists, displays -/
theorem ea_nil : EvAs X [] env [] env := ⟨Io.refl _, fun O H σ F r w Q q => ⟨_, pa_nil, q O H [] F rfl r (Step.refl w)⟩⟩
theorem RepA.keep {K : PySem.W.Frag} {O O' : OW} {H H' : Hp} {σ : L2.St} (k : ∀ a o, H a = some o → ¬ O a → H' a = some o) (n : ∀ a, O' a → O a ∨ H a = none) : ∀ (as : List AK) {vs : List V}, RepA K O H σ as vs → RepA K O' H' σ as vs
  | [], _, h => h
  | .v d :: as, _, ⟨u, us, e, p, q⟩ => ⟨u, us, e, Rep.keep k n d p, RepA.keep k n as q⟩
  | .lend i :: as, _, ⟨u, us, e, p, q⟩ => ⟨u, us, e, p, RepA.keep k n as q⟩
theorem ea_cons {as : List AK} (he : Ev X e env (.val d) env1) (hr : EvAs X es env1 as env2) (hs : starEach (e :: es) X.env = (false, eval e X.env) :: starEach es X.env := by rfl) : EvAs X (e :: es) env (.v d :: as) env2 :=
  ⟨he.1.trans hr.1, fun O H σ F r w Q q => ⟨_, pa_cons pe_w pa_w hs, he.2 O H σ F r w _ fun O1 H1 u Fu F1 ⟨eu, ru⟩ r1 s1 => by
    subst eu
    exact hr.2 O1 H1 σ F1 r1 s1.wf _ fun O2 H2 vs F2 ra r2 s2 => q O2 H2 (u :: vs) F2 ⟨u, vs, rfl, s2.rep s1.wf ru, ra⟩ r2 (s1.trans w s2)⟩⟩
/-- a name that is lent -/
theorem ea_lend (i : Nat) {n : Str} {as : List AK} {p : Pos} {s : Sl} (h : env[i]? = some (some s)) (hr : EvAs X es env as env2) (hN : X.N[i]? = some n := by rfl) (hv : Vis X.env.scope n := by first | exact Or.inl rfl | exact Or.inr (Or.inl rfl) | exact Or.inr (Or.inr rfl))
    (hd : (n == ("__debug__" : Str)) = false := by decide) (hcd : (n == ("__classdict__" : Str)) = false := by decide) (hs : starEach (.Name n p :: es) X.env = (false, eval (.Name n p) X.env) :: starEach es X.env := by rfl) : EvAs X (.Name n p :: es) env (.lend i :: as) env2 :=
  ⟨hr.1, fun O H σ F r w Q q => ⟨_, pa_cons (pe_var hN hv hd hcd) pa_w hs, by
    obtain ⟨v, F1, Fi, F2, e1, ef, _, _, _⟩ := RepS.at r h
    exact ⟨v, e1, hr.2 O H σ F r w _ fun O2 H2 vs F2 ra r2 s2 => q O2 H2 (v :: vs) F2 ⟨v, vs, rfl, e1, ra⟩ r2 s2⟩⟩⟩
theorem repL_of {K : PySem.W.Frag} {O : OW} {H : Hp} {σ : L2.St} : ∀ (ds : List D) {vs : List V}, RepA K O H σ (ds.map AK.v) vs → RepL K O H ds vs
  | [], _, h => h
  | d :: ds, _, ⟨u, us, e, p, q⟩ => ⟨u, us, e, p, repL_of ds q⟩
theorem RepL.len {K : PySem.W.Frag} {O : OW} {H : Hp} : ∀ {ds : List D} {vs : List V}, RepL K O H ds vs → vs.length = ds.length
  | [], _, h => by rw [show _ = [] from h]; rfl
  | d :: ds, _, ⟨u, us, e, p, q⟩ => by rw [e, List.length_cons, RepL.len q, List.length_cons]
/-- (a, b, ..) -/
theorem ev_tup {ds : List D} {x1} (h : EvAs X es env (ds.map AK.v) env1) (hz : ds.length ≤ 1000 := by first | decide | simp) : Ev X (.Tuple es x1 pos) env (.val (.tup ds)) env1 :=
  ⟨h.1, fun O H σ F r w Q q => ⟨_, pe_tup pa_w, h.2 O H σ F r w _ fun O1 H1 vs F1 ra r1 s1 => by
    have rl := repL_of ds ra
    refine ⟨by rw [rl.len]; exact Nat.le_trans hz (by decide), fun p hp => ?_⟩
    have s2 : Step O1 H1 F1 O1 (upd H1 p (.tup vs)) F1 := Step.newF s1.wf hp
    have s0 : Step O1 H1 [] O1 (upd H1 p (.tup vs)) [] := Step.newF s1.wf.nil hp
    refine q O1 _ (.ref p) [] F1 ⟨rfl, p, vs, rfl, .inl ⟨fun z => ?_, .inl upd_same⟩, RepL.keep (s0.kf s1.wf.nil) s0.nw ds rl⟩ (r1.quiet s0) (s1.trans w s2)
    obtain ⟨o, e⟩ := s1.wf.dom p z
    rw [hp] at e; cases e⟩⟩
/-- [a, b, ..], owned -/
theorem repML_val {K : PySem.W.Frag} {O : OW} {H : Hp} : ∀ (ds : List D) {vs : List V}, RepL K O H ds vs → RepML K O H (ds.map M.val) vs []
  | [], _, h => ⟨h, rfl⟩
  | d :: ds, _, ⟨u, us, e, p, q⟩ => ⟨u, us, [], [], e, rfl, ⟨rfl, p⟩, repML_val ds q⟩
theorem ev_lst {ds : List D} (h : EvAs X es env (ds.map AK.v) env1) (hz : ds.length ≤ 1000 := by first | decide | simp) : Ev X (.List es pos) env (.lst (ds.map M.val)) env1 :=
  ⟨h.1, fun O H σ F r w Q q => ⟨_, pe_lst pa_w, h.2 O H σ F r w _ fun O1 H1 vs F1 ra r1 s1 => by
    have rl := repL_of ds ra
    refine ⟨by rw [rl.len]; exact Nat.le_trans hz (by decide), fun p hp => ?_⟩
    have s0 : Step O1 H1 [] (fun a => O1 a ∨ a = p) (upd H1 p (.lst vs)) [p] := Step.new (G := []) s1.wf.nil hp
    refine q _ _ (.ref p) [p] F1 ⟨p, vs, [], rfl, rfl, upd_same, repML_val ds (RepL.keep (s0.kf s1.wf.nil) s0.nw ds rl)⟩ (r1.quiet s0) (s1.trans w (s0.quiet s1.wf))⟩⟩
theorem frzL_val (ds : List D) : frzL (ds.map M.val) = ds := by
  rw [frzL_eq, List.map_map]
  exact List.map_id ds
theorem ev_lstF {ds : List D} (h : EvAs X es env (ds.map AK.v) env1) (hz : ds.length ≤ 1000 := by first | decide | simp) : Ev X (.List es pos) env (.val (.lst ds)) env1 :=
  (ev_lst h hz).frz.eq (by show M.val (.lst (frzL (ds.map M.val))) = _; rw [frzL_val])
end

/-! ### functions -/
/-- called with ds, all frozen, it gives r and changes nothing -/
def FS0 (K : PySem.W.Frag) (ds : List D) (r : M) : Sp := fun vs H Q _ => ∃ O, Wf O H [] ∧ RepL K O H ds vs ∧ ∀ (O' : OW) (H' : Hp) (v : V) (Fv : List Addr), RepM K O' H' r v Fv → Step O H [] O' H' Fv → Q v H'
/-- one argument is lent: its thing m becomes m' -/
def FS1 (K : PySem.W.Frag) (pre : List D) (m : M) (post : List D) (r : M) (m' : M) : Sp := fun vs H Q _ => ∃ (O : OW) (u0 : V) (F0 : List Addr) (vs1 vs2 : List V), Wf O H F0 ∧ RepM K O H m u0 F0 ∧ vs = vs1 ++ u0 :: vs2 ∧ RepL K O H pre vs1 ∧ RepL K O H post vs2 ∧
  ∀ (O' : OW) (H' : Hp) (v : V) (Fv F1 : List Addr), RepM K O' H' r v Fv → RepM K O' H' m' u0 F1 → Step O H F0 O' H' (Fv ++ F1) → Q v H'
/-- a def of the module -/
def Fn (P : Program) (w : World) (K : PySem.W.Frag) (mg : Str → Option Value) (base : Heap) (x : Str) (n k : Nat) (sp : Sp) : Prop :=
  ∃ (f : Addr) (fd : FuncData) (ps : List Str), ps.length = n ∧ FnOk P w K mg base CX0 k f fd ps sp ∧ mg x = some (.ref f) ∧ PySem.W.keepIn K (.ref f) = true ∧ Binds K fd ps []
section
variable {X : Cx} {env env1 env2 : Sls} {e : Expr} {es : List Expr} {pos p : Pos} {n : Str} {k j : Nat} {r m m' : M}
theorem ev_call {ds : List D} (G : Fn X.prog X.w X.K X.mg X.base n j k (FS0 X.K ds r)) (hr : Room k X.A) (ha : EvAs X (e :: es) env (ds.map AK.v) env1) (hg : Gl X n := by rfl)
    (hdb : (n == ("__debug__" : Str)) = false := by decide) (he : starEach (e :: es) X.env = (false, eval e X.env) :: starEach es X.env := by rfl) (hpl : (backTo pos (starEach es X.env)).any (·.1) = false := by rfl) :
    Ev X (.Call (.Name n p) (e :: es) [] pos) env r env1 := by
  obtain ⟨f, fd, ps, _, G, hm, hk, hb⟩ := G
  refine ⟨ha.1, fun O H σ F rs w Q q => ⟨_, pe_call G hr hg hm hk hb .nil pass0 pa_w hdb he hpl, ha.2 O H σ F rs w _ fun O1 H1 vs F1 ra r1 s1 => ?_⟩⟩
  show FS0 X.K ds r (vs ++ []) H1 Q _
  rw [List.append_nil]
  exact ⟨O1, s1.wf.nil, repL_of ds ra, fun O2 H2 v Fv rv s2 => q O2 H2 v Fv F1 rv (r1.quiet s2) (s1.trans w (s2.quiet s1.wf))⟩
end
end Lin

end

section
namespace Lin
open PySem PySem.Spec PyProof.Rows L2

/-! ### defs -/
def start0 (N : List Str) (ds : List D) : Sls := ds.map vl ++ List.replicate (N.length - ds.length) none
theorem repS_none {K : PySem.W.Frag} {O : OW} {H : Hp} : ∀ j : Nat, RepS K O H (List.replicate j none) (List.replicate j none) []
  | 0 => ⟨rfl, rfl⟩
  | j + 1 => ⟨none, _, rfl, repS_none j⟩
theorem repS_start {K : PySem.W.Frag} {O : OW} {H : Hp} (j : Nat) : ∀ (ds : List D) {vs : List V}, RepL K O H ds vs → RepS K O H (ds.map vl ++ List.replicate j none) (vs.map some ++ List.replicate j none) []
  | [], _, h => by rw [show _ = [] from h]; exact repS_none j
  | d :: ds, _, ⟨u, us, e, p, q⟩ => by
    rw [e]
    exact ⟨u, _, [], [], rfl, rfl, ⟨rfl, p⟩, repS_start j ds q⟩
section
variable {P : Program} {w : World} {K : PySem.W.Frag} {mg : Str → Option Value} {base : Heap} {x qual : Str} {st : Stmt} {f : Addr} {fd : FuncData} {N ps : List Str} {k : Nat} {ds : List D} {r : M} {env0 env' : Sls}
/-- a def that changes nothing, by its body -/
theorem fn0 (F : Fun K x qual st f fd) (S : FnScope N ps (defScope st)) (b : Binds K fd ps []) (g : mg x = some (.ref f)) (hl : ds.length = ps.length) (h0 : env0 = start0 N ds)
    (body : ∀ (cdv : Value) (A : Around) (outer : List Env) (s : Shared) (H : Hp) (E : XK), Room k (A.deeper (envOfC qual (defScope st) s.heap.objs.size f cdv)) →
      ∃ env', Ex (cxOf CX0 P w K mg base N qual (defScope st) f cdv A outer s H E).nox (defBody st) env0 (.rt r env')) : Fn P w K mg base x ps.length (k + 1) (FS0 K ds r) := by
  refine ⟨f, fd, ps, rfl, F.ok S (fun vs H Q E h => ?_) (fun cdv A outer s H vs Q E hr h => ?_), g, F.kp, b⟩
  · obtain ⟨O, _, rl, _⟩ := h
    rw [rl.len, hl]
  · obtain ⟨O, wf, rl, q⟩ := h
    obtain ⟨env', ex⟩ := body cdv A outer s H E hr
    subst h0
    refine ex O H (L2.start N vs) [] ?_ wf _ fun O' H' σ' v Fv F' rm rs s' _ => q O' H' v Fv rm s'.dropR
    have z := repS_start (K := K) (O := O) (H := H) (N.length - ds.length) ds rl
    unfold L2.start start0
    rw [rl.len]
    exact z
/-- one that ends without return -/
theorem fn0n (F : Fun K x qual st f fd) (S : FnScope N ps (defScope st)) (b : Binds K fd ps []) (g : mg x = some (.ref f)) (hl : ds.length = ps.length) (h0 : env0 = start0 N ds)
    (body : ∀ (cdv : Value) (A : Around) (outer : List Env) (s : Shared) (H : Hp) (E : XK), Room k (A.deeper (envOfC qual (defScope st) s.heap.objs.size f cdv)) →
      ∃ env', Ex (cxOf CX0 P w K mg base N qual (defScope st) f cdv A outer s H E).nox (defBody st) env0 (.nx env')) : Fn P w K mg base x ps.length (k + 1) (FS0 K ds (.val .none)) := by
  refine ⟨f, fd, ps, rfl, F.ok S (fun vs H Q E h => ?_) (fun cdv A outer s H vs Q E hr h => ?_), g, F.kp, b⟩
  · obtain ⟨O, _, rl, _⟩ := h
    rw [rl.len, hl]
  · obtain ⟨O, wf, rl, q⟩ := h
    obtain ⟨env', ex⟩ := body cdv A outer s H E hr
    subst h0
    refine ex O H (L2.start N vs) [] ?_ wf _ fun O' H' σ' F' rs s' _ => q O' H' .non [] ⟨rfl, rfl⟩ (Step.dropR (F' := []) s')
    have z := repS_start (K := K) (O := O) (H := H) (N.length - ds.length) ds rl
    unfold L2.start start0
    rw [rl.len]
    exact z
end

/-! ### operators on ints -/
section
variable {X : Cx} {env env1 env2 env3 : Sls} {a b c e : Expr} {es : List Expr} {pos : Pos} {d x y : D} {m : M} {K : PySem.W.Frag}
theorem ro_int0 {g : Int → Int → V} {i j : Int} (h : ∀ (O : OW) (H : Hp), Rep K O H d (g i j)) : RO K (rI0 g) (.int i) (.int j) (.val d) :=
  ro_val fun O H u v Q hu hv q => ⟨i, j, hu, hv, q _ (h O H)⟩
theorem ro_int {C : Int → Int → Prop} {g : Int → Int → V} {i j : Int} (hc : C i j) (h : ∀ (O : OW) (H : Hp), Rep K O H d (g i j)) : RO K (rI C g) (.int i) (.int j) (.val d) :=
  ro_val fun O H u v Q hu hv q => ⟨i, j, hu, hv, hc, q _ (h O H)⟩
variable {i j : Int}
theorem ev_add (ha : Ev X a env (.val (.int i)) env1) (hb : Ev X b env1 (.val (.int j)) env2) : Ev X (.BinOp a .Add b pos) env (.val (.int (i + j))) env2 := ev_bin op_add ha hb (ro_int0 fun _ _ => rfl)
theorem ev_sub (ha : Ev X a env (.val (.int i)) env1) (hb : Ev X b env1 (.val (.int j)) env2) : Ev X (.BinOp a .Sub b pos) env (.val (.int (i - j))) env2 := ev_bin op_sub ha hb (ro_int0 fun _ _ => rfl)
theorem ev_mul (ha : Ev X a env (.val (.int i)) env1) (hb : Ev X b env1 (.val (.int j)) env2) (hc : CMul i j) : Ev X (.BinOp a .Mult b pos) env (.val (.int (i * j))) env2 := ev_bin op_mul ha hb (ro_int hc fun _ _ => rfl)
theorem ev_mod (ha : Ev X a env (.val (.int i)) env1) (hb : Ev X b env1 (.val (.int j)) env2) (hc : 0 < j) : Ev X (.BinOp a .Mod b pos) env (.val (.int (i % j))) env2 := ev_bin op_mod ha hb (ro_int hc fun _ _ => rfl)
theorem ev_div (ha : Ev X a env (.val (.int i)) env1) (hb : Ev X b env1 (.val (.int j)) env2) (hc : CDiv i j) : Ev X (.BinOp a .FloorDiv b pos) env (.val (.int (i / j))) env2 := ev_bin op_fdiv ha hb (ro_int hc fun _ _ => rfl)
theorem ev_pow (ha : Ev X a env (.val (.int i)) env1) (hb : Ev X b env1 (.val (.int j)) env2) (hc : CPow i j) : Ev X (.BinOp a .Pow b pos) env (.val (.int (i ^ j.toNat))) env2 := ev_bin op_pow ha hb (ro_int hc fun _ _ => rfl)
theorem ev_neg (ha : Ev X a env (.val (.int i)) env1) : Ev X (.UnaryOp .USub a pos) env (.val (.int (-i))) env1 :=
  ⟨ha.1, fun O H σ F r w Q q => ⟨_, pe_un un_neg pe_w, ha.2 O H σ F r w _ fun O' H' v Fv F' ⟨ev, rv⟩ rs s => by
    subst ev
    exact ⟨i, rv, q O' H' _ [] F' ⟨rfl, rfl⟩ rs s⟩⟩⟩
theorem tv_lt (ha : Ev X a env (.val (.int i)) env1) (hb : Ev X b env1 (.val (.int j)) env2) : Tv X (.Compare a [.Lt] [b] pos) env (decide (i < j)) env2 := tv_cmp op_lt ha hb (ro_int0 fun _ _ => rfl)
theorem tv_le (ha : Ev X a env (.val (.int i)) env1) (hb : Ev X b env1 (.val (.int j)) env2) : Tv X (.Compare a [.LtE] [b] pos) env (decide (i ≤ j)) env2 := tv_cmp op_le ha hb (ro_int0 fun _ _ => rfl)
theorem tv_gt (ha : Ev X a env (.val (.int i)) env1) (hb : Ev X b env1 (.val (.int j)) env2) : Tv X (.Compare a [.Gt] [b] pos) env (decide (j < i)) env2 := tv_cmp op_gt ha hb (ro_int0 fun _ _ => rfl)
theorem tv_ge (ha : Ev X a env (.val (.int i)) env1) (hb : Ev X b env1 (.val (.int j)) env2) : Tv X (.Compare a [.GtE] [b] pos) env (decide (j ≤ i)) env2 := tv_cmp op_ge ha hb (ro_int0 fun _ _ => rfl)
theorem ev_lt (ha : Ev X a env (.val (.int i)) env1) (hb : Ev X b env1 (.val (.int j)) env2) : Ev X (.Compare a [.Lt] [b] pos) env (.val (.bool (decide (i < j)))) env2 := ev_cmp op_lt ha hb (ro_int0 fun _ _ => rfl)
theorem ev_le (ha : Ev X a env (.val (.int i)) env1) (hb : Ev X b env1 (.val (.int j)) env2) : Ev X (.Compare a [.LtE] [b] pos) env (.val (.bool (decide (i ≤ j)))) env2 := ev_cmp op_le ha hb (ro_int0 fun _ _ => rfl)
theorem ev_gt (ha : Ev X a env (.val (.int i)) env1) (hb : Ev X b env1 (.val (.int j)) env2) : Ev X (.Compare a [.Gt] [b] pos) env (.val (.bool (decide (j < i)))) env2 := ev_cmp op_gt ha hb (ro_int0 fun _ _ => rfl)
theorem ev_ge (ha : Ev X a env (.val (.int i)) env1) (hb : Ev X b env1 (.val (.int j)) env2) : Ev X (.Compare a [.GtE] [b] pos) env (.val (.bool (decide (j ≤ i)))) env2 := ev_cmp op_ge ha hb (ro_int0 fun _ _ => rfl)
/-- scalars that are compared by == -/
def scalD : D → D → Bool
  | .int _, .int _ => true
  | .bool _, .bool _ => true
  | .str _, .str _ => true
  | _, _ => false
end
end Lin

end

section
namespace Lin
open PySem PySem.Spec PyProof.Rows L2

section
variable {X : Cx} {env env1 env2 env3 : Sls} {a b c e : Expr} {es : List Expr} {pos p : Pos} {d x y : D} {m : M} {K : PySem.W.Frag} {O : OW} {H : Hp} {n : Str}
/-! ### items -/
theorem RepL.get : ∀ {ds : List D} {xs : List V} {i : Nat}, RepL K O H ds xs → ds[i]? = some d → ∃ v, xs[i]? = some v ∧ Rep K O H d v
  | [], _, _, _, h => by simp at h
  | d' :: ds, _, 0, ⟨v, vs, e, p, q⟩, h => by
    have e' : d' = d := by simpa using h
    subst e e'
    exact ⟨v, rfl, p⟩
  | d' :: ds, _, i + 1, ⟨v, vs, e, p, q⟩, h => by
    subst e
    obtain ⟨u, z, r⟩ := RepL.get (i := i) q (by simpa using h)
    exact ⟨u, by simpa using z, r⟩
theorem RepL.atI {ds : List D} {xs : List V} {i : Int} (r : RepL K O H ds xs) (h : L2.atI ds i = some d) : ∃ v, L2.atI xs i = some v ∧ Rep K O H d v := by
  unfold L2.atI at h ⊢
  rw [r.len]
  cases q : ixN ds.length i with
  | none => rw [q] at h; cases h
  | some j =>
    rw [q] at h
    exact r.get h
theorem RepL.app : ∀ {ds : List D} {xs : List V} {es : List D} {ys : List V}, RepL K O H ds xs → RepL K O H es ys → RepL K O H (ds ++ es) (xs ++ ys)
  | [], _, _, _, h, k => by rw [show _ = [] from h]; exact k
  | d :: ds, _, _, _, ⟨v, vs, e, p, q⟩, k => by
    rw [e]
    exact ⟨v, _, rfl, p, RepL.app q k⟩
theorem repL_ints : ∀ (ns : List Int), RepL K O H (ns.map D.int) (ns.map V.int)
  | [] => rfl
  | n :: ns => ⟨_, _, rfl, rfl, repL_ints ns⟩
theorem RepL.ints : ∀ (ns : List Int) {xs : List V}, RepL K O H (ns.map D.int) xs → xs = ns.map V.int
  | [], _, h => h
  | n :: ns, _, ⟨v, vs, e, p, q⟩ => by rw [e, show v = V.int n from p, RepL.ints ns q]; rfl

theorem ev_ix {r : R2} (hi : IxR X r) (ha : Ev X a env (.val x) env1) (hb : Ev X b env1 (.val y) env2) (hr : RO X.K r x y m) (hs : PlainIx b := by exact fun _ _ => rfl) : Ev X (.Subscript a b pos) env m env2 :=
  ⟨ha.1.trans hb.1, fun O H σ F rs w Q q => ⟨_, pe_ix hi pe_w pe_w hs, two ha hb rs w fun O' H' u v F' ru rv r' s' =>
    hr O' H' s'.wf.nil u v ru rv Q fun O2 H2 z Fz rz s2 => q O2 H2 z Fz F' rz (r'.quiet s2) (s'.trans w (s2.quiet s'.wf))⟩⟩
theorem ro_ixL {ds : List D} {i : Int} (h : L2.atI ds i = some d) : RO K (rIxL K) (.lst ds) (.int i) (.val d) :=
  ro_val fun O H u v Q ⟨a, xs, e, _, hp, rl⟩ hv q => by
    obtain ⟨z, hz, rz⟩ := rl.atI h
    exact ⟨a, xs, i, z, e, hv, .inl (.inl hp), hz, q z rz⟩
theorem ro_ixT {ds : List D} {i : Int} (h : L2.atI ds i = some d) : RO K (rIxT K) (.tup ds) (.int i) (.val d) :=
  ro_val fun O H u v Q ⟨a, xs, e, hp, rl⟩ hv q => by
    obtain ⟨z, hz, rz⟩ := rl.atI h
    exact ⟨a, xs, i, z, e, hv, hp.imp (fun p => p.2) id, hz, q z rz⟩
theorem ev_ixL {ds : List D} {i : Int} (ha : Ev X a env (.val (.lst ds)) env1) (hb : Ev X b env1 (.val (.int i)) env2) (h : L2.atI ds i = some d) (hs : PlainIx b := by exact fun _ _ => rfl) : Ev X (.Subscript a b pos) env (.val d) env2 := ev_ix ix_list ha hb (ro_ixL h) hs
theorem ev_ixT {ds : List D} {i : Int} (ha : Ev X a env (.val (.tup ds)) env1) (hb : Ev X b env1 (.val (.int i)) env2) (h : L2.atI ds i = some d) (hs : PlainIx b := by exact fun _ _ => rfl) : Ev X (.Subscript a b pos) env (.val d) env2 := ev_ix ix_tup ha hb (ro_ixT h) hs
theorem ro_cat {ds es : List D} (hz : ds.length + es.length ≤ sizeLine) : RO K rCat (.lst ds) (.lst es) (.lst ((ds ++ es).map M.val)) :=
  fun O H w u v ⟨a, xs, eu, _, ha, ra⟩ ⟨b, ys, ev, _, hb, rb⟩ Q q => ⟨a, b, xs, ys, eu, ev, ha, hb, by rw [ra.len, rb.len]; exact hz, fun p hp => by
    have s0 : Step O H [] (fun a => O a ∨ a = p) (upd H p (.lst (xs ++ ys))) [p] := Step.new (G := []) w hp
    exact q _ _ (.ref p) [p] ⟨p, xs ++ ys, [], rfl, rfl, upd_same, repML_val _ (RepL.keep (s0.kf w) s0.nw _ (ra.app rb))⟩ s0⟩
theorem ev_cat {ds es : List D} (ha : Ev X a env (.val (.lst ds)) env1) (hb : Ev X b env1 (.val (.lst es)) env2) (hz : ds.length + es.length ≤ sizeLine) : Ev X (.BinOp a .Add b pos) env (.lst ((ds ++ es).map M.val)) env2 := ev_bin op_cat ha hb (ro_cat hz)

/-! ### calls of what is built in -/
theorem ev_cty {T : String} {r : List V → Hp → VK → Prop} {ds : List D} (hc : CallR X (.type T) r) (hr : RF X.K r ds m) (ha : EvAs X (e :: es) env (ds.map AK.v) env1) (hm : X.mg n = none) (hv : bootBuiltins n = some (.type T)) (hg : Gl X n := by rfl) (hn : n ≠ "__name__" := by decide) (hdb : (n == ("__debug__" : Str)) = false := by decide) 
    (he : starEach (e :: es) X.env = (false, eval e X.env) :: starEach es X.env := by rfl) (hpl : (backTo pos (starEach es X.env)).any (·.1) = false := by rfl) : Ev X (.Call (.Name n p) (e :: es) [] pos) env m env1 :=
  ⟨ha.1, fun O H σ F rs w Q q => ⟨_, pe_callTy hc hg hm hv pa_w hn hdb he hpl, ha.2 O H σ F rs w _ fun O1 H1 vs F1 ra r1 s1 =>
    hr O1 H1 s1.wf.nil vs (repL_of ds ra) Q fun O2 H2 z Fz rz s2 => q O2 H2 z Fz F1 rz (r1.quiet s2) (s1.trans w (s2.quiet s1.wf))⟩⟩
theorem ev_cbi {id : String} {r : List V → Hp → VK → Prop} {ds : List D} (hc : CallR X (.builtin id) r) (hr : RF X.K r ds m) (ha : EvAs X (e :: es) env (ds.map AK.v) env1) (hm : X.mg n = none) (hv : bootBuiltins n = some (.builtin id)) (hg : Gl X n := by rfl) (hn : n ≠ "__name__" := by decide) (hdb : (n == ("__debug__" : Str)) = false := by decide) 
    (he : starEach (e :: es) X.env = (false, eval e X.env) :: starEach es X.env := by rfl) (hpl : (backTo pos (starEach es X.env)).any (·.1) = false := by rfl) : Ev X (.Call (.Name n p) (e :: es) [] pos) env m env1 :=
  ⟨ha.1, fun O H σ F rs w Q q => ⟨_, pe_callB hc hg hm hv pa_w hn hdb he hpl, ha.2 O H σ F rs w _ fun O1 H1 vs F1 ra r1 s1 =>
    hr O1 H1 s1.wf.nil vs (repL_of ds ra) Q fun O2 H2 z Fz rz s2 => q O2 H2 z Fz F1 rz (r1.quiet s2) (s1.trans w (s2.quiet s1.wf))⟩⟩
/-- a scalar answer -/
theorem rf_val {r : List V → Hp → VK → Prop} {ds : List D} (h : ∀ (O : OW) (H : Hp) (vs : List V) (Q : VK), RepL K O H ds vs → (∀ z, Rep K O H d z → Q z H) → r vs H Q) : RF K r ds (.val d) :=
  fun O H w vs rl Q q => h O H vs Q rl fun z rz => q O H z [] ⟨rfl, rz⟩ (Step.refl w)
theorem ev_intI {i : Int} (ha : Ev X e env (.val (.int i)) env1) (hm : X.mg "int" = none) (hg : Gl X "int" := by rfl) (he : starEach [e] X.env = (false, eval e X.env) :: starEach [] X.env := by rfl) (hpl : (backTo pos (starEach [] X.env)).any (·.1) = false := by rfl) : Ev X (.Call (.Name "int" p) [e] [] pos) env (.val (.int i)) env1 :=
  ev_cty (ds := [.int i]) call_int1 (rf_val fun O H vs Q ⟨u, us, e, hu, hn⟩ q => .inl ⟨i, by rw [e, show u = V.int i from hu, show us = [] from hn], q _ rfl⟩) (ea_cons ha ea_nil he) hm boot_int hg (by decide) (by decide) he hpl
theorem ev_lenL {ds : List D} (ha : Ev X e env (.val (.lst ds)) env1) (hm : X.mg "len" = none) (hg : Gl X "len" := by rfl) (he : starEach [e] X.env = (false, eval e X.env) :: starEach [] X.env := by rfl) (hpl : (backTo pos (starEach [] X.env)).any (·.1) = false := by rfl) : Ev X (.Call (.Name "len" p) [e] [] pos) env (.val (.int ds.length)) env1 :=
  ev_cbi (ds := [.lst ds]) call_len_seq (rf_val fun O H vs Q ⟨u, us, e, ⟨a, xs, hu, _, hp, rl⟩, hn⟩ q => ⟨a, xs, by rw [e, hu, show us = [] from hn], .inl (.inl (.inl hp)), by rw [rl.len]; exact q _ rfl⟩) (ea_cons ha ea_nil he) hm PySem.boot_len hg (by decide) (by decide) he hpl
theorem ev_lenT {ds : List D} (ha : Ev X e env (.val (.tup ds)) env1) (hm : X.mg "len" = none) (hg : Gl X "len" := by rfl) (he : starEach [e] X.env = (false, eval e X.env) :: starEach [] X.env := by rfl) (hpl : (backTo pos (starEach [] X.env)).any (·.1) = false := by rfl) : Ev X (.Call (.Name "len" p) [e] [] pos) env (.val (.int ds.length)) env1 :=
  ev_cbi (ds := [.tup ds]) call_len_seq (rf_val fun O H vs Q ⟨u, us, e, ⟨a, xs, hu, hp, rl⟩, hn⟩ q => ⟨a, xs, by rw [e, hu, show us = [] from hn], .inr (hp.imp (fun p => p.2) id), by rw [rl.len]; exact q _ rfl⟩) (ea_cons ha ea_nil he) hm PySem.boot_len hg (by decide) (by decide) he hpl
end
end Lin

end

section
namespace Lin
open PySem PySem.Spec PyProof.Rows L2

def Sl.put : Sl → M → Sl
  | .own _, m => .own m
  | .io _, m => .io m
theorem Sl.put_m (s : Sl) (m : M) : (s.put m).m = m := by cases s <;> rfl
theorem Io.put {env : Sls} {i : Nat} {s : Sl} {m : M} (h : env[i]? = some (some s)) : Io env (env.set i (some (s.put m))) := fun j m' z => by
  by_cases e : i = j
  · subst e
    rw [h] at z
    have hl : i < env.length := (List.getElem?_eq_some_iff.mp h).1
    cases z
    exact ⟨m, by rw [List.getElem?_set_self hl]; rfl⟩
  · exact ⟨m', by rw [List.getElem?_set_ne e]; exact z⟩
theorem repA_split {K : PySem.W.Frag} {O : OW} {H : Hp} {σ : L2.St} {i : Nat} {post : List D} {u0 : V} (h0 : σ[i]? = some (some u0)) : ∀ (pre : List D) {vs : List V}, RepA K O H σ (pre.map AK.v ++ AK.lend i :: post.map AK.v) vs → ∃ vs1 vs2, vs = vs1 ++ u0 :: vs2 ∧ RepL K O H pre vs1 ∧ RepL K O H post vs2
  | [], _, ⟨u, us, e, p, q⟩ => by
    have e1 : u = u0 := by rw [h0] at p; exact (Option.some.inj (Option.some.inj p)).symm
    subst e1
    exact ⟨[], us, e, rfl, repL_of post q⟩
  | d :: pre, _, ⟨u, us, e, p, q⟩ => by
    obtain ⟨v1, v2, e2, a, b⟩ := repA_split h0 pre q
    exact ⟨u :: v1, v2, by rw [e, e2]; rfl, ⟨u, v1, rfl, p, a⟩, b⟩
section
variable {X : Cx} {env env1 env2 : Sls} {e : Expr} {es : List Expr} {pos p : Pos} {n : Str} {k j i : Nat} {r m m' : M} {s : Sl}
/-- a call to which one name is lent -/
theorem ev_call1 {pre post : List D} (G : Fn X.prog X.w X.K X.mg X.base n j k (FS1 X.K pre m post r m')) (hr : Room k X.A) (ha : EvAs X (e :: es) env (pre.map AK.v ++ AK.lend i :: post.map AK.v) env1) (hi : env1[i]? = some (some s)) (hsm : s.m = m := by rfl) (hg : Gl X n := by rfl)
    (hdb : (n == ("__debug__" : Str)) = false := by decide) (he : starEach (e :: es) X.env = (false, eval e X.env) :: starEach es X.env := by rfl) (hpl : (backTo pos (starEach es X.env)).any (·.1) = false := by rfl) :
    Ev X (.Call (.Name n p) (e :: es) [] pos) env r (env1.set i (some (s.put m'))) := by
  obtain ⟨f, fd, ps, _, G, hm, hk, hb⟩ := G
  subst hsm
  refine ⟨ha.1.trans (Io.put hi), fun O H σ F rs w Q q => ⟨_, pe_call G hr hg hm hk hb .nil pass0 pa_w hdb he hpl, ha.2 O H σ F rs w _ fun O1 H1 vs F1 ra r1 s1 => ?_⟩⟩
  show FS1 X.K pre s.m post r m' (vs ++ []) H1 Q _
  rw [List.append_nil]
  obtain ⟨v, G1, Gi, G2, e1, ef, rm, _, kk⟩ := RepS.at r1 hi
  subst ef
  obtain ⟨vs1, vs2, ev, a1, a2⟩ := repA_split e1 pre ra
  have pm : (Gi ++ (G1 ++ G2)).Perm (G1 ++ (Gi ++ G2)) := List.perm_iff_count.mpr fun a => by simp only [List.count_append]; omega
  have wf := s1.wf.perm pm.symm
  refine ⟨O1, v, Gi, vs1, vs2, wf.left, rm, ev, a1, a2, fun O2 H2 z Fz F2 rz rm2 s2 => ?_⟩
  have rs2 := kk O2 H2 (s2.kf wf.left) s2.nw (fun a o ha h => s2.frame a o h fun q => wf.apart q ha) v (s.put m') F2 (by rw [Sl.put_m]; exact rm2)
  rw [set_same e1] at rs2
  refine q O2 H2 z Fz _ rz rs2 (s1.trans w (((s2.beside wf).permL pm).permR (List.perm_iff_count.mpr fun a => by simp only [List.count_append]; omega)))
end
section
variable {P : Program} {w : World} {K : PySem.W.Frag} {mg : Str → Option Value} {base : Heap} {x qual : Str} {st : Stmt} {f : Addr} {fd : FuncData} {N ps : List Str} {k : Nat} {pre post : List D} {r m m' : M} {env0 : Sls}
def start1 (N : List Str) (pre : List D) (m : M) (post : List D) : Sls := pre.map vl ++ some (Sl.io m) :: (post.map vl ++ List.replicate (N.length - (pre.length + post.length + 1)) none)
theorem repS_start1 {O : OW} {H : Hp} {u0 : V} {F0 : List Addr} (rm : RepM K O H m u0 F0) {tl : Sls} {st : L2.St} (rt : RepS K O H tl st []) : ∀ (pre : List D) {vs : List V}, RepL K O H pre vs → RepS K O H (pre.map vl ++ some (Sl.io m) :: tl) (vs.map some ++ some u0 :: st) F0
  | [], _, h => by
    rw [show _ = [] from h]
    exact ⟨u0, st, F0, [], rfl, (List.append_nil _).symm, rm, rt⟩
  | d :: pre, _, ⟨u, us, e, p, q⟩ => by
    rw [e]
    exact ⟨u, _, [], F0, rfl, rfl, ⟨rfl, p⟩, repS_start1 rm rt pre q⟩
/-- a def to which one argument is lent, by its body -/
theorem fn1 (F : Fun K x qual st f fd) (S : FnScope N ps (defScope st)) (b : Binds K fd ps []) (g : mg x = some (.ref f)) (hl : pre.length + post.length + 1 = ps.length) (h0 : env0 = start1 N pre m post)
    (body : ∀ (cdv : Value) (A : Around) (outer : List Env) (s : Shared) (H : Hp) (E : XK), Room k (A.deeper (envOfC qual (defScope st) s.heap.objs.size f cdv)) →
      ∃ env', Ex (cxOf CX0 P w K mg base N qual (defScope st) f cdv A outer s H E).nox (defBody st) env0 (.rt r env') ∧ env'[pre.length]? = some (some (Sl.io m'))) : Fn P w K mg base x ps.length (k + 1) (FS1 K pre m post r m') := by
  refine ⟨f, fd, ps, rfl, F.ok S (fun vs H Q E h => ?_) (fun cdv A outer s H vs Q E hr h => ?_), g, F.kp, b⟩
  · obtain ⟨O, u0, F0, v1, v2, _, _, e, a1, a2, _⟩ := h
    rw [e, List.length_append, List.length_cons, a1.len, a2.len, ← hl]; omega
  · obtain ⟨O, u0, F0, v1, v2, wf, rm, e, a1, a2, q⟩ := h
    obtain ⟨env', ex, he'⟩ := body cdv A outer s H E hr
    subst h0
    have hst : L2.start N vs = v1.map some ++ some u0 :: (v2.map some ++ List.replicate (N.length - (pre.length + post.length + 1)) none) := by
      unfold L2.start
      rw [e, List.length_append, List.length_cons, a1.len, a2.len, List.map_append, List.map_cons, List.append_assoc, List.cons_append, show pre.length + (post.length + 1) = pre.length + post.length + 1 by omega]
    have rs0 := repS_start1 (K := K) rm (repS_start (K := K) (O := O) (H := H) (N.length - (pre.length + post.length + 1)) post a2) pre a1
    rw [← hst] at rs0
    refine ex O H (L2.start N vs) F0 rs0 wf _ fun O' H' σ' v Fv F' rv rs s' pn => ?_
    have hin : (start1 N pre m post)[pre.length]? = some (some (Sl.io m)) := by
      unfold start1
      rw [List.getElem?_append_right (by rw [List.length_map]; exact Nat.le_refl _), List.length_map, Nat.sub_self]; rfl
    obtain ⟨_, hp⟩ := pn _ m hin
    obtain ⟨u, G1, Gi, G2, e1, ef, rmi, _, _⟩ := RepS.at rs he'
    subst ef
    have hu : (L2.start N vs)[pre.length]? = some (some u0) := by
      rw [hst, List.getElem?_append_right (by rw [List.length_map, a1.len]; exact Nat.le_refl _), List.length_map, a1.len, Nat.sub_self]; rfl
    have e2 : u = u0 := by
      rw [hp, hu] at e1
      exact (Option.some.inj (Option.some.inj e1)).symm
    subst e2
    exact q O' H' v Fv Gi rv rmi ((s'.permR (List.perm_iff_count.mpr fun a => by simp only [List.count_append]; omega : (Fv ++ (G1 ++ (Gi ++ G2))).Perm ((Fv ++ Gi) ++ (G1 ++ G2)))).dropR)
end
end Lin

end

section
namespace Lin
open PySem PySem.Spec PyProof.Rows L2

section
variable {X : Cx} {env env1 env2 env3 : Sls} {a b c e : Expr} {es : List Expr} {pos p pos' apos : Pos} {d x y : D} {m : M} {ms : List M} {K : PySem.W.Frag} {O : OW} {H : Hp} {n : Str} {s : Sl} {i j : Nat}
/-! ### lists that are owned, by their name -/
theorem RepML.len : ∀ {ms : List M} {vs : List V} {F : List Addr}, RepML K O H ms vs F → vs.length = ms.length
  | [], _, _, ⟨h, _⟩ => by rw [h]; rfl
  | m :: ms, _, _, ⟨v, vs, F1, F2, e, ef, p, q⟩ => by rw [e, List.length_cons, RepML.len q, List.length_cons]
theorem RepML.get : ∀ {ms : List M} {vs : List V} {F : List Addr} {i : Nat}, RepML K O H ms vs F → ms[i]? = some (.val d) → ∃ v, vs[i]? = some v ∧ Rep K O H d v
  | [], _, _, _, _, h => by simp at h
  | m' :: ms, _, _, 0, ⟨v, vs, F1, F2, e, ef, p, q⟩, h => by
    have e' : m' = .val d := by simpa using h
    subst e e'
    exact ⟨v, rfl, p.2⟩
  | m' :: ms, _, _, i + 1, ⟨v, vs, F1, F2, e, ef, p, q⟩, h => by
    subst e
    obtain ⟨u, z, r⟩ := RepML.get (i := i) q (by simpa using h)
    exact ⟨u, by simpa using z, r⟩
theorem RepML.atI {vs : List V} {F : List Addr} {i : Int} (r : RepML K O H ms vs F) (h : L2.atI ms i = some (.val d)) : ∃ v, L2.atI vs i = some v ∧ Rep K O H d v := by
  unfold L2.atI at h ⊢
  rw [r.len]
  cases q : ixN ms.length i with
  | none => rw [q] at h; cases h
  | some j =>
    rw [q] at h
    exact r.get h
theorem RepML.set : ∀ {ms : List M} {vs : List V} {F : List Addr} {i : Nat} {v : V}, RepML K O H ms vs F → Rep K O H d v → i < ms.length → ∃ F' G, F.Perm (F' ++ G) ∧ RepML K O H (ms.set i (.val d)) (vs.set i v) F'
  | [], _, _, _, _, _, _, h => absurd h (Nat.not_lt_zero _)
  | m' :: ms, _, _, 0, u, ⟨v, vs, F1, F2, e, ef, p, q⟩, r, _ => by
    subst e ef
    exact ⟨F2, F1, List.perm_append_comm, u, vs, [], F2, rfl, rfl, ⟨rfl, r⟩, q⟩
  | m' :: ms, _, _, i + 1, u, ⟨v, vs, F1, F2, e, ef, p, q⟩, r, h => by
    subst e ef
    obtain ⟨F', G, pm, k⟩ := RepML.set (i := i) (v := u) q r (Nat.lt_of_succ_lt_succ h)
    exact ⟨F1 ++ F', G, by rw [List.append_assoc]; exact pm.append_left F1, v, vs.set i u, F1, F', rfl, rfl, p, k⟩
theorem RepML.app : ∀ {ms ns : List M} {xs ys : List V} {F G : List Addr}, RepML K O H ms xs F → RepML K O H ns ys G → RepML K O H (ms ++ ns) (xs ++ ys) (F ++ G)
  | [], _, _, _, _, _, ⟨h, e⟩, k => by rw [h, e]; exact k
  | m :: ms, _, _, _, _, _, ⟨v, vs, F1, F2, e, ef, p, q⟩, k => by
    rw [e, ef, List.append_assoc]
    exact ⟨v, _, F1, _, rfl, rfl, p, RepML.app q k⟩
/-- x[i] of an owned list, a frozen item -/
theorem ev_ixO (i : Nat) {k : Int} (hb : Ev X b env (.val (.int k)) env1) (hi : env1[i]? = some (some s)) (hm : s.m = .lst ms) (h : L2.atI ms k = some (.val d)) (hN : X.N[i]? = some n := by rfl) (hv : Vis X.env.scope n := by first | exact Or.inl rfl | exact Or.inr (Or.inl rfl) | exact Or.inr (Or.inr rfl))
    (hd : (n == ("__debug__" : Str)) = false := by decide) (hcd : (n == ("__classdict__" : Str)) = false := by decide) (hs : PlainIx b := by exact fun _ _ => rfl) (hse : ∃ t, env[i]? = some (some t) := by exact ⟨_, rfl⟩) : Ev X (.Subscript (.Name n p) b pos) env (.val d) env1 :=
  ⟨hb.1, fun O H σ F r w Q q => ⟨_, pe_ix ix_list (pe_var hN hv hd hcd) pe_w hs, by
    obtain ⟨t, ht⟩ := hse
    obtain ⟨v, F1, Fi, F2, e1, ef, _, _, _⟩ := RepS.at r ht
    refine ⟨v, e1, hb.2 O H σ F r w _ fun O1 H1 u Fu G ⟨eu, ru⟩ r1 s1 => ?_⟩
    subst eu
    obtain ⟨v', G1, Gi, G2, e2, ef', rm, _, _⟩ := RepS.at r1 hi
    have ev : v' = v := by rw [e1] at e2; exact (Option.some.inj (Option.some.inj e2)).symm
    subst ev
    rw [hm] at rm
    obtain ⟨l, xs, F', el, _, hp, rl⟩ := rm
    obtain ⟨z, hz, rz⟩ := rl.atI h
    exact ⟨l, xs, k, z, el, ru, .inl (.inl hp), hz, q O1 H1 z [] G ⟨rfl, rz⟩ r1 s1⟩⟩⟩
/-- len(x) of an owned list -/
theorem ev_lenO (i : Nat) (hi : env[i]? = some (some s)) (hm : s.m = .lst ms) (hl : X.mg "len" = none) (hN : X.N[i]? = some n := by rfl) (hv : Vis X.env.scope n := by first | exact Or.inl rfl | exact Or.inr (Or.inl rfl) | exact Or.inr (Or.inr rfl))
    (hd : (n == ("__debug__" : Str)) = false := by decide) (hcd : (n == ("__classdict__" : Str)) = false := by decide) (hg : Gl X "len" := by rfl) (he : starEach [.Name n p'] X.env = (false, eval (.Name n p') X.env) :: starEach [] X.env := by rfl) (hpl : (backTo pos (starEach [] X.env)).any (·.1) = false := by rfl) :
    Ev X (.Call (.Name "len" p) [.Name n p'] [] pos) env (.val (.int ms.length)) env :=
  ⟨Io.refl _, fun O H σ F r w Q q => ⟨_, pe_callB call_len_seq hg hl PySem.boot_len (pa_cons (pe_var hN hv hd hcd) pa_nil he) (by decide) (by decide) he hpl, by
    obtain ⟨v, F1, Fi, F2, e1, ef, rm, _, _⟩ := RepS.at r hi
    rw [hm] at rm
    obtain ⟨l, xs, F', el, _, hp, rl⟩ := rm
    exact ⟨v, e1, l, xs, by rw [el], .inl (.inl (.inl hp)), by rw [rl.len]; exact q O H _ [] F ⟨rfl, rfl⟩ r (Step.refl w)⟩⟩⟩
/-- x[k] = e of an owned list -/
theorem x1_setL (i : Nat) {k : Int} {j : Nat} (he : Ev X e env (.val d) env1) (hb : Ev X b env1 (.val (.int k)) env2) (hi : env2[i]? = some (some s)) (hm : s.m = .lst ms) (hj : ixN ms.length k = some j) (hse : ∃ t, env1[i]? = some (some t) := by exact ⟨_, rfl⟩) (hN : X.N[i]? = some n := by rfl) (hv : Vis X.env.scope n := by first | exact Or.inl rfl | exact Or.inr (Or.inl rfl) | exact Or.inr (Or.inr rfl))
    (hd : (n == ("__debug__" : Str)) = false := by decide) (hcd : (n == ("__classdict__" : Str)) = false := by decide) (hs : swapsWithSole [.Subscript (.Name n p) b pos'] e pos.line X.env = pure false := by rfl) (hw : swappedStores [.Subscript (.Name n p) b pos'] e X.env = pure none := by rfl)
    (hasg : ∀ v, assign (.Subscript (.Name n p) b pos') X.env v = (do let ov ← holding [v] (eval (.Name n p) X.env); let iv ← holding [v, ov] (eval b X.env); standAt pos'; holding [v, ov, iv] (setItem ov iv v); release [v, ov, iv] []) := by intro _; rfl) :
    Ex1 X (.Assign [.Subscript (.Name n p) b pos'] e pos) env (.nx (env2.set i (some (s.put (.lst (ms.set j (.val d))))))) := fun O H σ F r w D g =>
  ⟨_, ps_asg pe_w (pg_sub (pe_var hN hv hd hcd) pe_w set_list hasg) hs hw, he.2 O H σ F r w _ fun O1 H1 u Fu G ⟨eu, ru⟩ r1 s1 => by
    subst eu
    obtain ⟨t, ht⟩ := hse
    obtain ⟨v, F1, Fi, F2, e1, ef, _, _, _⟩ := RepS.at r1 ht
    refine ⟨v, e1, hb.2 O1 H1 σ G r1 s1.wf _ fun O2 H2 u2 Fu2 G' ⟨eu2, ru2⟩ r2 s2 => ?_⟩
    subst eu2
    obtain ⟨v', G1, Gi, G2, e2, ef', rm, _, kk⟩ := RepS.at r2 hi
    subst ef'
    have ev : v' = v := by rw [e1] at e2; exact (Option.some.inj (Option.some.inj e2)).symm
    subst ev
    rw [hm] at rm
    obtain ⟨l, xs, F', el, ef, hp, rl⟩ := rm
    subst ef
    have s02 := s1.trans w s2
    have jl : j < ms.length := by
      unfold ixN at hj
      split at hj
      · split at hj
        · have := Option.some.inj hj; omega
        · cases hj
      · split at hj
        · have := Option.some.inj hj; omega
        · cases hj
    have wf2 : Wf O2 H2 (G1 ++ (l :: F' ++ G2)) := s2.wf
    have lin : l ∈ G1 ++ (l :: F' ++ G2) := List.mem_append_right _ (List.mem_append_left _ (List.mem_cons_self ..))
    have lo : O2 l := wf2.own l lin
    obtain ⟨F3, G3, pm, rl3⟩ := RepML.set (i := j) (v := u) rl (s2.rep s1.wf ru) jl
    have s3 : Step O2 H2 (G1 ++ (l :: F' ++ G2)) O2 (upd H2 l (.lst (xs.set j u))) (G1 ++ (l :: F' ++ G2)) := Step.write wf2 lin
    have nd := wf2.nd
    have nF : ∀ a ∈ F', a ≠ l := fun a ha e => by
      subst e
      have := (List.nodup_append.mp nd).2.1
      exact (List.nodup_cons.mp this).1 (List.mem_append_left _ ha)
    have nG : ∀ a ∈ G1 ++ G2, a ≠ l := fun a ha e => by
      subst e
      rcases List.mem_append.mp ha with h | h
      · exact (List.nodup_append.mp nd).2.2 a h a (List.mem_append_left _ (List.mem_cons_self ..)) rfl
      · have := (List.nodup_append.mp nd).2.1
        exact (List.nodup_cons.mp this).1 (List.mem_append_right _ h)
    have kf : ∀ a o, H2 a = some o → ¬ O2 a → upd H2 l (.lst (xs.set j u)) a = some o := fun a o h n => by
      rw [upd_ne (fun e => n (by rw [e]; exact lo))]; exact h
    have rl4 : RepML X.K O2 (upd H2 l (.lst (xs.set j u))) (ms.set j (.val d)) (xs.set j u) F3 := RepML.keep kf (fun a h => .inl h) _ (fun a o ha h => by
      rw [upd_ne (nF a (pm.mem_iff.mpr (List.mem_append_left _ ha)))]; exact h) rl3
    have rs3 := kk O2 (upd H2 l (.lst (xs.set j u))) kf (fun a h => .inl h) (fun a o ha h => by rw [upd_ne (nG a ha)]; exact h) (.ref l) (s.put (.lst (ms.set j (.val d)))) (l :: F3) (by rw [Sl.put_m]; exact ⟨l, _, F3, rfl, rfl, upd_same, rl4⟩)
    rw [el] at e2
    rw [set_same e2] at rs3
    refine ⟨l, xs, k, j, el, ru2, hp, by rw [rl.len]; exact hj, g O2 _ σ (G1 ++ (l :: F3 ++ G2)) rs3 (((s02.trans w s3).permR (F2 := (G1 ++ (l :: F3 ++ G2)) ++ G3) ?_).dropR) (Pins.of (he.1.trans (hb.1.trans (Io.put hi))))⟩
    refine List.perm_iff_count.mpr fun a => ?_
    have := List.perm_iff_count.mp pm a
    simp only [List.count_append, List.count_cons] at this ⊢
    omega⟩
end
end Lin

end

section
namespace Lin
open PySem PySem.Spec PyProof.Rows L2

/-! ### targets and loops -/
def wG (X : Cx) (tg : Expr) : TG := fun v σ H Q => ∃ g, PG X tg g ∧ g v σ H Q
def wGs (X : Cx) (tgs : List Expr) : TGs := fun vs σ H Q => ∃ g, PGs X tgs g ∧ g vs σ H Q
def wI (X : Cx) (tg it : Expr) : TI := fun σ H R => ∃ w, PI X tg it w ∧ w σ H R
theorem pg_w {X : Cx} {tg : Expr} : PG X tg (wG X tg) := ⟨fun pins s σ H v u Q I r ⟨g, p, h⟩ => p.run pins s σ H v u Q I r h⟩
theorem pgs_w {X : Cx} {tgs : List Expr} : PGs X tgs (wGs X tgs) := ⟨fun pins s σ H v u Q I r ⟨g, p, h⟩ => p.run pins s σ H v u Q I r h⟩
theorem pi_w {X : Cx} {tg it : Expr} : PI X tg it (wI X tg it) := ⟨fun pins s σ H R I ⟨w, p, h⟩ => p.run pins s σ H R I h⟩

/-- what is frozen in one state stays in another -/
def Kept (O : OW) (H : Hp) (O' : OW) (H' : Hp) : Prop := (∀ a o, H a = some o → ¬ O a → H' a = some o) ∧ ∀ a, O' a → O a ∨ H a = none
theorem Kept.refl {O : OW} {H : Hp} : Kept O H O H := ⟨fun _ _ h _ => h, fun _ h => .inl h⟩
theorem Kept.trans {O O1 O2 : OW} {H H1 H2 : Hp} (k : Kept O H O1 H1) (l : Kept O1 H1 O2 H2) : Kept O H O2 H2 := by
  refine ⟨fun a o h n => l.1 a o (k.1 a o h n) fun q => ?_, fun a h => ?_⟩
  · rcases k.2 a q with z | z
    · exact n z
    · rw [h] at z; cases z
  · rcases none_or H a with q | ⟨o, q⟩
    · exact .inr q
    · rcases l.2 a h with z | z
      · exact k.2 a z
      · by_cases n : O a
        · exact .inl n
        · rw [k.1 a o q n] at z; cases z
theorem Step.kept {O O' : OW} {H H' : Hp} {F F' : List Addr} (w : Wf O H F) (s : Step O H F O' H' F') : Kept O H O' H' := ⟨s.kf w, s.nw⟩
theorem Rep.kept {K : PySem.W.Frag} {O O' : OW} {H H' : Hp} {d : D} {v : V} (k : Kept O H O' H') (h : Rep K O H d v) : Rep K O' H' d v := Rep.keep k.1 k.2 d h
theorem RepL.kept {K : PySem.W.Frag} {O O' : OW} {H H' : Hp} {d : List D} {v : List V} (k : Kept O H O' H') (h : RepL K O H d v) : RepL K O' H' d v := RepL.keep k.1 k.2 d h

/-- two rows of slots are one but at ws -/
def SameBut (ws : List Nat) (σ σ' : L2.St) : Prop := σ'.length = σ.length ∧ ∀ i, i ∉ ws → σ'[i]? = σ[i]?
/-- the target takes d, and stores at ws alone -/
def Tg (X : Cx) (tg : Expr) (d : D) (ws : List Nat) (env env' : Sls) : Prop := Io env env' ∧ ∀ (O : OW) (H : Hp) (σ : L2.St) (F : List Addr) (v : V), Rep X.K O H d v → RepS X.K O H env σ F → Wf O H F → ∀ Q : L2.St → Hp → Prop,
  (∀ (σ' : L2.St) (F' : List Addr), RepS X.K O H env' σ' F' → Step O H F O H F' → Pins env σ env' σ' → SameBut ws σ σ' → Q σ' H) → wG X tg v σ H Q
def Tgs (X : Cx) (tgs : List Expr) (ds : List D) (ws : List Nat) (env env' : Sls) : Prop := Io env env' ∧ ∀ (O : OW) (H : Hp) (σ : L2.St) (F : List Addr) (vs : List V), RepL X.K O H ds vs → RepS X.K O H env σ F → Wf O H F → ∀ Q : L2.St → Hp → Prop,
  (∀ (σ' : L2.St) (F' : List Addr), RepS X.K O H env' σ' F' → Step O H F O H F' → Pins env σ env' σ' → SameBut ws σ σ' → Q σ' H) → wGs X tgs vs σ H Q
section
variable {X : Cx} {env env1 env2 : Sls} {d : D} {ds : List D} {n : Str} {pos : Pos} {e : Expr} {es : List Expr} {ws ws2 : List Nat}
theorem io_set {i : Nat} {o : Option Sl} (hio : ∀ m', env[i]? ≠ some (some (Sl.io m'))) : Io env (env.set i o) := fun j m' z => by
  have hne : i ≠ j := fun q => hio m' (q ▸ z)
  exact ⟨m', by rw [List.getElem?_set_ne hne]; exact z⟩
theorem tg_name (i : Nat) (hio : ∀ m', env[i]? ≠ some (some (Sl.io m')) := by intro _ h; cases h) (hi : i < env.length := by simp) (hn : X.N.Nodup := by assumption) (hN : X.N[i]? = some n := by rfl)
    (hx : Loc X.env.scope n := by first | exact Or.inl rfl | exact Or.inr rfl) (hf : X.fn n = true ∨ X.env.scope.names.lookup n = some .local := by first | exact .inl rfl | exact .inr rfl) : Tg X (.Name n pos) d [i] env (env.set i (vl d)) := ⟨io_set hio, fun O H σ F v rd rs w Q q =>
  ⟨_, pg_name hn hN hx hf, by
    obtain ⟨F1, F2, Fi, ef, _, k⟩ := RepS.drop i (some v) hi rs
    subst ef
    refine q _ (F1 ++ ([] ++ F2)) (k v (.own (.val d)) [] ⟨rfl, rd⟩) (((Step.refl w).permR (F2 := (F1 ++ ([] ++ F2)) ++ Fi) (List.perm_iff_count.mpr fun a => by simp only [List.count_append, List.count_nil]; omega)).dropR) (fun j m' z => ?_) ⟨List.length_set .., fun j hj => List.getElem?_set_ne (fun e => hj (by rw [e]; exact List.mem_cons_self ..))⟩
    have hne : i ≠ j := fun q => hio m' (q ▸ z)
    exact ⟨⟨m', by rw [List.getElem?_set_ne hne]; exact z⟩, List.getElem?_set_ne hne⟩⟩⟩
theorem tgs_nil : Tgs X [] [] [] env env := ⟨Io.refl _, fun O H σ F vs rd rs w Q q => ⟨_, pgs_nil, rd, q σ F rs (Step.refl w) Pins.refl ⟨rfl, fun _ _ => rfl⟩⟩⟩
theorem tgs_cons (h1 : Tg X e d ws env env1) (h2 : Tgs X es ds ws2 env1 env2) (hs : (assignEach (e :: es) X.env).map (·.2) = assign e X.env :: (assignEach es X.env).map (·.2) := by rfl) : Tgs X (e :: es) (d :: ds) (ws ++ ws2) env env2 :=
  ⟨h1.1.trans h2.1, fun O H σ F vs ⟨u, us, ev, rd, rr⟩ rs w Q q => ⟨_, pgs_cons pg_w pgs_w hs, u, us, ev, h1.2 O H σ F u rd rs w _ fun σ1 F1 r1 s1 p1 b1 =>
    h2.2 O H σ1 F1 us rr r1 s1.wf _ fun σ2 F2 r2 s2 p2 b2 => q σ2 F2 r2 (s1.trans w s2) (p1.trans p2) ⟨b2.1.trans b1.1, fun i hi => (b2.2 i fun z => hi (List.mem_append_right _ z)).trans (b1.2 i fun z => hi (List.mem_append_left _ z))⟩⟩⟩
theorem tg_tup {k : Nat} (h : Tgs X es ds ws env env1) (hl : es.length = ds.length := by rfl) (hc : X.calm = true := by rfl)
    (hn : (assignEach es X.env).length = es.length := by rfl) (hst : (assignEach es X.env).findIdx? (·.1) = none := by rfl) : Tg X (.Tuple es k pos) (.tup ds) ws env env1 :=
  ⟨h.1, fun O H σ F v ⟨a, xs, ev, hp, rl⟩ rs w Q q => ⟨_, pg_tup hc pgs_w hn hst, a, xs, ev, hp.imp (fun p => p.2) id, by rw [rl.len, hl], h.2 O H σ F xs rl rs w Q q⟩⟩
end

/-- a walk gives ys, one after the other, whatever the turns do -/
def Wk (K : PySem.W.Frag) (O : OW) (H : Hp) (J : It) (ys : List D) : Prop := ∀ (O' : OW) (H' : Hp) (F' : List Addr), Kept O H O' H' → Wf O' H' F' →
  J.stop ys.length H' ∧ ∀ (i : Nat) (d : D), ys[i]? = some d → J.go i H' ∧ ∀ (x : V) (H2 : Hp), J.yld i H' x H2 → Step O' H' [] O' H2 [] ∧ Rep K O' H2 d x
def Iv (X : Cx) (tg it : Expr) (env : Sls) (ys : List D) (env' : Sls) : Prop := Io env env' ∧
  ∀ (O : OW) (H : Hp) (σ : L2.St) (F : List Addr), RepS X.K O H env σ F → Wf O H F → ∀ R : It → Hp → Prop,
    (∀ (O1 : OW) (H1 : Hp) (J : It) (F1 : List Addr), Wk X.K O1 H1 J ys → RepS X.K O1 H1 env' σ F1 → Step O H F O1 H1 F1 → R J H1) → wI X tg it σ H R
inductive ForR (X : Cx) (tg : Expr) (body : List Stmt) : List D → Sls → Out → Prop
  | nil {env : Sls} : ForR X tg body [] env (.nx env)
  | nx {d : D} {ds : List D} {env env1 env2 : Sls} {out : Out} {ws : List Nat} : Tg X tg d ws env env1 → Ex X body env1 (.nx env2) → ForR X tg body ds env2 out → ForR X tg body (d :: ds) env out
  | ct {d : D} {ds : List D} {env env1 env2 : Sls} {out : Out} {ws : List Nat} : Tg X tg d ws env env1 → Ex X body env1 (.ct env2) → ForR X tg body ds env2 out → ForR X tg body (d :: ds) env out
  | bk {d : D} {ds : List D} {env env1 env2 : Sls} {ws : List Nat} : Tg X tg d ws env env1 → Ex X body env1 (.bk env2) → ForR X tg body (d :: ds) env (.nx env2)
  | rt {d : D} {ds : List D} {env env1 env2 : Sls} {m : M} {ws : List Nat} : Tg X tg d ws env env1 → Ex X body env1 (.rt m env2) → ForR X tg body (d :: ds) env (.rt m env2)
section
variable {X : Cx} {env env1 env2 : Sls} {d : D} {ds ys : List D} {pos : Pos} {e tg it : Expr} {body : List Stmt} {out : Out}
theorem for_semS {D : Ends} {O : OW} {H : Hp} {σ : L2.St} {F : List Addr} (io : Io env env1) (hS : ∀ R : It → Hp → Prop, (∀ (O1 : OW) (H1 : Hp) (J : It) (F1 : List Addr), Wk X.K O1 H1 J ys → RepS X.K O1 H1 env1 σ F1 → Step O H F O1 H1 F1 → R J H1) → wI X tg it σ H R)
    (hr : ForR X tg body ys env1 out) (w : Wf O H F) (g : Grants X out D O H env σ F) : tFor (wI X tg it) (wG X tg) (wS X body) D σ H := by
  refine hS _ fun O1 H1 J F1 wk r1 s1 => ?_
  let St (i : Nat) (σ' : L2.St) (H' : Hp) : Prop := ∃ (env' : Sls) (O' : OW) (F' : List Addr), ForR X tg body (ys.drop i) env' out ∧ RepS X.K O' H' env' σ' F' ∧ Wf O' H' F' ∧ Kept O1 H1 O' H' ∧ Grants X out D O' H' env' σ' F'
  refine ⟨fun i m σ' H' => m = ys.length - i ∧ i ≤ ys.length ∧ St i σ' H', ⟨ys.length, rfl, Nat.zero_le _, env1, O1, F1, hr, r1, s1.wf, Kept.refl, g.back w s1 (Pins.of io)⟩, ?_⟩
  rintro i m σ' H' ⟨rfl, hle, env', O', F', fr, rs, wf, kp, gr⟩
  obtain ⟨st, go⟩ := wk O' H' F' kp wf
  rcases Nat.lt_or_ge i ys.length with hlt | hge
  · have hd : ys[i]? = some ys[i] := List.getElem?_eq_getElem hlt
    obtain ⟨g1, yl⟩ := go i _ hd
    have ed : ys.drop i = ys[i] :: ys.drop (i + 1) := List.drop_eq_getElem_cons hlt
    rw [ed] at fr
    generalize ys[i] = d at *
    generalize hds : ys.drop (i + 1) = ds at *
    refine .inr ⟨g1, St (i + 1), fun σ2 H2 z => ⟨ys.length - (i + 1), by omega, rfl, hlt, z⟩, fun x H2 y => ?_⟩
    obtain ⟨s2, rx⟩ := yl x H2 y
    have s2' : Step O' H' F' O' H2 F' := s2.quiet wf
    have rs2 : RepS X.K O' H2 env' σ' F' := rs.quiet s2
    cases fr with
    | nx ht hb hn =>
      refine ht.2 O' H2 σ' F' x rx rs2 s2'.wf _ fun σ3 F3 r3 s3 p3 _ => ?_
      have s23 := s2'.trans wf s3
      refine hb O' H2 σ3 F3 r3 s3.wf _ fun O4 H4 σ4 F4 r4 s4 p4 => ?_
      exact ⟨_, O4, F4, by rw [hds]; exact hn, r4, s4.wf, (kp.trans (s23.kept wf)).trans (s4.kept s3.wf), gr.back wf (s23.trans wf s4) (p3.trans p4)⟩
    | ct ht hb hn =>
      refine ht.2 O' H2 σ' F' x rx rs2 s2'.wf _ fun σ3 F3 r3 s3 p3 _ => ?_
      have s23 := s2'.trans wf s3
      refine hb O' H2 σ3 F3 r3 s3.wf _ fun O4 H4 σ4 F4 r4 s4 p4 => ?_
      exact ⟨_, O4, F4, by rw [hds]; exact hn, r4, s4.wf, (kp.trans (s23.kept wf)).trans (s4.kept s3.wf), gr.back wf (s23.trans wf s4) (p3.trans p4)⟩
    | bk ht hb =>
      refine ht.2 O' H2 σ' F' x rx rs2 s2'.wf _ fun σ3 F3 r3 s3 p3 _ => ?_
      have s23 := s2'.trans wf s3
      refine hb O' H2 σ3 F3 r3 s3.wf _ fun O4 H4 σ4 F4 r4 s4 p4 => ?_
      exact gr O4 H4 σ4 F4 r4 (s23.trans wf s4) (p3.trans p4)
    | rt ht hb =>
      refine ht.2 O' H2 σ' F' x rx rs2 s2'.wf _ fun σ3 F3 r3 s3 p3 _ => ?_
      have s23 := s2'.trans wf s3
      refine hb O' H2 σ3 F3 r3 s3.wf _ fun O4 H4 σ4 v Fv F4 rv r4 s4 p4 => ?_
      exact gr O4 H4 σ4 v Fv F4 rv r4 (s23.trans wf s4) (p3.trans p4)
  · have ei : i = ys.length := by omega
    subst ei
    rw [List.drop_eq_nil_of_le (Nat.le_refl _)] at fr
    cases fr
    exact .inl ⟨st, gr O' H' σ' F' rs (Step.refl wf) Pins.refl⟩
theorem x1_for (hi : Iv X tg it env ys env1) (hr : ForR X tg body ys env1 out) (hp : PassesOwn (model X.prog X.w) X.A X.env X.xe := by exact PassesOwn.never) (hc : X.calm = true := by rfl) (hs : ∀ x, foldedSetIterable it X.env x = pure x := by intro _; rfl) :
    Ex1 X (.For tg it body [] pos) env out := fun O H σ F r w D g => ⟨_, ps_for hp hc pi_w pg_w pss_w hs, for_semS hi.1 (hi.2 O H σ F r w) hr w g⟩
inductive WhR (X : Cx) (c : Expr) (body : List Stmt) : Nat → Sls → Out → Prop
  | stop {n : Nat} {env env1 : Sls} : Tv X c env false env1 → WhR X c body n env (.nx env1)
  | nx {n : Nat} {env env1 env2 : Sls} {out : Out} : Tv X c env true env1 → Ex X body env1 (.nx env2) → WhR X c body n env2 out → WhR X c body (n + 1) env out
  | ct {n : Nat} {env env1 env2 : Sls} {out : Out} : Tv X c env true env1 → Ex X body env1 (.ct env2) → WhR X c body n env2 out → WhR X c body (n + 1) env out
  | bk {n : Nat} {env env1 env2 : Sls} : Tv X c env true env1 → Ex X body env1 (.bk env2) → WhR X c body n env (.nx env2)
  | rt {n : Nat} {env env1 env2 : Sls} {m : M} : Tv X c env true env1 → Ex X body env1 (.rt m env2) → WhR X c body n env (.rt m env2)
theorem x1_while {c : Expr} {n : Nat} (hr : WhR X c body n env out) (hp : PassesOwn (model X.prog X.w) X.A X.env X.xe := by exact PassesOwn.never) : Ex1 X (.While c body [] pos) env out := fun O H σ F r w D g =>
  ⟨_, ps_while hp pt_w pss_w, fun m σ' H' => ∃ (env' : Sls) (O' : OW) (F' : List Addr), WhR X c body m env' out ∧ RepS X.K O' H' env' σ' F' ∧ Wf O' H' F' ∧ Grants X out D O' H' env' σ' F', ⟨n, env, O, F, hr, r, w, g⟩, by
    rintro m σ' H' ⟨env', O', F', wr, rs, wf, gr⟩
    cases wr with
    | stop ht =>
      refine ht.2 O' H' σ' F' rs wf _ fun O2 H2 F2 r2 s2 => ?_
      rw [if_neg Bool.false_ne_true]
      exact gr O2 H2 σ' F2 r2 s2 (Pins.of ht.1)
    | @nx n1 _ _ _ _ ht hb hn =>
      refine ht.2 O' H' σ' F' rs wf _ fun O2 H2 F2 r2 s2 => ?_
      rw [if_pos rfl]
      refine ⟨fun σ4 H4 => ∃ (env' : Sls) (O' : OW) (F' : List Addr), WhR X c body n1 env' out ∧ RepS X.K O' H4 env' σ4 F' ∧ Wf O' H4 F' ∧ Grants X out D O' H4 env' σ4 F', fun σ4 H4 z => ⟨n1, Nat.lt_succ_self _, z⟩, ?_⟩
      refine hb O2 H2 σ' F2 r2 s2.wf _ fun O4 H4 σ4 F4 r4 s4 p4 => ?_
      exact ⟨_, O4, F4, hn, r4, s4.wf, gr.back wf (s2.trans wf s4) ((Pins.of ht.1).trans p4)⟩
    | @ct n1 _ _ _ _ ht hb hn =>
      refine ht.2 O' H' σ' F' rs wf _ fun O2 H2 F2 r2 s2 => ?_
      rw [if_pos rfl]
      refine ⟨fun σ4 H4 => ∃ (env' : Sls) (O' : OW) (F' : List Addr), WhR X c body n1 env' out ∧ RepS X.K O' H4 env' σ4 F' ∧ Wf O' H4 F' ∧ Grants X out D O' H4 env' σ4 F', fun σ4 H4 z => ⟨n1, Nat.lt_succ_self _, z⟩, ?_⟩
      refine hb O2 H2 σ' F2 r2 s2.wf _ fun O4 H4 σ4 F4 r4 s4 p4 => ?_
      exact ⟨_, O4, F4, hn, r4, s4.wf, gr.back wf (s2.trans wf s4) ((Pins.of ht.1).trans p4)⟩
    | bk ht hb =>
      refine ht.2 O' H' σ' F' rs wf _ fun O2 H2 F2 r2 s2 => ?_
      rw [if_pos rfl]
      refine ⟨fun _ _ => False, fun _ _ z => z.elim, hb O2 H2 σ' F2 r2 s2.wf _ fun O4 H4 σ4 F4 r4 s4 p4 => ?_⟩
      exact gr O4 H4 σ4 F4 r4 (s2.trans wf s4) ((Pins.of ht.1).trans p4)
    | rt ht hb =>
      refine ht.2 O' H' σ' F' rs wf _ fun O2 H2 F2 r2 s2 => ?_
      rw [if_pos rfl]
      refine ⟨fun _ _ => False, fun _ _ z => z.elim, hb O2 H2 σ' F2 r2 s2.wf _ fun O4 H4 σ4 v Fv F4 rv r4 s4 p4 => ?_⟩
      exact gr O4 H4 σ4 v Fv F4 rv r4 (s2.trans wf s4) ((Pins.of ht.1).trans p4)⟩
end
end Lin

end

section
namespace Lin
open PySem PySem.Spec PyProof.Rows L2

/-! ### what is walked -/
section
variable {K : PySem.W.Frag} {O : OW} {H : Hp} {J : It} {ys ds es : List D} {a b : Addr} {xs zs : List V}
theorem wk_of {n : Nat} {G : Hp → Prop} {Y : Nat → Hp → V → Hp → Prop} (w : Walk J n G Y) (hn : n = ys.length) (hG : ∀ O' H', Kept O H O' H' → G H')
    (hY : ∀ (O' : OW) (H' : Hp) (F' : List Addr) (i : Nat) (d : D) (x : V) (H2 : Hp), Kept O H O' H' → Wf O' H' F' → ys[i]? = some d → Y i H' x H2 → Step O' H' [] O' H2 [] ∧ Rep K O' H2 d x) : Wk K O H J ys := fun O' H' F' kp wf => by
  subst hn
  refine ⟨w.stops H' (hG O' H' kp), fun i d hd => ?_⟩
  have hl : i < ys.length := (List.getElem?_eq_some_iff.mp hd).1
  exact ⟨w.goes i H' hl (hG O' H' kp), fun x H2 y => hY O' H' F' i d x H2 kp wf hd (w.yields i H' x H2 hl (hG O' H' kp) y)⟩
theorem repL_at {i : Nat} {d : D} {x : V} (rl : RepL K O H ds xs) (hd : ds[i]? = some d) (hx : xs[i]? = some x) : Rep K O H d x := by
  obtain ⟨v, hv, rv⟩ := rl.get hd
  rw [hv] at hx; cases hx; exact rv
theorem wk_list (no : ¬ O a) (ha : H a = some (.lst xs)) (rl : RepL K O H ds xs) : Wk K O H (Itl K a) ds :=
  wk_of walk_list rl.len (fun O' H' kp => .inl (.inl (kp.1 a _ ha no))) fun O' H' F' i d x H2 kp wf hd ⟨e, hx⟩ => by
    subst e
    exact ⟨Step.refl wf.nil, repL_at (rl.kept kp) hd hx⟩
/-- a tuple's place -/
def TupAt (K : PySem.W.Frag) (O : OW) (H : Hp) (a : Addr) (xs : List V) : Prop := (¬ O a ∧ Rd H a (.tup xs)) ∨ WrT K a xs
theorem TupAt.sq (h : TupAt K O H a xs) : SqT K H a xs := h.imp (fun p => p.2) id
theorem TupAt.kept {O' : OW} {H' : Hp} (k : Kept O H O' H') (h : TupAt K O H a xs) : TupAt K O' H' a xs := h.imp (fun p => ⟨no_keep k.2 p.1 p.2, rd_keep k.1 p.1 p.2⟩) id
theorem wk_tup (ha : TupAt K O H a xs) (rl : RepL K O H ds xs) : Wk K O H (Itt K a) ds :=
  wk_of walk_tup rl.len (fun O' H' kp => (ha.kept kp).sq) fun O' H' F' i d x H2 kp wf hd ⟨e, hx⟩ => by
    subst e
    exact ⟨Step.refl wf.nil, repL_at (rl.kept kp) hd hx⟩
def rangeD (lo : Int) : Nat → List D
  | 0 => []
  | n + 1 => .int lo :: rangeD (lo + 1) n
theorem rangeD_len (lo : Int) (n : Nat) : (rangeD lo n).length = n := by
  induction n generalizing lo with
  | zero => rfl
  | succ n ih => rw [rangeD, List.length_cons, ih]
theorem rangeD_get {lo : Int} {n i : Nat} {d : D} (h : (rangeD lo n)[i]? = some d) : d = .int (lo + i) := by
  induction n generalizing lo i with
  | zero => simp [rangeD] at h
  | succ n ih =>
    cases i with
    | zero =>
      have e : D.int lo = d := by simpa [rangeD] using h
      rw [← e]; simp
    | succ i =>
      have := ih (lo := lo + 1) (i := i) (by simpa [rangeD] using h)
      rw [this]; congr 1; omega
theorem wk_range {lo : Int} {n : Nat} : Wk K O H (Itr lo n) (rangeD lo n) :=
  wk_of walk_range (rangeD_len lo n).symm (fun _ _ _ => trivial) fun O' H' F' i d x H2 kp wf hd ⟨e, hx⟩ => by
    subst e
    refine ⟨Step.refl wf.nil, ?_⟩
    rw [rangeD_get hd]; exact hx
/-- a new pair -/
theorem rep_pair {T : Addr} {x y : V} {d e : D} (wf : Wf O H []) (hT : H T = none) (hx : Rep K O H d x) (hy : Rep K O H e y) : Step O H [] O (upd H T (.tup [x, y])) [] ∧ Rep K O (upd H T (.tup [x, y])) (.tup [d, e]) (.ref T) := by
  have s : Step O H [] O (upd H T (.tup [x, y])) [] := Step.newF wf hT
  have kp := s.kept wf
  refine ⟨s, T, [x, y], rfl, .inl ⟨fun z => ?_, .inl upd_same⟩, _, _, rfl, hx.kept kp, _, _, rfl, hy.kept kp, rfl⟩
  obtain ⟨o, e⟩ := wf.dom T z
  rw [hT] at e; cases e
def enumD (k : Nat) : List D → List D
  | [] => []
  | d :: ds => .tup [.int k, d] :: enumD (k + 1) ds
theorem enumD_len (k : Nat) (ds : List D) : (enumD k ds).length = ds.length := by
  induction ds generalizing k with
  | nil => rfl
  | cons d ds ih => rw [enumD, List.length_cons, ih, List.length_cons]
theorem enumD_get {k i : Nat} {d : D} (h : (enumD k ds)[i]? = some d) : ∃ e, ds[i]? = some e ∧ d = .tup [.int ((k + i : Nat) : Int), e] := by
  induction ds generalizing k i with
  | nil => simp [enumD] at h
  | cons c ds ih =>
    cases i with
    | zero =>
      have e : D.tup [.int k, c] = d := by simpa [enumD] using h
      exact ⟨c, rfl, e.symm⟩
    | succ i =>
      obtain ⟨e, h1, h2⟩ := ih (k := k + 1) (i := i) (by simpa [enumD] using h)
      refine ⟨e, by simpa using h1, ?_⟩
      rw [h2, show k + 1 + i = k + (i + 1) by omega]
theorem wk_enum (no : ¬ O a) (ha : H a = some (.lst xs)) (rl : RepL K O H ds xs) : Wk K O H (Ite K a) (enumD 0 ds) :=
  wk_of walk_enum (by rw [enumD_len, rl.len]) (fun O' H' kp => .inl (.inl (kp.1 a _ ha no))) fun O' H' F' i d x H2 kp wf hd ⟨T, x1, y1, ex, hT, eH, hx, hy⟩ => by
    obtain ⟨e, he, ed⟩ := enumD_get hd
    subst ex eH ed
    cases hx
    rw [Nat.zero_add]
    exact rep_pair wf.nil hT rfl (repL_at (rl.kept kp) he hy)
def zipD : List D → List D → List D
  | d :: ds, e :: es => .tup [d, e] :: zipD ds es
  | _, _ => []
theorem zipD_len : ∀ (ds es : List D), (zipD ds es).length = min ds.length es.length
  | [], es => by cases es <;> simp [zipD]
  | d :: ds, [] => by simp [zipD]
  | d :: ds, e :: es => by rw [zipD, List.length_cons, zipD_len ds es, List.length_cons, List.length_cons]; omega
theorem zipD_get : ∀ {ds es : List D} {i : Nat} {d : D}, (zipD ds es)[i]? = some d → ∃ e f, ds[i]? = some e ∧ es[i]? = some f ∧ d = .tup [e, f]
  | [], es, _, _, h => by cases es <;> simp [zipD] at h
  | _ :: _, [], _, _, h => by simp [zipD] at h
  | c :: ds, e :: es, 0, d, h => by
    have q : D.tup [c, e] = d := by simpa [zipD] using h
    exact ⟨c, e, rfl, rfl, q.symm⟩
  | c :: ds, e :: es, i + 1, d, h => by
    obtain ⟨x, y, h1, h2, h3⟩ := zipD_get (ds := ds) (es := es) (i := i) (d := d) (by simpa [zipD] using h)
    exact ⟨x, y, by simpa using h1, by simpa using h2, h3⟩
theorem wk_zip (na : ¬ O a) (ha : H a = some (.lst xs)) (rl : RepL K O H ds xs) (nb : ¬ O b) (hb : H b = some (.lst zs)) (rm : RepL K O H es zs) : Wk K O H (Itz K a b) (zipD ds es) :=
  wk_of (walk_zip (xs := xs) (ys := zs) rfl) (by rw [zipD_len, rl.len, rm.len]) (fun O' H' kp => ⟨.inl (.inl (kp.1 a _ ha na)), .inl (.inl (kp.1 b _ hb nb))⟩) fun O' H' F' i d x H2 kp wf hd ⟨T, x1, y1, ex, hT, eH, hx, hy⟩ => by
    obtain ⟨e, f, he, hf, ed⟩ := zipD_get hd
    subst ex eH ed
    exact rep_pair wf.nil hT (repL_at (rl.kept kp) he hx) (repL_at (rm.kept kp) hf hy)
end
section
variable {X : Cx} {env env1 env2 : Sls} {d : D} {ds es : List D} {pos p : Pos} {e e2 tg a b : Expr} {i j : Int} {elts : List Expr} {kk : Nat} {tpos : Pos}
theorem iv_list (h : Ev X e env (.val (.lst ds)) env1) : Iv X tg e env ds env1 := ⟨h.1, fun O H σ F r w R q => ⟨_, pi_list pe_w, h.2 O H σ F r w _ fun O1 H1 v Fv F1 ⟨ev, rv⟩ rs s => by
  subst ev
  obtain ⟨a, xs, ea, no, ha, rl⟩ := rv
  exact ⟨a, ea, ⟨xs, .inl (.inl ha)⟩, q O1 H1 _ F1 (wk_list no ha rl) rs s⟩⟩⟩
theorem iv_tup (h : Ev X e env (.val (.tup ds)) env1) : Iv X tg e env ds env1 := ⟨h.1, fun O H σ F r w R q => ⟨_, pi_tup pe_w, h.2 O H σ F r w _ fun O1 H1 v Fv F1 ⟨ev, rv⟩ rs s => by
  subst ev
  obtain ⟨a, xs, ea, ha, rl⟩ := rv
  exact ⟨a, ea, ⟨xs, TupAt.sq ha⟩, q O1 H1 _ F1 (wk_tup ha rl) rs s⟩⟩⟩
theorem iv_range1 (h : Ev X a env (.val (.int j)) env1) (hz : -(2 ^ 62) ≤ j ∧ j < 2 ^ 62 := by first | decide | omega) (hm : X.mg "range" = none := by assumption) (hg : Gl X "range" := by rfl) (he : starEach [a] X.env = [(false, eval a X.env)] := by rfl) (he' : starEach [a] X.env = (false, eval a X.env) :: starEach [] X.env := by rfl) : Iv X tg (.Call (.Name "range" p) [a] [] pos) env (rangeD 0 j.toNat) env1 :=
  ⟨h.1, fun O H σ F r w R q => ⟨_, pi_range1 hg hm (pa_cons pe_w pa_nil he') he, h.2 O H σ F r w _ fun O1 H1 v Fv F1 ⟨ev, rv⟩ rs s => by
    subst ev
    exact ⟨j, by rw [show v = V.int j from rv], hz.1, hz.2, q O1 H1 _ F1 wk_range rs s⟩⟩⟩
theorem iv_range2 (ha : Ev X a env (.val (.int i)) env1) (hb : Ev X b env1 (.val (.int j)) env2) (hz : -(2 ^ 62) ≤ i ∧ i < 2 ^ 62 ∧ -(2 ^ 62) ≤ j ∧ j < 2 ^ 62 := by first | decide | omega) (hm : X.mg "range" = none := by assumption) (hg : Gl X "range" := by rfl)
    (he : starEach [a, b] X.env = [(false, eval a X.env), (false, eval b X.env)] := by rfl) (he2 : starEach [b] X.env = [(false, eval b X.env)] := by rfl) (he' : starEach [a, b] X.env = (false, eval a X.env) :: starEach [b] X.env := by rfl) (he3 : starEach [b] X.env = (false, eval b X.env) :: starEach [] X.env := by rfl) : Iv X tg (.Call (.Name "range" p) [a, b] [] pos) env (rangeD i (j - i).toNat) env2 :=
  ⟨ha.1.trans hb.1, fun O H σ F r w R q => ⟨_, pi_range2 hg hm (pa_cons pe_w (pa_cons pe_w pa_nil he3) he') he he2, two ha hb r w (R := fun u v H' => ∃ i j : Int, [u, v] = [V.int i, V.int j] ∧ (-(2 ^ 62) ≤ i ∧ i < 2 ^ 62 ∧ -(2 ^ 62) ≤ j ∧ j < 2 ^ 62) ∧ R (Itr i (j - i).toNat) H') fun O1 H1 u v F1 ru rv rs s =>
    ⟨i, j, by rw [show u = V.int i from ru, show v = V.int j from rv], hz, q O1 H1 _ F1 wk_range rs s⟩⟩⟩
theorem iv_enum (h : Ev X e env (.val (.lst ds)) env1) (hm : X.mg "enumerate" = none := by assumption) (hg : Gl X "enumerate" := by rfl) (he : starEach [e] X.env = [(false, eval e X.env)] := by rfl) (he' : starEach [e] X.env = (false, eval e X.env) :: starEach [] X.env := by rfl) : Iv X (.Tuple elts kk tpos) (.Call (.Name "enumerate" p) [e] [] pos) env (enumD 0 ds) env1 :=
  ⟨h.1, fun O H σ F r w R q => ⟨_, pi_enum hg hm (pa_cons pe_w pa_nil he') he, h.2 O H σ F r w _ fun O1 H1 v Fv F1 ⟨ev, rv⟩ rs s => by
    subst ev
    obtain ⟨a, xs, ea, no, ha, rl⟩ := rv
    exact ⟨a, xs, by rw [ea], .inl (.inl ha), q O1 H1 _ F1 (wk_enum no ha rl) rs s⟩⟩⟩
theorem iv_zip (ha : Ev X e env (.val (.lst ds)) env1) (hb : Ev X e2 env1 (.val (.lst es)) env2) (hm : X.mg "zip" = none := by assumption) (hg : Gl X "zip" := by rfl)
    (he2 : (backTo pos (starEach [e2] X.env)).any (·.1) = false := by rfl) (he' : starEach [e, e2] X.env = (false, eval e X.env) :: starEach [e2] X.env := by rfl) (he3 : starEach [e2] X.env = (false, eval e2 X.env) :: starEach [] X.env := by rfl) : Iv X (.Tuple elts kk tpos) (.Call (.Name "zip" p) [e, e2] [] pos) env (zipD ds es) env2 :=
  ⟨ha.1.trans hb.1, fun O H σ F r w R q => ⟨_, pi_zip hg hm (pa_cons pe_w (pa_cons pe_w pa_nil he3) he') he' he2, two ha hb r w (R := fun u v H' => ∃ a b xs ys, [u, v] = [V.ref a, V.ref b] ∧ SqL X.K H' a xs ∧ SqL X.K H' b ys ∧ R (Itz X.K a b) H') fun O1 H1 u v F1 ru rv rs s => by
    obtain ⟨a, xs, ea, na, ha, rl⟩ := ru
    obtain ⟨b, ys, eb, nb, hb, rm⟩ := rv
    exact ⟨a, b, xs, ys, by rw [ea, eb], .inl (.inl ha), .inl (.inl hb), q O1 H1 _ F1 (wk_zip na ha rl nb hb rm) rs s⟩⟩⟩
end
end Lin

end

section
namespace Lin
open PySem PySem.Spec PyProof.Rows L2

/-! ### comprehensions -/
/-- the tests of a clause come out b -/
def wTs (X : Cx) (ifs : List Expr) : TT := fun σ H Q => ∃ t, PTs X ifs t ∧ t σ H Q
def Tvs (X : Cx) (ifs : List Expr) (env : Sls) (b : Bool) (env' : Sls) : Prop := Io env env' ∧
  ∀ (O : OW) (H : Hp) (σ : L2.St) (F : List Addr), RepS X.K O H env σ F → Wf O H F → ∀ Q : Bool → Hp → Prop,
    (∀ (O' : OW) (H' : Hp) (F' : List Addr), RepS X.K O' H' env' σ F' → Step O H F O' H' F' → Q b H') → wTs X ifs σ H Q
theorem tvs_nil {X : Cx} {env : Sls} : Tvs X [] env true env := ⟨Io.refl _, fun O H σ F r w Q q => ⟨_, pts_nil, q O H F r (Step.refl w)⟩⟩
theorem tvs_one {X : Cx} {c : Expr} {env env' : Sls} {b : Bool} (h : Tv X c env b env') : Tvs X [c] env b env' := ⟨h.1, fun O H σ F r w Q q => ⟨_, pts_one pt_w, h.2 O H σ F r w Q q⟩⟩
/-- in every block of the comprehension -/
abbrev InB (X : Cx) (scope : Scope) (P : Cx → Prop) : Prop := ∀ (s : Shared) (H : Hp) (C : Addr) (cl : List (Str × Addr)) (fp : List Addr), P (X.blk s H scope (compEnvC scope cl C X.env) fp)
def bE (X : Cx) (scope : Scope) (e : Expr) : TE := fun σ H Q => InB X scope fun X' => wE X' e σ H Q
def bTs (X : Cx) (scope : Scope) (e : List Expr) : TT := fun σ H Q => InB X scope fun X' => wTs X' e σ H Q
def bG (X : Cx) (scope : Scope) (e : Expr) : TG := fun v σ H Q => InB X scope fun X' => wG X' e v σ H Q
/-- the slots without vs -/
def wipeE (env : Sls) : List Nat → Sls
  | [] => env
  | v :: vs => (wipeE env vs).set v none
inductive LcR (X : Cx) (scope : Scope) (tg elt : Expr) (ifs : List Expr) (vs : List Nat) : List D → Sls → List M → Sls → Prop
  | nil {env : Sls} : LcR X scope tg elt ifs vs [] env [] env
  | yes {d : D} {ds : List D} {env env1 env2 env3 env' : Sls} {m : M} {ms : List M} : (InB X scope fun X' => Tg X' tg d vs env env1) → (InB X scope fun X' => Tvs X' ifs env1 true env2) → (InB X scope fun X' => Ev X' elt env2 m env3) → LcR X scope tg elt ifs vs ds (wipeE env3 vs) ms env' → LcR X scope tg elt ifs vs (d :: ds) env (m :: ms) env'
  | no {d : D} {ds : List D} {env env1 env2 env' : Sls} {ms : List M} : (InB X scope fun X' => Tg X' tg d vs env env1) → (InB X scope fun X' => Tvs X' ifs env1 false env2) → LcR X scope tg elt ifs vs ds (wipeE env2 vs) ms env' → LcR X scope tg elt ifs vs (d :: ds) env ms env'

theorem RepS.wipe1 {K : PySem.W.Frag} {O : OW} {H : Hp} {es : Sls} {σ : L2.St} {F : List Addr} (i : Nat) (o : Option V) (r : RepS K O H es σ F) : ∃ F2 G, F.Perm (F2 ++ G) ∧ RepS K O H (es.set i none) (σ.set i o) F2 := by
  by_cases h : i < es.length
  · obtain ⟨F1, F2, Fi, ef, q, _⟩ := RepS.drop i o h r
    exact ⟨F1 ++ F2, Fi, by rw [ef]; exact List.perm_iff_count.mpr fun a => by simp only [List.count_append]; omega, q⟩
  · refine ⟨F, [], by rw [List.append_nil], ?_⟩
    rw [List.set_eq_of_length_le (by omega), List.set_eq_of_length_le (by rw [r.len]; omega)]
    exact r
theorem RepS.wipeN {K : PySem.W.Frag} {O : OW} {H : Hp} {es : Sls} {σ : L2.St} {F : List Addr} (r : RepS K O H es σ F) : ∀ vs : List Nat, ∃ F2 G, F.Perm (F2 ++ G) ∧ RepS K O H (wipeE es vs) (wipe σ vs) F2
  | [] => ⟨F, [], by rw [List.append_nil], r⟩
  | v :: vs => by
    obtain ⟨F2, G, p, q⟩ := RepS.wipeN r vs
    obtain ⟨F3, G2, p2, q2⟩ := q.wipe1 v none
    exact ⟨F3, G2 ++ G, p.trans ((p2.append_right G).trans (by rw [List.append_assoc])), q2⟩
/-- slots that are told nothing of may hold anything -/
theorem RepS.loose {K : PySem.W.Frag} {O : OW} {H : Hp} : ∀ {es : Sls} {σ σ2 : L2.St} {F : List Addr}, RepS K O H es σ F → σ2.length = σ.length → (∀ (i : Nat) (s : Sl), es[i]? = some (some s) → σ2[i]? = σ[i]?) → RepS K O H es σ2 F
  | [], _, σ2, _, ⟨e, f⟩, hl, _ => by
    subst e
    exact ⟨List.length_eq_zero_iff.mp hl, f⟩
  | none :: es, _, σ2, _, ⟨o, σ', e, r⟩, hl, h => by
    subst e
    cases σ2 with
    | nil => simp at hl
    | cons a t => exact ⟨a, t, rfl, RepS.loose r (by simpa using hl) fun i s z => by simpa using h (i + 1) s (by simpa using z)⟩
  | some s :: es, _, σ2, _, ⟨v, σ', F1, F2, e, ef, p, r⟩, hl, h => by
    subst e
    cases σ2 with
    | nil => simp at hl
    | cons a t =>
      have e0 : a = some v := by simpa using h 0 s rfl
      exact ⟨v, t, F1, F2, by rw [e0], ef, p, RepS.loose r (by simpa using hl) fun i s z => by simpa using h (i + 1) s (by simpa using z)⟩
theorem wipe_get {σ : L2.St} {vs : List Nat} {i : Nat} (h : i ∉ vs) : (wipe σ vs)[i]? = σ[i]? := by
  induction vs with
  | nil => rfl
  | cons v vs ih =>
    show ((wipe σ vs).set v none)[i]? = _
    rw [List.getElem?_set_ne (fun e => h (by rw [e]; exact List.mem_cons_self ..)), ih fun z => h (List.mem_cons_of_mem _ z)]
theorem wipeE_len (env : Sls) : ∀ vs : List Nat, (wipeE env vs).length = env.length
  | [] => rfl
  | v :: vs => by show ((wipeE env vs).set v none).length = _; rw [List.length_set, wipeE_len env vs]
theorem wipeE_in {env : Sls} {vs : List Nat} {i : Nat} {s : Sl} (h : (wipeE env vs)[i]? = some (some s)) : i ∉ vs := by
  induction vs with
  | nil => exact List.not_mem_nil
  | cons v vs ih =>
    have h : ((wipeE env vs).set v none)[i]? = some (some s) := h
    by_cases e : v = i
    · subst e
      rw [List.getElem?_set] at h
      split at h
      · split at h
        · cases h
        · cases h
      · next z => exact absurd rfl z
    · rw [List.getElem?_set_ne e] at h
      intro z
      rcases List.mem_cons.mp z with z | z
      · exact e z.symm
      · exact ih h z
theorem wipe_idem (σ : L2.St) (vs : List Nat) {i : Nat} (h : i ∈ vs) (hl : i < σ.length) : (wipe σ vs)[i]? = some none := by
  induction vs with
  | nil => cases h
  | cons v vs ih =>
    show ((wipe σ vs).set v none)[i]? = some none
    by_cases e : v = i
    · subst e
      rw [List.getElem?_set_self (by rw [wipe_length]; exact hl)]
    · rw [List.getElem?_set_ne e]
      rcases List.mem_cons.mp h with z | z
      · exact absurd z.symm e
      · exact ih z
section
variable {X : Cx} {env env1 env' : Sls} {ys : List D} {ms : List M} {pos : Pos} {elt tg it : Expr} {ifs : List Expr} {scope : Scope} {own : List (Str × Nat)}
theorem wipe_ext {σ σ2 : L2.St} {vs : List Nat} (hl : σ2.length = σ.length) (h : ∀ i, i ∉ vs → σ2[i]? = σ[i]?) : wipe σ2 vs = wipe σ vs := by
  apply List.ext_getElem?
  intro i
  by_cases hi : i ∈ vs
  · by_cases hlt : i < σ.length
    · rw [wipe_idem σ vs hi hlt, wipe_idem σ2 vs hi (by omega)]
    · rw [List.getElem?_eq_none (by rw [wipe_length]; omega), List.getElem?_eq_none (by rw [wipe_length]; omega)]
  · rw [wipe_get hi, wipe_get hi, h i hi]
theorem wipeE_get {env : Sls} {vs : List Nat} {i : Nat} (h : i ∉ vs) : (wipeE env vs)[i]? = env[i]? := by
  induction vs with
  | nil => rfl
  | cons v vs ih =>
    show ((wipeE env vs).set v none)[i]? = _
    rw [List.getElem?_set_ne (fun e => h (by rw [e]; exact List.mem_cons_self ..)), ih fun z => h (List.mem_cons_of_mem _ z)]
/-- nothing is told of the slots vs -/
def Bare (env : Sls) (vs : List Nat) : Prop := ∀ (i : Nat) (s : Sl), env[i]? = some (some s) → i ∉ vs
theorem bare_wipe (env : Sls) (vs : List Nat) : Bare (wipeE env vs) vs := fun _ _ h => wipeE_in h
theorem io_wipe {vs : List Nat} (b : Bare env vs) (h : Io env env1) : Io env (wipeE env1 vs) := fun i m z => by
  obtain ⟨m', e⟩ := h i m z
  exact ⟨m', by rw [wipeE_get (b i _ z)]; exact e⟩
theorem LcR.io {vs : List Nat} (s0 : Shared) (H0 : Hp) (h : LcR X scope tg elt ifs vs ys env ms env') : Bare env vs → Io env env' := by
  induction h with
  | nil => exact fun _ => Io.refl _
  | yes h1 h2 h3 _ ih => exact fun b => (io_wipe b (((h1 s0 H0 0 [] []).1.trans (h2 s0 H0 0 [] []).1).trans (h3 s0 H0 0 [] []).1)).trans (ih (bare_wipe _ _))
  | no h1 h2 _ ih => exact fun b => (io_wipe b ((h1 s0 H0 0 [] []).1.trans (h2 s0 H0 0 [] []).1)).trans (ih (bare_wipe _ _))
theorem RepML.snoc {K : PySem.W.Frag} {O : OW} {H : Hp} {m : M} {v : V} {Fv : List Addr} : ∀ {ms : List M} {xs : List V} {F : List Addr}, RepML K O H ms xs F → RepM K O H m v Fv → RepML K O H (ms ++ [m]) (xs ++ [v]) (F ++ Fv)
  | ms, xs, F, h, k => RepML.app h ⟨v, [], Fv, [], rfl, (List.append_nil _).symm, k, rfl, rfl⟩
theorem wipe_wipe (σ : L2.St) (vs : List Nat) : wipe (wipe σ vs) vs = wipe σ vs := wipe_ext (wipe_length σ vs) fun i hi => wipe_get hi
theorem lc_semS (O : OW) (H : Hp) (σ : L2.St) (F : List Addr) (hS : ∀ R : It → Hp → Prop, (∀ (O1 : OW) (H1 : Hp) (J : It) (F1 : List Addr), Wk X.K O1 H1 J ys → RepS X.K O1 H1 env1 σ F1 → Step O H F O1 H1 F1 → R J H1) → wI X tg it σ H R)
    (hr : LcR X scope tg elt ifs (own.map (·.2)) ys env1 ms env') (hb : Bare env1 (own.map (·.2))) (hz : ys.length ≤ sizeLine) (w : Wf O H F) (Q : VK)
    (q : ∀ (O' : OW) (H' : Hp) (v : V) (Fv F' : List Addr), RepM X.K O' H' (.lst ms) v Fv → RepS X.K O' H' env' σ F' → Step O H F O' H' (Fv ++ F') → Q v H') : tLc (wI X tg it) (bG X scope tg) (bTs X scope ifs) (bE X scope elt) (own.map (·.2)) σ H Q := by
  refine hS _ fun O1 H1 J F1 wk r1 s1 D hD => ?_
  generalize hvs : own.map (·.2) = vs at *
  let St (i : Nat) (H' : Hp) : Prop := ∃ (env2 : Sls) (O2 : OW) (F2 Fa : List Addr) (acc : List V) (ms1 ms2 : List M), ms = ms1 ++ ms2 ∧ ms1.length ≤ i ∧ LcR X scope tg elt ifs vs (ys.drop i) env2 ms2 env' ∧ Bare env2 vs ∧ RepS X.K O2 H' env2 (wipe σ vs) F2 ∧ H' D = some (.lst acc) ∧ RepML X.K O2 H' ms1 acc Fa ∧ Kept O1 H1 O2 H' ∧ Step O H F O2 H' ((D :: Fa) ++ F2)
  refine ⟨fun i m H' => m = ys.length - i ∧ i ≤ ys.length ∧ St i H', ⟨ys.length, rfl, Nat.zero_le _, ?_⟩, ?_⟩
  · have s0 : Step O1 H1 [] (fun a => O1 a ∨ a = D) (upd H1 D (.lst [])) [D] := Step.new (G := []) s1.wf.nil hD
    refine ⟨env1, _, F1, [], [], [], ms, rfl, Nat.le_refl _, hr, hb, (RepS.quiet s0 r1).loose (wipe_length σ vs) (fun i s z => wipe_get (hb i s z)), upd_same, ⟨rfl, rfl⟩, s0.kept s1.wf.nil, s1.trans w (s0.quiet s1.wf)⟩
  rintro i m H' ⟨rfl, hle, env2, O2, F2, Fa, acc, ms1, ms2, ems, hml, lr, bare, rs, hDa, rml, kp, st⟩
  have wf := st.wf
  obtain ⟨sp, go⟩ := wk O2 H' _ kp wf
  rcases Nat.lt_or_ge i ys.length with hlt | hge
  · have hd : ys[i]? = some ys[i] := List.getElem?_eq_getElem hlt
    obtain ⟨g1, yl⟩ := go i _ hd
    have ed : ys.drop i = ys[i] :: ys.drop (i + 1) := List.drop_eq_getElem_cons hlt
    rw [ed] at lr
    generalize ys[i] = d at *
    generalize hds : ys.drop (i + 1) = ds at *
    refine .inr ⟨g1, St (i + 1), fun H2 z => ⟨ys.length - (i + 1), by omega, rfl, hlt, z⟩, fun x H2 y => ?_⟩
    obtain ⟨s2, rx⟩ := yl x H2 y
    have st2 : Step O H F O2 H2 ((D :: Fa) ++ F2) := st.trans w (s2.quiet wf)
    have wf2 := st2.wf
    have wfF : Wf O2 H2 F2 := wf2.right
    have rs2 : RepS X.K O2 H2 env2 (wipe σ vs) F2 := rs.quiet s2
    have hD2 : H2 D = some (.lst acc) := s2.frame D _ hDa (by simp)
    have rml2 : RepML X.K O2 H2 ms1 acc Fa := s2.repML wf.nil (fun _ _ => by simp) rml
    have kp2 : Kept O1 H1 O2 H2 := kp.trans (s2.kept wf.nil)
    have dF : D ∉ F2 := fun z => wf2.apart (List.mem_cons_self ..) z
    have dA : D ∉ Fa := fun z => (List.nodup_cons.mp (List.nodup_append.mp wf2.nd).1).1 z
    have aF : ∀ a ∈ Fa, a ∉ F2 := fun a h z => wf2.apart (List.mem_cons_of_mem _ h) z
    have pmF : ((D :: Fa) ++ F2).Perm (F2 ++ (D :: Fa)) := List.perm_append_comm
    have wip : ∀ σ3, SameBut vs (wipe σ vs) σ3 → wipe σ3 vs = wipe σ vs := fun σ3 b => by
      rw [wipe_ext b.1 b.2, wipe_wipe]
    cases lr with
    | yes h1 h2 h3 hn =>
      intro s0 H0 C0 cl0 fp0
      refine (h1 s0 H0 C0 cl0 fp0).2 O2 H2 (wipe σ vs) F2 x rx rs2 wfF _ fun σ3 F3 r3 s3 p3 b3 => ⟨wip σ3 b3, fun s0 H0 C0 cl0 fp0 => ?_⟩
      refine (h2 s0 H0 C0 cl0 fp0).2 O2 H2 σ3 F3 r3 s3.wf _ fun O4 H4 F4 r4 s4 => ?_
      rw [if_pos rfl]
      intro s0 H0 C0 cl0 fp0
      refine (h3 s0 H0 C0 cl0 fp0).2 O4 H4 σ3 F4 r4 s4.wf _ fun O5 H5 v Fv F5 rv r5 s5 => ?_
      have s25 : Step O2 H2 F2 O5 H5 (Fv ++ F5) := (s3.trans wfF s4).trans wfF s5
      have sB := (s25.beside (wf2.perm pmF)).permL pmF.symm
      have hD5 : H5 D = some (.lst acc) := s25.frame D _ hD2 dF
      have rml5 : RepML X.K O5 H5 ms1 acc Fa := s25.repML wfF aF rml2
      obtain ⟨F6, G, pm6, r6⟩ := RepS.wipeN r5 vs
      rw [wip σ3 b3] at r6
      have wf5 := sB.wf
      have dIn : D ∈ (Fv ++ F5) ++ (D :: Fa) := List.mem_append_right _ (List.mem_cons_self ..)
      have oD : O5 D := wf5.own D dIn
      have dV : D ∉ Fv ++ F5 := fun z => wf5.apart z (List.mem_cons_self ..)
      have sW : Step O5 H5 ((Fv ++ F5) ++ (D :: Fa)) O5 (upd H5 D (.lst (acc ++ [v]))) ((Fv ++ F5) ++ (D :: Fa)) := Step.write wf5 dIn
      have kf : ∀ a o, H5 a = some o → ¬ O5 a → upd H5 D (.lst (acc ++ [v])) a = some o := fun a o h n => by
        rw [upd_ne (fun e => n (by rw [e]; exact oD))]; exact h
      have ku : ∀ a o, a ≠ D → H5 a = some o → upd H5 D (.lst (acc ++ [v])) a = some o := fun a o n h => by rw [upd_ne n]; exact h
      have rml6 : RepML X.K O5 (upd H5 D (.lst (acc ++ [v]))) (ms1 ++ [_]) (acc ++ [v]) (Fa ++ Fv) :=
        RepML.keep kf (fun a h => .inl h) _ (fun a o ha h => ku a o (fun e => by
          subst e
          rcases List.mem_append.mp ha with z | z
          · exact dA z
          · exact dV (List.mem_append_left _ z)) h) (rml5.snoc rv)
      have r7 : RepS X.K O5 (upd H5 D (.lst (acc ++ [v]))) (wipeE _ vs) (wipe σ vs) F6 :=
        RepS.keep kf (fun a h => .inl h) _ (fun a o ha h => ku a o (fun e => by
          subst e
          exact dV (List.mem_append_right _ (pm6.mem_iff.mpr (List.mem_append_left _ ha)))) h) r6
      have s6 : Step O2 H2 ((D :: Fa) ++ F2) O5 (upd H5 D (.lst (acc ++ [v]))) ((D :: (Fa ++ Fv)) ++ F6) :=
        ((sB.trans wf2 sW).permR (F2 := ((D :: (Fa ++ Fv)) ++ F6) ++ G) (List.perm_iff_count.mpr fun a => by
          have := List.perm_iff_count.mp pm6 a
          simp only [List.count_append, List.count_cons] at this ⊢
          omega)).dropR
      refine ⟨acc, hD5, by rw [rml5.len]; omega, ?_⟩
      exact ⟨_, O5, F6, Fa ++ Fv, acc ++ [v], ms1 ++ [_], _, by rw [ems, List.append_assoc]; rfl, by rw [List.length_append]; simp; omega, by rw [hds]; exact hn, bare_wipe _ _, r7, upd_same, rml6, kp2.trans (s6.kept wf2), st2.trans w s6⟩
    | no h1 h2 hn =>
      intro s0 H0 C0 cl0 fp0
      refine (h1 s0 H0 C0 cl0 fp0).2 O2 H2 (wipe σ vs) F2 x rx rs2 wfF _ fun σ3 F3 r3 s3 p3 b3 => ⟨wip σ3 b3, fun s0 H0 C0 cl0 fp0 => ?_⟩
      refine (h2 s0 H0 C0 cl0 fp0).2 O2 H2 σ3 F3 r3 s3.wf _ fun O4 H4 F4 r4 s4 => ?_
      rw [if_neg Bool.false_ne_true]
      have s24 : Step O2 H2 F2 O4 H4 F4 := s3.trans wfF s4
      have sB := (s24.beside (wf2.perm pmF)).permL pmF.symm
      have hD5 : H4 D = some (.lst acc) := s24.frame D _ hD2 dF
      have rml5 : RepML X.K O4 H4 ms1 acc Fa := s24.repML wfF aF rml2
      obtain ⟨F6, G, pm6, r6⟩ := RepS.wipeN r4 vs
      rw [wip σ3 b3] at r6
      have s6 : Step O2 H2 ((D :: Fa) ++ F2) O4 H4 ((D :: Fa) ++ F6) :=
        (sB.permR (F2 := ((D :: Fa) ++ F6) ++ G) (List.perm_iff_count.mpr fun a => by
          have := List.perm_iff_count.mp pm6 a
          simp only [List.count_append, List.count_cons] at this ⊢
          omega)).dropR
      exact ⟨_, O4, F6, Fa, acc, ms1, ms2, ems, by omega, by rw [hds]; exact hn, bare_wipe _ _, r6, hD5, rml5, kp2.trans (s6.kept wf2), st2.trans w s6⟩
  · have ei : i = ys.length := by omega
    subst ei
    rw [List.drop_eq_nil_of_le (Nat.le_refl _)] at lr
    refine .inl ⟨sp, ?_⟩
    cases lr
    rw [List.append_nil] at ems
    subst ems
    refine q O2 H' (.ref D) (D :: Fa) F2 ⟨D, acc, Fa, rfl, rfl, hDa, rml⟩ (rs.loose (wipe_length σ vs).symm fun i s z => (wipe_get (bare i s z)).symm) st
theorem lc_sem (hi : Iv X tg it env ys env1) (hr : LcR X scope tg elt ifs (own.map (·.2)) ys env1 ms env') (hb : Bare env1 (own.map (·.2))) (hz : ys.length ≤ sizeLine) (O : OW) (H : Hp) (σ : L2.St) (F : List Addr) (r : RepS X.K O H env σ F) (w : Wf O H F) (Q : VK)
    (q : ∀ (O' : OW) (H' : Hp) (v : V) (Fv F' : List Addr), RepM X.K O' H' (.lst ms) v Fv → RepS X.K O' H' env' σ F' → Step O H F O' H' (Fv ++ F') → Q v H') : tLc (wI X tg it) (bG X scope tg) (bTs X scope ifs) (bE X scope elt) (own.map (·.2)) σ H Q :=
  lc_semS O H σ F (hi.2 O H σ F r w) hr hb hz w Q q
theorem bg_ok (s : Shared) (H : Hp) (C : Addr) (cl : List (Str × Addr)) (fp : List Addr) : PG (X.blk s H scope (compEnvC scope cl C X.env) fp) tg (bG X scope tg) := ⟨fun pins s' σ H' v u Q I rv h => pg_w.run pins s' σ H' v u Q I rv (h s H C cl fp)⟩
theorem pts_w {X : Cx} {ifs : List Expr} : PTs X ifs (wTs X ifs) := ⟨fun pins s' σ H' Q I ⟨t, p, h⟩ => p.run pins s' σ H' Q I h⟩
theorem bts_ok (s : Shared) (H : Hp) (C : Addr) (cl : List (Str × Addr)) (fp : List Addr) : PTs (X.blk s H scope (compEnvC scope cl C X.env) fp) ifs (bTs X scope ifs) := ⟨fun pins s' σ H' Q I h => pts_w.run pins s' σ H' Q I (h s H C cl fp)⟩
theorem be_ok (s : Shared) (H : Hp) (C : Addr) (cl : List (Str × Addr)) (fp : List Addr) : PE (X.blk s H scope (compEnvC scope cl C X.env) fp) elt (bE X scope elt) := ⟨fun pins s' σ H' Q I h => pe_w.run pins s' σ H' Q I (h s H C cl fp)⟩
theorem ev_lc (hi : Iv X tg it env ys env1) (hr : LcR X scope tg elt ifs (own.map (·.2)) ys env1 ms env') (hb : Bare env1 (own.map (·.2))) (ok : BlkOk X.N X.env.scope scope own) (hz : ys.length ≤ sizeLine) (hN : X.N.Nodup := by assumption)
    (hc : X.calm = true := by rfl) (hs : ∀ x, foldedSetIterable it X.env x = pure x := by intro _; rfl) : Ev X (.ListComp elt [⟨tg, it, ifs, 0⟩] scope pos) env (.lst ms) env' :=
  ⟨hi.1.trans (hr.io X.s_0 X.H_0 hb), fun O H σ F r w Q q => ⟨_, pe_lc hc hN pi_w ok bg_ok bts_ok be_ok hs, lc_sem hi hr hb hz O H σ F r w Q q⟩⟩
/-- name = [a comprehension], the name a local -/
theorem x1_setLc (i : Nat) {n : Str} {pos' spos : Pos} (hi : Iv X tg it env ys env1) (hr : LcR X scope tg elt ifs (own.map (·.2)) ys env1 ms env') (hb : Bare env1 (own.map (·.2))) (ok : BlkOk X.N X.env.scope scope own) (hz : ys.length ≤ sizeLine) (hio : ∀ m', env[i]? ≠ some (some (Sl.io m')) := by intro _ h; cases h) (hil : i < env.length := by simp) (hN : X.N.Nodup := by assumption) (hn : X.N[i]? = some n := by rfl)
    (hx : X.env.scope.names.lookup n = some .local := by rfl) (hsw : swapsWith (.ListComp elt [⟨tg, it, ifs, 0⟩] scope pos) (some (.Name n pos')) spos.line X.env = pure true := by rfl) (hc : X.calm = true := by rfl) (hs : ∀ x, foldedSetIterable it X.env x = pure x := by intro _; rfl) :
    Ex1 X (.Assign [.Name n pos'] (.ListComp elt [⟨tg, it, ifs, 0⟩] scope pos) spos) env (.nx (env'.set i (some (.own (.lst ms))))) := fun O H σ F r w D g =>
  ⟨_, ps_setLc hc hN hn hx hsw pi_w ok bg_ok bts_ok be_ok hs, lc_sem hi hr hb hz O H σ F r w _ fun O' H' v Fv F' rm rs s => by
    have hl : i < env'.length := by rw [← rs.len, r.len]; exact hil
    obtain ⟨F1, F2, Fi, ef, _, k⟩ := RepS.drop i (some v) hl rs
    subst ef
    refine g O' H' _ (F1 ++ (Fv ++ F2)) (k v (.own (.lst ms)) Fv rm) ((s.permR perm_drop).dropR) fun j m' z => ?_
    have hne : i ≠ j := fun q => hio m' (q ▸ z)
    obtain ⟨m2, z2⟩ := (hi.1.trans (hr.io X.s_0 X.H_0 hb)) j m' z
    exact ⟨⟨m2, by rw [List.getElem?_set_ne hne]; exact z2⟩, List.getElem?_set_ne hne⟩⟩
end
end Lin

end

section
namespace Lin
open PySem PySem.Spec PyProof.Rows L2

/-! ### looks: what is read without a change -/
def Pu (X : Cx) (e : Expr) (env : Sls) (m : M) : Prop :=
  ∀ (O : OW) (H : Hp) (σ : L2.St) (F : List Addr), RepS X.K O H env σ F → Wf O H F → ∀ Q : VK, (∀ (v : V) (Fv : List Addr), RepM X.K O H m v Fv → Q v H) → wE X e σ H Q
section
variable {X : Cx} {env env1 env2 : Sls} {a b c e : Expr} {es : List Expr} {pos p p' : Pos} {d x y : D} {m m' : M} {ms : List M} {ds : List D} {K : PySem.W.Frag} {O : OW} {H : Hp} {n : Str} {s : Sl} {i j : Int}
theorem Pu.eq (h : Pu X e env m) (q : m = m') : Pu X e env m' := q ▸ h
theorem ev_pu (h : Pu X e env (.val d)) : Ev X e env (.val d) env := ⟨Io.refl _, fun O H σ F r w Q q => h O H σ F r w Q fun v Fv ⟨ef, rv⟩ => q O H v [] F ⟨rfl, rv⟩ r (Step.refl w)⟩
theorem pu_name (i : Nat) (h : env[i]? = some (some s)) (hm : s.m = m := by rfl) (hN : X.N[i]? = some n := by rfl) (hv : Vis X.env.scope n := by first | exact Or.inl rfl | exact Or.inr (Or.inl rfl) | exact Or.inr (Or.inr rfl))
    (hd : (n == ("__debug__" : Str)) = false := by decide) (hcd : (n == ("__classdict__" : Str)) = false := by decide) : Pu X (.Name n pos) env m := fun O H σ F r w Q q => by
  subst hm
  obtain ⟨v, F1, Fi, F2, e1, ef, p, _, _⟩ := RepS.at r h
  exact ⟨_, pe_var hN hv hd hcd, v, e1, q v Fi p⟩
theorem pu_const {v : V} (hp : PE X e (tC v)) (hr : ∀ (K : PySem.W.Frag) (O : OW) (H : Hp), Rep K O H d v) : Pu X e env (.val d) := fun O H σ F r w Q q => ⟨_, hp, q v [] ⟨rfl, hr _ _ _⟩⟩
theorem pu_int {i : Int} {j : Nat} : Pu X (.Constant (.int i) j pos) env (.val (.int i)) := pu_const pe_int fun _ _ _ => rfl
theorem pu_str {s : Str} {j : Nat} : Pu X (.Constant (.str s) j pos) env (.val (.str s)) := pu_const pe_str fun _ _ _ => rfl
/-- x op y gives d, in the heap as it is -/
def RP (K : PySem.W.Frag) (r : R2) (x y d : D) : Prop := ∀ (O : OW) (H : Hp) (u v : V) (Q : VK), Rep K O H x u → Rep K O H y v → (∀ z, Rep K O H d z → Q z H) → r u v H Q
theorem pu_bin {op : Operator} {r : R2} (ho : OpR X (binaryOp op) r) (ha : Pu X a env (.val x)) (hb : Pu X b env (.val y)) (hr : RP X.K r x y d) : Pu X (.BinOp a op b pos) env (.val d) := fun O H σ F rs w Q q =>
  ⟨_, pe_op ho pe_w pe_w, ha O H σ F rs w _ fun u _ ⟨_, ru⟩ => hb O H σ F rs w _ fun v _ ⟨_, rv⟩ => hr O H u v Q ru rv fun z rz => q z [] ⟨rfl, rz⟩⟩
theorem rp_int0 {g : Int → Int → V} (h : ∀ (O : OW) (H : Hp), Rep K O H d (g i j)) : RP K (rI0 g) (.int i) (.int j) d := fun O H u v Q hu hv q => ⟨i, j, hu, hv, q _ (h O H)⟩
theorem rp_int {C : Int → Int → Prop} {g : Int → Int → V} (hc : C i j) (h : ∀ (O : OW) (H : Hp), Rep K O H d (g i j)) : RP K (rI C g) (.int i) (.int j) d := fun O H u v Q hu hv q => ⟨i, j, hu, hv, hc, q _ (h O H)⟩
theorem pu_add (ha : Pu X a env (.val (.int i))) (hb : Pu X b env (.val (.int j))) : Pu X (.BinOp a .Add b pos) env (.val (.int (i + j))) := pu_bin op_add ha hb (rp_int0 fun _ _ => rfl)
theorem pu_sub (ha : Pu X a env (.val (.int i))) (hb : Pu X b env (.val (.int j))) : Pu X (.BinOp a .Sub b pos) env (.val (.int (i - j))) := pu_bin op_sub ha hb (rp_int0 fun _ _ => rfl)
theorem pu_mul (ha : Pu X a env (.val (.int i))) (hb : Pu X b env (.val (.int j))) (hc : CMul i j) : Pu X (.BinOp a .Mult b pos) env (.val (.int (i * j))) := pu_bin op_mul ha hb (rp_int hc fun _ _ => rfl)
theorem pu_mod (ha : Pu X a env (.val (.int i))) (hb : Pu X b env (.val (.int j))) (hc : 0 < j) : Pu X (.BinOp a .Mod b pos) env (.val (.int (i % j))) := pu_bin op_mod ha hb (rp_int hc fun _ _ => rfl)
theorem pu_div (ha : Pu X a env (.val (.int i))) (hb : Pu X b env (.val (.int j))) (hc : CDiv i j) : Pu X (.BinOp a .FloorDiv b pos) env (.val (.int (i / j))) := pu_bin op_fdiv ha hb (rp_int hc fun _ _ => rfl)
theorem pu_intI (ha : Pu X e env (.val (.int i))) (hm : X.mg "int" = none := by assumption) (hg : Gl X "int" := by rfl) (he : starEach [e] X.env = (false, eval e X.env) :: starEach [] X.env := by rfl) (hpl : (backTo pos (starEach [] X.env)).any (·.1) = false := by rfl) : Pu X (.Call (.Name "int" p) [e] [] pos) env (.val (.int i)) := fun O H σ F rs w Q q =>
  ⟨_, pe_callTy call_int1 hg hm boot_int (pa_cons pe_w pa_nil he) (by decide) (by decide) he hpl, ha O H σ F rs w _ fun v _ ⟨_, rv⟩ => .inl ⟨i, by rw [show v = V.int i from rv], q _ [] ⟨rfl, rfl⟩⟩⟩
theorem RepML.getM : ∀ {ms : List M} {vs : List V} {F : List Addr} {i : Nat}, RepML K O H ms vs F → ms[i]? = some m → ∃ v Fv, vs[i]? = some v ∧ RepM K O H m v Fv
  | [], _, _, _, _, h => by simp at h
  | m' :: ms, _, _, 0, ⟨v, vs, F1, F2, e, ef, p, q⟩, h => by
    have e' : m' = m := by simpa using h
    subst e e'
    exact ⟨v, F1, rfl, p⟩
  | m' :: ms, _, _, i + 1, ⟨v, vs, F1, F2, e, ef, p, q⟩, h => by
    subst e
    obtain ⟨u, Fu, z, r⟩ := RepML.getM (i := i) q (by simpa using h)
    exact ⟨u, Fu, by simpa using z, r⟩
theorem RepML.atM {vs : List V} {F : List Addr} {i : Int} (r : RepML K O H ms vs F) (h : L2.atI ms i = some m) : ∃ v Fv, L2.atI vs i = some v ∧ RepM K O H m v Fv := by
  unfold L2.atI at h ⊢
  rw [r.len]
  cases q : ixN ms.length i with
  | none => rw [q] at h; cases h
  | some j =>
    rw [q] at h
    exact r.getM h
theorem pu_ixO (ha : Pu X a env (.lst ms)) (hb : Pu X b env (.val (.int i))) (h : L2.atI ms i = some m) (hs : PlainIx b := by exact fun _ _ => rfl) : Pu X (.Subscript a b pos) env m := fun O H σ F rs w Q q =>
  ⟨_, pe_ix ix_list pe_w pe_w hs, ha O H σ F rs w _ fun u _ ⟨l, xs, F', el, _, hp, rl⟩ => hb O H σ F rs w _ fun v _ ⟨_, rv⟩ => by
    obtain ⟨z, Fz, hz, rz⟩ := rl.atM h
    exact ⟨l, xs, i, z, el, rv, .inl (.inl hp), hz, q z Fz rz⟩⟩
theorem pu_ixL (ha : Pu X a env (.val (.lst ds))) (hb : Pu X b env (.val (.int i))) (h : L2.atI ds i = some d) (hs : PlainIx b := by exact fun _ _ => rfl) : Pu X (.Subscript a b pos) env (.val d) := fun O H σ F rs w Q q =>
  ⟨_, pe_ix ix_list pe_w pe_w hs, ha O H σ F rs w _ fun u _ ⟨_, l, xs, el, _, hp, rl⟩ => hb O H σ F rs w _ fun v _ ⟨_, rv⟩ => by
    obtain ⟨z, hz, rz⟩ := rl.atI h
    exact ⟨l, xs, i, z, el, rv, .inl (.inl hp), hz, q z [] ⟨rfl, rz⟩⟩⟩
theorem pu_ixT (ha : Pu X a env (.val (.tup ds))) (hb : Pu X b env (.val (.int i))) (h : L2.atI ds i = some d) (hs : PlainIx b := by exact fun _ _ => rfl) : Pu X (.Subscript a b pos) env (.val d) := fun O H σ F rs w Q q =>
  ⟨_, pe_ix ix_tup pe_w pe_w hs, ha O H σ F rs w _ fun u _ ⟨_, l, xs, el, hp, rl⟩ => hb O H σ F rs w _ fun v _ ⟨_, rv⟩ => by
    obtain ⟨z, hz, rz⟩ := rl.atI h
    exact ⟨l, xs, i, z, el, rv, TupAt.sq hp, hz, q z [] ⟨rfl, rz⟩⟩⟩
theorem pu_lenO (ha : Pu X e env (.lst ms)) (hl : X.mg "len" = none := by assumption) (hg : Gl X "len" := by rfl) (he : starEach [e] X.env = (false, eval e X.env) :: starEach [] X.env := by rfl) (hpl : (backTo pos (starEach [] X.env)).any (·.1) = false := by rfl) :
    Pu X (.Call (.Name "len" p) [e] [] pos) env (.val (.int ms.length)) := fun O H σ F r w Q q => ⟨_, pe_callB call_len_seq hg hl PySem.boot_len (pa_cons pe_w pa_nil he) (by decide) (by decide) he hpl, ha O H σ F r w _ fun u _ ⟨l, xs, F', el, _, hp, rl⟩ =>
  ⟨l, xs, by rw [el], .inl (.inl (.inl hp)), by rw [rl.len]; exact q _ [] ⟨rfl, rfl⟩⟩⟩
theorem pu_lenL (ha : Pu X e env (.val (.lst ds))) (hl : X.mg "len" = none := by assumption) (hg : Gl X "len" := by rfl) (he : starEach [e] X.env = (false, eval e X.env) :: starEach [] X.env := by rfl) (hpl : (backTo pos (starEach [] X.env)).any (·.1) = false := by rfl) :
    Pu X (.Call (.Name "len" p) [e] [] pos) env (.val (.int ds.length)) := fun O H σ F r w Q q => ⟨_, pe_callB call_len_seq hg hl PySem.boot_len (pa_cons pe_w pa_nil he) (by decide) (by decide) he hpl, ha O H σ F r w _ fun u _ ⟨_, l, xs, el, _, hp, rl⟩ =>
  ⟨l, xs, by rw [el], .inl (.inl (.inl hp)), by rw [rl.len]; exact q _ [] ⟨rfl, rfl⟩⟩⟩
theorem pu_lenT (ha : Pu X e env (.val (.tup ds))) (hl : X.mg "len" = none := by assumption) (hg : Gl X "len" := by rfl) (he : starEach [e] X.env = (false, eval e X.env) :: starEach [] X.env := by rfl) (hpl : (backTo pos (starEach [] X.env)).any (·.1) = false := by rfl) :
    Pu X (.Call (.Name "len" p) [e] [] pos) env (.val (.int ds.length)) := fun O H σ F r w Q q => ⟨_, pe_callB call_len_seq hg hl PySem.boot_len (pa_cons pe_w pa_nil he) (by decide) (by decide) he hpl, ha O H σ F r w _ fun u _ ⟨_, l, xs, el, hp, rl⟩ =>
  ⟨l, xs, by rw [el], .inr (TupAt.sq hp), by rw [rl.len]; exact q _ [] ⟨rfl, rfl⟩⟩⟩
end

/-! ### a slot's thing is written in place -/
theorem RepML.updK {K : PySem.W.Frag} {O : OW} {H : Hp} {l : Addr} {o : HO} {ms : List M} {xs : List V} {F : List Addr} (hl : l ∉ F) (ol : O l) (h : RepML K O H ms xs F) : RepML K O (upd H l o) ms xs F :=
  RepML.keep (fun a u h n => by rw [upd_ne (fun e => n (by rw [e]; exact ol))]; exact h) (fun a h => .inl h) ms (fun a u ha h => by rw [upd_ne (fun e => hl (by rw [← e]; exact ha))]; exact h) h
theorem RepM.updK {K : PySem.W.Frag} {O : OW} {H : Hp} {l : Addr} {o : HO} {m : M} {x : V} {F : List Addr} (hl : l ∉ F) (ol : O l) (h : RepM K O H m x F) : RepM K O (upd H l o) m x F :=
  RepM.keep (fun a u h n => by rw [upd_ne (fun e => n (by rw [e]; exact ol))]; exact h) (fun a h => .inl h) m (fun a u ha h => by rw [upd_ne (fun e => hl (by rw [← e]; exact ha))]; exact h) h
theorem slot_upd {K : PySem.W.Frag} {O : OW} {H : Hp} {env : Sls} {σ : L2.St} {F Fx : List Addr} {i : Nat} {s : Sl} (rs : RepS K O H env σ F) (hi : env[i]? = some (some s)) (w : Wf O H (Fx ++ F)) :
    ∃ (v : V) (Fi : List Addr), σ[i]? = some (some v) ∧ RepM K O H s.m v Fi ∧ ∀ (l : Addr) (F' : List Addr), Fi = l :: F' → O l ∧ l ∉ Fx ++ F' ∧
      ∀ (o' : HO) (m' : M) (F3 Fo G : List Addr), (Fx ++ F').Perm (F3 ++ (Fo ++ G)) → RepM K O (upd H l o') m' v (l :: F3) →
        ∃ F2, RepS K O (upd H l o') (env.set i (some (s.put m'))) σ F2 ∧ Step O H (Fx ++ F) O (upd H l o') (Fo ++ F2) ∧ ∀ (m2 : M) (v2 : V), RepM K O H m2 v2 Fo → RepM K O (upd H l o') m2 v2 Fo := by
  obtain ⟨v, G1, Gi, G2, e1, ef, rm, _, kk⟩ := RepS.at rs hi
  subst ef
  refine ⟨v, Gi, e1, rm, fun l F' eg => ?_⟩
  subst eg
  have nd := w.nd
  have lin : l ∈ Fx ++ (G1 ++ (l :: F' ++ G2)) := List.mem_append_right _ (List.mem_append_right _ (List.mem_append_left _ (List.mem_cons_self ..)))
  have lo : O l := w.own l lin
  have pm0 : (Fx ++ (G1 ++ (l :: F' ++ G2))).Perm (l :: ((Fx ++ F') ++ (G1 ++ G2))) := List.perm_iff_count.mpr fun a => by simp only [List.count_append, List.count_cons]; omega
  have nd2 := pm0.nodup_iff.mp nd
  have ln : l ∉ (Fx ++ F') ++ (G1 ++ G2) := (List.nodup_cons.mp nd2).1
  refine ⟨lo, fun z => ln (List.mem_append_left _ z), fun o' m' F3 Fo G pm rm' => ?_⟩
  have kf : ∀ a o, H a = some o → ¬ O a → upd H l o' a = some o := fun a o h n => by
    rw [upd_ne (fun e => n (by rw [e]; exact lo))]; exact h
  have rs3 := kk O (upd H l o') kf (fun a h => .inl h) (fun a o ha h => by rw [upd_ne (fun e => ln (by rw [← e]; exact List.mem_append_right _ ha))]; exact h) v (s.put m') (l :: F3) (by rw [Sl.put_m]; exact rm')
  rw [set_same e1] at rs3
  have s3 : Step O H (Fx ++ (G1 ++ (l :: F' ++ G2))) O (upd H l o') (Fx ++ (G1 ++ (l :: F' ++ G2))) := Step.write w lin
  refine ⟨G1 ++ (l :: F3 ++ G2), rs3, (s3.permR (F2 := (Fo ++ (G1 ++ (l :: F3 ++ G2))) ++ G) (List.perm_iff_count.mpr fun a => ?_)).dropR, fun m2 v2 r2 => r2.updK (fun z => ln (List.mem_append_left _ (pm.mem_iff.mpr (List.mem_append_right _ (List.mem_append_left _ z))))) lo⟩
  have := List.perm_iff_count.mp pm a
  simp only [List.count_append, List.count_cons] at this ⊢
  omega
end Lin

end

section
namespace Lin
open PySem PySem.Spec PyProof.Rows L2

/-! ### and, or, if-else, is None, isinstance, == -/
def wW (X : Cx) (e : Expr) : TT := fun σ H Q => ∃ t, PW X e t ∧ t σ H Q
theorem pw_w {X : Cx} {e : Expr} : PW X e (wW X e) := ⟨fun wh pins s σ H Q I ⟨t, p, h⟩ => p.run wh pins s σ H Q I h⟩
/-- a test whatever its whole is -/
def Tw (X : Cx) (e : Expr) (env : Sls) (b : Bool) (env' : Sls) : Prop := Io env env' ∧
  ∀ (O : OW) (H : Hp) (σ : L2.St) (F : List Addr), RepS X.K O H env σ F → Wf O H F → ∀ Q : Bool → Hp → Prop,
    (∀ (O' : OW) (H' : Hp) (F' : List Addr), RepS X.K O' H' env' σ F' → Step O H F O' H' F' → Q b H') → wW X e σ H Q
section
variable {X : Cx} {env env1 env2 : Sls} {a b c e : Expr} {es rest : List Expr} {pos p p' : Pos} {d x y : D} {m m' : M} {ms : List M} {ds : List D} {K : PySem.W.Frag} {O : OW} {H : Hp} {n : Str} {s : Sl} {i j : Int} {k k2 : Bool}
theorem tv_w (h : Tw X e env k env1) : Tv X e env k env1 := ⟨h.1, fun O H σ F r w Q q => by
  obtain ⟨t, p, z⟩ := h.2 O H σ F r w Q q
  exact ⟨t, p.pt, z⟩⟩
theorem tw_and1 (h : Tv X a env k env1) : Tw X (.BoolOp .And [a] pos) env k env1 := ⟨h.1, fun O H σ F r w Q q => ⟨_, pw_and1 pt_w, h.2 O H σ F r w Q q⟩⟩
theorem tw_or1 (h : Tv X a env k env1) : Tw X (.BoolOp .Or [a] pos) env k env1 := ⟨h.1, fun O H σ F r w Q q => ⟨_, pw_or1 pt_w, h.2 O H σ F r w Q q⟩⟩
theorem tw_andT (h : Tv X a env true env1) (g : Tw X (.BoolOp .And (b :: rest) pos) env1 k env2) : Tw X (.BoolOp .And (a :: b :: rest) pos) env k env2 :=
  ⟨h.1.trans g.1, fun O H σ F r w Q q => ⟨_, pw_and pt_w pw_w, h.2 O H σ F r w _ fun O1 H1 F1 r1 s1 => by
    rw [if_pos rfl]
    exact g.2 O1 H1 σ F1 r1 s1.wf Q fun O2 H2 F2 r2 s2 => q O2 H2 F2 r2 (s1.trans w s2)⟩⟩
theorem tw_andF (h : Tv X a env false env1) : Tw X (.BoolOp .And (a :: b :: rest) pos) env false env1 :=
  ⟨h.1, fun O H σ F r w Q q => ⟨_, pw_and pt_w pw_w, h.2 O H σ F r w _ fun O1 H1 F1 r1 s1 => by
    rw [if_neg Bool.false_ne_true]
    exact q O1 H1 F1 r1 s1⟩⟩
theorem tw_orF (h : Tv X a env false env1) (g : Tw X (.BoolOp .Or (b :: rest) pos) env1 k env2) : Tw X (.BoolOp .Or (a :: b :: rest) pos) env k env2 :=
  ⟨h.1.trans g.1, fun O H σ F r w Q q => ⟨_, pw_or pt_w pw_w, h.2 O H σ F r w _ fun O1 H1 F1 r1 s1 => by
    rw [if_neg Bool.false_ne_true]
    exact g.2 O1 H1 σ F1 r1 s1.wf Q fun O2 H2 F2 r2 s2 => q O2 H2 F2 r2 (s1.trans w s2)⟩⟩
theorem tw_orT (h : Tv X a env true env1) : Tw X (.BoolOp .Or (a :: b :: rest) pos) env true env1 :=
  ⟨h.1, fun O H σ F r w Q q => ⟨_, pw_or pt_w pw_w, h.2 O H σ F r w _ fun O1 H1 F1 r1 s1 => by
    rw [if_pos rfl]
    exact q O1 H1 F1 r1 s1⟩⟩
/-- tests that leave the slots as they are -/
theorem tw_and (h : Tv X a env k env) (g : k = true → Tw X (.BoolOp .And (b :: rest) pos) env k2 env) : Tw X (.BoolOp .And (a :: b :: rest) pos) env (k && k2) env := by
  cases k with
  | true => exact tw_andT h (g rfl)
  | false => exact tw_andF h
theorem tw_or (h : Tv X a env k env) (g : k = false → Tw X (.BoolOp .Or (b :: rest) pos) env k2 env) : Tw X (.BoolOp .Or (a :: b :: rest) pos) env (k || k2) env := by
  cases k with
  | true => exact tw_orT h
  | false => exact tw_orF h (g rfl)
/-! as values -/
theorem ev_bop1 {op : BoolOp} (h : Ev X a env m env1) : Ev X (.BoolOp op [a] pos) env m env1 := ⟨h.1, fun O H σ F r w Q q => ⟨_, pe_one pe_w, h.2 O H σ F r w Q q⟩⟩
theorem ev_andT (h : Ev X a env (.val (.bool true)) env1) (g : Ev X (.BoolOp .And (b :: rest) pos) env1 m env2) : Ev X (.BoolOp .And (a :: b :: rest) pos) env m env2 :=
  ⟨h.1.trans g.1, fun O H σ F r w Q q => ⟨_, pe_and pe_w pe_w, h.2 O H σ F r w _ fun O1 H1 v Fv F1 ⟨ev, rv⟩ r1 s1 => by
    subst ev
    refine ⟨true, rv, ?_⟩
    rw [if_pos rfl]
    exact g.2 O1 H1 σ F1 r1 s1.wf Q fun O2 H2 v2 Fv2 F2 rv2 r2 s2 => q O2 H2 v2 Fv2 F2 rv2 r2 (s1.trans w s2)⟩⟩
theorem ev_andF (h : Ev X a env (.val (.bool false)) env1) : Ev X (.BoolOp .And (a :: b :: rest) pos) env (.val (.bool false)) env1 :=
  ⟨h.1, fun O H σ F r w Q q => ⟨_, pe_and pe_w pe_w, h.2 O H σ F r w _ fun O1 H1 v Fv F1 ⟨ev, rv⟩ r1 s1 => by
    subst ev
    refine ⟨false, rv, ?_⟩
    rw [if_neg Bool.false_ne_true]
    exact q O1 H1 _ [] F1 ⟨rfl, rfl⟩ r1 s1⟩⟩
theorem ev_orF (h : Ev X a env (.val (.bool false)) env1) (g : Ev X (.BoolOp .Or (b :: rest) pos) env1 m env2) : Ev X (.BoolOp .Or (a :: b :: rest) pos) env m env2 :=
  ⟨h.1.trans g.1, fun O H σ F r w Q q => ⟨_, pe_or pe_w pe_w, h.2 O H σ F r w _ fun O1 H1 v Fv F1 ⟨ev, rv⟩ r1 s1 => by
    subst ev
    refine ⟨false, rv, ?_⟩
    rw [if_neg Bool.false_ne_true]
    exact g.2 O1 H1 σ F1 r1 s1.wf Q fun O2 H2 v2 Fv2 F2 rv2 r2 s2 => q O2 H2 v2 Fv2 F2 rv2 r2 (s1.trans w s2)⟩⟩
theorem ev_orT (h : Ev X a env (.val (.bool true)) env1) : Ev X (.BoolOp .Or (a :: b :: rest) pos) env (.val (.bool true)) env1 :=
  ⟨h.1, fun O H σ F r w Q q => ⟨_, pe_or pe_w pe_w, h.2 O H σ F r w _ fun O1 H1 v Fv F1 ⟨ev, rv⟩ r1 s1 => by
    subst ev
    refine ⟨true, rv, ?_⟩
    rw [if_pos rfl]
    exact q O1 H1 _ [] F1 ⟨rfl, rfl⟩ r1 s1⟩⟩
theorem ev_and (h : Ev X a env (.val (.bool k)) env) (g : k = true → Ev X (.BoolOp .And (b :: rest) pos) env (.val (.bool k2)) env) : Ev X (.BoolOp .And (a :: b :: rest) pos) env (.val (.bool (k && k2))) env := by
  cases k with
  | true => exact ev_andT h (g rfl)
  | false => exact ev_andF h
theorem ev_or (h : Ev X a env (.val (.bool k)) env) (g : k = false → Ev X (.BoolOp .Or (b :: rest) pos) env (.val (.bool k2)) env) : Ev X (.BoolOp .Or (a :: b :: rest) pos) env (.val (.bool (k || k2))) env := by
  cases k with
  | true => exact ev_orT h
  | false => exact ev_orF h (g rfl)
theorem ev_not (h : Ev X a env (.val (.bool k)) env1) : Ev X (.UnaryOp .Not a pos) env (.val (.bool (!k))) env1 :=
  ⟨h.1, fun O H σ F r w Q q => ⟨_, pe_not pe_w, h.2 O H σ F r w _ fun O1 H1 v Fv F1 ⟨ev, rv⟩ r1 s1 => by
    subst ev
    exact ⟨k, rv, q O1 H1 _ [] F1 ⟨rfl, rfl⟩ r1 s1⟩⟩⟩
theorem ev_ifT (hc : Tv X c env true env1) (h : Ev X a env1 m env2) : Ev X (.IfExp c a b pos) env m env2 :=
  ⟨hc.1.trans h.1, fun O H σ F r w Q q => ⟨_, pe_ifExp pt_w pe_w pe_w, hc.2 O H σ F r w _ fun O1 H1 F1 r1 s1 => by
    rw [if_pos rfl]
    exact h.2 O1 H1 σ F1 r1 s1.wf Q fun O2 H2 v2 Fv2 F2 rv2 r2 s2 => q O2 H2 v2 Fv2 F2 rv2 r2 (s1.trans w s2)⟩⟩
theorem ev_ifF (hc : Tv X c env false env1) (h : Ev X b env1 m env2) : Ev X (.IfExp c a b pos) env m env2 :=
  ⟨hc.1.trans h.1, fun O H σ F r w Q q => ⟨_, pe_ifExp pt_w pe_w pe_w, hc.2 O H σ F r w _ fun O1 H1 F1 r1 s1 => by
    rw [if_neg Bool.false_ne_true]
    exact h.2 O1 H1 σ F1 r1 s1.wf Q fun O2 H2 v2 Fv2 F2 rv2 r2 s2 => q O2 H2 v2 Fv2 F2 rv2 r2 (s1.trans w s2)⟩⟩
theorem ev_if (hc : Tv X c env k env1) (h1 : k = true → Ev X a env1 m env2) (h2 : k = false → Ev X b env1 m env2) : Ev X (.IfExp c a b pos) env m env2 := by
  cases k with
  | true => exact ev_ifT hc (h1 rfl)
  | false => exact ev_ifF hc (h2 rfl)
/-! is None -/
def isNon : D → Bool
  | .none => true
  | _ => false
theorem rep_non {v : V} : ∀ {d : D}, Rep K O H d v → decide (v = .non) = isNon d
  | .none, h => by rw [show v = V.non from h]; rfl
  | .bool b, h => by rw [show v = V.bl b from h]; rfl
  | .int b, h => by rw [show v = V.int b from h]; rfl
  | .str b, h => by rw [show v = V.str b from h]; rfl
  | .tup ds, ⟨a, xs, e, _⟩ => by rw [e]; rfl
  | .lst ds, ⟨a, xs, e, _⟩ => by rw [e]; rfl
  | .dK _ ds, ⟨a, xs, e, _⟩ => by rw [e]; rfl
  | .dT _ ds, ⟨a, xs, e, _⟩ => by rw [e]; rfl
  | .ins _ _ ds, ⟨a, _, xs, e, _⟩ => by rw [e]; rfl
  | .scr ds, ⟨a, e, _⟩ => by rw [e]; rfl
theorem ro_isN : RO K (fun x y H Q => y = .non ∧ Q (.bl (decide (x = .non))) H) d .none (.val (.bool (isNon d))) :=
  ro_val fun O H u v Q hu hv q => ⟨hv, q _ (by rw [rep_non hu]; rfl)⟩
theorem ro_notN : RO K (fun x y H Q => y = .non ∧ Q (.bl (!decide (x = .non))) H) d .none (.val (.bool (!isNon d))) :=
  ro_val fun O H u v Q hu hv q => ⟨hv, q _ (by rw [rep_non hu]; rfl)⟩
theorem ev_isN (ha : Ev X a env (.val d) env1) (hb : Ev X b env1 (.val .none) env2) : Ev X (.Compare a [.Is] [b] pos) env (.val (.bool (isNon d))) env2 := ev_cmp op_isN ha hb ro_isN
theorem ev_notN (ha : Ev X a env (.val d) env1) (hb : Ev X b env1 (.val .none) env2) : Ev X (.Compare a [.IsNot] [b] pos) env (.val (.bool (!isNon d))) env2 := ev_cmp op_notN ha hb ro_notN
theorem tv_isN (ha : Ev X a env (.val d) env1) (hb : Ev X b env1 (.val .none) env2) : Tv X (.Compare a [.Is] [b] pos) env (isNon d) env2 := tv_cmp op_isN ha hb ro_isN
theorem tv_notN (ha : Ev X a env (.val d) env1) (hb : Ev X b env1 (.val .none) env2) : Tv X (.Compare a [.IsNot] [b] pos) env (!isNon d) env2 := tv_cmp op_notN ha hb ro_notN
/-! isinstance -/
def tyD : D → String
  | .none => "NoneType" | .bool _ => "bool" | .int _ => "int" | .str _ => "str" | .tup _ => "tuple" | .lst _ => "list" | .dK _ _ => "dict" | .dT _ _ => "dict" | .ins _ _ _ => "" | .scr _ => "list"
def tyOk : D → Bool
  | .dT _ _ => false | .ins _ _ _ => false | _ => true
theorem wrT_ty {a : Addr} {xs : List V} (h : WrT K a xs) : TyX K H (.ref a) (.type "tuple") := by
  obtain ⟨o, its, n, e, c, _⟩ := h
  exact .kTuple e c
theorem rep_ty {v : V} : ∀ {d : D}, tyOk d = true → Rep K O H d v → TyX K H v (.type (tyD d))
  | .none, _, h => by rw [show v = V.non from h]; exact .base .non
  | .bool b, _, h => by rw [show v = V.bl b from h]; exact .base (.bl b)
  | .int b, _, h => by rw [show v = V.int b from h]; exact .base (.int b)
  | .str b, _, h => by rw [show v = V.str b from h]; exact .base (.str b)
  | .tup ds, _, ⟨a, xs, e, hp, _⟩ => by
    rw [e]
    rcases hp with ⟨_, hp | ⟨o, hp⟩⟩ | hp
    · exact .base (.tup hp)
    · exact .fTuple hp
    · exact wrT_ty hp
  | .lst ds, _, ⟨a, xs, e, _, hp, _⟩ => by rw [e]; exact .base (.lst hp)
  | .dK _ ds, _, ⟨a, xs, e, _, hp, _⟩ => by
    rw [e]
    rcases hp with hp | ⟨o, hp⟩
    · exact .base (.dK hp)
    · exact .fDict hp
  | .scr ds, _, ⟨a, e, hp⟩ => by
    rw [e]
    rcases hp with ⟨_, hp | ⟨o, hp⟩⟩ | ⟨o, its, n, hp, c, _⟩
    · exact .base (.lst hp)
    · exact .base (.frz hp)
    · exact .kList hp c
theorem pu_isi {T : String} {nT : Str} (ha : Pu X e env (.val d)) (hk : PySem.W.kitOne X.K (.type (tyD d)) (.type T) = some k) (hb : bootBuiltins nT = some (.type T)) (hmT : X.mg nT = none) (hm : X.mg "isinstance" = none) (ht : tyOk d = true := by rfl) (hg : Gl X "isinstance" := by rfl) (hgT : Gl X nT := by rfl)
    (hn : nT ≠ "__name__" := by decide) (hdb : (nT == ("__debug__" : Str)) = false := by decide)
    (he : starEach [e, .Name nT p'] X.env = (false, eval e X.env) :: starEach [.Name nT p'] X.env := by rfl) (he2 : starEach [.Name nT p'] X.env = (false, eval (.Name nT p') X.env) :: starEach [] X.env := by rfl) (hpl : (backTo pos (starEach [.Name nT p'] X.env)).any (·.1) = false := by rfl) :
    Pu X (.Call (.Name "isinstance" p) [e, .Name nT p'] [] pos) env (.val (.bool k)) := fun O H σ F rs w Q q =>
  ⟨_, pe_callB call_isi hg hm boot_isinstance (pa_cons pe_w (pa_cons (pe_bltn hgT hmT hb (v := .ty T) rfl hn hdb) pa_nil he2) he) (by decide) (by decide) he hpl,
    ha O H σ F rs w _ fun v _ ⟨_, rv⟩ => ⟨v, .ty T, .type (tyD d), .type T, k, rfl, .ty T, rep_ty ht rv, hk, q _ [] ⟨rfl, rfl⟩⟩⟩
end
end Lin

end

section
namespace Lin
open PySem PySem.Spec PyProof.Rows L2

/-! ### == of data -/
mutual
def pd : D → PyData
  | .none => .none | .bool b => .bool b | .int i => .int i | .str s => .str s
  | .tup ds => .tuple (pdL ds) | .lst ds => .list (pdL ds)
  | .dK _ _ => .none | .dT _ _ => .none | .ins _ _ _ => .none | .scr _ => .none
def pdL : List D → List PyData
  | [] => []
  | d :: ds => pd d :: pdL ds
end
mutual
def plain : D → Bool
  | .none => true | .bool _ => true | .int _ => true | .str _ => true
  | .tup ds => plainL ds | .lst ds => plainL ds
  | .dK _ _ => false | .dT _ _ => false | .ins _ _ _ => false | .scr _ => false
def plainL : List D → Bool
  | [] => true
  | d :: ds => plain d && plainL ds
end
section
variable {K : PySem.W.Frag} {O : OW} {H : Hp}
mutual
theorem Rep.dp : ∀ (d : D) {v : V}, plain d = true → Rep K O H d v → Dp K H v (pd d)
  | .none, _, _, h => by rw [show _ = V.non from h]; exact .non
  | .bool b, _, _, h => by rw [show _ = V.bl b from h]; exact .bl b
  | .int b, _, _, h => by rw [show _ = V.int b from h]; exact .int b
  | .str b, _, _, h => by rw [show _ = V.str b from h]; exact .str b
  | .tup ds, _, hp, ⟨a, xs, e, h, rl⟩ => by rw [e]; exact .tup (TupAt.sq h) (RepL.dp ds hp rl)
  | .lst ds, _, hp, ⟨a, xs, e, _, h, rl⟩ => by rw [e]; exact .lst (.inl (.inl h)) (RepL.dp ds hp rl)
  | .dK _ _, _, hp, _ => by cases hp
  | .dT _ _, _, hp, _ => by cases hp
  | .ins _ _ _, _, hp, _ => by cases hp
  | .scr _, _, hp, _ => by cases hp
theorem RepL.dp : ∀ (ds : List D) {vs : List V}, plainL ds = true → RepL K O H ds vs → DpAll K H vs (pdL ds)
  | [], _, _, h => by rw [show _ = [] from h]; exact .nil
  | d :: ds, _, hp, ⟨v, vs, e, r, rl⟩ => by
    have hp := Bool.and_eq_true_iff.mp (show (plain d && plainL ds) = true from hp)
    rw [e]; exact .cons (Rep.dp d hp.1 r) (RepL.dp ds hp.2 rl)
end
mutual
theorem RepM.dp : ∀ (m : M) {v : V} {F : List Addr}, plain (frz m) = true → RepM K O H m v F → Dp K H v (pd (frz m))
  | .val d, _, _, hp, ⟨_, h⟩ => Rep.dp d hp h
  | .lst ms, _, _, hp, ⟨a, xs, F', e, _, h, rl⟩ => by rw [e]; exact .lst (.inl (.inl h)) (RepML.dp ms hp rl)
  | .dK _ _, _, _, hp, _ => by cases hp
  | .dT _ _, _, _, hp, _ => by cases hp
  | .ins _ _ _, _, _, hp, _ => by cases hp
theorem RepML.dp : ∀ (ms : List M) {vs : List V} {F : List Addr}, plainL (frzL ms) = true → RepML K O H ms vs F → DpAll K H vs (pdL (frzL ms))
  | [], _, _, _, ⟨h, _⟩ => by rw [h]; exact .nil
  | m :: ms, _, _, hp, ⟨v, vs, F1, F2, e, _, r, rl⟩ => by
    have hp := Bool.and_eq_true_iff.mp (show (plain (frz m) && plainL (frzL ms)) = true from hp)
    rw [e]; exact .cons (RepM.dp m hp.1 r) (RepML.dp ms hp.2 rl)
end
end
/-- data that may be compared -/
def CmpD (d : D) : Prop := plain d = true ∧ SeqAt.shaped (pd d) = true
section
variable {X : Cx} {env env1 env2 : Sls} {a b c e : Expr} {es rest : List Expr} {pos p p' : Pos} {d x y : D} {m m' : M} {ms : List M} {ds : List D} {K : PySem.W.Frag} {O : OW} {H : Hp} {n : Str} {s : Sl} {i j : Int} {k k2 : Bool}
theorem ro_eqD (hx : CmpD x) (hy : CmpD y) : RO K (rEqD K) x y (.val (.bool (PyData.eqv (pd x) (pd y)))) := ro_val fun O H u v Q hu hv q => ⟨pd x, pd y, hu.dp x hx.1, hv.dp y hy.1, hx.2, hy.2, q _ rfl⟩
theorem ro_neD (hx : CmpD x) (hy : CmpD y) : RO K (rNeD K) x y (.val (.bool (!PyData.eqv (pd x) (pd y)))) := ro_val fun O H u v Q hu hv q => ⟨pd x, pd y, hu.dp x hx.1, hv.dp y hy.1, hx.2, hy.2, q _ rfl⟩
theorem ev_eqD (ha : Ev X a env (.val x) env1) (hb : Ev X b env1 (.val y) env2) (hx : CmpD x) (hy : CmpD y) (hu : X.A.units + 64 < cLine) : Ev X (.Compare a [.Eq] [b] pos) env (.val (.bool (PyData.eqv (pd x) (pd y)))) env2 := ev_cmp (op_eqD hu) ha hb (ro_eqD hx hy)
theorem ev_neD (ha : Ev X a env (.val x) env1) (hb : Ev X b env1 (.val y) env2) (hx : CmpD x) (hy : CmpD y) (hu : X.A.units + 64 < cLine) : Ev X (.Compare a [.NotEq] [b] pos) env (.val (.bool (!PyData.eqv (pd x) (pd y)))) env2 := ev_cmp (op_neD hu) ha hb (ro_neD hx hy)
theorem tv_eqD (ha : Ev X a env (.val x) env1) (hb : Ev X b env1 (.val y) env2) (hx : CmpD x) (hy : CmpD y) (hu : X.A.units + 64 < cLine) : Tv X (.Compare a [.Eq] [b] pos) env (PyData.eqv (pd x) (pd y)) env2 := tv_cmp (op_eqD hu) ha hb (ro_eqD hx hy)
theorem tv_neD (ha : Ev X a env (.val x) env1) (hb : Ev X b env1 (.val y) env2) (hx : CmpD x) (hy : CmpD y) (hu : X.A.units + 64 < cLine) : Tv X (.Compare a [.NotEq] [b] pos) env (!PyData.eqv (pd x) (pd y)) env2 := tv_cmp (op_neD hu) ha hb (ro_neD hx hy)
/-! scalars -/
theorem cmp_int : CmpD (.int i) := ⟨rfl, rfl⟩
theorem cmp_bool : CmpD (.bool k) := ⟨rfl, rfl⟩
theorem cmp_str {z : Str} (h : PySem.PyData.strOk z = true) : CmpD (.str z) := ⟨rfl, by show (PySem.PyData.strOk z && decide (0 ≤ 64)) = true; rw [h]; rfl⟩
theorem cmp_none : CmpD .none := ⟨rfl, rfl⟩
theorem eqv_int : PyData.eqv (pd (.int i)) (pd (.int j)) = decide (i = j) := rfl
theorem eqv_str {z w : Str} : PyData.eqv (pd (.str z)) (pd (.str w)) = decide (z = w) := by
  show (z == w) = _
  by_cases h : z = w
  · subst h; simp
  · simp [h]
theorem eqv_bool : PyData.eqv (pd (.bool k)) (pd (.bool k2)) = decide (k = k2) := by cases k <;> cases k2 <;> rfl
theorem ev_eqI (ha : Ev X a env (.val (.int i)) env1) (hb : Ev X b env1 (.val (.int j)) env2) (hu : X.A.units + 64 < cLine) : Ev X (.Compare a [.Eq] [b] pos) env (.val (.bool (decide (i = j)))) env2 := ev_eqD ha hb cmp_int cmp_int hu
theorem tv_eqI (ha : Ev X a env (.val (.int i)) env1) (hb : Ev X b env1 (.val (.int j)) env2) (hu : X.A.units + 64 < cLine) : Tv X (.Compare a [.Eq] [b] pos) env (decide (i = j)) env2 := tv_eqD ha hb cmp_int cmp_int hu
theorem tv_neI (ha : Ev X a env (.val (.int i)) env1) (hb : Ev X b env1 (.val (.int j)) env2) (hu : X.A.units + 64 < cLine) : Tv X (.Compare a [.NotEq] [b] pos) env (!decide (i = j)) env2 := tv_neD ha hb cmp_int cmp_int hu
theorem tv_eqS {z w : Str} (hz : PySem.PyData.strOk z = true) (hw : PySem.PyData.strOk w = true) (ha : Ev X a env (.val (.str z)) env1) (hb : Ev X b env1 (.val (.str w)) env2) (hu : X.A.units + 64 < cLine) : Tv X (.Compare a [.Eq] [b] pos) env (decide (z = w)) env2 := (tv_eqD ha hb (cmp_str hz) (cmp_str hw) hu).eq eqv_str
theorem tv_neS {z w : Str} (hz : PySem.PyData.strOk z = true) (hw : PySem.PyData.strOk w = true) (ha : Ev X a env (.val (.str z)) env1) (hb : Ev X b env1 (.val (.str w)) env2) (hu : X.A.units + 64 < cLine) : Tv X (.Compare a [.NotEq] [b] pos) env (!decide (z = w)) env2 := (tv_neD ha hb (cmp_str hz) (cmp_str hw) hu).eq (by rw [eqv_str])
theorem ev_eqB (ha : Ev X a env (.val (.bool k)) env1) (hb : Ev X b env1 (.val (.bool k2)) env2) (hu : X.A.units + 64 < cLine) : Ev X (.Compare a [.Eq] [b] pos) env (.val (.bool (decide (k = k2)))) env2 := (ev_eqD ha hb cmp_bool cmp_bool hu).eq (by rw [eqv_bool])
theorem tv_neB (ha : Ev X a env (.val (.bool k)) env1) (hb : Ev X b env1 (.val (.bool k2)) env2) (hu : X.A.units + 64 < cLine) : Tv X (.Compare a [.NotEq] [b] pos) env (!decide (k = k2)) env2 := (tv_neD ha hb cmp_bool cmp_bool hu).eq (by rw [eqv_bool])
/-- a test of what a name owns with a datum -/
theorem tv_neO (i : Nat) (hb : Ev X b env (.val y) env1) (hi : env1[i]? = some (some s)) (hx : CmpD (frz s.m)) (hy : CmpD y) (hu : X.A.units + 64 < cLine) (hN : X.N[i]? = some n := by rfl) (hv : Vis X.env.scope n := by first | exact Or.inl rfl | exact Or.inr (Or.inl rfl) | exact Or.inr (Or.inr rfl))
    (hd : (n == ("__debug__" : Str)) = false := by decide) (hcd : (n == ("__classdict__" : Str)) = false := by decide) (hm : behindInMarks .NotEq b = false := by first | exact nomark _ | rfl) (hse : ∃ t, env[i]? = some (some t) := by exact ⟨_, rfl⟩) :
    Tv X (.Compare (.Name n p) [.NotEq] [b] pos) env (!PyData.eqv (pd (frz s.m)) (pd y)) env1 :=
  ⟨hb.1, fun O H σ F r w Q q => ⟨_, pt_cmpR (op_neD hu) (pe_var hN hv hd hcd) pe_w hm, by
    obtain ⟨t, ht⟩ := hse
    obtain ⟨v, F1, Fi, F2, e1, ef, _, _, _⟩ := RepS.at r ht
    refine ⟨v, e1, hb.2 O H σ F r w _ fun O1 H1 u Fu G ⟨eu, ru⟩ r1 s1 => ?_⟩
    subst eu
    obtain ⟨v', G1, Gi, G2, e2, ef', rm, _, _⟩ := RepS.at r1 hi
    have ev : v' = v := by rw [e1] at e2; exact (Option.some.inj (Option.some.inj e2)).symm
    subst ev
    exact ⟨_, _, RepM.dp _ hx.1 rm, ru.dp y hy.1, hx.2, hy.2, _, rfl, q O1 H1 G r1 s1⟩⟩⟩
/-! in, not in -/
theorem ev_notInL (ha : Ev X a env (.val x) env1) (hb : Ev X b env1 (.val (.lst ds)) env2) (hx : CmpD x) (hy : CmpD (.lst ds)) (hu : X.A.units + 65 < cLine) (hm : behindInMarks .NotIn b = false := by first | exact nomark _ | rfl) :
    Ev X (.Compare a [.NotIn] [b] pos) env (.val (.bool (!(pdL ds).any fun z => PyData.eqv z (pd x)))) env2 := ev_cmp (op_notInD hu) ha hb (ro_val fun O H u v Q hu hv q => ⟨pd x, pdL ds, hu.dp x hx.1, hv.dp _ hy.1, hx.2, hy.2, q _ rfl⟩) hm
theorem ev_inL (ha : Ev X a env (.val x) env1) (hb : Ev X b env1 (.val (.lst ds)) env2) (hx : CmpD x) (hy : CmpD (.lst ds)) (hu : X.A.units + 65 < cLine) (hm : behindInMarks .In b = false := by first | exact nomark _ | rfl) :
    Ev X (.Compare a [.In] [b] pos) env (.val (.bool ((pdL ds).any fun z => PyData.eqv z (pd x)))) env2 := ev_cmp (op_inD hu) ha hb (ro_val fun O H u v Q hu hv q => ⟨pd x, pdL ds, hu.dp x hx.1, hv.dp _ hy.1, hx.2, hy.2, q _ rfl⟩) hm
end

/-! ### displays of owned things, several targets -/
def EvMs (X : Cx) (es : List Expr) (env : Sls) (ms : List M) (env' : Sls) : Prop := Io env env' ∧
  ∀ (O : OW) (H : Hp) (σ : L2.St) (F : List Addr), RepS X.K O H env σ F → Wf O H F → ∀ Q : List V → Hp → Prop,
    (∀ (O' : OW) (H' : Hp) (vs : List V) (Fm F' : List Addr), RepML X.K O' H' ms vs Fm → RepS X.K O' H' env' σ F' → Step O H F O' H' (Fm ++ F') → Q vs H') → wA X es σ H Q
section
variable {X : Cx} {env env1 env2 : Sls} {a b c e : Expr} {es rest : List Expr} {pos p p' : Pos} {d x y : D} {m m' : M} {ms : List M} {ds : List D} {n : Str} {s : Sl}
theorem em_nil : EvMs X [] env [] env := ⟨Io.refl _, fun O H σ F r w Q q => ⟨_, pa_nil, q O H [] [] F ⟨rfl, rfl⟩ r (Step.refl w)⟩⟩
theorem em_cons (he : Ev X e env m env1) (hr : EvMs X es env1 ms env2) (hs : starEach (e :: es) X.env = (false, eval e X.env) :: starEach es X.env := by rfl) : EvMs X (e :: es) env (m :: ms) env2 :=
  ⟨he.1.trans hr.1, fun O H σ F r w Q q => ⟨_, pa_cons pe_w pa_w hs, he.2 O H σ F r w _ fun O1 H1 u Fu F1 ru r1 s1 => by
    have w1 := s1.wf
    refine hr.2 O1 H1 σ F1 r1 w1.right _ fun O2 H2 vs Fm F2 rm r2 s2 => ?_
    have pm : (Fu ++ F1).Perm (F1 ++ Fu) := List.perm_append_comm
    have sb := (s2.beside (w1.perm pm)).permL pm.symm
    refine q O2 H2 (u :: vs) (Fu ++ Fm) F2 ⟨u, vs, Fu, Fm, rfl, rfl, s2.repM w1.right (fun a h z => w1.apart h z) ru, rm⟩ r2 ((s1.trans w sb).permR (List.perm_iff_count.mpr fun a => by simp only [List.count_append]; omega))⟩⟩
/-- [a, b, ..] of owned things -/
theorem ev_lstM (h : EvMs X es env ms env1) (hz : ms.length ≤ 1000 := by first | decide | simp) : Ev X (.List es pos) env (.lst ms) env1 :=
  ⟨h.1, fun O H σ F r w Q q => ⟨_, pe_lst pa_w, h.2 O H σ F r w _ fun O1 H1 vs Fm F1 rm r1 s1 => by
    refine ⟨by rw [rm.len]; exact Nat.le_trans hz (by decide), fun p hp => ?_⟩
    have s0 : Step O1 H1 [] (fun a => O1 a ∨ a = p) (upd H1 p (.lst vs)) [p] := Step.new (G := []) s1.wf.nil hp
    refine q _ _ (.ref p) (p :: Fm) F1 ⟨p, vs, Fm, rfl, rfl, upd_same, s0.repML s1.wf.nil (fun _ _ => by simp) rm⟩ (r1.quiet s0) ((s1.trans w (s0.quiet s1.wf)).permR (List.Perm.refl _))⟩⟩
/-- x, y = a, b -/
theorem x1_par (i j : Nat) {x y : Str} {m1 m2 : M} {px py pt : Pos} {kt k2 pt2} (h : EvMs X [a, b] env [m1, m2] env1) (hioI : ∀ m', env[i]? ≠ some (some (Sl.io m')) := by intro _ h; cases h) (hioJ : ∀ m', env[j]? ≠ some (some (Sl.io m')) := by intro _ h; cases h)
    (hiL : i < env.length := by simp) (hjL : j < env.length := by simp) (hij : i ≠ j := by decide) (hN : X.N.Nodup := by assumption) (hi : X.N[i]? = some x := by rfl) (hj : X.N[j]? = some y := by rfl) (hx : X.env.scope.names.lookup x = some .local := by rfl) (hy : X.env.scope.names.lookup y = some .local := by rfl)
    (hc : X.calm = true := by rfl) (hw : swappedStores [.Tuple [.Name x px, .Name y py] kt pt] (.Tuple [a, b] k2 pt2) X.env = pure (some [x, y]) := by rfl) (hs : swapsWithSole [.Tuple [.Name x px, .Name y py] kt pt] (.Tuple [a, b] k2 pt2) pos.line X.env = pure false := by rfl) :
    Ex1 X (.Assign [.Tuple [.Name x px, .Name y py] kt pt] (.Tuple [a, b] k2 pt2) pos) env (.nx ((env1.set i (some (.own m1))).set j (some (.own m2)))) := fun O H σ F r w D g =>
  ⟨_, ps_par hc hN hi hj hij hx hy pa_w hw hs, h.2 O H σ F r w _ fun O1 H1 vs Fm F1 ⟨u, us, Fa, Fb, ev, ef, ra, v, vs', Fc, Fd, ev2, ef2, rb, en, en2⟩ r1 s1 => by
    subst en ev2 ev
    subst en2 ef2 ef
    have hl : env1.length = env.length := by rw [← r1.len, r.len]
    obtain ⟨G1, G2, Gi, eg, q1, k1⟩ := RepS.drop i (some u) (by rw [hl]; exact hiL) r1
    have r2 := k1 u (.own m1) Fa ra
    obtain ⟨J1, J2, Ji, ej, q2, k2⟩ := RepS.drop j (some v) (by rw [List.length_set, hl]; exact hjL) r2
    have r3 := k2 v (.own m2) Fc rb
    refine ⟨u, v, rfl, g O1 H1 _ _ r3 ((s1.permR (F2 := (J1 ++ (Fc ++ J2)) ++ (Gi ++ Ji)) (List.perm_iff_count.mpr fun a => ?_)).dropR) fun l m' z => ?_⟩
    · have e1 := congrArg (List.count a) eg
      have e2 := congrArg (List.count a) ej
      simp only [List.count_append, List.count_nil] at e1 e2 ⊢
      omega
    · have n1 : i ≠ l := fun q => hioI m' (q ▸ z)
      have n2 : j ≠ l := fun q => hioJ m' (q ▸ z)
      obtain ⟨m3, z3⟩ := h.1 l m' z
      exact ⟨⟨m3, by rw [List.getElem?_set_ne n2, List.getElem?_set_ne n1]; exact z3⟩, by rw [List.getElem?_set_ne n2, List.getElem?_set_ne n1]⟩⟩
/-- (x, y) = a tuple -/
theorem x1_asgT {tg : Expr} {ws : List Nat} (he : Ev X e env (.val d) env1) (ht : Tg X tg d ws env1 env2) (hs : swapsWithSole [tg] e pos.line X.env = pure false := by rfl) (hw : swappedStores [tg] e X.env = pure none := by rfl) (h1 : (assignEach [tg] X.env).map (·.2) = [assign tg X.env] := by rfl) :
    Ex1 X (.Assign [tg] e pos) env (.nx env2) := fun O H σ F r w D g =>
  ⟨_, ps_asg pe_w pg_w hs hw h1, he.2 O H σ F r w _ fun O1 H1 v Fv F1 ⟨ev, rv⟩ r1 s1 => by
    subst ev
    exact ht.2 O1 H1 σ F1 v rv r1 s1.wf _ fun σ2 F2 r2 s2 p2 _ => g O1 H1 σ2 F2 r2 (s1.trans w s2) ((Pins.of he.1).trans p2)⟩
end
end Lin

end

section
namespace Lin
open PySem PySem.Spec PyProof.Rows L2

/-! ### lists: methods on what a name owns -/
section
variable {X : Cx} {env env1 env2 : Sls} {a b c e : Expr} {es rest : List Expr} {pos p p' apos cpos : Pos} {d x y : D} {m m' : M} {ms : List M} {ds : List D} {n : Str} {s : Sl} {K : PySem.W.Frag} {O : OW} {H : Hp}
theorem ev_append (i : Nat) (ha : EvMs X [e] env [m'] env1) (hi : env1[i]? = some (some s)) (hm : s.m = .lst ms) (hz : ms.length < sizeLine) (hse : ∃ t ms0, env[i]? = some (some t) ∧ t.m = .lst ms0 := by exact ⟨_, _, rfl, rfl⟩) (hN : X.N[i]? = some n := by rfl) (hv : Vis X.env.scope n := by first | exact Or.inl rfl | exact Or.inr (Or.inl rfl) | exact Or.inr (Or.inr rfl))
    (hd : (n == ("__debug__" : Str)) = false := by decide) (hcd : (n == ("__classdict__" : Str)) = false := by decide)
    (hbase : attributeBase (.Name n p) "append" X.env (eval (.Name n p) X.env) = eval (.Name n p) X.env := by rfl)
    (hfew : ((backTo cpos (starEach [e] X.env)).all (fun x => !x.1) && (backToKw cpos (keywordEach [] X.env)).all (fun x => x.1.isSome)
      && decide ([e].length + ([] : List Keyword).length + (if ([] : List Keyword).isEmpty then 0 else 1) < 30)) = true := by rfl)
    (hline : (apos.endLine == cpos.line) = true := by rfl) (hs : starEach [e] X.env = (false, eval e X.env) :: starEach [] X.env := by rfl) (hplain : (backTo cpos (starEach [] X.env)).any (·.1) = false := by rfl) :
    Ev X (.Call (.Attribute (.Name n p) "append" apos) [e] [] cpos) env (.val .none) (env1.set i (some (s.put (.lst (ms ++ [m']))))) :=
  ⟨ha.1.trans (Io.put hi), fun O H σ F r w Q q => ⟨_, pe_bm PySem.F.plainAttrs_list PySem.F.slot_list_append PySem.F.type_list_append mt_append (pe_var hN hv hd hcd) pa_w hbase hfew hline hs hplain, by
    obtain ⟨t, ms0, ht, hm0⟩ := hse
    obtain ⟨v, F1, Fi, F2, e1, ef, rm0, _, _⟩ := RepS.at r ht
    rw [hm0] at rm0
    obtain ⟨l0, xs0, F0, el0, _, hp0, _⟩ := rm0
    refine ⟨v, e1, by rw [el0]; exact .inl ⟨rfl, _, .inl (.inl hp0)⟩, ha.2 O H σ F r w _ fun O1 H1 vs Fm G rml r1 s1 => ?_⟩
    obtain ⟨y, ys, Fa, Fb, ev, efm, ra, en, en2⟩ := rml
    subst en ev
    subst en2 efm
    obtain ⟨v', Fi', e2, rm, kk⟩ := slot_upd r1 hi s1.wf
    have ev : v' = v := by rw [e1] at e2; exact (Option.some.inj (Option.some.inj e2)).symm
    subst ev
    rw [hm] at rm
    obtain ⟨l, xs, F', el, ef', hp, rl⟩ := rm
    obtain ⟨ol, nl, k2⟩ := kk l F' ef'
    have nl1 : l ∉ F' := fun z => nl (List.mem_append_right _ z)
    have nl2 : l ∉ Fa := fun z => nl (List.mem_append_left _ (List.mem_append_left _ z))
    obtain ⟨F2', rs2, s2, _⟩ := k2 (.lst (xs ++ [y])) (.lst (ms ++ [m'])) (F' ++ Fa) [] [] (List.perm_iff_count.mpr fun a => by simp only [List.count_append, List.count_nil]; omega)
      ⟨l, xs ++ [y], F' ++ Fa, el, rfl, upd_same, (rl.updK nl1 ol).snoc (ra.updK nl2 ol)⟩
    exact ⟨l, xs, y, el, rfl, hp, by rw [rl.len]; exact hz, q O1 _ .non [] F2' ⟨rfl, rfl⟩ rs2 (s1.trans w s2)⟩⟩⟩
theorem RepML.erase : ∀ {ms : List M} {xs : List V} {F : List Addr} {k : Nat}, RepML K O H ms xs F → ms[k]? = some m → ∃ y Fy F3, xs[k]? = some y ∧ RepM K O H m y Fy ∧ RepML K O H (ms.eraseIdx k) (xs.eraseIdx k) F3 ∧ F.Perm (F3 ++ Fy)
  | [], _, _, _, _, h => by simp at h
  | m' :: ms, _, _, 0, ⟨v, vs, F1, F2, e, ef, p, q⟩, h => by
    have e' : m' = m := by simpa using h
    subst e e' ef
    exact ⟨v, F1, F2, rfl, p, q, List.perm_append_comm⟩
  | m' :: ms, _, _, k + 1, ⟨v, vs, F1, F2, e, ef, p, q⟩, h => by
    subst e ef
    obtain ⟨y, Fy, F3, h1, h2, h3, h4⟩ := RepML.erase (k := k) q (by simpa using h)
    refine ⟨y, Fy, F1 ++ F3, by simpa using h1, h2, ⟨v, _, F1, F3, rfl, rfl, p, h3⟩, ?_⟩
    rw [List.append_assoc]
    exact h4.append_left F1
theorem ev_popAt (i : Nat) {k : Int} {j : Nat} (ha : Ev X e env (.val (.int k)) env1) (hi : env1[i]? = some (some s)) (hm : s.m = .lst ms) (hk : seqIndex? k ms.length = some j) (hj : ms[j]? = some m) (h1 : -(2 ^ 63) ≤ k) (h2 : k < 2 ^ 63) (hse : ∃ t ms0, env[i]? = some (some t) ∧ t.m = .lst ms0 := by exact ⟨_, _, rfl, rfl⟩) (hN : X.N[i]? = some n := by rfl) (hv : Vis X.env.scope n := by first | exact Or.inl rfl | exact Or.inr (Or.inl rfl) | exact Or.inr (Or.inr rfl))
    (hd : (n == ("__debug__" : Str)) = false := by decide) (hcd : (n == ("__classdict__" : Str)) = false := by decide)
    (hbase : attributeBase (.Name n p) "pop" X.env (eval (.Name n p) X.env) = eval (.Name n p) X.env := by rfl)
    (hfew : ((backTo cpos (starEach [e] X.env)).all (fun x => !x.1) && (backToKw cpos (keywordEach [] X.env)).all (fun x => x.1.isSome)
      && decide ([e].length + ([] : List Keyword).length + (if ([] : List Keyword).isEmpty then 0 else 1) < 30)) = true := by rfl)
    (hline : (apos.endLine == cpos.line) = true := by rfl) (hs : starEach [e] X.env = (false, eval e X.env) :: starEach [] X.env := by rfl) (hplain : (backTo cpos (starEach [] X.env)).any (·.1) = false := by rfl) :
    Ev X (.Call (.Attribute (.Name n p) "pop" apos) [e] [] cpos) env m (env1.set i (some (s.put (.lst (ms.eraseIdx j))))) :=
  ⟨ha.1.trans (Io.put hi), fun O H σ F r w Q q => ⟨_, pe_bm PySem.F.plainAttrs_list PySem.F.slot_list_pop PySem.F.type_list_pop mt_popAt (pe_var hN hv hd hcd) (pa_cons pe_w pa_nil hs) hbase hfew hline hs hplain, by
    obtain ⟨t, ms0, ht, hm0⟩ := hse
    obtain ⟨v, F1, Fi, F2, e1, ef, rm0, _, _⟩ := RepS.at r ht
    rw [hm0] at rm0
    obtain ⟨l0, xs0, F0, el0, _, hp0, _⟩ := rm0
    refine ⟨v, e1, by rw [el0]; exact .inl ⟨rfl, _, .inl (.inl hp0)⟩, ha.2 O H σ F r w _ fun O1 H1 u Fu G ⟨eu, ru⟩ r1 s1 => ?_⟩
    subst eu
    have w1 : Wf O1 H1 ([] ++ G) := s1.wf
    obtain ⟨v', Fi', e2, rm, kk⟩ := slot_upd r1 hi w1
    have ev : v' = v := by rw [e1] at e2; exact (Option.some.inj (Option.some.inj e2)).symm
    subst ev
    rw [hm] at rm
    obtain ⟨l, xs, F', el, ef', hp, rl⟩ := rm
    obtain ⟨ol, nl, k2⟩ := kk l F' ef'
    obtain ⟨y, Fy, F3, hy, ry, rl3, pm⟩ := rl.erase hj
    have nl1 : l ∉ F3 := fun z => nl (pm.mem_iff.mpr (List.mem_append_left _ z))
    obtain ⟨F2', rs2, s2, kp⟩ := k2 (.lst (xs.eraseIdx j)) (.lst (ms.eraseIdx j)) F3 Fy [] (by simpa using pm) ⟨l, xs.eraseIdx j, F3, el, rfl, upd_same, rl3.updK nl1 ol⟩
    exact ⟨l, xs, k, j, y, el, by rw [show u = V.int k from ru], hp, h1, h2, by rw [rl.len]; exact hk, hy, q O1 _ y Fy F2' (kp m y ry) rs2 (s1.trans w s2)⟩⟩⟩
theorem seqIx {k : Int} {n : Nat} (h0 : 0 ≤ k) (h1 : k < n) : seqIndex? k n = some k.toNat := by
  unfold seqIndex?
  simp [show ¬ k < 0 by omega, show 0 ≤ k by omega, show k < (n : Int) by omega]
/-! list, tuple, sorted, str, len .. by values -/
theorem repL_M (h : RepL K O H ds xs) : RepML K O H (ds.map M.val) xs [] := repML_val ds h
theorem rf_new {r : List V → Hp → VK → Prop} {ds es : List D} (h : ∀ (O : OW) (H : Hp) (vs : List V), RepL K O H ds vs → ∃ xs, RepL K O H es xs ∧ ∀ Q : VK, (∀ p, H p = none → Q (.ref p) (upd H p (.lst xs))) → r vs H Q) : RF K r ds (.lst (es.map M.val)) :=
  fun O H w vs rl Q q => by
    obtain ⟨xs, rx, hr⟩ := h O H vs rl
    refine hr Q fun p hp => ?_
    have s0 : Step O H [] (fun a => O a ∨ a = p) (upd H p (.lst xs)) [p] := Step.new (G := []) w hp
    exact q _ _ (.ref p) [p] ⟨p, xs, [], rfl, rfl, upd_same, repML_val _ (RepL.keep (s0.kf w) s0.nw _ rx)⟩ s0
theorem rf_newT {r : List V → Hp → VK → Prop} {ds es : List D} (h : ∀ (O : OW) (H : Hp) (vs : List V), RepL K O H ds vs → ∃ xs, RepL K O H es xs ∧ ∀ Q : VK, (∀ p, H p = none → Q (.ref p) (upd H p (.tup xs))) → r vs H Q) : RF K r ds (.val (.tup es)) :=
  fun O H w vs rl Q q => by
    obtain ⟨xs, rx, hr⟩ := h O H vs rl
    refine hr Q fun p hp => ?_
    have s0 : Step O H [] O (upd H p (.tup xs)) [] := Step.newF w hp
    refine q _ _ (.ref p) [] ⟨rfl, p, xs, rfl, .inl ⟨fun z => ?_, .inl upd_same⟩, RepL.keep (s0.kf w) s0.nw _ rx⟩ s0
    obtain ⟨o, e⟩ := w.dom p z
    rw [hp] at e; cases e
theorem ev_listL (ha : Ev X e env (.val (.lst ds)) env1) (hm : X.mg "list" = none := by assumption) (hg : Gl X "list" := by rfl) (he : starEach [e] X.env = (false, eval e X.env) :: starEach [] X.env := by rfl) (hpl : (backTo pos (starEach [] X.env)).any (·.1) = false := by rfl) : Ev X (.Call (.Name "list" p) [e] [] pos) env (.lst (ds.map M.val)) env1 :=
  ev_cty (ds := [.lst ds]) call_list_of (rf_new fun O H vs ⟨u, us, e, ⟨a, xs, hu, _, hp, rl⟩, hn⟩ => ⟨xs, rl, fun Q q => ⟨a, xs, by rw [e, hu, show us = [] from hn], .inl (.inl (.inl hp)), q⟩⟩) (ea_cons ha ea_nil he) hm (by decide +kernel) hg (by decide) (by decide) he hpl
theorem ev_listT (ha : Ev X e env (.val (.tup ds)) env1) (hm : X.mg "list" = none := by assumption) (hg : Gl X "list" := by rfl) (he : starEach [e] X.env = (false, eval e X.env) :: starEach [] X.env := by rfl) (hpl : (backTo pos (starEach [] X.env)).any (·.1) = false := by rfl) : Ev X (.Call (.Name "list" p) [e] [] pos) env (.lst (ds.map M.val)) env1 :=
  ev_cty (ds := [.tup ds]) call_list_of (rf_new fun O H vs ⟨u, us, e, ⟨a, xs, hu, hp, rl⟩, hn⟩ => ⟨xs, rl, fun Q q => ⟨a, xs, by rw [e, hu, show us = [] from hn], .inr (TupAt.sq hp), q⟩⟩) (ea_cons ha ea_nil he) hm (by decide +kernel) hg (by decide) (by decide) he hpl
theorem ev_listS {ns : List Int} (ha : Ev X e env (.val (.scr ns)) env1) (hm : X.mg "list" = none := by assumption) (hg : Gl X "list" := by rfl) (he : starEach [e] X.env = (false, eval e X.env) :: starEach [] X.env := by rfl) (hpl : (backTo pos (starEach [] X.env)).any (·.1) = false := by rfl) : Ev X (.Call (.Name "list" p) [e] [] pos) env (.lst ((ns.map D.int).map M.val)) env1 :=
  ev_cty (ds := [.scr ns]) call_list_of (rf_new fun O H vs ⟨u, us, e, ⟨a, hu, hp⟩, hn⟩ => ⟨_, repL_ints ns, fun Q q => ⟨a, ns.map V.int, by rw [e, hu, show us = [] from hn], .inl (hp.imp (fun p => p.2) id), q⟩⟩) (ea_cons ha ea_nil he) hm (by decide +kernel) hg (by decide) (by decide) he hpl
theorem ev_tupL (ha : Ev X e env (.val (.lst ds)) env1) (hm : X.mg "tuple" = none := by assumption) (hg : Gl X "tuple" := by rfl) (he : starEach [e] X.env = (false, eval e X.env) :: starEach [] X.env := by rfl) (hpl : (backTo pos (starEach [] X.env)).any (·.1) = false := by rfl) : Ev X (.Call (.Name "tuple" p) [e] [] pos) env (.val (.tup ds)) env1 :=
  ev_cty (ds := [.lst ds]) call_tuple_of (rf_newT fun O H vs ⟨u, us, e, ⟨a, xs, hu, _, hp, rl⟩, hn⟩ => ⟨xs, rl, fun Q q => ⟨a, xs, by rw [e, hu, show us = [] from hn], .inl ⟨.inl (.inl hp), q⟩⟩⟩) (ea_cons ha ea_nil he) hm (by decide +kernel) hg (by decide) (by decide) he hpl
theorem perm_sorted_eq {l1 l2 : List Int} (p : l1.Perm l2) (h1 : l1.Pairwise (· ≤ ·)) (h2 : l2.Pairwise (· ≤ ·)) : l1 = l2 := p.eq_of_pairwise (fun a b _ _ h1 h2 => Int.le_antisymm h1 h2) h1 h2
theorem ev_sortedI {ns ns0 : List Int} (ha : Ev X e env (.val (.lst (ns.map D.int))) env1) (hp : ns0.Perm ns) (hs : ns0.Pairwise (· ≤ ·)) (hm : X.mg "sorted" = none := by assumption) (hg : Gl X "sorted" := by rfl) (he : starEach [e] X.env = (false, eval e X.env) :: starEach [] X.env := by rfl) (hpl : (backTo pos (starEach [] X.env)).any (·.1) = false := by rfl) : Ev X (.Call (.Name "sorted" p) [e] [] pos) env (.lst ((ns0.map D.int).map M.val)) env1 :=
  ev_cbi (ds := [.lst (ns.map D.int)]) cr_sortedI (rf_new fun O H vs ⟨u, us, e, ⟨a, xs, hu, _, ha, rl⟩, hn⟩ => ⟨_, repL_ints ns0, fun Q q => ⟨a, ns, by rw [e, hu, show us = [] from hn], .inl (.inl (by rw [← RepL.ints ns rl]; exact ha)), fun ns' p pm pw hp' => by
    rw [perm_sorted_eq (pm.trans hp.symm) pw hs]
    exact q p hp'⟩⟩) (ea_cons ha ea_nil he) hm (by decide +kernel) hg (by decide) (by decide) he hpl
theorem ev_strI {k : Int} (ha : Ev X e env (.val (.int k)) env1) (hk : k.natAbs.log2 < 1920) (hm : X.mg "str" = none := by assumption) (hg : Gl X "str" := by rfl) (he : starEach [e] X.env = (false, eval e X.env) :: starEach [] X.env := by rfl) (hpl : (backTo pos (starEach [] X.env)).any (·.1) = false := by rfl) : Ev X (.Call (.Name "str" p) [e] [] pos) env (.val (.str (toString k))) env1 :=
  ev_cty (ds := [.int k]) call_str_int (rf_val fun O H vs Q ⟨u, us, e, hu, hn⟩ q => ⟨k, by rw [e, show u = V.int k from hu, show us = [] from hn], hk, q _ rfl⟩) (ea_cons ha ea_nil he) hm (by decide +kernel) hg (by decide) (by decide) he hpl
theorem ev_intB {k : Bool} (ha : Ev X e env (.val (.bool k)) env1) (hm : X.mg "int" = none := by assumption) (hg : Gl X "int" := by rfl) (he : starEach [e] X.env = (false, eval e X.env) :: starEach [] X.env := by rfl) (hpl : (backTo pos (starEach [] X.env)).any (·.1) = false := by rfl) : Ev X (.Call (.Name "int" p) [e] [] pos) env (.val (.int (if k then 1 else 0))) env1 :=
  ev_cty (ds := [.bool k]) call_int1 (rf_val fun O H vs Q ⟨u, us, e, hu, hn⟩ q => .inr ⟨k, by rw [e, show u = V.bl k from hu, show us = [] from hn], q _ rfl⟩) (ea_cons ha ea_nil he) hm boot_int hg (by decide) (by decide) he hpl
/-! texts -/
theorem op_mul_str : OpR X (binaryOp .Mult) (fun x y H Q => ∃ (z : Str) (i : Int), x = .str z ∧ y = .int i ∧ MulOk z i ∧ Q (.str (Txt.mul z i)) H) := by
  intro pins s σ H x y v u Q I rx ry h
  obtain ⟨z, i, rfl, rfl, hz, q⟩ := h
  obtain ⟨t, rfl⟩ := rx
  obtain ⟨t', rfl⟩ := ry
  exact SB.mul hz fun t' k => ⟨.str _, H, I.tok _, ⟨_, rfl⟩, q⟩
theorem ev_mulS {z : Str} {i : Int} (ha : Ev X a env (.val (.str z)) env1) (hb : Ev X b env1 (.val (.int i)) env2) (hz : MulOk z i) : Ev X (.BinOp a .Mult b pos) env (.val (.str (Txt.mul z i))) env2 := ev_bin op_mul_str ha hb (ro_val fun O H u v Q hu hv q => ⟨z, i, hu, hv, hz, q _ rfl⟩)
theorem ev_addS {z w : Str} (ha : Ev X a env (.val (.str z)) env1) (hb : Ev X b env1 (.val (.str w)) env2) (hz : z.length + w.length ≤ sizeLine) : Ev X (.BinOp a .Add b pos) env (.val (.str (z ++ w))) env2 := ev_bin op_add_str ha hb (ro_val fun O H u v Q hu hv q => ⟨z, w, hu, hv, hz, q _ rfl⟩)
theorem ev_ixS {z : Str} {i : Int} {c : Nat} (ha : Ev X a env (.val (.str z)) env1) (hb : Ev X b env1 (.val (.int i)) env2) (hz : z.length ≤ sizeLine) (hc : L2.atI z.cps.toList i = some c) (hs : PlainIx b := by exact fun _ _ => rfl) : Ev X (.Subscript a b pos) env (.val (.str ⟨#[c]⟩)) env2 := ev_ix ix_str ha hb (ro_val fun O H u v Q hu hv q => ⟨z, i, c, hu, hv, hz, hc, q _ rfl⟩) hs
theorem repL_strs : ∀ (ns : List Str), RepL K O H (ns.map D.str) (ns.map V.str)
  | [] => rfl
  | n :: ns => ⟨_, _, rfl, rfl, repL_strs ns⟩
theorem RepL.strs : ∀ (ns : List Str) {xs : List V}, RepL K O H (ns.map D.str) xs → xs = ns.map V.str
  | [], _, h => h
  | n :: ns, _, ⟨v, vs, e, p, q⟩ => by rw [e, show v = V.str n from p, RepL.strs ns q]; rfl
theorem ev_join {z : Str} {ys : List Str} (ha : Ev X a env (.val (.str z)) env1) (hb : Ev X b env1 (.val (.lst (ys.map D.str))) env2) (hz : (ys.map (·.length)).sum + ys.length * z.length ≤ 16777216) (hs : starEach [b] X.env = [(false, eval b X.env)] := by rfl) (hbase : attributeBase a "join" X.env (eval a X.env) = eval a X.env := by rfl) (hline : (apos.endLine == pos.line) = true := by rfl) :
    Ev X (.Call (.Attribute a "join" apos) [b] [] pos) env (.val (.str (Txt.join z ys))) env2 :=
  ⟨ha.1.trans hb.1, fun O H σ F rs w Q q => ⟨_, pe_join pe_w pe_w hs hbase hline, ha.2 O H σ F rs w _ fun O1 H1 u Fu F1 ⟨eu, ru⟩ r1 s1 => by
    subst eu
    refine ⟨⟨z, ru⟩, hb.2 O1 H1 σ F1 r1 s1.wf _ fun O2 H2 v Fv F2 ⟨ev, rv⟩ r2 s2 => ?_⟩
    subst ev
    obtain ⟨a', xs, hv, _, hp, rl⟩ := rv
    exact ⟨z, a', ys, ru, by rw [hv], .inl (.inl (.inl (by rw [← RepL.strs ys rl]; exact hp))), hz, q O2 H2 _ [] F2 ⟨rfl, rfl⟩ r2 (s1.trans w s2)⟩⟩⟩
theorem ev_split {z t : Str} (ha : Ev X a env (.val (.str z)) env1) (hb : Ev X b env1 (.val (.str t)) env2) (ht : (t.length == 0) = false) (hz : z.length + 2 ≤ sizeLine) (hs : starEach [b] X.env = [(false, eval b X.env)] := by rfl) (hbase : attributeBase a "split" X.env (eval a X.env) = eval a X.env := by rfl) (hline : (apos.endLine == pos.line) = true := by rfl) :
    Ev X (.Call (.Attribute a "split" apos) [b] [] pos) env (.lst (((Txt.split z t).map D.str).map M.val)) env2 :=
  ⟨ha.1.trans hb.1, fun O H σ F rs w Q q => ⟨_, pe_split pe_w pe_w hs hbase hline, ha.2 O H σ F rs w _ fun O1 H1 u Fu F1 ⟨eu, ru⟩ r1 s1 => by
    subst eu
    refine ⟨⟨z, ru⟩, hb.2 O1 H1 σ F1 r1 s1.wf _ fun O2 H2 v Fv F2 ⟨ev, rv⟩ r2 s2 => ?_⟩
    subst ev
    refine ⟨z, t, ru, by rw [show v = V.str t from rv], ht, hz, fun p hp => ?_⟩
    have s0 : Step O2 H2 [] (fun a => O2 a ∨ a = p) (upd H2 p (.lst ((Txt.split z t).map V.str))) [p] := Step.new (G := []) s2.wf.nil hp
    exact q _ _ (.ref p) [p] F2 ⟨p, _, [], rfl, rfl, upd_same, repML_val _ (repL_strs _)⟩ (r2.quiet s0) ((s1.trans w s2).trans w (s0.quiet s2.wf))⟩⟩
end
end Lin

end

section
set_option maxHeartbeats 4000000
namespace Lin
open PySem PySem.Spec PyProof.Rows L2
section
variable {X : Cx}
/-- name = {a dict comprehension}, the name a local -/
theorem ps_setDc {i : Nat} {y : Str} {py pos spos : Pos} {kx vx tg iter : Expr} {ifs : List Expr} {scope : Scope} {own : List (Str × Nat)} {wi : TI} {g : TG} {tt : TT} {tk tv : TE} (calm : X.calm = true) (nd : X.N.Nodup) (yi : X.N[i]? = some y) (loc : X.env.scope.names.lookup y = some .local)
    (sw : swapsWith (.DictComp kx vx [⟨tg, iter, ifs, 0⟩] scope pos) (some (.Name y py)) spos.line X.env = pure true) (ii : PI X tg iter wi) (ok : BlkOk X.N X.env.scope scope own)
    (gg : ∀ s H C cl fp, PG (X.blk s H scope (compEnvC scope cl C X.env) fp) tg g) (gt : ∀ s H C cl fp, PTs (X.blk s H scope (compEnvC scope cl C X.env) fp) ifs tt) (gk : ∀ s H C cl fp, PE (X.blk s H scope (compEnvC scope cl C X.env) fp) kx tk) (gv : ∀ s H C cl fp, PE (X.blk s H scope (compEnvC scope cl C X.env) fp) vx tv)
    (fold : ∀ x, foldedSetIterable iter X.env x = pure x := by intro _; rfl) : PS X (.Assign [.Name y py] (.DictComp kx vx [⟨tg, iter, ifs, 0⟩] scope pos) spos) (tAsg (tDc wi g tt tk tv (own.map (·.2))) (gName i)) := by
  constructor
  intro pins s σ H D I wish
  rw [exec_Assign_Name_used _ _ _ _ sw]
  refine wpAny_bind (wpAny_standAt (wpAny_bind ?_))
  change wpAny _ X.A (comprehension (.DictComp kx vx [⟨tg, iter, ifs, 0⟩] scope pos) scope X.env (firstIterPos [⟨tg, iter, ifs, 0⟩] pos) newDict false (eval iter X.env) (some (assign (.Name y py) X.env)) >>= fun _ => pure ()) _ _ s
  have wish2 : tDc wi g tt tk tv (own.map (·.2)) σ H (fun x H1 => gName i x σ H1 D.nx) := wish
  have core := dc_core (pos := pos) (pos' := firstIterPos [⟨tg, iter, ifs, 0⟩] pos) (use := some (assign (.Name y py) X.env)) (Qf := fun _ t => SP X pins D .next t) calm nd I ii ok gg gt gk gv fold wish2 fun L C t m H2 I2 q ns fr => by
    change wpAny _ _ (assign (.Name y py) X.env (.ref L)) _ _ _
    obtain ⟨f0, f1, f2, f3, f4, f5⟩ := fr
    refine wpAny_assign_Name (store_ok2 (v := V.ref L) I2 nd yi (.inl loc) rfl (fun t2 I3 ⟨a, sb, ha⟩ => ?_) (.inr loc))
    have off : C ≠ a := ha.elim (fun z => z ▸ f1) fun z e => f4 y a z e.symm
    exact ⟨m, ns.sameBut sb off, fun h3 sb3 => ⟨_, H2, I3.turned (t' := t2.toks) (fun b o hb e => (sb3.2 b hb).trans e) f0 f1 f3 f4 f5, q⟩⟩
  exact wpAny_bind (thn core fun _ t hq => wpAny_pure (wpAny_pure hq))
end
end Lin

end

section
set_option maxHeartbeats 4000000
namespace Lin
open PySem PySem.Spec PyProof.Rows L2

/-! sorted(a tuple of ints) -/
section
variable {prog : Program} {w : World} {A : Around} {E : Value → Shared → Prop} {s : Shared}
/-- the items of a tuple, gathered in a list -/
theorem gather {it : Addr} {vs : List Value} {Q : List Value → Shared → Prop} (hl : IsTup s.heap it vs.toArray) (hz : vs.length ≤ sizeLine)
    (k : Q vs { s with heap := (s.heap.push (seqObj "list" #[] 0)).update s.heap.objs.size (Obj.mapSeq (· ++ vs.toArray)) }) : wpAny (model prog w) A (collect (.ref it)) Q E s := by
  obtain ⟨o, ho, hc, n, hd⟩ := hl
  have hS : (s.heap.push (seqObj "list" #[] 0)).get? s.heap.objs.size = some (seqObj "list" #[] 0) := Heap.get?_push_size _ rfl
  have hU : ((s.heap.push (seqObj "list" #[] 0)).update s.heap.objs.size (Obj.mapSeq (· ++ vs.toArray))).get? s.heap.objs.size = some (Obj.mapSeq (· ++ vs.toArray) (seqObj "list" #[] 0)) := Heap.get?_update_self _ hS rfl
  unfold collect
  refine wpAny_bind (wpAny_runValue (codeAny_builtin F.entry_proto_collect ?_))
  rw [Around.under_plainId F.plain_proto_collect]
  change wpAny (model prog w) A.in1 (newList [] >>= fun l => again (.builtin "list.__iadd__" ⟨[l, .ref it], []⟩)) _ _ s
  refine wpAny_bind (wpAny_newObj_type (wpAny_pure ⟨plainId_quiet F.plain_list_iadd _, codeAny_builtin F.entry_list_iadd ?_⟩))
  rw [Around.under_plainId F.plain_list_iadd]
  change wpAny (model prog w) A.in1 (Builtin.List.listExtendWith (.ref s.heap.objs.size) (.ref it) (.ref s.heap.objs.size)) _ _ { s with heap := s.heap.push (seqObj "list" #[] 0) }
  have step := wpAny_extend_seq (prog := prog) (w := w) (A := A) (s := { s with heap := s.heap.push (seqObj "list" #[] 0) }) s.heap.objs.size it (.ref s.heap.objs.size) 0 (T := "tuple") (o := o) (items := vs.toArray) (n := n) (.inr rfl) hS (Heap.get?_push_of_some _ ho) hc hd
    (R := fun r t => r = .ok (.ret (.ref s.heap.objs.size)) ∧ t = { s with heap := (s.heap.push (seqObj "list" #[] 0)).update s.heap.objs.size (Obj.mapSeq (· ++ vs.toArray)) }) ⟨rfl, rfl⟩ (by simpa using hz)
  have done : wpAny (model prog w) A (load s.heap.objs.size >>= fun o => match o.data with
      | .seq xs _ => pure xs.toList
      | _ => unsupported "internal:collect") Q E { s with heap := (s.heap.push (seqObj "list" #[] 0)).update s.heap.objs.size (Obj.mapSeq (· ++ vs.toArray)) } := by
    refine wpAny_bind (wpAny_load hU ?_)
    change wpAny (model prog w) A (pure ((#[] : Array Value) ++ vs.toArray).toList) Q E _
    have e : ((#[] : Array Value) ++ vs.toArray).toList = vs := by simp
    rw [e]
    exact wpAny_pure k
  refine wpAny_mono step (fun fin t h => ?_) fun e t h => ?_
  · cases fin with
    | done f =>
      obtain ⟨e1, rfl⟩ := h
      cases e1
      exact done
    | again c =>
      refine ⟨h.1, codeAny_mono h.2 fun r t2 h2 => ?_⟩
      obtain ⟨rfl, rfl⟩ := h2
      exact done
  · exact absurd h.1 (by simp)
end
/-- sorted of a tuple of ints -/
def rSortTI (K : PySem.W.Frag) : List V → Hp → VK → Prop := fun vs H Q => ∃ (a : Addr) (ns : List Int), vs = [V.ref a] ∧ SqT K H a (ns.map V.int) ∧
  ∀ (ms : List Int) (p : Addr), ms.Perm ns → ms.Pairwise (· ≤ ·) → H p = none → Q (.ref p) (upd H p (.lst (ms.map V.int)))
theorem cr_sortTI {X : Cx} : CallR X (.builtin "sorted") (rSortTI X.K) := by
  intro pins s σ H vs us Q I r h
  obtain ⟨a, ns, rfl, hs, q⟩ := h
  obtain ⟨its, rv, hl, hz⟩ := I.tuple hs
  have hz2 : its.length ≤ sizeLine := by rw [← rv.length]; exact hz
  have hi := rv.ints
  rw [Vals.ref1 r]
  refine Calls.call_function_entry kind_sorted plain_sorted entry_sorted (args_sorted1 _) ?_
  unfold Builtin.«sorted»
  refine wpAny_bind (m := checkCount "sorted" 1 1 _) (wpAny_pure (wpAny_bind (gather hl hz2 (wpAny_bind (wpAny_newList ?_ hz2)))))
  have size1 : ((s.heap.push (seqObj "list" #[] 0)).update s.heap.objs.size (Obj.mapSeq (· ++ its.toArray))).objs.size = s.heap.objs.size + 1 := (Heap.size_update ..).trans (size_push' ..)
  change wpAny _ _ _ _ _ { s with heap := PySem.W.copyHeap s.heap its }
  rw [size1]
  have h0 := PySem.W.copyHeap_at s.heap its
  refine wpAny_bind (wpAny_holding (wpAny_call_entry slot_list_sort ⟨_, h0, rfl⟩ entry_list_sort (SrtO.list_sort_ord SrtO.swo_int h0 hz2 (fun h2 => SrtO.ints_sortable hi h2) fun out g1 g2 => ⟨_, rfl, wpAny_pure ⟨_, rfl, ?_⟩⟩) (args_list_sort _)))
  obtain ⟨k1, k2, k3⟩ := SrtO.ints_out hi g1 g2
  obtain ⟨ep, at1⟩ := PyProof.Rows.sortedAll_at s.heap its out.toArray
  have len : ((out.map SrtO.iv).map V.int).length ≤ sizeLine := by
    rw [List.length_map, k2.length_eq, ← List.length_map (f := V.int)]
    exact hz
  exact ⟨.ref (s.heap.objs.size + 1), upd H (s.heap.objs.size + 1) (.lst ((out.map SrtO.iv).map V.int)), I.laid (t' := s.toks) (fun _ _ => PyProof.Rows.sortedAll_old) (Nat.le_succ _) ⟨len, out, ep, vals_of_ints k1, at1⟩, rfl, q _ _ k2 k3 (I.hok.fresh (Nat.le_succ _))⟩
end Lin

end

section
namespace Lin
open PySem PySem.Spec PyProof.Rows L2

/-! ### slices -/
def cutD {α : Type} (ds : List α) (lo hi : Option Int) : List α := (ds.drop (HT.sIx ds.length 0 lo)).take (HT.sIx ds.length ds.length hi - HT.sIx ds.length 0 lo)
section
variable {K : PySem.W.Frag} {O : OW} {H : Hp}
theorem RepL.drop : ∀ {ds : List D} {xs : List V} (k : Nat), RepL K O H ds xs → RepL K O H (ds.drop k) (xs.drop k)
  | ds, xs, 0, h => h
  | [], _, k + 1, h => by rw [show _ = [] from h]; rfl
  | d :: ds, _, k + 1, ⟨v, vs, e, p, q⟩ => by rw [e]; exact RepL.drop k q
theorem RepL.take : ∀ {ds : List D} {xs : List V} (k : Nat), RepL K O H ds xs → RepL K O H (ds.take k) (xs.take k)
  | ds, xs, 0, h => rfl
  | [], _, k + 1, h => by rw [show _ = [] from h]; rfl
  | d :: ds, _, k + 1, ⟨v, vs, e, p, q⟩ => by rw [e]; exact ⟨v, _, rfl, p, RepL.take k q⟩
theorem RepL.cut {ds : List D} {xs : List V} (lo hi : Option Int) (h : RepL K O H ds xs) : RepL K O H (cutD ds lo hi) (cutV xs lo hi) := by
  unfold cutD cutV
  rw [h.len]
  exact (h.drop _).take _
end
theorem cutV_ints (ns : List Int) (lo hi : Option Int) : cutV (ns.map V.int) lo hi = (cutD ns lo hi).map V.int := by
  unfold cutD cutV
  rw [List.length_map, List.map_take, List.map_drop]
def wO (X : Cx) (e : Option Expr) : TO := fun σ H Q => ∃ t, PO X e t ∧ t σ H Q
theorem po_w {X : Cx} {e : Option Expr} : PO X e (wO X e) := ⟨fun pins s σ H Q I ⟨t, p, h⟩ => p.run pins s σ H Q I h⟩
def PoE (X : Cx) (e : Option Expr) (env : Sls) (l : Option Int) (env' : Sls) : Prop := Io env env' ∧
  ∀ (O : OW) (H : Hp) (σ : L2.St) (F : List Addr), RepS X.K O H env σ F → Wf O H F → ∀ Q : Option Int → Hp → Prop,
    (∀ (O' : OW) (H' : Hp) (F' : List Addr), RepS X.K O' H' env' σ F' → Step O H F O' H' F' → Q l H') → wO X e σ H Q
section
variable {X : Cx} {env env1 env2 env3 : Sls} {a b c e : Expr} {es rest : List Expr} {pos p p2 p' apos cpos : Pos} {d x y : D} {m m' : M} {ms : List M} {ds es' : List D} {n : Str} {s : Sl} {K : PySem.W.Frag} {O : OW} {H : Hp} {lo hi : Option Expr} {l u : Option Int} {i : Int}
theorem po_no : PoE X none env none env := ⟨Io.refl _, fun O H σ F r w Q q => ⟨_, po_none, q O H F r (Step.refl w)⟩⟩
theorem po_ev (h : Ev X e env (.val (.int i)) env1) : PoE X (some e) env (some i) env1 := ⟨h.1, fun O H σ F r w Q q => ⟨_, po_some pe_w, h.2 O H σ F r w _ fun O1 H1 v Fv F1 ⟨ev, rv⟩ r1 s1 => by
  subst ev
  exact ⟨i, rv, q O1 H1 F1 r1 s1⟩⟩⟩
theorem ev_slL (ha : Ev X e env (.val (.lst ds)) env1) (hl : PoE X lo env1 l env2) (hu : PoE X hi env2 u env3) : Ev X (.Subscript e (.Slice lo hi none p2) pos) env (.lst ((cutD ds l u).map M.val)) env3 :=
  ⟨(ha.1.trans hl.1).trans hu.1, fun O H σ F r w Q q => ⟨_, pe_slice sl_list pe_w po_w po_w, ha.2 O H σ F r w _ fun O1 H1 v Fv F1 ⟨ev, rv⟩ r1 s1 => by
    subst ev
    refine hl.2 O1 H1 σ F1 r1 s1.wf _ fun O2 H2 F2 r2 s2 => hu.2 O2 H2 σ F2 r2 s2.wf _ fun O3 H3 F3 r3 s3 => ?_
    have s12 := s2.trans s1.wf s3
    obtain ⟨a, xs, ea, no, hp, rl⟩ := s12.rep s1.wf rv
    refine ⟨a, xs, ea, .inl (.inl hp), fun p hp => ?_⟩
    have s0 : Step O3 H3 [] (fun a => O3 a ∨ a = p) (upd H3 p (.lst (cutV xs l u))) [p] := Step.new (G := []) s3.wf.nil hp
    exact q _ _ (.ref p) [p] F3 ⟨p, _, [], rfl, rfl, upd_same, repML_val _ (RepL.keep (s0.kf s3.wf.nil) s0.nw _ (rl.cut l u))⟩ (r3.quiet s0) ((s1.trans w s12).trans w (s0.quiet s3.wf))⟩⟩
theorem ev_slS {ns : List Int} (ha : Ev X e env (.val (.scr ns)) env1) (hl : PoE X lo env1 l env2) (hu : PoE X hi env2 u env3) : Ev X (.Subscript e (.Slice lo hi none p2) pos) env (.lst (((cutD ns l u).map D.int).map M.val)) env3 :=
  ⟨(ha.1.trans hl.1).trans hu.1, fun O H σ F r w Q q => ⟨_, pe_slice sl_list pe_w po_w po_w, ha.2 O H σ F r w _ fun O1 H1 v Fv F1 ⟨ev, rv⟩ r1 s1 => by
    subst ev
    refine hl.2 O1 H1 σ F1 r1 s1.wf _ fun O2 H2 F2 r2 s2 => hu.2 O2 H2 σ F2 r2 s2.wf _ fun O3 H3 F3 r3 s3 => ?_
    have s12 := s2.trans s1.wf s3
    obtain ⟨a, ea, hp⟩ := s12.rep s1.wf rv
    refine ⟨a, ns.map V.int, ea, hp.imp (fun p => p.2) id, fun p hp => ?_⟩
    rw [cutV_ints]
    have s0 : Step O3 H3 [] (fun a => O3 a ∨ a = p) (upd H3 p (.lst ((cutD ns l u).map V.int))) [p] := Step.new (G := []) s3.wf.nil hp
    exact q _ _ (.ref p) [p] F3 ⟨p, _, [], rfl, rfl, upd_same, repML_val _ (repL_ints _)⟩ (r3.quiet s0) ((s1.trans w s12).trans w (s0.quiet s3.wf))⟩⟩
theorem cutD_all {α : Type} {xs : List α} (h : HT.sIx xs.length 0 l = 0 ∧ HT.sIx xs.length xs.length u = xs.length) : cutD xs l u = xs := by
  unfold cutD
  rw [h.1, h.2, List.drop_zero, Nat.sub_zero, List.take_length]
theorem ev_slT (ha : Ev X e env (.val (.tup ds)) env1) (hl : PoE X lo env1 l env2) (hu : PoE X hi env2 u env3) : Ev X (.Subscript e (.Slice lo hi none p2) pos) env (.val (.tup (cutD ds l u))) env3 :=
  ⟨(ha.1.trans hl.1).trans hu.1, fun O H σ F r w Q q => ⟨_, pe_slice sl_tupA pe_w po_w po_w, ha.2 O H σ F r w _ fun O1 H1 v Fv F1 ⟨ev, rv⟩ r1 s1 => by
    subst ev
    refine hl.2 O1 H1 σ F1 r1 s1.wf _ fun O2 H2 F2 r2 s2 => hu.2 O2 H2 σ F2 r2 s2.wf _ fun O3 H3 F3 r3 s3 => ?_
    have s12 := s2.trans s1.wf s3
    obtain ⟨a, xs, ea, ta, rl⟩ := s12.rep s1.wf rv
    refine ⟨a, xs, ea, TupAt.sq ta, fun hall => ?_, fun _ p hp => ?_⟩
    · rw [rl.len] at hall
      rw [cutD_all hall] at q
      exact q O3 H3 _ [] F3 ⟨rfl, a, xs, rfl, ta, rl⟩ r3 (s1.trans w s12)
    · have s0 : Step O3 H3 [] O3 (upd H3 p (.tup (cutV xs l u))) [] := Step.newF s3.wf.nil hp
      refine q _ _ (.ref p) [] F3 ⟨rfl, p, _, rfl, .inl ⟨fun z => ?_, .inl upd_same⟩, RepL.keep (s0.kf s3.wf.nil) s0.nw _ (rl.cut l u)⟩ (r3.quiet s0) ((s1.trans w s12).trans w (s0.quiet s3.wf))
      obtain ⟨o, e⟩ := s3.wf.dom p z
      rw [hp] at e; cases e⟩⟩
/-- tuple + tuple -/
theorem ro_catT (hz : ds.length + es'.length ≤ sizeLine) : RO K (rCatA K) (.tup ds) (.tup es') (.val (.tup (ds ++ es'))) :=
  fun O H w u v ⟨a, xs, eu, ha, ra⟩ ⟨b, ys, ev, hb, rb⟩ Q q => ⟨a, b, xs, ys, eu, ev, TupAt.sq ha, TupAt.sq hb, by rw [ra.len, rb.len]; exact hz, fun e => by
      subst e
      have e2 : ds = [] := List.length_eq_zero_iff.mp (by rw [← ra.len]; rfl)
      subst e2
      exact q O H _ [] ⟨rfl, b, ys, rfl, hb, rb⟩ (Step.refl w), fun _ e => by
      subst e
      have e2 : es' = [] := List.length_eq_zero_iff.mp (by rw [← rb.len]; rfl)
      subst e2
      rw [List.append_nil] at q
      exact q O H _ [] ⟨rfl, a, xs, rfl, ha, ra⟩ (Step.refl w), fun _ _ p hp => by
      have s0 : Step O H [] O (upd H p (.tup (xs ++ ys))) [] := Step.newF w hp
      refine q O _ _ [] ⟨rfl, p, _, rfl, .inl ⟨fun z => ?_, .inl upd_same⟩, RepL.keep (s0.kf w) s0.nw _ (ra.app rb)⟩ s0
      obtain ⟨o, e⟩ := w.dom p z
      rw [hp] at e; cases e⟩
theorem ev_catT (ha : Ev X a env (.val (.tup ds)) env1) (hb : Ev X b env1 (.val (.tup es')) env2) (hz : ds.length + es'.length ≤ sizeLine) : Ev X (.BinOp a .Add b pos) env (.val (.tup (ds ++ es'))) env2 := ev_bin op_catA ha hb (ro_catT hz)

/-! ### dicts of frozen things -/
/-- what stands under k -/
def getD (ks : List Key) (ds : List D) (k : Key) : Option D := ((ks.zip ds).find? fun kv => decide (kv.1 = k)).map (·.2)
theorem rep_val {k : Key} : ∀ {kvs : List (Key × V)} {ks : List Key} {ds : List D}, kvs.map (·.1) = ks → RepL K O H ds (kvs.map (·.2)) → (∃ d v, getD ks ds k = some d ∧ valV kvs k = some v ∧ Rep K O H d v) ∨ (getD ks ds k = none ∧ valV kvs k = none)
  | [], _, ds, e, r => by
    subst e
    have e2 : ds = [] := List.length_eq_zero_iff.mp (by rw [← RepL.len r]; rfl)
    subst e2
    exact .inr ⟨rfl, rfl⟩
  | kv :: kvs, _, [], e, r => by cases (show kv.2 :: kvs.map (·.2) = [] from r)
  | kv :: kvs, _, d :: ds, e, ⟨v, vs, ev, rd, rr⟩ => by
    subst e
    obtain ⟨e1, e2⟩ := List.cons.inj (show kv.2 :: kvs.map (·.2) = v :: vs from ev)
    by_cases h : kv.1 = k
    · exact .inl ⟨d, v, by simp [getD, List.find?_cons, h], by rw [valV_pos h, e1], rd⟩
    · have z := rep_val (k := k) (kvs := kvs) (ks := kvs.map (·.1)) (ds := ds) rfl (by rw [e2]; exact rr)
      rw [valV_neg h]
      rcases z with ⟨d', v', h1, h2, h3⟩ | ⟨h1, h2⟩
      · exact .inl ⟨d', v', by simpa [getD, List.find?_cons, h] using h1, h2, h3⟩
      · exact .inr ⟨by simpa [getD, List.find?_cons, h] using h1, h2⟩
/-- a key as a datum -/
def kD : Key → D
  | .inl i => .int i
  | .inr x => .str x
theorem rep_kD {k : Key} {v : V} (h : Rep K O H (kD k) v) : v = kV k := by
  cases k with
  | inl i => exact h
  | inr x => exact h
theorem ev_dget {ks : List Key} {k : Key} (ha : Ev X a env (.val (.dK ks ds)) env1) (hb : Ev X b env1 (.val (kD k)) env2) (hk : getD ks ds k = some d) (hu : X.A.units + 1 < cLine) (hs : NoSl b := by exact fun _ _ => rfl) : Ev X (.Subscript a b pos) env (.val d) env2 :=
  ⟨ha.1.trans hb.1, fun O H σ F rs w Q q => ⟨_, pe_dget hu pe_w pe_w hs, two ha hb rs w (R := fun u v H' => ∃ a r, u = V.ref a ∧ DGet H' a v (some r) ∧ Q r H') fun O' H' u v F' ru rv r' s' => by
    obtain ⟨a', kvs, ea, no, hp, hks, rl⟩ := ru
    have ev := rep_kD rv
    subst ev
    rcases rep_val (k := k) hks rl with ⟨d', v', h1, h2, h3⟩ | ⟨h1, _⟩
    · rw [hk] at h1; cases h1
      exact ⟨a', v', ea, .inl ⟨kvs, k, hp, rfl, h2.symm⟩, q O' H' v' [] F' ⟨rfl, h3⟩ r' s'⟩
    · rw [hk] at h1; cases h1⟩⟩
theorem dget_of {ks : List Key} {k : Key} {a' : Addr} {kvs : List (Key × V)} (hp : Rd H a' (.dK kvs)) (hks : kvs.map (·.1) = ks) (rl : RepL K O H ds (kvs.map (·.2))) : ∃ o, DGet H a' (kV k) o ∧ o.isSome = (getD ks ds k).isSome := by
  refine ⟨valV kvs k, .inl ⟨kvs, k, hp, rfl, rfl⟩, ?_⟩
  rcases rep_val (k := k) hks rl with ⟨d', v', h1, h2, h3⟩ | ⟨h1, h2⟩
  · rw [h1, h2]; rfl
  · rw [h1, h2]; rfl
theorem tv_dnotin {ks : List Key} {k : Key} (ha : Ev X a env (.val (kD k)) env1) (hb : Ev X b env1 (.val (.dK ks ds)) env2) (hu : X.A.units + 1 < cLine) (hm : behindInMarks .NotIn b = false := by first | exact nobehind _ (by decide) (by decide) | rfl) : Tv X (.Compare a [.NotIn] [b] pos) env (!(getD ks ds k).isSome) env2 :=
  ⟨ha.1.trans hb.1, fun O H σ F rs w Q q => ⟨_, pt_cmp (pc_dnotin hu pe_w pe_w) hm, two ha hb rs w (R := fun u v H' => ∃ a o, v = V.ref a ∧ DGet H' a u o ∧ ∃ b, V.bl (!o.isSome) = .bl b ∧ Q b H') fun O' H' u v F' ru rv r' s' => by
    obtain ⟨a', kvs, ea, no, hp, hks, rl⟩ := rv
    have ev := rep_kD ru
    subst ev
    obtain ⟨o, h1, h2⟩ := dget_of (k := k) hp hks rl
    exact ⟨a', o, ea, h1, _, rfl, by rw [h2]; exact q O' H' F' r' s'⟩⟩⟩
theorem tv_din {ks : List Key} {k : Key} (ha : Ev X a env (.val (kD k)) env1) (hb : Ev X b env1 (.val (.dK ks ds)) env2) (hu : X.A.units + 1 < cLine) (hm : behindInMarks .In b = false := by first | exact nobehind _ (by decide) (by decide) | rfl) : Tv X (.Compare a [.In] [b] pos) env ((getD ks ds k).isSome) env2 :=
  ⟨ha.1.trans hb.1, fun O H σ F rs w Q q => ⟨_, pt_cmp (pc_din hu pe_w pe_w) hm, two ha hb rs w (R := fun u v H' => ∃ a o, v = V.ref a ∧ DGet H' a u o ∧ ∃ b, V.bl (o.isSome) = .bl b ∧ Q b H') fun O' H' u v F' ru rv r' s' => by
    obtain ⟨a', kvs, ea, no, hp, hks, rl⟩ := rv
    have ev := rep_kD ru
    subst ev
    obtain ⟨o, h1, h2⟩ := dget_of (k := k) hp hks rl
    exact ⟨a', o, ea, h1, _, rfl, by rw [h2]; exact q O' H' F' r' s'⟩⟩⟩
end
end Lin

end

section
namespace Lin
open PySem PySem.Spec PyProof.Rows L2

/-! ### dict comprehensions of frozen things -/
def putD (kvs : List (Key × D)) (k : Key) (v : D) : List (Key × D) :=
  if (kvs.any fun kv => decide (kv.1 = k)) = true then kvs.map (fun kv => if kv.1 = k then (kv.1, v) else kv) else kvs ++ [(k, v)]
theorem any_keys {k : Key} {α β : Type} : ∀ {a : List (Key × α)} {b : List (Key × β)}, a.map (·.1) = b.map (·.1) → (a.any fun kv => decide (kv.1 = k)) = (b.any fun kv => decide (kv.1 = k))
  | [], [], _ => rfl
  | [], _ :: _, h => by simp at h
  | _ :: _, [], h => by simp at h
  | x :: a, y :: b, h => by
    have h := List.cons.inj (show x.1 :: a.map (·.1) = y.1 :: b.map (·.1) from h)
    rw [List.any_cons, List.any_cons, any_keys h.2, h.1]
section
variable {K : PySem.W.Frag} {O : OW} {H : Hp}
theorem putD_keys {k : Key} {d : D} {v : V} {a : List (Key × V)} {b : List (Key × D)} (h : a.map (·.1) = b.map (·.1)) : (putK a k v).map (·.1) = (putD b k d).map (·.1) := by
  unfold putK putD
  rw [any_keys h]
  split
  · rw [List.map_map, List.map_map]
    have e1 : ((fun kv : Key × V => kv.1) ∘ fun kv => if kv.1 = k then (kv.1, v) else kv) = fun kv => kv.1 := by
      funext kv; show (if kv.1 = k then (kv.1, v) else kv).1 = kv.1; split <;> rfl
    have e2 : ((fun kv : Key × D => kv.1) ∘ fun kv => if kv.1 = k then (kv.1, d) else kv) = fun kv => kv.1 := by
      funext kv; show (if kv.1 = k then (kv.1, d) else kv).1 = kv.1; split <;> rfl
    rw [e1, e2, h]
  · rw [List.map_append, List.map_append, h]; rfl
theorem repL_put {k : Key} {d : D} {v : V} (rd : Rep K O H d v) : ∀ {a : List (Key × V)} {b : List (Key × D)}, a.map (·.1) = b.map (·.1) → RepL K O H (b.map (·.2)) (a.map (·.2)) →
    RepL K O H ((b.map (fun kv => if kv.1 = k then (kv.1, d) else kv)).map (·.2)) ((a.map (fun kv => if kv.1 = k then (kv.1, v) else kv)).map (·.2))
  | [], [], _, r => r
  | [], _ :: _, h, _ => by simp at h
  | _ :: _, [], h, _ => by simp at h
  | x :: a, y :: b, h, ⟨w, ws, e, p, q⟩ => by
    have h := List.cons.inj (show x.1 :: a.map (·.1) = y.1 :: b.map (·.1) from h)
    obtain ⟨e1, e2⟩ := List.cons.inj (show x.2 :: a.map (·.2) = w :: ws from e)
    subst e1 e2
    have ih := repL_put (k := k) rd h.2 q
    refine ⟨(if x.1 = k then (x.1, v) else x).2, _, rfl, ?_, ih⟩
    show Rep K O H (if y.1 = k then (y.1, d) else y).2 (if x.1 = k then (x.1, v) else x).2
    rw [h.1]
    by_cases z : y.1 = k
    · rw [if_pos z, if_pos z]; exact rd
    · rw [if_neg z, if_neg z]; exact p
theorem putD_rep {k : Key} {d : D} {v : V} {a : List (Key × V)} {b : List (Key × D)} (h : a.map (·.1) = b.map (·.1)) (rd : Rep K O H d v) (r : RepL K O H (b.map (·.2)) (a.map (·.2))) : RepL K O H ((putD b k d).map (·.2)) ((putK a k v).map (·.2)) := by
  unfold putK putD
  rw [any_keys h]
  split
  · exact repL_put rd h r
  · rw [List.map_append, List.map_append]
    exact r.app ⟨v, [], rfl, rd, rfl⟩
end
theorem putD_len {k : Key} {d : D} {b : List (Key × D)} : (putD b k d).length ≤ b.length + 1 := by
  unfold putD
  split
  · rw [List.length_map]; omega
  · rw [List.length_append]; exact Nat.le_refl _
inductive DcR (X : Cx) (scope : Scope) (tg kx vx : Expr) (ifs : List Expr) (vs : List Nat) : List D → List (Key × D) → Sls → List (Key × D) → Sls → Prop
  | nil {kvs : List (Key × D)} {env : Sls} : DcR X scope tg kx vx ifs vs [] kvs env kvs env
  | yes {d v : D} {k : Key} {ds : List D} {kvs kvs' : List (Key × D)} {env env1 env2 env3 env4 env' : Sls} : (InB X scope fun X' => Tg X' tg d vs env env1) → (InB X scope fun X' => Tvs X' ifs env1 true env2) → (InB X scope fun X' => Ev X' kx env2 (.val (kD k)) env3) → (InB X scope fun X' => Ev X' vx env3 (.val v) env4) →
      DcR X scope tg kx vx ifs vs ds (putD kvs k v) (wipeE env4 vs) kvs' env' → DcR X scope tg kx vx ifs vs (d :: ds) kvs env kvs' env'
  | no {d : D} {ds : List D} {kvs kvs' : List (Key × D)} {env env1 env2 env' : Sls} : (InB X scope fun X' => Tg X' tg d vs env env1) → (InB X scope fun X' => Tvs X' ifs env1 false env2) → DcR X scope tg kx vx ifs vs ds kvs (wipeE env2 vs) kvs' env' → DcR X scope tg kx vx ifs vs (d :: ds) kvs env kvs' env'
section
variable {X : Cx} {env env1 env' : Sls} {ys : List D} {kvs kvs' : List (Key × D)} {pos : Pos} {kx vx tg it : Expr} {ifs : List Expr} {scope : Scope} {own : List (Str × Nat)}
theorem DcR.io {vs : List Nat} (s0 : Shared) (H0 : Hp) (h : DcR X scope tg kx vx ifs vs ys kvs env kvs' env') : Bare env vs → Io env env' := by
  induction h with
  | nil => exact fun _ => Io.refl _
  | yes h1 h2 h3 h4 _ ih => exact fun b => (io_wipe b ((((h1 s0 H0 0 [] []).1.trans (h2 s0 H0 0 [] []).1).trans (h3 s0 H0 0 [] []).1).trans (h4 s0 H0 0 [] []).1)).trans (ih (bare_wipe _ _))
  | no h1 h2 _ ih => exact fun b => (io_wipe b ((h1 s0 H0 0 [] []).1.trans (h2 s0 H0 0 [] []).1)).trans (ih (bare_wipe _ _))
theorem dc_sem (hi : Iv X tg it env ys env1) (hr : DcR X scope tg kx vx ifs (own.map (·.2)) ys [] env1 kvs' env') (hb : Bare env1 (own.map (·.2))) (hz : ys.length ≤ sizeLine) (O : OW) (H : Hp) (σ : L2.St) (F : List Addr) (r : RepS X.K O H env σ F) (w : Wf O H F) (Q : VK)
    (q : ∀ (O' : OW) (H' : Hp) (v : V) (Fv F' : List Addr), RepM X.K O' H' (.dK (kvs'.map (·.1)) ((kvs'.map (·.2)).map M.val)) v Fv → RepS X.K O' H' env' σ F' → Step O H F O' H' (Fv ++ F') → Q v H') : tDc (wI X tg it) (bG X scope tg) (bTs X scope ifs) (bE X scope kx) (bE X scope vx) (own.map (·.2)) σ H Q := by
  refine hi.2 O H σ F r w _ fun O1 H1 J F1 wk r1 s1 D hD => ?_
  generalize hvs : own.map (·.2) = vs at *
  let St (i : Nat) (H' : Hp) : Prop := ∃ (env2 : Sls) (O2 : OW) (F2 : List Addr) (acc : List (Key × V)) (kv2 : List (Key × Lin.D)), kv2.length ≤ i ∧ DcR X scope tg kx vx ifs vs (ys.drop i) kv2 env2 kvs' env' ∧ Bare env2 vs ∧ RepS X.K O2 H' env2 (wipe σ vs) F2 ∧ H' D = some (.dK acc) ∧ acc.map (·.1) = kv2.map (·.1) ∧ RepL X.K O2 H' (kv2.map (·.2)) (acc.map (·.2)) ∧ Kept O1 H1 O2 H' ∧ Step O H F O2 H' ([D] ++ F2)
  refine ⟨fun i m H' => m = ys.length - i ∧ i ≤ ys.length ∧ St i H', ⟨ys.length, rfl, Nat.zero_le _, ?_⟩, ?_⟩
  · have s0 : Step O1 H1 [] (fun a => O1 a ∨ a = D) (upd H1 D (.dK [])) [D] := Step.new (G := []) s1.wf.nil hD
    refine ⟨env1, _, F1, [], [], Nat.le_refl _, hr, hb, (RepS.quiet s0 r1).loose (wipe_length σ vs) (fun i s z => wipe_get (hb i s z)), upd_same, rfl, rfl, s0.kept s1.wf.nil, s1.trans w (s0.quiet s1.wf)⟩
  rintro i m H' ⟨rfl, hle, env2, O2, F2, acc, kv2, hml, lr, bare, rs, hDa, hks, rl, kp, st⟩
  have wf := st.wf
  obtain ⟨sp, go⟩ := wk O2 H' _ kp wf
  rcases Nat.lt_or_ge i ys.length with hlt | hge
  · have hd : ys[i]? = some ys[i] := List.getElem?_eq_getElem hlt
    obtain ⟨g1, yl⟩ := go i _ hd
    have ed : ys.drop i = ys[i] :: ys.drop (i + 1) := List.drop_eq_getElem_cons hlt
    rw [ed] at lr
    generalize ys[i] = d at *
    generalize hds : ys.drop (i + 1) = ds at *
    refine .inr ⟨g1, St (i + 1), fun H2 z => ⟨ys.length - (i + 1), by omega, rfl, hlt, z⟩, fun x H2 y => ?_⟩
    obtain ⟨s2, rx⟩ := yl x H2 y
    have st2 : Step O H F O2 H2 ([D] ++ F2) := st.trans w (s2.quiet wf)
    have wf2 := st2.wf
    have wfF : Wf O2 H2 F2 := wf2.right
    have rs2 : RepS X.K O2 H2 env2 (wipe σ vs) F2 := rs.quiet s2
    have hD2 : H2 D = some (.dK acc) := s2.frame D _ hDa (by simp)
    have rl2 : RepL X.K O2 H2 (kv2.map (·.2)) (acc.map (·.2)) := rl.kept (s2.kept wf.nil)
    have kp2 : Kept O1 H1 O2 H2 := kp.trans (s2.kept wf.nil)
    have dF : D ∉ F2 := fun z => wf2.apart (List.mem_cons_self ..) z
    have pmF : ([D] ++ F2).Perm (F2 ++ [D]) := List.perm_append_comm
    have wip : ∀ σ3, SameBut vs (wipe σ vs) σ3 → wipe σ3 vs = wipe σ vs := fun σ3 b => by
      rw [wipe_ext b.1 b.2, wipe_wipe]
    cases lr with
    | @yes _ v k _ _ _ _ env1' env2' env3' env4' _ h1 h2 h3 h4 hn =>
      intro s0 H0 C0 cl0 fp0
      refine (h1 s0 H0 C0 cl0 fp0).2 O2 H2 (wipe σ vs) F2 x rx rs2 wfF _ fun σ3 F3 r3 s3 p3 b3 => ⟨wip σ3 b3, fun s0 H0 C0 cl0 fp0 => ?_⟩
      refine (h2 s0 H0 C0 cl0 fp0).2 O2 H2 σ3 F3 r3 s3.wf _ fun O4 H4 F4 r4 s4 => ?_
      rw [if_pos rfl]
      intro s0 H0 C0 cl0 fp0
      refine (h3 s0 H0 C0 cl0 fp0).2 O4 H4 σ3 F4 r4 s4.wf _ fun O5 H5 u Fu F5 ⟨eu, ru⟩ r5 s5 => ?_
      subst eu
      intro s0 H0 C0 cl0 fp0
      refine (h4 s0 H0 C0 cl0 fp0).2 O5 H5 σ3 F5 r5 s5.wf _ fun O6 H6 z Fz F6 ⟨ez, rz⟩ r6 s6 => ?_
      subst ez
      have s25 : Step O2 H2 F2 O6 H6 F6 := ((s3.trans wfF s4).trans wfF s5).trans wfF s6
      have sB := (s25.beside (wf2.perm pmF)).permL pmF.symm
      have hD6 : H6 D = some (.dK acc) := s25.frame D _ hD2 dF
      have rl6 : RepL X.K O6 H6 (kv2.map (·.2)) (acc.map (·.2)) := rl2.kept (s25.kept wfF)
      obtain ⟨F7, G, pm7, r7⟩ := RepS.wipeN r6 vs
      rw [wip σ3 b3] at r7
      have wf6 := sB.wf
      have dIn : D ∈ F6 ++ [D] := List.mem_append_right _ (List.mem_cons_self ..)
      have oD : O6 D := wf6.own D dIn
      have dV : D ∉ F6 := fun z => wf6.apart z (List.mem_cons_self ..)
      have sW : Step O6 H6 (F6 ++ [D]) O6 (upd H6 D (.dK (putK acc k z))) (F6 ++ [D]) := Step.write wf6 dIn
      have kf : ∀ a o, H6 a = some o → ¬ O6 a → upd H6 D (.dK (putK acc k z)) a = some o := fun a o h n => by
        rw [upd_ne (fun e => n (by rw [e]; exact oD))]; exact h
      have r8 : RepS X.K O6 (upd H6 D (.dK (putK acc k z))) (wipeE _ vs) (wipe σ vs) F7 :=
        RepS.keep kf (fun a h => .inl h) _ (fun a o ha h => by rw [upd_ne (fun e => dV (by rw [← e]; exact pm7.mem_iff.mpr (List.mem_append_left _ ha)))]; exact h) r7
      have s7 : Step O2 H2 ([D] ++ F2) O6 (upd H6 D (.dK (putK acc k z))) ([D] ++ F7) :=
        ((sB.trans wf2 sW).permR (F2 := ([D] ++ F7) ++ G) (List.perm_iff_count.mpr fun a => by
          have := List.perm_iff_count.mp pm7 a
          simp only [List.count_append, List.count_cons] at this ⊢
          omega)).dropR
      have ek := rep_kD ru
      refine ⟨acc, k, ek, hD6, ?_, ?_⟩
      · have e := congrArg List.length hks
        rw [List.length_map, List.length_map] at e
        omega
      · exact ⟨_, O6, F7, putK acc k z, putD kv2 k v, Nat.le_trans putD_len (Nat.succ_le_succ hml), by rw [hds]; exact hn, bare_wipe _ _, r8, upd_same, putD_keys hks, RepL.keep kf (fun a h => .inl h) _ (putD_rep hks rz rl6), kp2.trans (s7.kept wf2), st2.trans w s7⟩
    | no h1 h2 hn =>
      intro s0 H0 C0 cl0 fp0
      refine (h1 s0 H0 C0 cl0 fp0).2 O2 H2 (wipe σ vs) F2 x rx rs2 wfF _ fun σ3 F3 r3 s3 p3 b3 => ⟨wip σ3 b3, fun s0 H0 C0 cl0 fp0 => ?_⟩
      refine (h2 s0 H0 C0 cl0 fp0).2 O2 H2 σ3 F3 r3 s3.wf _ fun O4 H4 F4 r4 s4 => ?_
      rw [if_neg Bool.false_ne_true]
      have s24 : Step O2 H2 F2 O4 H4 F4 := s3.trans wfF s4
      have sB := (s24.beside (wf2.perm pmF)).permL pmF.symm
      have hD5 : H4 D = some (.dK acc) := s24.frame D _ hD2 dF
      have rl5 : RepL X.K O4 H4 (kv2.map (·.2)) (acc.map (·.2)) := rl2.kept (s24.kept wfF)
      obtain ⟨F6, G, pm6, r6⟩ := RepS.wipeN r4 vs
      rw [wip σ3 b3] at r6
      have s6 : Step O2 H2 ([D] ++ F2) O4 H4 ([D] ++ F6) :=
        (sB.permR (F2 := ([D] ++ F6) ++ G) (List.perm_iff_count.mpr fun a => by
          have := List.perm_iff_count.mp pm6 a
          simp only [List.count_append, List.count_cons] at this ⊢
          omega)).dropR
      exact ⟨_, O4, F6, acc, kv2, by omega, by rw [hds]; exact hn, bare_wipe _ _, r6, hD5, hks, rl5, kp2.trans (s6.kept wf2), st2.trans w s6⟩
  · have ei : i = ys.length := by omega
    subst ei
    rw [List.drop_eq_nil_of_le (Nat.le_refl _)] at lr
    refine .inl ⟨sp, ?_⟩
    cases lr
    refine q O2 H' (.ref D) [D] F2 ⟨D, acc, [], rfl, rfl, hDa, hks, repML_val _ rl⟩ (rs.loose (wipe_length σ vs).symm fun i s z => (wipe_get (bare i s z)).symm) st
theorem ev_dc (hi : Iv X tg it env ys env1) (hr : DcR X scope tg kx vx ifs (own.map (·.2)) ys [] env1 kvs' env') (hb : Bare env1 (own.map (·.2))) (ok : BlkOk X.N X.env.scope scope own) (hz : ys.length ≤ sizeLine) (hN : X.N.Nodup := by assumption)
    (hc : X.calm = true := by rfl) (hs : ∀ x, foldedSetIterable it X.env x = pure x := by intro _; rfl) : Ev X (.DictComp kx vx [⟨tg, it, ifs, 0⟩] scope pos) env (.dK (kvs'.map (·.1)) ((kvs'.map (·.2)).map M.val)) env' :=
  ⟨hi.1.trans (hr.io X.s_0 X.H_0 hb), fun O H σ F r w Q q => ⟨_, pe_dc hc hN pi_w ok bg_ok bts_ok be_ok be_ok hs, dc_sem hi hr hb hz O H σ F r w Q q⟩⟩
/-- name = {a dict comprehension}, the name a local -/
theorem x1_setDc (i : Nat) {n : Str} {pos' spos : Pos} (hi : Iv X tg it env ys env1) (hr : DcR X scope tg kx vx ifs (own.map (·.2)) ys [] env1 kvs' env') (hb : Bare env1 (own.map (·.2))) (ok : BlkOk X.N X.env.scope scope own) (hz : ys.length ≤ sizeLine) (hio : ∀ m', env[i]? ≠ some (some (Sl.io m')) := by intro _ h; cases h) (hil : i < env.length := by simp) (hN : X.N.Nodup := by assumption) (hn : X.N[i]? = some n := by rfl)
    (hx : X.env.scope.names.lookup n = some .local := by rfl) (hsw : swapsWith (.DictComp kx vx [⟨tg, it, ifs, 0⟩] scope pos) (some (.Name n pos')) spos.line X.env = pure true := by rfl) (hc : X.calm = true := by rfl) (hs : ∀ x, foldedSetIterable it X.env x = pure x := by intro _; rfl) :
    Ex1 X (.Assign [.Name n pos'] (.DictComp kx vx [⟨tg, it, ifs, 0⟩] scope pos) spos) env (.nx (env'.set i (some (.own (.dK (kvs'.map (·.1)) ((kvs'.map (·.2)).map M.val)))))) := fun O H σ F r w D g =>
  ⟨_, ps_setDc hc hN hn hx hsw pi_w ok bg_ok bts_ok be_ok be_ok hs, dc_sem hi hr hb hz O H σ F r w _ fun O' H' v Fv F' rm rs s => by
    have hl : i < env'.length := by rw [← rs.len, r.len]; exact hil
    obtain ⟨F1, F2, Fi, ef, _, k⟩ := RepS.drop i (some v) hl rs
    subst ef
    refine g O' H' _ (F1 ++ (Fv ++ F2)) (k v (.own _) Fv rm) ((s.permR perm_drop).dropR) fun j m' z => ?_
    have hne : i ≠ j := fun q => hio m' (q ▸ z)
    obtain ⟨m2, z2⟩ := (hi.1.trans (hr.io X.s_0 X.H_0 hb)) j m' z
    exact ⟨⟨m2, by rw [List.getElem?_set_ne hne]; exact z2⟩, List.getElem?_set_ne hne⟩⟩
end
end Lin

end

section
namespace Lin
open PySem PySem.Spec PyProof.Rows L2

/-! ### defs by what the head tells -/
def Df (K : PySem.W.Frag) (mg : Str → Option Value) (x : Str) (st : Stmt) (ps : List Str) : Prop := ∃ (f : Addr) (fd : FuncData), Fun K x x st f fd ∧ Binds K fd ps [] ∧ mg x = some (.ref f)
section
variable {P : Program} {w : World} {K : PySem.W.Frag} {mg : Str → Option Value} {base : Heap} {x : Str} {st : Stmt} {N ps : List Str} {k : Nat} {ds pre post : List D} {r m m' : M} {env0 : Sls}
/-- the surroundings of a def's body -/
abbrev In0 (P : Program) (w : World) (K : PySem.W.Frag) (mg : Str → Option Value) (base : Heap) (N : List Str) (x : Str) (st : Stmt) (k : Nat) (Goal : Cx → Prop) : Prop :=
  ∀ (f : Addr) (cdv : Value) (A : Around) (outer : List Env) (s : Shared) (H : Hp) (E : XK), Room k (A.deeper (envOfC x (defScope st) s.heap.objs.size f cdv)) →
    Goal (cxOf CX0 P w K mg base N x (defScope st) f cdv A outer s H E).nox
theorem fd0 (h : Df K mg x st ps) (S : FnScope N ps (defScope st)) (hl : ds.length = ps.length) (h0 : env0 = start0 N ds)
    (body : In0 P w K mg base N x st k fun X => ∃ env', Ex X (defBody st) env0 (.rt r env')) : Fn P w K mg base x ps.length (k + 1) (FS0 K ds r) := by
  obtain ⟨f, fd, F, b, g⟩ := h
  exact fn0 F S b g hl h0 (body f)
theorem fd0n (h : Df K mg x st ps) (S : FnScope N ps (defScope st)) (hl : ds.length = ps.length) (h0 : env0 = start0 N ds)
    (body : In0 P w K mg base N x st k fun X => ∃ env', Ex X (defBody st) env0 (.nx env')) : Fn P w K mg base x ps.length (k + 1) (FS0 K ds (.val .none)) := by
  obtain ⟨f, fd, F, b, g⟩ := h
  exact fn0n F S b g hl h0 (body f)
theorem fd1 (h : Df K mg x st ps) (S : FnScope N ps (defScope st)) (hl : pre.length + post.length + 1 = ps.length) (h0 : env0 = start1 N pre m post)
    (body : In0 P w K mg base N x st k fun X => ∃ env', Ex X (defBody st) env0 (.rt r env') ∧ env'[pre.length]? = some (some (Sl.io m'))) : Fn P w K mg base x ps.length (k + 1) (FS1 K pre m post r m') := by
  obtain ⟨f, fd, F, b, g⟩ := h
  exact fn1 F S b g hl h0 (body f)
/-- a def's level may be told higher -/
theorem Fn.mono {j n : Nat} {sp : Sp} (h : Fn P w K mg base x n k sp) (hk : k ≤ j) : Fn P w K mg base x n j sp := by
  obtain ⟨f, fd, ps, hn, G, hm, hkp, hb⟩ := h
  exact ⟨f, fd, ps, hn, G.mono hk, hm, hkp, hb⟩
end
section
variable {X : Cx} {env env1 env2 : Sls} {e c : Expr} {m m' : M} {st : Stmt} {rest body : List Stmt} {out : Out} {d : D} {k : Bool} {pos p p' : Pos}
/-- a slot's thing is forgotten -/
theorem ex_fgt (i : Nat) (k : Ex X body (env.set i none) out) (hio : ∀ m', env[i]? ≠ some (some (Sl.io m')) := by intro _ h; cases h) (hi : i < env.length := by simp) : Ex X body env out := fun O H σ F r w D g => by
  have hl : i < σ.length := by rw [r.len]; exact hi
  have hs : σ[i]? = some σ[i] := List.getElem?_eq_getElem hl
  obtain ⟨F1, F2, Fi, ef, q, _⟩ := RepS.drop i σ[i] hi r
  rw [set_same hs] at q
  have s : Step O H F O H (F1 ++ F2) := ((Step.refl w).permR (F2 := (F1 ++ F2) ++ Fi) (by rw [ef]; exact List.perm_iff_count.mpr fun a => by simp only [List.count_append]; omega)).dropR
  refine k O H σ _ q s.wf D (g.back w s fun j m' z => ⟨⟨m', ?_⟩, rfl⟩)
  have hne : i ≠ j := fun q => hio m' (q ▸ z)
  rw [List.getElem?_set_ne hne]; exact z
/-- .. behind a block -/
theorem Ex.fgt (i : Nat) (h : Ex X body env (.nx env1)) (hio : ∀ m', env1[i]? ≠ some (some (Sl.io m')) := by intro _ h; cases h) (hi : i < env1.length := by simp) : Ex X body env (.nx (env1.set i none)) := fun O H σ F r w D g => by
  refine h O H σ F r w D fun O' H' σ' F' r s p => ?_
  have hl : i < σ'.length := by rw [r.len]; exact hi
  have hs : σ'[i]? = some σ'[i] := List.getElem?_eq_getElem hl
  obtain ⟨F1, F2, Fi, ef, q, _⟩ := RepS.drop i σ'[i] hi r
  rw [set_same hs] at q
  refine g O' H' σ' _ q ((s.permR (F2 := (F1 ++ F2) ++ Fi) (by rw [ef]; exact List.perm_iff_count.mpr fun a => by simp only [List.count_append]; omega)).dropR) fun j m' z => ?_
  obtain ⟨⟨m2, z2⟩, e⟩ := p j m' z
  have hne : i ≠ j := fun q => hio m2 (q ▸ z2)
  exact ⟨⟨m2, by rw [List.getElem?_set_ne hne]; exact z2⟩, e⟩
/-- isinstance(x, (A, B)) -/
theorem ev_isi2 {T1 T2 : String} {n1 n2 : Str} {kk : Nat} {q1 q2 q3 : Pos} (ha : Pu X e env (.val d)) (hk : PySem.W.kitAny X.K (.type (tyD d)) [.type T1, .type T2] = some k) (hb1 : bootBuiltins n1 = some (.type T1)) (hb2 : bootBuiltins n2 = some (.type T2)) (hm1 : X.mg n1 = none) (hm2 : X.mg n2 = none) (hm : X.mg "isinstance" = none) (ht : tyOk d = true := by rfl) (hg : Gl X "isinstance" := by rfl) (hg1 : Gl X n1 := by rfl) (hg2 : Gl X n2 := by rfl)
    (hn1 : n1 ≠ "__name__" := by decide) (hdb1 : (n1 == ("__debug__" : Str)) = false := by decide) (hn2 : n2 ≠ "__name__" := by decide) (hdb2 : (n2 == ("__debug__" : Str)) = false := by decide)
    (he : starEach [e, .Tuple [.Name n1 q1, .Name n2 q2] kk q3] X.env = (false, eval e X.env) :: starEach [.Tuple [.Name n1 q1, .Name n2 q2] kk q3] X.env := by rfl) (he2 : starEach [.Tuple [.Name n1 q1, .Name n2 q2] kk q3] X.env = (false, eval (.Tuple [.Name n1 q1, .Name n2 q2] kk q3) X.env) :: starEach [] X.env := by rfl)
    (he3 : starEach [.Name n1 q1, .Name n2 q2] X.env = (false, eval (.Name n1 q1) X.env) :: starEach [.Name n2 q2] X.env := by rfl) (he4 : starEach [.Name n2 q2] X.env = (false, eval (.Name n2 q2) X.env) :: starEach [] X.env := by rfl) (hpl : (backTo pos (starEach [.Tuple [.Name n1 q1, .Name n2 q2] kk q3] X.env)).any (·.1) = false := by rfl) :
    Ev X (.Call (.Name "isinstance" p) [e, .Tuple [.Name n1 q1, .Name n2 q2] kk q3] [] pos) env (.val (.bool k)) env :=
  ⟨Io.refl _, fun O H σ F rs w Q q => ⟨_, pe_callB call_isiT hg hm boot_isinstance (pa_cons pe_w (pa_cons (pe_tup (pa_cons (pe_bltn hg1 hm1 hb1 (v := .ty T1) rfl hn1 hdb1) (pa_cons (pe_bltn hg2 hm2 hb2 (v := .ty T2) rfl hn2 hdb2) pa_nil he4) he3)) pa_nil he2) he) (by decide) (by decide) he hpl,
    ha O H σ F rs w _ fun v _ ⟨_, rv⟩ => ⟨show 2 ≤ sizeLine by decide, fun p hp => by
      have s2 : Step O H F O (upd H p (.tup [.ty T1, .ty T2])) F := Step.newF w hp
      have s0 : Step O H [] O (upd H p (.tup [.ty T1, .ty T2])) [] := Step.newF w.nil hp
      exact ⟨v, p, [.ty T1, .ty T2], .type (tyD d), [.type T1, .type T2], k, rfl, upd_same, .cons (.ty T1) (.cons (.ty T2) .nil), rep_ty ht (rv.kept (s0.kept w.nil)), hk, q O _ _ [] F ⟨rfl, rfl⟩ (rs.quiet s0) s2⟩⟩⟩⟩
end
end Lin

end

section
namespace Lin
open PySem PySem.Spec PyProof.Rows L2
/-! ### the pen of the drawn numbers -/
def penM (cells : List Int) (a c : Int) : M := .lst [.lst (cells.map fun i => .val (.int i)), .val (.int a), .val (.int c)]
def PenOk (B : Int) (m : M) : Prop := ∃ (cells : List Int) (a c : Int), m = penM cells a c ∧ 0 ≤ a ∧ a ≤ B
theorem PenOk.mono {B C : Int} {m : M} (h : PenOk B m) (hc : B ≤ C) : PenOk C m := by
  obtain ⟨cells, a, c, e, h0, h1⟩ := h
  exact ⟨cells, a, c, e, h0, by omega⟩
theorem pen0 {cells : List Int} {a c : Int} : L2.atI [M.lst (cells.map fun i => M.val (.int i)), .val (.int a), .val (.int c)] 0 = some (.lst (cells.map fun i => .val (.int i))) := rfl
theorem pen1 {cells : List Int} {a c : Int} : L2.atI [M.lst (cells.map fun i => M.val (.int i)), .val (.int a), .val (.int c)] 1 = some (.val (.int a)) := rfl
theorem pen2 {cells : List Int} {a c : Int} : L2.atI [M.lst (cells.map fun i => M.val (.int i)), .val (.int a), .val (.int c)] 2 = some (.val (.int c)) := rfl
theorem ixN_of {n : Nat} {i : Int} (h0 : 0 ≤ i) (h1 : i < n) : ixN n i = some i.toNat := by
  unfold ixN
  rw [if_pos h0, if_pos (by omega)]
theorem atI_of {α : Type} {xs : List α} {i : Int} {x : α} (h0 : 0 ≤ i) (h : xs[i.toNat]? = some x) : L2.atI xs i = some x := by
  have hl : i.toNat < xs.length := (List.getElem?_eq_some_iff.mp h).1
  unfold L2.atI
  rw [ixN_of h0 (by omega)]
  exact h
theorem atI_map {α β : Type} {xs : List α} {f : α → β} {i : Int} (h0 : 0 ≤ i) (h1 : i < xs.length) (d : α) : L2.atI (xs.map f) i = some (f (xs.getD i.toNat d)) := by
  have hl : i.toNat < xs.length := by omega
  refine atI_of h0 ?_
  rw [List.getElem?_map, List.getElem?_eq_getElem hl, List.getD_eq_getElem?_getD, List.getElem?_eq_getElem hl]
  rfl
end Lin
namespace Lin
open PySem PySem.Spec PyProof.Rows L2
theorem Ex.eq {X : Cx} {b : List Stmt} {env : Sls} {out out' : Out} (h : Ex X b env out) (e : out = out' := by rfl) : Ex X b env out' := e ▸ h
theorem Ex1.eq {X : Cx} {b : Stmt} {env : Sls} {out out' : Out} (h : Ex1 X b env out) (e : out = out' := by rfl) : Ex1 X b env out' := e ▸ h
end Lin

end

section
namespace Lin
open PySem PySem.Spec PyProof.Rows L2
section
variable {X : Cx} {env env1 env2 : Sls} {a b e : Expr} {ds : List D} {pos p p2 pos2 : Pos} {n : Int}
theorem Ev.frzL (h : Ev X e env (.lst (ds.map M.val)) env1) : Ev X e env (.val (.lst ds)) env1 := h.frz.eq (by show M.val (.lst (Lin.frzL (ds.map M.val))) = _; rw [frzL_val])
/-- the ints 0 .. n - 1 -/
def rangeI (n : Nat) : List Int := (List.range n).map fun i => ((i : Nat) : Int)
theorem rangeI_len (n : Nat) : (rangeI n).length = n := by unfold rangeI; rw [List.length_map, List.length_range]
theorem mem_rangeI {n : Nat} {x : Int} (h : x ∈ rangeI n) : 0 ≤ x ∧ x < n := by
  obtain ⟨i, hi, rfl⟩ := List.mem_map.mp h
  have := List.mem_range.mp hi
  omega
theorem rgV_eq (n : Int) : rgV 0 n = (rangeI n.toNat).map V.int := by
  unfold rgV rangeI
  rw [List.map_map, Int.sub_zero]
  congr 1
  funext i
  show V.int (0 + (i : Int)) = V.int i
  rw [Int.zero_add]
theorem ev_listRg (ha : Ev X a env (.val (.int n)) env1) (h0 : 0 ≤ n) (h1 : n ≤ 16777216) (hm : X.mg "list" = none) (hr : X.mg "range" = none) (hc : X.calm = true := by rfl) (hg : Gl X "list" := by rfl) (hgr : Gl X "range" := by rfl)
    (na : starEach [.Call (.Name "range" p2) [a] [] pos2] X.env = (false, eval (.Call (.Name "range" p2) [a] [] pos2) X.env) :: starEach [] X.env := by rfl) (nb : starEach [a] X.env = (false, eval a X.env) :: starEach [] X.env := by rfl) :
    Ev X (.Call (.Name "list" p) [.Call (.Name "range" p2) [a] [] pos2] [] pos) env (.lst (((rangeI n.toNat).map D.int).map M.val)) env1 :=
  ⟨ha.1, fun O H σ F r w Q q => ⟨_, pe_listRg hc hg hm (prg_1 hgr hr pe_w nb) na, ha.2 O H σ F r w _ fun O1 H1 v Fv F1 ⟨ev, rv⟩ r1 s1 => by
    subst ev
    refine ⟨n, rv, RgOk.of_le (by decide) h1 (by decide) h0, fun p hp => ?_⟩
    rw [rgV_eq]
    have s0 : Step O1 H1 [] (fun a => O1 a ∨ a = p) (upd H1 p (.lst ((rangeI n.toNat).map V.int))) [p] := Step.new (G := []) s1.wf.nil hp
    exact q _ _ (.ref p) [p] F1 ⟨p, _, [], rfl, rfl, upd_same, repML_val _ (repL_ints _)⟩ (r1.quiet s0) (s1.trans w (s0.quiet s1.wf))⟩⟩
end
theorem cut_to {α : Type} {xs : List α} {k : Int} (h0 : 0 ≤ k) (h1 : k ≤ xs.length) : cutD xs none (some k) = xs.take k.toNat := by
  unfold cutD
  obtain ⟨j, rfl⟩ : ∃ j : Nat, k = j := ⟨k.toNat, by omega⟩
  rw [HT.sIx_none, HT.sIx_nat, List.drop_zero, Nat.sub_zero, Int.toNat_natCast, Nat.min_eq_left (by omega)]
theorem cut_from {α : Type} {xs : List α} {k : Int} (h0 : 0 ≤ k) (h1 : k ≤ xs.length) : cutD xs (some k) none = xs.drop k.toNat := by
  unfold cutD
  obtain ⟨j, rfl⟩ : ∃ j : Nat, k = j := ⟨k.toNat, by omega⟩
  rw [HT.sIx_none, HT.sIx_nat, Int.toNat_natCast, Nat.min_eq_left (by omega)]
  exact List.take_of_length_le (by rw [List.length_drop]; omega)
theorem cut_12 {xs : List Int} : (cutD xs none (some 12)).length = min 12 xs.length := by
  unfold cutD
  show ((xs.drop 0).take (HT.sIx xs.length xs.length (some ((12 : Nat) : Int)) - 0)).length = _
  rw [HT.sIx_nat, List.drop_zero, List.length_take]; omega
theorem cut_rest {xs : List Int} (h : cutD xs (some 12) (some 63) ≠ []) : 12 < xs.length := by
  refine Nat.lt_of_not_le fun z => h ?_
  unfold cutD
  show (xs.drop (HT.sIx xs.length 0 (some ((12 : Nat) : Int)))).take _ = []
  rw [HT.sIx_nat, Nat.min_eq_right z, List.drop_eq_nil_of_le (Nat.le_refl _), List.take_nil]
/-! ### data of ints -/
theorem pdL_ints : ∀ ns : List Int, plainL (ns.map D.int) = true ∧ PyData.canLayAll0 (pdL (ns.map D.int)) = true ∧ PyData.depthAll (pdL (ns.map D.int)) = 0
  | [] => ⟨rfl, by simp [pdL, PyData.canLayAll0], by simp [pdL, PyData.depthAll]⟩
  | n :: ns => by
    obtain ⟨h1, h2, h3⟩ := pdL_ints ns
    refine ⟨by simpa [plainL, plain] using h1, ?_, ?_⟩
    · simpa [pdL, pd, PyData.canLayAll0, PyData.canLay0] using h2
    · simp [pdL, pd, PyData.depthAll, PyData.depth, h3]
theorem cmp_ints (ns : List Int) : CmpD (.lst (ns.map D.int)) := by
  obtain ⟨h1, h2, h3⟩ := pdL_ints ns
  exact ⟨h1, by simp [pd, SeqAt.shaped, PyData.canLay0, PyData.depth, h2, h3]⟩
theorem cmp_intsT (ns : List Int) : CmpD (.tup (ns.map D.int)) := by
  obtain ⟨h1, h2, h3⟩ := pdL_ints ns
  exact ⟨h1, by simp [pd, SeqAt.shaped, PyData.canLay0, PyData.depth, h2, h3]⟩
theorem frz_ints (ns : List Int) : frz (.lst (ns.map fun i => M.val (.int i))) = .lst (ns.map D.int) := by
  show D.lst (frzL (ns.map fun i => M.val (.int i))) = _
  rw [frzL_eq, List.map_map]; rfl
theorem mapVI (ns : List Int) : (ns.map D.int).map M.val = ns.map fun i => M.val (.int i) := by rw [List.map_map]; rfl
theorem lstVI (ns : List Int) : M.lst ((ns.map D.int).map M.val) = .lst (ns.map fun i => M.val (.int i)) := by rw [mapVI]
/-! ### trees -/
inductive Tr where
  | leaf (n : Int) | node (l r : Tr)
def Tr.d : Tr → D
  | .leaf n => .int n
  | .node l r => .tup [l.d, r.d]
def Tr.leaves : Tr → List Int
  | .leaf n => [n]
  | .node l r => l.leaves ++ r.leaves
theorem Tr.leaves_pos : ∀ t : Tr, 0 < t.leaves.length
  | .leaf _ => Nat.one_pos
  | .node l r => by
    show 0 < (l.leaves ++ r.leaves).length
    rw [List.length_append]
    have := l.leaves_pos
    omega
/-! ### loops by a fold -/
theorem Iv.eq {X : Cx} {tg it : Expr} {env env1 : Sls} {ys zs : List D} (h : Iv X tg it env ys env1) (e : ys = zs) : Iv X tg it env zs env1 := e ▸ h
theorem forR_fold {X : Cx} {tg : Expr} {body : List Stmt} {S α : Type} (E : S → Sls) (f : α → D) (next : S → α → S) (I : List α → S → Prop)
    (step : ∀ (a : α) (as : List α) (s : S), I (a :: as) s → (∃ (ws : List Nat) (env1 : Sls), Tg X tg (f a) ws (E s) env1 ∧ Ex X body env1 (.nx (E (next s a)))) ∧ I as (next s a)) :
    ∀ (as : List α) (s : S), I as s → ForR X tg body (as.map f) (E s) (.nx (E (as.foldl next s)))
  | [], s, _ => .nil
  | a :: as, s, h => by
    obtain ⟨⟨ws, env1, t, e⟩, h2⟩ := step a as s h
    exact .nx t e (forR_fold E f next I step as (next s a) h2)
theorem enumD_map {α : Type} (f : α → D) : ∀ (k : Nat) (xs : List α), enumD k (xs.map f) = (xs.zipIdx k).map fun p => .tup [.int (p.2 : Nat), f p.1]
  | k, [] => rfl
  | k, x :: xs => by
    rw [List.zipIdx_cons, List.map_cons, List.map_cons, enumD, enumD_map f (k + 1) xs]
def whC : Stmt → Expr
  | .While c _ _ _ => c
  | _ => .Constant .none 0 ⟨0, 0, 0, 0⟩
def whB : Stmt → List Stmt
  | .While _ b _ _ => b
  | _ => []
def frT : Stmt → Expr
  | .For t _ _ _ _ => t
  | _ => .Constant .none 0 ⟨0, 0, 0, 0⟩
def frB : Stmt → List Stmt
  | .For _ _ b _ _ => b
  | _ => []
def stAt (l : List Stmt) (i : Nat) : Stmt := l.getD i (.Pass ⟨0, 0, 0, 0⟩)
theorem ints_nil : CmpD (.lst []) := cmp_ints []
theorem ints_ne (ns : List Int) : (!PyData.eqv (pd (frz (.lst (ns.map fun i => M.val (.int i))))) (pd (.lst []))) = decide (ns ≠ []) := by
  rw [frz_ints]
  cases ns with
  | nil => rfl
  | cons n ns => rfl
theorem erase_map (f : Int → M) : ∀ (ns : List Int) (j : Nat), (ns.map f).eraseIdx j = (ns.eraseIdx j).map f
  | [], j => by simp
  | n :: ns, 0 => rfl
  | n :: ns, j + 1 => by rw [List.map_cons, List.eraseIdx_cons_succ, List.eraseIdx_cons_succ, List.map_cons, erase_map f ns j]
theorem erase_perm : ∀ (ns : List Int) (j : Nat) (x : Int), ns[j]? = some x → (x :: ns.eraseIdx j).Perm ns
  | [], _, _, h => by simp at h
  | n :: ns, 0, x, h => by
    have e : n = x := by simpa using h
    subst e; exact List.Perm.refl _
  | n :: ns, j + 1, x, h => by
    have ih := erase_perm ns j x (by simpa using h)
    rw [List.eraseIdx_cons_succ]
    exact (List.Perm.swap n x _).trans (ih.cons n)
theorem erase_len {ns : List Int} {j : Nat} (h : j < ns.length) : (ns.eraseIdx j).length = ns.length - 1 := List.length_eraseIdx_of_lt h
/-- name != [] of a list of ints that the name owns -/
theorem tv_neInts {X : Cx} {env : Sls} {n : Str} {s : Sl} {ns : List Int} {p pos pos2 : Pos} (i : Nat) (hi : env[i]? = some (some s)) (hm : s.m = .lst (ns.map fun i => .val (.int i))) (hu : X.A.units + 64 < cLine) (hN : X.N[i]? = some n := by rfl) (hv : Vis X.env.scope n := by first | exact Or.inl rfl | exact Or.inr (Or.inl rfl) | exact Or.inr (Or.inr rfl))
    (hd : (n == ("__debug__" : Str)) = false := by decide) (hcd : (n == ("__classdict__" : Str)) = false := by decide) (hmk : behindInMarks .NotEq (.List [] pos2) = false := by first | exact nomark _ | rfl) : Tv X (.Compare (.Name n p) [.NotEq] [.List [] pos2] pos) env (decide (ns ≠ [])) env := by
  have hf : frz s.m = .lst (ns.map D.int) := by rw [hm, frz_ints]
  exact (tv_neO (s := s) i (ev_lstF (ds := []) ea_nil) hi (by rw [hf]; exact cmp_ints ns) ints_nil hu hN hv hd hcd hmk ⟨s, hi⟩).eq (by rw [hm]; exact ints_ne ns)
end Lin

end

section
namespace Lin
open PySem PySem.Spec PyProof.Rows L2
section
variable {X : Cx} {env env1 : Sls} {e : Expr} {pos p : Pos}
theorem ev_sortedT {ns ns0 : List Int} (ha : Ev X e env (.val (.tup (ns.map D.int))) env1) (hp : ns0.Perm ns) (hs : ns0.Pairwise (· ≤ ·)) (hm : X.mg "sorted" = none := by assumption) (hg : Gl X "sorted" := by rfl) (he : starEach [e] X.env = (false, eval e X.env) :: starEach [] X.env := by rfl) (hpl : (backTo pos (starEach [] X.env)).any (·.1) = false := by rfl) : Ev X (.Call (.Name "sorted" p) [e] [] pos) env (.lst ((ns0.map D.int).map M.val)) env1 :=
  ev_cbi (ds := [.tup (ns.map D.int)]) cr_sortTI (rf_new fun O H vs ⟨u, us, e, ⟨a, xs, hu, ta, rl⟩, hn⟩ => ⟨_, repL_ints ns0, fun Q q => ⟨a, ns, by rw [e, hu, show us = [] from hn], by rw [← RepL.ints ns rl]; exact TupAt.sq ta, fun ns' p pm pw hp' => by
    rw [perm_sorted_eq (pm.trans hp.symm) pw hs]
    exact q p hp'⟩⟩) (ea_cons ha ea_nil he) hm (by decide +kernel) hg (by decide) (by decide) he hpl
end
/-! ### the matches of a tree -/
inductive Pt where
  | side (n : Int) | mtch (k : Nat)
abbrev strSide : Str := "side"
abbrev strMatch : Str := "match"
def Pt.d : Pt → D
  | .side n => .tup [.str strSide, .int n]
  | .mtch k => .tup [.str strMatch, .int k]
abbrev Prs := List (Pt × Pt)
def prD (p : Pt × Pt) : D := .tup [p.1.d, p.2.d]
def prsM (f : Prs) : M := .lst (f.map fun p => .val (prD p))
def note : Tr → Prs → Pt × Prs
  | .leaf n, f => (.side n, f)
  | .node l r, f => (.mtch (note r (note l f).2).2.length, (note r (note l f).2).2 ++ [((note l f).1, (note r (note l f).2).1)])
theorem note_len : ∀ (t : Tr) (f : Prs), (note t f).2.length + 1 = f.length + t.leaves.length
  | .leaf n, f => rfl
  | .node l r, f => by
    have h1 := note_len l f
    have h2 := note_len r (note l f).2
    simp only [note, Tr.leaves, List.length_append, List.length_cons, List.length_nil]
    omega
def isort (l : List Int) : List Int := l.mergeSort fun a b => decide (a ≤ b)
theorem isort_perm (l : List Int) : (isort l).Perm l := List.mergeSort_perm ..
theorem isort_pw (l : List Int) : (isort l).Pairwise (· ≤ ·) := by
  have h := List.pairwise_mergeSort (le := fun a b : Int => decide (a ≤ b)) (fun a b c h1 h2 => by simp only [decide_eq_true_eq] at *; omega) (fun a b => by simp only [Bool.or_eq_true, decide_eq_true_eq]; omega) l
  exact h.imp fun h => of_decide_eq_true h
abbrev Sds := List (List Int)
def ptS (acc : Sds) : Pt → List Int
  | .side n => [n]
  | .mtch k => acc.getD k []
def sdStep (acc : Sds) (p : Pt × Pt) : Sds := acc ++ [isort (ptS acc p.1 ++ ptS acc p.2)]
def sdsOf (f : Prs) : Sds := f.foldl sdStep []
theorem sdsOf_snoc (f : Prs) (p : Pt × Pt) : sdsOf (f ++ [p]) = sdStep (sdsOf f) p := by
  unfold sdsOf
  rw [List.foldl_append]; rfl
theorem foldl_sd_len (f : Prs) : ∀ acc : Sds, (f.foldl sdStep acc).length = acc.length + f.length := by
  induction f with
  | nil => exact fun acc => rfl
  | cons p f ih =>
    intro acc
    rw [List.foldl_cons, ih]
    simp only [sdStep, List.length_append, List.length_cons, List.length_nil]
    omega
theorem sdsOf_len (f : Prs) : (sdsOf f).length = f.length := by
  unfold sdsOf
  rw [foldl_sd_len]; simp
theorem foldl_sd_pre (f : Prs) : ∀ acc : Sds, acc <+: f.foldl sdStep acc := by
  induction f with
  | nil => exact fun acc => List.prefix_rfl
  | cons p f ih => exact fun acc => (List.prefix_append ..).trans (ih _)
theorem sdsOf_pre (f g : Prs) : sdsOf f <+: sdsOf (f ++ g) := by
  unfold sdsOf
  rw [List.foldl_append]
  exact foldl_sd_pre g _
def OkPt (n : Nat) : Pt → Prop
  | .side _ => True
  | .mtch k => k < n
theorem OkPt.mono {n m : Nat} (h : n ≤ m) : ∀ {p : Pt}, OkPt n p → OkPt m p
  | .side _, _ => trivial
  | .mtch _, q => Nat.lt_of_lt_of_le q h
def OkF (f : Prs) : Prop := ∀ (i : Nat) (p : Pt × Pt), f[i]? = some p → OkPt i p.1 ∧ OkPt i p.2
theorem ptS_pre {a b : Sds} (h : a <+: b) : ∀ {p : Pt}, OkPt a.length p → ptS b p = ptS a p
  | .side _, _ => rfl
  | .mtch k, q => by
    obtain ⟨c, rfl⟩ := h
    show (a ++ c).getD k [] = a.getD k []
    have q : k < a.length := q
    rw [List.getD_eq_getElem?_getD, List.getD_eq_getElem?_getD, List.getElem?_append_left q]
/-- what the matches of a tree are -/
structure Noted (t : Tr) (f : Prs) (r : Pt × Prs) : Prop where
  pre : ∃ g : Prs, r.2 = f ++ g
  ok : OkF f → OkF r.2
  pt : OkPt r.2.length r.1
  lv : (ptS (sdsOf r.2) r.1).Perm t.leaves
  sz : ∀ i l, f.length ≤ i → (sdsOf r.2)[i]? = some l → 2 ≤ l.length ∧ l.length ≤ t.leaves.length ∧ ∀ x ∈ l, x ∈ t.leaves
theorem noted : ∀ (t : Tr) (f : Prs), Noted t f (note t f)
  | .leaf n, f => ⟨⟨[], by rw [List.append_nil]; rfl⟩, fun h => h, trivial, List.Perm.refl _, fun i l hi hl => by
      have e : i < (sdsOf f).length := (List.getElem?_eq_some_iff.mp hl).1
      rw [sdsOf_len] at e
      omega⟩
  | .node l r, f => by
    have hl := noted l f
    have hr := noted r (note l f).2
    generalize ea : note l f = a at *
    generalize eb : note r a.2 = b at *
    obtain ⟨pa, fa⟩ := a
    obtain ⟨pb, fb⟩ := b
    obtain ⟨ga, ega⟩ := hl.pre
    obtain ⟨gb, egb⟩ := hr.pre
    simp only at ega egb hr eb
    have en : note (.node l r) f = (.mtch fb.length, fb ++ [(pa, pb)]) := by
      simp only [note, ea, eb]
    rw [en]
    have pab : sdsOf fa <+: sdsOf fb := by rw [egb]; exact sdsOf_pre fa gb
    have oa : OkPt fa.length pa := hl.pt
    have ob : OkPt fb.length pb := hr.pt
    have e1 : ptS (sdsOf fb) pa = ptS (sdsOf fa) pa := ptS_pre pab (by rw [sdsOf_len]; exact oa)
    have lfa : fa.length ≤ fb.length := by rw [egb, List.length_append]; omega
    have last : sdsOf (fb ++ [(pa, pb)]) = sdsOf fb ++ [isort (ptS (sdsOf fb) pa ++ ptS (sdsOf fb) pb)] := sdsOf_snoc fb (pa, pb)
    have pml : (ptS (sdsOf fb) pa ++ ptS (sdsOf fb) pb).Perm (l.leaves ++ r.leaves) := by
      rw [e1]
      exact hl.lv.append hr.lv
    have pmi := (isort_perm (ptS (sdsOf fb) pa ++ ptS (sdsOf fb) pb)).trans pml
    refine ⟨⟨ga ++ gb ++ [(pa, pb)], by simp [egb, ega]⟩, fun h i p hp => ?_, ?_, ?_, fun i x hi hx => ?_⟩
    · have hfb := hr.ok (hl.ok h)
      by_cases hi : i < fb.length
      · rw [List.getElem?_append_left hi] at hp
        exact hfb i p hp
      · have hi2 : i < (fb ++ [(pa, pb)]).length := (List.getElem?_eq_some_iff.mp hp).1
        rw [List.length_append, List.length_cons, List.length_nil] at hi2
        have e : i = fb.length := by omega
        subst e
        rw [List.getElem?_append_right (Nat.le_refl _), Nat.sub_self] at hp
        cases hp
        exact ⟨oa.mono lfa, ob⟩
    · show fb.length < (fb ++ [(pa, pb)]).length
      rw [List.length_append]
      exact Nat.lt_succ_self _
    · show ((sdsOf (fb ++ [(pa, pb)])).getD fb.length []).Perm _
      rw [last, List.getD_eq_getElem?_getD, List.getElem?_append_right (by rw [sdsOf_len]; exact Nat.le_refl _), sdsOf_len, Nat.sub_self]
      exact pmi
    · rw [last] at hx
      have lp := l.leaves_pos
      have rp := r.leaves_pos
      simp only [Tr.leaves, List.length_append]
      by_cases hi2 : i < fb.length
      · rw [List.getElem?_append_left (by rw [sdsOf_len]; exact hi2)] at hx
        by_cases hi3 : i < fa.length
        · obtain ⟨c, ec⟩ := pab
          have hx2 : (sdsOf fa)[i]? = some x := by
            rw [← ec, List.getElem?_append_left (by rw [sdsOf_len]; exact hi3)] at hx
            exact hx
          obtain ⟨h1, h2, h3⟩ := hl.sz i x hi hx2
          exact ⟨h1, by omega, fun y hy => List.mem_append_left _ (h3 y hy)⟩
        · obtain ⟨h1, h2, h3⟩ := hr.sz i x (by show fa.length ≤ i; omega) hx
          exact ⟨h1, by omega, fun y hy => List.mem_append_right _ (h3 y hy)⟩
      · have hi4 : i < (sdsOf fb ++ [isort (ptS (sdsOf fb) pa ++ ptS (sdsOf fb) pb)]).length := (List.getElem?_eq_some_iff.mp hx).1
        rw [List.length_append, List.length_cons, List.length_nil, sdsOf_len] at hi4
        have e : i = fb.length := by omega
        subst e
        rw [List.getElem?_append_right (by rw [sdsOf_len]; exact Nat.le_refl _), sdsOf_len, Nat.sub_self] at hx
        have ex : isort (ptS (sdsOf fb) pa ++ ptS (sdsOf fb) pb) = x := by simpa using hx
        rw [← ex]
        refine ⟨?_, ?_, fun y hy => pmi.mem_iff.mp hy⟩
        · rw [pmi.length_eq, List.length_append]; omega
        · rw [pmi.length_eq, List.length_append]; exact Nat.le_refl _
def sdD (l : List Int) : D := .tup (l.map D.int)
def sdsM (acc : Sds) : M := .lst (acc.map fun l => .val (sdD l))
theorem frz_map {α : Type} (g : α → D) (xs : List α) : frz (.lst (xs.map fun x => .val (g x))) = .lst (xs.map g) := by
  show D.lst (frzL (xs.map fun x => M.val (g x))) = _
  rw [frzL_eq, List.map_map]; rfl
theorem at_map {α : Type} (g : α → D) (xs : List α) {k : Nat} (d : α) (h : k < xs.length) : L2.atI (xs.map fun x => M.val (g x)) (k : Int) = some (.val (g (xs.getD k d))) :=
  atI_map (f := fun x => M.val (g x)) (by omega) (by omega) d
theorem snoc_map {α : Type} (g : α → D) (xs : List α) (x : α) : (xs.map fun x => M.val (g x)) ++ [M.val (g x)] = (xs ++ [x]).map fun x => M.val (g x) := by rw [List.map_append]; rfl
theorem pt_at {t : Tr} {pre as : Prs} {p : Pt × Pt} (e : pre ++ p :: as = (note t []).2) : (OkPt (sdsOf pre).length p.1 ∧ OkPt (sdsOf pre).length p.2) ∧ (ptS (sdsOf pre) p.1).length + (ptS (sdsOf pre) p.2).length ≤ t.leaves.length := by
  have h := noted t []
  have hp : (note t []).2[pre.length]? = some p := by rw [← e, List.getElem?_append_right (Nat.le_refl _), Nat.sub_self]; rfl
  refine ⟨by rw [sdsOf_len]; exact h.ok (fun i p z => by simp at z) _ p hp, ?_⟩
  have e2 : sdsOf pre ++ [isort (ptS (sdsOf pre) p.1 ++ ptS (sdsOf pre) p.2)] <+: sdsOf (note t []).2 := by
    have q := sdsOf_pre (pre ++ [p]) as
    rw [sdsOf_snoc, List.append_assoc] at q
    rw [← e]
    exact q
  obtain ⟨c, ec⟩ := e2
  have hx : (sdsOf (note t []).2)[pre.length]? = some (isort (ptS (sdsOf pre) p.1 ++ ptS (sdsOf pre) p.2)) := by
    rw [← ec, List.append_assoc, List.getElem?_append_right (by rw [sdsOf_len]; exact Nat.le_refl _), sdsOf_len, Nat.sub_self]
    rfl
  have z := (h.sz _ _ (Nat.zero_le _) hx).2.1
  rw [(isort_perm _).length_eq, List.length_append] at z
  exact z
end Lin

end

section
namespace Lin
open PySem PySem.Spec PyProof.Rows L2
/-! ### zip of tuples -/
section
variable {K : PySem.W.Frag} {O : OW} {H : Hp} {ds es : List D} {a b : Addr} {xs zs : List V}
theorem walk_zipTT : Walk (RZ.ItzT K a b) (min xs.length zs.length) (fun H => SqT K H a xs ∧ SqT K H b zs) (YPair (fun i => xs[i]?) (fun i => zs[i]?)) := by
  refine ⟨fun i H hi q => ?_, fun H q => ⟨xs, zs, q.1, q.2, by omega⟩, fun i H v H' _ q y => ?_⟩
  · have h1 : i < xs.length := by omega
    have h2 : i < zs.length := by omega
    exact ⟨xs, zs, xs[i], zs[i], q.1, q.2, List.getElem?_eq_getElem h1, List.getElem?_eq_getElem h2⟩
  · obtain ⟨T, x, z, h1, h2, h3, h4, h5⟩ := y
    exact ⟨T, x, z, h1, h2, h3, h4 xs q.1, h5 zs q.2⟩
theorem wk_zipT (ha : TupAt K O H a xs) (rl : RepL K O H ds xs) (hb : TupAt K O H b zs) (rm : RepL K O H es zs) : Wk K O H (RZ.ItzT K a b) (zipD ds es) :=
  wk_of (walk_zipTT (xs := xs) (zs := zs)) (by rw [zipD_len, rl.len, rm.len]) (fun O' H' kp => ⟨(ha.kept kp).sq, (hb.kept kp).sq⟩) fun O' H' F' i d x H2 kp wf hd ⟨T, x1, y1, ex, hT, eH, hx, hy⟩ => by
    obtain ⟨e, f, he, hf, ed⟩ := zipD_get hd
    subst ex eH ed
    exact rep_pair wf.nil hT (repL_at (rl.kept kp) he hx) (repL_at (rm.kept kp) hf hy)
end
section
variable {X : Cx} {env env1 env2 : Sls} {d : D} {ds es : List D} {pos p : Pos} {e e2 tg a b : Expr} {elts : List Expr} {kk : Nat} {tpos : Pos}
theorem iv_zipT (ha : Ev X e env (.val (.tup ds)) env1) (hb : Ev X e2 env1 (.val (.tup es)) env2) (hm : X.mg "zip" = none := by assumption) (hg : Gl X "zip" := by rfl)
    (he2 : (backTo pos (starEach [e2] X.env)).any (·.1) = false := by rfl) (he' : starEach [e, e2] X.env = (false, eval e X.env) :: starEach [e2] X.env := by rfl) (he3 : starEach [e2] X.env = (false, eval e2 X.env) :: starEach [] X.env := by rfl) : Iv X (.Tuple elts kk tpos) (.Call (.Name "zip" p) [e, e2] [] pos) env (zipD ds es) env2 :=
  ⟨ha.1.trans hb.1, fun O H σ F r w R q => ⟨_, RZ.pi_zipA hg hm (pa_cons pe_w (pa_cons pe_w pa_nil he3) he') he' he2, two ha hb r w (R := fun u v H' => ∃ a b xs ys, [u, v] = [V.ref a, V.ref b] ∧ ((SqL X.K H' a xs ∧ SqL X.K H' b ys ∧ R (Itz X.K a b) H') ∨ (SqT X.K H' a xs ∧ SqT X.K H' b ys ∧ R (RZ.ItzT X.K a b) H'))) fun O1 H1 u v F1 ru rv rs s => by
    obtain ⟨a, xs, ea, ta, rl⟩ := ru
    obtain ⟨b, ys, eb, tb, rm⟩ := rv
    exact ⟨a, b, xs, ys, by rw [ea, eb], .inr ⟨TupAt.sq ta, TupAt.sq tb, q O1 H1 _ F1 (wk_zipT ta rl tb rm) rs s⟩⟩⟩⟩
end
theorem zip_self (ds : List D) : zipD ds ds = ds.map fun d => .tup [d, d] := by
  induction ds with
  | nil => rfl
  | cons d ds ih => rw [zipD, ih]; rfl
/-! ### comprehensions that leave the slots as they are -/
theorem lcR_map {X : Cx} {scope : Scope} {tg elt : Expr} {vs : List Nat} {α : Type} (f : α → D) (out : α → M) (env : Sls) : ∀ (as : List α),
    (∀ a ∈ as, ∃ env1 env2 : Sls, (InB X scope fun X' => Tg X' tg (f a) vs env env1) ∧ (InB X scope fun X' => Ev X' elt env1 (out a) env2) ∧ wipeE env2 vs = env) → LcR X scope tg elt [] vs (as.map f) env (as.map out) env
  | [], _ => .nil
  | a :: as, h => by
    obtain ⟨env1, env2, t, e, hw⟩ := h a (List.mem_cons_self ..)
    exact .yes t (fun _ _ _ _ _ => tvs_nil) e (by rw [hw]; exact lcR_map f out env as fun b hb => h b (List.mem_cons_of_mem _ hb))
theorem dcR_map {X : Cx} {scope : Scope} {tg kx vx : Expr} {vs : List Nat} {α : Type} (f : α → D) (key : α → Key) (val : α → D) (env : Sls) : ∀ (as : List α) (kvs : List (Key × D)),
    (∀ a ∈ as, ∃ env1 env2 env3 : Sls, (InB X scope fun X' => Tg X' tg (f a) vs env env1) ∧ (InB X scope fun X' => Ev X' kx env1 (.val (kD (key a))) env2) ∧ (InB X scope fun X' => Ev X' vx env2 (.val (val a)) env3) ∧ wipeE env3 vs = env) →
    DcR X scope tg kx vx [] vs (as.map f) kvs env (as.foldl (fun kvs a => putD kvs (key a) (val a)) kvs) env
  | [], kvs, _ => .nil
  | a :: as, kvs, h => by
    obtain ⟨env1, env2, env3, t, k, v, hw⟩ := h a (List.mem_cons_self ..)
    exact .yes t (fun _ _ _ _ _ => tvs_nil) k v (by rw [hw]; exact dcR_map f key val env as _ fun b hb => h b (List.mem_cons_of_mem _ hb))
theorem bare1 {env : Sls} {i : Nat} (h : env[i]? = some none) : Bare env [i] := fun j s hj hm => by
  rw [List.mem_singleton] at hm
  subst hm
  rw [h] at hj; cases hj
theorem bare2 {env : Sls} {i k : Nat} (h : env[i]? = some none) (h2 : env[k]? = some none) : Bare env [i, k] := fun j s hj hm => by
  rcases List.mem_cons.mp hm with e | hm
  · subst e; rw [h] at hj; cases hj
  · exact bare1 h2 j s hj hm
/-! ### isinstance of the built-in types -/
def kitT : List (String × String × Bool) :=
  [("NoneType", "bool", false), ("NoneType", "int", false), ("NoneType", "str", false), ("NoneType", "tuple", false), ("NoneType", "list", false), ("NoneType", "dict", false),
   ("bool", "bool", true), ("bool", "int", true), ("bool", "str", false), ("bool", "tuple", false), ("bool", "list", false), ("bool", "dict", false),
   ("int", "bool", false), ("int", "int", true), ("int", "str", false), ("int", "tuple", false), ("int", "list", false), ("int", "dict", false),
   ("str", "bool", false), ("str", "int", false), ("str", "str", true), ("str", "tuple", false), ("str", "list", false), ("str", "dict", false),
   ("tuple", "bool", false), ("tuple", "int", false), ("tuple", "str", false), ("tuple", "tuple", true), ("tuple", "list", false), ("tuple", "dict", false),
   ("list", "bool", false), ("list", "int", false), ("list", "str", false), ("list", "tuple", false), ("list", "list", true), ("list", "dict", false),
   ("dict", "bool", false), ("dict", "int", false), ("dict", "str", false), ("dict", "tuple", false), ("dict", "list", false), ("dict", "dict", true)]
def Kits (K : PySem.W.Frag) : Prop := ∀ p ∈ kitT, PySem.W.kitOne K (.type p.1) (.type p.2.1) = some p.2.2
theorem kits_all (K : PySem.W.Frag) : Kits K := by
  have z : ∀ p ∈ kitT, kitB p.1 p.2.1 = some p.2.2 := by decide +kernel
  exact fun p hp => kit_ty (z p hp)
theorem Kits.g {K : PySem.W.Frag} (h : Kits K) (t c : String) (b : Bool) (hm : (t, c, b) ∈ kitT) : PySem.W.kitOne K (.type t) (.type c) = some b := h _ hm
theorem Kits.two {K : PySem.W.Frag} {t a b : String} {p q : Bool} (h : PySem.W.kitOne K (.type t) (.type a) = some p) (k : PySem.W.kitOne K (.type t) (.type b) = some q) : PySem.W.kitAny K (.type t) [.type a, .type b] = some (p || q) := by
  unfold PySem.W.kitAny
  rw [h]
  cases p with
  | true => rfl
  | false =>
    show PySem.W.kitAny K (.type t) [.type b] = _
    unfold PySem.W.kitAny
    rw [k]
    cases q <;> rfl
/-! ### data that is compared with itself -/
mutual
def sameOk : D → Bool
  | .none => true | .bool _ => true | .int _ => true | .str s => PyData.strOk s
  | .tup ds => sameOkL ds && decide (ds.length ≤ 1000000) | .lst ds => sameOkL ds && decide (ds.length ≤ 1000000)
  | .dK _ _ => false | .dT _ _ => false | .ins _ _ _ => false | .scr _ => false
def sameOkL : List D → Bool
  | [] => true
  | d :: ds => sameOk d && sameOkL ds
end
mutual
def dep : D → Nat
  | .tup ds => depL ds + 1 | .lst ds => depL ds + 1
  | _ => 0
def depL : List D → Nat
  | [] => 0
  | d :: ds => max (dep d) (depL ds)
end
theorem sameOkL_mem : ∀ {ds : List D} {d : D}, sameOkL ds = true → d ∈ ds → sameOk d = true
  | [], _, _, h => nomatch h
  | e :: ds, d, h, hm => by
    have h := Bool.and_eq_true_iff.mp (show (sameOk e && sameOkL ds) = true from h)
    rcases List.mem_cons.mp hm with e | hm
    · subst e; exact h.1
    · exact sameOkL_mem h.2 hm
theorem depL_mem : ∀ {ds : List D} {d : D}, d ∈ ds → dep d ≤ depL ds
  | [], _, h => nomatch h
  | e :: ds, d, hm => by
    rcases List.mem_cons.mp hm with e | hm
    · subst e; exact Nat.le_max_left ..
    · exact Nat.le_trans (depL_mem hm) (Nat.le_max_right ..)
/-- False is not in a list of True -/
theorem pdL_trues (n : Nat) : ((pdL (List.replicate n (D.bool true))).any fun z => PyData.eqv z (pd (.bool false))) = false := by
  induction n with
  | zero => rfl
  | succ n ih => rw [List.replicate_succ, pdL, List.any_cons, ih]; rfl
theorem cmp_trues (n : Nat) : CmpD (.lst (List.replicate n (D.bool true))) := by
  have h : plainL (List.replicate n (D.bool true)) = true ∧ PyData.canLayAll0 (pdL (List.replicate n (D.bool true))) = true ∧ PyData.depthAll (pdL (List.replicate n (D.bool true))) = 0 := by
    induction n with
    | zero => exact ⟨rfl, by simp [pdL, PyData.canLayAll0], by simp [pdL, PyData.depthAll]⟩
    | succ n ih =>
      obtain ⟨h1, h2, h3⟩ := ih
      refine ⟨by simpa [List.replicate_succ, plainL, plain] using h1, ?_, ?_⟩
      · simpa [List.replicate_succ, pdL, pd, PyData.canLayAll0, PyData.canLay0] using h2
      · simp [List.replicate_succ, pdL, pd, PyData.depthAll, PyData.depth, h3]
  exact ⟨h.1, by simp [pd, SeqAt.shaped, PyData.canLay0, PyData.depth, h.2.1, h.2.2]⟩
theorem frzL_trues {α : Type} (as : List α) : M.lst (as.map fun _ => M.val (.bool true)) = .lst ((List.replicate as.length (D.bool true)).map M.val) := by
  congr 1
  induction as with
  | nil => rfl
  | cons a as ih => rw [List.map_cons, ih]; rfl
end Lin

end

section
namespace Lin
open PySem PySem.Spec PyProof.Rows L2
/-! ### numbers as texts -/
abbrev wd (k : Int) : Str := toString k
abbrev sp : Str := " "
theorem wd_cases {k : Int} (h0 : 0 ≤ k) (h1 : k ≤ 15) {P : Int → Prop} (h : ∀ i : Fin 16, P (i.val : Int)) : P k := by
  have := h ⟨k.toNat, by omega⟩
  simpa [Int.toNat_of_nonneg h0] using this
theorem wd_len {k : Int} (h0 : 0 ≤ k) (h1 : k ≤ 15) : 1 ≤ (wd k).length ∧ (wd k).length ≤ 2 := wd_cases h0 h1 (P := fun k => 1 ≤ (wd k).length ∧ (wd k).length ≤ 2) (by decide +kernel)
theorem wd_ok {k : Int} (h0 : 0 ≤ k) (h1 : k ≤ 15) : PyData.strOk (wd k) = true := wd_cases h0 h1 (P := fun k => PyData.strOk (wd k) = true) (by decide +kernel)
theorem wd_sp {k : Int} (h0 : 0 ≤ k) (h1 : k ≤ 15) : 32 ∉ (wd k).cps.toList := wd_cases h0 h1 (P := fun k => 32 ∉ (wd k).cps.toList) (by decide +kernel)
theorem wd_log {k : Int} (h0 : 0 ≤ k) (h1 : k ≤ 15) : k.natAbs.log2 < 1920 := wd_cases h0 h1 (P := fun k => k.natAbs.log2 < 1920) (by decide +kernel)
theorem wd_inj {j k : Int} (h0 : 0 ≤ j) (h1 : j ≤ 15) (g0 : 0 ≤ k) (g1 : k ≤ 15) (h : wd j = wd k) : j = k := by
  have z : ∀ a b : Fin 16, wd (a.val : Int) = wd (b.val : Int) → (a.val : Int) = (b.val : Int) := by decide +kernel
  have := z ⟨j.toNat, by omega⟩ ⟨k.toNat, by omega⟩ (by simpa [Int.toNat_of_nonneg h0, Int.toNat_of_nonneg g0] using h)
  simp only [Int.toNat_of_nonneg h0, Int.toNat_of_nonneg g0] at this
  exact this
abbrev digs : Str := "0123456789"
/-- the last two parts of a number's text -/
theorem wd_parts {k : Int} (h0 : 0 ≤ k) (h1 : k ≤ 15) : ∃ c : Nat, L2.atI digs.cps.toList (k % 10) = some c ∧ (if 9 < k then ("1" : Str) else ("" : Str)) ++ (⟨#[c]⟩ : Str) = wd k ∧ c < 256 := by
  have z : ∀ i : Fin 16, L2.atI digs.cps.toList ((i.val : Int) % 10) = some (48 + i.val % 10) ∧ (if 9 < (i.val : Int) then ("1" : Str) else ("" : Str)) ++ (⟨#[48 + i.val % 10]⟩ : Str) = wd (i.val : Int) := by decide +kernel
  obtain ⟨e1, e2⟩ := z ⟨k.toNat, by omega⟩
  simp only [Int.toNat_of_nonneg h0] at e1 e2
  exact ⟨48 + k.toNat % 10, e1, e2, by omega⟩
theorem str_assoc (a b c : Str) : a ++ b ++ c = a ++ (b ++ c) := by
  show (⟨a.cps ++ b.cps ++ c.cps⟩ : Str) = ⟨a.cps ++ (b.cps ++ c.cps)⟩
  rw [Array.append_assoc]
theorem str_nil (a : Str) : ("" : Str) ++ a = a := by
  show (⟨("" : Str).cps ++ a.cps⟩ : Str) = a
  have e : ("" : Str).cps = #[] := by decide +kernel
  rw [e, Array.empty_append]
theorem str_nil2 (a : Str) : a ++ ("" : Str) = a := by
  show (⟨a.cps ++ ("" : Str).cps⟩ : Str) = a
  have e : ("" : Str).cps = #[] := by decide +kernel
  rw [e, Array.append_empty]
theorem str_len (a b : Str) : (a ++ b).length = a.length + b.length := by
  show (a.cps ++ b.cps).size = _
  rw [Array.size_append]; rfl
theorem strOk_app {a b : Str} (ha : PyData.strOk a = true) (hb : PyData.strOk b = true) : PyData.strOk (a ++ b) = true := by
  show (a.cps ++ b.cps).all _ = true
  rw [Array.all_append, Bool.and_eq_true]
  exact ⟨ha, hb⟩
/-- a text grown word by word -/
def dueStep (acc : Str) (k : Int) : Str := acc ++ (if acc = ("" : Str) then ("" : Str) else sp) ++ wd k
theorem join_snoc : ∀ (ys : List Str) (y : Str), ys ≠ [] → Str.join sp (ys ++ [y]) = Str.join sp ys ++ sp ++ y
  | [], _, h => absurd rfl h
  | [x], y, _ => rfl
  | x :: z :: r, y, _ => by
    have ih := join_snoc (z :: r) y (by simp)
    show x ++ sp ++ Str.join sp ((z :: r) ++ [y]) = (x ++ sp ++ Str.join sp (z :: r)) ++ sp ++ y
    rw [ih]
    simp only [str_assoc]
theorem join_ne {ys : List Str} (h : ys ≠ []) (hp : ∀ y ∈ ys, 1 ≤ y.length) : Str.join sp ys ≠ ("" : Str) := fun e => by
  have hl : 1 ≤ (Str.join sp ys).length := by
    match ys, h with
    | [x], _ => exact hp x (List.mem_cons_self ..)
    | x :: z :: r, _ =>
      show 1 ≤ (x ++ sp ++ Str.join sp (z :: r)).length
      rw [str_len, str_len]
      have := hp x (List.mem_cons_self ..)
      omega
  rw [e] at hl
  exact absurd hl (by decide +kernel)
theorem due_join : ∀ (ks : List Int) (pre : List Int), (∀ k ∈ pre ++ ks, 0 ≤ k ∧ k ≤ 15) → ks.foldl dueStep (Str.join sp (pre.map wd)) = Str.join sp ((pre ++ ks).map wd)
  | [], pre, _ => by rw [List.append_nil]; rfl
  | k :: ks, pre, h => by
    have e : dueStep (Str.join sp (pre.map wd)) k = Str.join sp ((pre ++ [k]).map wd) := by
      by_cases hp : pre = []
      · subst hp
        show (("" : Str) ++ (if ("" : Str) = ("" : Str) then ("" : Str) else sp)) ++ wd k = wd k
        rw [if_pos rfl, str_nil, str_nil]
      · have hne : Str.join sp (pre.map wd) ≠ ("" : Str) := join_ne (fun z => hp (List.map_eq_nil_iff.mp z)) fun y hy => by
          obtain ⟨j, hj, rfl⟩ := List.mem_map.mp hy
          obtain ⟨h0, h1⟩ := h j (List.mem_append_left _ hj)
          exact (wd_len h0 h1).1
        unfold dueStep
        rw [if_neg hne, List.map_append, List.map_cons, List.map_nil, join_snoc _ _ (fun z => hp (List.map_eq_nil_iff.mp z))]
    rw [List.foldl_cons, e, due_join ks (pre ++ [k]) (by rw [List.append_assoc]; exact h), List.append_assoc]
    rfl
theorem due_all (ks : List Int) (h : ∀ k ∈ ks, 0 ≤ k ∧ k ≤ 15) : ks.foldl dueStep ("" : Str) = Str.join sp (ks.map wd) := due_join ks [] h
theorem due_split (ks : List Int) (hne : ks ≠ []) (h : ∀ k ∈ ks, 0 ≤ k ∧ k ≤ 15) : Txt.split (Str.join sp (ks.map wd)) sp = ks.map wd := by
  have z := TL.split_join (y := sp) (s := 32) (S := []) (by decide +kernel) (by decide +kernel) (parts := ks.map wd) (fun z => hne (List.map_eq_nil_iff.mp z)) fun p hp => by
    obtain ⟨k, hk, rfl⟩ := List.mem_map.mp hp
    obtain ⟨h0, h1⟩ := h k hk
    exact wd_sp h0 h1
  rw [TL.join_eq] at z
  exact z
theorem due_len (ks : List Int) (h : ∀ k ∈ ks, 0 ≤ k ∧ k ≤ 15) : (Str.join sp (ks.map wd)).length ≤ 3 * ks.length ∧ PyData.strOk (Str.join sp (ks.map wd)) = true := by
  induction ks with
  | nil => exact ⟨by decide +kernel, by decide +kernel⟩
  | cons k ks ih =>
    obtain ⟨h0, h1⟩ := h k (List.mem_cons_self ..)
    obtain ⟨i1, i2⟩ := ih fun j hj => h j (List.mem_cons_of_mem _ hj)
    have l := (wd_len h0 h1).2
    cases ks with
    | nil => exact ⟨by show (wd k).length ≤ 3 * 1; omega, wd_ok h0 h1⟩
    | cons j r =>
      refine ⟨?_, ?_⟩
      · show (wd k ++ sp ++ Str.join sp ((j :: r).map wd)).length ≤ _
        rw [str_len, str_len]
        have e : sp.length = 1 := by decide +kernel
        rw [e]
        simp only [List.length_cons] at i1 ⊢
        omega
      · show PyData.strOk (wd k ++ sp ++ Str.join sp ((j :: r).map wd)) = true
        exact strOk_app (strOk_app (wd_ok h0 h1) (by decide +kernel)) i2
theorem sum_len (ks : List Int) (h : ∀ k ∈ ks, 0 ≤ k ∧ k ≤ 15) : ((ks.map wd).map (·.length)).sum ≤ 2 * ks.length := by
  induction ks with
  | nil => simp
  | cons k ks ih =>
    obtain ⟨h0, h1⟩ := h k (List.mem_cons_self ..)
    have l := (wd_len h0 h1).2
    have := ih fun j hj => h j (List.mem_cons_of_mem _ hj)
    simp only [List.map_cons, List.sum_cons, List.length_cons] at this ⊢
    omega
/-! ### a dict by its puts -/
def lookD (kvs : List (Key × D)) (k : Key) : Option D := (kvs.find? fun kv => decide (kv.1 = k)).map (·.2)
theorem getD_look (kvs : List (Key × D)) (k : Key) : getD (kvs.map (·.1)) (kvs.map (·.2)) k = lookD kvs k := by
  unfold getD lookD
  have e : (kvs.map (·.1)).zip (kvs.map (·.2)) = kvs := by
    induction kvs with
    | nil => rfl
    | cons p r ih => rw [List.map_cons, List.map_cons, List.zip_cons_cons, ih]
  rw [e]
theorem look_map {k k' : Key} {v : D} : ∀ (kvs : List (Key × D)), lookD (kvs.map fun kv => if kv.1 = k then (kv.1, v) else kv) k' = if k' = k then (if (kvs.any fun kv => decide (kv.1 = k)) = true then some v else none) else lookD kvs k'
  | [] => by simp [lookD]
  | p :: r => by
    have ih := look_map (k := k) (k' := k') (v := v) r
    unfold lookD at ih ⊢
    by_cases h1 : p.1 = k <;> by_cases h2 : k' = k <;> by_cases h3 : p.1 = k' <;> simp_all <;> (congr 1; simp [h1])
theorem look_put (kvs : List (Key × D)) (k k' : Key) (v : D) : lookD (putD kvs k v) k' = if k' = k then some v else lookD kvs k' := by
  unfold putD
  split
  · rename_i h
    rw [look_map, if_pos h]
  · rename_i h
    unfold lookD
    rw [List.find?_append]
    by_cases e : k' = k
    · subst e
      rw [if_pos rfl]
      have hn : kvs.find? (fun kv => decide (kv.1 = k')) = none := by
        rw [List.find?_eq_none]
        intro x hx hd
        exact h (List.any_eq_true.mpr ⟨x, hx, hd⟩)
      rw [hn]
      simp
    · rw [if_neg e]
      have : ¬ k = k' := fun z => e z.symm
      simp [this]
theorem look_fold {α : Type} (key : α → Key) (val : α → D) (k : Key) (v : D) : ∀ (as : List α) (kvs : List (Key × D)), (∀ a ∈ as, key a = k → val a = v) → (lookD kvs k = some v ∨ ∃ a ∈ as, key a = k) → lookD (as.foldl (fun kvs a => putD kvs (key a) (val a)) kvs) k = some v
  | [], kvs, _, h => by
    rcases h with h | ⟨a, ha, _⟩
    · exact h
    · cases ha
  | a :: as, kvs, hv, h => by
    refine look_fold key val k v as _ (fun b hb => hv b (List.mem_cons_of_mem _ hb)) ?_
    rw [look_put]
    by_cases e : k = key a
    · rw [if_pos e, hv a (List.mem_cons_self ..) e.symm]
      exact .inl rfl
    · rw [if_neg e]
      rcases h with h | ⟨b, hb, hk⟩
      · exact .inl h
      · rcases List.mem_cons.mp hb with z | z
        · subst z; exact absurd hk.symm e
        · exact .inr ⟨b, z, hk⟩
section
variable {X : Cx} {env env1 : Sls} {e : Expr} {ks : List Key} {ds : List D}
theorem frz_dK : frz (.dK ks (ds.map M.val)) = .dK ks ds := by
  show D.dK ks (Lin.frzL (ds.map M.val)) = _
  rw [frzL_val]
theorem Ev.frzK (h : Ev X e env (.dK ks (ds.map M.val)) env1) : Ev X e env (.val (.dK ks ds)) env1 := h.frz.eq (by show M.val (.dK ks (Lin.frzL (ds.map M.val))) = _; rw [frzL_val])
end
end Lin

end

section
namespace Lin
open PySem PySem.Spec PyProof.Rows L2
section
variable {X : Cx} {env env1 env2 : Sls} {a b : Expr} {pos : Pos}
theorem ev_neS {z w : Str} (hz : PyData.strOk z = true) (hw : PyData.strOk w = true) (ha : Ev X a env (.val (.str z)) env1) (hb : Ev X b env1 (.val (.str w)) env2) (hu : X.A.units + 64 < cLine) : Ev X (.Compare a [.NotEq] [b] pos) env (.val (.bool (!decide (z = w)))) env2 := Ev.eq (ev_neD ha hb (cmp_str hz) (cmp_str hw) hu) (by rw [eqv_str])
end
/-! ### the law's own def -/
section
variable {P : Program} {w : World} {K : PySem.W.Frag} {mg : Str → Option Value} {base : Heap} {x : Str} {st : Stmt} {f : Addr} {fd : FuncData} {N ps : List Str} {k : Nat} {ds : List D} {r : M} {env0 : Sls}
theorem fnok0 (F : Fun K x x st f fd) (S : FnScope N ps (defScope st)) (hl : ds.length = ps.length) (h0 : env0 = start0 N ds)
    (body : In0 P w K mg base N x st k fun X => ∃ env', Ex X (defBody st) env0 (.rt r env')) : FnOk P w K mg base CX0 (k + 1) f fd ps (FS0 K ds r) := by
  refine F.ok S (fun vs H Q E h => ?_) (fun cdv A outer s H vs Q E hr h => ?_)
  · obtain ⟨O, _, rl, _⟩ := h
    rw [rl.len, hl]
  · obtain ⟨O, wf, rl, q⟩ := h
    obtain ⟨env', ex⟩ := body f cdv A outer s H E hr
    subst h0
    refine ex O H (L2.start N vs) [] ?_ wf _ fun O' H' σ' v Fv F' rm rs s' _ => q O' H' v Fv rm s'.dropR
    have z := repS_start (K := K) (O := O) (H := H) (N.length - ds.length) ds rl
    unfold L2.start start0
    rw [rl.len]
    exact z
theorem fnok_ex {ι : Type} {sps : ι → Sp} (h : ∀ i, FnOk P w K mg base CX0 k f fd ps (sps i)) : FnOk P w K mg base CX0 k f fd ps (fun vs H Q E => ∃ i, sps i vs H Q E) :=
  ⟨fun vs H Q E ⟨i, z⟩ => (h i).len vs H Q E z, fun A outer s H args us vs Q E hr he hb hv ⟨i, z⟩ => (h i).run A outer s H args us vs Q E hr he hb hv z⟩
/-- for every script the law gives True -/
def SpLaw (K : PySem.W.Frag) : Sp := fun vs H Q E => ∃ ns : { ns : List Int // ns.length ≤ 63 }, FS0 K [.scr ns.1] (.val (.bool true)) vs H Q E
theorem spLaw_of {n : Nat} (hn : n ≤ 63) (H : Hp) (a : Addr) (ns : List Int) (hl : ns.length ≤ n) (hS : SqL K H a (ns.map V.int)) : SpLaw K [.ref a] H (fun v _ => v = .bl true) fun _ _ _ => False := by
  refine ⟨⟨ns, Nat.le_trans hl hn⟩, fun _ => False, ⟨List.nodup_nil, (fun _ h => nomatch h), fun _ (h : False) => h.elim⟩, ⟨_, _, rfl, ⟨a, rfl, ?_⟩, rfl⟩, fun O' H' v Fv rm s => rm.2⟩
  rcases hS with h | h
  · exact .inl ⟨fun z => z, h⟩
  · exact .inr h
theorem Df.mk {oc : Value} {od an : Option Addr} {osl : Array (Option Value)} {kV doc pm cdv ct : Value} (l : K.lookup f = some ⟨oc, od, .func (PySem.W.fnOf x x (defArgs st) (defBody st) (defScope st) .none kV doc pm an cdv ct), osl⟩) (c : PySem.W.codeIn K cdv x = true) (kp : PySem.W.keepIn K (.ref f) = true)
    (hb : ∀ (kV doc pm : Value) (an : Option Addr) (cdv ct : Value) (us : List Value), us.length = ps.length → bindArgs (PySem.W.fnOf x x (defArgs st) (defBody st) (defScope st) .none kV doc pm an cdv ct) ⟨us, []⟩ = pure (ps.zip us)) (g : mg x = some (.ref f)) : Df K mg x st ps :=
  ⟨f, _, fun_mk l c kp, (fun_mk (st := st) l c kp).binds hb, g⟩
end
theorem depL_ints (ks : List Int) : depL (ks.map D.int) = 0 := by
  induction ks with
  | nil => rfl
  | cons k ks ih => rw [List.map_cons, depL, ih]; rfl
theorem sameOkL_ints (ks : List Int) : sameOkL (ks.map D.int) = true := by
  induction ks with
  | nil => rfl
  | cons k ks ih => rw [List.map_cons, sameOkL, ih]; rfl
/-! ### pieces of a text -/
def asV : Stmt → Expr
  | .Assign _ v _ => v
  | _ => .Constant .none 0 ⟨0, 0, 0, 0⟩
def tuI : Expr → Nat → Expr
  | .Tuple es _ _, i => es.getD i (.Constant .none 0 ⟨0, 0, 0, 0⟩)
  | .List es _, i => es.getD i (.Constant .none 0 ⟨0, 0, 0, 0⟩)
  | _, _ => .Constant .none 0 ⟨0, 0, 0, 0⟩
def caI : Expr → Nat → Expr
  | .Call _ as _ _, i => as.getD i (.Constant .none 0 ⟨0, 0, 0, 0⟩)
  | _, _ => .Constant .none 0 ⟨0, 0, 0, 0⟩
def lcE : Expr → Expr
  | .ListComp e _ _ _ => e
  | _ => .Constant .none 0 ⟨0, 0, 0, 0⟩
def lcT : Expr → Expr
  | .ListComp _ (g :: _) _ _ => g.target
  | _ => .Constant .none 0 ⟨0, 0, 0, 0⟩
def lcS (d : Scope) : Expr → Scope
  | .ListComp _ _ s _ => s
  | _ => d
end Lin

end

section
namespace Lin
open PySem PySem.Spec PyProof.Rows L2

/-! ### heaps that differ in a lock alone -/
def NF : HO → Prop
  | .frz _ _ => False
  | _ => True
structure Cv (H H' : Hp) : Prop where
  rd : ∀ a U, NF U → Rd H a U → Rd H' a U
  ls : ∀ a xs, H a = some (.lst xs) → H' a = some (.lst xs)
  is : ∀ a C dx f, H a = some (.ins C dx f) → H' a = some (.ins C dx f)
section
variable {K : PySem.W.Frag} {O : OW} {H H' : Hp}
mutual
theorem Rep.cv (c : Cv H H') : ∀ (d : D) {v : V}, Rep K O H d v → Rep K O H' d v
  | .none, _, h => h
  | .bool _, _, h => h
  | .int _, _, h => h
  | .str _, _, h => h
  | .tup ds, _, ⟨a, xs, e, p, q⟩ => ⟨a, xs, e, p.imp (fun p => ⟨p.1, c.rd _ _ trivial p.2⟩) id, RepL.cv c ds q⟩
  | .lst ds, _, ⟨a, xs, e, p, r, q⟩ => ⟨a, xs, e, p, c.ls _ _ r, RepL.cv c ds q⟩
  | .dK ks ds, _, ⟨a, kvs, e, p, r, z, q⟩ => ⟨a, kvs, e, p, c.rd _ _ trivial r, z, RepL.cv c ds q⟩
  | .dT ks ds, _, ⟨a, kvs, e, p, r, z, q⟩ => ⟨a, kvs, e, p, c.rd _ _ trivial r, z, RepL.cv c ds q⟩
  | .ins C fs ds, _, ⟨a, dx, kvs, e, p, r, z, q⟩ => ⟨a, dx, kvs, e, p, c.is _ _ _ _ r, z, RepL.cv c ds q⟩
  | .scr ns, _, ⟨a, e, p⟩ => ⟨a, e, p.imp (fun p => ⟨p.1, c.rd _ _ trivial p.2⟩) id⟩
theorem RepL.cv (c : Cv H H') : ∀ (ds : List D) {xs : List V}, RepL K O H ds xs → RepL K O H' ds xs
  | [], _, h => h
  | d :: ds, _, ⟨v, vs, e, p, q⟩ => ⟨v, vs, e, Rep.cv c d p, RepL.cv c ds q⟩
end
mutual
theorem RepM.cv (c : Cv H H') : ∀ (m : M) {v : V} {F : List Addr}, (∀ a o, a ∈ F → H a = some o → H' a = some o) → RepM K O H m v F → RepM K O H' m v F
  | .val d, _, _, _, ⟨e, h⟩ => ⟨e, Rep.cv c d h⟩
  | .lst ms, _, _, hf, ⟨a, xs, F', e, ef, h, r⟩ => ⟨a, xs, F', e, ef, hf a _ (ef ▸ List.mem_cons_self ..) h, RepML.cv c ms (fun a o z => hf a o (ef ▸ List.mem_cons_of_mem _ z)) r⟩
  | .dK ks ms, _, _, hf, ⟨a, kvs, F', e, ef, h, z, r⟩ => ⟨a, kvs, F', e, ef, hf a _ (ef ▸ List.mem_cons_self ..) h, z, RepML.cv c ms (fun a o z => hf a o (ef ▸ List.mem_cons_of_mem _ z)) r⟩
  | .dT ks ms, _, _, hf, ⟨a, kvs, F', e, ef, h, z, r⟩ => ⟨a, kvs, F', e, ef, hf a _ (ef ▸ List.mem_cons_self ..) h, z, RepML.cv c ms (fun a o z => hf a o (ef ▸ List.mem_cons_of_mem _ z)) r⟩
  | .ins C fs ms, _, _, hf, ⟨a, dx, kvs, F', e, ef, h, z, r⟩ => ⟨a, dx, kvs, F', e, ef, hf a _ (ef ▸ List.mem_cons_self ..) h, z, RepML.cv c ms (fun a o z => hf a o (ef ▸ List.mem_cons_of_mem _ z)) r⟩
theorem RepML.cv (c : Cv H H') : ∀ (ms : List M) {xs : List V} {F : List Addr}, (∀ a o, a ∈ F → H a = some o → H' a = some o) → RepML K O H ms xs F → RepML K O H' ms xs F
  | [], _, _, _, h => h
  | m :: ms, _, _, hf, ⟨v, vs, F1, F2, e, ef, p, q⟩ => ⟨v, vs, F1, F2, e, ef, RepM.cv c m (fun a o z => hf a o (ef ▸ List.mem_append_left _ z)) p, RepML.cv c ms (fun a o z => hf a o (ef ▸ List.mem_append_right _ z)) q⟩
end
theorem RepS.cv (c : Cv H H') : ∀ (es : Sls) {σ : L2.St} {F : List Addr}, (∀ a o, a ∈ F → H a = some o → H' a = some o) → RepS K O H es σ F → RepS K O H' es σ F
  | [], _, _, _, h => h
  | none :: es, _, _, hf, ⟨o, σ', e, r⟩ => ⟨o, σ', e, RepS.cv c es hf r⟩
  | some s :: es, _, _, hf, ⟨v, σ', F1, F2, e, ef, p, q⟩ => ⟨v, σ', F1, F2, e, ef, RepM.cv c s.m (fun a o z => hf a o (ef ▸ List.mem_append_left _ z)) p, RepS.cv c es (fun a o z => hf a o (ef ▸ List.mem_append_right _ z)) q⟩
theorem cv_lock {d : Addr} {kvs : List (Key × V)} {od : Obj} (h : H d = some (.dK kvs)) : Cv H (upd H d (.frz od (.dK kvs))) := by
  refine ⟨fun a U nf r => ?_, fun a xs r => ?_, fun a C dx f r => ?_⟩
  · by_cases e : a = d
    · subst e
      rcases r with r | ⟨o, r⟩
      · rw [h] at r; cases r
        exact .inr ⟨od, upd_same⟩
      · rw [h] at r; cases r
    · rcases r with r | ⟨o, r⟩
      · exact .inl (by rw [upd_ne e]; exact r)
      · exact .inr ⟨o, by rw [upd_ne e]; exact r⟩
  · rw [upd_ne (fun e => by subst e; rw [h] at r; cases r)]; exact r
  · rw [upd_ne (fun e => by subst e; rw [h] at r; cases r)]; exact r
theorem cv_unlock {d : Addr} {kvs : List (Key × V)} {od : Obj} (h : H d = some (.frz od (.dK kvs))) : Cv H (upd H d (.dK kvs)) := by
  refine ⟨fun a U nf r => ?_, fun a xs r => ?_, fun a C dx f r => ?_⟩
  · by_cases e : a = d
    · subst e
      rcases r with r | ⟨o, r⟩
      · rw [h] at r; cases r
        exact nf.elim
      · rw [h] at r; cases r
        exact .inl upd_same
    · rcases r with r | ⟨o, r⟩
      · exact .inl (by rw [upd_ne e]; exact r)
      · exact .inr ⟨o, by rw [upd_ne e]; exact r⟩
  · rw [upd_ne (fun e => by subst e; rw [h] at r; cases r)]; exact r
  · rw [upd_ne (fun e => by subst e; rw [h] at r; cases r)]; exact r
/-- a step under a lock is a step -/
theorem Step.locked {O' : OW} {F F' : List Addr} {d : Addr} {u lk : HO} (w : Wf O H F) (hd : H d = some u) (no : ¬ O d) (s : Step O (upd H d lk) F O' H' F') : H' d = some lk ∧ Step O H F O' (upd H' d u) F' := by
  have hdF : d ∉ F := fun z => no (w.own d z)
  have e1 : H' d = some lk := s.frame d _ upd_same hdF
  refine ⟨e1, fun a o h n => ?_, fun a h => ?_, s.old, fun a h => ?_, s.wf.nd, s.wf.own, fun a h => ?_⟩
  · by_cases e : a = d
    · subst e
      rw [hd] at h; cases h
      exact upd_same
    · rw [upd_ne e]
      exact s.frame a o (by rw [upd_ne e]; exact h) n
  · rcases s.nw a h with z | z
    · exact .inl z
    · by_cases e : a = d
      · subst e; rw [upd_same] at z; cases z
      · rw [upd_ne e] at z; exact .inr z
  · rcases s.fp a h with z | z
    · exact .inl z
    · by_cases e : a = d
      · subst e; rw [upd_same] at z; cases z
      · rw [upd_ne e] at z; exact .inr z
  · obtain ⟨o, z⟩ := s.wf.dom a h
    by_cases e : a = d
    · exact ⟨u, by rw [e]; exact upd_same⟩
    · exact ⟨o, by rw [upd_ne e]; exact z⟩
theorem Wf.lock {F : List Addr} {d : Addr} {lk : HO} (w : Wf O H F) : Wf O (upd H d lk) F := ⟨w.nd, w.own, fun a h => by
  obtain ⟨o, z⟩ := w.dom a h
  by_cases e : a = d
  · exact ⟨lk, by rw [e]; exact upd_same⟩
  · exact ⟨o, by rw [upd_ne e]; exact z⟩⟩
theorem not_own {O' : OW} {F F' : List Addr} {d : Addr} {o : HO} (s : Step O H F O' H' F') (no : ¬ O d) (hd : H d = some o) : ¬ O' d := fun z => by
  rcases s.nw d z with q | q
  · exact no q
  · rw [hd] at q; cases q
end

/-! ### walks over a dict that a name has -/
section
variable {K : PySem.W.Frag} {O : OW} {H : Hp} {ds : List D} {ks : List Key} {kvs : List (Key × V)} {d : Addr} {o : Obj}
theorem keys_at {i : Nat} {k : Key} {v : V} (h : kvs.map (·.1) = ks) (e : kvs[i]? = some (k, v)) {x : D} (hx : (ks.map kD)[i]? = some x) : x = kD k := by
  rw [← h, List.map_map, List.getElem?_map, e] at hx
  exact (Option.some.inj hx).symm
theorem rep_key {k : Key} : Rep K O H (kD k) (kV k) := by cases k <;> rfl
theorem wk_keys (no : ¬ O d) (hd : H d = some (.frz o (.dK kvs))) (hk : kvs.map (·.1) = ks) : Wk K O H (Itk d o kvs) (ks.map kD) :=
  wk_of walk_keys (by rw [List.length_map, ← hk, List.length_map]) (fun O' H' kp => kp.1 d _ hd no) fun O' H' F' i x y H2 kp wf hx ⟨e, k, v, h1, h2⟩ => by
    subst e
    refine ⟨Step.refl wf.nil, ?_⟩
    rw [keys_at hk h1 hx, h2]
    exact rep_key
def itemsD : List Key → List D → List D
  | k :: ks, d :: ds => .tup [kD k, d] :: itemsD ks ds
  | _, _ => []
theorem itemsD_len : ∀ {ks : List Key} {ds : List D}, ks.length = ds.length → (itemsD ks ds).length = ks.length
  | [], _, _ => rfl
  | _ :: _, [], h => by simp at h
  | k :: ks, d :: ds, h => by rw [itemsD, List.length_cons, itemsD_len (by simpa using h), List.length_cons]
theorem itemsD_at : ∀ {ks : List Key} {ds : List D} {i : Nat} {x : D}, (itemsD ks ds)[i]? = some x → ∃ k e, ks[i]? = some k ∧ ds[i]? = some e ∧ x = .tup [kD k, e]
  | [], _, _, _, h => by simp [itemsD] at h
  | _ :: _, [], _, _, h => by simp [itemsD] at h
  | k :: ks, d :: ds, 0, x, h => by
    have q : D.tup [kD k, d] = x := by simpa [itemsD] using h
    exact ⟨k, d, rfl, rfl, q.symm⟩
  | k :: ks, d :: ds, i + 1, x, h => by
    obtain ⟨k', e, h1, h2, h3⟩ := itemsD_at (ks := ks) (ds := ds) (i := i) (x := x) (by simpa [itemsD] using h)
    exact ⟨k', e, by simpa using h1, by simpa using h2, h3⟩
theorem wk_items (no : ¬ O d) (hd : H d = some (.frz o (.dK kvs))) (hk : kvs.map (·.1) = ks) (rl : RepL K O H ds (kvs.map (·.2))) : Wk K O H (Iti d o kvs) (itemsD ks ds) :=
  wk_of walk_items (by
      have h1 := rl.len
      rw [List.length_map] at h1
      have h2 := congrArg List.length hk
      rw [List.length_map] at h2
      rw [itemsD_len (by omega)]; exact h2) (fun O' H' kp => kp.1 d _ hd no) fun O' H' F' i x y H2 kp wf hx ⟨T, a, b, ey, hT, eH, h1, h2⟩ => by
    obtain ⟨k, e, g1, g2, g3⟩ := itemsD_at hx
    subst ey eH g3
    obtain ⟨p, hp, rfl⟩ := Option.map_eq_some_iff.mp h1
    obtain ⟨p2, hp2, rfl⟩ := Option.map_eq_some_iff.mp h2
    rw [hp] at hp2; cases hp2
    have ek : p.1 = k := by
      rw [← hk, List.getElem?_map, hp] at g1
      exact Option.some.inj g1
    rw [ek]
    exact rep_pair wf.nil hT rep_key (repL_at (rl.kept kp) g2 (by rw [List.getElem?_map, hp]; rfl))
end
/-- a walk over the dict in slot i, locked -/
def LIv (X : Cx) (tg it : Expr) (env : Sls) (ys : List D) (i : Nat) (ks : List Key) (ds : List D) : Prop := ∀ (O : OW) (H : Hp) (σ : L2.St) (F : List Addr), RepS X.K O H env σ F → Wf O H F →
  ∀ (d : Addr) (o : Obj) (kvs : List (Key × V)), σ[i]? = some (some (.ref d)) → ¬ O d → H d = some (.frz o (.dK kvs)) → kvs.map (·.1) = ks → RepL X.K O H ds (kvs.map (·.2)) → ∀ R : It → Hp → Prop, (∀ J : It, Wk X.K O H J ys → R J H) → wI X tg it σ H R
section
variable {X : Cx} {env env1 env' : Sls} {ys ds : List D} {ks : List Key} {ms : List M} {pos p apos cpos : Pos} {elt tg it : Expr} {ifs : List Expr} {scope : Scope} {own : List (Str × Nat)} {n : Str} {body : List Stmt} {out : Out} {elts : List Expr} {kk : Nat} {tpos : Pos}
theorem liv_keys (i : Nat) (hN : X.N[i]? = some n := by rfl) (hv : Vis X.env.scope n := by first | exact Or.inl rfl | exact Or.inr (Or.inl rfl) | exact Or.inr (Or.inr rfl)) (hd : (n == ("__debug__" : Str)) = false := by decide) (hcd : (n == ("__classdict__" : Str)) = false := by decide) : LIv X tg (.Name n p) env (ks.map kD) i ks ds :=
  fun O H σ F r w d o kvs hs no hd' hk rl R q => ⟨_, pi_keys (pe_var hN hv hd hcd), .ref d, hs, d, o, rfl, .inl ⟨kvs, hd', q _ (wk_keys no hd' hk)⟩⟩
theorem liv_items (i : Nat) (hN : X.N[i]? = some n := by rfl) (hv : Vis X.env.scope n := by first | exact Or.inl rfl | exact Or.inr (Or.inl rfl) | exact Or.inr (Or.inr rfl)) (hd : (n == ("__debug__" : Str)) = false := by decide) (hcd : (n == ("__classdict__" : Str)) = false := by decide)
    (hbase : attributeBase (.Name n p) "items" X.env (eval (.Name n p) X.env) = eval (.Name n p) X.env := by rfl) (hline : (apos.endLine == cpos.line) = true := by rfl) : LIv X (.Tuple elts kk tpos) (.Call (.Attribute (.Name n p) "items" apos) [] [] cpos) env (itemsD ks ds) i ks ds :=
  fun O H σ F r w d o kvs hs no hd' hk rl R q => ⟨_, pi_items (pe_var hN hv hd hcd) hbase hline, .ref d, hs, d, o, kvs, rfl, hd', q _ (wk_items no hd' hk rl)⟩
theorem off_F {O : OW} {H : Hp} {F : List Addr} {d : Addr} {u : HO} (w : Wf O H F) (no : ¬ O d) : ∀ a o, a ∈ F → H a = some o → upd H d u a = some o := fun a o ha h => by
  rw [upd_ne (fun e => no (by rw [← e]; exact w.own a ha))]; exact h
theorem ev_lcD (i : Nat) (h : env[i]? = some (vl (.dK ks ds))) (hi : LIv X tg it env ys i ks ds) (hr : LcR X scope tg elt ifs (own.map (·.2)) ys env ms env') (hb : Bare env (own.map (·.2))) (ok : BlkOk X.N X.env.scope scope own) (hz : ys.length ≤ sizeLine) (hN : X.N.Nodup := by assumption)
    (hc : X.calm = true := by rfl) (hs : ∀ x, foldedSetIterable it X.env x = pure x := by intro _; rfl) : Ev X (.ListComp elt [⟨tg, it, ifs, 0⟩] scope pos) env (.lst ms) env' :=
  ⟨hr.io X.s_0 X.H_0 hb, fun O H σ F r w Q q => by
    obtain ⟨v, F1, Fi, F2, e1, ef, ⟨_, a, kvs, rfl, no, rd, hk, rl⟩, _, _⟩ := RepS.at r h
    rcases rd with rd | ⟨o, rd⟩
    · refine ⟨_, pe_lock (pe_lc hc hN pi_w ok bg_ok bts_ok be_ok hs), a, .dK kvs, rd, trivial, fun od => ?_⟩
      have c := cv_lock (od := od) rd
      have r1 := RepS.cv (K := X.K) (O := O) c env (off_F w no) r
      have w1 : Wf O (upd H a (.frz od (.dK kvs))) F := w.lock
      refine lc_semS O _ σ F (fun R q' => hi O _ σ F r1 w1 a od kvs e1 no upd_same hk (RepL.cv c ds rl) R fun J wk => q' O _ J F wk r1 (Step.refl w1)) hr hb hz w1 _ fun O' H' v Fv F' rm rs st => ?_
      obtain ⟨e2, st2⟩ := Step.locked w rd no st
      have c2 := cv_unlock e2
      have no' : ¬ O' a := not_own st no upd_same
      exact ⟨e2, q O' _ v Fv F' (RepM.cv c2 _ (fun b o hb hbo => by rw [upd_ne (fun e => no' (by rw [← e]; exact st.wf.own b (List.mem_append_left _ hb)))]; exact hbo) rm) (RepS.cv c2 _ (fun b o hb hbo => by rw [upd_ne (fun e => no' (by rw [← e]; exact st.wf.own b (List.mem_append_right _ hb)))]; exact hbo) rs) st2⟩
    · exact ⟨_, pe_lc hc hN pi_w ok bg_ok bts_ok be_ok hs, lc_semS O H σ F (fun R q' => hi O H σ F r w a o kvs e1 no rd hk rl R fun J wk => q' O H J F wk r (Step.refl w)) hr hb hz w Q q⟩⟩
/-- what is granted is granted under a lock -/
theorem Grants.lock {D : Ends} {O : OW} {H : Hp} {σ : L2.St} {F : List Addr} {d : Addr} {kvs : List (Key × V)} {od : Obj} (w : Wf O H F) (hd : H d = some (.dK kvs)) (no : ¬ O d) : ∀ {out : Out}, Grants X out D O H env σ F →
    Grants X out ⟨fun σ' H' => H' d = some (.frz od (.dK kvs)) ∧ D.nx σ' (upd H' d (.dK kvs)), fun v H' => H' d = some (.frz od (.dK kvs)) ∧ D.rt v (upd H' d (.dK kvs)), fun σ' H' => H' d = some (.frz od (.dK kvs)) ∧ D.bk σ' (upd H' d (.dK kvs)), fun σ' H' => H' d = some (.frz od (.dK kvs)) ∧ D.ct σ' (upd H' d (.dK kvs))⟩ O (upd H d (.frz od (.dK kvs))) env σ F
  | .nx _, g => fun O' H' σ' F' r s p => by
    obtain ⟨e2, s2⟩ := Step.locked w hd no s
    have no' : ¬ O' d := not_own s no upd_same
    exact ⟨e2, g O' _ σ' F' (RepS.cv (cv_unlock e2) _ (off_F s.wf no') r) s2 p⟩
  | .bk _, g => fun O' H' σ' F' r s p => by
    obtain ⟨e2, s2⟩ := Step.locked w hd no s
    have no' : ¬ O' d := not_own s no upd_same
    exact ⟨e2, g O' _ σ' F' (RepS.cv (cv_unlock e2) _ (off_F s.wf no') r) s2 p⟩
  | .ct _, g => fun O' H' σ' F' r s p => by
    obtain ⟨e2, s2⟩ := Step.locked w hd no s
    have no' : ¬ O' d := not_own s no upd_same
    exact ⟨e2, g O' _ σ' F' (RepS.cv (cv_unlock e2) _ (off_F s.wf no') r) s2 p⟩
  | .rt _ _, g => fun O' H' σ' v Fv F' rm r s p => by
    obtain ⟨e2, s2⟩ := Step.locked w hd no s
    have no' : ¬ O' d := not_own s no upd_same
    exact ⟨e2, g O' _ σ' v Fv F' (RepM.cv (cv_unlock e2) _ (fun b o hb hbo => by rw [upd_ne (fun e => no' (by rw [← e]; exact s.wf.own b (List.mem_append_left _ hb)))]; exact hbo) rm) (RepS.cv (cv_unlock e2) _ (fun b o hb hbo => by rw [upd_ne (fun e => no' (by rw [← e]; exact s.wf.own b (List.mem_append_right _ hb)))]; exact hbo) r) s2 p⟩
theorem x1_forD (i : Nat) (h : env[i]? = some (vl (.dK ks ds))) (hi : LIv X tg it env ys i ks ds) (hr : ForR X tg body ys env out) (hp : PassesOwn (model X.prog X.w) X.A X.env X.xe := by exact PassesOwn.never) (hc : X.calm = true := by rfl) (hs : ∀ x, foldedSetIterable it X.env x = pure x := by intro _; rfl) :
    Ex1 X (.For tg it body [] pos) env out := fun O H σ F r w D g => by
  obtain ⟨v, F1, Fi, F2, e1, ef, ⟨_, a, kvs, rfl, no, rd, hk, rl⟩, _, _⟩ := RepS.at r h
  rcases rd with rd | ⟨o, rd⟩
  · refine ⟨_, ps_lock (ps_for hp hc pi_w pg_w pss_w hs), a, .dK kvs, rd, trivial, fun od => ?_⟩
    have c := cv_lock (od := od) rd
    have r1 := RepS.cv (K := X.K) (O := O) c env (off_F w no) r
    have w1 : Wf O (upd H a (.frz od (.dK kvs))) F := w.lock
    exact for_semS (Io.refl env) (fun R q' => hi O _ σ F r1 w1 a od kvs e1 no upd_same hk (RepL.cv c ds rl) R fun J wk => q' O _ J F wk r1 (Step.refl w1)) hr w1 (g.lock w rd no)
  · exact ⟨_, ps_for hp hc pi_w pg_w pss_w hs, for_semS (Io.refl env) (fun R q' => hi O H σ F r w a o kvs e1 no rd hk rl R fun J wk => q' O H J F wk r (Step.refl w)) hr w g⟩
end

/-! ### a look at an owned dict: the expression sees it frozen -/
mutual
def flat : M → Bool
  | .val .none => true | .val (.bool _) => true | .val (.int _) => true | .val (.str _) => true
  | .val _ => false
  | .lst ms => flatL ms
  | .dK _ _ => false | .dT _ _ => false | .ins _ _ _ => false
def flatL : List M → Bool
  | [] => true
  | m :: ms => flat m && flatL ms
end
section
variable {K : PySem.W.Frag} {O O' : OW} {H : Hp}
mutual
theorem RepM.flat : ∀ (m : M) {v : V} {F : List Addr}, Lin.flat m = true → RepM K O H m v F → RepM K O' H m v F
  | .val .none, _, _, _, h => h
  | .val (.bool _), _, _, _, h => h
  | .val (.int _), _, _, _, h => h
  | .val (.str _), _, _, _, h => h
  | .val (.tup _), _, _, hf, _ => by cases hf
  | .val (.lst _), _, _, hf, _ => by cases hf
  | .val (.dK _ _), _, _, hf, _ => by cases hf
  | .val (.dT _ _), _, _, hf, _ => by cases hf
  | .val (.ins _ _ _), _, _, hf, _ => by cases hf
  | .val (.scr _), _, _, hf, _ => by cases hf
  | .lst ms, _, _, hf, ⟨a, xs, F', e, ef, h, r⟩ => ⟨a, xs, F', e, ef, h, RepML.flat ms hf r⟩
  | .dK _ _, _, _, hf, _ => by cases hf
  | .dT _ _, _, _, hf, _ => by cases hf
  | .ins _ _ _, _, _, hf, _ => by cases hf
theorem RepML.flat : ∀ (ms : List M) {vs : List V} {F : List Addr}, Lin.flatL ms = true → RepML K O H ms vs F → RepML K O' H ms vs F
  | [], _, _, _, h => h
  | m :: ms, _, _, hf, ⟨v, vs, F1, F2, e, ef, p, q⟩ => by
    have hf := Bool.and_eq_true_iff.mp (show (Lin.flat m && Lin.flatL ms) = true from hf)
    exact ⟨v, vs, F1, F2, e, ef, RepM.flat m hf.1 p, RepML.flat ms hf.2 q⟩
end
/-- the slots that hold data alone -/
def strip : Sls → Sls
  | [] => []
  | some (.own (.val d)) :: es => vl d :: strip es
  | _ :: es => none :: strip es
theorem RepS.strip : ∀ {es : Sls} {σ : L2.St} {F : List Addr}, RepS K O H es σ F → RepS K O H (Lin.strip es) σ []
  | [], _, _, ⟨e, _⟩ => ⟨e, rfl⟩
  | none :: es, _, _, ⟨o, σ', e, r⟩ => ⟨o, σ', e, r.strip⟩
  | some (.own (.val d)) :: es, _, _, ⟨v, σ', F1, F2, e, ef, p, r⟩ => ⟨v, σ', [], [], e, rfl, ⟨rfl, p.2⟩, r.strip⟩
  | some (.own (.lst _)) :: es, _, _, ⟨v, σ', F1, F2, e, ef, p, r⟩ => ⟨some v, σ', e, r.strip⟩
  | some (.own (.dK _ _)) :: es, _, _, ⟨v, σ', F1, F2, e, ef, p, r⟩ => ⟨some v, σ', e, r.strip⟩
  | some (.own (.dT _ _)) :: es, _, _, ⟨v, σ', F1, F2, e, ef, p, r⟩ => ⟨some v, σ', e, r.strip⟩
  | some (.own (.ins _ _ _)) :: es, _, _, ⟨v, σ', F1, F2, e, ef, p, r⟩ => ⟨some v, σ', e, r.strip⟩
  | some (.io _) :: es, _, _, ⟨v, σ', F1, F2, e, ef, p, r⟩ => ⟨some v, σ', e, r.strip⟩
theorem strip_len : ∀ es : Sls, (Lin.strip es).length = es.length
  | [] => rfl
  | none :: es => by show (Lin.strip es).length + 1 = _; rw [strip_len es]; rfl
  | some (.own (.val d)) :: es => by show (Lin.strip es).length + 1 = _; rw [strip_len es]; rfl
  | some (.own (.lst _)) :: es => by show (Lin.strip es).length + 1 = _; rw [strip_len es]; rfl
  | some (.own (.dK _ _)) :: es => by show (Lin.strip es).length + 1 = _; rw [strip_len es]; rfl
  | some (.own (.dT _ _)) :: es => by show (Lin.strip es).length + 1 = _; rw [strip_len es]; rfl
  | some (.own (.ins _ _ _)) :: es => by show (Lin.strip es).length + 1 = _; rw [strip_len es]; rfl
  | some (.io _) :: es => by show (Lin.strip es).length + 1 = _; rw [strip_len es]; rfl
theorem repL_vals : ∀ {ds : List D} {vs : List V} {F : List Addr}, RepML K O H (ds.map M.val) vs F → RepL K O H ds vs
  | [], _, _, ⟨h, _⟩ => h
  | d :: ds, _, _, ⟨v, vs, F1, F2, e, ef, p, q⟩ => ⟨v, vs, e, p.2, repL_vals q⟩
end
section
variable {X : Cx} {env : Sls} {e : Expr} {m : M} {ks : List Key} {ds : List D} {s : Sl}
theorem look_sem (i : Nat) (hi : env[i]? = some (some s)) (hm : s.m = .dK ks (ds.map M.val)) {O : OW} {H : Hp} {σ : L2.St} {F : List Addr} (r : RepS X.K O H env σ F) (w : Wf O H F) :
    ∃ O1 : OW, Wf O1 H [] ∧ RepS X.K O1 H ((strip env).set i (vl (.dK ks ds))) σ [] ∧ ∀ (O' : OW) (H' : Hp) (v : V) (Fv F' : List Addr), flat m = true → RepM X.K O' H' m v Fv → Step O1 H [] O' H' (Fv ++ F') →
      ∃ O2 : OW, RepM X.K O2 H' m v Fv ∧ RepS X.K O2 H' env σ F ∧ Step O H F O2 H' (Fv ++ F) := by
  obtain ⟨v, F1, Fi, F2, e1, ef, p, _, _⟩ := RepS.at r hi
  rw [hm] at p
  obtain ⟨a, kvs, F0, ev, efi, hp, hk, rl⟩ := p
  subst ev
  have inF : a ∈ F := by rw [ef, efi]; exact List.mem_append_right _ (List.mem_append_left _ (List.mem_cons_self ..))
  have less : ∀ b, (O b ∧ b ≠ a) → O b := fun b h => h.1
  refine ⟨fun b => O b ∧ b ≠ a, ⟨List.nodup_nil, (fun _ h => nomatch h), fun b h => w.dom b h.1⟩, ?_, fun O' H' v Fv F' hf rm st => ?_⟩
  · have rs : RepS X.K (fun b => O b ∧ b ≠ a) H (strip env) σ [] := RepS.keep (K := X.K) (O := O) (H := H) (fun _ _ h _ => h) (fun b h => .inl h.1) _ (fun _ _ _ h => h) r.strip
    have hl : i < (strip env).length := by rw [strip_len]; exact (List.getElem?_eq_some_iff.mp hi).1
    obtain ⟨G1, G2, Gi, eg, q1, k1⟩ := RepS.drop i (some (.ref a)) hl rs
    have z := k1 (.ref a) (.own (.val (.dK ks ds))) [] ⟨rfl, a, kvs, rfl, (fun z => z.2 rfl), .inl hp, hk, RepL.less less ds (repL_vals rl)⟩
    rw [set_same e1] at z
    have e0 : G1 = [] ∧ G2 = [] := by
      have := congrArg List.length eg
      simp only [List.length_nil, List.length_append] at this
      exact ⟨List.length_eq_zero_iff.mp (by omega), List.length_eq_zero_iff.mp (by omega)⟩
    rw [e0.1, e0.2] at z
    exact z
  · have fr : ∀ b o, H b = some o → H' b = some o := fun b o h => st.frame b o h (by simp)
    have stv := st.wf.left
    refine ⟨fun b => O b ∨ O' b, RepM.flat m hf rm, RepS.keep (K := X.K) (O := O) (H := H) (fun b o h _ => fr b o h) (fun b h => ?_) env (fun b o _ h => fr b o h) r, ⟨fun b o h _ => fr b o h, fun b h => ?_, fun b h _ => .inl h, fun b h => ?_, ?_, fun b h => ?_, fun b h => ?_⟩⟩
    · rcases h with h | h
      · exact .inl h
      · rcases st.nw b h with z | z
        · exact .inl z.1
        · exact .inr z
    · rcases (show O b ∨ O' b from h) with h | h
      · exact .inl h
      · rcases st.nw b h with z | z
        · exact .inl z.1
        · exact .inr z
    · rcases List.mem_append.mp h with h | h
      · rcases st.fp b (List.mem_append_left _ h) with z | z
        · exact absurd z (by simp)
        · exact .inr z
      · exact .inl h
    · refine List.nodup_append.mpr ⟨stv.nd, w.nd, fun b hb c hc e => ?_⟩
      subst e
      rcases st.fp b (List.mem_append_left _ hb) with z | z
      · exact absurd z (by simp)
      · obtain ⟨o, q⟩ := w.dom b (w.own b hc)
        rw [z] at q; cases q
    · rcases List.mem_append.mp h with h | h
      · exact Or.inr (stv.own b h)
      · exact Or.inl (w.own b h)
    · rcases (show O b ∨ O' b from h) with h | h
      · obtain ⟨o, q⟩ := w.dom b h
        exact ⟨o, fr b o q⟩
      · exact st.wf.dom b h
theorem ev_look (i : Nat) (hi : env[i]? = some (some s)) (hm : s.m = .dK ks (ds.map M.val)) {envr : Sls} (he : envr = (strip env).set i (vl (.dK ks ds))) {env2 : Sls} (h : Ev X e envr m env2) (hf : flat m = true) : Ev X e env m env := by
  subst he
  refine ⟨Io.refl _, fun O H σ F r w Q q => ?_⟩
  obtain ⟨O1, w1, r1, k⟩ := look_sem (m := m) i hi hm r w
  refine h.2 O1 H σ [] r1 w1 Q fun O' H' v Fv F' rm rs st => ?_
  obtain ⟨O2, rm2, rs2, st2⟩ := k O' H' v Fv F' hf rm st
  exact q O2 H' v Fv F rm2 rs2 st2
theorem tv_look {b : Bool} (i : Nat) (hi : env[i]? = some (some s)) (hm : s.m = .dK ks (ds.map M.val)) {envr : Sls} (he : envr = (strip env).set i (vl (.dK ks ds))) {env2 : Sls} (h : Tv X e envr b env2) : Tv X e env b env := by
  subst he
  refine ⟨Io.refl _, fun O H σ F r w Q q => ?_⟩
  obtain ⟨O1, w1, r1, k⟩ := look_sem (m := .val .none) i hi hm r w
  refine h.2 O1 H σ [] r1 w1 Q fun O' H' F' rs st => ?_
  obtain ⟨O2, rm2, rs2, st2⟩ := k O' H' .non [] F' rfl ⟨rfl, rfl⟩ st
  exact q O2 H' F rs2 st2
end
end Lin

end

section
namespace Lin
open PySem PySem.Spec PyProof.Rows L2

/-! ### dicts that a name owns -/
abbrev KD := List (Key × D)
def dkM (kvs : KD) : M := .dK (kvs.map (·.1)) ((kvs.map (·.2)).map M.val)
def dkD (kvs : KD) : D := .dK (kvs.map (·.1)) (kvs.map (·.2))
theorem frz_dkM (kvs : KD) : frz (dkM kvs) = dkD kvs := frz_dK
section
variable {X : Cx} {env env1 env2 : Sls} {a b c e f : Expr} {es : List Expr} {pos p p' pos' apos cpos : Pos} {d x y : D} {m : M} {ds : List D} {kvs : KD} {k : Key} {n : Str} {s : Sl} {K : PySem.W.Frag} {O : OW} {H : Hp}
theorem ev_newK : Ev X (.Dict [] [] pos) env (dkM []) env := ⟨Io.refl _, fun O H σ F r w Q q => ⟨_, pe_dnewK, fun p hp => by
  have s0 : Step O H [] (fun a => O a ∨ a = p) (upd H p (.dK [])) [p] := Step.new (G := []) w.nil hp
  exact q _ _ (.ref p) [p] F ⟨p, [], [], rfl, rfl, upd_same, rfl, rfl, rfl⟩ (r.quiet s0) (s0.quiet w)⟩⟩
/-- x[k] = e of an owned dict -/
theorem x1_setK (i : Nat) (he : Ev X e env (.val d) env1) (hb : Ev X b env1 (.val (kD k)) env2) (hi : env2[i]? = some (some s)) (hm : s.m = dkM kvs) (hz : kvs.length < sizeLine) (hu : X.A.units + 1 < cLine) (hse : ∃ t, env1[i]? = some (some t) := by exact ⟨_, rfl⟩) (hN : X.N[i]? = some n := by rfl) (hv : Vis X.env.scope n := by first | exact Or.inl rfl | exact Or.inr (Or.inl rfl) | exact Or.inr (Or.inr rfl))
    (hd : (n == ("__debug__" : Str)) = false := by decide) (hcd : (n == ("__classdict__" : Str)) = false := by decide) (hs : swapsWithSole [.Subscript (.Name n p) b pos'] e pos.line X.env = pure false := by rfl) (hw : swappedStores [.Subscript (.Name n p) b pos'] e X.env = pure none := by rfl)
    (hasg : ∀ v, assign (.Subscript (.Name n p) b pos') X.env v = (do let ov ← holding [v] (eval (.Name n p) X.env); let iv ← holding [v, ov] (eval b X.env); standAt pos'; holding [v, ov, iv] (setItem ov iv v); release [v, ov, iv] []) := by intro _; rfl) :
    Ex1 X (.Assign [.Subscript (.Name n p) b pos'] e pos) env (.nx (env2.set i (some (s.put (dkM (putD kvs k d)))))) := fun O H σ F r w D g =>
  ⟨_, ps_asg pe_w (pg_sub (pe_var hN hv hd hcd) pe_w (set_dict hu) hasg) hs hw, he.2 O H σ F r w _ fun O1 H1 u Fu G ⟨eu, ru⟩ r1 s1 => by
    subst eu
    obtain ⟨t, ht⟩ := hse
    obtain ⟨v, F1, Fi, F2, e1, ef, _, _, _⟩ := RepS.at r1 ht
    refine ⟨v, e1, hb.2 O1 H1 σ G r1 s1.wf _ fun O2 H2 u2 Fu2 G' ⟨eu2, ru2⟩ r2 s2 => ?_⟩
    subst eu2
    have ek := rep_kD ru2
    subst ek
    have w2 : Wf O2 H2 ([] ++ G') := s2.wf
    obtain ⟨v', Fi', e2, rm, kk⟩ := slot_upd r2 hi w2
    have ev : v' = v := by rw [e1] at e2; exact (Option.some.inj (Option.some.inj e2)).symm
    subst ev
    rw [hm] at rm
    obtain ⟨l, kv, F', el, ef', hp, hk, rl⟩ := rm
    obtain ⟨ol, nl, k2⟩ := kk l F' ef'
    have eF : F' = [] := by
      have z : ∀ (ds : List Lin.D) {vs : List V} {F : List Addr}, RepML X.K O2 H2 (ds.map M.val) vs F → F = [] := fun ds => by
        induction ds with
        | nil => exact fun h => h.2
        | cons d ds ih =>
          rintro vs F ⟨v, vs', G1, G2, _, eg, p, q⟩
          rw [eg, p.1, ih q]; rfl
      exact z _ rl
    subst eF
    have rl2 := repL_vals rl
    have hl : kv.length = kvs.length := by
      have := congrArg List.length hk
      rw [List.length_map, List.length_map] at this
      exact this
    have kf : ∀ a o, H2 a = some o → ¬ O2 a → upd H2 l (.dK (putK kv k u)) a = some o := fun a o h n => by rw [upd_ne (fun e => n (by rw [e]; exact ol))]; exact h
    obtain ⟨F2', rs2, s3, _⟩ := k2 (.dK (putK kv k u)) (dkM (putD kvs k d)) [] [] [] (by simp) ⟨l, _, [], el, rfl, upd_same, putD_keys hk, repML_val _ (RepL.keep kf (fun a h => .inl h) _ (putD_rep hk (s2.rep s1.wf ru) rl2))⟩
    exact ⟨l, _, el, .inl ⟨kv, k, hp, rfl, by omega, rfl⟩, g O2 _ σ F2' rs2 ((s1.trans w s2).trans w s3) (Pins.of (he.1.trans (hb.1.trans (Io.put hi))))⟩⟩
/-- d.get(k) -/
theorem ev_get {ks : List Key} (ha : Ev X a env (.val (.dK ks ds)) env1) (hb : Ev X b env1 (.val (kD k)) env2) (hu : X.A.units + 1 < cLine) (m1 : M1 X a "get" apos b cpos := by exact ⟨rfl, rfl, rfl, rfl⟩) : Ev X (.Call (.Attribute a "get" apos) [b] [] cpos) env (.val ((getD ks ds k).getD .none)) env2 :=
  ⟨ha.1.trans hb.1, fun O H σ F rs w Q q => ⟨_, pe_dget1 hu pe_w pe_w m1, ha.2 O H σ F rs w _ fun O1 H1 u Fu F1 ⟨eu, ru⟩ r1 s1 => by
    subst eu
    obtain ⟨a', kv, ea, no, hp, hks, rl⟩ := id ru
    refine ⟨a', ea, .inl ⟨kv, hp⟩, hb.2 O1 H1 σ F1 r1 s1.wf _ fun O2 H2 v Fv F2 ⟨ev, rv⟩ r2 s2 => ?_⟩
    subst ev
    have ek := rep_kD rv
    subst ek
    obtain ⟨a2, kv2, ea2, no2, hp2, hks2, rl2⟩ := s2.rep s1.wf ru
    rw [ea] at ea2; cases ea2
    refine ⟨valV kv2 k, .inl ⟨kv2, k, hp2, rfl, rfl⟩, ?_⟩
    rcases rep_val (k := k) hks2 rl2 with ⟨d', v', h1, h2, h3⟩ | ⟨h1, h2⟩
    · rw [h2]
      rw [h1] at q
      exact q O2 H2 v' [] F2 ⟨rfl, h3⟩ r2 (s1.trans w s2)
    · rw [h2]
      rw [h1] at q
      exact q O2 H2 .non [] F2 ⟨rfl, rfl⟩ r2 (s1.trans w s2)⟩⟩
/-- d.get(k, x) -/
theorem ev_get2 {ks : List Key} {z : D} (ha : Ev X a env (.val (.dK ks ds)) env1) (hb : Ev X b env1 (.val (kD k)) env2) (hf : Ev X f env2 (.val z) env2) (hu : X.A.units + 1 < cLine) (m2 : M2 X a "get" apos b f cpos := by exact ⟨rfl, rfl, rfl, rfl⟩) : Ev X (.Call (.Attribute a "get" apos) [b, f] [] cpos) env (.val ((getD ks ds k).getD z)) env2 :=
  ⟨ha.1.trans hb.1, fun O H σ F rs w Q q => ⟨_, pe_dget2 hu pe_w pe_w pe_w m2, ha.2 O H σ F rs w _ fun O1 H1 u Fu F1 ⟨eu, ru⟩ r1 s1 => by
    subst eu
    obtain ⟨a', kv, ea, no, hp, hks, rl⟩ := id ru
    refine ⟨a', ea, .inl ⟨kv, hp⟩, hb.2 O1 H1 σ F1 r1 s1.wf _ fun O2 H2 v Fv F2 ⟨ev, rv⟩ r2 s2 => hf.2 O2 H2 σ F2 r2 s2.wf.right _ fun O3 H3 y Fy F3 ⟨ey, ry⟩ r3 s3 => ?_⟩
    subst ev ey
    have ek := rep_kD rv
    subst ek
    obtain ⟨a2, kv2, ea2, no2, hp2, hks2, rl2⟩ := s3.rep s2.wf (s2.rep s1.wf ru)
    rw [ea] at ea2; cases ea2
    refine ⟨valV kv2 k, .inl ⟨kv2, k, hp2, rfl, rfl⟩, ?_⟩
    rcases rep_val (k := k) hks2 rl2 with ⟨d', v', h1, h2, h3⟩ | ⟨h1, h2⟩
    · rw [h2]
      rw [h1] at q
      exact q O3 H3 v' [] F3 ⟨rfl, h3⟩ r3 ((s1.trans w s2).trans w s3)
    · rw [h2]
      rw [h1] at q
      exact q O3 H3 y [] F3 ⟨rfl, ry⟩ r3 ((s1.trans w s2).trans w s3)⟩⟩
theorem repL_keys : ∀ (kv : List (Key × V)), RepL K O H ((kv.map (·.1)).map kD) (kv.map fun kv => kV kv.1)
  | [] => rfl
  | x :: kv => ⟨_, _, rfl, rep_key, repL_keys kv⟩
/-- list(d): its keys -/
theorem ev_listK {ks : List Key} (ha : Ev X e env (.val (.dK ks ds)) env1) (hm : X.mg "list" = none := by assumption) (hc : X.calm = true := by rfl) (hg : Gl X "list" := by rfl) (he : starEach [e] X.env = (false, eval e X.env) :: starEach [] X.env := by rfl) (hpl : (backTo pos (starEach [] X.env)).any (·.1) = false := by rfl) : Ev X (.Call (.Name "list" p) [e] [] pos) env (.lst ((ks.map kD).map M.val)) env1 :=
  ev_cty (ds := [.dK ks ds]) (call_listD hc) (rf_new fun O H vs ⟨u, us, e, ⟨a, kv, hu, _, hp, hk, rl⟩, hn⟩ => ⟨kv.map fun kv => kV kv.1, by subst hk; exact repL_keys kv, fun Q q => ⟨a, kv, by rw [e, hu, show us = [] from hn], hp, q⟩⟩) (ea_cons ha ea_nil he) hm (by decide +kernel) hg (by decide) (by decide) he hpl
end
end Lin

end

section
namespace Lin
open PySem PySem.Spec PyProof.Rows L2
section
variable {X : Cx} {env env1 env2 env3 : Sls} {a b c e f : Expr} {es : List Expr} {pos p p' pos' apos cpos : Pos} {d x y : D} {m : M} {ms : List M} {ds : List D} {n : Str} {s : Sl} {K : PySem.W.Frag} {O : OW} {H : Hp} {i j : Int} {k : Bool}
/-- a constant of the module -/
theorem pu_glob {t : Tok} (hm : X.mg n = some (.int i t)) (hg : Gl X n := by rfl) (hd : (n == ("__debug__" : Str)) = false := by decide) : Pu X (.Name n pos) env (.val (.int i)) := pu_const (pe_glob (v := .int i) hg hm ⟨t, rfl⟩ hd) fun _ _ _ => rfl
/-- an owned list's name as a test -/
theorem tv_truO (i : Nat) (hi : env[i]? = some (some s)) (hm : s.m = .lst ms := by rfl) (hN : X.N[i]? = some n := by rfl) (hv : Vis X.env.scope n := by first | exact Or.inl rfl | exact Or.inr (Or.inl rfl) | exact Or.inr (Or.inr rfl)) (hd : (n == ("__debug__" : Str)) = false := by decide) (hcd : (n == ("__classdict__" : Str)) = false := by decide) : Tv X (.Name n p) env (!ms.isEmpty) env :=
  ⟨Io.refl _, fun O H σ F r w Q q => ⟨_, pt_truth (pe_var hN hv hd hcd) (by intro _; rfl), by
    obtain ⟨v, F1, Fi, F2, e1, ef, rm, _, _⟩ := RepS.at r hi
    rw [hm] at rm
    obtain ⟨l, xs, F', el, _, hp, rl⟩ := rm
    subst el
    have e : (!ms.isEmpty) = !xs.isEmpty := by
      have hl := rl.len
      cases ms <;> cases xs <;> simp_all
    exact ⟨.ref l, e1, _, .inl ⟨xs, .inl (.inl hp), e⟩, q O H F r (Step.refl w)⟩⟩⟩
theorem RepML.unsnoc : ∀ {ms : List M} {xs : List V} {F : List Addr}, RepML K O H (ms ++ [m]) xs F → ∃ xs0 y F0 Fy, xs = xs0 ++ [y] ∧ F = F0 ++ Fy ∧ RepML K O H ms xs0 F0 ∧ RepM K O H m y Fy
  | [], _, _, ⟨v, vs, F1, F2, e, ef, p, q1, q2⟩ => ⟨[], v, [], F1, by rw [e, q1]; rfl, by rw [ef, q2]; simp, ⟨rfl, rfl⟩, p⟩
  | m' :: ms, _, _, ⟨v, vs, F1, F2, e, ef, p, q⟩ => by
    obtain ⟨xs0, y, F0, Fy, h1, h2, h3, h4⟩ := RepML.unsnoc q
    exact ⟨v :: xs0, y, F1 ++ F0, Fy, by rw [e, h1]; rfl, by rw [ef, h2, List.append_assoc], ⟨v, xs0, F1, F0, rfl, rfl, p, h3⟩, h4⟩
/-- x.pop() of an owned list -/
theorem ev_pop0 (i : Nat) (hi : env[i]? = some (some s)) (hm : s.m = .lst (ms ++ [m])) (hN : X.N[i]? = some n := by rfl) (hv : Vis X.env.scope n := by first | exact Or.inl rfl | exact Or.inr (Or.inl rfl) | exact Or.inr (Or.inr rfl)) (hd : (n == ("__debug__" : Str)) = false := by decide) (hcd : (n == ("__classdict__" : Str)) = false := by decide)
    (hbase : attributeBase (.Name n p) "pop" X.env (eval (.Name n p) X.env) = eval (.Name n p) X.env := by rfl) (hline : (apos.endLine == cpos.line) = true := by rfl) : Ev X (.Call (.Attribute (.Name n p) "pop" apos) [] [] cpos) env m (env.set i (some (s.put (.lst ms)))) :=
  ⟨Io.put hi, fun O H σ F r w Q q => ⟨_, pe_bm0 PySem.F.plainAttrs_list PySem.F.slot_list_pop PySem.F.type_list_pop mt_pop (pe_var hN hv hd hcd) hbase hline, by
    have w2 : Wf O H ([] ++ F) := w
    obtain ⟨v, Fi, e1, rm, kk⟩ := slot_upd r hi w2
    rw [hm] at rm
    obtain ⟨l, xs, F', el, ef, hp, rl⟩ := rm
    obtain ⟨xs0, y, F0, Fy, h1, h2, h3, h4⟩ := rl.unsnoc
    obtain ⟨ol, nl, k2⟩ := kk l F' ef
    subst h1 h2
    have n0 : l ∉ F0 := fun z => nl (by simp [z])
    obtain ⟨F2', rs2, s2, kp⟩ := k2 (.lst xs0) (.lst ms) F0 Fy [] (by simp) ⟨l, xs0, F0, el, rfl, upd_same, h3.updK n0 ol⟩
    refine ⟨v, e1, by rw [el]; exact .inl ⟨rfl, _, .inl (.inl hp)⟩, l, xs0 ++ [y], y, el, rfl, hp, by simp, ?_⟩
    rw [List.dropLast_concat]
    exact q O _ y Fy F2' (kp m y h4) rs2 s2⟩⟩
end
/-! ### extend by a tuple -/
section
variable {prog : Program} {w : World} {A : Around} {E : Value → Shared → Prop} {s : Shared}
theorem grow_by {l t : Addr} {vs ws : List Value} {nn : Nat} {P : PySem.Fin → Shared → Prop} (hl : s.heap.get? l = some { cls := .type "list", data := .seq vs.toArray nn }) (ht : IsTup s.heap t ws.toArray) (hz : vs.length + ws.length ≤ sizeLine)
    (k : P (.done (.ret .none)) { s with heap := s.heap.update l (Obj.mapSeq (· ++ ws.toArray)) }) : wpAny (model prog w) A (Builtin.List.listExtendWith (.ref l) (.ref t) .none) P E s := by
  obtain ⟨o, ho, hc, n, hd⟩ := ht
  unfold Builtin.List.listExtendWith
  refine wpAny_bind (wpAny_typeOf ⟨o, ho, hc⟩ ?_)
  have c1 : (Builtin.List.listSameRef (.ref l) (.ref t) || Value.type "tuple" == Value.type "list" || Value.type "tuple" == Value.type "tuple") = true := by simp
  rw [if_pos c1]
  refine wpAny_bind ?_
  unfold Builtin.List.listItems
  refine wpAny_bind (wpAny_seqItems ho hd (wpAny_pure (wpAny_bind (wpAny_bind (wpAny_seqItems hl rfl (wpAny_pure ?_))))))
  have c2 : ¬ (!vs.toArray.isEmpty && Builtin.List.listTooLong (vs.toArray.size + ws.toArray.size)) = true := by
    rw [notLongL (by simpa using hz), Bool.and_false]
    exact Bool.false_ne_true
  rw [if_neg c2]
  change wpAny (model prog w) A (updateSeq l (· ++ ws.toArray) >>= fun _ => ret .none) _ _ s
  exact wpAny_bind (wpAny_updateSeq hl rfl (wpAny_pure k) (by simp only [List.size_toArray]; omega) (by simp only [Array.size_append, List.size_toArray]; omega))
end
def rGrowT (K : PySem.W.Frag) : V → List V → Hp → VK → Prop := fun x vs H Q => ∃ l b xs zs, x = .ref l ∧ vs = [.ref b] ∧ H l = some (.lst xs) ∧ SqT K H b zs ∧ xs.length + zs.length ≤ sizeLine ∧ Q .non (upd H l (.lst (xs ++ zs)))
theorem mt_growT {X : Cx} : MtM X "list.extend" (rGrowT X.K) := by
  intro pins s σ H x vs v us Q I rx rv h
  obtain ⟨l, b, xs, zs, rfl, rfl, hH, hB, hz, q⟩ := h
  cases rx
  obtain ⟨u, rfl, ru⟩ := rv.one
  cases ru
  obtain ⟨z, its, nn, r, hl, e⟩ := I.lstM hH
  obtain ⟨its2, r2, ht, z2⟩ := I.tuple hB
  refine wpAny_call_entry F.slot_list_extend ⟨_, e, rfl⟩ F.entry_list_extend ?_ (F.args_list_extend_2 _ _)
  change wpAny _ _ (Builtin.List.listExtendWith (.ref l) (.ref b) .none) _ _ s
  refine grow_by e ht (by rw [← hl, ← r2.length]; exact hz) ⟨_, rfl, .non, _, I.lset (its' := its ++ its2) (t' := s.toks) hH e (by simp) (r.append r2) (by rw [List.length_append]; exact hz), rfl, q⟩
section
variable {X : Cx} {env env1 env2 env3 : Sls} {a b c e f : Expr} {es : List Expr} {pos p p' pos' apos cpos : Pos} {d x y : D} {m : M} {ms : List M} {ds : List D} {n : Str} {s : Sl} {K : PySem.W.Frag} {O : OW} {H : Hp} {i j : Int} {k : Bool}
theorem ev_growT (i : Nat) (ha : Ev X e env (.val (.tup ds)) env1) (hi : env1[i]? = some (some s)) (hm : s.m = .lst ms) (hz : ms.length + ds.length ≤ sizeLine) (hse : ∃ t ms0, env[i]? = some (some t) ∧ t.m = .lst ms0 := by exact ⟨_, _, rfl, rfl⟩) (hN : X.N[i]? = some n := by rfl) (hv : Vis X.env.scope n := by first | exact Or.inl rfl | exact Or.inr (Or.inl rfl) | exact Or.inr (Or.inr rfl))
    (hd : (n == ("__debug__" : Str)) = false := by decide) (hcd : (n == ("__classdict__" : Str)) = false := by decide)
    (hbase : attributeBase (.Name n p) "extend" X.env (eval (.Name n p) X.env) = eval (.Name n p) X.env := by rfl)
    (hfew : ((backTo cpos (starEach [e] X.env)).all (fun x => !x.1) && (backToKw cpos (keywordEach [] X.env)).all (fun x => x.1.isSome)
      && decide ([e].length + ([] : List Keyword).length + (if ([] : List Keyword).isEmpty then 0 else 1) < 30)) = true := by rfl)
    (hline : (apos.endLine == cpos.line) = true := by rfl) (hs : starEach [e] X.env = (false, eval e X.env) :: starEach [] X.env := by rfl) (hplain : (backTo cpos (starEach [] X.env)).any (·.1) = false := by rfl) :
    Ev X (.Call (.Attribute (.Name n p) "extend" apos) [e] [] cpos) env (.val .none) (env1.set i (some (s.put (.lst (ms ++ ds.map M.val))))) :=
  ⟨ha.1.trans (Io.put hi), fun O H σ F r w Q q => ⟨_, pe_bm PySem.F.plainAttrs_list PySem.F.slot_list_extend PySem.F.type_list_extend mt_growT (pe_var hN hv hd hcd) (pa_cons pe_w pa_nil hs) hbase hfew hline hs hplain, by
    obtain ⟨t, ms0, ht, hm0⟩ := hse
    obtain ⟨v, F1, Fi, F2, e1, ef, rm0, _, _⟩ := RepS.at r ht
    rw [hm0] at rm0
    obtain ⟨l0, xs0, F0, el0, _, hp0, _⟩ := rm0
    refine ⟨v, e1, by rw [el0]; exact .inl ⟨rfl, _, .inl (.inl hp0)⟩, ha.2 O H σ F r w _ fun O1 H1 u Fu G ⟨eu, ru⟩ r1 s1 => ?_⟩
    subst eu
    obtain ⟨a', zs, ea, ta, rl2⟩ := ru
    have w1 : Wf O1 H1 ([] ++ G) := s1.wf
    obtain ⟨v', Fi', e2, rm, kk⟩ := slot_upd r1 hi w1
    have ev : v' = v := by rw [e1] at e2; exact (Option.some.inj (Option.some.inj e2)).symm
    subst ev
    rw [hm] at rm
    obtain ⟨l, xs, F', el, ef', hp, rl⟩ := rm
    obtain ⟨ol, nl, k2⟩ := kk l F' ef'
    have nl1 : l ∉ F' := fun z => nl (List.mem_append_right _ z)
    have kf : ∀ a o, H1 a = some o → ¬ O1 a → upd H1 l (.lst (xs ++ zs)) a = some o := fun a o h n => by rw [upd_ne (fun e => n (by rw [e]; exact ol))]; exact h
    obtain ⟨F2', rs2, s2, _⟩ := k2 (.lst (xs ++ zs)) (.lst (ms ++ ds.map M.val)) F' [] [] (by simp) ⟨l, xs ++ zs, F', el, rfl, upd_same, by
      have z := (rl.updK (o := .lst (xs ++ zs)) nl1 ol).app (repML_val ds (RepL.keep kf (fun a h => .inl h) ds rl2))
      rw [List.append_nil] at z
      exact z⟩
    exact ⟨l, a', xs, zs, el, by rw [ea], hp, TupAt.sq ta, by rw [rl.len, rl2.len]; exact hz, q O1 _ .non [] F2' ⟨rfl, rfl⟩ rs2 (s1.trans w s2)⟩⟩⟩
/-- a <= b <= c of ints -/
theorem ev_chLE {l : Int} (ha : Ev X a env (.val (.int l)) env1) (hb : Ev X b env1 (.val (.int i)) env2) (hc : Ev X c env2 (.val (.int j)) env2) (hm : lastMarks [CmpOp.LtE, CmpOp.LtE] [b, c] = false := by with_unfolding_all rfl) : Ev X (.Compare a [.LtE, .LtE] [b, c] pos) env (.val (.bool (decide (l ≤ i) && decide (i ≤ j)))) env2 :=
  ⟨ha.1.trans hb.1, fun O H σ F rs w Q q => ⟨_, pe_chain op_le op_le pe_w pe_w pe_w hm, two ha hb rs w fun O' H' u v F' ru rv r' s' => ⟨l, i, ru, rv, decide (l ≤ i), rfl, by
    by_cases h : l ≤ i
    · rw [if_pos (decide_eq_true h)]
      refine hc.2 O' H' σ F' r' s'.wf _ fun O2 H2 z Fz F2 ⟨ez, rz⟩ r2 s2 => ?_
      subst ez
      refine ⟨i, j, rv, rz, ?_⟩
      rw [decide_eq_true h, Bool.true_and] at q
      exact q O2 H2 _ [] F2 ⟨rfl, rfl⟩ r2 (s'.trans w s2)
    · rw [if_neg (fun z => h (of_decide_eq_true z))]
      rw [decide_eq_false h, Bool.false_and] at q
      exact q O' H' _ [] F' ⟨rfl, rfl⟩ r' s'⟩⟩⟩
/-- all([..]) of truths -/
theorem repL_bools : ∀ (bs : List Bool), RepL K O H (bs.map D.bool) (bs.map V.bl)
  | [] => rfl
  | b :: bs => ⟨_, _, rfl, rfl, repL_bools bs⟩
theorem RepL.bools : ∀ (bs : List Bool) {xs : List V}, RepL K O H (bs.map D.bool) xs → xs = bs.map V.bl
  | [], _, h => h
  | b :: bs, _, ⟨v, vs, e, p, q⟩ => by rw [e, show v = V.bl b from p, RepL.bools bs q]; rfl
theorem ev_all {bs : List Bool} (ha : Ev X e env (.val (.lst (bs.map D.bool))) env1) (hm : X.mg "all" = none := by assumption) (hc : X.calm = true := by rfl) (hg : Gl X "all" := by rfl) (he : starEach [e] X.env = (false, eval e X.env) :: starEach [] X.env := by rfl) (hpl : (backTo pos (starEach [] X.env)).any (·.1) = false := by rfl) : Ev X (.Call (.Name "all" p) [e] [] pos) env (.val (.bool (bs.all id))) env1 :=
  ev_cbi (ds := [.lst (bs.map D.bool)]) (cr_all hc) (rf_val fun O H vs Q ⟨u, us, e, ⟨a, xs, hu, _, hp, rl⟩, hn⟩ q => ⟨a, bs, by rw [e, hu, show us = [] from hn], .inl (.inl (by rw [← RepL.bools bs rl]; exact hp)), q _ rfl⟩) (ea_cons ha ea_nil he) hm (by decide +kernel) hg (by decide) (by decide) he hpl
/-! in, not in, of flat items -/
def vF : D → V
  | .bool b => .bl b | .int i => .int i | .str s => .str s | _ => .non
def flatD : D → Bool
  | .none => true | .bool _ => true | .int _ => true | .str _ => true | _ => false
theorem rep_vF {v : V} : ∀ {d : D}, flatD d = true → Rep K O H d v → v = vF d ∧ flatV v = true
  | .none, _, h => by rw [show v = V.non from h]; exact ⟨rfl, rfl⟩
  | .bool b, _, h => by rw [show v = V.bl b from h]; exact ⟨rfl, rfl⟩
  | .int b, _, h => by rw [show v = V.int b from h]; exact ⟨rfl, rfl⟩
  | .str b, _, h => by rw [show v = V.str b from h]; exact ⟨rfl, rfl⟩
  | .tup _, h, _ => by cases h
  | .lst _, h, _ => by cases h
  | .dK _ _, h, _ => by cases h
  | .dT _ _, h, _ => by cases h
  | .ins _ _ _, h, _ => by cases h
  | .scr _, h, _ => by cases h
theorem repL_vF : ∀ {ds : List D} {vs : List V}, ds.all flatD = true → RepL K O H ds vs → vs = ds.map vF ∧ vs.all flatV = true
  | [], _, _, h => by rw [show _ = [] from h]; exact ⟨rfl, rfl⟩
  | d :: ds, _, hf, ⟨v, vs, e, p, q⟩ => by
    rw [List.all_cons, Bool.and_eq_true] at hf
    obtain ⟨h1, h2⟩ := rep_vF hf.1 p
    obtain ⟨h3, h4⟩ := repL_vF hf.2 q
    rw [e, List.all_cons, h2, h4, h1, h3]
    exact ⟨rfl, rfl⟩
theorem ro_inT {neg : Bool} (hx : flatD x = true) (hd : ds.all flatD = true) : RO K (rIn K neg) x (.tup ds) (.val (.bool (if neg then !inV (vF x) (ds.map vF) else inV (vF x) (ds.map vF)))) := ro_val fun O H u v Q hu ⟨a, xs, ev, ta, rl⟩ q => by
  obtain ⟨h1, h2⟩ := rep_vF hx hu
  obtain ⟨h3, h4⟩ := repL_vF hd rl
  refine ⟨a, xs, ev, .inr (TupAt.sq ta), h2, h4, ?_⟩
  rw [h1, h3]
  exact q _ rfl
theorem ro_inL {neg : Bool} (hx : flatD x = true) (hd : ds.all flatD = true) : RO K (rIn K neg) x (.lst ds) (.val (.bool (if neg then !inV (vF x) (ds.map vF) else inV (vF x) (ds.map vF)))) := ro_val fun O H u v Q hu ⟨a, xs, ev, _, hp, rl⟩ q => by
  obtain ⟨h1, h2⟩ := rep_vF hx hu
  obtain ⟨h3, h4⟩ := repL_vF hd rl
  refine ⟨a, xs, ev, .inl (.inl (.inl hp)), h2, h4, ?_⟩
  rw [h1, h3]
  exact q _ rfl
theorem ev_inT (ha : Ev X a env (.val x) env1) (hb : Ev X b env1 (.val (.tup ds)) env2) (hx : flatD x = true) (hd : ds.all flatD = true) (hm : behindInMarks .In b = false := by first | exact nomark _ | rfl) : Ev X (.Compare a [.In] [b] pos) env (.val (.bool (inV (vF x) (ds.map vF)))) env2 := ev_cmp op_in_seq ha hb (ro_inT hx hd) hm
theorem ev_inLF (ha : Ev X a env (.val x) env1) (hb : Ev X b env1 (.val (.lst ds)) env2) (hx : flatD x = true) (hd : ds.all flatD = true) (hm : behindInMarks .In b = false := by first | exact nomark _ | rfl) : Ev X (.Compare a [.In] [b] pos) env (.val (.bool (inV (vF x) (ds.map vF)))) env2 := ev_cmp op_in_seq ha hb (ro_inL hx hd) hm
theorem ev_notInLF (ha : Ev X a env (.val x) env1) (hb : Ev X b env1 (.val (.lst ds)) env2) (hx : flatD x = true) (hd : ds.all flatD = true) (hm : behindInMarks .NotIn b = false := by first | exact nomark _ | rfl) : Ev X (.Compare a [.NotIn] [b] pos) env (.val (.bool (!inV (vF x) (ds.map vF)))) env2 := ev_cmp op_notIn_seq ha hb (ro_inL hx hd) hm
theorem tv_notInT (ha : Ev X a env (.val x) env1) (hb : Ev X b env1 (.val (.tup ds)) env2) (hx : flatD x = true) (hd : ds.all flatD = true) (hm : behindInMarks .NotIn b = false := by first | exact nomark _ | rfl) : Tv X (.Compare a [.NotIn] [b] pos) env (!inV (vF x) (ds.map vF)) env2 := tv_cmp op_notIn_seq ha hb (ro_inT hx hd) hm
theorem inV_ints (k : Int) (ns : List Int) : inV (.int k) (ns.map V.int) = decide (k ∈ ns) := by
  unfold inV
  induction ns with
  | nil => rfl
  | cons n ns ih =>
    rw [List.map_cons, List.any_cons, ih]
    by_cases h : n = k
    · subst h
      rw [show decide (n ∈ n :: ns) = true from decide_eq_true (List.mem_cons_self ..)]
      show ((n == n) || _) = true
      rw [beq_self_eq_true, Bool.true_or]
    · rw [show decide (k ∈ n :: ns) = decide (k ∈ ns) from decide_eq_decide.mpr ⟨fun z => (List.mem_cons.mp z).resolve_left (fun z => h z.symm), fun z => List.mem_cons_of_mem _ z⟩]
      show ((n == k) || _) = _
      rw [beq_false_of_ne h, Bool.false_or]
/-! is not of truths, shifts -/
theorem ev_isNotB {k2 : Bool} (ha : Ev X a env (.val (.bool k)) env1) (hb : Ev X b env1 (.val (.bool k2)) env2) (hm : behindInMarks .IsNot b = false := by first | exact nomark _ | rfl) : Ev X (.Compare a [.IsNot] [b] pos) env (.val (.bool (!decide (k = k2)))) env2 := ev_cmp op_isnot_bl ha hb (ro_val fun O H u v Q hu hv q => ⟨k, k2, hu, hv, q _ rfl⟩) hm
theorem tv_isNotB {k2 : Bool} (ha : Ev X a env (.val (.bool k)) env1) (hb : Ev X b env1 (.val (.bool k2)) env2) (hm : behindInMarks .IsNot b = false := by first | exact nomark _ | rfl) : Tv X (.Compare a [.IsNot] [b] pos) env (!decide (k = k2)) env2 := tv_cmp op_isnot_bl ha hb (ro_val fun O H u v Q hu hv q => ⟨k, k2, hu, hv, q _ rfl⟩) hm
theorem ev_shl (ha : Ev X a env (.val (.int i)) env1) (hb : Ev X b env1 (.val (.int j)) env2) (hc : CPow i j) : Ev X (.BinOp a .LShift b pos) env (.val (.int (i * 2 ^ j.toNat))) env2 := ev_bin op_shl ha hb (ro_int hc fun _ _ => rfl)
end
end Lin

end

section
namespace Lin
open PySem PySem.Spec PyProof.Rows L2
/-! ### a look: all that is owned is seen frozen -/
def see : Sls → Sls
  | [] => []
  | none :: es => none :: see es
  | some s :: es => vl (frz s.m) :: see es
section
variable {K : PySem.W.Frag} {O O' : OW} {H : Hp}
theorem RepS.see (h : ∀ a, O' a → O a) : ∀ {es : Sls} {σ : L2.St} {F : List Addr}, (∀ a ∈ F, ¬ O' a) → RepS K O H es σ F → RepS K O' H (Lin.see es) σ []
  | [], _, _, _, ⟨e, _⟩ => ⟨e, rfl⟩
  | none :: es, _, _, hf, ⟨o, σ', e, r⟩ => ⟨o, σ', e, RepS.see h hf r⟩
  | some s :: es, _, _, hf, ⟨v, σ', F1, F2, e, ef, p, r⟩ => ⟨v, σ', [], [], e, rfl, ⟨rfl, RepM.frz s.m h (fun a z => hf a (ef ▸ List.mem_append_left _ z)) p⟩, RepS.see h (fun a z => hf a (ef ▸ List.mem_append_right _ z)) r⟩
end
section
variable {X : Cx} {env : Sls} {e : Expr} {m : M}
theorem see_sem {O : OW} {H : Hp} {σ : L2.St} {F : List Addr} (r : RepS X.K O H env σ F) (w : Wf O H F) :
    ∃ O1 : OW, Wf O1 H [] ∧ RepS X.K O1 H (see env) σ [] ∧ ∀ (O' : OW) (H' : Hp) (v : V) (Fv F' : List Addr), flat m = true → RepM X.K O' H' m v Fv → Step O1 H [] O' H' (Fv ++ F') →
      ∃ O2 : OW, RepM X.K O2 H' m v Fv ∧ RepS X.K O2 H' env σ F ∧ Step O H F O2 H' (Fv ++ F) := by
  refine ⟨fun b => O b ∧ b ∉ F, ⟨List.nodup_nil, (fun _ h => nomatch h), fun b h => w.dom b h.1⟩, RepS.see (fun b h => h.1) (fun a z n => n.2 z) r, fun O' H' v Fv F' hf rm st => ?_⟩
  have fr : ∀ b o, H b = some o → H' b = some o := fun b o h => st.frame b o h (by simp)
  have stv := st.wf.left
  refine ⟨fun b => O b ∨ O' b, RepM.flat m hf rm, RepS.keep (K := X.K) (O := O) (H := H) (fun b o h _ => fr b o h) (fun b h => ?_) env (fun b o _ h => fr b o h) r, ⟨fun b o h _ => fr b o h, fun b h => ?_, fun b h _ => .inl h, fun b h => ?_, ?_, fun b h => ?_, fun b h => ?_⟩⟩
  · rcases h with h | h
    · exact .inl h
    · rcases st.nw b h with z | z
      · exact .inl z.1
      · exact .inr z
  · rcases (show O b ∨ O' b from h) with h | h
    · exact .inl h
    · rcases st.nw b h with z | z
      · exact .inl z.1
      · exact .inr z
  · rcases List.mem_append.mp h with h | h
    · rcases st.fp b (List.mem_append_left _ h) with z | z
      · exact absurd z (by simp)
      · exact .inr z
    · exact .inl h
  · refine List.nodup_append.mpr ⟨stv.nd, w.nd, fun b hb c hc e => ?_⟩
    subst e
    rcases st.fp b (List.mem_append_left _ hb) with z | z
    · exact absurd z (by simp)
    · obtain ⟨o, q⟩ := w.dom b (w.own b hc)
      rw [z] at q; cases q
  · rcases List.mem_append.mp h with h | h
    · exact Or.inr (stv.own b h)
    · exact Or.inl (w.own b h)
  · rcases (show O b ∨ O' b from h) with h | h
    · obtain ⟨o, q⟩ := w.dom b h
      exact ⟨o, fr b o q⟩
    · exact st.wf.dom b h
theorem ev_see {envr : Sls} (he : envr = see env) {env2 : Sls} (h : Ev X e envr m env2) (hf : flat m = true) : Ev X e env m env := by
  subst he
  refine ⟨Io.refl _, fun O H σ F r w Q q => ?_⟩
  obtain ⟨O1, w1, r1, k⟩ := see_sem (m := m) r w
  refine h.2 O1 H σ [] r1 w1 Q fun O' H' v Fv F' rm rs st => ?_
  obtain ⟨O2, rm2, rs2, st2⟩ := k O' H' v Fv F' hf rm st
  exact q O2 H' v Fv F rm2 rs2 st2
theorem tv_see {b : Bool} {envr : Sls} (he : envr = see env) {env2 : Sls} (h : Tv X e envr b env2) : Tv X e env b env := by
  subst he
  refine ⟨Io.refl _, fun O H σ F r w Q q => ?_⟩
  obtain ⟨O1, w1, r1, k⟩ := see_sem (m := .val .none) r w
  refine h.2 O1 H σ [] r1 w1 Q fun O' H' F' rs st => ?_
  obtain ⟨O2, rm2, rs2, st2⟩ := k O' H' .non [] F' rfl ⟨rfl, rfl⟩ st
  exact q O2 H' F rs2 st2
end
end Lin

end

section
namespace Lin
open PySem PySem.Spec PySem.Calls PyProof.Rows PyProof.V L2
section
variable {X : Cx}
theorem call_lenR : CallR X (.builtin "len") (fun xs H Q => ∃ a kvs, xs = [V.ref a] ∧ Rd H a (.dK kvs) ∧ Q (.int kvs.length) H) := by
  intro pins s σ H xs us Q I r h
  obtain ⟨a, kvs, rfl, ha, q⟩ := h
  obtain ⟨u, rfl, ru⟩ := vals1 r
  cases ru
  exact d_len I ha fun t s' I' => ⟨.int kvs.length, H, I', ⟨t, rfl⟩, q⟩
/-- sum, max of a tuple of ints -/
def rSumT (K : PySem.W.Frag) : List V → Hp → VK → Prop := fun vs H Q => ∃ (a : Addr) (ns : List Int), vs = [V.ref a] ∧ SqT K H a (ns.map V.int) ∧ Q (.int ns.sum) H
theorem cr_sumT (hc : X.calm = true) : CallR X (.builtin "sum") (rSumT X.K) := by
  intro pins s σ H vs us Q I r h
  obtain ⟨a, ns, rfl, hs, q⟩ := h
  obtain ⟨its, rv, ht, _⟩ := I.tuple hs
  rw [Vals.ref1 r]
  have hi := rv.ints
  obtain ⟨xs, hx⟩ := hi.allInts.items
  have hn : numsOf its.toArray.toList = ns := by rw [show its.toArray.toList = its from rfl, hi.numsOf]
  have hl : s.heap.IsTuple a its.toArray := ht
  rw [hx] at hl hn
  rw [nums_intItems] at hn
  refine PySem.W.ktm_sumG (I.ok.hd hc) hl fun h' tk t' hk => ?_
  rw [preSum_eq, List.take_of_length_le (by simp), hn]
  exact ⟨.int _, H, I.kept hk, ⟨_, rfl⟩, q⟩
def rMaxT (K : PySem.W.Frag) : List V → Hp → VK → Prop := fun vs H Q => ∃ (a : Addr) (n : Int) (ns : List Int), vs = [V.ref a] ∧ SqT K H a ((n :: ns).map V.int) ∧ Q (.int (ns.foldl max n)) H
theorem dpAll_ints {K : PySem.W.Frag} {H : Hp} : ∀ ns : List Int, DpAll K H (ns.map V.int) (ns.map PyData.int)
  | [] => .nil
  | n :: ns => .cons (.int n) (dpAll_ints ns)
theorem depth_ints : ∀ ns : List Int, PyData.depthAll (ns.map PyData.int) ≤ 1
  | [] => by decide
  | n :: ns => by
    have := depth_ints ns
    show max (PyData.depth (.int n)) (PyData.depthAll (ns.map PyData.int)) ≤ 1
    exact Nat.max_le.mpr ⟨(Nat.zero_le _ : 0 ≤ 1), this⟩
theorem cr_maxT (hc : X.calm = true) (hu : X.A.units + 2 < cLine) : CallR X (.builtin "max") (rMaxT X.K) := by
  intro pins s σ H vs us Q I r h
  obtain ⟨a, n, ns, rfl, hs, q⟩ := h
  obtain ⟨its, rv, ht, _⟩ := I.tuple hs
  rw [Vals.ref1 r]
  have hl : s.heap.IsTuple a its.toArray := ht
  obtain ⟨as, hr⟩ := Dp.readsAll I _ _ its (dpAll_ints (n :: ns)) rv
  have hd := depth_ints (n :: ns)
  refine PySem.W.max_tuple_data (I.ok.hd hc) hl hr ⟨fun x hx y hy => ?_, fun x hx => ?_⟩ (by show X.A.units + 1 + PyData.depthAll ((n :: ns).map PyData.int) < cLine; omega) fun i v h' tk bs hv hr' hk => ?_
  · obtain ⟨i, _, rfl⟩ := List.mem_map.mp (show x ∈ (n :: ns).map PyData.int from hx)
    obtain ⟨j, _, rfl⟩ := List.mem_map.mp (show y ∈ (n :: ns).map PyData.int from hy)
    rfl
  · obtain ⟨i, _, rfl⟩ := List.mem_map.mp (show x ∈ (n :: ns).map PyData.int from hx)
    exact fun z => nomatch z
  · rw [PySem.W.maxD_ints] at hr'
    cases hr' with
    | int _ t => exact ⟨.int _, H, I.kept hk, ⟨_, rfl⟩, q⟩
end
end Lin

end

section
namespace Lin
open PySem PySem.Spec PySem.Calls PyProof.Rows L2
theorem repML_F {K : PySem.W.Frag} {O : OW} {H : Hp} : ∀ (ds : List D) {vs : List V} {F : List Addr}, RepML K O H (ds.map M.val) vs F → F = []
  | [], _, _, h => h.2
  | d :: ds, _, _, ⟨v, vs', G1, G2, _, eg, p, q⟩ => by rw [eg, p.1, repML_F ds q]; rfl
theorem intsM (ns : List Int) : (ns.map fun i => M.val (.int i)) = (ns.map D.int).map M.val := by rw [List.map_map]; rfl
theorem repML_ints {K : PySem.W.Frag} {O : OW} {H : Hp} {ns : List Int} {vs : List V} {F : List Addr} (h : RepML K O H (ns.map fun i => M.val (.int i)) vs F) : vs = ns.map V.int ∧ F = [] := by
  rw [intsM] at h
  exact ⟨RepL.ints ns (repL_vals h), repML_F _ h⟩
theorem ints_repML {K : PySem.W.Frag} {O : OW} {H : Hp} (ns : List Int) : RepML K O H (ns.map fun i => M.val (.int i)) (ns.map V.int) [] := by
  rw [intsM]; exact repML_val _ (repL_ints ns)
section
variable {X : Cx} {env env1 env2 env3 : Sls} {a b c e f : Expr} {es : List Expr} {pos p p' pos' apos cpos tpos : Pos} {d x y : D} {m : M} {ms : List M} {ds : List D} {n : Str} {s : Sl} {K : PySem.W.Frag} {O : OW} {H : Hp} {i j : Int} {k : Bool}
theorem ev_lenK {ks : List Key} (ha : Ev X e env (.val (.dK ks ds)) env1) (hm : X.mg "len" = none := by assumption) (hg : Gl X "len" := by rfl) (he : starEach [e] X.env = (false, eval e X.env) :: starEach [] X.env := by rfl) (hpl : (backTo pos (starEach [] X.env)).any (·.1) = false := by rfl) : Ev X (.Call (.Name "len" p) [e] [] pos) env (.val (.int ks.length)) env1 :=
  ev_cbi (ds := [.dK ks ds]) call_lenR (rf_val fun O H vs Q ⟨u, us, e, ⟨a, kv, hu, _, hp, hk, rl⟩, hn⟩ q => ⟨a, kv, by rw [e, hu, show us = [] from hn], hp, by rw [show kv.length = ks.length by rw [← hk, List.length_map]]; exact q _ rfl⟩) (ea_cons ha ea_nil he) hm PySem.boot_len hg (by decide) (by decide) he hpl
theorem ev_sumT {ns : List Int} (ha : Ev X e env (.val (.tup (ns.map D.int))) env1) (hm : X.mg "sum" = none := by assumption) (hc : X.calm = true := by rfl) (hg : Gl X "sum" := by rfl) (he : starEach [e] X.env = (false, eval e X.env) :: starEach [] X.env := by rfl) (hpl : (backTo pos (starEach [] X.env)).any (·.1) = false := by rfl) : Ev X (.Call (.Name "sum" p) [e] [] pos) env (.val (.int ns.sum)) env1 :=
  ev_cbi (ds := [.tup (ns.map D.int)]) (cr_sumT hc) (rf_val fun O H vs Q ⟨u, us, e, ⟨a, xs, hu, ta, rl⟩, hn⟩ q => ⟨a, ns, by rw [e, hu, show us = [] from hn], by rw [← RepL.ints ns rl]; exact TupAt.sq ta, q _ rfl⟩) (ea_cons ha ea_nil he) hm (by decide +kernel) hg (by decide) (by decide) he hpl
theorem ev_maxT {z : Int} {ns : List Int} (ha : Ev X e env (.val (.tup ((z :: ns).map D.int))) env1) (hu : X.A.units + 2 < cLine) (hm : X.mg "max" = none := by assumption) (hc : X.calm = true := by rfl) (hg : Gl X "max" := by rfl) (he : starEach [e] X.env = (false, eval e X.env) :: starEach [] X.env := by rfl) (hpl : (backTo pos (starEach [] X.env)).any (·.1) = false := by rfl) : Ev X (.Call (.Name "max" p) [e] [] pos) env (.val (.int (ns.foldl max z))) env1 :=
  ev_cbi (ds := [.tup ((z :: ns).map D.int)]) (cr_maxT hc hu) (rf_val fun O H vs Q ⟨u, us, e, ⟨a, xs, hu, ta, rl⟩, hn⟩ q => ⟨a, z, ns, by rw [e, hu, show us = [] from hn], by rw [← RepL.ints (z :: ns) rl]; exact TupAt.sq ta, q _ rfl⟩) (ea_cons ha ea_nil he) hm (by decide +kernel) hg (by decide) (by decide) he hpl
theorem RepL.rev : ∀ {ds : List D} {xs : List V}, RepL K O H ds xs → RepL K O H ds.reverse xs.reverse
  | [], _, h => by rw [show _ = [] from h]; rfl
  | d :: ds, _, ⟨v, vs, e, p, q⟩ => by
    rw [e, List.reverse_cons, List.reverse_cons]
    exact RepL.app (RepL.rev q) ⟨v, [], rfl, p, rfl⟩
/-- xs[::-1] of a list -/
theorem ev_revL {kk : Nat} {p1 p2 p3 : Pos} (ha : Ev X e env (.val (.lst ds)) env1) : Ev X (.Subscript e (.Slice none none (some (.UnaryOp .USub (.Constant (.int 1) kk p1) p2)) p3) pos) env (.lst (ds.reverse.map M.val)) env1 :=
  ⟨ha.1, fun O H σ F r w Q q => ⟨_, pe_revL pe_w, ha.2 O H σ F r w _ fun O1 H1 v Fv F1 ⟨ev, rv⟩ rs st => by
    subst ev
    obtain ⟨a', xs, ea, no, hp, rl⟩ := rv
    refine ⟨a', xs, ea, .inl (.inl hp), fun p hp' => ?_⟩
    have w1 : Wf O1 H1 F1 := st.wf
    have s0 : Step O1 H1 [] (fun a => O1 a ∨ a = p) (upd H1 p (.lst xs.reverse)) [p] := Step.new (G := []) w1.nil hp'
    exact q _ _ (.ref p) [p] F1 ⟨p, _, [], rfl, rfl, upd_same, repML_val _ (RepL.keep (s0.kf w1.nil) s0.nw _ rl.rev)⟩ (rs.quiet s0) (st.trans w (s0.quiet w1))⟩⟩
theorem RepL.rep {ds : List D} {xs : List V} (h : RepL K O H ds xs) : ∀ m : Nat, RepL K O H (List.replicate m ds).flatten (List.replicate m xs).flatten
  | 0 => rfl
  | m + 1 => by
    rw [List.replicate_succ, List.replicate_succ, List.flatten_cons, List.flatten_cons]
    exact h.app (RepL.rep h m)
/-- [x] * n -/
theorem ev_rep {z : Int} (ha : Ev X a env (.val (.lst ds)) env1) (hb : Ev X b env1 (.val (.int z)) env2) (h0 : 0 ≤ z) (h1 : z < 2 ^ 62) (hz : ds.length * z.toNat ≤ sizeLine) : Ev X (.BinOp a .Mult b pos) env (.lst ((List.replicate z.toNat ds).flatten.map M.val)) env2 :=
  ev_bin op_rep ha hb (fun O H w u v ⟨a, xs, eu, _, ha, ra⟩ rv Q q => ⟨a, z, xs, eu, rv, ha, by omega, by omega, by rw [ra.len]; exact hz, fun p hp => by
    have s0 : Step O H [] (fun a => O a ∨ a = p) (upd H p (.lst (List.replicate z.toNat xs).flatten)) [p] := Step.new (G := []) w hp
    exact q _ _ (.ref p) [p] ⟨p, _, [], rfl, rfl, upd_same, repML_val _ (RepL.keep (s0.kf w) s0.nw _ (ra.rep _))⟩ s0⟩)
/-- xs.remove(k) of an owned list of ints -/
theorem ev_remI (i : Nat) {z : Int} {j : Nat} {ns : List Int} (ha : Ev X e env (.val (.int z)) env) (hi : env[i]? = some (some s)) (hm : s.m = .lst (ns.map fun i => .val (.int i))) (hj : ns[j]? = some z) (hno : ∀ m : Nat, m < j → ns[m]? ≠ some z) (hN : X.N[i]? = some n := by rfl) (hv : Vis X.env.scope n := by first | exact Or.inl rfl | exact Or.inr (Or.inl rfl) | exact Or.inr (Or.inr rfl))
    (hd : (n == ("__debug__" : Str)) = false := by decide) (hcd : (n == ("__classdict__" : Str)) = false := by decide)
    (hbase : attributeBase (.Name n p) "remove" X.env (eval (.Name n p) X.env) = eval (.Name n p) X.env := by rfl)
    (hfew : ((backTo cpos (starEach [e] X.env)).all (fun x => !x.1) && (backToKw cpos (keywordEach [] X.env)).all (fun x => x.1.isSome)
      && decide ([e].length + ([] : List Keyword).length + (if ([] : List Keyword).isEmpty then 0 else 1) < 30)) = true := by rfl)
    (hline : (apos.endLine == cpos.line) = true := by rfl) (hs : starEach [e] X.env = (false, eval e X.env) :: starEach [] X.env := by rfl) (hplain : (backTo cpos (starEach [] X.env)).any (·.1) = false := by rfl) :
    Ev X (.Call (.Attribute (.Name n p) "remove" apos) [e] [] cpos) env (.val .none) (env.set i (some (s.put (.lst ((ns.eraseIdx j).map fun i => .val (.int i)))))) :=
  ⟨Io.put hi, fun O H σ F r w Q q => ⟨_, pe_bm PySem.F.plainAttrs_list PySem.F.slot_list_remove PySem.F.type_list_remove mt_remove (pe_var hN hv hd hcd) (pa_cons pe_w pa_nil hs) hbase hfew hline hs hplain, by
    obtain ⟨v, F1, Fi, F2, e1, ef, rm0, _, _⟩ := RepS.at r hi
    rw [hm] at rm0
    obtain ⟨l0, xs0, F0, el0, _, hp0, _⟩ := rm0
    refine ⟨v, e1, by rw [el0]; exact .inl ⟨rfl, _, .inl (.inl hp0)⟩, ha.2 O H σ F r w _ fun O1 H1 u Fu G ⟨eu, ru⟩ r1 s1 => ?_⟩
    subst eu
    have w1 : Wf O1 H1 ([] ++ G) := s1.wf
    obtain ⟨v', Fi', e2, rm, kk⟩ := slot_upd r1 hi w1
    have ev : v' = v := by rw [e1] at e2; exact (Option.some.inj (Option.some.inj e2)).symm
    subst ev
    rw [hm] at rm
    obtain ⟨l, xs, F', el, ef', hp, rl⟩ := rm
    obtain ⟨ex, eF⟩ := repML_ints rl
    subst ex eF
    obtain ⟨ol, nl, k2⟩ := kk l [] ef'
    obtain ⟨F2', rs2, s2, _⟩ := k2 (.lst ((ns.eraseIdx j).map V.int)) (.lst ((ns.eraseIdx j).map fun i => .val (.int i))) [] [] [] (by simp) ⟨l, _, [], el, rfl, upd_same, ints_repML _⟩
    exact ⟨l, ns, z, j, el, by rw [show u = V.int z from ru], hp, hj, hno, q O1 _ .non [] F2' ⟨rfl, rfl⟩ rs2 (s1.trans w s2)⟩⟩⟩
/-- d.pop(k) of an owned dict -/
def dropD (kvs : KD) (k : Key) : KD := kvs.filter fun kv => decide (kv.1 ≠ k)
theorem drop_keys {k : Key} : ∀ {a : List (Key × V)} {b : KD}, a.map (·.1) = b.map (·.1) → (dropK a k).map (·.1) = (dropD b k).map (·.1)
  | [], [], _ => rfl
  | [], _ :: _, h => by cases h
  | _ :: _, [], h => by cases h
  | (k1, x) :: a, (k2, y) :: b, h => by
    rw [List.map_cons, List.map_cons] at h
    injection h with h1 h2
    have ih := drop_keys (k := k) h2
    unfold dropK dropD at ih ⊢
    have h1 : k1 = k2 := h1
    subst h1
    rw [List.filter_cons, List.filter_cons]
    by_cases z : k1 = k
    · rw [if_neg (by simp [z]), if_neg (by simp [z])]; exact ih
    · rw [if_pos (by simp [z]), if_pos (by simp [z]), List.map_cons, List.map_cons, ih]
theorem drop_rep {k : Key} : ∀ {a : List (Key × V)} {b : KD}, a.map (·.1) = b.map (·.1) → RepL K O H (b.map (·.2)) (a.map (·.2)) → RepL K O H ((dropD b k).map (·.2)) ((dropK a k).map (·.2))
  | [], [], _, h => h
  | [], _ :: _, h, _ => by cases h
  | _ :: _, [], h, _ => by cases h
  | (k1, x) :: a, (k2, y) :: b, h, r => by
    rw [List.map_cons, List.map_cons] at h
    injection h with h1 h2
    obtain ⟨v, vs, e, p, q⟩ := r
    have e' : x :: a.map (·.2) = v :: vs := e
    injection e' with e1 e2
    subst e1 e2
    have ih := drop_rep (k := k) h2 q
    unfold dropK dropD at ih ⊢
    have h1 : k1 = k2 := h1
    subst h1
    rw [List.filter_cons, List.filter_cons]
    by_cases z : k1 = k
    · rw [if_neg (by simp [z]), if_neg (by simp [z])]; exact ih
    · rw [if_pos (by simp [z]), if_pos (by simp [z]), List.map_cons, List.map_cons]
      exact ⟨_, _, rfl, p, ih⟩
theorem ev_popK (i : Nat) {kvs kvs0 : KD} {k : Key} (ha : Ev X e env (.val (kD k)) env) (hi : env[i]? = some (some s)) (hm : s.m = dkM kvs) (hk : lookD kvs k = some d) (m1 : M1 X (.Name n p) "pop" apos e cpos := by exact ⟨rfl, rfl, rfl, rfl⟩) (hN : X.N[i]? = some n := by rfl) (hv : Vis X.env.scope n := by first | exact Or.inl rfl | exact Or.inr (Or.inl rfl) | exact Or.inr (Or.inr rfl))
    (hd : (n == ("__debug__" : Str)) = false := by decide) (hcd : (n == ("__classdict__" : Str)) = false := by decide) :
    Ev X (.Call (.Attribute (.Name n p) "pop" apos) [e] [] cpos) env (.val d) (env.set i (some (s.put (dkM (dropD kvs k))))) :=
  ⟨Io.put hi, fun O H σ F r w Q q => ⟨_, pe_dpop1 (pe_var hN hv hd hcd) pe_w m1, by
    obtain ⟨v, F1, Fi, F2, e1, ef, rm0, _, _⟩ := RepS.at r hi
    rw [hm] at rm0
    obtain ⟨l0, kv0, F0, el0, _, hp0, _⟩ := rm0
    refine ⟨v, e1, l0, el0, .inl ⟨kv0, .inl hp0⟩, ha.2 O H σ F r w _ fun O1 H1 u Fu G ⟨eu, ru⟩ r1 s1 => ?_⟩
    subst eu
    have w1 : Wf O1 H1 ([] ++ G) := s1.wf
    obtain ⟨v', Fi', e2, rm, kk⟩ := slot_upd r1 hi w1
    have ev : v' = v := by rw [e1] at e2; exact (Option.some.inj (Option.some.inj e2)).symm
    subst ev
    rw [hm] at rm
    obtain ⟨l, kv, F', el, ef', hp, hks, rl⟩ := rm
    have el2 : l = l0 := by rw [el0] at el; injection el with z; exact z.symm
    subst el2
    have eF := repML_F _ rl
    subst eF
    have rl2 := repL_vals rl
    obtain ⟨ol, nl, k2⟩ := kk l [] ef'
    have hks' : kv.map (·.1) = kvs.map (·.1) := hks
    rcases rep_val (k := k) hks rl2 with ⟨d', v2, h1, h2, h3⟩ | ⟨h1, h2⟩
    · have h1 : lookD kvs k = some d' := by rw [← getD_look]; exact h1
      rw [hk] at h1; cases h1
      have kf : ∀ a o, H1 a = some o → ¬ O1 a → upd H1 l (.dK (dropK kv k)) a = some o := fun a o h n => by rw [upd_ne (fun e => n (by rw [e]; exact ol))]; exact h
      obtain ⟨F2', rs2, s2, _⟩ := k2 (.dK (dropK kv k)) (dkM (dropD kvs k)) [] [] [] (by simp) ⟨l, _, [], el, rfl, upd_same, drop_keys hks', repML_val _ (RepL.keep kf (fun a h => .inl h) _ (drop_rep hks' rl2))⟩
      exact ⟨kv, k, v2, hp, rep_kD ru, h2, q O1 _ v2 [] F2' ⟨rfl, Rep.keep kf (fun a h => .inl h) _ h3⟩ rs2 (s1.trans w s2)⟩
    · have h1 : lookD kvs k = none := by rw [← getD_look]; exact h1
      rw [hk] at h1; cases h1⟩⟩
/-- xs[k] += e of an owned list of ints -/
def rGetL (K : PySem.W.Frag) : V → V → Hp → VK → Prop := fun x y H Q => ∃ p xs i v, x = .ref p ∧ y = .int i ∧ 0 ≤ i ∧ SqL K H p xs ∧ xs[i.toNat]? = some v ∧ Q v H
theorem pget_list : PGet X (rGetL X.K) := by
  intro pins s σ H x y v u Q I rx ry h
  obtain ⟨p, xs, i, z, rfl, rfl, h0, hq, he, q⟩ := h
  cases rx
  obtain ⟨t, rfl⟩ := ry
  obtain ⟨its, r, pl, hz⟩ := I.list hq
  obtain ⟨w, ew, rw'⟩ := r.get he
  have hl := r.length
  have h5 : i.toNat < xs.length := (List.getElem?_eq_some_iff.mp he).1
  have hn := line63
  exact getItem_listL pl.isList h0 (by omega) ew ⟨z, H, I, rw', q⟩
theorem x1_augI (i : Nat) {j : Nat} {z c : Int} {ns : List Int} (hb : Ev X b env (.val (.int j)) env) (he : Ev X e env (.val (.int c)) env) (hi : env[i]? = some (some s)) (hm : s.m = .lst (ns.map fun i => .val (.int i))) (hj : ns[j]? = some z) (hz : ns.length ≤ sizeLine) (hN : X.N[i]? = some n := by rfl) (hv : Vis X.env.scope n := by first | exact Or.inl rfl | exact Or.inr (Or.inl rfl) | exact Or.inr (Or.inr rfl))
    (hd : (n == ("__debug__" : Str)) = false := by decide) (hcd : (n == ("__classdict__" : Str)) = false := by decide)
    (ha : ∀ ov iv new, augStore b ov iv new = (do holding [new, ov, iv] (setItem ov iv new); release [new, ov, iv] []; pure .next) := by intros; rfl) :
    Ex1 X (.AugAssign (.Subscript (.Name n p) b tpos) .Add e pos) env (.nx (env.set i (some (s.put (.lst ((ns.set j (z + c)).map fun i => .val (.int i))))))) := fun O H σ F r w D g =>
  ⟨_, ps_augS (pe_var hN hv hd hcd) pe_w pget_list pe_w ip_add set_list ha, by
    obtain ⟨v, F1, Fi, F2, e1, ef, rm0, _, _⟩ := RepS.at r hi
    refine ⟨v, e1, hb.2 O H σ F r w _ fun O1 H1 u Fu G ⟨eu, ru⟩ r1 s1 => ?_⟩
    subst eu
    obtain ⟨v', F1', Fi', F2', e2, ef', rm, _, _⟩ := RepS.at r1 hi
    have ev : v' = v := by rw [e1] at e2; exact (Option.some.inj (Option.some.inj e2)).symm
    subst ev
    rw [hm] at rm
    obtain ⟨l, xs, F', el, eF', hp, rl⟩ := rm
    obtain ⟨ex, eF⟩ := repML_ints rl
    subst ex eF
    refine ⟨l, ns.map V.int, j, V.int z, el, ru, by omega, .inl (.inl hp), by rw [Int.toNat_natCast, List.getElem?_map, hj]; rfl, he.2 O1 H1 σ G r1 s1.wf _ fun O2 H2 u2 Fu2 G2 ⟨eu2, ru2⟩ r2 s2 => ?_⟩
    subst eu2
    have w2 : Wf O2 H2 ([] ++ G2) := s2.wf
    obtain ⟨v2, Fi2, e3, rm3, kk⟩ := slot_upd r2 hi w2
    have ev2 : v2 = v' := by rw [e1] at e3; exact (Option.some.inj (Option.some.inj e3)).symm
    subst ev2
    rw [hm] at rm3
    obtain ⟨l2, xs2, F3, el2, ef3, hp2, rl2⟩ := rm3
    obtain ⟨ex2, eF2⟩ := repML_ints rl2
    subst ex2 eF2
    obtain ⟨ol, nl, k2⟩ := kk l2 [] ef3
    obtain ⟨F4, rs4, s4, _⟩ := k2 (.lst ((ns.set j (z + c)).map V.int)) (.lst ((ns.set j (z + c)).map fun i => .val (.int i))) [] [] [] (by simp) ⟨l2, _, [], el2, rfl, upd_same, ints_repML _⟩
    have jl : j < ns.length := (List.getElem?_eq_some_iff.mp hj).1
    refine ⟨z, c, rfl, ru2, l2, ns.map V.int, j, j, el2, ru, hp2, ?_, ?_⟩
    · unfold ixN
      rw [List.length_map, if_pos (by omega), if_pos (by omega), Int.toNat_natCast]
    · rw [← List.map_set]
      exact g O2 _ σ F4 rs4 ((s1.trans w s2).trans w s4) (Pins.of (Io.put hi))⟩
end
end Lin

end

section
namespace Lin
open PySem PySem.Spec PySem.Calls PyProof.Rows L2
section
variable {X : Cx} {env env1 env2 : Sls} {a b c e : Expr} {es rest : List Expr} {pos p p' : Pos} {d x y : D} {m m' : M} {ms : List M} {ds : List D} {n : Str} {s : Sl}
/-- x, y, z = a, b, c -/
theorem x1_par3 (i j l : Nat) {x y z : Str} {m1 m2 m3 : M} {px py pz pt : Pos} {kt k2 pt2} (h : EvMs X [a, b, c] env [m1, m2, m3] env1) (hioI : ∀ m', env[i]? ≠ some (some (Sl.io m')) := by intro _ h; cases h) (hioJ : ∀ m', env[j]? ≠ some (some (Sl.io m')) := by intro _ h; cases h) (hioL : ∀ m', env[l]? ≠ some (some (Sl.io m')) := by intro _ h; cases h)
    (hiL : i < env.length := by simp) (hjL : j < env.length := by simp) (hlL : l < env.length := by simp) (hij : i ≠ j := by decide) (hil : i ≠ l := by decide) (hjl : j ≠ l := by decide) (hN : X.N.Nodup := by assumption) (hi : X.N[i]? = some x := by rfl) (hj : X.N[j]? = some y := by rfl) (hl : X.N[l]? = some z := by rfl) (hx : X.env.scope.names.lookup x = some .local := by rfl) (hy : X.env.scope.names.lookup y = some .local := by rfl) (hz : X.env.scope.names.lookup z = some .local := by rfl)
    (hc : X.calm = true := by rfl) (hw : swappedStores [.Tuple [.Name x px, .Name y py, .Name z pz] kt pt] (.Tuple [a, b, c] k2 pt2) X.env = pure (some [x, y, z]) := by rfl) (hs : swapsWithSole [.Tuple [.Name x px, .Name y py, .Name z pz] kt pt] (.Tuple [a, b, c] k2 pt2) pos.line X.env = pure false := by rfl) :
    Ex1 X (.Assign [.Tuple [.Name x px, .Name y py, .Name z pz] kt pt] (.Tuple [a, b, c] k2 pt2) pos) env (.nx (((env1.set i (some (.own m1))).set j (some (.own m2))).set l (some (.own m3)))) := fun O H σ F r w D g =>
  ⟨_, ps_par3 hc hN hi hj hl hij hil hjl hx hy hz pa_w hw hs, h.2 O H σ F r w _ fun O1 H1 vs Fm F1 ⟨u, us, Fa, Fb, ev, ef, ra, v, vs', Fc, Fd, ev2, ef2, rb, v3, vs3, Fe, Ff, ev3, ef3, rc, en, en2⟩ r1 s1 => by
    subst en ev3 ev2 ev
    subst en2 ef3 ef2 ef
    have hl : env1.length = env.length := by rw [← r1.len, r.len]
    obtain ⟨G1, G2, Gi, eg, q1, k1⟩ := RepS.drop i (some u) (by rw [hl]; exact hiL) r1
    have r2 := k1 u (.own m1) Fa ra
    obtain ⟨J1, J2, Ji, ej, q2, k2⟩ := RepS.drop j (some v) (by rw [List.length_set, hl]; exact hjL) r2
    have r3 := k2 v (.own m2) Fc rb
    obtain ⟨L1, L2, Li, el, q3, k3⟩ := RepS.drop l (some v3) (by rw [List.length_set, List.length_set, hl]; exact hlL) r3
    have r4 := k3 v3 (.own m3) Fe rc
    refine ⟨u, v, v3, rfl, g O1 H1 _ _ r4 ((s1.permR (F2 := (L1 ++ (Fe ++ L2)) ++ (Gi ++ Ji ++ Li)) (List.perm_iff_count.mpr fun a => ?_)).dropR) fun k m' z => ?_⟩
    · have e1 := congrArg (List.count a) eg
      have e2 := congrArg (List.count a) ej
      have e3 := congrArg (List.count a) el
      simp only [List.count_append, List.count_nil] at e1 e2 e3 ⊢
      omega
    · have n1 : i ≠ k := fun q => hioI m' (q ▸ z)
      have n2 : j ≠ k := fun q => hioJ m' (q ▸ z)
      have n3 : l ≠ k := fun q => hioL m' (q ▸ z)
      obtain ⟨m3, z3⟩ := h.1 k m' z
      exact ⟨⟨m3, by rw [List.getElem?_set_ne n3, List.getElem?_set_ne n2, List.getElem?_set_ne n1]; exact z3⟩, by rw [List.getElem?_set_ne n3, List.getElem?_set_ne n2, List.getElem?_set_ne n1]⟩⟩
end
/-! ### t[::-1] of a tuple -/
section
variable {prog : Program} {w : World} {A : Around} {E : Value → Shared → Prop} {s : Shared}
open HT
theorem adjust_rev (n : Nat) : Builtin.Slice.sliceAdjust none none (-1) (n : Int) = ((n : Int) - 1, -1) := by
  unfold Builtin.Slice.sliceAdjust
  simp
theorem places_rev (n : Nat) : Builtin.Slice.slicePlaces ((n : Int) - 1) (-1) (-1) = n := by
  unfold Builtin.Slice.slicePlaces
  have h1 : ¬ ((-1 : Int) > 0) := by omega
  simp only [h1, if_false]
  split
  · rw [show (- -1 : Int) = 1 by decide]; simp
  · omega
theorem sliceApplied_rev {sl : Addr} {vl vu vs : Value} {n : Nat} {Q : Int × Int × Nat → Shared → Prop} (hs : s.heap.IsSliceOf sl vl vu vs) (pl : IsPart vl none) (pu : IsPart vu none) (ps : IsPart vs (some (-1)))
    (h : Q ((n : Int) - 1, -1, n) s) : wpAny (model prog w) A (Builtin.Slice.sliceApplied (.ref sl) (pure (n : Int))) Q E s := by
  obtain ⟨os, hos, hcs, hds⟩ := id hs
  unfold Builtin.Slice.sliceApplied Builtin.Slice.sliceFields
  refine wpAny_bind (wpAny_bind (wpAny_field hos hds (x := vl) rfl (wpAny_bind (wpAny_field hos hds (x := vu) rfl (wpAny_bind (wpAny_field hos hds (x := vs) rfl (wpAny_pure ?_)))))))
  refine wpAny_bind (slicePart_ ps ?_)
  show wpAny _ _ (if ((-1 : Int) == 0) = true then _ else _) _ _ s
  rw [if_neg (by decide)]
  refine wpAny_bind (slicePart_ pl (wpAny_bind (slicePart_ pu (wpAny_bind (wpAny_pure ?_)))))
  show wpAny _ _ (match Builtin.Slice.sliceAdjust none none (-1) (n : Int) with | (lo, hi) => pure (lo, (-1 : Int), Builtin.Slice.slicePlaces lo hi (-1))) _ _ s
  rw [adjust_rev n]
  show wpAny _ _ (pure ((n : Int) - 1, (-1 : Int), Builtin.Slice.slicePlaces ((n : Int) - 1) (-1) (-1))) _ _ s
  rw [places_rev]
  exact wpAny_pure h
theorem pick_rev (xs : Array Value) : ((List.range xs.size).filterMap fun (m : Nat) => xs[(((xs.size : Int) - 1) + (m : Int) * (-1)).toNat]?).toArray = xs.toList.reverse.toArray := by
  have e : ((List.range xs.size).filterMap fun (m : Nat) => xs[(((xs.size : Int) - 1) + (m : Int) * (-1)).toNat]?) = ((List.range xs.size).map fun k => xs.size - 1 - k).filterMap (xs[·]?) := by
    rw [List.filterMap_map]
    congr 1
    funext m
    show xs[(((xs.size : Int) - 1) + (m : Int) * (-1)).toNat]? = xs[xs.size - 1 - m]?
    congr 1
    omega
  rw [e, PySem.W.krv_range, List.filterMap_reverse, PySem.W.krv_all]
theorem getItem_tuple_rev {t sl : Addr} {items : Array Value} {vl vu vs : Value} {Q : Value → Shared → Prop} (ht : IsTup s.heap t items) (hs : s.heap.IsSliceOf sl vl vu vs) (pl : IsPart vl none) (pu : IsPart vu none) (ps : IsPart vs (some (-1)))
    (h : Q (.ref s.heap.objs.size) { s with heap := s.heap.push { cls := .type "tuple", data := .seq items.toList.reverse.toArray } })
    (hsz : items.size ≤ sizeLine) : wpAny (model prog w) A (getItem (.ref t) (.ref sl)) Q E s := by
  have hnew : sizeOk (.seq items.toList.reverse.toArray) := by
    show items.toList.reverse.toArray.size ≤ sizeLine
    rw [List.size_toArray, List.length_reverse, Array.length_toList]
    exact hsz
  obtain ⟨os, hos, hcs, hds⟩ := id hs
  have hTs : s.TypeIs (.ref sl) "slice" := ⟨os, hos, hcs⟩
  unfold getItem
  try with_reducible refine wpAny_holding ?_
  first | refine wpAny_bind (wpAny_pure ?_) | skip
  refine wpAny_bind (wpAny_sequenceKey ht.typeIs (by decide) ?_)
  refine wpAny_bind (wpAny_callSpecial?_slot (name := Str.ofString "__getitem__") ht.typeIs PyProof.Rows.slot_tuple_getitem
    (wpAny_call_entry PyProof.Rows.slot_tuple_getitem ht.typeIs entry_tuple_getitem ?_ (args_tuple_getitem _ _)))
  show wpAny _ _ (Builtin.Tuple.tupleItemsOf (.ref t) >>= _) _ _ s
  refine wpAny_bind (tupleItemsOf_ ht ?_)
  refine wpAny_bind (wpAny_typeOf hTs ?_)
  rw [if_pos (by decide)]
  refine wpAny_bind (sliceApplied_rev hs pl pu ps ?_)
  have hno : ¬ ((((items.size : Int) - 1) == 0 && (-1 : Int) == 1 && items.size == items.size) = true) := by
    intro q
    rw [Bool.and_eq_true, Bool.and_eq_true] at q
    exact absurd q.1.2 (by decide)
  show wpAny _ _ (if (((items.size : Int) - 1) == 0 && (-1 : Int) == 1 && items.size == items.size) = true then _ else _) _ _ s
  rw [if_neg hno, pick_rev]
  first
    | exact wpAny_bind (m := Builtin.Tuple.tupleExact _) (wpAny_newObj_type (wpAny_pure ⟨_, rfl, wpAny_pure h⟩) hnew)
    | exact wpAny_bind (m := Builtin.Tuple.tupleExact _) (wpAny_newObj_type (wpAny_bind (wpAny_pure (wpAny_pure ⟨_, rfl, wpAny_pure h⟩))) hnew)
    | exact wpAny_bind (wpAny_bind (m := Builtin.Tuple.tupleExact _) (wpAny_newObj_type (wpAny_pure (wpAny_pure ⟨_, rfl, wpAny_pure h⟩)) hnew))
    | exact wpAny_bind (wpAny_bind (m := Builtin.Tuple.tupleExact _) (wpAny_newObj_type (wpAny_pure ⟨_, rfl, wpAny_pure h⟩) hnew))
end
section
variable {X : Cx} {env env1 : Sls} {e : Expr} {ds : List D} {pos p1 p2 p3 : Pos} {k : Nat}
def tRevT (K : PySem.W.Frag) (te : TE) : TE := fun σ H Q => te σ H fun x H1 => ∃ a xs, x = .ref a ∧ SqT K H1 a xs ∧ ∀ p, H1 p = none → Q (.ref p) (upd H1 p (.tup xs.reverse))
theorem pe_revT {te : TE} (he : PE X e te) : PE X (.Subscript e (.Slice none none (some (.UnaryOp .USub (.Constant (.int 1) k p1) p2)) p3) pos) (tRevT X.K te) := by
  refine ⟨fun pins s σ H Q I h => ?_⟩
  refine Subscript_ (thn (he.run pins s σ H _ I h) fun v s1 ⟨x, H1, I1, r1, q1⟩ => ?_)
  obtain ⟨a, xs, ex, hx, q⟩ := q1
  subst ex
  cases r1
  have hst : PO X (some (.UnaryOp .USub (.Constant (.int 1) k p1) p2)) (tPart (tUn (rU fun i => .int (-i)) (tC (.int 1)))) := po_some (pe_un un_neg pe_int)
  refine wpAny_Slice (thn (po_none.run pins s1 σ H1 (fun o H2 => o = none ∧ H2 = H1) I1 ⟨rfl, rfl⟩) fun vl s2 ⟨l, H2, I2, pl, el, e2⟩ => ?_)
  subst el e2
  refine thn (po_none.run pins s2 σ H2 (fun o H3 => o = none ∧ H3 = H2) I2 ⟨rfl, rfl⟩) fun vu s3 ⟨u, H3, I3, pu, eu, e3⟩ => ?_
  subst eu e3
  refine thn (hst.run pins s3 σ H3 (fun o H4 => o = some (-1) ∧ H4 = H3) I3 ⟨1, rfl, -1, rfl, rfl, rfl⟩) fun vs s4 ⟨o, H4, I4, ps, eo, e4⟩ => ?_
  subst eo e4
  have I5 : Inv X pins σ H4 { s4 with heap := s4.heap.push { cls := .type "slice", data := .fields #[vl, vu, vs] } } := I4.kept (t' := s4.toks) fun b ob q => Heap.get?_push_of_some _ q
  obtain ⟨its, r, ht, hz⟩ := I5.tuple hx
  have hlen := r.length
  show wpAny (model X.prog X.w) X.A (subscriptTail e (.Slice none none (some (.UnaryOp .USub (.Constant (.int 1) k p1) p2)) p3) (.ref a) (.ref s4.heap.objs.size)) (EP X pins σ Q) X.xe { s4 with heap := s4.heap.push { cls := .type "slice", data := .fields #[vl, vu, vs] } }
  refine PyProof.Rows.tail_any (ops := [.ref a, .ref s4.heap.objs.size]) ht.typeIs (PyProof.Rows.slot_tuple_getitem.lookup) ?_ (by with_unfolding_all rfl)
  refine getItem_tuple_rev ht (Heap.IsSliceOf.new _ vl vu vs) pl pu ps ?_ (by rw [List.size_toArray]; omega)
  refine ⟨.ref _, _, I5.laid (t' := s4.toks) (o := .tup xs.reverse) (fun b ob q => Heap.get?_push_of_some _ q) (Nat.le_refl _) ?_, rfl, q _ (I5.hok.fresh (Nat.le_refl _))⟩
  exact ⟨by rw [List.length_reverse]; exact hz, _, r.reverse, IsTup.new _ _⟩
theorem ev_revT (ha : Ev X e env (.val (.tup ds)) env1) : Ev X (.Subscript e (.Slice none none (some (.UnaryOp .USub (.Constant (.int 1) k p1) p2)) p3) pos) env (.val (.tup ds.reverse)) env1 :=
  ⟨ha.1, fun O H σ F r w Q q => ⟨_, pe_revT pe_w, ha.2 O H σ F r w _ fun O1 H1 v Fv F1 ⟨ev, rv⟩ rs st => by
    subst ev
    obtain ⟨a', xs, ea, ta, rl⟩ := rv
    refine ⟨a', xs, ea, TupAt.sq ta, fun p hp' => ?_⟩
    have w1 : Wf O1 H1 F1 := st.wf
    have s0 : Step O1 H1 [] O1 (upd H1 p (.tup xs.reverse)) [] := Step.newF w1.nil hp'
    refine q _ _ (.ref p) [] F1 ⟨rfl, p, _, rfl, .inl ⟨fun z => ?_, .inl upd_same⟩, RepL.keep (s0.kf w1.nil) s0.nw _ rl.rev⟩ (rs.quiet s0) (st.trans w (s0.quiet w1))
    obtain ⟨o, e⟩ := w1.dom p z
    rw [hp'] at e; cases e⟩⟩
end
end Lin

end

section
namespace PySem
open Sem (wp)
open AutoSeq1 (wpAny_loadPart')
theorem meets_enum1B {v : Value} {o : Obj} {H : Heap → Prop} (B : Begins v o H) :
    Meets (Builtin.«enumerate.__new__» ⟨[.type "enumerate", v], []⟩) (fun _ R s => H s.heap ∧
      R (.ok (.ret (.ref (s.heap.push o).objs.size))) { s with heap := (s.heap.push o).push { cls := .type "enumerate", data := .fields #[.none, .bool false, .ref s.heap.objs.size, rawInt 0, .none, .none] } }) :=
  .of_wp fun prog w A R s h => by
    obtain ⟨hp, g, d, tk, os⟩ := s; obtain ⟨h1, h⟩ := h
    have hsub := sub_enumerate
    have q1 : ∀ {A' : Around} {E : Value → Shared → Prop} {Q : Value → Shared → Prop}, Q (.ref hp.objs.size) ⟨hp.push o, g, d, tk, os⟩ → wpAny (model prog w) A' (pyIter v) Q E ⟨hp, g, d, tk, os⟩ :=
      fun q => B.iter prog w _ _ ⟨hp, g, d, tk, os⟩ _ h1 q
    wp_walk using q1
    refine wpAny_stack_any fun st => wpAny_pure ?_
    split
    · rename_i c _ _ _ _ _
      cases (c == Value.type "enumerate")
      · wp_walk using q1
        exact ⟨_, rfl, h⟩
      · wp_walk using q1
        exact ⟨_, rfl, h⟩
    · wp_walk using q1
      exact ⟨_, rfl, h⟩
section
variable {prog : Program} {w : World} {A : Around} {E : Value → Shared → Prop} {s : Shared}
theorem enum1_begins {v : Value} {o : Obj} {H : Heap → Prop} {Q : Value → Shared → Prop} (B : Begins v o H) (h1 : H s.heap)
    (h : ∀ h', IsEnum h' (s.heap.objs.size + 1) s.heap.objs.size 0 .none → h'.get? s.heap.objs.size = some o → h'.objs.size = s.heap.objs.size + 2 →
      (∀ b o, s.heap.get? b = some o → h'.get? b = some o) → Q (.ref (s.heap.objs.size + 1)) { s with heap := h' }) :
    wpAny (model prog w) A (call (.type "enumerate") [v]) Q E s := by
  refine callType_new F.called_enumerate (by decide) (F.typeCall_enumerate_1 _) (F.newCall_enumerate_1 _) (fun obj => F.args_object_init_2 obj _) F.entry_enumerate_new
    (meets_enum1B B) ⟨h1, ?_⟩
  have hz : (s.heap.push o).objs.size = s.heap.objs.size + 1 := Heap.size_push ..
  show _ ∧ _
  rw [hz]
  have he : IsEnum ((s.heap.push o).push { cls := .type "enumerate", data := .fields #[.none, .bool false, .ref s.heap.objs.size, rawInt 0, .none, .none] }) (s.heap.objs.size + 1) s.heap.objs.size 0 .none := by
    have := Heap.get?_push_size (s.heap.push o) (o := { cls := .type "enumerate", data := .fields #[.none, .bool false, .ref s.heap.objs.size, rawInt 0, .none, .none] }) rfl
    rw [hz] at this; exact this
  refine ⟨⟨_, he, rfl⟩, h _ he (Heap.get?_push_of_some _ (Heap.get?_push_size _ B.free)) (by rw [Heap.size_push, hz]) fun b o x => Heap.get?_push_of_some _ (Heap.get?_push_of_some _ x)⟩
end
end PySem
namespace Lin
open PySem PySem.Spec PySem.Calls PyProof.Rows L2
/-! ### enumerate(tuple) -/
def IteT (K : PySem.W.Frag) (a : Addr) : It :=
  ⟨fun i H => ∃ (xs : List V) (x : V), SqT K H a xs ∧ xs[i]? = some x, fun i H v H' => ∃ T x, v = .ref T ∧ H T = none ∧ H' = upd H T (.tup [.int (i : Nat), x]) ∧ ∀ xs, SqT K H a xs → xs[i]? = some x, fun i H => ∃ xs : List V, SqT K H a xs ∧ xs.length = i⟩
theorem turn_enumT {P : Program} {w : World} {K : PySem.W.Frag} {elts : List Expr} {kk : Nat} {tpos : Pos} (a e it : Addr) (hai : a ≠ it) (hae : e ≠ a) :
    Turn P w K (.Tuple elts kk tpos) (IteT K a) [e, it] e (fun i h => (∃ old, IsEnum h e it ((i : Nat) : Int) old) ∧ h.IsTupleIter it a i ∧ e ≠ it) where
  mem := by simp
  obj := fun i h st b hb => by
    obtain ⟨⟨old, he⟩, ⟨o, ho, hc, hd⟩, _⟩ := st
    have e' : b = e ∨ b = it := by simpa using hb
    rcases e' with z | z
    · rw [z]; exact ⟨_, he, fun v q => nomatch q⟩
    · rw [z]; exact ⟨o, ho, fun v q => by rw [hd] at q; cases q⟩
  keep := fun i h h' st k => let ⟨⟨old, he⟩, hi, hne⟩ := st; ⟨⟨old, k e (by simp) _ he⟩, hi.at fun o q => k it (by simp) o q, hne⟩
  item := by
    intro X hP hw hK hc i pins s σ H E I hf st hg
    subst hP hw hK
    obtain ⟨⟨old, he⟩, hit, hne⟩ := st
    obtain ⟨xs, x, hq, hx⟩ := hg
    obtain ⟨its, rv, p, hz⟩ := I.tuple hq
    obtain ⟨u, hu, ru⟩ := rv.get hx
    have hel : e < s.heap.objs.size := Heap.lt_size he
    have hil : it < s.heap.objs.size := by obtain ⟨_, q, _⟩ := hit; exact Heap.lt_size q
    have hlt : i < its.toArray.size := by
      have := (List.getElem?_eq_some_iff.mp hu).1
      simpa using this
    refine wpAny_pyNext_enum_itemD (Draws.tuple (A := X.A.in1) (I.ok.hd hc) it a hai its.toArray) he ⟨hit, p⟩ hlt hne (by simp [hne, hae]) fun x' h' tk hx' ho hit' hT hsz hk => ?_
    have ex : x' = u := by
      have q : its[i]? = some x' := by simpa using hx'
      rw [hu] at q
      exact (Option.some.inj q).symm
    subst ex
    refine ⟨_, rfl, wpAny_letOwnedTupleGo_enum (s := { s with heap := h', toks := tk + 1 }) ho fun h'' he' sb => ?_⟩
    have hT2 : h''.get? s.heap.objs.size = some { cls := .type "tuple", data := .seq #[.int i tk, x'] } := (sb.2 _ (Nat.ne_of_gt hel)).trans hT
    have new : ObjOk X.prog X.w (upd H s.heap.objs.size (.tup [.int (i : Nat), x])) h'' s.heap.objs.size (.tup [.int (i : Nat), x]) :=
      ⟨by show 2 ≤ sizeLine; decide, [.int i tk, x'], .cons ⟨_, rfl⟩ (.cons ru .nil), ⟨_, hT2, rfl, _, rfl⟩⟩
    have I1 : Inv X pins σ (upd H s.heap.objs.size (.tup [.int (i : Nat), x])) { s with heap := h'', toks := tk + 1 } :=
      I.turnedNew (ch := [e, it]) (fun b ob hb q => (sb.2 b (fun z => hb (by simp [z]))).trans (hk b ob (fun z => hb (by simp [z])) (fun z => hb (by simp [z])) q)) hf (Nat.le_refl _) new
    refine ⟨.ref s.heap.objs.size, _, I1, rfl, ⟨_, x, rfl, I.hok.fresh (Nat.le_refl _), rfl, fun ys hy => by rw [I.tuple_inj hy hq]; exact hx⟩, ⟨⟨x', ?_⟩, hit'.1.at fun o q => (sb.2 it (Ne.symm hne)).trans q, hne⟩, fun b hb => ?_⟩
    · have e1 : ((i + 1 : Nat) : Int) = (i : Int) + 1 := by omega
      rw [e1]; exact he'
    · have hb' : b < s.heap.objs.size := by
        have e' : b = e ∨ b = it := by simpa using hb
        rcases e' with z | z
        · rw [z]; exact hel
        · rw [z]; exact hil
      rw [upd_ne (Nat.ne_of_lt hb')]
      exact (hf b hb).1
  done := by
    intro X hP hw hK hc i pins s σ H E I hf st hg
    subst hP hw hK
    obtain ⟨⟨old, he⟩, hit, hne⟩ := st
    obtain ⟨xs, hq, hx⟩ := hg
    obtain ⟨its, rv, p, hz⟩ := I.tuple hq
    obtain ⟨f0, f1, f2, f3, f4, f5⟩ := hf it (by simp)
    have hl := rv.length
    have hn : i = its.toArray.size := by rw [List.size_toArray]; omega
    refine wpAny_pyNext_enum_endD (Draws.tuple (A := X.A.in1) (I.ok.hd hc) it a hai its.toArray) he (by rw [← hn]; exact ⟨hit, p⟩) fun h' eb => ⟨rfl, I.turned (t' := s.toks) (fun b o hb q => eb b o hb q) f0 f1 f3 f4 f5⟩
  self := fun A i s Q E st h => let ⟨⟨_, he⟩, _⟩ := st; wpAny_pyIter_enum he h
def iEnumT (K : PySem.W.Frag) (ta : TA) : TI := fun σ H R => ta σ H fun vs H1 => ∃ a xs, vs = [.ref a] ∧ SqT K H1 a xs ∧ R (IteT K a) H1
theorem pi_enumT {X : Cx} {e : Expr} {ta : TA} {p pos tpos : Pos} {elts : List Expr} {kk : Nat} (hg : Gl X "enumerate") (hm : X.mg "enumerate" = none) (ha : PA X [e] ta) (hs : starEach [e] X.env = [(false, eval e X.env)] := by rfl) :
    PI X (.Tuple elts kk tpos) (.Call (.Name "enumerate" p) [e] [] pos) (iEnumT X.K ta) := by
  refine ⟨fun pins s σ H R I h => ?_⟩
  refine Call_ (ld_blt I hg hm boot_enumerate (PyProof.Rows.callWith_type1 (thn (ha.run pos pins s σ H _ I h) fun us s1 ⟨vs, H1, I1, r1, q1⟩ => ?_) hs rfl))
  obtain ⟨a, xs, ex, hq, q⟩ := q1
  subst ex
  cases r1 with
  | cons r rr =>
    cases rr
    cases r
    obtain ⟨its, rv, p', hz⟩ := I1.tuple hq
    have hal : a < s1.heap.objs.size := by obtain ⟨o, ho, _⟩ := id p'; exact Heap.lt_size ho
    refine enum1_begins (begins_tuple a its.toArray) (show s1.heap.IsTuple a its.toArray from p') fun h' he hit hsz hk => wpAny_pyIter_enum he ?_
    have I2 : Inv X pins σ H1 { s1 with heap := h' } := I1.kept (t' := s1.toks) hk
    refine ⟨s1.heap.objs.size + 1, [s1.heap.objs.size + 1, s1.heap.objs.size], _, _, H1, rfl, I2, turn_enumT a (s1.heap.objs.size + 1) s1.heap.objs.size (Nat.ne_of_lt hal) (Nat.ne_of_gt (Nat.lt_succ_of_lt hal)), ⟨⟨.none, he⟩, ⟨_, hit, rfl, rfl⟩, Nat.succ_ne_self _⟩, fun b hb => ?_, q⟩
    have e' : b = s1.heap.objs.size + 1 ∨ b = s1.heap.objs.size := by simpa using hb
    have hle : s1.heap.objs.size ≤ b := by
      rcases e' with z | z
      · rw [z]; exact Nat.le_add_right _ _
      · rw [z]; exact Nat.le_refl _
    exact I1.fpOk hle (I1.hok.fresh hle)
section
variable {K : PySem.W.Frag} {O : OW} {H : Hp} {ds es : List D} {a b : Addr} {xs zs : List V}
theorem walk_enumT : Walk (IteT K a) xs.length (fun H => SqT K H a xs) (YPair (fun i => some (.int (i : Nat))) (fun i => xs[i]?)) := by
  refine ⟨fun i _ hi q => ⟨xs, xs[i], q, by simp [hi]⟩, fun _ q => ⟨xs, q, rfl⟩, fun i H v H' _ q y => ?_⟩
  obtain ⟨T, x, h1, h2, h3, h4⟩ := y
  exact ⟨T, .int (i : Nat), x, h1, h2, h3, rfl, h4 xs q⟩
theorem wk_enumT (ha : TupAt K O H a xs) (rl : RepL K O H ds xs) : Wk K O H (IteT K a) (enumD 0 ds) :=
  wk_of walk_enumT (by rw [enumD_len, rl.len]) (fun O' H' kp => (ha.kept kp).sq) fun O' H' F' i d x H2 kp wf hd ⟨T, x1, y1, ex, hT, eH, hx, hy⟩ => by
    obtain ⟨e, he, ed⟩ := enumD_get hd
    subst ex eH ed
    cases hx
    rw [Nat.zero_add]
    exact rep_pair wf.nil hT rfl (repL_at (rl.kept kp) he hy)
end
section
variable {X : Cx} {env env1 env2 : Sls} {d : D} {ds es : List D} {pos p : Pos} {e e2 tg a b : Expr} {elts : List Expr} {kk : Nat} {tpos : Pos}
theorem iv_enumT (h : Ev X e env (.val (.tup ds)) env1) (hm : X.mg "enumerate" = none := by assumption) (hg : Gl X "enumerate" := by rfl) (he : starEach [e] X.env = [(false, eval e X.env)] := by rfl) (he' : starEach [e] X.env = (false, eval e X.env) :: starEach [] X.env := by rfl) : Iv X (.Tuple elts kk tpos) (.Call (.Name "enumerate" p) [e] [] pos) env (enumD 0 ds) env1 :=
  ⟨h.1, fun O H σ F r w R q => ⟨_, pi_enumT hg hm (pa_cons pe_w pa_nil he') he, h.2 O H σ F r w _ fun O1 H1 v Fv F1 ⟨ev, rv⟩ rs s => by
    subst ev
    obtain ⟨a, xs, ea, ta, rl⟩ := rv
    exact ⟨a, xs, by rw [ea], TupAt.sq ta, q O1 H1 _ F1 (wk_enumT ta rl) rs s⟩⟩⟩
end
/-! ### zip(tuple, list) -/
def ItzM (K : PySem.W.Frag) (a b : Addr) : It :=
  ⟨fun i H => ∃ (xs ys : List V) (x y : V), SqT K H a xs ∧ SqL K H b ys ∧ xs[i]? = some x ∧ ys[i]? = some y,
    fun i H v H' => ∃ T x y, v = .ref T ∧ H T = none ∧ H' = upd H T (.tup [x, y]) ∧ (∀ xs, SqT K H a xs → xs[i]? = some x) ∧ ∀ ys, SqL K H b ys → ys[i]? = some y,
    fun i H => ∃ xs ys : List V, SqT K H a xs ∧ SqL K H b ys ∧ i ≤ xs.length ∧ i ≤ ys.length ∧ (i = xs.length ∨ i = ys.length)⟩
theorem turn_zipM {P : Program} {w : World} {K : PySem.W.Frag} {elts : List Expr} {kk : Nat} {tpos : Pos} {a b z TI TO i1 i2 : Addr} (D : ZipSep2 z TI TO i1 i2 [i1, a] [i2, b]) (ha1 : a ≠ i1) (hb2 : b ≠ i2) :
    Turn P w K (.Tuple elts kk tpos) (ItzM K a b) [z, TI, TO, i1, i2] z (fun i h => IsZip h z TI TO .none ∧ IsTupOf2 h TI (.ref i1) (.ref i2) ∧ (∃ x y, IsTupOf2 h TO x y) ∧ h.IsTupleIter i1 a i ∧ h.IsListIter i2 b i) where
  mem := by simp
  obj := fun i h st c hc => by
    obtain ⟨hz, hTI, ⟨x, y, hTO⟩, ⟨o1, e1, _, d1⟩, ⟨o2, e2, _, d2⟩⟩ := st
    have e' : c = z ∨ c = TI ∨ c = TO ∨ c = i1 ∨ c = i2 := by simpa using hc
    rcases e' with q | q | q | q | q
    · rw [q]; exact ⟨_, hz, fun v q => nomatch q⟩
    · rw [q]; exact ⟨_, hTI, fun v q => nomatch q⟩
    · rw [q]; exact ⟨_, hTO, fun v q => nomatch q⟩
    · rw [q]; exact ⟨o1, e1, fun v q => by rw [d1] at q; cases q⟩
    · rw [q]; exact ⟨o2, e2, fun v q => by rw [d2] at q; cases q⟩
  keep := fun i h h' st k => by
    obtain ⟨hz, hTI, ⟨x, y, hTO⟩, h1, h2⟩ := st
    exact ⟨k z (by simp) _ hz, k TI (by simp) _ hTI, ⟨x, y, k TO (by simp) _ hTO⟩, h1.at fun o q => k i1 (by simp) o q, h2.at fun o q => k i2 (by simp) o q⟩
  item := by
    intro X hP hw hK hc i pins s σ H E I hf st hg
    subst hP hw hK
    obtain ⟨hz, hTI, ⟨x0, y0, hTO⟩, h1, h2⟩ := st
    obtain ⟨xs, ys, x, y, hqx, hqy, hx, hy⟩ := hg
    obtain ⟨its, rv, p, _⟩ := I.tuple hqx
    obtain ⟨its2, rv2, p2, _⟩ := I.list hqy
    obtain ⟨u, hu, ru⟩ := rv.get hx
    obtain ⟨u2, hu2, ru2⟩ := rv2.get hy
    have hzl : z < s.heap.objs.size := Heap.lt_size hz
    have l1 : i < its.toArray.size := by
      have := (List.getElem?_eq_some_iff.mp hu).1
      simpa using this
    have l2 : i < its2.toArray.size := by
      have := (List.getElem?_eq_some_iff.mp hu2).1
      simpa using this
    refine wpAny_pyNext_zipD2_item D (Draws.tuple (A := X.A.in1) (I.ok.hd hc) i1 a ha1 its.toArray) (Draws.list (A := X.A.in1) (I.ok.hd hc) i2 b hb2 its2.toArray) hz hTI hTO ⟨h1, p⟩ ⟨h2, p2.isList⟩ l1 l2 fun x1 x2 h' tk q1 q2 z' TO' h1' h2' hT hsz hk => ?_
    have ex : x1 = u := by
      have q : its[i]? = some x1 := by simpa using q1
      rw [hu] at q
      exact (Option.some.inj q).symm
    have ex2 : x2 = u2 := by
      have q : its2[i]? = some x2 := by simpa using q2
      rw [hu2] at q
      exact (Option.some.inj q).symm
    subst ex ex2
    refine ⟨_, rfl, wpAny_letOwnedTupleGo_zip (s := { s with heap := h', toks := tk }) z' fun h'' z'' sb => ?_⟩
    have hT2 : h''.get? s.heap.objs.size = some { cls := .type "tuple", data := .seq #[x1, x2] } := (sb.2 _ (Nat.ne_of_gt hzl)).trans hT
    have new : ObjOk X.prog X.w (upd H s.heap.objs.size (.tup [x, y])) h'' s.heap.objs.size (.tup [x, y]) :=
      ⟨by show 2 ≤ sizeLine; decide, [x1, x2], .cons ru (.cons ru2 .nil), ⟨_, hT2, rfl, _, rfl⟩⟩
    have I1 : Inv X pins σ (upd H s.heap.objs.size (.tup [x, y])) { s with heap := h'', toks := tk } :=
      I.turnedNew (t' := tk) (ch := [z, TI, TO, i1, i2]) (fun c o hb q => (sb.2 c (fun q' => hb (by simp [q']))).trans (hk c o (fun q' => hb (by simp [q'])) (fun q' => hb (by simp [q'])) (fun q' => hb (by simp [q'])) (fun q' => hb (by simp [q'])) q)) hf (Nat.le_refl _) new
    refine ⟨.ref s.heap.objs.size, _, I1, rfl, ⟨_, x, y, rfl, I.hok.fresh (Nat.le_refl _), rfl, fun l hl => by rw [I.tuple_inj hl hqx]; exact hx, fun l hl => by rw [I.list_inj hl hqy]; exact hy⟩, ⟨z'', ?_, ⟨x1, x2, ?_⟩, ?_, ?_⟩, fun c hcm => ?_⟩
    · exact (sb.2 _ D.TIz).trans (hk _ _ D.TIz D.TITO D.TIi1 D.TIi2 hTI)
    · exact (sb.2 _ D.TOz).trans TO'
    · exact h1'.1.at fun o q => (sb.2 _ (Ne.symm D.zi1)).trans q
    · exact h2'.1.at fun o q => (sb.2 _ (Ne.symm D.zi2)).trans q
    · have hlt : c < s.heap.objs.size := by
        have e' : c = z ∨ c = TI ∨ c = TO ∨ c = i1 ∨ c = i2 := by simpa using hcm
        rcases e' with q | q | q | q | q
        · rw [q]; exact hzl
        · rw [q]; exact Heap.lt_size hTI
        · rw [q]; exact Heap.lt_size hTO
        · rw [q]; obtain ⟨_, e1, _⟩ := h1; exact Heap.lt_size e1
        · rw [q]; obtain ⟨_, e2, _⟩ := h2; exact Heap.lt_size e2
      rw [upd_ne (Nat.ne_of_lt hlt)]
      exact (hf c hcm).1
  done := by
    intro X hP hw hK hc i pins s σ H E I hf st hg
    subst hP hw hK
    obtain ⟨hz, hTI, ⟨x0, y0, hTO⟩, h1, h2⟩ := st
    obtain ⟨xs, ys, hqx, hqy, b1, b2, hend⟩ := hg
    obtain ⟨its, rv, p, _⟩ := I.tuple hqx
    obtain ⟨its2, rv2, p2, _⟩ := I.list hqy
    have l1 := rv.length
    have l2 := rv2.length
    refine wpAny_pyNext_zipD2_end D (Draws.tuple (A := X.A.in1) (I.ok.hd hc) i1 a ha1 its.toArray) (Draws.list (A := X.A.in1) (I.ok.hd hc) i2 b hb2 its2.toArray) hz hTI hTO ⟨h1, p⟩ ⟨h2, p2.isList⟩ (by rw [List.size_toArray]; omega) (by rw [List.size_toArray]; omega) (by rw [List.size_toArray, List.size_toArray]; omega) fun h' tk hk => ⟨rfl, I.turnedL (t' := tk) (ch := [z, TI, TO, i1, i2]) (fun c o hb q =>
      hk c o (fun q' => hb (by simp [q'])) (fun q' => hb (by simp [q'])) (fun q' => hb (by simp [q'])) (fun q' => hb (by simp [q'])) q) hf⟩
  self := fun A i s Q E st h => wpAny_pyIter_zip st.1 h
def iZipM (K : PySem.W.Frag) (ta : TA) : TI := fun σ H R => ta σ H fun vs H1 => ∃ a b xs ys, vs = [.ref a, .ref b] ∧ SqT K H1 a xs ∧ SqL K H1 b ys ∧ R (ItzM K a b) H1
theorem pi_zipM {X : Cx} {e e2 : Expr} {ta : TA} {p pos tpos : Pos} {elts : List Expr} {kk : Nat} (hg : Gl X "zip") (hm : X.mg "zip" = none) (ha : PA X [e, e2] ta)
    (hs : starEach [e, e2] X.env = (false, eval e X.env) :: starEach [e2] X.env := by rfl) (hpl : (backTo pos (starEach [e2] X.env)).any (·.1) = false := by rfl) :
    PI X (.Tuple elts kk tpos) (.Call (.Name "zip" p) [e, e2] [] pos) (iZipM X.K ta) := by
  refine ⟨fun pins s σ H R I h => ?_⟩
  refine Call_ (ld_blt I hg hm PyProof.Rows.boot_zip (PyProof.Rows.callWith_type1 (thn (ha.run pos pins s σ H _ I h) fun us s1 ⟨vs, H1, I1, r1, q1⟩ => ?_) hs hpl))
  obtain ⟨a, b, xs, ys, ex, hqx, hqy, q⟩ := q1
  subst ex
  cases r1 with
  | cons r rr =>
    cases rr with
    | cons r' rr =>
      cases rr
      cases r
      cases r'
      have fresh5 : ∀ c, c ∈ [s1.heap.objs.size + 4, s1.heap.objs.size + 2, s1.heap.objs.size + 3, s1.heap.objs.size, s1.heap.objs.size + 1] → FpOk X pins H1 c := fun c hcm => by
        have e' : c = s1.heap.objs.size + 4 ∨ c = s1.heap.objs.size + 2 ∨ c = s1.heap.objs.size + 3 ∨ c = s1.heap.objs.size ∨ c = s1.heap.objs.size + 1 := by simpa using hcm
        have hle : s1.heap.objs.size ≤ c := by
          rcases e' with z | z | z | z | z
          · rw [z]; exact Nat.le_add_right _ _
          · rw [z]; exact Nat.le_add_right _ _
          · rw [z]; exact Nat.le_add_right _ _
          · rw [z]; exact Nat.le_refl _
          · rw [z]; exact Nat.le_add_right _ _
        exact I1.fpOk hle (I1.hok.fresh hle)
      obtain ⟨its, rv, p1, _⟩ := I1.tuple hqx
      obtain ⟨its2, rv2, p2, _⟩ := I1.list hqy
      obtain ⟨o1, ho1, _⟩ := id p1
      have hal : a < s1.heap.objs.size := Heap.lt_size ho1
      have hbl : b < s1.heap.objs.size := p2.lt
      refine zip_begins2 (begins_tuple a its.toArray) (begins_list b its2.toArray) (show s1.heap.IsTuple a its.toArray from p1) p2.isList fun h' hz hTI hTO h1 h2 hsz hk => wpAny_pyIter_zip hz ?_
      have I2 : Inv X pins σ H1 { s1 with heap := h' } := I1.kept (t' := s1.toks) hk
      have sep : ZipSep2 (s1.heap.objs.size + 4) (s1.heap.objs.size + 2) (s1.heap.objs.size + 3) s1.heap.objs.size (s1.heap.objs.size + 1) [s1.heap.objs.size, a] [s1.heap.objs.size + 1, b] := zip_sep2 (fp1 := [a]) (fp2 := [b]) (by simpa using hal) (by simpa using hbl)
      exact ⟨s1.heap.objs.size + 4, [s1.heap.objs.size + 4, s1.heap.objs.size + 2, s1.heap.objs.size + 3, s1.heap.objs.size, s1.heap.objs.size + 1], _, _, H1, rfl, I2, turn_zipM sep (Nat.ne_of_lt hal) (Nat.ne_of_lt (Nat.lt_succ_of_lt hbl)), ⟨hz, hTI, ⟨_, _, hTO⟩, ⟨_, h1, rfl, rfl⟩, ⟨_, h2, rfl, rfl⟩⟩, fresh5, q⟩
section
variable {K : PySem.W.Frag} {O : OW} {H : Hp} {ds es : List D} {a b : Addr} {xs zs : List V}
theorem walk_zipM : Walk (ItzM K a b) (min xs.length zs.length) (fun H => SqT K H a xs ∧ SqL K H b zs) (YPair (fun i => xs[i]?) (fun i => zs[i]?)) := by
  refine ⟨fun i H hi q => ?_, fun H q => ⟨xs, zs, q.1, q.2, by omega, by omega, by omega⟩, fun i H v H' _ q y => ?_⟩
  · have h1 : i < xs.length := by omega
    have h2 : i < zs.length := by omega
    exact ⟨xs, zs, xs[i], zs[i], q.1, q.2, List.getElem?_eq_getElem h1, List.getElem?_eq_getElem h2⟩
  · obtain ⟨T, x, z, h1, h2, h3, h4, h5⟩ := y
    exact ⟨T, x, z, h1, h2, h3, h4 xs q.1, h5 zs q.2⟩
theorem wk_zipM (ha : TupAt K O H a xs) (rl : RepL K O H ds xs) (nb : ¬ O b) (hb : H b = some (.lst zs)) (rm : RepL K O H es zs) : Wk K O H (ItzM K a b) (zipD ds es) :=
  wk_of (walk_zipM (xs := xs) (zs := zs)) (by rw [zipD_len, rl.len, rm.len]) (fun O' H' kp => ⟨(ha.kept kp).sq, .inl (.inl (kp.1 b _ hb nb))⟩) fun O' H' F' i d x H2 kp wf hd ⟨T, x1, y1, ex, hT, eH, hx, hy⟩ => by
    obtain ⟨e, f, he, hf, ed⟩ := zipD_get hd
    subst ex eH ed
    exact rep_pair wf.nil hT (repL_at (rl.kept kp) he hx) (repL_at (rm.kept kp) hf hy)
end
section
variable {X : Cx} {env env1 env2 : Sls} {d : D} {ds es : List D} {pos p : Pos} {e e2 tg a b : Expr} {elts : List Expr} {kk : Nat} {tpos : Pos}
theorem iv_zipM (ha : Ev X e env (.val (.tup ds)) env1) (hb : Ev X e2 env1 (.val (.lst es)) env2) (hm : X.mg "zip" = none := by assumption) (hg : Gl X "zip" := by rfl)
    (he2 : (backTo pos (starEach [e2] X.env)).any (·.1) = false := by rfl) (he' : starEach [e, e2] X.env = (false, eval e X.env) :: starEach [e2] X.env := by rfl) (he3 : starEach [e2] X.env = (false, eval e2 X.env) :: starEach [] X.env := by rfl) : Iv X (.Tuple elts kk tpos) (.Call (.Name "zip" p) [e, e2] [] pos) env (zipD ds es) env2 :=
  ⟨ha.1.trans hb.1, fun O H σ F r w R q => ⟨_, pi_zipM hg hm (pa_cons pe_w (pa_cons pe_w pa_nil he3) he') he' he2, two ha hb r w (R := fun u v H' => ∃ a b xs ys, [u, v] = [V.ref a, V.ref b] ∧ SqT X.K H' a xs ∧ SqL X.K H' b ys ∧ R (ItzM X.K a b) H') fun O1 H1 u v F1 ru rv rs s => by
    obtain ⟨a, xs, ea, ta, rl⟩ := ru
    obtain ⟨b, ys, eb, nb, hb, rm⟩ := rv
    exact ⟨a, b, xs, ys, by rw [ea, eb], TupAt.sq ta, .inl (.inl hb), q O1 H1 _ F1 (wk_zipM ta rl nb hb rm) rs s⟩⟩⟩
end
end Lin

end

section
namespace Lin
open PySem PySem.Spec PySem.Calls PyProof.Rows L2
/-! ### results: names of matches -/
abbrev Rs := List (Nat × Int)
def resK (rs : Rs) : KD := rs.map fun p => (Sum.inl (p.1 : Int), D.int p.2)
def lookR (rs : Rs) (k : Nat) : Option Int := (rs.find? fun p => decide (p.1 = k)).map (·.2)
theorem look_res (rs : Rs) (k : Nat) : lookD (resK rs) (.inl (k : Int)) = (lookR rs k).map D.int := by
  unfold lookD lookR resK
  induction rs with
  | nil => rfl
  | cons p rs ih =>
    rw [List.map_cons, List.find?_cons, List.find?_cons]
    by_cases h : p.1 = k
    · have h1 : decide ((Sum.inl (p.1 : Int) : Key) = .inl (k : Int)) = true := by rw [h]; simp
      have h2 : decide (p.1 = k) = true := by simp [h]
      simp only [h1, h2]; rfl
    · have h1 : decide ((Sum.inl (p.1 : Int) : Key) = .inl (k : Int)) = false := decide_eq_false fun z => h (by have := Sum.inl.inj z; omega)
      have h2 : decide (p.1 = k) = false := decide_eq_false h
      simp only [h1, h2]
      exact ih
theorem get_res (rs : Rs) (k : Nat) : getD ((resK rs).map (·.1)) ((resK rs).map (·.2)) (.inl (k : Int)) = (lookR rs k).map D.int := by rw [getD_look, look_res]
theorem lookR_none {rs : Rs} {k : Nat} : lookR rs k = none ↔ k ∉ rs.map (·.1) := by
  unfold lookR
  rw [Option.map_eq_none_iff, List.find?_eq_none]
  constructor
  · intro h z
    obtain ⟨p, hp, e⟩ := List.mem_map.mp z
    exact h p hp (by simp [e])
  · intro h p hp z
    exact h (List.mem_map.mpr ⟨p, hp, of_decide_eq_true z⟩)
theorem lookR_some {rs : Rs} {k : Nat} {v : Int} (h : lookR rs k = some v) : (k, v) ∈ rs := by
  unfold lookR at h
  obtain ⟨p, hp, e⟩ := Option.map_eq_some_iff.mp h
  have h1 := List.mem_of_find?_eq_some hp
  have h2 := List.find?_some hp
  have h2 : p.1 = k := of_decide_eq_true h2
  rw [← h2, ← e]; exact h1
theorem lookR_mem : ∀ {rs : Rs} {k : Nat} {v : Int}, (rs.map (·.1)).Nodup → (k, v) ∈ rs → lookR rs k = some v
  | [], _, _, _, h => by cases h
  | p :: rs, k, v, nd, h => by
    rw [List.map_cons, List.nodup_cons] at nd
    unfold lookR
    rw [List.find?_cons]
    rcases List.mem_cons.mp h with e | h
    · subst e; simp
    · have ne : p.1 ≠ k := fun e => nd.1 (by rw [e]; exact List.mem_map.mpr ⟨(k, v), h, rfl⟩)
      simp only [decide_eq_false ne]
      exact lookR_mem nd.2 h
theorem lookR_app {rs qs : Rs} {k : Nat} : lookR (rs ++ qs) k = (lookR rs k).or (lookR qs k) := by
  unfold lookR
  rw [List.find?_append]
  cases rs.find? fun p => decide (p.1 = k) <;> simp
theorem resK_app (rs qs : Rs) : resK (rs ++ qs) = resK rs ++ resK qs := List.map_append
theorem resK_keys (rs : Rs) : (resK rs).map (·.1) = (rs.map (·.1)).map fun k => (Sum.inl (k : Int) : Key) := by unfold resK; rw [List.map_map, List.map_map]; rfl
theorem resK_len (rs : Rs) : ((resK rs).map (·.1)).length = rs.length := by rw [List.length_map]; exact List.length_map ..
theorem put_new {rs : Rs} {k : Nat} {v : Int} (h : k ∉ rs.map (·.1)) : putD (resK rs) (.inl (k : Int)) (.int v) = resK (rs ++ [(k, v)]) := by
  unfold putD
  rw [if_neg, resK_app]
  · rfl
  · intro z
    obtain ⟨q, hq, e⟩ := List.any_eq_true.mp z
    obtain ⟨p, hp, rfl⟩ := List.mem_map.mp hq
    have e : (Sum.inl (p.1 : Int) : Key) = .inl (k : Int) := of_decide_eq_true e
    exact h (List.mem_map.mpr ⟨p, hp, by have := Sum.inl.inj e; omega⟩)
theorem drop_last {rs : Rs} {k : Nat} {v : Int} (h : k ∉ rs.map (·.1)) : dropD (resK (rs ++ [(k, v)])) (.inl (k : Int)) = resK rs := by
  unfold dropD
  rw [resK_app, List.filter_append]
  have e1 : (resK rs).filter (fun kv => decide (kv.1 ≠ (Sum.inl (k : Int) : Key))) = resK rs := by
    refine List.filter_eq_self.mpr fun q hq => ?_
    obtain ⟨p, hp, rfl⟩ := List.mem_map.mp hq
    refine decide_eq_true fun e => h (List.mem_map.mpr ⟨p, hp, ?_⟩)
    have := Sum.inl.inj e; omega
  have e2 : (resK [(k, v)]).filter (fun kv => decide (kv.1 ≠ (Sum.inl (k : Int) : Key))) = [] := by simp [resK]
  rw [e1, e2, List.append_nil]
/-- the side that a part is by what is known -/
def sideW (f : Nat → Option Int) : Pt → Option Int
  | .side n => some n
  | .mtch k => f k
def oD : Option Int → D
  | none => .none
  | some n => .int n
theorem sideW_mono {f g : Nat → Option Int} (h : ∀ k v, f k = some v → g k = some v) : ∀ {p : Pt} {v : Int}, sideW f p = some v → sideW g p = some v
  | .side _, _, e => e
  | .mtch k, v, e => h k v e
/-! ### the sides of a match -/
theorem sds_at {f : Prs} (ok : OkF f) {k : Nat} {p : Pt × Pt} (h : f[k]? = some p) : (sdsOf f)[k]? = some (isort (ptS (sdsOf f) p.1 ++ ptS (sdsOf f) p.2)) := by
  have hl : k < f.length := (List.getElem?_eq_some_iff.mp h).1
  have e : f = f.take k ++ p :: f.drop (k + 1) := by
    have := (List.take_append_drop k f).symm
    rw [List.drop_eq_getElem_cons hl] at this
    rw [(List.getElem?_eq_some_iff.mp h).2] at this
    exact this
  have hp : sdsOf (f.take k) <+: sdsOf f := by
    have := sdsOf_pre (f.take k) (p :: f.drop (k + 1))
    rw [← e] at this
    exact this
  have hp2 : sdsOf (f.take k ++ [p]) <+: sdsOf f := by
    have := sdsOf_pre (f.take k ++ [p]) (f.drop (k + 1))
    rw [List.append_assoc, List.singleton_append, ← e] at this
    exact this
  have lk : (sdsOf (f.take k)).length = k := by rw [sdsOf_len, List.length_take]; omega
  obtain ⟨o1, o2⟩ := ok k p h
  rw [ptS_pre hp (p := p.1) (by rw [lk]; exact o1), ptS_pre hp (p := p.2) (by rw [lk]; exact o2)]
  rw [sdsOf_snoc] at hp2
  obtain ⟨c, ec⟩ := hp2
  rw [← ec, sdStep, List.append_assoc, List.getElem?_append_right (by omega), lk, Nat.sub_self]
  rfl
/-- results that grew from parts that were known -/
structure Grow (f : Prs) (rs : Rs) : Prop where
  nd : (rs.map (·.1)).Nodup
  ok : ∀ k v, (k, v) ∈ rs → ∃ p a b, f[k]? = some p ∧ sideW (lookR rs) p.1 = some a ∧ sideW (lookR rs) p.2 = some b ∧ (v = a ∨ v = b)
theorem Grow.nil {f : Prs} : Grow f [] := ⟨List.nodup_nil, fun _ _ h => nomatch h⟩
theorem Grow.snoc {f : Prs} {rs : Rs} (h : Grow f rs) {k : Nat} {v : Int} {p : Pt × Pt} {a b : Int} (hk : k ∉ rs.map (·.1)) (hp : f[k]? = some p) (ha : sideW (lookR rs) p.1 = some a) (hb : sideW (lookR rs) p.2 = some b) (hv : v = a ∨ v = b) : Grow f (rs ++ [(k, v)]) := by
  have mono : ∀ j w, lookR rs j = some w → lookR (rs ++ [(k, v)]) j = some w := fun j w e => by rw [lookR_app, e]; rfl
  refine ⟨?_, fun j w hj => ?_⟩
  · rw [List.map_append, List.nodup_append]
    refine ⟨h.nd, by simp, fun x hx y hy e => ?_⟩
    have e2 : y = k := by simpa using hy
    exact hk (by rw [← e2, ← e]; exact hx)
  · rcases List.mem_append.mp hj with hj | hj
    · obtain ⟨q, c, d, h1, h2, h3, h4⟩ := h.ok j w hj
      exact ⟨q, c, d, h1, sideW_mono mono h2, sideW_mono mono h3, h4⟩
    · have e : (j, w) = (k, v) := by simpa using hj
      injection e with e1 e2
      subst e1 e2
      exact ⟨p, a, b, hp, sideW_mono mono ha, sideW_mono mono hb, hv⟩
theorem Grow.lt {f : Prs} {rs : Rs} (h : Grow f rs) {k : Nat} {v : Int} (hk : (k, v) ∈ rs) : k < f.length := by
  obtain ⟨p, _, _, hp, _⟩ := h.ok k v hk
  exact (List.getElem?_eq_some_iff.mp hp).1
theorem Grow.inSds {f : Prs} (ok : OkF f) {rs : Rs} (h : Grow f rs) : ∀ (k : Nat) (v : Int), (k, v) ∈ rs → v ∈ (sdsOf f).getD k [] := by
  intro k
  induction k using Nat.strongRecOn with
  | ind k ih =>
    intro v hv
    obtain ⟨p, a, b, hp, ha, hb, hab⟩ := h.ok k v hv
    obtain ⟨o1, o2⟩ := ok k p hp
    rw [List.getD_eq_getElem?_getD, sds_at ok hp]
    refine (isort_perm _).mem_iff.mpr (List.mem_append.mpr ?_)
    have part : ∀ {q : Pt} {c : Int}, OkPt k q → sideW (lookR rs) q = some c → c ∈ ptS (sdsOf f) q := fun {q c} oq e => by
      cases q with
      | side n => have e : n = c := Option.some.inj e; rw [← e]; exact List.mem_singleton.mpr rfl
      | mtch j => exact ih j oq c (lookR_some e)
    rcases hab with rfl | rfl
    · exact .inl (part o1 ha)
    · exact .inr (part o2 hb)
/-- a match whose parts are known -/
def freeB (f : Prs) (rs : Rs) (k : Nat) : Bool := match f[k]? with
  | none => false
  | some p => (sideW (lookR rs) p.1).isSome && (sideW (lookR rs) p.2).isSome
theorem free_some {f : Prs} {rs : Rs} {k : Nat} (h : freeB f rs k = true) : ∃ p a b, f[k]? = some p ∧ sideW (lookR rs) p.1 = some a ∧ sideW (lookR rs) p.2 = some b := by
  unfold freeB at h
  split at h
  · cases h
  · rename_i p e
    rw [Bool.and_eq_true, Option.isSome_iff_exists, Option.isSome_iff_exists] at h
    obtain ⟨⟨a, ha⟩, ⟨b, hb⟩⟩ := h
    exact ⟨p, a, b, e, ha, hb⟩
theorem free_ex {f : Prs} (ok : OkF f) {rs : Rs} : ∀ (k : Nat) (rest : List Nat), k ∈ rest → (∀ j, j < f.length → j ∈ rest ∨ j ∈ rs.map (·.1)) → (∀ j ∈ rest, j < f.length) → ∃ j ∈ rest, freeB f rs j = true := by
  intro k
  induction k using Nat.strongRecOn with
  | ind k ih =>
    intro rest hk hall hlt
    by_cases hb : freeB f rs k = true
    · exact ⟨k, hk, hb⟩
    · have hl := hlt k hk
      have hp : f[k]? = some f[k] := List.getElem?_eq_getElem hl
      obtain ⟨o1, o2⟩ := ok k f[k] hp
      have part : ∀ q : Pt, OkPt k q → sideW (lookR rs) q = none → ∃ j, j < k ∧ j ∈ rest := fun q oq e => by
        cases q with
        | side n => cases e
        | mtch j =>
          have oq : j < k := oq
          have e : lookR rs j = none := e
          rcases hall j (by omega) with z | z
          · exact ⟨j, oq, z⟩
          · exact absurd z (lookR_none.mp e)
      have hx : sideW (lookR rs) f[k].1 = none ∨ sideW (lookR rs) f[k].2 = none := by
        unfold freeB at hb
        rw [hp] at hb
        cases h1 : sideW (lookR rs) f[k].1 with
        | none => exact .inl rfl
        | some a =>
          cases h2 : sideW (lookR rs) f[k].2 with
          | none => exact .inr rfl
          | some b => exact absurd (by simp [h1, h2]) hb
      obtain ⟨j, hj, hjr⟩ := hx.elim (part _ o1) (part _ o2)
      exact ih j hj rest hjr hall hlt
end Lin

end

section
namespace Lin
open PySem PySem.Spec PySem.Calls PyProof.Rows L2
/-! ### endings -/
def sideE (e : List Int) : Pt → Int
  | .side n => n
  | .mtch k => e.getD k 0
structure EndOk (f : Prs) (e : List Int) : Prop where
  len : e.length = f.length
  ok : ∀ k p, f[k]? = some p → e.getD k 0 = sideE e p.1 ∨ e.getD k 0 = sideE e p.2
def Agree (rs : Rs) (e : List Int) : Prop := ∀ k v, lookR rs k = some v → e.getD k 0 = v
/-- the ending that full results are -/
def endOf (rs : Rs) (n : Nat) : List Int := (List.range n).map fun k => (lookR rs k).getD 0
theorem endOf_len (rs : Rs) (n : Nat) : (endOf rs n).length = n := by unfold endOf; rw [List.length_map, List.length_range]
theorem endOf_at {rs : Rs} {n k : Nat} (h : k < n) : (endOf rs n).getD k 0 = (lookR rs k).getD 0 := by
  unfold endOf
  rw [List.getD_eq_getElem?_getD, List.getElem?_map, List.getElem?_range h]; rfl
theorem Grow.agree {f : Prs} {rs qs : Rs} (h : Grow f (rs ++ qs)) : Agree rs (endOf (rs ++ qs) f.length) := fun k v e => by
  have e2 : lookR (rs ++ qs) k = some v := by rw [lookR_app, e]; rfl
  rw [endOf_at (h.lt (lookR_some e2)), e2]; rfl
theorem Grow.endOk {f : Prs} {rs : Rs} (h : Grow f rs) (hall : ∀ j, j < f.length → j ∈ rs.map (·.1)) : EndOk f (endOf rs f.length) := by
  refine ⟨endOf_len _ _, fun k p hp => ?_⟩
  have hk : k < f.length := (List.getElem?_eq_some_iff.mp hp).1
  have hs : ∃ v, lookR rs k = some v := by
    cases e : lookR rs k with
    | none => exact absurd (hall k hk) (lookR_none.mp e)
    | some v => exact ⟨v, rfl⟩
  obtain ⟨v, hv⟩ := hs
  obtain ⟨q, a, b, hq, ha, hb, hab⟩ := h.ok k v (lookR_some hv)
  rw [hp] at hq
  cases hq
  have part : ∀ {q : Pt} {c : Int}, sideW (lookR rs) q = some c → sideE (endOf rs f.length) q = c := fun {q c} e => by
    cases q with
    | side n => exact Option.some.inj e
    | mtch j =>
      have e : lookR rs j = some c := e
      show (endOf rs f.length).getD j 0 = c
      rw [endOf_at (h.lt (lookR_some e)), e]; rfl
  rw [endOf_at hk, hv, part ha, part hb]
  exact hab
/-! ### points -/
structure PoolS where
  t : Tr
  pts : List Int
  bonus : Int
  sheets : List (List Int)
def PoolS.d (p : PoolS) : D := .tup [p.t.d, .tup (p.pts.map D.int), .int p.bonus, .tup (p.sheets.map sdD)]
abbrev PoolS.f (p : PoolS) : Prs := (note p.t []).2
/-- what the right name for a match brings -/
def brought (f : Prs) (pts : List Int) (bonus : Int) (e : List Int) (k : Nat) : Int :=
  pts.getD k 0 + if e.getD k 0 > sideE e (f.getD k (.side 0, .side 0)).1 + sideE e (f.getD k (.side 0, .side 0)).2 - e.getD k 0 then bonus else 0
def term (f : Prs) (pts : List Int) (bonus : Int) (e s : List Int) (k : Nat) : Int := if s.getD k 0 = e.getD k 0 then brought f pts bonus e k else 0
/-- the points of a sheet behind the first m matches -/
def sc (f : Prs) (pts : List Int) (bonus : Int) (e s : List Int) : Nat → Int
  | 0 => 0
  | m + 1 => sc f pts bonus e s m + term f pts bonus e s m
def scoresF (f : Prs) (pts : List Int) (bonus : Int) (sheets : List (List Int)) (e : List Int) : List Int := sheets.map fun s => sc f pts bonus e s f.length
theorem scoresF_rev (f : Prs) (pts : List Int) (bonus : Int) (sheets : List (List Int)) (e : List Int) : scoresF f pts bonus sheets.reverse e = (scoresF f pts bonus sheets e).reverse := by unfold scoresF; rw [List.map_reverse]
theorem sc_twice (f : Prs) (pts : List Int) (bonus : Int) (e s : List Int) : ∀ m, m ≤ pts.length → sc f (pts.map fun x => x / 2 * 2) (bonus / 2 * 2) e s m = 2 * sc f (pts.map fun x => x / 2) (bonus / 2) e s m
  | 0, _ => rfl
  | m + 1, h => by
    show sc _ _ _ e s m + term _ _ _ e s m = 2 * (sc _ _ _ e s m + term _ _ _ e s m)
    rw [sc_twice f pts bonus e s m (by omega)]
    have hb : brought f (pts.map fun x => x / 2 * 2) (bonus / 2 * 2) e m = 2 * brought f (pts.map fun x => x / 2) (bonus / 2) e m := by
      unfold brought
      have g1 : (pts.map fun x => x / 2 * 2).getD m 0 = 2 * (pts.map fun x => x / 2).getD m 0 := by
        rw [List.getD_eq_getElem?_getD, List.getD_eq_getElem?_getD, List.getElem?_map, List.getElem?_map]
        cases pts[m]? with
        | none => rfl
        | some x => show x / 2 * 2 = 2 * (x / 2); omega
      rw [g1]
      split
      · omega
      · omega
    unfold term
    split
    · rw [hb]; omega
    · omega
theorem scoresF_twice (f : Prs) (pts : List Int) (bonus : Int) (sheets : List (List Int)) (e : List Int) (h : f.length ≤ pts.length) : scoresF f (pts.map fun x => x / 2 * 2) (bonus / 2 * 2) sheets e = (scoresF f (pts.map fun x => x / 2) (bonus / 2) sheets e).map fun x => 2 * x := by
  unfold scoresF
  rw [List.map_map]
  exact List.map_congr_left fun s _ => sc_twice f pts bonus e s _ h
theorem brought_pos {f : Prs} {pts : List Int} {bonus : Int} {e : List Int} (hp : ∀ x ∈ pts, 0 ≤ x) (hb : 0 ≤ bonus) (k : Nat) : pts.getD k 0 ≤ brought f pts bonus e k ∧ 0 ≤ brought f pts bonus e k := by
  have h0 : 0 ≤ pts.getD k 0 := by
    rw [List.getD_eq_getElem?_getD]
    cases h : pts[k]? with
    | none => exact Int.le_refl _
    | some x => exact hp x (List.mem_of_getElem? h)
  unfold brought
  split <;> omega
theorem sc_self_max {f : Prs} {pts : List Int} {bonus : Int} {e : List Int} (hp : ∀ x ∈ pts, 0 ≤ x) (hb : 0 ≤ bonus) (s : List Int) : ∀ m, sc f pts bonus e s m ≤ sc f pts bonus e e m
  | 0 => Int.le_refl _
  | m + 1 => by
    have ih := sc_self_max (f := f) (e := e) hp hb s m
    have h := (brought_pos (f := f) (e := e) hp hb m).2
    show sc _ _ _ e s m + term _ _ _ e s m ≤ sc _ _ _ e e m + term _ _ _ e e m
    have h1 : term f pts bonus e e m = brought f pts bonus e m := by unfold term; rw [if_pos rfl]
    have h2 : term f pts bonus e s m ≤ brought f pts bonus e m := by
      unfold term
      split
      · exact Int.le_refl _
      · exact h
    rw [h1]; omega
theorem sc_self_sum {f : Prs} {pts : List Int} {bonus : Int} {e : List Int} (hp : ∀ x ∈ pts, 0 ≤ x) (hb : 0 ≤ bonus) : ∀ m, (pts.take m).sum ≤ sc f pts bonus e e m
  | 0 => by simp [sc]
  | m + 1 => by
    have ih := sc_self_sum (f := f) (e := e) hp hb m
    have h := (brought_pos (f := f) (e := e) hp hb m).1
    have h1 : term f pts bonus e e m = brought f pts bonus e m := by unfold term; rw [if_pos rfl]
    show _ ≤ sc _ _ _ e e m + term _ _ _ e e m
    rw [h1, List.take_add_one, List.sum_append]
    have h2 : (pts[m]?.toList).sum = pts.getD m 0 := by
      rw [List.getD_eq_getElem?_getD]
      cases pts[m]? with
      | none => rfl
      | some x => simp
    rw [h2]; omega
theorem foldl_max : ∀ (xs : List Int) (a : Int), (∀ x ∈ xs, x ≤ a) → xs.foldl max a = a
  | [], a, _ => rfl
  | x :: xs, a, h => by
    rw [List.foldl_cons, show max a x = a by have := h x (List.mem_cons_self ..); omega]
    exact foldl_max xs a fun y hy => h y (List.mem_cons_of_mem _ hy)
end Lin

end

section
namespace Lin
open PySem PySem.Spec PySem.Calls PyProof.Rows L2
theorem rangeD_map : ∀ (lo : Int) (n : Nat), rangeD lo n = (List.range n).map fun k => D.int (lo + (k : Nat))
  | lo, 0 => rfl
  | lo, n + 1 => by
    rw [rangeD, rangeD_map (lo + 1) n, List.range_succ_eq_map, List.map_cons, List.map_map]
    congr 1
    · show D.int lo = D.int (lo + ((0 : Nat) : Int)); simp
    · apply List.map_congr_left
      intro k _
      show D.int (lo + 1 + (k : Nat)) = D.int (lo + ((k + 1 : Nat) : Int))
      congr 1; omega
theorem rangeD0 (n : Nat) : rangeD 0 n = (List.range n).map fun k => D.int (k : Nat) := by
  rw [rangeD_map]
  apply List.map_congr_left
  intro k _
  rw [Int.zero_add]
theorem oD_some (n : Int) : oD (some n) = .int n := rfl
/-- sheets as they are drawn -/
structure Known (sds : Sds) (n : Nat) (rs : Rs) : Prop where
  keys : rs.map (·.1) = List.range n
  ins : ∀ k v, (k, v) ∈ rs → v ∈ sds.getD k []
theorem Known.nil {sds : Sds} : Known sds 0 [] := ⟨rfl, fun _ _ h => nomatch h⟩
theorem Known.look {sds : Sds} {n : Nat} {rs : Rs} (h : Known sds n rs) {k : Nat} (hk : k < n) : ∃ a, lookR rs k = some a ∧ a ∈ sds.getD k [] := by
  cases e : lookR rs k with
  | none => exact absurd (lookR_none.mp e) (by rw [h.keys]; simpa using hk)
  | some a => exact ⟨a, rfl, h.ins k a (lookR_some e)⟩
theorem Known.side {sds : Sds} {n : Nat} {rs : Rs} (h : Known sds n rs) : ∀ {p : Pt}, OkPt n p → ∃ a, sideW (lookR rs) p = some a ∧ a ∈ ptS sds p
  | .side a, _ => ⟨a, rfl, List.mem_singleton.mpr rfl⟩
  | .mtch k, hk => h.look hk
theorem Known.new {sds : Sds} {n : Nat} {rs : Rs} (h : Known sds n rs) : n ∉ rs.map (·.1) := by rw [h.keys]; simp
theorem Known.snoc {sds : Sds} {n : Nat} {rs : Rs} (h : Known sds n rs) {v : Int} (hv : v ∈ sds.getD n []) : Known sds (n + 1) (rs ++ [(n, v)]) := by
  refine ⟨by rw [List.map_append, h.keys, List.range_succ]; rfl, fun k w hk => ?_⟩
  rcases List.mem_append.mp hk with hk | hk
  · exact h.ins k w hk
  · have e : (k, w) = (n, v) := by simpa using hk
    injection e with e1 e2
    subst e1 e2
    exact hv
/-- a sheet, or an ending: a side of each match -/
def SheetOk (sds : Sds) (s : List Int) : Prop := s.length = sds.length ∧ ∀ k, k < sds.length → s.getD k 0 ∈ sds.getD k []
theorem Known.sheet {sds : Sds} {rs : Rs} (h : Known sds sds.length rs) : SheetOk sds (endOf rs sds.length) :=
  ⟨endOf_len _ _, fun k hk => by
    obtain ⟨a, ha, hm⟩ := h.look hk
    rw [endOf_at hk, ha]
    exact hm⟩
/-- the sides of a match are its parts' -/
theorem part_in {f : Prs} (ok : OkF f) {k : Nat} {p : Pt × Pt} (hp : f[k]? = some p) {v : Int} (h : v ∈ ptS (sdsOf f) p.1 ∨ v ∈ ptS (sdsOf f) p.2) : v ∈ (sdsOf f).getD k [] := by
  rw [List.getD_eq_getElem?_getD, sds_at ok hp]
  exact (isort_perm _).mem_iff.mpr (List.mem_append.mpr h)
def prsT (k : Nat) (f : Prs) : List D := (f.zipIdx k).map fun p => D.tup [.int (p.2 : Nat), prD p.1]
theorem prsT_cons (k : Nat) (p : Pt × Pt) (f : Prs) : prsT k (p :: f) = .tup [.int (k : Nat), prD p] :: prsT (k + 1) f := rfl
theorem prsT_enum (f : Prs) : enumD 0 (f.map prD) = prsT 0 f := enumD_map prD 0 f
end Lin

end

section
namespace Lin
open PySem PySem.Spec PySem.Calls PyProof.Rows L2
section
variable {X : Cx} {env env1 env2 : Sls} {a b c e : Expr} {es rest : List Expr} {pos p p' : Pos} {d : D} {m m' : M} {ms : List M} {ds : List D} {n : Str} {s : Sl}
/-- x, y = a, b where a name is seen by a comprehension -/
theorem x1_parC (i j : Nat) {x y : Str} {m1 m2 : M} {px py pt : Pos} {kt k2 pt2} (h : EvMs X [a, b] env [m1, m2] env1) (hioI : ∀ m', env[i]? ≠ some (some (Sl.io m')) := by intro _ h; cases h) (hioJ : ∀ m', env[j]? ≠ some (some (Sl.io m')) := by intro _ h; cases h)
    (hiL : i < env.length := by simp) (hjL : j < env.length := by simp) (hN : X.N.Nodup := by assumption) (hi : X.N[i]? = some x := by rfl) (hj : X.N[j]? = some y := by rfl) (hx : Loc X.env.scope x := by first | exact Or.inl rfl | exact Or.inr rfl) (hy : Loc X.env.scope y := by first | exact Or.inl rfl | exact Or.inr rfl)
    (fx : X.fn x = true ∨ X.env.scope.names.lookup x = some .local := by first | exact .inl rfl | exact .inr rfl) (fy : X.fn y = true ∨ X.env.scope.names.lookup y = some .local := by first | exact .inl rfl | exact .inr rfl)
    (hc : X.calm = true := by rfl) (hw : swappedStores [.Tuple [.Name x px, .Name y py] kt pt] (.Tuple [a, b] k2 pt2) X.env = pure none := by rfl) (hs : swapsWithSole [.Tuple [.Name x px, .Name y py] kt pt] (.Tuple [a, b] k2 pt2) pos.line X.env = pure false := by rfl)
    (h1 : (assignEach [.Tuple [.Name x px, .Name y py] kt pt] X.env).map (·.2) = [assign (.Tuple [.Name x px, .Name y py] kt pt) X.env] := by rfl)
    (hs1 : (assignEach [.Name x px, .Name y py] X.env).map (·.2) = assign (.Name x px) X.env :: (assignEach [.Name y py] X.env).map (·.2) := by rfl) (hs2 : (assignEach [.Name y py] X.env).map (·.2) = assign (.Name y py) X.env :: (assignEach [] X.env).map (·.2) := by rfl)
    (hn : (assignEach [.Name x px, .Name y py] X.env).length = 2 := by rfl) (hst : (assignEach [.Name x px, .Name y py] X.env).findIdx? (·.1) = none := by rfl) :
    Ex1 X (.Assign [.Tuple [.Name x px, .Name y py] kt pt] (.Tuple [a, b] k2 pt2) pos) env (.nx ((env1.set i (some (.own m1))).set j (some (.own m2)))) := fun O H σ F r w D g =>
  ⟨_, ps_asg (pe_tup pa_w) (pg_tup hc (pgs_cons (pg_name hN hi hx fx) (pgs_cons (pg_name hN hj hy fy) pgs_nil hs2) hs1) hn hst) hs hw h1, h.2 O H σ F r w _ fun O1 H1 vs Fm F1 rml r1 s1 => by
    have hvl : vs.length = 2 := rml.len
    refine ⟨by rw [hvl]; decide, fun p hp => ?_⟩
    have s0 : Step O1 H1 [] O1 (upd H1 p (.tup vs)) [] := Step.newF s1.wf.nil hp
    have rml := s0.repML s1.wf.nil (fun _ _ => by simp) rml
    have r1 := r1.quiet s0
    have s1 := s1.trans w (s0.quiet s1.wf)
    obtain ⟨u, us, Fa, Fb, ev, ef, ra, v, vs', Fc, Fd, ev2, ef2, rb, en, en2⟩ := rml
    subst en ev2 ev
    subst en2 ef2 ef
    have hl : env1.length = env.length := by rw [← r1.len, r.len]
    obtain ⟨G1, G2, Gi, eg, q1, k1⟩ := RepS.drop i (some u) (by rw [hl]; exact hiL) r1
    have r2 := k1 u (.own m1) Fa ra
    obtain ⟨J1, J2, Ji, ej, q2, k2⟩ := RepS.drop j (some v) (by rw [List.length_set, hl]; exact hjL) r2
    have r3 := k2 v (.own m2) Fc rb
    refine ⟨p, [u, v], rfl, .inl (.inl upd_same), rfl, u, [v], rfl, v, [], rfl, rfl, g O1 _ _ _ r3 ((s1.permR (F2 := (J1 ++ (Fc ++ J2)) ++ (Gi ++ Ji)) (List.perm_iff_count.mpr fun a => ?_)).dropR) fun l m' z => ?_⟩
    · have e1 := congrArg (List.count a) eg
      have e2 := congrArg (List.count a) ej
      simp only [List.count_append, List.count_nil] at e1 e2 ⊢
      omega
    · have n1 : i ≠ l := fun q => hioI m' (q ▸ z)
      have n2 : j ≠ l := fun q => hioJ m' (q ▸ z)
      obtain ⟨m3, z3⟩ := h.1 l m' z
      exact ⟨⟨m3, by rw [List.getElem?_set_ne n2, List.getElem?_set_ne n1]; exact z3⟩, by rw [List.getElem?_set_ne n2, List.getElem?_set_ne n1]⟩⟩
/-- x, y, z = a, b, c where a name is seen by a comprehension -/
theorem x1_parC3 (i j l : Nat) {x y z : Str} {m1 m2 m3 : M} {px py pz pt : Pos} {kt k2 pt2} (h : EvMs X [a, b, c] env [m1, m2, m3] env1) (hioI : ∀ m', env[i]? ≠ some (some (Sl.io m')) := by intro _ h; cases h) (hioJ : ∀ m', env[j]? ≠ some (some (Sl.io m')) := by intro _ h; cases h) (hioL : ∀ m', env[l]? ≠ some (some (Sl.io m')) := by intro _ h; cases h)
    (hiL : i < env.length := by simp) (hjL : j < env.length := by simp) (hlL : l < env.length := by simp) (hN : X.N.Nodup := by assumption) (hi : X.N[i]? = some x := by rfl) (hj : X.N[j]? = some y := by rfl) (hl : X.N[l]? = some z := by rfl) (hx : Loc X.env.scope x := by first | exact Or.inl rfl | exact Or.inr rfl) (hy : Loc X.env.scope y := by first | exact Or.inl rfl | exact Or.inr rfl) (hz : Loc X.env.scope z := by first | exact Or.inl rfl | exact Or.inr rfl)
    (fx : X.fn x = true ∨ X.env.scope.names.lookup x = some .local := by first | exact .inl rfl | exact .inr rfl) (fy : X.fn y = true ∨ X.env.scope.names.lookup y = some .local := by first | exact .inl rfl | exact .inr rfl) (fz : X.fn z = true ∨ X.env.scope.names.lookup z = some .local := by first | exact .inl rfl | exact .inr rfl)
    (hc : X.calm = true := by rfl) (hw : swappedStores [.Tuple [.Name x px, .Name y py, .Name z pz] kt pt] (.Tuple [a, b, c] k2 pt2) X.env = pure none := by rfl) (hs : swapsWithSole [.Tuple [.Name x px, .Name y py, .Name z pz] kt pt] (.Tuple [a, b, c] k2 pt2) pos.line X.env = pure false := by rfl)
    (h1 : (assignEach [.Tuple [.Name x px, .Name y py, .Name z pz] kt pt] X.env).map (·.2) = [assign (.Tuple [.Name x px, .Name y py, .Name z pz] kt pt) X.env] := by rfl)
    (hs1 : (assignEach [.Name x px, .Name y py, .Name z pz] X.env).map (·.2) = assign (.Name x px) X.env :: (assignEach [.Name y py, .Name z pz] X.env).map (·.2) := by rfl) (hs2 : (assignEach [.Name y py, .Name z pz] X.env).map (·.2) = assign (.Name y py) X.env :: (assignEach [.Name z pz] X.env).map (·.2) := by rfl) (hs3 : (assignEach [.Name z pz] X.env).map (·.2) = assign (.Name z pz) X.env :: (assignEach [] X.env).map (·.2) := by rfl)
    (hn : (assignEach [.Name x px, .Name y py, .Name z pz] X.env).length = 3 := by rfl) (hst : (assignEach [.Name x px, .Name y py, .Name z pz] X.env).findIdx? (·.1) = none := by rfl) :
    Ex1 X (.Assign [.Tuple [.Name x px, .Name y py, .Name z pz] kt pt] (.Tuple [a, b, c] k2 pt2) pos) env (.nx (((env1.set i (some (.own m1))).set j (some (.own m2))).set l (some (.own m3)))) := fun O H σ F r w D g =>
  ⟨_, ps_asg (pe_tup pa_w) (pg_tup hc (pgs_cons (pg_name hN hi hx fx) (pgs_cons (pg_name hN hj hy fy) (pgs_cons (pg_name hN hl hz fz) pgs_nil hs3) hs2) hs1) hn hst) hs hw h1, h.2 O H σ F r w _ fun O1 H1 vs Fm F1 rml r1 s1 => by
    have hvl : vs.length = 3 := rml.len
    refine ⟨by rw [hvl]; decide, fun p hp => ?_⟩
    have s0 : Step O1 H1 [] O1 (upd H1 p (.tup vs)) [] := Step.newF s1.wf.nil hp
    have rml := s0.repML s1.wf.nil (fun _ _ => by simp) rml
    have r1 := r1.quiet s0
    have s1 := s1.trans w (s0.quiet s1.wf)
    obtain ⟨u, us, Fa, Fb, ev, ef, ra, v, vs', Fc, Fd, ev2, ef2, rb, v3, vs3, Fe, Ff, ev3, ef3, rc, en, en2⟩ := rml
    subst en ev3 ev2 ev
    subst en2 ef3 ef2 ef
    have hl : env1.length = env.length := by rw [← r1.len, r.len]
    obtain ⟨G1, G2, Gi, eg, q1, k1⟩ := RepS.drop i (some u) (by rw [hl]; exact hiL) r1
    have r2 := k1 u (.own m1) Fa ra
    obtain ⟨J1, J2, Ji, ej, q2, k2⟩ := RepS.drop j (some v) (by rw [List.length_set, hl]; exact hjL) r2
    have r3 := k2 v (.own m2) Fc rb
    obtain ⟨L1, L2, Li, el, q3, k3⟩ := RepS.drop l (some v3) (by rw [List.length_set, List.length_set, hl]; exact hlL) r3
    have r4 := k3 v3 (.own m3) Fe rc
    refine ⟨p, [u, v, v3], rfl, .inl (.inl upd_same), rfl, u, [v, v3], rfl, v, [v3], rfl, v3, [], rfl, rfl, g O1 _ _ _ r4 ((s1.permR (F2 := (L1 ++ (Fe ++ L2)) ++ (Gi ++ Ji ++ Li)) (List.perm_iff_count.mpr fun a => ?_)).dropR) fun k m' z => ?_⟩
    · have e1 := congrArg (List.count a) eg
      have e2 := congrArg (List.count a) ej
      have e3 := congrArg (List.count a) el
      simp only [List.count_append, List.count_nil] at e1 e2 e3 ⊢
      omega
    · have n1 : i ≠ k := fun q => hioI m' (q ▸ z)
      have n2 : j ≠ k := fun q => hioJ m' (q ▸ z)
      have n3 : l ≠ k := fun q => hioL m' (q ▸ z)
      obtain ⟨m3, z3⟩ := h.1 k m' z
      exact ⟨⟨m3, by rw [List.getElem?_set_ne n3, List.getElem?_set_ne n2, List.getElem?_set_ne n1]; exact z3⟩, by rw [List.getElem?_set_ne n3, List.getElem?_set_ne n2, List.getElem?_set_ne n1]⟩⟩
end
end Lin

end

section
namespace Lin
open PySem PySem.Spec PySem.Calls PyProof.Rows L2
section
variable {X : Cx} {env env1 env2 : Sls} {a b c e : Expr} {pos p p' : Pos}
/-- all([.. for ..]) of truths alone -/
theorem ev_allT {α : Type} {as : List α} (ha : Ev X e env (.lst (as.map fun _ => M.val (.bool true))) env1) (hm : X.mg "all" = none := by assumption) (hc : X.calm = true := by rfl) (hg : Gl X "all" := by rfl) (he : starEach [e] X.env = (false, eval e X.env) :: starEach [] X.env := by rfl) (hpl : (backTo pos (starEach [] X.env)).any (·.1) = false := by rfl) : Ev X (.Call (.Name "all" p) [e] [] pos) env (.val (.bool true)) env1 := by
  have h2 : Ev X e env (.val (.lst ((List.replicate as.length true).map D.bool))) env1 := (Ev.frzL (ds := (List.replicate as.length true).map D.bool) (ha.eq (by rw [frzL_trues as, List.map_replicate, List.map_replicate, List.map_replicate])))
  exact (ev_all h2 hm hc hg he hpl).eq (by rw [show (List.replicate as.length true).all id = true by induction as.length with
    | zero => rfl
    | succ n ih => rw [List.replicate_succ, List.all_cons, ih]; rfl])
end
section
variable {X : Cx} {env env1 env2 : Sls} {a b c : Expr} {pos : Pos} {i j : Int}
theorem tv_chLE {l : Int} (ha : Ev X a env (.val (.int l)) env1) (hb : Ev X b env1 (.val (.int i)) env2) (hc : Ev X c env2 (.val (.int j)) env2) (hm : lastMarks [CmpOp.LtE, CmpOp.LtE] [b, c] = false := by with_unfolding_all rfl) : Tv X (.Compare a [.LtE, .LtE] [b, c] pos) env (decide (l ≤ i) && decide (i ≤ j)) env2 :=
  ⟨ha.1.trans hb.1, fun O H σ F rs w Q q => ⟨_, pt_chain op_le op_le pe_w pe_w pe_w hm, two ha hb rs w fun O' H' u v F' ru rv r' s' => ⟨l, i, ru, rv, decide (l ≤ i), rfl, by
    by_cases h : l ≤ i
    · rw [if_pos (decide_eq_true h)]
      refine hc.2 O' H' σ F' r' s'.wf _ fun O2 H2 z Fz F2 ⟨ez, rz⟩ r2 s2 => ?_
      subst ez
      refine ⟨i, j, rv, rz, decide (i ≤ j), rfl, ?_⟩
      rw [decide_eq_true h, Bool.true_and] at q
      exact q O2 H2 F2 r2 (s'.trans w s2)
    · rw [if_neg (fun z => h (of_decide_eq_true z))]
      rw [decide_eq_false h, Bool.false_and] at q
      exact ⟨false, rfl, q O' H' F' r' s'⟩⟩⟩⟩
end
theorem zipD_map {α β : Type} (f : α → D) (g : β → D) : ∀ (xs : List α) (ys : List β), zipD (xs.map f) (ys.map g) = (xs.zip ys).map fun p => .tup [f p.1, g p.2]
  | [], ys => by cases ys <;> rfl
  | x :: xs, [] => rfl
  | x :: xs, y :: ys => by rw [List.map_cons, List.map_cons, zipD, List.zip_cons_cons, List.map_cons, zipD_map f g xs ys]
theorem itemsD_res : ∀ rs : Rs, itemsD ((resK rs).map (·.1)) ((resK rs).map (·.2)) = rs.map fun p => .tup [.int (p.1 : Nat), .int p.2]
  | [] => rfl
  | p :: rs => by
    show D.tup [kD (.inl (p.1 : Int)), .int p.2] :: itemsD ((resK rs).map (·.1)) ((resK rs).map (·.2)) = _
    rw [itemsD_res rs]; rfl
theorem keysD_res (rs : Rs) : ((resK rs).map (·.1)).map kD = rs.map fun p => D.int (p.1 : Nat) := by
  rw [resK_keys, List.map_map, List.map_map]; rfl
theorem SheetOk.zip {sds : Sds} {s : List Int} (h : SheetOk sds s) {p : Int × List Int} (hp : p ∈ s.zip sds) : p.1 ∈ p.2 := by
  obtain ⟨i, hi, e⟩ := List.getElem_of_mem hp
  rw [List.length_zip] at hi
  rw [List.getElem_zip] at e
  have h2 := h.2 i (by omega)
  rw [List.getD_eq_getElem?_getD, List.getD_eq_getElem?_getD, List.getElem?_eq_getElem (by omega), List.getElem?_eq_getElem (by omega)] at h2
  rw [← e]
  exact h2
theorem vF_ints (l : List Int) : (l.map D.int).map vF = l.map V.int := by rw [List.map_map]; rfl
theorem flat_ints (l : List Int) : (l.map D.int).all flatD = true := by
  induction l with
  | nil => rfl
  | cons k l ih => rw [List.map_cons, List.all_cons, ih]; rfl
theorem nodup_lt : ∀ (n : Nat) (l : List Nat), l.Nodup → (∀ x ∈ l, x < n) → l.length ≤ n
  | 0, l, _, h => by
    cases l with
    | nil => exact Nat.le_refl _
    | cons a r => exact absurd (h a (List.mem_cons_self ..)) (Nat.not_lt_zero _)
  | n + 1, l, nd, h => by
    by_cases hn : n ∈ l
    · have z := nodup_lt n (l.erase n) (nd.erase n) fun x hx => by
        have h1 := h x (List.mem_of_mem_erase hx)
        have h2 : x ≠ n := fun e => by rw [e] at hx; exact (nd.not_mem_erase) hx
        omega
      rw [List.length_erase_of_mem hn] at z
      omega
    · have z := nodup_lt n l nd fun x hx => by
        have h1 := h x hx
        have h2 : x ≠ n := fun e => hn (e ▸ hx)
        omega
      omega
theorem Grow.len {f : Prs} {rs : Rs} (g : Grow f rs) : rs.length ≤ f.length := by
  have q := nodup_lt f.length (rs.map (·.1)) g.nd fun k hk => by
    obtain ⟨p, hp, rfl⟩ := List.mem_map.mp hk
    exact g.lt (k := p.1) (v := p.2) hp
  rw [List.length_map] at q
  exact q
end Lin

end

section
namespace Lin
open PySem PySem.Spec PySem.Calls PyProof.Rows L2
/-- the first j by g, the rest by f -/
def mix {α : Type} (xs : List α) (f g : α → Int) (j : Nat) : List Int := (xs.take j).map g ++ (xs.drop j).map f
theorem mix_len {α : Type} (xs : List α) (f g : α → Int) (j : Nat) : (mix xs f g j).length = xs.length := by
  unfold mix
  rw [List.length_append, List.length_map, List.length_map, List.length_take, List.length_drop]; omega
theorem mix_zero {α : Type} (xs : List α) (f g : α → Int) : mix xs f g 0 = xs.map f := rfl
theorem mix_all {α : Type} (xs : List α) (f g : α → Int) : mix xs f g xs.length = xs.map g := by simp [mix]
theorem drop_at {α : Type} {xs : List α} {j : Nat} {s : α} (h : xs[j]? = some s) : xs.drop j = s :: xs.drop (j + 1) := by
  obtain ⟨h1, h2⟩ := List.getElem?_eq_some_iff.mp h
  rw [List.drop_eq_getElem_cons h1, h2]
theorem mix_at {α : Type} {xs : List α} {j : Nat} {s : α} (h : xs[j]? = some s) (f g : α → Int) : (mix xs f g j)[j]? = some (f s) := by
  have hj := (List.getElem?_eq_some_iff.mp h).1
  unfold mix
  rw [drop_at h, List.getElem?_append_right (by rw [List.length_map, List.length_take]; omega), List.length_map, List.length_take, Nat.min_eq_left (by omega), Nat.sub_self]
  rfl
theorem mix_set {α : Type} {xs : List α} {j : Nat} {s : α} (h : xs[j]? = some s) (f g : α → Int) : (mix xs f g j).set j (g s) = mix xs f g (j + 1) := by
  have hj := (List.getElem?_eq_some_iff.mp h).1
  unfold mix
  rw [drop_at h, List.set_append_right _ _ (by rw [List.length_map, List.length_take]; omega), List.length_map, List.length_take, Nat.min_eq_left (by omega), Nat.sub_self, List.take_add_one, h]
  simp
theorem mix_same {α : Type} {xs : List α} {j : Nat} {s : α} (h : xs[j]? = some s) (f g : α → Int) (e : g s = f s) : mix xs f g (j + 1) = mix xs f g j := by
  rw [← mix_set h f g, e]
  refine List.ext_getElem? fun i => ?_
  by_cases hi : i = j
  · subst hi
    have := mix_at h f g
    rw [List.getElem?_set_self (List.getElem?_eq_some_iff.mp this).1, this]
  · rw [List.getElem?_set_ne (Ne.symm hi)]
theorem foldl_count {α : Type} : ∀ (xs : List α) (n : Nat), xs.foldl (fun j _ => j + 1) n = n + xs.length
  | [], n => rfl
  | x :: xs, n => by rw [List.foldl_cons, foldl_count xs, List.length_cons]; omega
end Lin

end

section
namespace Lin
open PySem PySem.Spec PySem.Calls PyProof.Rows L2
section
variable {X : Cx} {env env1 env2 env' envr : Sls} {ys ds : List D} {ms : List M} {pos p : Pos} {elt tg it a b : Expr} {ifs : List Expr} {scope : Scope} {own : List (Str × Nat)} {n : Str} {x : D}
/-- name = [a comprehension] that looks at owned things -/
theorem x1_setLcS (i : Nat) {n : Str} {pos' spos : Pos} (he : envr = see env) (hi : Iv X tg it envr ys env1) (hr : LcR X scope tg elt ifs (own.map (·.2)) ys env1 ms env') (hf : flat (.lst ms) = true) (hb : Bare env1 (own.map (·.2))) (ok : BlkOk X.N X.env.scope scope own) (hz : ys.length ≤ sizeLine) (hio : ∀ m', env[i]? ≠ some (some (Sl.io m')) := by intro _ h; cases h) (hil : i < env.length := by simp) (hN : X.N.Nodup := by assumption) (hn : X.N[i]? = some n := by rfl)
    (hx : X.env.scope.names.lookup n = some .local := by rfl) (hsw : swapsWith (.ListComp elt [⟨tg, it, ifs, 0⟩] scope pos) (some (.Name n pos')) spos.line X.env = pure true := by rfl) (hc : X.calm = true := by rfl) (hs : ∀ x, foldedSetIterable it X.env x = pure x := by intro _; rfl) :
    Ex1 X (.Assign [.Name n pos'] (.ListComp elt [⟨tg, it, ifs, 0⟩] scope pos) spos) env (.nx (env.set i (some (.own (.lst ms))))) := fun O H σ F r w D g => by
  subst he
  obtain ⟨O1, w1, r1, k0⟩ := see_sem (m := .lst ms) r w
  exact ⟨_, ps_setLc hc hN hn hx hsw pi_w ok bg_ok bts_ok be_ok hs, lc_sem hi hr hb hz O1 H σ [] r1 w1 _ fun O' H' v Fv F' rm rs s => by
    obtain ⟨O2, rm2, rs2, st2⟩ := k0 O' H' v Fv F' hf rm s
    obtain ⟨F1, F2, Fi, ef, _, k⟩ := RepS.drop i (some v) hil rs2
    subst ef
    refine g O2 H' _ (F1 ++ (Fv ++ F2)) (k v (.own (.lst ms)) Fv rm2) ((st2.permR perm_drop).dropR) fun j m' z => ?_
    have hne : i ≠ j := fun q => hio m' (q ▸ z)
    exact ⟨⟨m', by rw [List.getElem?_set_ne hne]; exact z⟩, List.getElem?_set_ne hne⟩⟩
theorem tv_notInLF (ha : Ev X a env (.val x) env1) (hb : Ev X b env1 (.val (.lst ds)) env2) (hx : flatD x = true) (hd : ds.all flatD = true) (hm : behindInMarks .NotIn b = false := by first | exact nomark _ | rfl) : Tv X (.Compare a [.NotIn] [b] pos) env (!inV (vF x) (ds.map vF)) env2 := tv_cmp op_notIn_seq ha hb (ro_inL hx hd) hm
/-- a comprehension with a condition -/
theorem lcR_filter {vs : List Nat} {α : Type} (f : α → D) (out : α → M) (cond : α → Bool) (env : Sls) : ∀ (as : List α),
    (∀ a ∈ as, ∃ env1 env2 env3 : Sls, (InB X scope fun X' => Tg X' tg (f a) vs env env1) ∧ (InB X scope fun X' => Tvs X' ifs env1 (cond a) env2) ∧ (InB X scope fun X' => Ev X' elt env2 (out a) env3) ∧ wipeE env3 vs = env ∧ wipeE env2 vs = env) → LcR X scope tg elt ifs vs (as.map f) env ((as.filter cond).map out) env
  | [], _ => .nil
  | a :: as, h => by
    obtain ⟨env1, env2, env3, t, c, e, hw, hw2⟩ := h a (List.mem_cons_self ..)
    have ih := lcR_filter f out cond env as fun b hb => h b (List.mem_cons_of_mem _ hb)
    rw [List.filter_cons]
    by_cases z : cond a = true
    · rw [if_pos z]
      exact .yes t (by rw [z] at c; exact c) e (by rw [hw]; exact ih)
    · rw [if_neg z]
      exact .no t (by rw [Bool.eq_false_iff.mpr z] at c; exact c) (by rw [hw2]; exact ih)
end
theorem pd_self (ns : List Int) : PyData.eqv (pd (.lst (ns.map D.int))) (pd (.lst (ns.map D.int))) = true := by
  simp only [pd]
  induction ns with
  | nil => rfl
  | cons n ns ih =>
    show (decide (n = n) && PyData.eqv (pd (.lst (ns.map D.int))) (pd (.lst (ns.map D.int)))) = true
    rw [decide_eq_true rfl, Bool.true_and]
    exact ih
theorem pd_selfT (ns : List Int) : PyData.eqv (pd (.tup (ns.map D.int))) (pd (.tup (ns.map D.int))) = true := by
  simp only [pd]
  induction ns with
  | nil => rfl
  | cons n ns ih =>
    show (decide (n = n) && PyData.eqv (pd (.tup (ns.map D.int))) (pd (.tup (ns.map D.int)))) = true
    rw [decide_eq_true rfl, Bool.true_and]
    exact ih
theorem flat_mapI {α : Type} (g : α → Int) (xs : List α) : flat (.lst (xs.map fun x => .val (.int (g x)))) = true := by
  show flatL _ = true
  induction xs with
  | nil => rfl
  | cons x xs ih => show (true && flatL (xs.map fun x => M.val (.int (g x)))) = true; rw [ih]; rfl
theorem frz_mapI {α : Type} (g : α → Int) (xs : List α) : frz (.lst (xs.map fun x => .val (.int (g x)))) = .lst ((xs.map g).map D.int) := by
  show D.lst (frzL _) = _
  rw [frzL_eq, List.map_map, List.map_map]; rfl
theorem freeB_in (f : Prs) (rs : Rs) (k : Nat) (p : Pt × Pt) (h : f[k]? = some p) : (!inV (vF .none) ([oD (sideW (lookR rs) p.1), oD (sideW (lookR rs) p.2)].map vF)) = freeB f rs k := by
  unfold freeB
  rw [h]
  show (!inV .non [vF (oD (sideW (lookR rs) p.1)), vF (oD (sideW (lookR rs) p.2))]) = ((sideW (lookR rs) p.1).isSome && (sideW (lookR rs) p.2).isSome)
  cases sideW (lookR rs) p.1 <;> cases sideW (lookR rs) p.2 <;> rfl
/-- the last step of the law's growing -/
structure GrowSt (f : Prs) (rs : Rs) (rest : List Nat) : Prop where
  g : Grow f rs
  nd : rest.Nodup
  lt : ∀ k ∈ rest, k < f.length
  all : ∀ k, k < f.length → k ∈ rest ∨ k ∈ rs.map (·.1)
  no : ∀ k ∈ rest, k ∉ rs.map (·.1)
  len : rs.length + rest.length = f.length
theorem GrowSt.start (f : Prs) : GrowSt f [] (List.range f.length) :=
  ⟨Grow.nil, List.nodup_range, fun k h => List.mem_range.mp h, fun k h => .inl (List.mem_range.mpr h), fun k _ => by simp, by simp⟩
theorem GrowSt.step {f : Prs} {rs : Rs} {rest : List Nat} (h : GrowSt f rs rest) {k j : Nat} {v a b : Int} {p : Pt × Pt} (hj : rest[j]? = some k) (hp : f[k]? = some p) (ha : sideW (lookR rs) p.1 = some a) (hb : sideW (lookR rs) p.2 = some b) (hv : v = a ∨ v = b) : GrowSt f (rs ++ [(k, v)]) (rest.eraseIdx j) := by
  have hk : k ∈ rest := List.mem_of_getElem? hj
  have hjl := (List.getElem?_eq_some_iff.mp hj).1
  have sub : ∀ x ∈ rest.eraseIdx j, x ∈ rest := fun x hx => List.mem_of_mem_eraseIdx hx
  have pm : (k :: rest.eraseIdx j).Perm rest := by
    have : rest = rest.take j ++ k :: rest.drop (j + 1) := by rw [← drop_at hj, List.take_append_drop]
    rw [List.eraseIdx_eq_take_drop_succ]
    exact (List.perm_middle.symm).trans (this ▸ List.Perm.refl _)
  have nd2 : (k :: rest.eraseIdx j).Nodup := pm.nodup_iff.mpr h.nd
  refine ⟨h.g.snoc (h.no k hk) hp ha hb hv, (List.nodup_cons.mp nd2).2, fun x hx => h.lt x (sub x hx), fun x hx => ?_, fun x hx => ?_, ?_⟩
  · rw [List.map_append, List.mem_append]
    rcases h.all x hx with z | z
    · rcases List.mem_cons.mp (pm.mem_iff.mpr z) with e | e
      · exact .inr (.inr (by rw [e]; simp))
      · exact .inl e
    · exact .inr (.inl z)
  · rw [List.map_append, List.mem_append]
    rintro (z | z)
    · exact h.no x (sub x hx) z
    · have e : x = k := by simpa using z
      rw [e] at hx
      exact (List.nodup_cons.mp nd2).1 hx
  · rw [List.length_append, List.length_singleton, List.length_eraseIdx_of_lt hjl]
    have := h.len
    omega
theorem first_at {xs : List Nat} (nd : xs.Nodup) {j k : Nat} (h : xs[j]? = some k) : ∀ m, m < j → xs[m]? ≠ some k := fun m hm e => by
  obtain ⟨h1, h2⟩ := List.getElem?_eq_some_iff.mp h
  obtain ⟨h3, h4⟩ := List.getElem?_eq_some_iff.mp e
  exact List.pairwise_iff_getElem.mp nd m j h3 h1 hm (by rw [h4, h2])
theorem rev_range {α : Type} (xs : List α) (d : α) : ((List.range xs.length).reverse.map fun k => xs.getD k d) = xs.reverse := by
  rw [List.map_reverse]
  congr 1
  refine List.ext_getElem? fun i => ?_
  rw [List.getElem?_map]
  by_cases h : i < xs.length
  · rw [List.getElem?_range h, Option.map_some, List.getD_eq_getElem?_getD, List.getElem?_eq_getElem h]; rfl
  · rw [List.getElem?_eq_none (by rw [List.length_range]; omega), List.getElem?_eq_none (by omega)]; rfl
theorem erase_mapG {α β : Type} (f : α → β) : ∀ (xs : List α) (j : Nat), (xs.map f).eraseIdx j = (xs.eraseIdx j).map f
  | [], j => by simp
  | x :: xs, 0 => rfl
  | x :: xs, j + 1 => by rw [List.map_cons, List.eraseIdx_cons_succ, List.eraseIdx_cons_succ, List.map_cons, erase_mapG f xs j]
end Lin

end

section
namespace Lin
open PySem PySem.Spec PySem.Calls PyProof.Rows L2
def noIo : Sls → Bool
  | [] => true
  | some (.io _) :: _ => false
  | _ :: es => noIo es
theorem noIo_head {o : Option Sl} {es : Sls} (h : noIo (o :: es) = true) : (∀ m, o ≠ some (.io m)) ∧ noIo es = true := by
  rcases o with _ | (m | m)
  · exact ⟨(fun m e => by cases e), h⟩
  · exact ⟨(fun m e => by cases e), h⟩
  · cases h
theorem Ex.fgtL {X : Cx} {body : List Stmt} {env : Sls} : ∀ (xs pre : Sls), noIo xs = true → Ex X body env (.nx (pre ++ xs)) → Ex X body env (.nx (pre ++ xs.map fun _ => none))
  | [], pre, _, h => h
  | o :: xs, pre, hx, h => by
    obtain ⟨h1, h2⟩ := noIo_head hx
    have e1 : (pre ++ o :: xs)[pre.length]? = some o := by rw [List.getElem?_append_right (Nat.le_refl _), Nat.sub_self]; rfl
    have z := Ex.fgt pre.length h (fun m' e => by rw [e1] at e; exact h1 m' (Option.some.inj e)) (by rw [List.length_append, List.length_cons]; omega)
    have e2 : (pre ++ o :: xs).set pre.length none = (pre ++ [none]) ++ xs := by
      rw [List.set_append_right _ _ (Nat.le_refl _), Nat.sub_self, List.append_assoc]; rfl
    rw [e2] at z
    have z2 := Ex.fgtL xs (pre ++ [none]) h2 z
    rw [List.append_assoc] at z2
    exact z2
theorem foldl_dropLast {α β : Type} : ∀ (as : List α) (s : List β), s.length ≤ as.length → as.foldl (fun s _ => s.dropLast) s = []
  | [], s, h => List.length_eq_zero_iff.mp (Nat.le_zero.mp h)
  | a :: as, s, h => by
    rw [List.foldl_cons]
    exact foldl_dropLast as s.dropLast (by rw [List.length_dropLast]; simp only [List.length_cons] at h; omega)
theorem cut_take {α : Type} (xs : List α) (k : Nat) : cutD xs none (some (k : Int)) = xs.take k := by
  unfold cutD
  rw [HT.sIx_none, HT.sIx_nat, List.drop_zero, Nat.sub_zero]
  by_cases h : k ≤ xs.length
  · rw [Nat.min_eq_left h]
  · rw [Nat.min_eq_right (by omega), List.take_of_length_le (Nat.le_refl _), List.take_of_length_le (by omega)]
end Lin

end

section
namespace Lin
open PySem PySem.Spec PyProof.Rows L2
/-! ### the law's def at the top alone: there the guards are known -/
/-- what the law's def promises where it is called from the top -/
def TopOk (P : Program) (w : World) (K : PySem.W.Frag) (mg : Str → Option Value) (base : Heap) (fa : Addr) : Prop :=
  ∀ (t : Shared) (G : Hp) (x : Addr) (ns : List Int), ns.length ≤ 63 → Env0 P w K mg base callerA [] t G → SqL K G x (ns.map V.int) →
    codeAny (model P w) callerA (.call (.ref fa) ⟨[.ref x], []⟩) (CR CX0 [] P w G t (fun v _ => v = .bl true) (fun _ _ _ => False)) t
theorem top_core {P : Program} {w : World} {K : PySem.W.Frag} {mg mb : Str → Option Value} {fa x : Addr} {t : Shared} {vs : List Value} {ns : List Int} {G : Hp} (kin : K.In t.heap) (n1 : t.heap.Ns mainGlobals mg) (n2 : t.heap.Ns builtinsNs mb) (n3 : ∀ y : Str, y ≠ "__name__" → mb y = bootBuiltins y) (n4 : t.heap.NoLimit) (ge : t.gens = #[])
    (hx : t.heap.get? x = some { cls := .type "list", data := .seq vs.toArray }) (hl : ns.length ≤ 63) (F : ∀ base : Heap, K.In base → base.Ns mainGlobals mg → TopOk P w K mg base fa)
    (only : Only G) (sq : SqL K G x (ns.map V.int)) (ok : HOk P w G t.heap) (at1 : ∀ b, G b ≠ none → b = x) (at2 : G x ≠ none → K.lookup x = none) :
    codeAny (model P w) callerA (.call (.ref fa) ⟨[.ref x], []⟩) (fun r t' => r = .ok (.ret (.bool true)) ∧ OldK t.heap t'.heap ∧ t'.os = t.os ∧ AllBare t'.gens) t := by
  have free : ∀ {b : Addr} {o : Obj} {es : Array DictEntry} {ep : Nat}, t.heap.get? b = some o → o.data = .dict es ep → G b = none := by
    intro b o es ep g dd
    by_cases hb : G b = none
    · exact hb
    · have bx := at1 b hb
      rw [bx, hx] at g
      rw [← Option.some.inj g] at dd
      cases dd
  have ns' : ∀ {b : Addr} {m : Str → Option Value}, t.heap.Ns b m → (hidT t.heap G).Ns b m := by
    rintro b m ⟨o, es, ep, g, dd, rest⟩
    exact ⟨o, es, ep, hidT_get g (free g dd), dd, rest⟩
  have kin' : K.In (hidT t.heap G) := by
    intro b o lk
    refine hidT_get (kin b o lk) ?_
    by_cases hb : G b = none
    · exact hb
    · have bx := at1 b hb
      rw [bx] at lk hb
      rw [at2 hb] at lk
      cases lk
  obtain ⟨mc, c1, c2⟩ := n4
  have md : Mod K mg (hidT t.heap G) := ⟨kin', ns' n1, ⟨mb, ns' n2, n3⟩, mc, ns' c1, c2⟩
  have env : Env0 P w K mg (hidT t.heap G) callerA [] t G :=
    { frames := rfl, mod := md, bs := fun b o e => of_hidT e, bsz := Nat.le_of_eq (hidT_size _ _), funs := trivial, frf := (fun b hb => nomatch (show b ∈ ([] : List Addr) from hb)), hok := ok, bare := .of_eq ge }
  refine codeAny_mono (F _ kin' (ns' n1) t G x ns hl env sq) ?_
  rintro (er | fl) t' post
  · exact post.elim
  · cases fl with
    | next => exact post.elim
    | brk => exact post.elim
    | cont => exact post.elim
    | ret u =>
      obtain ⟨v, G', os, bare, un, ok', rv, q⟩ := post
      have q : v = .bl true := q
      subst q
      have eu : u = Value.bool true := rv
      refine ⟨by rw [eu], OldK.of_keep fun b o g => ?_, os, bare⟩
      by_cases hb : G b = none
      · exact un.keep b o g hb (fun z => by cases z) (by simp)
      · obtain ⟨ob, xs, z⟩ := (only b).resolve_left hb
        have k1 := (ok b _ z).1
        have k2 := (ok' b _ (un.frzs b ob _ z)).1
        rw [g] at k1
        rw [k2, Option.some.inj k1]
theorem top_call {P : Program} {w : World} {K : PySem.W.Frag} {mg mb : Str → Option Value} {fa x : Addr} {t : Shared} {vs : List Value} {ns : List Int} (kin : K.In t.heap) (n1 : t.heap.Ns mainGlobals mg) (n2 : t.heap.Ns builtinsNs mb) (n3 : ∀ y : Str, y ≠ "__name__" → mb y = bootBuiltins y) (n4 : t.heap.NoLimit) (ge : t.gens = #[])
    (hx : t.heap.get? x = some { cls := .type "list", data := .seq vs.toArray }) (hi : IntsAre vs ns) (hl : ns.length ≤ 63) (F : ∀ base : Heap, K.In base → base.Ns mainGlobals mg → TopOk P w K mg base fa) :
    codeAny (model P w) callerA (.call (.ref fa) ⟨[.ref x], []⟩) (fun r t' => r = .ok (.ret (.bool true)) ∧ OldK t.heap t'.heap ∧ t'.os = t.os ∧ AllBare t'.gens) t := by
  have rel := vals_ints hi
  have long := hi.length
  have sl := sizeLine_eq
  by_cases own : ∃ o, K.lookup x = some o
  · obtain ⟨o, lk⟩ := own
    have g := kin x o lk
    rw [hx] at g
    have eo := Option.some.inj g
    subst eo
    have nothing : ∀ (b : Addr) (u : HO), (none : Option HO) = some u → False := fun b u z => nomatch z
    exact top_core (G := fun _ => none) kin n1 n2 n3 n4 ge hx hl F (fun _ => Or.inl rfl) (Or.inr ⟨_, vs.toArray, _, lk, rfl, rfl, rfl, (by rw [List.size_toArray, long]; omega), (by simpa using rel)⟩)
      (fun b u z => (nothing b u z).elim) (fun b z => (z rfl).elim) (fun z => (z rfl).elim)
  · have lk : K.lookup x = none := by
      cases e : K.lookup x with
      | none => rfl
      | some o => exact (own ⟨o, e⟩).elim
    let G : Hp := fun b => if b = x then some (.frz { cls := .type "list", data := .seq vs.toArray } (.lst (ns.map V.int))) else none
    have gx : G x = some (.frz { cls := .type "list", data := .seq vs.toArray } (.lst (ns.map V.int))) := if_pos rfl
    have gn : ∀ b, b ≠ x → G b = none := fun b n => if_neg n
    refine top_core (G := G) kin n1 n2 n3 n4 ge hx hl F (fun b => ?_) (Or.inl (Or.inr ⟨_, gx⟩)) (fun b u z => ?_) (fun b z => ?_) fun _ => lk
    · by_cases e : b = x
      · exact Or.inr ⟨_, _, e ▸ gx⟩
      · exact Or.inl (gn b e)
    · by_cases e : b = x
      · subst e
        rw [gx] at z
        have eu := Option.some.inj z
        subst eu
        exact ⟨hx, (by rw [List.length_map]; omega), vs, _, rel, hx⟩
      · rw [gn b e] at z
        cases z
    · by_cases e : b = x
      · exact e
      · exact absurd (gn b e) z
theorem walk_top {l : PySem.W.OpenLaw} {q : Program} {loose : List Str} {XP : (Str → Option Value) → Heap → Prop} {YP : World → Heap → Prop} {d : DefRec} {K : Params → PySem.W.Frag} (hn : l.most = some 63) (hdf : d.params.defaults = [])
    (hY : ∀ (w : World) (h : Heap), YP w h → (K w.params).In h)
    (F : ∀ (w : World) (mg : Str → Option Value) (fa : Addr) (h : Heap), (K w.params).In h → h.Ns mainGlobals mg → mg d.name = some (.ref fa) → ∀ base : Heap, (K w.params).In base → base.Ns mainGlobals mg → TopOk l.prog w (K w.params) mg base fa) :
    PySem.W.WalkO q loose XP YP l.row.toRowW d [] (fun f vs => PySem.call f vs) := by
  refine Att.attach_callB (n := 63) hn hdf ?_
  intro w t0 t mg mb fa o pm cd dc x vs ns gr y _ _ _ named lst are short _ ge
  exact top_call (hY w _ y) gr.T.g gr.T.b gr.T.builtins gr.T.nolimit ge lst are short (F w mg fa _ (hY w _ y) gr.T.g named)
end Lin

end

section
namespace Lin
open PySem PySem.Spec PyProof.Rows L2
/-- what is asked of the body of the law's def, called from the top -/
abbrev Top0 (P : Program) (w : World) (K : PySem.W.Frag) (mg : Str → Option Value) (base : Heap) (N : List Str) (st : Stmt) (Goal : Cx → Prop) : Prop :=
  ∀ (f : Addr) (cdv : Value) (s : Shared) (H : Hp) (E : XK), Goal (cxOf CX0 P w K mg base N "law" (defScope st) f cdv callerA [] s H E).nox
theorem top_of {P : Program} {w : World} {K : PySem.W.Frag} {mg : Str → Option Value} {base : Heap} {fa : Addr} {fd : FuncData} {st : Stmt} {N : List Str} (law : Fun K "law" "law" st fa fd) (S : FnScope N ["script"] (defScope st)) (bind : ∀ (s : Shared) (u : Value), BindsTo s fd ⟨[u], []⟩ [("script", u)])
    (body : ∀ ns : List Int, ns.length ≤ 63 → Top0 P w K mg base N st fun X => ∃ env', Ex X (defBody st) (start0 N [.scr ns]) (.rt (.val (.bool true)) env')) : TopOk P w K mg base fa := by
  intro t G x ns short e0 sq
  obtain ⟨oc, od, kV, dc, pm, an, cdv, ct, osl, rfl, lk, code⟩ := law.ex
  have kin : K.In t.heap := e0.mod.kin.keeps fun b o g => (e0.bs b o g).1
  have nolim : t.heap.NoLimit := e0.mod.nolimit.keeps fun b o g => (e0.bs b o g).1
  have room : Room 31 callerA := ⟨rfl, by decide, by decide⟩
  have kinds : ∀ y ∈ [(("script" : Str), Value.ref x)], (defScope st).names.lookup y.1 = some .local ∨ ((defScope st).names.lookup y.1 = some .cell ∧ ((cellsFrom (t.heap.objs.size + 1) (defScope st).names []).lookup y.1).isSome = true) := by
    intro y hy
    have ey : y.1 = ("script" : Str) := by rw [List.mem_singleton.mp hy]
    rw [ey]
    exact (S.par "script" (List.mem_singleton.mpr rfl)).imp id fun z => ⟨z, PySem.W.cellsFrom_some _ _ _ (.inl z)⟩
  refine codeAny_call_function room.depth (kin _ _ lk) rfl S.co S.gen rfl (PySem.W.codeRec_of kin code) (bind t (.ref x) _ _ _ _ ?_)
  refine wpAny_newFunctionEnv_cells S.kind kinds fun env he s1 y => ?_
  subst he
  refine ⟨nolim.keeps y.toInCall.keep, codeAny_func ?_⟩
  obtain ⟨env', ex⟩ := body ns short fa cdv t G fun _ _ _ => False
  have scr : RepL K (fun _ => False) G [.scr ns] [.ref x] := ⟨_, _, rfl, ⟨x, rfl, sq.imp (fun z => ⟨(fun q => q), z⟩) id⟩, rfl⟩
  have slots : RepS K (fun _ => False) G (start0 N [.scr ns]) (start N [.ref x]) [] := repS_start (K := K) (O := fun _ => False) (H := G) (N.length - 1) [.scr ns] scr
  have none0 : Wf (fun _ => False) G [] := ⟨List.nodup_nil, (fun _ z => nomatch z), fun _ (z : False) => z.elim⟩
  obtain ⟨tt, reads, goes⟩ := ex (fun _ => False) G (start N [.ref x]) [] slots none0 ⟨fun _ _ => V.non = .bl true, fun v _ => v = .bl true, fun _ _ => False, fun _ _ => False⟩ fun O' H' σ' v Fv F' rm rs s' _ => rm.2
  have inv : Inv (cxOf CX0 P w K mg base N "law" (defScope st) fa cdv callerA [] t G fun _ _ _ => False) [] (start N [.ref x]) G s1 := inv_start S room.hd e0 rfl (.cons rfl .nil) y
  refine wpAny_mono (reads.nox.run [] s1 _ G _ inv goes) (fun fl s' post => ?_) fun e s' post => post
  cases fl with
  | ret u =>
    obtain ⟨v, σ', H', J, rv, q⟩ := post
    exact ⟨v, H', J.os, J.bare, J.base, J.hok, rv, q⟩
  | next =>
    obtain ⟨σ', H', J, q⟩ := post
    exact ⟨.non, H', J.os, J.bare, J.base, J.hok, rfl, q⟩
  | brk => obtain ⟨_, _, _, q⟩ := post; exact q.elim
  | cont => obtain ⟨_, _, _, q⟩ := post; exact q.elim
end Lin

end

section
namespace Lin
open PySem PySem.Spec PyProof.Rows L2
/-! ### repr of data without dicts, where the guards are known -/
structure Shw (d : PyData) (A : Around) : Prop where
  sh : d.showable = true
  nd : d.hasDict = false
  un : A.units + (d.depth + 1) < cLine
  sz : d.shown.length ≤ sizeLine
def rReprD (X : Cx) : List V → Hp → VK → Prop := fun vs H Q => ∃ (v : V) (d : PyData), vs = [v] ∧ Dp X.K H v d ∧ Shw d X.A ∧ Q (.str d.shown) H
theorem cr_reprD {X : Cx} (hg : X.A.guards = some []) : CallR X (.builtin "repr") (rReprD X) := by
  intro pins s σ H vs us Q I r h
  obtain ⟨v, d, rfl, dp, sw, q⟩ := h
  obtain ⟨u, rfl, ru⟩ := vals1 r
  cases dp with
  | non =>
    cases ru
    exact PySem.P.repr_of_none ⟨.str _, H, I.tok _, ⟨_, rfl⟩, q⟩
  | bl b =>
    cases ru
    exact PySem.P.repr_of_bool ⟨.str _, H, I.tok _, ⟨_, rfl⟩, q⟩
  | int i =>
    obtain ⟨t, rfl⟩ := ru
    exact PySem.P.repr_of_int (of_decide_eq_true sw.sh) ⟨.str _, H, I.tok _, ⟨_, rfl⟩, q⟩
  | str x =>
    obtain ⟨t, rfl⟩ := ru
    exact PySem.P.repr_of_str ⟨.str _, H, I.tok _, ⟨_, rfl⟩, q⟩ sw.sz
  | lst hs ha =>
    cases ru
    obtain ⟨as, rd⟩ := Dp.reads I _ _ _ (Dp.lst hs ha) rfl
    exact repr_of_reads' rd sw.sh (fun z => by rw [sw.nd] at z; cases z) hg sw.un (fun _ _ e => e) (fun h' u tk hk => ⟨.str _, H, I.kept hk, ⟨_, rfl⟩, q⟩) sw.sz
  | tup hs ha =>
    cases ru
    obtain ⟨as, rd⟩ := Dp.reads I _ _ _ (Dp.tup hs ha) rfl
    exact repr_of_reads' rd sw.sh (fun z => by rw [sw.nd] at z; cases z) hg sw.un (fun _ _ e => e) (fun h' u tk hk => ⟨.str _, H, I.kept hk, ⟨_, rfl⟩, q⟩) sw.sz
section
variable {X : Cx} {env env1 env2 : Sls} {a b e : Expr} {d x y : D} {pos p : Pos}
theorem ev_reprD (hg : X.A.guards = some []) (ha : Ev X e env (.val d) env1) (hp : plain d = true) (sw : Shw (pd d) X.A) (hm : X.mg "repr" = none := by assumption) (hgl : Gl X "repr" := by rfl) (he : starEach [e] X.env = (false, eval e X.env) :: starEach [] X.env := by rfl) (hpl : (backTo pos (starEach [] X.env)).any (·.1) = false := by rfl) : Ev X (.Call (.Name "repr" p) [e] [] pos) env (.val (.str (pd d).shown)) env1 :=
  ev_cbi (ds := [d]) (cr_reprD hg) (rf_val fun O H vs Q ⟨u, us, e, hu, hn⟩ q => ⟨u, pd d, by rw [e, show us = [] from hn], hu.dp d hp, sw, q _ rfl⟩) (ea_cons ha ea_nil he) hm (by decide +kernel) hgl (by decide) (by decide) he hpl
theorem tv_neStr {z w : Str} (ha : Ev X a env (.val (.str z)) env1) (hb : Ev X b env1 (.val (.str w)) env2) (hm : behindInMarks .NotEq b = false := by first | exact nomark _ | rfl) : Tv X (.Compare a [.NotEq] [b] pos) env (!decide (z = w)) env2 := tv_cmp op_ne ha hb (ro_val fun O H u v Q hu hv q => by
  subst hu
  subst hv
  refine ⟨rfl, ?_⟩
  have e : decide (V.str z = V.str w) = decide (z = w) := decide_eq_decide.mpr ⟨fun h => V.str.inj h, fun h => by rw [h]⟩
  rw [e]
  exact q _ rfl) hm
end
end Lin

end

section
namespace Lin
open PySem PySem.Spec PyProof.Rows L2
/-! ### repr of data with dicts: a dict is not the table of modules -/
mutual
inductive Shs (h : Heap) : Value → PyData → Prop
  | none : Shs h .none .none
  | bool (b : Bool) : Shs h (.bool b) (.bool b)
  | int (i : Int) (t : Tok) : i.natAbs.log2 < 1920 → Shs h (.int i t) (.int i)
  | str (x : Str) (t : Tok) : Shs h (.str x t) (.str x)
  | list {a : Addr} {o : Obj} {vs : Array Value} {n : Nat} {xs : List PyData} (g : h.get? a = some o) (c : o.cls = .type "list") (d : o.data = .seq vs n) (r : ShsAll h vs.toList xs) : Shs h (.ref a) (.list xs)
  | tuple {a : Addr} {o : Obj} {vs : Array Value} {n : Nat} {xs : List PyData} (g : h.get? a = some o) (c : o.cls = .type "tuple") (d : o.data = .seq vs n) (r : ShsAll h vs.toList xs) : Shs h (.ref a) (.tuple xs)
  | dict {a : Addr} {o : Obj} {es : Array DictEntry} {n : Nat} {kvs : List (PyData × PyData)} (g : h.get? a = some o) (c : o.cls = .type "dict") (d : o.data = .dict es n) (m : (a == sysModules) = false)
      (r : ShsAll h (es.toList.map fun e => e.key) (kvs.map fun p => p.1)) (q : ShsAll h (es.toList.map fun e => e.val) (kvs.map fun p => p.2)) : Shs h (.ref a) (.dict kvs)
inductive ShsAll (h : Heap) : List Value → List PyData → Prop
  | nil : ShsAll h [] []
  | cons {v : Value} {vs : List Value} {d : PyData} {ds : List PyData} : Shs h v d → ShsAll h vs ds → ShsAll h (v :: vs) (d :: ds)
end
section
variable {prog : Program} {w : World} {h : Heap}
mutual
theorem Shs.rd : ∀ {v : Value} {d : PyData}, Shs h v d → ∃ as, Reads h v d as
  | _, _, .none => ⟨_, .none⟩
  | _, _, .bool b => ⟨_, .bool b⟩
  | _, _, .int i t _ => ⟨_, .int i t⟩
  | _, _, .str x t => ⟨_, .str x t⟩
  | _, _, .list g c d r => let ⟨_, q⟩ := ShsAll.rd r; ⟨_, .list g c d q⟩
  | _, _, .tuple g c d r => let ⟨_, q⟩ := ShsAll.rd r; ⟨_, .tuple g c d q⟩
  | _, _, .dict g c d _ r q => let ⟨_, x⟩ := ShsAll.rd r; let ⟨_, y⟩ := ShsAll.rd q; ⟨_, .dict g c d x y⟩
theorem ShsAll.rd : ∀ {vs : List Value} {ds : List PyData}, ShsAll h vs ds → ∃ as, ReadsAll h vs ds as
  | _, _, .nil => ⟨_, .nil⟩
  | _, _, .cons r q => let ⟨_, x⟩ := Shs.rd r; let ⟨_, y⟩ := ShsAll.rd q; ⟨_, .cons x y⟩
end
/-- what a value's repr is, and which places are read for it -/
def RkOf (prog : Program) (w : World) (h : Heap) (v : Value) (d : PyData) : Prop := ∃ bs, ReadAtMost h d.depth bs ∧ ReprK prog w bs h d.depth v d.shown
def RkAll (prog : Program) (w : World) (h : Heap) (vs : List Value) (ds : List PyData) : Prop := ∃ bs, ReadAtMost h (PyData.depthAll ds) bs ∧ ReprAllK prog w bs h (PyData.depthAll ds) vs (PyData.shownAll ds)
theorem rk_pair {vs us : List Value} {kvs : List (PyData × PyData)} (r1 : RkAll prog w h vs (kvs.map fun p => p.1)) (r2 : RkAll prog w h us (kvs.map fun p => p.2)) :
    ∃ bs, ReadAtMost h (PyData.depthKv kvs) bs ∧ ReprAllK prog w bs h (PyData.depthKv kvs) vs (PyData.shownAll (kvs.map fun p => p.1)) ∧ ReprAllK prog w bs h (PyData.depthKv kvs) us (PyData.shownAll (kvs.map fun p => p.2)) := by
  obtain ⟨b1, m1, k1⟩ := r1
  obtain ⟨b2, m2, k2⟩ := r2
  exact ⟨b1 ++ b2, (m1.mono (PyData.depthAll_keys_le kvs)).append (m2.mono (PyData.depthAll_vals_le kvs)), k1.more_le (fun b z => List.mem_append.mpr (.inl z)) (PyData.depthAll_keys_le kvs), k2.more_le (fun b z => List.mem_append.mpr (.inr z)) (PyData.depthAll_vals_le kvs)⟩
mutual
theorem Shs.rk : ∀ {v : Value} {d : PyData}, Shs h v d → d.shown.length ≤ sizeLine → RkOf prog w h v d
  | _, _, .none, _ => ⟨[], (fun _ z => nomatch z), by rw [show PyData.shown .none = "None" by simp only [PyData.shown]]; exact .of_is ReprIs.none _ _ _⟩
  | _, _, .bool b, _ => ⟨[], (fun _ z => nomatch z), by unfold PyData.shown; exact .of_is (ReprIs.bool b) _ _ _⟩
  | _, _, .int i t l, _ => ⟨[], (fun _ z => nomatch z), by unfold PyData.shown; exact .of_is (ReprIs.int t l) _ _ _⟩
  | _, _, .str x t, z => ⟨[], (fun _ z => nomatch z), by unfold PyData.shown at z ⊢; exact .of_is (ReprIs.str x t z) _ _ _⟩
  | _, _, .list (a := a) (vs := vs) (xs := xs) g c d r, z => by
    have z1 : (listText (PyData.shownAll xs)).length ≤ sizeLine := by unfold PyData.shown at z; exact z
    obtain ⟨bs, m, k⟩ := ShsAll.rk r fun t e => Nat.le_trans (listText_mem_le e) z1
    obtain ⟨as, rr⟩ := ShsAll.rd r
    have me := Reads.list g c d rr
    have deep : (PyData.list xs).depth = PyData.depthAll xs + 1 := by simp only [PyData.depth]
    have out : a ∉ bs := not_mem_of_deeper me (by omega) m
    refine ⟨a :: bs, ReadAtMost.cons me (by omega) m, ?_⟩
    rw [deep]
    unfold PyData.shown
    obtain ⟨l⟩ := vs
    cases l with
    | nil =>
      cases (show ShsAll h [] xs from r)
      unfold PyData.shownAll
      rw [listText_nil]
      exact ReprK.listEmpty g c d
    | cons x l => exact ReprK.list g c d out (k.length_eq.trans (by simp)) fun i y e => k.item i y (by simpa using e)
  | _, _, .tuple (a := a) (xs := xs) g c d r, z => by
    have z1 : (tupleText (PyData.shownAll xs)).length ≤ sizeLine := by unfold PyData.shown at z; exact z
    obtain ⟨bs, m, k⟩ := ShsAll.rk r fun t e => Nat.le_trans (tupleText_mem_le e) z1
    obtain ⟨as, rr⟩ := ShsAll.rd r
    have me := Reads.tuple g c d rr
    have deep : (PyData.tuple xs).depth = PyData.depthAll xs + 1 := by simp only [PyData.depth]
    have out : a ∉ bs := not_mem_of_deeper me (by omega) m
    refine ⟨a :: bs, ReadAtMost.cons me (by omega) m, ?_⟩
    rw [deep]
    unfold PyData.shown
    exact ReprK.tuple g c d out k
  | _, _, .dict (a := a) (es := es) (kvs := kvs) g c d lo r q, z => by
    have z1 : (dictText (PyData.shownKv kvs)).length ≤ sizeLine := by unfold PyData.shown at z; exact z
    have k1 := ShsAll.rk r fun t e => let ⟨p, hp, hl⟩ := PyData.shownKv_key_le kvs t e; Nat.le_trans hl (Nat.le_trans (dictText_mem_le hp) z1)
    have k2 := ShsAll.rk q fun t e => let ⟨p, hp, hl⟩ := PyData.shownKv_val_le kvs t e; Nat.le_trans hl (Nat.le_trans (dictText_mem_le hp) z1)
    obtain ⟨bs, m, ka, kb⟩ := rk_pair k1 k2
    obtain ⟨as1, rr1⟩ := ShsAll.rd r
    obtain ⟨as2, rr2⟩ := ShsAll.rd q
    have me := Reads.dict g c d rr1 rr2
    have deep : (PyData.dict kvs).depth = PyData.depthKv kvs + 1 := by simp only [PyData.depth]
    have out : a ∉ bs := not_mem_of_deeper me (by omega) m
    refine ⟨a :: bs, ReadAtMost.cons me (by omega) m, ?_⟩
    rw [deep]
    unfold PyData.shown
    rw [PyData.shownKv_eq]
    exact ReprK.dict g c d lo out (ReprEntriesK.of_two es.toList _ _ ka kb)
theorem ShsAll.rk : ∀ {vs : List Value} {ds : List PyData}, ShsAll h vs ds → (∀ t ∈ PyData.shownAll ds, t.length ≤ sizeLine) → RkAll prog w h vs ds
  | _, _, .nil, _ => ⟨[], (fun _ z => nomatch z), by unfold PyData.shownAll; exact .nil⟩
  | _, _, .cons (d := d) (ds := ds) r q, z => by
    obtain ⟨b1, m1, k1⟩ := Shs.rk r (z _ (by unfold PyData.shownAll; exact List.mem_cons_self ..))
    obtain ⟨b2, m2, k2⟩ := ShsAll.rk q fun t e => z t (by unfold PyData.shownAll; exact List.mem_cons_of_mem _ e)
    have deep : PyData.depthAll (d :: ds) = max d.depth (PyData.depthAll ds) := by simp only [PyData.depthAll]
    refine ⟨b1 ++ b2, ?_, ?_⟩
    · rw [deep]
      exact (m1.mono (Nat.le_max_left _ _)).append (m2.mono (Nat.le_max_right _ _))
    · rw [deep]
      unfold PyData.shownAll
      exact .cons ((k1.more fun b e => List.mem_append.mpr (.inl e)).level_le (Nat.le_max_left _ _)) (k2.more_le (fun b e => List.mem_append.mpr (.inr e)) (Nat.le_max_right _ _))
end
variable {A : Around} {E : Value → Shared → Prop} {s : Shared} {Q : Value → Shared → Prop}
theorem Shs.call {v : Value} {d : PyData} (sh : Shs s.heap v d) (z : d.shown.length ≤ sizeLine) (hg : A.guards = some []) (hu : A.units + (d.depth + 1) < cLine)
    (q : ∀ h' u tk, (∀ b o, s.heap.get? b = some o → h'.get? b = some o) → Q (.str d.shown u) { s with heap := h', toks := tk }) : wpAny (model prog w) A (call (.builtin "repr") [v]) Q E s := by
  cases sh with
  | none => exact PySem.P.repr_of_none (by have := q s.heap s.toks (s.toks + 1) (fun _ _ e => e); unfold PyData.shown at this; exact this)
  | bool b => exact PySem.P.repr_of_bool (by have := q s.heap s.toks (s.toks + 1) (fun _ _ e => e); unfold PyData.shown at this; exact this)
  | int i t l => exact PySem.P.repr_of_int l (by have := q s.heap s.toks (s.toks + 1) (fun _ _ e => e); unfold PyData.shown at this; exact this)
  | str x t => exact PySem.P.repr_of_str (by have := q s.heap s.toks (s.toks + 1) (fun _ _ e => e); unfold PyData.shown at this; exact this) (by unfold PyData.shown at z; exact z)
  | @list a o vs n xs g c d r =>
    have z1 : (listText (PyData.shownAll xs)).length ≤ sizeLine := by unfold PyData.shown at z; exact z
    obtain ⟨bs, m, k⟩ := ShsAll.rk (prog := prog) (w := w) r fun t e => Nat.le_trans (listText_mem_le e) z1
    obtain ⟨as, rr⟩ := ShsAll.rd r
    have deep : (PyData.list xs).depth = PyData.depthAll xs + 1 := by simp only [PyData.depth]
    have out : a ∉ bs := not_mem_of_deeper (Reads.list g c d rr) (by omega) m
    refine call_repr_slot (by omega) ⟨o, g, c⟩ F.slot_list_repr.toG ?_
    unfold PyData.shown at q
    obtain ⟨l⟩ := vs
    cases l with
    | nil =>
      cases (show ShsAll s.heap [] xs from r)
      unfold PyData.shownAll at q
      rw [listText_nil] at q
      exact call_list_repr_empty ⟨o, g, c⟩ g d ⟨_, _, rfl, q _ _ _ fun _ _ e => e⟩
    | cons x l => exact call_list_reprK g c d out (k.length_eq.trans (by simp)) (fun i y e => k.item i y (by simpa using e)) (show A.in1.guards = some [] from hg) (fun b _ => Clear.nil b) (by show A.units + 1 + _ < cLine; omega) (fun _ _ e => e) (fun h' u tk hk => ⟨_, _, rfl, q h' u tk hk⟩) z1
  | @tuple a o vs n xs g c d r =>
    have z1 : (tupleText (PyData.shownAll xs)).length ≤ sizeLine := by unfold PyData.shown at z; exact z
    obtain ⟨bs, m, k⟩ := ShsAll.rk (prog := prog) (w := w) r fun t e => Nat.le_trans (tupleText_mem_le e) z1
    obtain ⟨as, rr⟩ := ShsAll.rd r
    have deep : (PyData.tuple xs).depth = PyData.depthAll xs + 1 := by simp only [PyData.depth]
    have out : a ∉ bs := not_mem_of_deeper (Reads.tuple g c d rr) (by omega) m
    refine call_repr_slot (by omega) ⟨o, g, c⟩ F.slot_tuple_repr ?_
    unfold PyData.shown at q
    exact call_tuple_reprK g c d out k (show A.in1.guards = some [] from hg) (fun b _ => Clear.nil b) (by show A.units + 1 + _ < cLine; omega) (fun _ _ e => e) (fun h' u tk hk => ⟨_, _, rfl, q h' u tk hk⟩) z1
  | @dict a o es n kvs g c d lo r rq =>
    have z1 : (dictText (PyData.shownKv kvs)).length ≤ sizeLine := by unfold PyData.shown at z; exact z
    have k1 := ShsAll.rk (prog := prog) (w := w) r fun t e => let ⟨p, hp, hl⟩ := PyData.shownKv_key_le kvs t e; Nat.le_trans hl (Nat.le_trans (dictText_mem_le hp) z1)
    have k2 := ShsAll.rk (prog := prog) (w := w) rq fun t e => let ⟨p, hp, hl⟩ := PyData.shownKv_val_le kvs t e; Nat.le_trans hl (Nat.le_trans (dictText_mem_le hp) z1)
    obtain ⟨bs, m, ka, kb⟩ := rk_pair k1 k2
    obtain ⟨as1, rr1⟩ := ShsAll.rd r
    obtain ⟨as2, rr2⟩ := ShsAll.rd rq
    have deep : (PyData.dict kvs).depth = PyData.depthKv kvs + 1 := by simp only [PyData.depth]
    have out : a ∉ bs := not_mem_of_deeper (Reads.dict g c d rr1 rr2) (by omega) m
    refine call_repr_slot (by omega) ⟨o, g, c⟩ F.slot_dict_repr ?_
    unfold PyData.shown at q
    rw [PyData.shownKv_eq] at q z1
    exact call_dict_reprK g c d lo out (ReprEntriesK.of_two es.toList _ _ ka kb) (show A.in1.guards = some [] from hg) (fun b _ => Clear.nil b) (by show A.units + 1 + _ < cLine; omega) (fun _ _ e => e) (fun h' u tk hk => ⟨_, _, rfl, q h' u tk hk⟩) z1
end
end Lin

end

section
namespace Lin
open PySem PySem.Spec PyProof.Rows L2
/-! ### data as a law draws it, also odd: its worth, its repr -/
def keyP : Key → PyData
  | .inl i => .int i
  | .inr x => .str x
def shwI (i : Int) : Bool := decide (i.natAbs < 10 ^ 38)
def shwS (s : Str) : Bool := PyData.strOk s && s.cps.toList.all fun c => decide (c < 16 ^ 8)
def shwKey : Key → Bool
  | .inl i => shwI i
  | .inr x => shwS x
mutual
def pk : D → PyData
  | .none => .none | .bool b => .bool b | .int i => .int i | .str s => .str s
  | .tup ds => .tuple (pkL ds) | .lst ds => .list (pkL ds)
  | .dK ks ds => .dict ((ks.map keyP).zip (pkL ds))
  | .dT _ _ => .none | .ins _ _ _ => .none | .scr _ => .none
def pkL : List D → List PyData
  | [] => []
  | d :: ds => pk d :: pkL ds
end
mutual
def shw : D → Bool
  | .none => true | .bool _ => true | .int i => shwI i | .str s => shwS s
  | .tup ds => shwL ds | .lst ds => shwL ds
  | .dK ks ds => ks.all shwKey && decide (ks.length = ds.length) && shwL ds
  | .dT _ _ => false | .ins _ _ _ => false | .scr _ => false
def shwL : List D → Bool
  | [] => true
  | d :: ds => shw d && shwL ds
end
theorem pkL_len : ∀ ds : List D, (pkL ds).length = ds.length
  | [] => rfl
  | d :: ds => by
    show (pkL ds).length + 1 = ds.length + 1
    rw [pkL_len ds]
theorem shwI_log {i : Int} (h : shwI i = true) : i.natAbs.log2 < 1920 := by
  have h : i.natAbs < 10 ^ 38 := of_decide_eq_true h
  by_cases z : i.natAbs = 0
  · rw [z]; decide
  · exact (Nat.log2_lt z).mpr (Nat.lt_of_lt_of_le h (by decide +kernel))
theorem shwI_len {i : Int} (h : shwI i = true) : (PyData.shown (.int i)).length ≤ 40 := by
  have h : i.natAbs < 10 ^ 38 := of_decide_eq_true h
  have z := int_text_length_le10 (k := 38) (by decide) h
  have z : (PySem.Str.ofString (toString i)).length ≤ 38 + 1 := by rw [PySem.ofString_length]; exact z
  have e : (PyData.shown (.int i)).length = (PySem.Str.ofString (toString i)).length := by unfold PyData.shown; rfl
  omega
theorem short_key {k : Key} (h : shwKey k = true) : PyData.leavesShort 40 (keyP k) = true := by
  cases k with
  | inl i => exact decide_eq_true (shwI_len h)
  | inr x => exact (Bool.and_eq_true_iff.mp h).2
theorem short_kv : ∀ {ks : List Key} {ps : List PyData}, ks.all shwKey = true → PyData.leavesShortAll 40 ps = true → PyData.leavesShortKv 40 ((ks.map keyP).zip ps) = true
  | [], _, _, _ => rfl
  | _ :: _, [], _, _ => rfl
  | k :: ks, p :: ps, h, g => by
    rw [List.all_cons, Bool.and_eq_true] at h
    have g := Bool.and_eq_true_iff.mp (show (PyData.leavesShort 40 p && PyData.leavesShortAll 40 ps) = true from g)
    show (PyData.leavesShort 40 (keyP k) && PyData.leavesShort 40 p && PyData.leavesShortKv 40 ((ks.map keyP).zip ps)) = true
    rw [short_key h.1, g.1, short_kv h.2 g.2]
    rfl
mutual
theorem short_pk : ∀ {d : D}, shw d = true → PyData.leavesShort 40 (pk d) = true
  | .none, _ => rfl
  | .bool _, _ => rfl
  | .int i, h => decide_eq_true (shwI_len h)
  | .str s, h => (Bool.and_eq_true_iff.mp (show (PyData.strOk s && _) = true from h)).2
  | .tup ds, h => short_pkL (show shwL ds = true from h)
  | .lst ds, h => short_pkL (show shwL ds = true from h)
  | .dK ks ds, h => by
    have h := Bool.and_eq_true_iff.mp (show (ks.all shwKey && decide (ks.length = ds.length) && shwL ds) = true from h)
    have g := Bool.and_eq_true_iff.mp h.1
    exact short_kv g.1 (short_pkL h.2)
theorem short_pkL : ∀ {ds : List D}, shwL ds = true → PyData.leavesShortAll 40 (pkL ds) = true
  | [], _ => rfl
  | d :: ds, h => by
    have h := Bool.and_eq_true_iff.mp (show (shw d && shwL ds) = true from h)
    show (PyData.leavesShort 40 (pk d) && PyData.leavesShortAll 40 (pkL ds)) = true
    rw [short_pk h.1, short_pkL h.2]
    rfl
end
theorem shown_fit {d : D} (h : shw d = true) (w : (pk d).weight ≤ 300000) : (pk d).shown.length ≤ sizeLine := by
  have z := PyData.shown_le 40 (by decide) (pk d) (short_pk h)
  rw [sizeLine_eq]
  omega
section
variable {X : Cx} {pins : List (Addr × Obj)} {σ : L2.St} {H : Hp} {s : Shared} {O : OW}
theorem kv_shs {h : Heap} {P : Program} {w : World} : ∀ {kvs : List (Key × V)} {vs : List (Key × Value)} {es : List DictEntry} {ds : List D}, KV kvs vs → Pairs (mixKind P w) es vs → (kvs.map (·.1)).all shwKey = true → RepL X.K O H ds (kvs.map (·.2)) →
      (∀ d ∈ ds, ∀ (v : V) (u : Value), Rep X.K O H d v → RelV v u → Shs h u (pk d)) → ShsAll h (es.map fun e => e.key) ((kvs.map (·.1)).map keyP) ∧ ShsAll h (es.map fun e => e.val) (pkL ds)
  | [], _, _, ds, .nil, .nil, _, rl, _ => by
    rw [show ds = [] by cases ds with | nil => rfl | cons d ds => obtain ⟨_, _, e, _⟩ := rl; cases e]
    exact ⟨.nil, .nil⟩
  | (k, v) :: kvs, (k2, u) :: vs, e :: es, ds, .cons r rs, .cons p q ps, hk, rl, F => by
    cases ds with
    | nil => cases (show (v :: kvs.map (·.2)) = [] from rl)
    | cons d ds =>
      obtain ⟨v', vs', ev, rd, rl⟩ := rl
      injection ev with e1 e2
      subst e1
      subst e2
      rw [List.map_cons, List.all_cons, Bool.and_eq_true] at hk
      obtain ⟨i1, i2⟩ := kv_shs rs ps hk.2 rl fun d z => F d (List.mem_cons_of_mem _ z)
      obtain ⟨r1, r2⟩ := r
      dsimp only at r1 r2 p q
      subst r1
      refine ⟨.cons ?_ i1, .cons (show Shs h e.val (pk d) by rw [q]; exact F d (List.mem_cons_self ..) _ _ rd r2) i2⟩
      show Shs h e.key (keyP k)
      rcases keyIs_shape (show keyIs k e.key = true from p) with ⟨i, t, ek, ev⟩ | ⟨x, t, ek, ev⟩
      · rw [ev, ek]
        rw [ek] at hk
        exact .int i t (shwI_log hk.1)
      · rw [ev, ek]
        exact .str x t
theorem shwL_mem : ∀ {ds : List D} {d : D}, shwL ds = true → d ∈ ds → shw d = true
  | d :: ds, x, h, m => by
    have h := Bool.and_eq_true_iff.mp (show (shw d && shwL ds) = true from h)
    rcases List.mem_cons.mp m with e | m
    · rw [e]; exact h.1
    · exact shwL_mem h.2 m
theorem list_shs {h : Heap} : ∀ {ds : List D} {xs : List V} {us : List Value}, (∀ d ∈ ds, ∀ (v : V) (u : Value), Rep X.K O H d v → RelV v u → Shs h u (pk d)) → RepL X.K O H ds xs → Vals xs us → ShsAll h us (pkL ds)
  | [], _, _, _, rl, r => by
    rw [show _ = [] from rl] at r
    cases r
    exact .nil
  | d :: ds, _, _, F, ⟨v, vs, e, rd, rl⟩, r => by
    rw [e] at r
    cases r with
    | cons r1 r2 => exact .cons (F d (List.mem_cons_self ..) v _ rd r1) (list_shs (fun d m => F d (List.mem_cons_of_mem _ m)) rl r2)
theorem zip_fst {ks : List Key} {ds : List D} (h : ks.length = ds.length) : ((ks.map keyP).zip (pkL ds)).map (fun p => p.1) = ks.map keyP := List.map_fst_zip (by rw [List.length_map, pkL_len, h]; exact Nat.le_refl _)
theorem zip_snd {ks : List Key} {ds : List D} (h : ks.length = ds.length) : ((ks.map keyP).zip (pkL ds)).map (fun p => p.2) = pkL ds := List.map_snd_zip (by rw [List.length_map, pkL_len, h]; exact Nat.le_refl _)
theorem Rep.shs (I : Inv X pins σ H s) (d : D) (v : V) (u : Value) (hd : shw d = true) (rd : Rep X.K O H d v) (r : RelV v u) : Shs s.heap u (pk d) := by
  match d, hd, rd with
  | .none, _, rd =>
    rw [show v = .non from rd] at r
    cases r
    exact .none
  | .bool b, _, rd =>
    rw [show v = .bl b from rd] at r
    cases r
    exact .bool b
  | .int i, hd, rd =>
    rw [show v = .int i from rd] at r
    obtain ⟨t, rfl⟩ := r
    exact .int i t (shwI_log hd)
  | .str x, _, rd =>
    rw [show v = .str x from rd] at r
    obtain ⟨t, rfl⟩ := r
    exact .str x t
  | .tup ds, hd, ⟨a, xs, e, ta, rl⟩ =>
    rw [e] at r
    cases r
    obtain ⟨its, rv, ⟨o, ho, hc, n, hx⟩, _⟩ := I.tuple (TupAt.sq ta)
    exact .tuple ho hc hx (list_shs (fun x m v u => Rep.shs I x v u (shwL_mem (show shwL ds = true from hd) m)) rl rv)
  | .lst ds, hd, ⟨a, xs, e, no, ha, rl⟩ =>
    rw [e] at r
    cases r
    obtain ⟨its, rv, ⟨o, n, ho, hc, _, hx⟩, _⟩ := I.list (.inl (.inl ha))
    exact .list ho hc hx (list_shs (fun x m v u => Rep.shs I x v u (shwL_mem (show shwL ds = true from hd) m)) rl rv)
  | .dK ks ds, hd, ⟨a, kvs, e, no, ha, ek, rl⟩ =>
    rw [e] at r
    cases r
    have hd := Bool.and_eq_true_iff.mp (show (ks.all shwKey && decide (ks.length = ds.length) && shwL ds) = true from hd)
    have hk := Bool.and_eq_true_iff.mp hd.1
    have hl := of_decide_eq_true hk.2
    obtain ⟨_, lo, vs, rel, o, es, ep, ho, ex, hx, _, ps, _⟩ := dk_rd I.hok ha
    have all : ∀ d ∈ ds, shw d = true := fun d m => shwL_mem hd.2 m
    have both := kv_shs (h := s.heap) rel ps (by rw [ek]; exact hk.1) rl (fun x m v u => Rep.shs I x v u (all x m))
    rw [ek] at both
    exact .dict ho ex.1 hx lo (by rw [zip_fst hl]; exact both.1) (by rw [zip_snd hl]; exact both.2)
termination_by sizeOf d
decreasing_by all_goals (simp_wf; have := List.sizeOf_lt_of_mem m; omega)
end
/-- repr by values -/
def rRepr (X : Cx) : List V → Hp → VK → Prop := fun vs H Q => ∃ (O : OW) (v : V) (d : D), vs = [v] ∧ Rep X.K O H d v ∧ shw d = true ∧ (pk d).weight ≤ 300000 ∧ X.A.units + ((pk d).depth + 1) < cLine ∧ Q (.str (pk d).shown) H
theorem cr_repr {X : Cx} (hg : X.A.guards = some []) : CallR X (.builtin "repr") (rRepr X) := by
  intro pins s σ H vs us Q I r h
  obtain ⟨O, v, d, rfl, rd, sd, wd, un, q⟩ := h
  obtain ⟨u, rfl, ru⟩ := vals1 r
  exact Shs.call (Rep.shs I d v u sd rd ru) (shown_fit sd wd) hg un fun h' u tk hk => ⟨.str _, H, I.kept hk, ⟨_, rfl⟩, q⟩
section
variable {X : Cx} {env env1 env2 : Sls} {a b e : Expr} {d x y : D} {pos p : Pos}
theorem ev_repr (hg : X.A.guards = some []) (ha : Ev X e env (.val d) env1) (sd : shw d = true) (wd : (pk d).weight ≤ 300000) (un : X.A.units + ((pk d).depth + 1) < cLine) (hm : X.mg "repr" = none := by assumption) (hgl : Gl X "repr" := by rfl) (he : starEach [e] X.env = (false, eval e X.env) :: starEach [] X.env := by rfl) (hpl : (backTo pos (starEach [] X.env)).any (·.1) = false := by rfl) : Ev X (.Call (.Name "repr" p) [e] [] pos) env (.val (.str (pk d).shown)) env1 :=
  ev_cbi (ds := [d]) (cr_repr hg) (rf_val fun O H vs Q ⟨u, us, e, hu, hn⟩ q => ⟨O, u, d, by rw [e, show us = [] from hn], hu, sd, wd, un, q _ rfl⟩) (ea_cons ha ea_nil he) hm (by decide +kernel) hgl (by decide) (by decide) he hpl
/-- a tuple == () -/
def rEqNil (K : PySem.W.Frag) : R2 := fun x y H Q => ∃ (a b : Addr) (xs : List V), x = .ref a ∧ y = .ref b ∧ SqT K H a xs ∧ SqT K H b [] ∧ Q (.bl xs.isEmpty) H
theorem op_eqNil (hu : X.A.units < cLine) : OpR X (compareOp .Eq) (rEqNil X.K) := by
  intro pins s σ H x y v u Q I rx ry h
  obtain ⟨a, b, xs, rfl, rfl, ha, hb, q⟩ := h
  cases rx
  cases ry
  obtain ⟨its, rv, ta, _⟩ := I.tuple ha
  obtain ⟨jts, rw', tb, _⟩ := I.tuple hb
  cases rw'
  refine SeqAt.eq_tupleAt (e := fun _ => true) ta tb hu (fun j _ h2 => absurd h2 (by simp)) ⟨.bl xs.isEmpty, H, I, ?_, q⟩
  have e : ((List.range (min its.toArray.size ([] : List Value).toArray.size)).all (fun _ => true) && its.toArray.size == ([] : List Value).toArray.size) = xs.isEmpty := by
    rw [show min its.toArray.size ([] : List Value).toArray.size = 0 by simp]
    cases rv <;> simp
  rw [e]
  rfl
theorem tv_eqNil {ds : List D} (ha : Ev X a env (.val (.tup ds)) env1) (hb : Ev X b env1 (.val (.tup [])) env2) (hu : X.A.units < cLine) (hm : behindInMarks .Eq b = false := by first | exact nomark _ | rfl) : Tv X (.Compare a [.Eq] [b] pos) env ds.isEmpty env2 :=
  tv_cmp (op_eqNil hu) ha hb (ro_val fun O H u v Q ⟨a, xs, eu, ta, rl⟩ ⟨b, zs, ev, tb, rz⟩ q => ⟨a, b, xs, eu, ev, TupAt.sq ta, by rw [show zs = [] from rz] at tb; exact TupAt.sq tb, by
    have e : xs.isEmpty = ds.isEmpty := by
      cases ds with
      | nil => rw [show xs = [] from rl]; rfl
      | cons d ds => obtain ⟨_, _, e, _⟩ := rl; rw [e]; rfl
    rw [e]
    exact q _ rfl⟩) hm
end
end Lin

end

section
namespace Lin
open PySem PySem.Spec PyProof.Rows L2
/-! ### {k: e} -/
section
variable {X : Cx} {env env1 env2 : Sls} {a b e : Expr} {d x y : D} {pos p : Pos} {k : Key}
theorem ev_disp1 (hk : Ev X a env (.val (kD k)) env1) (hv : Ev X b env1 (.val d) env2) : Ev X (.Dict [some a] [b] pos) env (dkM [(k, d)]) env2 :=
  ⟨hk.1.trans hv.1, fun O H σ F r w Q q => ⟨_, pe_disp (pps_cons pe_w pe_w pps_nil) rfl rfl (by simp) (by simp), fun p hp => by
    have s0 : Step O H [] (fun b => O b ∨ b = p) (upd H p (.dK [])) [p] := Step.new (G := []) w.nil hp
    have sq := s0.quiet w
    have wq : Wf (fun b => O b ∨ b = p) (upd H p (.dK [])) ([p] ++ F) := sq.wf
    refine hk.2 _ _ σ F (r.quiet s0) wq.right _ fun O2 H2 u Fu F2 ⟨eu, ru⟩ r2 s2 => ?_
    subst eu
    have ek := rep_kD ru
    subst ek
    refine hv.2 O2 H2 σ F2 r2 s2.wf _ fun O3 H3 v Fv F3 ⟨ev, rv⟩ r3 s3 => ?_
    subst ev
    have st := s2.trans wq.right s3
    have wp : Wf (fun b => O b ∨ b = p) (upd H p (.dK [])) (F ++ [p]) := wq.perm List.perm_append_comm
    have stp := Step.beside wp st
    have out : p ∉ F := fun z => wq.apart (List.mem_singleton.mpr rfl) z
    have hp3 : H3 p = some (.dK []) := st.frame p _ upd_same out
    have own : O3 p := stp.wf.own p (by simp)
    have swr : Step O3 H3 (F3 ++ [p]) O3 (upd H3 p (.dK [(k, v)])) (F3 ++ [p]) := Step.write stp.wf (by simp)
    have kf : ∀ a o, H3 a = some o → ¬ O3 a → upd H3 p (.dK [(k, v)]) a = some o := fun a o h n => by rw [upd_ne (fun e => n (by rw [e]; exact own))]; exact h
    refine ⟨hp3, [(k, v)], rfl, by simp, ?_⟩
    refine q O3 _ (.ref p) [p] F3 ⟨p, [(k, v)], [], rfl, rfl, upd_same, rfl, repML_val [d] ⟨v, [], rfl, Rep.keep kf (fun a h => .inl h) d rv, rfl⟩⟩
      (RepS.keep kf (fun a h => .inl h) env2 (fun a o m h => by rw [upd_ne (fun e => by subst e; exact stp.wf.apart m (by simp))]; exact h) r3) ?_
    exact (((sq.permR List.perm_append_comm).trans w stp).trans w swr).permR List.perm_append_comm⟩⟩
end
/-! ### kinds of data -/
def kI : D → Bool
  | .int _ => true | .bool _ => true | _ => false
def kB : D → Bool
  | .bool _ => true | _ => false
def kT : D → Bool
  | .tup _ => true | _ => false
def kL : D → Bool
  | .lst _ => true | .scr _ => true | _ => false
def kS : D → Bool
  | .str _ => true | _ => false
def kDi : D → Bool
  | .dK _ _ => true | .dT _ _ => true | _ => false
def isI : D → Bool
  | .int _ => true | _ => false
section
variable {K : PySem.W.Frag}
theorem kit_I (ki : Kits K) {d : D} (h : tyOk d = true) : PySem.W.kitOne K (.type (tyD d)) (.type "int") = some (kI d) := by
  cases d with
  | none => exact ki.g "NoneType" "int" false (by decide)
  | bool b => exact ki.g "bool" "int" true (by decide)
  | int i => exact ki.g "int" "int" true (by decide)
  | str s => exact ki.g "str" "int" false (by decide)
  | tup ds => exact ki.g "tuple" "int" false (by decide)
  | lst ds => exact ki.g "list" "int" false (by decide)
  | dK ks ds => exact ki.g "dict" "int" false (by decide)
  | scr ns => exact ki.g "list" "int" false (by decide)
  | dT ks ds => cases h
  | ins a b c => cases h
theorem kit_B (ki : Kits K) {d : D} (h : tyOk d = true) : PySem.W.kitOne K (.type (tyD d)) (.type "bool") = some (kB d) := by
  cases d with
  | none => exact ki.g "NoneType" "bool" false (by decide)
  | bool b => exact ki.g "bool" "bool" true (by decide)
  | int i => exact ki.g "int" "bool" false (by decide)
  | str s => exact ki.g "str" "bool" false (by decide)
  | tup ds => exact ki.g "tuple" "bool" false (by decide)
  | lst ds => exact ki.g "list" "bool" false (by decide)
  | dK ks ds => exact ki.g "dict" "bool" false (by decide)
  | scr ns => exact ki.g "list" "bool" false (by decide)
  | dT ks ds => cases h
  | ins a b c => cases h
theorem kit_T (ki : Kits K) {d : D} (h : tyOk d = true) : PySem.W.kitOne K (.type (tyD d)) (.type "tuple") = some (kT d) := by
  cases d with
  | none => exact ki.g "NoneType" "tuple" false (by decide)
  | bool b => exact ki.g "bool" "tuple" false (by decide)
  | int i => exact ki.g "int" "tuple" false (by decide)
  | str s => exact ki.g "str" "tuple" false (by decide)
  | tup ds => exact ki.g "tuple" "tuple" true (by decide)
  | lst ds => exact ki.g "list" "tuple" false (by decide)
  | dK ks ds => exact ki.g "dict" "tuple" false (by decide)
  | scr ns => exact ki.g "list" "tuple" false (by decide)
  | dT ks ds => cases h
  | ins a b c => cases h
theorem kit_L (ki : Kits K) {d : D} (h : tyOk d = true) : PySem.W.kitOne K (.type (tyD d)) (.type "list") = some (kL d) := by
  cases d with
  | none => exact ki.g "NoneType" "list" false (by decide)
  | bool b => exact ki.g "bool" "list" false (by decide)
  | int i => exact ki.g "int" "list" false (by decide)
  | str s => exact ki.g "str" "list" false (by decide)
  | tup ds => exact ki.g "tuple" "list" false (by decide)
  | lst ds => exact ki.g "list" "list" true (by decide)
  | dK ks ds => exact ki.g "dict" "list" false (by decide)
  | scr ns => exact ki.g "list" "list" true (by decide)
  | dT ks ds => cases h
  | ins a b c => cases h
theorem kit_S (ki : Kits K) {d : D} (h : tyOk d = true) : PySem.W.kitOne K (.type (tyD d)) (.type "str") = some (kS d) := by
  cases d with
  | none => exact ki.g "NoneType" "str" false (by decide)
  | bool b => exact ki.g "bool" "str" false (by decide)
  | int i => exact ki.g "int" "str" false (by decide)
  | str s => exact ki.g "str" "str" true (by decide)
  | tup ds => exact ki.g "tuple" "str" false (by decide)
  | lst ds => exact ki.g "list" "str" false (by decide)
  | dK ks ds => exact ki.g "dict" "str" false (by decide)
  | scr ns => exact ki.g "list" "str" false (by decide)
  | dT ks ds => cases h
  | ins a b c => cases h
theorem kit_D (ki : Kits K) {d : D} (h : tyOk d = true) : PySem.W.kitOne K (.type (tyD d)) (.type "dict") = some (kDi d) := by
  cases d with
  | none => exact ki.g "NoneType" "dict" false (by decide)
  | bool b => exact ki.g "bool" "dict" false (by decide)
  | int i => exact ki.g "int" "dict" false (by decide)
  | str s => exact ki.g "str" "dict" false (by decide)
  | tup ds => exact ki.g "tuple" "dict" false (by decide)
  | lst ds => exact ki.g "list" "dict" false (by decide)
  | dK ks ds => exact ki.g "dict" "dict" true (by decide)
  | scr ns => exact ki.g "list" "dict" false (by decide)
  | dT ks ds => cases h
  | ins a b c => cases h
theorem isI_eq (d : D) : (kI d && !kB d) = isI d := by cases d <;> rfl
theorem shw_ty {d : D} (h : shw d = true) : tyOk d = true := by
  cases d <;> first | rfl | exact nomatch h
end
/-! ### worth and depth -/
abbrev wD (d : D) : Nat := (pk d).weight
abbrev wL (ds : List D) : Nat := PyData.weightAll (pkL ds)
abbrev dD (d : D) : Nat := (pk d).depth
abbrev dL (ds : List D) : Nat := PyData.depthAll (pkL ds)
theorem wD_tup (ds : List D) : wD (.tup ds) = wL ds := by show PyData.weight (.tuple (pkL ds)) = _; simp only [PyData.weight]
theorem wD_lst (ds : List D) : wD (.lst ds) = wL ds := by show PyData.weight (.list (pkL ds)) = _; simp only [PyData.weight]
theorem dD_tup (ds : List D) : dD (.tup ds) = dL ds + 1 := by show PyData.depth (.tuple (pkL ds)) = _; simp only [PyData.depth]
theorem dD_lst (ds : List D) : dD (.lst ds) = dL ds + 1 := by show PyData.depth (.list (pkL ds)) = _; simp only [PyData.depth]
theorem wL_cons (d : D) (ds : List D) : wL (d :: ds) = wD d + 1 + wL ds := by show PyData.weightAll (pk d :: pkL ds) = _; simp only [PyData.weightAll]
theorem dL_cons (d : D) (ds : List D) : dL (d :: ds) = max (dD d) (dL ds) := by show PyData.depthAll (pk d :: pkL ds) = _; simp only [PyData.depthAll]
theorem wL_nil : wL [] = 0 := rfl
theorem dL_nil : dL [] = 0 := rfl
theorem shwL_all (ds : List D) : shwL ds = true ↔ ∀ d ∈ ds, shw d = true := by
  induction ds with
  | nil => exact ⟨fun _ d h => absurd h (List.not_mem_nil), fun _ => rfl⟩
  | cons d ds ih =>
    rw [show shwL (d :: ds) = (shw d && shwL ds) from rfl, Bool.and_eq_true, ih]
    exact (List.forall_mem_cons (p := fun x => shw x = true)).symm
theorem dL_le (ds : List D) (n : Nat) : dL ds ≤ n ↔ ∀ d ∈ ds, dD d ≤ n := by
  induction ds with
  | nil => exact ⟨fun _ d h => absurd h (List.not_mem_nil), fun _ => Nat.zero_le _⟩
  | cons d ds ih =>
    rw [dL_cons, Nat.max_le, ih]
    exact (List.forall_mem_cons (p := fun x => dD x ≤ n)).symm
theorem wL_app (a b : List D) : wL (a ++ b) = wL a + wL b := by
  induction a with
  | nil => rw [List.nil_append, wL_nil]; omega
  | cons d a ih => rw [List.cons_append, wL_cons, wL_cons, ih]; omega
theorem wL_rev (a : List D) : wL a.reverse = wL a := by
  induction a with
  | nil => rfl
  | cons d a ih => rw [List.reverse_cons, wL_app, wL_cons, wL_cons, ih, wL_nil]; omega
theorem wL_at {ds : List D} {k : Nat} {x : D} (h : ds[k]? = some x) : wL (ds.take k) + (wD x + 1) + wL (ds.drop (k + 1)) = wL ds := by
  have e : ds = ds.take k ++ x :: ds.drop (k + 1) := by
    obtain ⟨hk, rfl⟩ := List.getElem?_eq_some_iff.mp h
    rw [← List.drop_eq_getElem_cons hk, List.take_append_drop]
  conv => rhs; rw [e]
  rw [wL_app, wL_cons]
  omega
theorem wL_take (ds : List D) (k : Nat) : wL (ds.take k) ≤ wL ds := by
  have e := wL_app (ds.take k) (ds.drop k)
  rw [List.take_append_drop] at e
  omega
theorem wL_drop (ds : List D) (k : Nat) : wL (ds.drop k) ≤ wL ds := by
  have e := wL_app (ds.take k) (ds.drop k)
  rw [List.take_append_drop] at e
  omega
theorem wL_len (ds : List D) : ds.length ≤ wL ds := by
  induction ds with
  | nil => exact Nat.zero_le _
  | cons d ds ih => rw [wL_cons, List.length_cons]; omega
theorem wL_mem {ds : List D} {d : D} (h : d ∈ ds) : wD d + 1 ≤ wL ds := by
  obtain ⟨k, e⟩ := List.getElem?_of_mem h
  have := wL_at e
  omega
/-- a value as laws draw it: of bounded worth and depth -/
structure Vok (n m : Nat) (d : D) : Prop where
  sh : shw d = true
  wt : wD d ≤ n
  dp : dD d ≤ m
theorem Vok.mono {n m n' m' : Nat} {d : D} (v : Vok n m d) (hn : n ≤ n') (hm : m ≤ m') : Vok n' m' d := ⟨v.sh, Nat.le_trans v.wt hn, Nat.le_trans v.dp hm⟩
/-- a tuple of parts -/
theorem Vok.tup {n m : Nat} {ds : List D} (hs : ∀ d ∈ ds, shw d = true) (hw : wL ds ≤ n) (hd : ∀ d ∈ ds, dD d ≤ m) : Vok n (m + 1) (.tup ds) :=
  ⟨(shwL_all ds).mpr hs, by rw [wD_tup]; exact hw, by rw [dD_tup]; have := (dL_le ds m).mpr hd; omega⟩
theorem Vok.lst {n m : Nat} {ds : List D} (hs : ∀ d ∈ ds, shw d = true) (hw : wL ds ≤ n) (hd : ∀ d ∈ ds, dD d ≤ m) : Vok n (m + 1) (.lst ds) :=
  ⟨(shwL_all ds).mpr hs, by rw [wD_lst]; exact hw, by rw [dD_lst]; have := (dL_le ds m).mpr hd; omega⟩
theorem Vok.mem {n m : Nat} {ds : List D} {x : D} (v : Vok n m (.tup ds)) (h : x ∈ ds) : Vok (n - 1) (m - 1) x := by
  have w := v.wt
  rw [wD_tup] at w
  have d := v.dp
  rw [dD_tup] at d
  have wx := wL_mem h
  have dx := (dL_le ds (dL ds)).mp (Nat.le_refl _) x h
  exact ⟨shwL_mem v.sh h, by omega, by omega⟩
/-! ### trees among data -/
def joinO : Option (List Int) → Option (List Int) → Option (List Int)
  | some a, some b => some (a ++ b)
  | _, _ => none
/-- what one part after the other of a stack comes to; f tells the leaves of an int -/
def leavesW (f : Int → Option (List Int)) : Nat → D → Option (List Int)
  | 0, _ => none
  | n + 1, d => match d with
    | .int i => f i
    | .tup [a, b] => joinO (leavesW f n a) (leavesW f n b)
    | _ => none
mutual
def cn : D → Nat
  | .tup ds => 1 + cnL ds
  | _ => 1
def cnL : List D → Nat
  | [] => 0
  | d :: ds => cn d + cnL ds
end
theorem cn_pos (d : D) : 0 < cn d := by
  cases d <;> simp only [cn] <;> omega
theorem cnL_app (a b : List D) : cnL (a ++ b) = cnL a + cnL b := by
  induction a with
  | nil => rw [List.nil_append]; simp only [cnL]; omega
  | cons d a ih => rw [List.cons_append]; simp only [cnL]; rw [ih]; omega
theorem cn_tup (ds : List D) : cn (.tup ds) = 1 + cnL ds := rfl
theorem cn_two (a b : D) : cn (.tup [a, b]) = 1 + (cn a + (cn b + 0)) := rfl
/-- more fuel than needed changes nothing -/
theorem leavesW_more (f : Int → Option (List Int)) : ∀ (n : Nat) (d : D), cn d ≤ n → leavesW f n d = leavesW f (cn d) d
  | 0, d, h => absurd (cn_pos d) (by omega)
  | n + 1, d, h => by
    have key : ∀ m : Nat, cn d ≤ m + 1 → m ≤ n → leavesW f (m + 1) d = leavesW f (n + 1) d := by
      intro m hm hmn
      cases d with
      | tup ds =>
        match ds with
        | [] => rfl
        | [a] => rfl
        | [a, b] =>
          rw [cn_two] at hm
          show joinO (leavesW f m a) (leavesW f m b) = joinO (leavesW f n a) (leavesW f n b)
          rw [leavesW_more f n a (by omega), leavesW_more f n b (by omega)]
          by_cases e : m = n
          · subst e
            rw [leavesW_more f m a (by omega), leavesW_more f m b (by omega)]
          · rw [leavesW_more f m a (by omega), leavesW_more f m b (by omega)]
        | a :: b :: c :: r => rfl
      | _ => rfl
    obtain ⟨m, e⟩ : ∃ m, cn d = m + 1 := ⟨cn d - 1, by have := cn_pos d; omega⟩
    rw [e]
    exact (key m (by omega) (by omega)).symm
def lvD (f : Int → Option (List Int)) (d : D) : Option (List Int) := leavesW f (cn d) d
theorem lvD_int (f : Int → Option (List Int)) (i : Int) : lvD f (.int i) = f i := rfl
theorem lvD_two (f : Int → Option (List Int)) (a b : D) : lvD f (.tup [a, b]) = joinO (lvD f a) (lvD f b) := by
  unfold lvD
  rw [cn_two, show 1 + (cn a + (cn b + 0)) = (cn a + cn b) + 1 by omega]
  show joinO (leavesW f (cn a + cn b) a) (leavesW f (cn a + cn b) b) = _
  rw [leavesW_more f _ a (by omega), leavesW_more f _ b (by omega)]
/-- whether a value is neither an int nor a pair -/
def noTr : D → Bool
  | .int _ => false
  | .tup ds => !decide (ds.length = 2)
  | _ => true
theorem lvD_no (f : Int → Option (List Int)) {d : D} (h : noTr d = true) : lvD f d = none := by
  unfold lvD
  obtain ⟨m, e⟩ : ∃ m, cn d = m + 1 := ⟨cn d - 1, by have := cn_pos d; omega⟩
  rw [e]
  cases d with
  | tup ds =>
    match ds, h with
    | [], _ => rfl
    | [a], _ => rfl
    | [a, b], h => cases h
    | a :: b :: c :: r, _ => rfl
  | int i => cases h
  | _ => rfl
def lvL (f : Int → Option (List Int)) : List D → Option (List Int)
  | [] => some []
  | d :: ds => joinO (lvD f d) (lvL f ds)
theorem joinO_assoc (a b c : Option (List Int)) : joinO (joinO a b) c = joinO a (joinO b c) := by
  cases a <;> cases b <;> cases c <;> first | rfl | (show some _ = some _; rw [List.append_assoc])
theorem joinO_nil (a : Option (List Int)) : joinO a (some []) = a := by
  cases a with
  | none => rfl
  | some l => show some (l ++ []) = _; rw [List.append_nil]
theorem joinO_none (a : Option (List Int)) : joinO a none = none := by cases a <;> rfl
theorem nil_joinO (a : Option (List Int)) : joinO (some []) a = a := by cases a <;> rfl
theorem lvL_app (f : Int → Option (List Int)) : ∀ a b : List D, lvL f (a ++ b) = joinO (lvL f a) (lvL f b)
  | [], b => by
    show lvL f b = joinO (some []) (lvL f b)
    rw [nil_joinO]
  | d :: a, b => by
    show joinO (lvD f d) (lvL f (a ++ b)) = joinO (joinO (lvD f d) (lvL f a)) (lvL f b)
    rw [lvL_app f a b, joinO_assoc]
theorem lvL_one (f : Int → Option (List Int)) (d : D) : lvL f [d] = lvD f d := joinO_nil _
/-- the ints of a tree, the ones from 0 to 15 -/
def anyI (i : Int) : Option (List Int) := some [i]
def fewI (i : Int) : Option (List Int) := if 0 ≤ i ∧ i ≤ 15 then some [i] else none
def goodL (l : List Int) : Bool := decide (2 ≤ l.length) && decide (l.length ≤ 16) && l.isPerm (rangeI l.length)
theorem goodL_perm {a b : List Int} (h : a.Perm b) : goodL a = goodL b := by
  have e : a.length = b.length := h.length_eq
  have q : a.isPerm (rangeI a.length) = b.isPerm (rangeI b.length) := by
    rw [e, Bool.eq_iff_iff, List.isPerm_iff, List.isPerm_iff]
    exact ⟨fun z => h.symm.trans z, fun z => h.trans z⟩
  unfold goodL
  rw [q, e]
def goodO : Option (List Int) → Bool
  | none => false
  | some l => goodL l
def resL (s : List Int) (ws : List D) : Bool := goodO (joinO (some s) (lvL anyI ws))
theorem resL_int (s : List Int) (ws : List D) (k : Int) : resL s (ws ++ [.int k]) = resL (s ++ [k]) ws := by
  unfold resL
  rw [lvL_app, lvL_one, lvD_int]
  cases lvL anyI ws with
  | none => rfl
  | some l =>
    show goodL (s ++ (l ++ [k])) = goodL (s ++ [k] ++ l)
    refine goodL_perm ?_
    rw [List.append_assoc]
    exact List.Perm.append_left s List.perm_append_comm
theorem resL_two (s : List Int) (ws : List D) (a b : D) : resL s (ws ++ [.tup [a, b]]) = resL s (ws ++ [a, b]) := by
  unfold resL
  rw [lvL_app, lvL_one, lvD_two, lvL_app]
  show _ = goodO (joinO (some s) (joinO (lvL anyI ws) (joinO (lvD anyI a) (joinO (lvD anyI b) (some [])))))
  rw [joinO_nil]
theorem resL_no (s : List Int) (ws : List D) {d : D} (h : noTr d = true) : resL s (ws ++ [d]) = false := by
  unfold resL
  rw [lvL_app, lvL_one, lvD_no _ h, joinO_none, joinO_none]
  rfl
theorem resL_nil (s : List Int) : resL s [] = goodL s := by
  show goodO (some (s ++ [])) = _
  rw [List.append_nil]
  rfl
theorem resL_many (s : List Int) (ws : List D) (h : 16 < s.length) : resL s ws = false := by
  unfold resL
  cases lvL anyI ws with
  | none => rfl
  | some l =>
    show goodL (s ++ l) = false
    unfold goodL
    rw [decide_eq_false (show ¬ (s ++ l).length ≤ 16 by rw [List.length_append]; omega), Bool.and_false, Bool.false_and]
theorem fewI_any : ∀ (n : Nat) (d : D) (l : List Int), leavesW fewI n d = some l → leavesW anyI n d = some l ∧ ∀ i ∈ l, 0 ≤ i ∧ i ≤ 15
  | 0, _, _, h => nomatch h
  | n + 1, d, l, h => by
    match d, h with
    | .int i, h =>
      by_cases e : 0 ≤ i ∧ i ≤ 15
      · have h : fewI i = some l := h
        unfold fewI at h
        rw [if_pos e] at h
        have h := Option.some.inj h
        subst h
        exact ⟨rfl, fun j hj => by rw [List.mem_singleton.mp hj]; exact e⟩
      · have h : fewI i = some l := h
        unfold fewI at h
        rw [if_neg e] at h
        cases h
    | .tup [a, b], h =>
      have h : joinO (leavesW fewI n a) (leavesW fewI n b) = some l := h
      cases ea : leavesW fewI n a with
      | none => rw [ea] at h; cases h
      | some la =>
        cases eb : leavesW fewI n b with
        | none => rw [ea, eb] at h; cases h
        | some lb =>
          rw [ea, eb] at h
          have h : some (la ++ lb) = some l := h
          have h := Option.some.inj h
          subst h
          obtain ⟨p1, p2⟩ := fewI_any n a la ea
          obtain ⟨q1, q2⟩ := fewI_any n b lb eb
          refine ⟨?_, fun i hi => (List.mem_append.mp hi).elim (p2 i) (q2 i)⟩
          show joinO (leavesW anyI n a) (leavesW anyI n b) = _
          rw [p1, q1]
          rfl
    | .tup [], h => cases h
    | .tup [_], h => cases h
    | .tup (_ :: _ :: _ :: _), h => cases h
    | .none, h => cases h
    | .bool _, h => cases h
    | .str _, h => cases h
    | .lst _, h => cases h
    | .dK _ _, h => cases h
    | .dT _ _, h => cases h
    | .ins _ _ _, h => cases h
    | .scr _, h => cases h
theorem any_few : ∀ (n : Nat) (d : D) (l : List Int), leavesW anyI n d = some l → (∀ i ∈ l, 0 ≤ i ∧ i ≤ 15) → leavesW fewI n d = some l
  | 0, _, _, h, _ => nomatch h
  | n + 1, d, l, h, hl => by
    match d, h with
    | .int i, h =>
      have h := Option.some.inj (show some [i] = some l from h)
      subst h
      show fewI i = _
      unfold fewI
      rw [if_pos (hl i (List.mem_singleton.mpr rfl))]
    | .tup [a, b], h =>
      have h : joinO (leavesW anyI n a) (leavesW anyI n b) = some l := h
      cases ea : leavesW anyI n a with
      | none => rw [ea] at h; cases h
      | some la =>
        cases eb : leavesW anyI n b with
        | none => rw [ea, eb] at h; cases h
        | some lb =>
          rw [ea, eb] at h
          have h : some (la ++ lb) = some l := h
          have h := Option.some.inj h
          subst h
          show joinO (leavesW fewI n a) (leavesW fewI n b) = _
          rw [any_few n a la ea fun i hi => hl i (List.mem_append_left _ hi), any_few n b lb eb fun i hi => hl i (List.mem_append_right _ hi)]
          rfl
    | .tup [], h => cases h
    | .tup [_], h => cases h
    | .tup (_ :: _ :: _ :: _), h => cases h
    | .none, h => cases h
    | .bool _, h => cases h
    | .str _, h => cases h
    | .lst _, h => cases h
    | .dK _ _, h => cases h
    | .dT _ _, h => cases h
    | .ins _ _ _, h => cases h
    | .scr _, h => cases h
/-- a tree, by all ints or by those from 0 to 15 -/
def treeB (d : D) : Bool := goodO (lvD fewI d)
theorem resL_tree (d : D) : resL [] [d] = treeB d := by
  unfold resL treeB
  rw [lvL_one, nil_joinO]
  cases e : lvD fewI d with
  | some l =>
    have z := (fewI_any _ d l e).1
    rw [show lvD anyI d = some l from z]
  | none =>
    cases e2 : lvD anyI d with
    | none => rfl
    | some l =>
      show goodL l = false
      by_cases g : goodL l = true
      · exfalso
        unfold goodL at g
        rw [Bool.and_eq_true, Bool.and_eq_true] at g
        have pm := List.isPerm_iff.mp g.2
        have h16 := of_decide_eq_true g.1.2
        have z := any_few _ d l e2 fun i hi => by
          have m := mem_rangeI (pm.mem_iff.mp hi)
          omega
        rw [show lvD fewI d = some l from z] at e
        cases e
      · exact Bool.eq_false_iff.mpr g
/-- the law's way: sorted == list(range(..)), more than one -/
theorem goodL_few {l : List Int} (h : ∀ i ∈ l, 0 ≤ i ∧ i ≤ 15) : goodL l = (decide (1 < l.length) && l.isPerm (rangeI l.length)) := by
  unfold goodL
  by_cases p : l.isPerm (rangeI l.length) = true
  · have pm := List.isPerm_iff.mp p
    have h16 : l.length ≤ 16 := by
      by_cases z : l.length ≤ 16
      · exact z
      · exfalso
        have m : ((l.length - 1 : Nat) : Int) ∈ rangeI l.length := List.mem_map.mpr ⟨l.length - 1, List.mem_range.mpr (by omega), rfl⟩
        have := h _ (pm.mem_iff.mpr m)
        omega
    rw [p, decide_eq_true h16, Bool.and_true, Bool.and_true, Bool.and_true]
    exact decide_eq_decide.mpr (by omega)
  · rw [Bool.eq_false_iff.mpr p, Bool.and_false, Bool.and_false]
/-- ints compared as lists -/
theorem eqv_ints (a b : List Int) : PyData.eqv (pd (.lst (a.map D.int))) (pd (.lst (b.map D.int))) = decide (a = b) := by
  simp only [pd]
  induction a generalizing b with
  | nil => cases b <;> rfl
  | cons x a ih =>
    cases b with
    | nil => rfl
    | cons y b =>
      show ((x == y) && PyData.eqv (.list (pdL (a.map D.int))) (.list (pdL (b.map D.int)))) = _
      rw [ih b]
      by_cases e : x = y
      · subst e
        rw [show (x == x) = true from beq_self_eq_true x, Bool.true_and]
        exact decide_eq_decide.mpr ⟨fun h => by rw [h], fun h => (List.cons.inj h).2⟩
      · rw [show (x == y) = false from beq_eq_false_iff_ne.mpr e, Bool.false_and, decide_eq_false (fun h => e (List.cons.inj h).1)]
theorem rangeI_sorted (n : Nat) : (rangeI n).Pairwise (· ≤ ·) := by
  unfold rangeI
  exact List.pairwise_map.mpr ((List.pairwise_lt_range (n := n)).imp fun h => by omega)
theorem sort_range {l : List Int} : ∃ s : List Int, s.Perm l ∧ s.Pairwise (· ≤ ·) ∧ decide (s = rangeI l.length) = l.isPerm (rangeI l.length) := by
  have pm := List.mergeSort_perm l (fun a b => decide (a ≤ b))
  have sd : (l.mergeSort (fun a b => decide (a ≤ b))).Pairwise (· ≤ ·) := by
    have z := List.pairwise_mergeSort (le := fun a b : Int => decide (a ≤ b)) (fun a b c h1 h2 => decide_eq_true (Int.le_trans (of_decide_eq_true h1) (of_decide_eq_true h2)))
      (fun a b => by rw [Bool.or_eq_true, decide_eq_true_eq, decide_eq_true_eq]; exact Int.le_total a b) l
    exact z.imp fun h => of_decide_eq_true h
  refine ⟨_, pm, sd, ?_⟩
  rw [Bool.eq_iff_iff, decide_eq_true_eq, List.isPerm_iff]
  refine ⟨fun e => by rw [← e]; exact pm.symm, fun p => ?_⟩
  exact (pm.trans p).eq_of_pairwise (fun a b _ _ h1 h2 => Int.le_antisymm h1 h2) sd (rangeI_sorted _)
end Lin

end

section
namespace Lin
open PySem PySem.Spec PyProof.Rows L2
section
variable {X : Cx} {env env1 env2 : Sls} {a b e : Expr} {d x y : D} {pos p apos cpos : Pos} {k : Key} {n : Str} {s : Sl} {ms : List M}
/-- x.clear() of an owned list -/
theorem ev_clear (i : Nat) (hi : env[i]? = some (some s)) (hm : s.m = .lst ms) (hN : X.N[i]? = some n := by rfl) (hv : Vis X.env.scope n := by first | exact Or.inl rfl | exact Or.inr (Or.inl rfl) | exact Or.inr (Or.inr rfl)) (hd : (n == ("__debug__" : Str)) = false := by decide) (hcd : (n == ("__classdict__" : Str)) = false := by decide)
    (hbase : attributeBase (.Name n p) "clear" X.env (eval (.Name n p) X.env) = eval (.Name n p) X.env := by rfl) (hline : (apos.endLine == cpos.line) = true := by rfl) : Ev X (.Call (.Attribute (.Name n p) "clear" apos) [] [] cpos) env (.val .none) (env.set i (some (s.put (.lst [])))) :=
  ⟨Io.put hi, fun O H σ F r w Q q => ⟨_, pe_bm0 PySem.F.plainAttrs_list PySem.F.slot_list_clear PySem.F.type_list_clear mt_clear (pe_var hN hv hd hcd) hbase hline, by
    have w2 : Wf O H ([] ++ F) := w
    obtain ⟨v, Fi, e1, rm, kk⟩ := slot_upd r hi w2
    rw [hm] at rm
    obtain ⟨l, xs, F', el, ef, hp, rl⟩ := rm
    obtain ⟨ol, nl, k2⟩ := kk l F' ef
    obtain ⟨F2', rs2, s2, _⟩ := k2 (.lst []) (.lst []) [] [] F' (by simp) ⟨l, [], [], el, rfl, upd_same, rfl, rfl⟩
    exact ⟨v, e1, by rw [el]; exact .inl ⟨rfl, _, .inl (.inl hp)⟩, l, xs, el, rfl, hp, q O _ .non [] F2' ⟨rfl, rfl⟩ rs2 s2⟩⟩⟩
end
theorem d_kind (d : D) : (∃ k, d = .int k) ∨ (∃ a b, d = .tup [a, b]) ∨ (∃ ds, d = .tup ds ∧ ds.length ≠ 2) ∨ (kT d = false ∧ isI d = false) := by
  cases d with
  | int k => exact .inl ⟨k, rfl⟩
  | tup ds =>
    match ds with
    | [] => exact .inr (.inr (.inl ⟨_, rfl, by simp⟩))
    | [a] => exact .inr (.inr (.inl ⟨_, rfl, by simp⟩))
    | [a, b] => exact .inr (.inl ⟨a, b, rfl⟩)
    | a :: b :: c :: r => exact .inr (.inr (.inl ⟨_, rfl, by simp⟩))
  | _ => exact .inr (.inr (.inr ⟨rfl, rfl⟩))
theorem noTr_tup {ds : List D} (h : ds.length ≠ 2) : noTr (.tup ds) = true := by
  show (!decide (ds.length = 2)) = true
  rw [decide_eq_false h]
  rfl
theorem noTr_other {d : D} (h : kT d = false) (g : isI d = false) : noTr d = true := by
  cases d <;> first | rfl | (cases h; done) | (cases g; done)
theorem noTr_tup2 {d : D} (h : noTr d = true) (g : kT d = true) : ∃ ds, d = .tup ds ∧ ds.length ≠ 2 := by
  cases d with
  | tup ds => exact ⟨ds, rfl, fun e => by rw [show noTr (.tup ds) = !decide (ds.length = 2) from rfl, decide_eq_true e] at h; cases h⟩
  | _ => cases g
/-- a list of ints or nothing -/
def optM : Option (List Int) → M
  | none => .val .none
  | some l => .lst (l.map fun i => .val (.int i))
def optD : Option (List Int) → D
  | none => .none
  | some l => .lst (l.map D.int)
theorem frz_opt (o : Option (List Int)) : frz (optM o) = optD o := by
  cases o with
  | none => rfl
  | some l => exact frz_ints l
theorem non_opt (o : Option (List Int)) : isNon (optD o) = o.isNone := by cases o <;> rfl
/-- an int within bounds -/
def btw (lo hi : Int) : D → Bool
  | .int i => decide (lo ≤ i) && decide (i ≤ hi)
  | _ => false
theorem btw_few (d : D) : btw 0 15 d = true → ∃ i, d = .int i ∧ fewI i = some [i] := by
  intro h
  cases d with
  | int i =>
    have h := Bool.and_eq_true_iff.mp (show (decide (0 ≤ i) && decide (i ≤ 15)) = true from h)
    exact ⟨i, rfl, if_pos ⟨of_decide_eq_true h.1, of_decide_eq_true h.2⟩⟩
  | _ => cases h
theorem btw_not {i : Int} (h : btw 0 15 (.int i) = false) : fewI i = none := by
  refine if_neg fun z => ?_
  have e : btw 0 15 (.int i) = true := by
    show (decide (0 ≤ i) && decide (i ≤ 15)) = true
    rw [decide_eq_true z.1, decide_eq_true z.2]
    rfl
  rw [e] at h
  cases h
theorem cnL_len : ∀ ds : List D, ds.length ≤ cnL ds
  | [] => Nat.zero_le _
  | d :: ds => by
    have := cnL_len ds
    have := cn_pos d
    simp only [cnL, List.length_cons]
    omega
mutual
theorem cn_le : ∀ d : D, cn d ≤ wD d + 1
  | .tup ds => by
    have := cnL_le ds
    rw [wD_tup, cn_tup]
    omega
  | .none => by show 1 ≤ _; omega
  | .bool _ => by show 1 ≤ _; omega
  | .int _ => by show 1 ≤ _; omega
  | .str _ => by show 1 ≤ _; omega
  | .lst _ => by show 1 ≤ _; omega
  | .dK _ _ => by show 1 ≤ _; omega
  | .dT _ _ => by show 1 ≤ _; omega
  | .ins _ _ _ => by show 1 ≤ _; omega
  | .scr _ => by show 1 ≤ _; omega
theorem cnL_le : ∀ ds : List D, cnL ds ≤ wL ds
  | [] => Nat.zero_le _
  | d :: ds => by
    have := cn_le d
    have := cnL_le ds
    rw [wL_cons]
    show cn d + cnL ds ≤ _
    omega
end
theorem lv_len : ∀ (n : Nat) (d : D) (l : List Int), leavesW fewI n d = some l → l.length ≤ cn d
  | 0, _, _, h => nomatch h
  | n + 1, d, l, h => by
    rcases d_kind d with ⟨k, rfl⟩ | ⟨a, b, rfl⟩ | ⟨ds, rfl, hl⟩ | ⟨k1, k2⟩
    · have z := (fewI_any (n + 1) (.int k) l h).1
      have z : some [k] = some l := z
      rw [← Option.some.inj z]
      exact Nat.le_refl 1
    · have h : joinO (leavesW fewI n a) (leavesW fewI n b) = some l := h
      cases ea : leavesW fewI n a with
      | none => rw [ea] at h; cases h
      | some la =>
        cases eb : leavesW fewI n b with
        | none => rw [ea, eb] at h; cases h
        | some lb =>
          rw [ea, eb] at h
          have h : some (la ++ lb) = some l := h
          rw [← Option.some.inj h, List.length_append, cn_two]
          have := lv_len n a la ea
          have := lv_len n b lb eb
          omega
    · match ds, hl, h with
      | [], _, h => cases h
      | [_], _, h => cases h
      | [_, _], hl, _ => exact absurd rfl hl
      | _ :: _ :: _ :: _, _, h => cases h
    · cases d <;> first | (cases h; done) | (cases k1; done) | (cases k2; done)
theorem lvD_len {d : D} {l : List Int} (h : lvD fewI d = some l) : l.length ≤ cn d := lv_len _ d l h
theorem lvD_few {d : D} {l : List Int} (h : lvD fewI d = some l) : ∀ i ∈ l, 0 ≤ i ∧ i ≤ 15 := (fewI_any _ d l h).2
end Lin

end

section
namespace Lin
open PySem PySem.Spec PyProof.Rows L2
/-! ### values bent: parts replaced, left out, put in, turned -/
section
variable {wt n C : Nat} {ds : List D} {x y : D} {k : Nat}
/-- a tuple of parts of a drawn one -/
theorem Vok.of {es : List D} (hd : Vok wt n (.tup ds)) (hm : ∀ z ∈ es, z ∈ ds) (hw : wL es ≤ 2 * wL ds + C) : Vok (2 * wt + C) (n + 2) (.tup es) := by
  have w := hd.wt
  have d := hd.dp
  rw [wD_tup] at w
  rw [dD_tup] at d
  have s := (shwL_all ds).mp hd.sh
  have dd := (dL_le ds (n - 1)).mp (by omega)
  refine (Vok.tup (n := 2 * wt + C) (m := n + 1) (fun z hz => s z (hm z hz)) (by omega) fun z hz => ?_)
  have := dd z (hm z hz)
  omega
theorem Vok.asL (hd : Vok wt n (.tup ds)) : Vok (2 * wt + C) (n + 2) (.lst ds) := by
  have w := hd.wt
  have d := hd.dp
  rw [wD_tup] at w
  rw [dD_tup] at d
  exact ⟨hd.sh, by rw [wD_lst]; omega, by rw [dD_lst]; omega⟩
theorem Vok.out (hd : Vok wt n (.tup ds)) : Vok (2 * wt + C) (n + 2) (.tup (ds.take k ++ ds.drop (k + 1))) :=
  hd.of (fun z hz => (List.mem_append.mp hz).elim List.mem_of_mem_take List.mem_of_mem_drop) (by
    have a := wL_take ds k
    have b := wL_drop ds (k + 1)
    rw [wL_app]
    omega)
theorem Vok.dup (hd : Vok wt n (.tup ds)) (hx : ds[k]? = some x) : Vok (2 * wt + C) (n + 2) (.tup (ds.take k ++ [x] ++ ds.drop k)) :=
  hd.of (fun z hz => by
    simp only [List.mem_append, List.mem_cons, List.not_mem_nil, or_false] at hz
    rcases hz with (hz | hz) | hz
    · exact List.mem_of_mem_take hz
    · rw [hz]; exact List.mem_of_getElem? hx
    · exact List.mem_of_mem_drop hz) (by
    have e := wL_app (ds.take k) (ds.drop k)
    rw [List.take_append_drop] at e
    have m := wL_mem (List.mem_of_getElem? hx)
    rw [wL_app, wL_app, wL_cons, wL_nil]
    omega)
theorem Vok.rev (hd : Vok wt n (.tup ds)) : Vok (2 * wt + C) (n + 2) (.tup ds.reverse) :=
  hd.of (fun z hz => List.mem_reverse.mp hz) (by rw [wL_rev]; omega)
theorem Vok.more (hd : Vok wt n (.tup ds)) (j : Nat) : Vok (2 * wt + C) (n + 2) (.tup (ds ++ ds.take j)) :=
  hd.of (fun z hz => (List.mem_append.mp hz).elim id List.mem_of_mem_take) (by
    have a := wL_take ds j
    rw [wL_app]
    omega)
theorem Vok.part (hd : Vok wt n (.tup ds)) (hx : ds[k]? = some x) (vy : Vok (2 * wD x + C) (n + 1) y) : Vok (2 * wt + C) (n + 2) (.tup (ds.take k ++ [y] ++ ds.drop (k + 1))) := by
  have w := hd.wt
  have d := hd.dp
  rw [wD_tup] at w
  rw [dD_tup] at d
  have s := (shwL_all ds).mp hd.sh
  have dd := (dL_le ds (n - 1)).mp (by omega)
  have wx := wL_at hx
  have wy := vy.wt
  have cases3 : ∀ z ∈ ds.take k ++ [y] ++ ds.drop (k + 1), z ∈ ds ∨ z = y := fun z hz => by
    simp only [List.mem_append, List.mem_cons, List.not_mem_nil, or_false] at hz
    rcases hz with (hz | hz) | hz
    · exact .inl (List.mem_of_mem_take hz)
    · exact .inr hz
    · exact .inl (List.mem_of_mem_drop hz)
  refine Vok.tup (n := 2 * wt + C) (m := n + 1) (fun z hz => ?_) (by rw [wL_app, wL_app, wL_cons, wL_nil]; omega) (fun z hz => ?_)
  · rcases cases3 z hz with q | q
    · exact s z q
    · rw [q]; exact vy.sh
  · rcases cases3 z hz with q | q
    · have := dd z q
      omega
    · rw [q]; exact vy.dp
/-- a part stands no deeper than its tuple less one -/
theorem Vok.at (hd : Vok wt n (.tup ds)) (hx : ds[k]? = some x) : Vok (wD x) (n - 1) x ∧ 1 ≤ n ∧ wD x + 1 ≤ wt ∧ ds.length ≤ wt := by
  have w := hd.wt
  have d := hd.dp
  rw [wD_tup] at w
  rw [dD_tup] at d
  have m := List.mem_of_getElem? hx
  have wm := wL_mem m
  have wl := wL_len ds
  exact ⟨⟨(shwL_all ds).mp hd.sh x m, Nat.le_refl _, (dL_le ds (n - 1)).mp (by omega) x m⟩, by omega, by omega, by omega⟩
end
end Lin

end

section
namespace Lin
open PySem PySem.Spec PyProof.Rows L2
theorem top_room (N : List Str) (x : Str) (sc : Scope) (s : Shared) (f : Addr) (cdv : Value) : Room 60 (callerA.deeper (envOfC x sc s.heap.objs.size f cdv)) := Room.deeper (k := 60) ⟨rfl, by decide, by decide⟩ _
/-- what holds of calls anywhere holds at the top -/
theorem In0.top {P : Program} {w : World} {K : PySem.W.Frag} {mg : Str → Option Value} {base : Heap} {N : List Str} {st : Stmt} {k : Nat} {Goal : Cx → Prop} (h : In0 P w K mg base N "law" st k Goal) (hk : k ≤ 60) : Top0 P w K mg base N st Goal :=
  fun f cdv s H E => h f cdv callerA [] s H E ((top_room N "law" (defScope st) s f cdv).mono hk)
theorem sameL_all {ds : List D} (h : ∀ d ∈ ds, sameOk d = true) : sameOkL ds = true := by
  induction ds with
  | nil => rfl
  | cons d ds ih =>
    show (sameOk d && sameOkL ds) = true
    rw [h d (List.mem_cons_self ..), ih fun x hx => h x (List.mem_cons_of_mem _ hx)]
    rfl
theorem same_lst {ds : List D} (h : ∀ d ∈ ds, sameOk d = true) (hl : ds.length ≤ 1000000) : sameOk (.lst ds) = true := by
  show (sameOkL ds && decide (ds.length ≤ 1000000)) = true
  rw [sameL_all h, decide_eq_true hl]
  rfl
theorem same_tup {ds : List D} (h : ∀ d ∈ ds, sameOk d = true) (hl : ds.length ≤ 1000000) : sameOk (.tup ds) = true := same_lst h hl
theorem depL_le {ds : List D} {n : Nat} (h : ∀ d ∈ ds, dep d ≤ n) : depL ds ≤ n := by
  induction ds with
  | nil => exact Nat.zero_le _
  | cons d ds ih =>
    show max (dep d) (depL ds) ≤ n
    exact Nat.max_le.mpr ⟨h d (List.mem_cons_self ..), ih fun x hx => h x (List.mem_cons_of_mem _ hx)⟩
theorem pt_same (p : Pt) : sameOk p.d = true ∧ dep p.d = 1 := by
  cases p with
  | side n => exact ⟨same_tup (fun x hx => by
      simp only [List.mem_cons, List.not_mem_nil, or_false] at hx
      rcases hx with rfl | rfl
      · exact (by decide +kernel : sameOk (.str strSide) = true)
      · rfl) (by simp), rfl⟩
  | mtch k => exact ⟨same_tup (fun x hx => by
      simp only [List.mem_cons, List.not_mem_nil, or_false] at hx
      rcases hx with rfl | rfl
      · exact (by decide +kernel : sameOk (.str strMatch) = true)
      · rfl) (by simp), rfl⟩
theorem prs_same (f : Prs) (hl : f.length ≤ 1000000) : sameOk (.lst (f.map prD)) = true ∧ dep (.lst (f.map prD)) ≤ 3 := by
  refine ⟨same_lst (fun d hd => ?_) (by rw [List.length_map]; exact hl), ?_⟩
  · obtain ⟨p, _, rfl⟩ := List.mem_map.mp hd
    exact same_tup (fun x hx => by
      simp only [List.mem_cons, List.not_mem_nil, or_false] at hx
      rcases hx with rfl | rfl
      · exact (pt_same _).1
      · exact (pt_same _).1) (by simp)
  · have z : depL (f.map prD) ≤ 2 := depL_le fun d hd => by
      obtain ⟨p, _, rfl⟩ := List.mem_map.mp hd
      show max (dep p.1.d) (max (dep p.2.d) 0) + 1 ≤ 2
      rw [(pt_same p.1).2, (pt_same p.2).2]
      decide
    show depL (f.map prD) + 1 ≤ 3
    omega
theorem sds_same (f : Sds) (hl : f.length ≤ 1000000) (hs : ∀ l ∈ f, l.length ≤ 1000000) : sameOk (.lst (f.map sdD)) = true ∧ dep (.lst (f.map sdD)) ≤ 2 := by
  refine ⟨same_lst (fun d hd => ?_) (by rw [List.length_map]; exact hl), ?_⟩
  · obtain ⟨l, m, rfl⟩ := List.mem_map.mp hd
    exact same_tup (fun x hx => by obtain ⟨i, _, rfl⟩ := List.mem_map.mp hx; rfl) (by rw [List.length_map]; exact hs l m)
  · have z : depL (f.map sdD) ≤ 1 := depL_le fun d hd => by
      obtain ⟨p, _, rfl⟩ := List.mem_map.mp hd
      show depL (p.map D.int) + 1 ≤ 1
      rw [depL_ints]
      decide
    show depL (f.map sdD) + 1 ≤ 2
    omega
theorem int_ok {i : Int} (h0 : 0 ≤ i) (h1 : i ≤ 1000) : Vok 10 0 (.int i) := by
  refine ⟨decide_eq_true (Nat.lt_of_le_of_lt (show i.natAbs ≤ 1000 by omega) (by decide +kernel)), ?_, Nat.le_refl 0⟩
  show (if i == 0 then 0 else i.natAbs.log2 + 1) ≤ 10
  split
  · omega
  · rename_i z
    have : i.natAbs ≠ 0 := fun e => z (by simp; omega)
    have := (Nat.log2_lt this (k := 10)).mpr (by omega)
    omega
theorem tr_wt : ∀ t : Tr, (∀ x ∈ t.leaves, 0 ≤ x ∧ x ≤ 1000) → shw t.d = true ∧ wD t.d + 2 ≤ 12 * t.leaves.length ∧ dD t.d + 1 ≤ t.leaves.length
  | .leaf n, h => by
    obtain ⟨a, b⟩ := h n (List.mem_singleton.mpr rfl)
    have z := int_ok a b
    have w := z.wt
    exact ⟨z.sh, by show wD (.int n) + 2 ≤ 12 * 1; omega, by show 0 + 1 ≤ 1; omega⟩
  | .node l r, h => by
    obtain ⟨s1, w1, d1⟩ := tr_wt l fun x hx => h x (List.mem_append_left _ hx)
    obtain ⟨s2, w2, d2⟩ := tr_wt r fun x hx => h x (List.mem_append_right _ hx)
    have e : (Tr.node l r).leaves.length = l.leaves.length + r.leaves.length := List.length_append ..
    rw [e]
    refine ⟨?_, ?_, ?_⟩
    · show (shw l.d && (shw r.d && true)) = true
      rw [s1, s2]
      rfl
    · show wD (.tup [l.d, r.d]) + 2 ≤ _
      rw [wD_tup, wL_cons, wL_cons, wL_nil]
      omega
    · show dD (.tup [l.d, r.d]) + 1 ≤ _
      rw [dD_tup, dL_cons, dL_cons, dL_nil]
      omega
theorem tr_ok (t : Tr) (h : ∀ x ∈ t.leaves, 0 ≤ x ∧ x ≤ 1000) : Vok (12 * t.leaves.length) t.leaves.length t.d := by
  obtain ⟨a, b, c⟩ := tr_wt t h
  exact ⟨a, by omega, by omega⟩
def biR : Expr → Expr
  | .BinOp _ _ b _ => b
  | _ => .Constant .none 0 ⟨0, 0, 0, 0⟩
def ifS : Stmt → List Stmt
  | .If _ s _ _ => s
  | _ => []
end Lin

end

section
namespace Lin
open PySem PySem.Spec PySem.Calls PyProof.Rows L2
/-! ### any value as an ending -/
def resOk (rs : Rs) (k : Nat) (v : Int) : Bool := match lookR rs k with
  | none => true
  | some x => decide (v = x)
def stepB (rs : Rs) (e : List Int) (k : Nat) (p : Pt × Pt) : Bool := decide (e.getD k 0 ∈ [sideE e p.1, sideE e p.2]) && resOk rs k (e.getD k 0)
def endB (f : Prs) (rs : Rs) (e : List Int) : Bool := (f.zipIdx 0).all fun p => stepB rs e p.2 p.1
def iv : D → Int
  | .int i => i
  | _ => 0
def endD (f : Prs) (rs : Rs) : D → Bool
  | .tup ds => decide (ds.length = f.length) && ds.all isI && endB f rs (ds.map iv)
  | _ => false
theorem ints_of {ds : List D} (h : ds.all isI = true) : ds = (ds.map iv).map D.int := by
  induction ds with
  | nil => rfl
  | cons d ds ih =>
    rw [List.all_cons, Bool.and_eq_true] at h
    rw [List.map_cons, List.map_cons, ← ih h.2]
    cases d with
    | int i => rfl
    | _ => exact nomatch h.1
theorem isI_ints (e : List Int) : (e.map D.int).all isI = true := by
  induction e with
  | nil => rfl
  | cons x e ih => exact ih
theorem iv_ints (e : List Int) : (e.map D.int).map iv = e := by
  rw [List.map_map]
  exact List.map_id' e
theorem endB_iff {f : Prs} {rs : Rs} {e : List Int} (hl : e.length = f.length) : endB f rs e = true ↔ EndOk f e ∧ ∀ k v, k < f.length → lookR rs k = some v → e.getD k 0 = v := by
  unfold endB
  rw [List.all_eq_true]
  constructor
  · intro h
    have at1 : ∀ k p, f[k]? = some p → stepB rs e k p = true := fun k p hp => h (p, k) (List.mem_zipIdx_iff_getElem?.mpr hp)
    refine ⟨⟨hl, fun k p hp => ?_⟩, fun k v hk hv => ?_⟩
    · have z := (Bool.and_eq_true_iff.mp (at1 k p hp)).1
      have z := of_decide_eq_true z
      simpa using z
    · have z := (Bool.and_eq_true_iff.mp (at1 k _ (List.getElem?_eq_getElem hk))).2
      unfold resOk at z
      rw [hv] at z
      exact of_decide_eq_true z
  · rintro ⟨h1, h2⟩ ⟨p, k⟩ hm
    have hp : f[k]? = some p := List.mem_zipIdx_iff_getElem?.mp hm
    have hk : k < f.length := (List.getElem?_eq_some_iff.mp hp).1
    show (decide (e.getD k 0 ∈ [sideE e p.1, sideE e p.2]) && resOk rs k (e.getD k 0)) = true
    rw [Bool.and_eq_true]
    refine ⟨decide_eq_true (by simpa using h1.ok k p hp), ?_⟩
    unfold resOk
    cases hv : lookR rs k with
    | none => rfl
    | some v => exact decide_eq_true (h2 k v hk hv)
/-- an ending's names are sides of their matches -/
theorem end_in {f : Prs} (ok : OkF f) {e : List Int} (h : ∀ k p, f[k]? = some p → e.getD k 0 = sideE e p.1 ∨ e.getD k 0 = sideE e p.2) : ∀ (k : Nat), k < f.length → e.getD k 0 ∈ (sdsOf f).getD k [] := by
  intro k
  induction k using Nat.strongRecOn with
  | ind k ih =>
    intro hk
    have hp : f[k]? = some f[k] := List.getElem?_eq_getElem hk
    obtain ⟨o1, o2⟩ := ok k _ hp
    have part : ∀ q : Pt, OkPt k q → sideE e q ∈ ptS (sdsOf f) q := fun q oq => by
      cases q with
      | side n => exact List.mem_singleton.mpr rfl
      | mtch j =>
        have oq : j < k := oq
        exact ih j oq (by omega)
    refine part_in ok hp ?_
    rcases h k _ hp with e1 | e1
    · rw [e1]; exact .inl (part _ o1)
    · rw [e1]; exact .inr (part _ o2)
/-- the sides of a match are apart -/
theorem noted_nd : ∀ (t : Tr) (f : Prs), t.leaves.Nodup → ∀ i x, f.length ≤ i → (sdsOf (note t f).2)[i]? = some x → x.Nodup
  | .leaf n, f, _, i, x, hi, hx => by
    have e : i < (sdsOf f).length := (List.getElem?_eq_some_iff.mp hx).1
    rw [sdsOf_len] at e
    omega
  | .node l r, f, hn, i, x, hi, hx => by
    have hn : (l.leaves ++ r.leaves).Nodup := hn
    have nl : l.leaves.Nodup := (List.nodup_append.mp hn).1
    have nr : r.leaves.Nodup := (List.nodup_append.mp hn).2.1
    have al := noted_nd l f nl
    have ar := noted_nd r (note l f).2 nr
    have hl := noted l f
    have hr := noted r (note l f).2
    generalize ea : note l f = a at *
    generalize eb : note r a.2 = b at *
    obtain ⟨pa, fa⟩ := a
    obtain ⟨pb, fb⟩ := b
    obtain ⟨gb, egb⟩ := hr.pre
    simp only at egb hr eb al ar
    have en : note (.node l r) f = (.mtch fb.length, fb ++ [(pa, pb)]) := by simp only [note, ea, eb]
    rw [en] at hx
    have pab : sdsOf fa <+: sdsOf fb := by rw [egb]; exact sdsOf_pre fa gb
    have oa : OkPt fa.length pa := hl.pt
    have e1 : ptS (sdsOf fb) pa = ptS (sdsOf fa) pa := ptS_pre pab (by rw [sdsOf_len]; exact oa)
    have last : sdsOf (fb ++ [(pa, pb)]) = sdsOf fb ++ [isort (ptS (sdsOf fb) pa ++ ptS (sdsOf fb) pb)] := sdsOf_snoc fb (pa, pb)
    have pml : (ptS (sdsOf fb) pa ++ ptS (sdsOf fb) pb).Perm (l.leaves ++ r.leaves) := by
      rw [e1]
      exact hl.lv.append hr.lv
    rw [last] at hx
    by_cases hi2 : i < fb.length
    · rw [List.getElem?_append_left (by rw [sdsOf_len]; exact hi2)] at hx
      by_cases hi3 : i < fa.length
      · obtain ⟨c, ec⟩ := pab
        rw [← ec, List.getElem?_append_left (by rw [sdsOf_len]; exact hi3)] at hx
        exact al i x hi hx
      · exact ar i x (by show fa.length ≤ i; omega) hx
    · have hi4 : i < (sdsOf fb ++ [isort (ptS (sdsOf fb) pa ++ ptS (sdsOf fb) pb)]).length := (List.getElem?_eq_some_iff.mp hx).1
      rw [List.length_append, List.length_cons, List.length_nil, sdsOf_len] at hi4
      have e : i = fb.length := by omega
      subst e
      rw [List.getElem?_append_right (by rw [sdsOf_len]; exact Nat.le_refl _), sdsOf_len, Nat.sub_self] at hx
      have ex : isort (ptS (sdsOf fb) pa ++ ptS (sdsOf fb) pb) = x := by simpa using hx
      rw [← ex]
      exact ((isort_perm _).trans pml).nodup_iff.mpr hn
theorem parts_apart {t : Tr} (hn : t.leaves.Nodup) {k : Nat} {p : Pt × Pt} (hp : (note t []).2[k]? = some p) {a b : Int} (ha : a ∈ ptS (sdsOf (note t []).2) p.1) (hb : b ∈ ptS (sdsOf (note t []).2) p.2) : a ≠ b := by
  have okf : OkF (note t []).2 := (noted t []).ok fun i p z => by simp at z
  have z := noted_nd t [] hn k _ (Nat.zero_le _) (sds_at okf hp)
  have z := (isort_perm _).nodup_iff.mp z
  exact fun e => (List.nodup_append.mp z).2.2 a ha b hb e
theorem rangeI_nodup (n : Nat) : (rangeI n).Nodup := by
  unfold rangeI
  exact List.pairwise_map.mpr ((List.pairwise_lt_range (n := n)).imp fun h => by omega)
/-! ### all endings, grown match by match -/
def growE (rs : Rs) (k : Nat) (p : Pt × Pt) (e : List Int) : List (List Int) := ([sideE e p.1, sideE e p.2].filter fun s => resOk rs k s).map fun s => e ++ [s]
def allE (rs : Rs) (f : Prs) : List (List Int) := (f.zipIdx 0).foldl (fun es p => es.flatMap (growE rs p.2 p.1)) [[]]
/-- what is grown so far -/
structure Part (f : Prs) (rs : Rs) (n : Nat) (e : List Int) : Prop where
  len : e.length = n
  ins : ∀ k, k < n → e.getD k 0 ∈ (sdsOf f).getD k []
  ag : ∀ k v, k < n → lookR rs k = some v → e.getD k 0 = v
theorem Part.side {f : Prs} {rs : Rs} {n : Nat} {e : List Int} (h : Part f rs n e) : ∀ {q : Pt}, OkPt n q → sideE e q ∈ ptS (sdsOf f) q
  | .side _, _ => List.mem_singleton.mpr rfl
  | .mtch j, o => h.ins j o
theorem Part.snoc {f : Prs} {rs : Rs} {n : Nat} {e : List Int} (h : Part f rs n e) {v : Int} (hv : v ∈ (sdsOf f).getD n []) (hr : resOk rs n v = true) : Part f rs (n + 1) (e ++ [v]) := by
  have old : ∀ k, k < n → (e ++ [v]).getD k 0 = e.getD k 0 := fun k hk => by rw [List.getD_eq_getElem?_getD, List.getD_eq_getElem?_getD, List.getElem?_append_left (by rw [h.len]; exact hk)]
  have new : (e ++ [v]).getD n 0 = v := by rw [List.getD_eq_getElem?_getD, List.getElem?_append_right (by rw [h.len]; exact Nat.le_refl _), h.len, Nat.sub_self]; rfl
  refine ⟨by rw [List.length_append, h.len]; rfl, fun k hk => ?_, fun k x hk hx => ?_⟩
  · by_cases e1 : k < n
    · rw [old k e1]; exact h.ins k e1
    · have e2 : k = n := by omega
      subst e2
      rw [new]; exact hv
  · by_cases e1 : k < n
    · rw [old k e1]; exact h.ag k x e1 hx
    · have e2 : k = n := by omega
      subst e2
      rw [new]
      unfold resOk at hr
      rw [hx] at hr
      exact of_decide_eq_true hr
theorem grow_one {t : Tr} (hn : t.leaves.Nodup) {rs : Rs} (g : Grow (note t []).2 rs) {k : Nat} {p : Pt × Pt} (hp : (note t []).2[k]? = some p) {e : List Int} (h : Part (note t []).2 rs k e) :
    (growE rs k p e).length = (if (lookR rs k).isSome then 1 else 2) ∧ ∀ x ∈ growE rs k p e, Part (note t []).2 rs (k + 1) x := by
  have okf : OkF (note t []).2 := (noted t []).ok fun i p z => by simp at z
  obtain ⟨o1, o2⟩ := okf k p hp
  have a1 := h.side o1
  have a2 := h.side o2
  have ne := parts_apart hn hp a1 a2
  refine ⟨?_, fun x hx => ?_⟩
  · unfold growE
    rw [List.length_map]
    cases hv : lookR rs k with
    | none =>
      have r : ∀ v, resOk rs k v = true := fun v => by unfold resOk; rw [hv]
      simp [r]
    | some v =>
      have r : ∀ s, resOk rs k s = decide (s = v) := fun s => by unfold resOk; rw [hv]
      obtain ⟨q, a, b, hq, ha, hb, hab⟩ := g.ok k v (lookR_some hv)
      rw [hp] at hq
      cases hq
      have part : ∀ {q : Pt} {c : Int}, OkPt k q → sideW (lookR rs) q = some c → sideE e q = c := fun {q c} oq e1 => by
        cases q with
        | side n => exact Option.some.inj e1
        | mtch j => exact h.ag j c oq e1
      have ea := part o1 ha
      have eb := part o2 hb
      rw [ea, eb] at ne ⊢
      rcases hab with rfl | rfl
      · simp [r, Ne.symm ne]
      · simp [r, ne]
  · unfold growE at hx
    obtain ⟨s, hs, rfl⟩ := List.mem_map.mp hx
    obtain ⟨hs, hr⟩ := List.mem_filter.mp hs
    refine h.snoc (part_in okf hp ?_) hr
    simp only [List.mem_cons, List.not_mem_nil, or_false] at hs
    rcases hs with rfl | rfl
    · exact .inl a1
    · exact .inr a2
/-- how many matches below n have a name -/
def named (rs : Rs) : Nat → Nat
  | 0 => 0
  | n + 1 => named rs n + if (lookR rs n).isSome then 1 else 0
theorem named_le (rs : Rs) : ∀ n, named rs n ≤ n
  | 0 => Nat.le_refl _
  | n + 1 => by
    have := named_le rs n
    show named rs n + _ ≤ n + 1
    split <;> omega
theorem flat_len {α β : Type} (g : α → List β) (c : Nat) : ∀ (as : List α), (∀ a ∈ as, (g a).length = c) → (as.flatMap g).length = as.length * c
  | [], _ => by simp
  | a :: as, h => by
    rw [List.flatMap_cons, List.length_append, h a (List.mem_cons_self ..), flat_len g c as fun x hx => h x (List.mem_cons_of_mem _ hx), List.length_cons, Nat.add_mul, Nat.one_mul, Nat.add_comm]
theorem all_grown {t : Tr} (hn : t.leaves.Nodup) {rs : Rs} (g : Grow (note t []).2 rs) : ∀ (as pre : Prs) (es : List (List Int)), pre ++ as = (note t []).2 → (∀ e ∈ es, Part (note t []).2 rs pre.length e) → es.length = 2 ^ (pre.length - named rs pre.length) →
    ((as.zipIdx pre.length).foldl (fun es p => es.flatMap (growE rs p.2 p.1)) es).length = 2 ^ ((note t []).2.length - named rs (note t []).2.length)
  | [], pre, es, e, _, hl => by
    rw [List.append_nil] at e
    rw [← e]
    exact hl
  | p :: as, pre, es, e, hp, hl => by
    have hat : (note t []).2[pre.length]? = some p := by rw [← e, List.getElem?_append_right (Nat.le_refl _), Nat.sub_self]; rfl
    have z := all_grown hn g as (pre ++ [p]) (es.flatMap (growE rs pre.length p)) (by rw [List.append_assoc]; exact e) (fun x hx => by
      obtain ⟨y, hy, hx⟩ := List.mem_flatMap.mp hx
      rw [List.length_append]
      exact (grow_one hn g hat (hp y hy)).2 x hx) (by
      rw [flat_len _ _ es fun y hy => (grow_one hn g hat (hp y hy)).1, hl, List.length_append]
      have nl := named_le rs pre.length
      show _ = 2 ^ (pre.length + 1 - (named rs pre.length + if (lookR rs pre.length).isSome then 1 else 0))
      split
      · rw [Nat.mul_one]; congr 1; omega
      · rw [← Nat.pow_succ]; congr 1; omega)
    rw [List.length_append] at z
    exact z
theorem named_all : ∀ (n : Nat) (rs : Rs), (rs.map (·.1)).Nodup → (∀ k ∈ rs.map (·.1), k < n) → named rs n = rs.length
  | 0, rs, _, h => by
    cases rs with
    | nil => rfl
    | cons p rs => exact absurd (h p.1 (by simp)) (Nat.not_lt_zero _)
  | n + 1, rs, nd, h => by
    -- the names below n
    have cnt : ∀ (m : Nat) (qs : Rs), (qs.map (·.1)).Nodup → named qs m = (qs.filter fun p => decide (p.1 < m)).length := by
      intro m
      induction m with
      | zero =>
        intro qs _
        rw [List.filter_eq_nil_iff.mpr fun p _ => by simp]
        rfl
      | succ m ih =>
        intro qs nq
        show named qs m + _ = _
        rw [ih qs nq]
        clear ih h nd
        induction qs with
        | nil => rfl
        | cons q qs iq =>
          rw [List.map_cons, List.nodup_cons] at nq
          have z := iq nq.2
          have lk : lookR (q :: qs) m = if q.1 = m then some q.2 else lookR qs m := by
            unfold lookR
            rw [List.find?_cons]
            by_cases e : q.1 = m
            · simp [e]
            · simp [e]
          rw [lk]
          by_cases e : q.1 = m
          · have no : lookR qs m = none := lookR_none.mpr (by rw [← e]; exact nq.1)
            rw [no] at z
            rw [if_pos e, List.filter_cons_of_neg (by simp [e]), List.filter_cons_of_pos (by simp [e]), List.length_cons, ← z]
            simp
          · rw [if_neg e]
            by_cases l : q.1 < m
            · rw [List.filter_cons_of_pos (by simp [l]), List.filter_cons_of_pos (by simp; omega), List.length_cons, List.length_cons]
              omega
            · rw [List.filter_cons_of_neg (by simp [l]), List.filter_cons_of_neg (by simp; omega)]
              exact z
    rw [cnt _ rs nd, List.filter_eq_self.mpr]
    intro p hp
    exact decide_eq_true (h p.1 (List.mem_map.mpr ⟨p, hp, rfl⟩))
theorem allE_len {t : Tr} (hn : t.leaves.Nodup) {rs : Rs} (g : Grow (note t []).2 rs) : (allE rs (note t []).2).length = 2 ^ ((note t []).2.length - rs.length) := by
  have z := all_grown hn g (note t []).2 [] [[]] rfl (fun e he => by rw [List.mem_singleton.mp he]; exact ⟨rfl, fun k hk => absurd hk (Nat.not_lt_zero _), fun k v hk => absurd hk (Nat.not_lt_zero _)⟩) rfl
  rw [named_all _ rs g.nd fun k hk => by
    obtain ⟨p, hp, rfl⟩ := List.mem_map.mp hk
    exact g.lt (k := p.1) (v := p.2) hp] at z
  exact z
def ifC : Stmt → Expr
  | .If c _ _ _ => c
  | _ => .Constant .none 0 ⟨0, 0, 0, 0⟩
def boI : Expr → Nat → Expr
  | .BoolOp _ es _, i => es.getD i (.Constant .none 0 ⟨0, 0, 0, 0⟩)
  | _, _ => .Constant .none 0 ⟨0, 0, 0, 0⟩
def unI : Expr → Expr
  | .UnaryOp _ e _ => e
  | _ => .Constant .none 0 ⟨0, 0, 0, 0⟩
theorem lcR_mapD {X : Cx} {scope : Scope} {tg elt : Expr} {vs : List Nat} (out : D → M) (env : Sls) : ∀ (as : List D),
    (∀ a ∈ as, ∃ env1 env2 : Sls, (InB X scope fun X' => Tg X' tg a vs env env1) ∧ (InB X scope fun X' => Ev X' elt env1 (out a) env2) ∧ wipeE env2 vs = env) → LcR X scope tg elt [] vs as env (as.map out) env
  | [], _ => .nil
  | a :: as, h => by
    obtain ⟨env1, env2, t, e, hw⟩ := h a (List.mem_cons_self ..)
    exact .yes t (fun _ _ _ _ _ => tvs_nil) e (by rw [hw]; exact lcR_mapD out env as fun b hb => h b (List.mem_cons_of_mem _ hb))
end Lin

end

section
namespace Lin
open PySem PySem.Spec PySem.Calls PyProof.Rows L2
section
variable {X : Cx} {env env1 env2 : Sls} {a b e : Expr} {d x y : D} {pos p apos cpos : Pos} {k : Key} {n : Str} {s : Sl} {K : PySem.W.Frag} {O : OW} {H : Hp}
theorem rep_items {H' : Hp} (w : Wf O H []) (kp : ∀ b o, H b = some o → H' b = some o) : ∀ {ts : List Addr} {kvs : List (Key × V)} {ks : List Key} {ds : List D}, (∀ t ∈ ts, H t = none) → Paired (fun (t : Addr) (q : Key × V) => H' t = some (.tup [kV q.1, q.2])) ts kvs → kvs.map (·.1) = ks → RepL K O H ds (kvs.map (·.2)) →
    RepL K O H' (itemsD ks ds) (ts.map V.ref)
  | [], [], ks, ds, _, .nil, hk, rl => by
    rw [← show [] = ks from hk, show ds = [] by cases ds with | nil => rfl | cons d ds => obtain ⟨_, _, e, _⟩ := rl; cases e]
    rfl
  | t :: ts, q :: kvs, ks, ds, hn, .cons h t2, hk, rl => by
    cases ds with
    | nil => cases (show (_ :: _) = [] from rl)
    | cons d ds =>
      obtain ⟨v, vs, e, rd, rl⟩ := rl
      injection e with e1 e2
      subst e1
      subst e2
      rw [← hk]
      have no : ¬ O t := fun z => by
        obtain ⟨o, q⟩ := w.dom t z
        rw [hn t (List.mem_cons_self ..)] at q
        cases q
      exact ⟨.ref t, _, rfl, ⟨t, [kV q.1, q.2], rfl, .inl ⟨no, .inl h⟩, kV q.1, [q.2], rfl, rep_key, q.2, [], rfl, Rep.keep (fun a o z _ => kp a o z) (fun a z => .inl z) d rd, rfl⟩, rep_items w kp (fun t ht => hn t (List.mem_cons_of_mem _ ht)) t2 rfl rl⟩
/-- list(x.items()) of an owned dict -/
theorem ev_itemsO (i : Nat) {kvs : KD} (hi : env[i]? = some (some s)) (hm : s.m = dkM kvs) (hml : X.mg "list" = none := by assumption) (hc : X.calm = true := by rfl) (hg : Gl X "list" := by rfl) (hN : X.N[i]? = some n := by rfl) (hv : Vis X.env.scope n := by first | exact Or.inl rfl | exact Or.inr (Or.inl rfl) | exact Or.inr (Or.inr rfl)) (hd : (n == ("__debug__" : Str)) = false := by decide) (hcd : (n == ("__classdict__" : Str)) = false := by decide)
    (hbase : attributeBase (.Name n p) "items" X.env (eval (.Name n p) X.env) = eval (.Name n p) X.env := by rfl) (hline : (apos.endLine == cpos.line) = true := by rfl)
    (hs : starEach [.Call (.Attribute (.Name n p) "items" apos) [] [] cpos] X.env = (false, eval (.Call (.Attribute (.Name n p) "items" apos) [] [] cpos) X.env) :: starEach [] X.env := by rfl) {p2 : Pos} :
    Ev X (.Call (.Name "list" p2) [.Call (.Attribute (.Name n p) "items" apos) [] [] cpos] [] pos) env (.val (.lst (itemsD (kvs.map (·.1)) (kvs.map (·.2))))) env :=
  ⟨Io.refl _, fun O H σ F r w Q q => ⟨_, LiI.pe_listItems hc (pe_var hN hv hd hcd) hg hml (by decide +kernel) hbase hline hs, by
    obtain ⟨v, F1, Fi, F2, e1, ef, rm, _, _⟩ := RepS.at r hi
    rw [hm] at rm
    obtain ⟨a, kv, F', ea, efi, ha, hk, rl⟩ := rm
    refine ⟨v, e1, a, kv, ea, ha, fun H' p ts kp hp hts hpt hH hpr => ?_⟩
    have no : ¬ O p := fun z => by
      obtain ⟨o, q⟩ := w.dom p z
      rw [hp] at q
      cases q
    have st : Step O H F O H' F := ⟨fun a o h _ => kp a o h, fun a h => .inl h, fun a h _ => h, fun a h => .inl h, ⟨w.nd, w.own, fun a h => let ⟨o, q⟩ := w.dom a h; ⟨o, kp a o q⟩⟩⟩
    exact q O H' (.ref p) [] F ⟨rfl, p, ts.map V.ref, rfl, no, hH, rep_items w.nil kp hts hpr hk (repL_vals rl)⟩ (RepS.keep (fun a o h _ => kp a o h) (fun a h => .inl h) env (fun a o _ h => kp a o h) r) st⟩⟩
theorem merge_app : ∀ (more acc : List (Key × V)), ((acc ++ more).map (·.1)).Nodup → mergeK acc more = acc ++ more
  | [], acc, _ => by rw [List.append_nil]; rfl
  | q :: more, acc, h => by
    have nk : (acc.any fun kv => decide (kv.1 = q.1)) = false := by
      rw [List.any_eq_false]
      intro kv hkv z
      have z := of_decide_eq_true z
      rw [List.map_append, List.nodup_append] at h
      exact h.2.2 kv.1 (List.mem_map.mpr ⟨kv, hkv, rfl⟩) q.1 (by simp) z
    have e : putK acc q.1 q.2 = acc ++ [q] := by
      unfold putK
      rw [if_neg (by rw [nk]; exact Bool.false_ne_true)]
    show mergeK (putK acc q.1 q.2) more = _
    rw [e, merge_app more (acc ++ [q]) (by rw [List.append_assoc]; exact h), List.append_assoc]
    rfl
theorem pairs_rep : ∀ {kvs : KD} {xs : List V}, RepL K O H (kvs.map fun q => D.tup [kD q.1, q.2]) xs → ∃ (ps : List Addr) (kv : List (Key × V)), xs = ps.map V.ref ∧ Paired (fun p kv => SqT K H p [kV kv.1, kv.2]) ps kv ∧ kv.map (·.1) = kvs.map (·.1) ∧ RepL K O H (kvs.map (·.2)) (kv.map (·.2))
  | [], xs, h => ⟨[], [], h, .nil, rfl, rfl⟩
  | q :: kvs, xs, ⟨v, vs, e, ⟨a, zs, ev, ta, z1, zr, e1, r1, z2, zr2, e2, r2, e3⟩, rl⟩ => by
    obtain ⟨ps, kv, e4, pr, hk, rk⟩ := pairs_rep rl
    have ek := rep_kD r1
    have e3 : zr2 = [] := e3
    subst e3
    subst e2
    subst e1
    subst ek
    exact ⟨a :: ps, (q.1, z2) :: kv, by rw [e, ev, e4]; rfl, .cons (TupAt.sq ta) pr, by rw [List.map_cons, List.map_cons, hk], ⟨z2, _, rfl, r2, rk⟩⟩
/-- dict(xs) of pairs with keys apart -/
theorem ev_dictP {kvs : KD} (ha : Ev X e env (.val (.lst (kvs.map fun q => D.tup [kD q.1, q.2]))) env1) (nd : (kvs.map (·.1)).Nodup) (hm : X.mg "dict" = none := by assumption) (hc : X.calm = true := by rfl) (hg : Gl X "dict" := by rfl) (he : starEach [e] X.env = (false, eval e X.env) :: starEach [] X.env := by rfl) (hpl : (backTo pos (starEach [] X.env)).any (·.1) = false := by rfl) :
    Ev X (.Call (.Name "dict" p) [e] [] pos) env (dkM kvs) env1 :=
  ev_cty (ds := [.lst (kvs.map fun q => D.tup [kD q.1, q.2])]) (call_dictP hc) (fun O H w vs ⟨u, us, e1, ⟨a, xs, eu, no, ha, rl⟩, hn⟩ Q q => by
    obtain ⟨ps, kv, ex, pr, hk, rk⟩ := pairs_rep rl
    refine ⟨a, ps, kv, by rw [e1, eu, show us = [] from hn], .inl (.inl (by rw [← ex]; exact ha)), pr, fun p hp => ?_⟩
    have s0 : Step O H [] (fun b => O b ∨ b = p) (upd H p (.dK kv)) [p] := Step.new (G := []) w hp
    rw [merge_app kv [] (by rw [List.nil_append, hk]; exact nd), List.nil_append]
    exact q _ _ (.ref p) [p] ⟨p, kv, [], rfl, rfl, upd_same, hk, repML_val _ (RepL.keep (s0.kf w) s0.nw _ rk)⟩ s0) (ea_cons ha ea_nil he) hm (by decide +kernel) hg (by decide) (by decide) he hpl
end
theorem items_kd (kvs : KD) : itemsD (kvs.map (·.1)) (kvs.map (·.2)) = kvs.map fun q => D.tup [kD q.1, q.2] := by
  induction kvs with
  | nil => rfl
  | cons q kvs ih => rw [List.map_cons, List.map_cons, itemsD, ih]; rfl
section
variable {X : Cx} {env env1 env2 env3 : Sls} {a b f : Expr} {ds : List D} {k : Key} {pos apos cpos : Pos}
/-- d.get(k, x), where x changes what is owned -/
theorem ev_get3 {ks : List Key} {z : D} (ha : Ev X a env (.val (.dK ks ds)) env1) (hb : Ev X b env1 (.val (kD k)) env2) (hf : Ev X f env2 (.val z) env3) (hu : X.A.units + 1 < cLine) (m2 : M2 X a "get" apos b f cpos := by exact ⟨rfl, rfl, rfl, rfl⟩) : Ev X (.Call (.Attribute a "get" apos) [b, f] [] cpos) env (.val ((getD ks ds k).getD z)) env3 :=
  ⟨(ha.1.trans hb.1).trans hf.1, fun O H σ F rs w Q q => ⟨_, pe_dget2 hu pe_w pe_w pe_w m2, ha.2 O H σ F rs w _ fun O1 H1 u Fu F1 ⟨eu, ru⟩ r1 s1 => by
    subst eu
    obtain ⟨a', kv, ea, no, hp, hks, rl⟩ := id ru
    refine ⟨a', ea, .inl ⟨kv, hp⟩, hb.2 O1 H1 σ F1 r1 s1.wf _ fun O2 H2 v Fv F2 ⟨ev, rv⟩ r2 s2 => hf.2 O2 H2 σ F2 r2 s2.wf.right _ fun O3 H3 y Fy F3 ⟨ey, ry⟩ r3 s3 => ?_⟩
    subst ev ey
    have ek := rep_kD rv
    subst ek
    obtain ⟨a2, kv2, ea2, no2, hp2, hks2, rl2⟩ := s3.rep s2.wf (s2.rep s1.wf ru)
    rw [ea] at ea2
    cases ea2
    refine ⟨valV kv2 k, .inl ⟨kv2, k, hp2, rfl, rfl⟩, ?_⟩
    have st := (s1.trans w s2).trans w s3
    rcases rep_val (k := k) hks2 rl2 with ⟨d', v', h1, h2, h3⟩ | ⟨h1, h2⟩
    · rw [h2]
      rw [h1] at q
      exact q O3 H3 v' [] F3 ⟨rfl, h3⟩ r3 st
    · rw [h2]
      rw [h1] at q
      exact q O3 H3 y [] F3 ⟨rfl, ry⟩ r3 st⟩⟩
end
theorem resK_nd {rs : Rs} (h : (rs.map (·.1)).Nodup) : ((resK rs).map (·.1)).Nodup := by
  rw [resK_keys]
  refine List.pairwise_map.mpr (List.pairwise_map.mpr ((List.pairwise_map.mp h).imp ?_))
  intro a b hab z
  exact hab (Int.ofNat.inj (Sum.inl.inj z))
end Lin

end

section
namespace Lin
open PySem PySem.Spec PySem.Calls PyProof.Rows L2
/-- a law's look at a part: p[1] if p[0] == "side" else x[p[1]] -/
theorem part_ev {X : Cx} {env : Sls} {ds : List D} {i j : Nat} {x : Str} (e : List Int) (q : Pt) (hq : env[i]? = some (vl q.d)) (hx : env[j]? = some (vl (.tup ds))) (hk : ∀ k, q = .mtch k → L2.atI ds (k : Int) = some (.int (e.getD k 0))) (hu : X.A.units + 64 < cLine) {p1 p2 p3 p4 p5 p6 p7 p8 p9 p10 : Pos} {n1 n2 n3 : Nat} {pn : Str}
    (hN : X.N[i]? = some pn) (hN2 : X.N[j]? = some x) (hv : Vis X.env.scope pn) (hv2 : Vis X.env.scope x) (hd : (pn == ("__debug__" : Str)) = false) (hcd : (pn == ("__classdict__" : Str)) = false) (hd2 : (x == ("__debug__" : Str)) = false) (hcd2 : (x == ("__classdict__" : Str)) = false)
    {p11 p12 p13 p14 : Pos} : Ev X (.IfExp (.Compare (.Subscript (.Name pn p1) (.Constant (.int 0) n1 p2) p3) [.Eq] [.Constant (.str "side") n2 p4] p5) (.Subscript (.Name pn p6) (.Constant (.int 1) n3 p7) p8) (.Subscript (.Name x p9) (.Subscript (.Name pn p10) (.Constant (.int 1) n3 p11) p12) p13) p14) env (.val (.int (sideE e q))) env := by
  cases q with
  | side n => exact ev_ifT ((tv_eqS (by decide +kernel) (by decide +kernel) (ev_ixT (ds := [.str strSide, .int n]) (ev_name i hq hN hv hd hcd) ev_int rfl) ev_str hu).eq (by decide)) (ev_ixT (ds := [.str strSide, .int n]) (ev_name i hq hN hv hd hcd) ev_int rfl)
  | mtch k => exact ev_ifF ((tv_eqS (by decide +kernel) (by decide +kernel) (ev_ixT (ds := [.str strMatch, .int (k : Int)]) (ev_name i hq hN hv hd hcd) ev_int rfl) ev_str hu).eq (by decide)) (ev_ixT (ds := ds) (ev_name j hx hN2 hv2 hd2 hcd2) (ev_ixT (ds := [.str strMatch, .int (k : Int)]) (ev_name i hq hN hv hd hcd) ev_int rfl) (hk k rfl))
def cmR : Expr → Expr
  | .Compare _ _ (b :: _) _ => b
  | _ => .Constant .none 0 ⟨0, 0, 0, 0⟩
end Lin

end

section
namespace Lin
open PySem PySem.Spec PySem.Calls PyProof.Rows L2
theorem vok_ints {e : List Int} (h : ∀ x ∈ e, 0 ≤ x ∧ x ≤ 1000) : Vok (11 * e.length) 1 (sdD e) := by
  have w : wL (e.map D.int) ≤ 11 * e.length := by
    induction e with
    | nil => exact Nat.le_refl 0
    | cons x e ih =>
      have := ih fun y hy => h y (List.mem_cons_of_mem _ hy)
      obtain ⟨a, b⟩ := h x (List.mem_cons_self ..)
      have := (int_ok a b).wt
      rw [List.map_cons, wL_cons, List.length_cons]
      omega
  refine Vok.tup (m := 0) (fun z hz => ?_) w (fun z hz => ?_)
  · obtain ⟨x, hx, rfl⟩ := List.mem_map.mp hz
    obtain ⟨a, b⟩ := h x hx
    exact (int_ok a b).sh
  · obtain ⟨x, hx, rfl⟩ := List.mem_map.mp hz
    exact Nat.le_refl 0
def resP (rs : Rs) : List (PyData × PyData) := (((resK rs).map (·.1)).map keyP).zip (pkL ((resK rs).map (·.2)))
theorem res_kv {rs : Rs} (h : ∀ p ∈ rs, p.1 ≤ 1000 ∧ 0 ≤ p.2 ∧ p.2 ≤ 1000) : PyData.weightKv (resP rs) ≤ 22 * rs.length ∧ PyData.depthKv (resP rs) = 0 ∧ ((resK rs).map (·.1)).all shwKey = true ∧ shwL ((resK rs).map (·.2)) = true := by
  induction rs with
  | nil => exact ⟨Nat.le_refl 0, by simp [resK, resP, PyData.depthKv], rfl, rfl⟩
  | cons p rs ih =>
    obtain ⟨i1, i2, i3, i4⟩ := ih fun q hq => h q (List.mem_cons_of_mem _ hq)
    obtain ⟨a, b, c⟩ := h p (List.mem_cons_self ..)
    have k1 := int_ok (i := (p.1 : Int)) (by omega) (by omega)
    have k2 := int_ok b c
    have w1 : (PyData.int (p.1 : Int)).weight ≤ 10 := k1.wt
    have w2 : (PyData.int p.2).weight ≤ 10 := k2.wt
    refine ⟨?_, ?_, ?_, ?_⟩
    · show PyData.weightKv ((.int (p.1 : Int), .int p.2) :: resP rs) ≤ _
      simp only [PyData.weightKv]
      rw [List.length_cons]
      have := i1
      simp only [PyData.weight] at w1 w2 ⊢
      omega
    · show PyData.depthKv ((.int (p.1 : Int), .int p.2) :: resP rs) = 0
      simp only [PyData.depthKv, PyData.depth]
      rw [i2]
      rfl
    · show (shwI (p.1 : Int) && ((resK rs).map (·.1)).all shwKey) = true
      rw [i3, show shwI (p.1 : Int) = true from k1.sh]
      rfl
    · show (shwI p.2 && shwL ((resK rs).map (·.2))) = true
      rw [i4, show shwI p.2 = true from k2.sh]
      rfl
theorem vok_res {rs : Rs} (h : ∀ p ∈ rs, p.1 ≤ 1000 ∧ 0 ≤ p.2 ∧ p.2 ≤ 1000) : Vok (22 * rs.length) 1 (dkD (resK rs)) := by
  obtain ⟨a, b, c, d⟩ := res_kv h
  refine ⟨?_, ?_, ?_⟩
  · show (((resK rs).map (·.1)).all shwKey && decide (((resK rs).map (·.1)).length = ((resK rs).map (·.2)).length) && shwL ((resK rs).map (·.2))) = true
    rw [c, d, decide_eq_true (by rw [List.length_map, List.length_map])]
    rfl
  · show PyData.weight (.dict (resP rs)) ≤ _
    simp only [PyData.weight]
    exact a
  · show PyData.depth (.dict (resP rs)) ≤ 1
    simp only [PyData.depth]
    omega
theorem Vok.two {n m : Nat} {x y : D} (a : Vok n m x) (b : Vok n m y) : Vok (2 * n + 2) (m + 1) (.tup [x, y]) := by
  have h1 := a.wt
  have h2 := b.wt
  refine Vok.tup (fun z hz => ?_) (by rw [wL_cons, wL_cons, wL_nil]; omega) (fun z hz => ?_)
  · simp only [List.mem_cons, List.not_mem_nil, or_false] at hz
    rcases hz with rfl | rfl
    · exact a.sh
    · exact b.sh
  · simp only [List.mem_cons, List.not_mem_nil, or_false] at hz
    rcases hz with rfl | rfl
    · exact a.dp
    · exact b.dp
theorem vok_sheets {ss : List (List Int)} {c : Nat} (h : ∀ s ∈ ss, s.length ≤ c ∧ ∀ x ∈ s, 0 ≤ x ∧ x ≤ 1000) : Vok ((11 * c + 1) * ss.length) 2 (.tup (ss.map sdD)) := by
  have w : wL (ss.map sdD) ≤ (11 * c + 1) * ss.length := by
    induction ss with
    | nil => exact Nat.zero_le _
    | cons s ss ih =>
      have i := ih fun y hy => h y (List.mem_cons_of_mem _ hy)
      obtain ⟨a, b⟩ := h s (List.mem_cons_self ..)
      have v := (vok_ints b).wt
      have e : 11 * s.length ≤ 11 * c := Nat.mul_le_mul_left _ a
      rw [List.map_cons, wL_cons, List.length_cons, Nat.mul_add, Nat.mul_one]
      omega
  refine Vok.tup (m := 1) (fun z hz => ?_) w (fun z hz => ?_)
  · obtain ⟨s, hs, rfl⟩ := List.mem_map.mp hz
    exact (vok_ints (h s hs).2).sh
  · obtain ⟨s, hs, rfl⟩ := List.mem_map.mp hz
    exact (vok_ints (h s hs).2).dp
theorem cut_mem {ds : List D} {l u : Option Int} {x : D} (h : x ∈ cutD ds l u) : x ∈ ds := List.mem_of_mem_drop (List.mem_of_mem_take h)
theorem cut_wt (ds : List D) (l u : Option Int) : wL (cutD ds l u) ≤ wL ds := Nat.le_trans (wL_take _ _) (wL_drop _ _)
theorem cut_len (ds : List D) (l u : Option Int) : (cutD ds l u).length ≤ ds.length := by
  unfold cutD
  rw [List.length_take, List.length_drop]
  omega
end Lin

end

section
namespace Lin
open PySem PySem.Spec PySem.Calls PyProof.Rows L2
/-! sorted(set(t)) of a tuple of ints -/
/-- fewer than 64 of them are distinct -/
def FewI (ns : List Int) : Prop := ns.length ≤ 4000 ∧ ∀ L : List Int, L.Nodup → (∀ k ∈ L, k ∈ ns) → L.length < 64
theorem FewI.ofRange {ns : List Int} {n : Nat} (hl : ns.length ≤ 4000) (hn : n < 64) (h : ∀ k ∈ ns, 0 ≤ k ∧ k < n) : FewI ns := ⟨hl, fun L nd hk => by
  have q := nodup_lt n (L.map Int.toNat) (by
    refine List.pairwise_map.mpr (List.Pairwise.imp_of_mem (R := fun a b => a ≠ b) (fun {a b} ha hb ne e => ?_) nd)
    have := h a (hk a ha)
    have := h b (hk b hb)
    exact ne (by omega)) fun k hk2 => by
    obtain ⟨a, ha, rfl⟩ := List.mem_map.mp hk2
    have := h a (hk a ha)
    omega
  rw [List.length_map] at q
  omega⟩
def tSortSet (K : PySem.W.Frag) (ta : TE) : TE := fun σ H Q => ta σ H fun x H1 => ∃ (l : Addr) (ns : List Int), x = .ref l ∧ SqT K H1 l (ns.map V.int) ∧ FewI ns ∧
  ∀ (ms : List Int) (p : Addr), ms.Pairwise (· < ·) → (∀ k : Int, k ∈ ms ↔ k ∈ ns) → H1 p = none → Q (.ref p) (upd H1 p (.lst (ms.map V.int)))
theorem pe_sortSet {X : Cx} {a : Expr} {ta : TE} {p p2 q pos : Pos} (hc : X.calm = true) (hg : Gl X "sorted") (hm : X.mg "sorted" = none) (hg2 : Gl X "set") (hm2 : X.mg "set" = none) (ha : PE X a ta)
    (na : starEach [a] X.env = (false, eval a X.env) :: starEach [] X.env := by rfl) : PE X (.Call (.Name "sorted" p) [.Call (.Name "set" p2) [a] [] q] [] pos) (tSortSet X.K ta) := by
  refine ⟨fun pins s σ H Q I h => ?_⟩
  refine Call_ (ld_blt I hg hm boot_sorted ?_)
  refine PyProof.Rows.callWith_builtin1 (PyProof.Rows.args_cons ?_ rfl) rfl rfl
  refine Call_ (ld_blt I hg2 hm2 PyProof.Rows.boot_set ?_)
  refine PyProof.Rows.callWith_type1 (PyProof.Rows.args_cons (thn (ha.run pins s σ H _ I h) fun v s1 ⟨x, H1, I1, r1, q1⟩ => PyProof.Rows.args_nil ?_) na) na rfl
  obtain ⟨l, ns, rfl, hq, h1, q1⟩ := q1
  cases r1
  obtain ⟨its, rv, pt, hz⟩ := I1.tuple hq
  have hi : IntsAre its.toArray.toList ns := ints_of_vals rv
  have hd := I1.ok.hd hc
  refine call_set_tupI ns hd (show s1.heap.IsTuple l its.toArray from pt) hi (by unfold scanBound; have := h1.1; omega) fun h' tk c R1 hcn k => ?_
  have hcl : c < 64 := by
    obtain ⟨o, es, ep, t, ho, hex, hdt, g, nd, hm3, hb, hf, hn, hr, hl2⟩ := R1
    have q := h1.2 _ nd fun k hk => by
      have z := (hm3 k).mpr hk
      rw [decide_eq_true_eq] at z
      exact z
    rw [List.length_map, Array.length_toList] at q
    omega
  refine PyProof.Rows.args_nil ?_
  have I2 : Inv X pins σ H1 { s1 with heap := h', toks := tk } := I1.kept fun b o e => k b o e
  refine sorted_set (s := { s1 with heap := h', toks := tk }) R1 (I2.ok.hd hc) hcl fun s' p out c2 ms k2 g o hp hgp hi2 hs hmm hl => ?_
  have hlen : (ms.map V.int).length ≤ sizeLine := by rw [List.length_map, hl, sizeLine_eq]; omega
  have hn : H1 p = none := I2.hok.fresh hp
  generalize hs2 : ({ s1 with heap := h', toks := tk } : Shared) = s2 at *
  have J : Inv X pins σ (upd H1 p (.lst (ms.map V.int))) { s2 with heap := s'.heap, gens := s'.gens, drawn := s'.drawn, toks := s'.toks } :=
    I2.call (ch := []) (Un.laid k2 hp hn) (I2.hok.laid k2 hp ⟨hlen, out.toList, c2, vals_of_ints hi2, hgp⟩) (by rw [g]; exact I2.bare) (fun _ z => nomatch z)
  have e : s' = { s2 with heap := s'.heap, gens := s'.gens, drawn := s'.drawn, toks := s'.toks } := by
    cases s'
    cases s2
    cases o
    rfl
  rw [e]
  exact ⟨.ref p, _, J, rfl, q1 ms p hs (fun k => (hmm k).trans (by rw [decide_eq_true_eq])) hn⟩
theorem rise_eq : ∀ {a b : List Int}, a.Pairwise (· < ·) → b.Pairwise (· < ·) → (∀ k, k ∈ a ↔ k ∈ b) → a = b
  | [], [], _, _, _ => rfl
  | [], y :: b, _, _, h => absurd ((h y).mpr (List.mem_cons_self ..)) (List.not_mem_nil)
  | x :: a, [], _, _, h => absurd ((h x).mp (List.mem_cons_self ..)) (List.not_mem_nil)
  | x :: a, y :: b, ha, hb, h => by
    obtain ⟨a1, a2⟩ := List.pairwise_cons.mp ha
    obtain ⟨b1, b2⟩ := List.pairwise_cons.mp hb
    have e : x = y := by
      rcases List.mem_cons.mp ((h x).mp (List.mem_cons_self ..)) with z | z
      · exact z
      · rcases List.mem_cons.mp ((h y).mpr (List.mem_cons_self ..)) with z2 | z2
        · exact z2.symm
        · have p := b1 x z
          have q := a1 y z2
          omega
    subst e
    rw [rise_eq a2 b2 fun k => ⟨fun hk => ?_, fun hk => ?_⟩]
    · rcases List.mem_cons.mp ((h k).mp (List.mem_cons_of_mem _ hk)) with z | z
      · have := a1 k hk
        omega
      · exact z
    · rcases List.mem_cons.mp ((h k).mpr (List.mem_cons_of_mem _ hk)) with z | z
      · have := b1 k hk
        omega
      · exact z
/-- sorted(set(t)): rs is the rising list of t's members -/
theorem ev_sortSet {X : Cx} {e : Expr} {env env1 : Sls} {p p2 q pos : Pos} {ns rs : List Int} (ha : Ev X e env (.val (.tup (ns.map D.int))) env1) (h64 : FewI ns) (hr : rs.Pairwise (· < ·)) (hmem : ∀ k, k ∈ rs ↔ k ∈ ns)
    (hc : X.calm = true := by rfl) (hm : X.mg "sorted" = none := by assumption) (hm2 : X.mg "set" = none := by assumption) (hg : Gl X "sorted" := by rfl) (hg2 : Gl X "set" := by rfl) (na : starEach [e] X.env = (false, eval e X.env) :: starEach [] X.env := by rfl) :
    Ev X (.Call (.Name "sorted" p) [.Call (.Name "set" p2) [e] [] q] [] pos) env (.lst ((rs.map D.int).map M.val)) env1 :=
  ⟨ha.1, fun O H σ F r w Q qq => ⟨_, pe_sortSet hc hg hm hg2 hm2 pe_w na, ha.2 O H σ F r w _ fun O1 H1 v Fv F1 ⟨ev, rv⟩ r1 s1 => by
    subst ev
    have hr2 : RF X.K (fun vs H1 Q => ∃ (l : Addr) (ns : List Int), vs = [.ref l] ∧ SqT X.K H1 l (ns.map V.int) ∧ FewI ns ∧ ∀ (ms : List Int) (p : Addr), ms.Pairwise (· < ·) → (∀ k : Int, k ∈ ms ↔ k ∈ ns) → H1 p = none → Q (.ref p) (upd H1 p (.lst (ms.map V.int)))) [.tup (ns.map D.int)] (.lst ((rs.map D.int).map M.val)) :=
      rf_new fun O H vs ⟨u, us, e, ⟨a, xs, hu, hp, rl⟩, hn⟩ => ⟨_, repL_ints rs, fun Q q => ⟨a, ns, by rw [e, hu, show us = [] from hn], TupAt.sq (by rw [← RepL.ints ns rl]; exact hp), h64, fun ms p hm hk hp' => by
        rw [rise_eq hm hr fun k => (hk k).trans (hmem k).symm]
        exact q p hp'⟩⟩
    obtain ⟨l, ns2, e1, h1, h2, h3⟩ := hr2 O1 H1 s1.wf.nil [v] ⟨v, [], rfl, rv, rfl⟩ Q fun O2 H2 z Fz rz s2 => qq O2 H2 z Fz F1 rz (r1.quiet s2) (s1.trans w (s2.quiet s1.wf))
    exact ⟨l, ns2, List.cons.inj e1 |>.1, h1, h2, h3⟩⟩⟩
end Lin

end

section
namespace Lin
open PySem PySem.Spec PySem.Calls PyProof.Rows L2
theorem repA_of {K : PySem.W.Frag} {O : OW} {H : Hp} {σ : L2.St} : ∀ (ds : List D) {vs : List V}, RepL K O H ds vs → RepA K O H σ (ds.map AK.v) vs
  | [], _, h => h
  | d :: ds, _, ⟨u, us, e, p, q⟩ => ⟨u, us, e, p, repA_of ds q⟩
/-- *t as the last of a display -/
theorem ea_starL {X : Cx} {e : Expr} {p : Pos} {env env1 : Sls} {ds : List D} (ha : Ev X e env (.val (.tup ds)) env1) (hs : starEach [.Starred e p] X.env = (true, eval e X.env) :: starEach [] X.env := by rfl) : EvAs X [.Starred e p] env (ds.map AK.v) env1 :=
  ⟨ha.1, fun O H σ F r w Q q => ⟨_, StX.pa_star pe_w pa_nil hs, ha.2 O H σ F r w _ fun O1 H1 v Fv F1 ⟨ev, rv⟩ r1 s1 => by
    subst ev
    obtain ⟨a, xs, ea, ta, rl⟩ := rv
    refine ⟨a, xs, ea, .inl (TupAt.sq ta), ?_⟩
    show Q (xs ++ []) H1
    rw [List.append_nil]
    exact q O1 H1 xs F1 (repA_of ds rl) r1 s1⟩⟩
/-! teams and questions, over any data -/
def risB (es : List Int) : Bool := (es.zip (es.drop 1)).all fun p => decide (p.1 < p.2)
theorem risB_cons (a b : Int) (es : List Int) : risB (a :: b :: es) = (decide (a < b) && risB (b :: es)) := by
  unfold risB
  cases es <;> rfl
theorem risB_iff : ∀ es : List Int, risB es = true ↔ es.Pairwise (· < ·)
  | [] => ⟨fun _ => .nil, fun _ => rfl⟩
  | [a] => ⟨fun _ => .cons (fun _ h => nomatch h) .nil, fun _ => rfl⟩
  | a :: b :: es => by
    rw [risB_cons, Bool.and_eq_true_iff, decide_eq_true_eq, risB_iff (b :: es), List.pairwise_cons (l := b :: es)]
    constructor
    · rintro ⟨h, g⟩
      refine ⟨fun x hx => ?_, g⟩
      rcases List.mem_cons.mp hx with rfl | hx
      · exact h
      · have := (List.pairwise_cons.mp g).1 x hx
        omega
    · rintro ⟨h, g⟩
      exact ⟨h b (List.mem_cons_self ..), g⟩
theorem ris_len {es : List Int} {n : Nat} (h : es.Pairwise (· < ·)) (hb : ∀ x ∈ es, 0 ≤ x ∧ x < n) : es.length ≤ n := by
  have q := nodup_lt n (es.map Int.toNat) (List.pairwise_map.mpr (List.Pairwise.imp_of_mem (R := (· < ·)) (fun {a b} ha hb' hab => by
    have := hb a ha
    have := hb b hb'
    omega) h)) fun k hk => by
      obtain ⟨a, ha, rfl⟩ := List.mem_map.mp hk
      have := hb a ha
      omega
  rw [List.length_map] at q
  exact q
def teamD (n : Nat) : D → Bool
  | .tup ds => !ds.isEmpty && ds.all (btw 0 (n - 1)) && risB (ds.map iv)
  | _ => false
theorem btw_iv {lo hi : Int} {d : D} (h : btw lo hi d = true) : d = .int (iv d) ∧ lo ≤ iv d ∧ iv d ≤ hi := by
  cases d with
  | int i =>
    obtain ⟨a, b⟩ := Bool.and_eq_true_iff.mp h
    exact ⟨rfl, of_decide_eq_true a, of_decide_eq_true b⟩
  | _ => cases h
theorem btw_all {lo hi : Int} {ds : List D} (h : ds.all (btw lo hi) = true) : ds = (ds.map iv).map D.int ∧ ∀ x ∈ ds.map iv, lo ≤ x ∧ x ≤ hi := by
  have h := List.all_eq_true.mp h
  refine ⟨?_, fun x hx => ?_⟩
  · rw [List.map_map]
    conv => lhs; rw [← List.map_id ds]
    exact List.map_congr_left fun d hd => (btw_iv (h d hd)).1
  · obtain ⟨d, hd, rfl⟩ := List.mem_map.mp hx
    exact (btw_iv (h d hd)).2
def rtV : Stmt → Expr
  | .Return (some e) _ => e
  | _ => .Constant .none 0 ⟨0, 0, 0, 0⟩
def questD (n : Nat) : D → Bool
  | .tup [t, .tup rs, m] => teamD n t && decide (rs.length ≤ 4) && rs.all (teamD n) && btw (-200) 200 m
  | _ => false
theorem inV_bools (bs : List Bool) : inV (vF (.bool false)) ((bs.map D.bool).map vF) = !bs.all id := by
  unfold inV
  induction bs with
  | nil => rfl
  | cons b bs ih =>
    rw [List.map_cons, List.map_cons, List.any_cons, List.all_cons, ih]
    cases b <;> rfl
theorem flat_bools (bs : List Bool) : (bs.map D.bool).all flatD = true := by
  induction bs with
  | nil => rfl
  | cons b bs ih => rw [List.map_cons, List.all_cons, ih]; rfl
/-- False in [truths] -/
theorem ev_inFalse {X : Cx} {a b : Expr} {env env1 env2 : Sls} {pos : Pos} {bs : List Bool} (ha : Ev X a env (.val (.bool false)) env1) (hb : Ev X b env1 (.val (.lst (bs.map D.bool))) env2) (hm : behindInMarks .In b = false := by first | exact nomark _ | rfl) : Ev X (.Compare a [.In] [b] pos) env (.val (.bool (!bs.all id))) env2 :=
  (ev_inLF ha hb rfl (flat_bools bs) hm).eq (by rw [inV_bools])
theorem tv_inFalse {X : Cx} {a b : Expr} {env env1 env2 : Sls} {pos : Pos} {bs : List Bool} (ha : Ev X a env (.val (.bool false)) env1) (hb : Ev X b env1 (.val (.lst (bs.map D.bool))) env2) (hm : behindInMarks .In b = false := by first | exact nomark _ | rfl) : Tv X (.Compare a [.In] [b] pos) env (!bs.all id) env2 :=
  (show Tv X (.Compare a [.In] [b] pos) env (inV (vF (.bool false)) ((bs.map D.bool).map vF)) env2 from tv_cmp op_in_seq ha hb (ro_inL rfl (flat_bools bs)) hm).eq (inV_bools bs)
/-- the members below n, rising -/
def riseR (n : Nat) (es : List Int) : List Int := (rangeI n).filter fun k => decide (k ∈ es)
theorem rangeI_lt (n : Nat) : (rangeI n).Pairwise (· < ·) := by
  unfold rangeI
  rw [List.pairwise_map]
  exact List.Pairwise.imp (fun {a b} h => by omega) List.pairwise_lt_range
theorem riseR_pw (n : Nat) (es : List Int) : (riseR n es).Pairwise (· < ·) := (rangeI_lt n).filter _
theorem riseR_mem {n : Nat} {es : List Int} (h : ∀ x ∈ es, 0 ≤ x ∧ x < n) (k : Int) : k ∈ riseR n es ↔ k ∈ es := by
  unfold riseR
  rw [List.mem_filter, decide_eq_true_eq]
  refine ⟨fun z => z.2, fun z => ⟨?_, z⟩⟩
  have := h k z
  unfold rangeI
  exact List.mem_map.mpr ⟨k.toNat, List.mem_range.mpr (by omega), by omega⟩
theorem riseR_eq {n : Nat} {es : List Int} (h : ∀ x ∈ es, 0 ≤ x ∧ x < n) : decide (es = riseR n es) = risB es := by
  rw [Bool.eq_iff_iff, decide_eq_true_eq, risB_iff]
  refine ⟨fun e => by rw [e]; exact riseR_pw n es, fun p => rise_eq p (riseR_pw n es) fun k => (riseR_mem h k).symm⟩
end Lin

end

section
namespace Lin
open PySem PySem.Spec PySem.Calls PyProof.Rows L2
section
variable {X : Cx} {env env1 env2 : Sls} {d : D} {ds es : List D} {pos p : Pos} {e e2 a b : Expr}
/-- sum of a list of ints -/
theorem ev_sumL {ns : List Int} (ha : Ev X e env (.val (.lst (ns.map D.int))) env1) (hm : X.mg "sum" = none := by assumption) (hc : X.calm = true := by rfl) (hg : Gl X "sum" := by rfl) (he : starEach [e] X.env = (false, eval e X.env) :: starEach [] X.env := by rfl) (hpl : (backTo pos (starEach [] X.env)).any (·.1) = false := by rfl) : Ev X (.Call (.Name "sum" p) [e] [] pos) env (.val (.int ns.sum)) env1 :=
  ev_cbi (ds := [.lst (ns.map D.int)]) (cr_sum hc) (rf_val fun O H vs Q ⟨u, us, e, ⟨a, xs, hu, _, ta, rl⟩, hn⟩ q => ⟨a, ns, by rw [e, hu, show us = [] from hn], .inl (.inl (by rw [← RepL.ints ns rl]; exact ta)), q _ rfl⟩) (ea_cons ha ea_nil he) hm (by decide +kernel) hg (by decide) (by decide) he hpl
/-- min of a tuple of ints -/
def rMinT (K : PySem.W.Frag) : List V → Hp → VK → Prop := fun vs H Q => ∃ (a : Addr) (n : Int) (ns : List Int), vs = [V.ref a] ∧ SqT K H a ((n :: ns).map V.int) ∧ Q (.int (ns.foldl min n)) H
theorem cr_minT (hc : X.calm = true) (hu : X.A.units + 2 < cLine) : CallR X (.builtin "min") (rMinT X.K) := by
  intro pins s σ H vs us Q I r h
  obtain ⟨a, n, ns, rfl, hs, q⟩ := h
  obtain ⟨its, rv, ht, _⟩ := I.tuple hs
  rw [Vals.ref1 r]
  have hl : s.heap.IsTuple a its.toArray := ht
  obtain ⟨as, hr⟩ := Dp.readsAll I _ _ its (dpAll_ints (n :: ns)) rv
  have hd := depth_ints (n :: ns)
  refine PySem.W.min_tuple_data (I.ok.hd hc) hl hr ⟨fun x hx y hy => ?_, fun x hx => ?_⟩ (by show X.A.units + 1 + PyData.depthAll ((n :: ns).map PyData.int) < cLine; omega) fun i v h' tk bs hv hr' hk => ?_
  · obtain ⟨i, _, rfl⟩ := List.mem_map.mp (show x ∈ (n :: ns).map PyData.int from hx)
    obtain ⟨j, _, rfl⟩ := List.mem_map.mp (show y ∈ (n :: ns).map PyData.int from hy)
    rfl
  · obtain ⟨i, _, rfl⟩ := List.mem_map.mp (show x ∈ (n :: ns).map PyData.int from hx)
    exact fun z => nomatch z
  · rw [PySem.W.minD_ints] at hr'
    cases hr' with
    | int _ t => exact ⟨.int _, H, I.kept hk, ⟨_, rfl⟩, q⟩
theorem ev_minT {z : Int} {ns : List Int} (ha : Ev X e env (.val (.tup ((z :: ns).map D.int))) env1) (hu : X.A.units + 2 < cLine) (hm : X.mg "min" = none := by assumption) (hc : X.calm = true := by rfl) (hg : Gl X "min" := by rfl) (he : starEach [e] X.env = (false, eval e X.env) :: starEach [] X.env := by rfl) (hpl : (backTo pos (starEach [] X.env)).any (·.1) = false := by rfl) : Ev X (.Call (.Name "min" p) [e] [] pos) env (.val (.int (ns.foldl min z))) env1 :=
  ev_cbi (ds := [.tup ((z :: ns).map D.int)]) (cr_minT hc hu) (rf_val fun O H vs Q ⟨u, us, e, ⟨a, xs, hu, ta, rl⟩, hn⟩ q => ⟨a, z, ns, by rw [e, hu, show us = [] from hn], by rw [← RepL.ints (z :: ns) rl]; exact TupAt.sq ta, q _ rfl⟩) (ea_cons ha ea_nil he) hm (by decide +kernel) hg (by decide) (by decide) he hpl
/-- max(i, j), min(i, j) -/
theorem ev_max2 {i j : Int} (ha : Ev X e env (.val (.int i)) env1) (hb : Ev X e2 env1 (.val (.int j)) env2) (hm : X.mg "max" = none := by assumption) (hc : X.calm = true := by rfl) (hg : Gl X "max" := by rfl) (he : starEach [e, e2] X.env = (false, eval e X.env) :: starEach [e2] X.env := by rfl) (he2 : starEach [e2] X.env = (false, eval e2 X.env) :: starEach [] X.env := by rfl) (hpl : (backTo pos (starEach [e2] X.env)).any (·.1) = false := by rfl) : Ev X (.Call (.Name "max" p) [e, e2] [] pos) env (.val (.int (if j > i then j else i))) env2 :=
  ev_cbi (ds := [.int i, .int j]) (call_max2 hc) (rf_val fun O H vs Q ⟨u, us, e, hu, u2, us2, e2, hu2, hn⟩ q => ⟨i, j, by rw [e, e2, show u = V.int i from hu, show u2 = V.int j from hu2, show us2 = [] from hn], q _ rfl⟩) (ea_cons ha (ea_cons hb ea_nil he2) he) hm (by decide +kernel) hg (by decide) (by decide) he hpl
theorem ev_min2 {i j : Int} (ha : Ev X e env (.val (.int i)) env1) (hb : Ev X e2 env1 (.val (.int j)) env2) (hm : X.mg "min" = none := by assumption) (hc : X.calm = true := by rfl) (hg : Gl X "min" := by rfl) (he : starEach [e, e2] X.env = (false, eval e X.env) :: starEach [e2] X.env := by rfl) (he2 : starEach [e2] X.env = (false, eval e2 X.env) :: starEach [] X.env := by rfl) (hpl : (backTo pos (starEach [e2] X.env)).any (·.1) = false := by rfl) : Ev X (.Call (.Name "min" p) [e, e2] [] pos) env (.val (.int (if j < i then j else i))) env2 :=
  ev_cbi (ds := [.int i, .int j]) (call_min2 hc) (rf_val fun O H vs Q ⟨u, us, e, hu, u2, us2, e2, hu2, hn⟩ q => ⟨i, j, by rw [e, e2, show u = V.int i from hu, show u2 = V.int j from hu2, show us2 = [] from hn], q _ rfl⟩) (ea_cons ha (ea_cons hb ea_nil he2) he) hm (by decide +kernel) hg (by decide) (by decide) he hpl
/-- t * n, n two or more -/
theorem ev_repT {z : Int} (ha : Ev X a env (.val (.tup ds)) env1) (hb : Ev X b env1 (.val (.int z)) env2) (h0 : 2 ≤ z) (h1 : z ≤ 1000) (hne : ds ≠ []) (hz : ds.length ≤ 1000) : Ev X (.BinOp a .Mult b pos) env (.val (.tup (List.replicate z.toNat ds).flatten)) env2 :=
  ev_bin op_repT ha hb (fun O H w u v ⟨a, xs, eu, ta, ra⟩ rv Q q => ⟨a, z, xs, eu, rv, TupAt.sq ta, (fun e => by
      subst e
      exact hne (List.length_eq_zero_iff.mp (by rw [← ra.len]; rfl))), h0, h1, by rw [ra.len]; exact hz, fun p hp => by
    have s0 : Step O H [] O (upd H p (.tup (List.replicate z.toNat xs).flatten)) [] := Step.newF w hp
    refine q _ _ (.ref p) [] ⟨rfl, p, _, rfl, .inl ⟨fun z => ?_, .inl upd_same⟩, RepL.keep (s0.kf w) s0.nw _ (ra.rep _)⟩ s0
    obtain ⟨o, e⟩ := w.dom p z
    rw [hp] at e; cases e⟩)
end
/-! questions drawn -/
structure QuS where
  team : List Int
  rivals : List (List Int)
  margin : Int
def QuS.d (q : QuS) : D := .tup [sdD q.team, .tup (q.rivals.map sdD), .int q.margin]
/-- the points of a team -/
def tsum (ps : List Int) (es : List Int) : Int := (es.map fun k => ps.getD k.toNat 0).sum
def leadF (ps : List Int) (q : QuS) : List Int := q.rivals.map fun r => tsum ps q.team - tsum ps r
def reachB (ps : List Int) (q : QuS) : Bool := (leadF ps q).all fun x => decide (q.margin ≤ x)
structure TeamOk (n : Nat) (es : List Int) : Prop where
  ne : es ≠ []
  ris : es.Pairwise (· < ·)
  b : ∀ x ∈ es, 0 ≤ x ∧ x < n
theorem TeamOk.len {n : Nat} {es : List Int} (h : TeamOk n es) : es.length ≤ n := ris_len h.ris h.b
structure QuOk (n : Nat) (q : QuS) : Prop where
  t : TeamOk n q.team
  rl : q.rivals.length ≤ 4
  r : ∀ r ∈ q.rivals, TeamOk n r
  m : -200 ≤ q.margin ∧ q.margin ≤ 200
end Lin

end

section
namespace Lin
open PySem PySem.Spec PySem.Calls PyProof.Rows L2
/-! each of all endings is one -/
structure PartE (f : Prs) (rs : Rs) (n : Nat) (e : List Int) : Prop where
  len : e.length = n
  ok : ∀ k p, k < n → f[k]? = some p → e.getD k 0 = sideE e p.1 ∨ e.getD k 0 = sideE e p.2
  ag : ∀ k v, k < n → lookR rs k = some v → e.getD k 0 = v
theorem getD_app {e : List Int} {v : Int} {k : Nat} (h : k < e.length) : (e ++ [v]).getD k 0 = e.getD k 0 := by rw [List.getD_eq_getElem?_getD, List.getD_eq_getElem?_getD, List.getElem?_append_left h]
theorem sideE_app {e : List Int} {v : Int} : ∀ {q : Pt}, OkPt e.length q → sideE (e ++ [v]) q = sideE e q
  | .side _, _ => rfl
  | .mtch _, h => getD_app h
theorem PartE.snoc {f : Prs} (okf : OkF f) {rs : Rs} {n : Nat} {e : List Int} (h : PartE f rs n e) {p : Pt × Pt} (hp : f[n]? = some p) {v : Int} (hv : v = sideE e p.1 ∨ v = sideE e p.2) (hr : resOk rs n v = true) : PartE f rs (n + 1) (e ++ [v]) := by
  have new : (e ++ [v]).getD n 0 = v := by rw [List.getD_eq_getElem?_getD, List.getElem?_append_right (by rw [h.len]; exact Nat.le_refl _), h.len, Nat.sub_self]; rfl
  refine ⟨by rw [List.length_append, h.len]; rfl, fun k q hk hq => ?_, fun k x hk hx => ?_⟩
  · obtain ⟨o1, o2⟩ := okf k q hq
    have k1 : k ≤ e.length := by rw [h.len]; omega
    rw [sideE_app (o1.mono k1), sideE_app (o2.mono k1)]
    by_cases e1 : k < n
    · rw [getD_app (by rw [h.len]; exact e1)]
      exact h.ok k q e1 hq
    · obtain rfl : k = n := by omega
      rw [hp] at hq
      cases hq
      rw [new]
      exact hv
  · by_cases e1 : k < n
    · rw [getD_app (by rw [h.len]; exact e1)]
      exact h.ag k x e1 hx
    · obtain rfl : k = n := by omega
      rw [new]
      unfold resOk at hr
      rw [hx] at hr
      exact of_decide_eq_true hr
theorem all_partE {f : Prs} (okf : OkF f) {rs : Rs} : ∀ (as pre : Prs) (es : List (List Int)), pre ++ as = f → (∀ e ∈ es, PartE f rs pre.length e) →
    ∀ e ∈ (as.zipIdx pre.length).foldl (fun es p => es.flatMap (growE rs p.2 p.1)) es, PartE f rs f.length e
  | [], pre, es, e, h => by
    rw [List.append_nil] at e
    subst e
    exact h
  | p :: as, pre, es, e, h => by
    have hat : f[pre.length]? = some p := by rw [← e, List.getElem?_append_right (Nat.le_refl _), Nat.sub_self]; rfl
    have z := all_partE okf (rs := rs) as (pre ++ [p]) (es.flatMap (growE rs pre.length p)) (by rw [List.append_assoc]; exact e) (fun x hx => by
      obtain ⟨y, hy, hx⟩ := List.mem_flatMap.mp hx
      unfold growE at hx
      obtain ⟨s, hs, rfl⟩ := List.mem_map.mp hx
      obtain ⟨hs, hr⟩ := List.mem_filter.mp hs
      rw [List.length_append]
      refine (h y hy).snoc okf hat ?_ hr
      simpa using hs)
    rw [List.length_append] at z
    exact z
theorem allE_end {f : Prs} (okf : OkF f) {rs : Rs} {e : List Int} (h : e ∈ allE rs f) : EndOk f e ∧ ∀ k v, k < f.length → lookR rs k = some v → e.getD k 0 = v := by
  have z := all_partE okf (rs := rs) f [] [[]] rfl (fun e he => by rw [List.mem_singleton.mp he]; exact ⟨rfl, fun k p hk => absurd hk (Nat.not_lt_zero _), fun k v hk => absurd hk (Nat.not_lt_zero _)⟩) e h
  exact ⟨⟨z.len, fun k p hp => z.ok k p (List.getElem?_eq_some_iff.mp hp).1 hp⟩, z.ag⟩
theorem iv_map (e : List Int) : (e.map D.int).map iv = e := iv_ints e
/-- an ending is one for the recognizers -/
theorem endD_of {f : Prs} {rs : Rs} {e : List Int} (h : EndOk f e) (ag : ∀ k v, k < f.length → lookR rs k = some v → e.getD k 0 = v) : endD f rs (sdD e) = true := by
  show (decide ((e.map D.int).length = f.length) && (e.map D.int).all isI && endB f rs ((e.map D.int).map iv)) = true
  rw [iv_ints, List.length_map, decide_eq_true h.len, isI_ints, (endB_iff h.len).mpr ⟨h, ag⟩]
  rfl
theorem endD_lst {f : Prs} {rs : Rs} (ds : List D) : endD f rs (.lst ds) = false := rfl
/-- what the recognizers take for an ending -/
theorem endD_is {f : Prs} {rs : Rs} {d : D} (h : endD f rs d = true) : ∃ e : List Int, d = sdD e ∧ EndOk f e ∧ ∀ k v, k < f.length → lookR rs k = some v → e.getD k 0 = v := by
  obtain ⟨ds, rfl⟩ : ∃ ds, d = .tup ds := by cases d <;> first | exact ⟨_, rfl⟩ | (cases h; done)
  have h2 : (decide (ds.length = f.length) && ds.all isI && endB f rs (ds.map iv)) = true := h
  rw [Bool.and_eq_true_iff, Bool.and_eq_true_iff, decide_eq_true_eq] at h2
  obtain ⟨⟨z1, z2⟩, z3⟩ := h2
  have z4 := (endB_iff (by rw [List.length_map, z1])).mp z3
  exact ⟨ds.map iv, congrArg D.tup (ints_of z2), z4⟩
theorem pdL_sds : ∀ L : List (List Int), plainL (L.map sdD) = true ∧ PyData.canLayAll0 (pdL (L.map sdD)) = true ∧ PyData.depthAll (pdL (L.map sdD)) ≤ 1
  | [] => ⟨rfl, by simp [pdL, PyData.canLayAll0], by simp [pdL, PyData.depthAll]⟩
  | e :: L => by
    obtain ⟨h1, h2, h3⟩ := pdL_sds L
    obtain ⟨g1, g2, g3⟩ := pdL_ints e
    refine ⟨?_, ?_, ?_⟩
    · show (plainL (e.map D.int) && plainL (L.map sdD)) = true
      rw [g1, h1]; rfl
    · simp only [List.map_cons, sdD, pdL, pd, PyData.canLayAll0, PyData.canLay0, g2, Bool.true_and]
      exact h2
    · simp only [List.map_cons, sdD, pdL, pd, PyData.depthAll, PyData.depth, g3]
      exact Nat.max_le.mpr ⟨by decide, h3⟩
theorem cmp_sds (L : List (List Int)) : CmpD (.lst (L.map sdD)) := by
  obtain ⟨h1, h2, h3⟩ := pdL_sds L
  refine ⟨h1, ?_⟩
  simp only [pd, SeqAt.shaped, PyData.canLay0, PyData.depth, h2, Bool.true_and]
  exact decide_eq_true (by omega)
theorem eqv_sds_nil (L : List (List Int)) : PyData.eqv (pd (.lst (L.map sdD))) (pd (.lst ([].map D.int))) = L.isEmpty := by
  cases L with
  | nil => rfl
  | cons e L => simp [pd, pdL, PyData.eqv, PyData.eqvAll]
end Lin

end

set_option maxHeartbeats 4000000
namespace K10
open PySem PySem.Spec PyProof.Rows L2 Lin
def topS (i : Nat) : Stmt := PySem.Challenge.pw_poolhopes_k10_questions_and_hopes_recogn.main.body.getD i (.Pass ⟨0, 0, 0, 0⟩)
abbrev sSpread : Stmt := topS 21
abbrev sTake : Stmt := topS 22
abbrev sOneOf : Stmt := topS 24
abbrev sOpen : Stmt := topS 20
abbrev nSpread : List Str := ["cell", "at", "primes", "one", "two", "three"]
abbrev nTake : List Str := ["pen", "amount", "at", "cell", "found"]
abbrev nOneOf : List Str := ["pen", "some"]
abbrev nOpen : List Str := ["script", "cells", "k", "cell"]
theorem scSpread : FnScope nSpread ["cell", "at"] (defScope sSpread) := ⟨rfl, rfl, rfl, by decide +kernel, rfl, by decide +kernel, by decide +kernel⟩
theorem scTake : FnScope nTake ["pen", "amount"] (defScope sTake) := ⟨rfl, rfl, rfl, by decide +kernel, rfl, by decide +kernel, by decide +kernel⟩
theorem scOneOf : FnScope nOneOf ["pen", "some"] (defScope sOneOf) := ⟨rfl, rfl, rfl, by decide +kernel, rfl, by decide +kernel, by decide +kernel⟩
theorem scOpen : FnScope nOpen ["script"] (defScope sOpen) := ⟨rfl, rfl, rfl, by decide +kernel, rfl, by decide +kernel, by decide +kernel⟩
structure Fs1 (K : PySem.W.Frag) (mg : Str → Option Value) : Prop where
  mi : mg "int" = none
  ml : mg "len" = none
  mli : mg "list" = none
  men : mg "enumerate" = none
  fSpread : Df K mg "_law_spread" sSpread ["cell", "at"]
  fTake : Df K mg "_law_take" sTake ["pen", "amount"]
  fOneOf : Df K mg "_law_one_of" sOneOf ["pen", "some"]
  fOpen : Df K mg "_law_open" sOpen ["script"]
def primes : List Int := [2147483629, 2147483587, 2147483579, 2147483563, 2147483549, 2147483543, 2147483497, 2147483489, 2147483477, 2147483423, 2147483399, 2147483353, 2147483323]
theorem prime_at (i : Int) (h0 : 0 ≤ i) (h1 : i < 13) : ∃ q : Int, L2.atI (primes.map D.int) i = some (.int q) ∧ 0 < q ∧ q < 2 ^ 31 := by
  obtain rfl | rfl | rfl | rfl | rfl | rfl | rfl | rfl | rfl | rfl | rfl | rfl | rfl : i = 0 ∨ i = 1 ∨ i = 2 ∨ i = 3 ∨ i = 4 ∨ i = 5 ∨ i = 6 ∨ i = 7 ∨ i = 8 ∨ i = 9 ∨ i = 10 ∨ i = 11 ∨ i = 12 := by omega
  all_goals exact ⟨_, rfl, by decide, by decide⟩
section
variable {P : Program} {w : World} {K : PySem.W.Frag} {mg : Str → Option Value} {base : Heap}
theorem ok_spread (h : Fs1 K mg) (cell att : Int) (h0 : 0 ≤ att) (h1 : att ≤ 1000000) : ∃ z : Int, Fn P w K mg base "_law_spread" 2 1 (FS0 K [.int cell, .int att] (.val (.int z))) := by
  have mi := h.mi
  by_cases hc : (10 : Int) ^ 18 ≤ cell
  · refine ⟨cell, fd0 h.fSpread scSpread rfl (env0 := [vl (.int cell), vl (.int att), none, none, none, none]) rfl fun f cdv A outer s H E hr => ?_⟩
    apply Exists.intro
    refine ex_stop (x1_if (tv_ge (ev_name 0 rfl) (ev_pow ev_int ev_int ⟨by decide, by decide, by decide⟩)) (fun _ => ex_one (x1_ret (ev_name 0 rfl))) (fun h => ?_))
    exact absurd hc (of_decide_eq_false h)
  · have hm0 : 0 ≤ cell % 1000000007 := Int.emod_nonneg _ (by decide)
    have hm1 : cell % 1000000007 < 1000000007 := Int.emod_lt_of_pos _ (by decide)
    have p0 := Int.mul_nonneg hm0 (show 0 ≤ 2 * att + 69069 by omega)
    have p1 : cell % 1000000007 * (2 * att + 69069) ≤ 1000000007 * 2069069 := Int.mul_le_mul (by omega) (by omega) (by omega) (by decide)
    obtain ⟨q1, e1, a1, b1⟩ := prime_at (att % 13) (by omega) (by omega)
    obtain ⟨q2, e2, a2, b2⟩ := prime_at ((att + 5) % 13) (by omega) (by omega)
    obtain ⟨q3, e3, a3, b3⟩ := prime_at ((att + 7) % 13) (by omega) (by omega)
    generalize hx : cell % 1000000007 * (2 * att + 69069) + att * 40503 + 977 = x at *
    have hxl : x.natAbs < 2 ^ 64 := by omega
    generalize hy : x ^ 3 % q1 = y1
    have hy0 : 0 ≤ y1 := hy ▸ Int.emod_nonneg _ (by omega)
    have hy1 : y1 < q1 := hy ▸ Int.emod_lt_of_pos _ a1
    have r0 := Int.mul_nonneg hy0 (show 0 ≤ att + 3 by omega)
    have r1 : y1 * (att + 3) ≤ 2147483648 * 1000003 := Int.mul_le_mul (by omega) (by omega) (by omega) (by decide)
    generalize hz : y1 * (att + 3) = z at *
    have hw0 : 0 ≤ cell % 65537 := Int.emod_nonneg _ (by decide)
    have hw1 : cell % 65537 < 65537 := Int.emod_lt_of_pos _ (by decide)
    generalize hy2 : (z + cell % 65537 + 5) ^ 5 % q2 = y2
    have hy20 : 0 ≤ y2 := hy2 ▸ Int.emod_nonneg _ (by omega)
    have hy21 : y2 < q2 := hy2 ▸ Int.emod_lt_of_pos _ a2
    refine ⟨(y1 * 2147483647 + y2) * 2147483647 + (y2 + y1 % 1009 + att) ^ 3 % q3, fd0 h.fSpread scSpread rfl (env0 := [vl (.int cell), vl (.int att), none, none, none, none]) rfl fun f cdv A outer s H E hr => ?_⟩
    apply Exists.intro
    have hn := scSpread.nd
    refine ex_cons (x1_if (tv_ge (ev_name 0 rfl) (ev_pow ev_int ev_int ⟨by decide, by decide, by decide⟩)) (fun h => absurd (of_decide_eq_true h) hc) (fun _ => ex_nil)) ?_
    refine ex_cons (x1_set 2 (ev_lstF (ds := (primes.take 8).map D.int) (ea_cons ev_int (ea_cons ev_int (ea_cons ev_int (ea_cons ev_int (ea_cons ev_int (ea_cons ev_int (ea_cons ev_int (ea_cons ev_int ea_nil)))))))))) ?_
    refine ex_cons (x1_set 2 (ev_cat (ev_name 2 rfl) (ev_lstF (ds := (primes.drop 8).map D.int) (ea_cons ev_int (ea_cons ev_int (ea_cons ev_int (ea_cons ev_int (ea_cons ev_int ea_nil)))))) (by decide)).frz) ?_
    refine ex_cons (x1_set 3 ((ev_add (ev_add (ev_mul (ev_mod (ev_intI (ev_name 0 rfl) mi) ev_int (by decide)) (ev_add (ev_mul ev_int (ev_name 1 rfl) (.inl ⟨by decide, by decide⟩)) ev_int) (.inl ⟨by omega, by omega⟩)) (ev_mul (ev_name 1 rfl) ev_int (.inr ⟨by decide, by decide⟩))) ev_int).eq (m' := .val (.int x)) (by rw [hx]))) ?_
    refine ex_cons (x1_set 3 ((ev_mod (ev_intI (ev_pow (ev_name 3 rfl) ev_int ⟨by decide, by decide, hxl⟩) mi) (ev_ixL (ds := primes.map D.int) (ev_name 2 rfl) (ev_mod (ev_intI (ev_name 1 rfl) mi) ev_int (by decide)) e1) a1).eq (m' := .val (.int y1)) (by rw [← hy]; rfl))) ?_
    refine ex_cons (x1_set 4 ((ev_mod (ev_intI (ev_pow (ev_add (ev_add (ev_mul (ev_name 3 rfl) (ev_add (ev_name 1 rfl) ev_int) (.inl ⟨by omega, by omega⟩)) (ev_mod (ev_intI (ev_name 0 rfl) mi) ev_int (by decide))) ev_int) ev_int ⟨by decide, by decide, by rw [hz]; omega⟩) mi) (ev_ixL (ds := primes.map D.int) (ev_name 2 rfl) (ev_mod (ev_intI (ev_add (ev_name 1 rfl) ev_int) mi) ev_int (by decide)) e2) a2).eq (m' := .val (.int y2)) (by rw [hz, ← hy2]; rfl))) ?_
    refine ex_cons (x1_set 5 (ev_mod (ev_intI (ev_pow (ev_add (ev_add (ev_name 4 rfl) (ev_mod (ev_intI (ev_name 3 rfl) mi) ev_int (by decide))) (ev_name 1 rfl)) ev_int ⟨by decide, by decide, by omega⟩) mi) (ev_ixL (ds := primes.map D.int) (ev_name 2 rfl) (ev_mod (ev_intI (ev_add (ev_name 1 rfl) ev_int) mi) ev_int (by decide)) e3) a3)) ?_
    exact ex_stop (x1_ret (ev_add (ev_mul (ev_add (ev_mul (ev_name 3 rfl) ev_int (.inl ⟨by omega, by omega⟩)) (ev_name 4 rfl)) ev_int (.inr ⟨by decide, by decide⟩)) (ev_name 5 rfl)))
theorem ok_take (h : Fs1 K mg) {B : Int} (hB : B ≤ 999999) {m : M} (hp : PenOk B m) (n : Int) (h0 : 0 < n) (h1 : n < 1073741824) :
    ∃ (r : Int) (m' : M), Fn P w K mg base "_law_take" 2 2 (FS1 K [] m [.int n] (.val (.int r)) m') ∧ 0 ≤ r ∧ r < n ∧ PenOk (B + 1) m' := by
  obtain ⟨cells, a, c, rfl, ha, hb⟩ := hp
  have mi := h.mi
  have ml := h.ml
  by_cases hc : c < n
  · let v : Int := if a < cells.length then cells.getD a.toNat 0 else if (0 : Int) < cells.length then cells.getD ((a * 5 + 3) % cells.length).toNat 0 % (10 ^ 17 + a) else 0
    obtain ⟨z, hz⟩ := ok_spread (P := P) (w := w) (base := base) h v a ha (by omega)
    refine ⟨z % n, penM cells (a + 1) (z / n), fd1 (pre := []) h.fTake scTake rfl (env0 := [some (.io (penM cells a c)), vl (.int n), none, none, none]) rfl fun f cdv A outer s H E hr => ?_, Int.emod_nonneg _ (by omega), Int.emod_lt_of_pos _ h0, ⟨cells, a + 1, z / n, rfl, by omega, by omega⟩⟩
    apply Exists.intro
    have hn := scTake.nd
    refine ⟨?_, ?_⟩
    · refine ex_cons (env1 := [some (.io (penM cells (a + 1) z)), vl (.int n), vl (.int a), vl (.int v), none]) (x1_if (tv_lt (ev_pu (pu_ixO (pu_name 0 rfl) pu_int pen2)) (ev_name 1 rfl)) (fun _ => ?_) (fun h => absurd hc (of_decide_eq_false h))) ?_
      · refine ex_cons (x1_set 2 (ev_pu (pu_ixO (pu_name 0 rfl) pu_int pen1))) ?_
        refine ex_cons (x1_set 3 ev_int) ?_
        refine ex_cons (x1_if (out := .nx [some (.io (penM cells a c)), vl (.int n), vl (.int a), vl (.int v), none]) (tv_lt (ev_name 2 rfl) (ev_pu (pu_lenO (pu_ixO (pu_name 0 rfl) pu_int pen0)))) (fun hk => ?_) (fun hk => ?_)) ?_
        · have hk := of_decide_eq_true hk
          rw [List.length_map] at hk
          exact ex_one (x1_set 3 ((ev_pu (pu_ixO (pu_ixO (pu_name 0 rfl) pu_int pen0) (pu_name 2 rfl) (atI_map ha (by omega) 0))).eq (by rw [show v = _ from if_pos hk])))
        · have hk := of_decide_eq_false hk
          rw [List.length_map] at hk
          refine ex_one (x1_if (tv_gt (ev_pu (pu_lenO (pu_ixO (pu_name 0 rfl) pu_int pen0))) ev_int) (fun hj => ?_) (fun hj => ?_))
          · have hj := of_decide_eq_true hj
            rw [List.length_map] at hj
            refine ex_one (x1_set 3 ((ev_mod (ev_intI (ev_pu (pu_ixO (pu_ixO (pu_name 0 rfl) pu_int pen0) (pu_mod (pu_intI (pu_add (pu_mul (pu_name 2 rfl) pu_int (.inr ⟨by decide, by decide⟩)) pu_int)) (pu_lenO (pu_ixO (pu_name 0 rfl) pu_int pen0)) (by rw [List.length_map]; omega)) (atI_map (d := 0) (by rw [List.length_map]; exact Int.emod_nonneg _ (by omega)) (by rw [List.length_map]; exact Int.emod_lt_of_pos _ hj)))) mi) (ev_add (ev_pow ev_int ev_int ⟨by decide, by decide, by decide⟩) (ev_name 2 rfl)) (by rw [show (10 : Int) ^ Int.toNat 17 = 100000000000000000 from rfl]; omega)).eq ?_))
            rw [show v = _ from (if_neg hk).trans (if_pos hj), List.length_map]
            rfl
          · have hj := of_decide_eq_false hj
            rw [List.length_map] at hj
            rw [show v = _ from (if_neg hk).trans (if_neg hj)]
            exact ex_nil
        · refine ex_cons (x1_setL 0 (ev_add (ev_name 2 rfl) ev_int) ev_int rfl rfl rfl) ?_
          exact Ex.eq (ex_one (x1_setL 0 (ev_call hz (hr.mono (by decide)) (ds := [.int v, .int a]) (ea_cons (ev_name 3 rfl) (ea_cons (ev_name 2 rfl) ea_nil))) ev_int rfl rfl rfl))
      · refine ex_cons (x1_set 4 (ev_mod (ev_intI (ev_pu (pu_ixO (pu_name 0 rfl) pu_int rfl)) mi) (ev_name 1 rfl) h0)) ?_
        refine ex_cons (x1_setL 0 (ev_div (ev_pu (pu_ixO (pu_name 0 rfl) pu_int rfl)) (ev_name 1 rfl) ⟨h0, h1⟩) ev_int rfl rfl rfl) ?_
        exact ex_stop (x1_ret (ev_name 4 rfl))
    · rfl
  · refine ⟨c % n, penM cells a (c / n), fd1 (pre := []) h.fTake scTake rfl (env0 := [some (.io (penM cells a c)), vl (.int n), none, none, none]) rfl fun f cdv A outer s H E hr => ?_, Int.emod_nonneg _ (by omega), Int.emod_lt_of_pos _ h0, ⟨cells, a, c / n, rfl, by omega, by omega⟩⟩
    apply Exists.intro
    have hn := scTake.nd
    refine ⟨?_, ?_⟩
    · refine ex_cons (x1_if (tv_lt (ev_pu (pu_ixO (pu_name 0 rfl) pu_int pen2)) (ev_name 1 rfl)) (fun h => absurd (of_decide_eq_true h) hc) (fun _ => ex_nil)) ?_
      refine ex_cons (x1_set 4 (ev_mod (ev_intI (ev_pu (pu_ixO (pu_name 0 rfl) pu_int pen2)) mi) (ev_name 1 rfl) h0)) ?_
      refine ex_cons (x1_setL 0 (ev_div (ev_pu (pu_ixO (pu_name 0 rfl) pu_int pen2)) (ev_name 1 rfl) ⟨h0, h1⟩) ev_int rfl rfl rfl) ?_
      exact ex_stop (x1_ret (ev_name 4 rfl))
    · rfl
end
section
variable {P : Program} {w : World} {K : PySem.W.Frag} {mg : Str → Option Value} {base : Heap}
theorem ok_oneOf (h : Fs1 K mg) {B : Int} (hB : B ≤ 999999) {m : M} (hp : PenOk B m) (ds : List D) (h0 : 0 < ds.length) (h1 : ds.length < 1073741824) :
    ∃ (d : D) (m' : M), Fn P w K mg base "_law_one_of" 2 3 (FS1 K [] m [.lst ds] (.val d) m') ∧ d ∈ ds ∧ PenOk (B + 1) m' := by
  have ml := h.ml
  obtain ⟨r, m', hz, r0, r1, hp'⟩ := ok_take (P := P) (w := w) (base := base) h hB hp ds.length (by omega) (by omega)
  have hl : r.toNat < ds.length := by omega
  refine ⟨ds[r.toNat], m', fd1 (pre := []) h.fOneOf scOneOf rfl (env0 := [some (.io m), vl (.lst ds)]) rfl fun f cdv A outer s H E hr => ?_, List.getElem_mem hl, hp'⟩
  apply Exists.intro
  refine ⟨?_, ?_⟩
  · exact ex_stop (x1_ret (ev_ixL (ev_name 1 rfl) (ev_call1 (pre := []) (post := [.int ds.length]) hz hr (ea_lend 0 rfl (ea_cons (ev_lenL (ev_name 1 rfl) ml) ea_nil)) rfl) (atI_of r0 (List.getElem?_eq_getElem hl))))
  · rfl
theorem ok_open (h : Fs1 K mg) (ns : List Int) : ∃ m : M, Fn P w K mg base "_law_open" 1 1 (FS0 K [.scr ns] m) ∧ PenOk 0 m := by
  have mi := h.mi
  have mli := h.mli
  have men := h.men
  let next (cs : List Int) (p : Int × Nat) : List Int := cs.set (p.2 % 12) (cs.getD (p.2 % 12) 0 + p.1)
  refine ⟨penM (((cutD ns (some 12) (some 63)).zipIdx 0).foldl next (cutD ns none (some 12))) 0 0, fd0 (ds := [.scr ns]) h.fOpen scOpen rfl (env0 := [vl (.scr ns), none, none, none]) rfl fun f cdv A outer s H E hr => ?_, ⟨_, 0, 0, rfl, by decide, by decide⟩⟩
  apply Exists.intro
  have hn := scOpen.nd
  refine ex_cons (x1_set 1 ((ev_listL (Ev.frzL (ev_slS (ev_name 0 rfl) po_no (po_ev ev_int)))).eq (lstVI _))) ?_
  refine ex_cons (x1_for ((iv_enum (Ev.frzL (ev_slS (ev_name 0 rfl) (po_ev ev_int) (po_ev ev_int)))).eq (enumD_map D.int 0 _))
    (forR_fold (fun cs : List Int => [vl (.scr ns), some (.own (.lst (cs.map fun i => .val (.int i)))), none, none]) _ next (fun as cs => as ≠ [] → cs.length = 12) (fun p as cs hI => ?_) _ (cutD ns none (some 12)) (fun hne => ?_))) ?_
  · obtain ⟨c, k⟩ := p
    have hc := hI (by simp)
    have hl : k % 12 < cs.length := by omega
    refine ⟨⟨_, _, tg_tup (tgs_cons (tg_name 2) (tgs_cons (tg_name 3) tgs_nil)), ?_⟩, fun _ => by rw [List.length_set]; exact hc⟩
    have hj : ixN (cs.map fun i => M.val (D.int i)).length ((k : Int) % 12) = some (k % 12) := by
      rw [List.length_map, ixN_of (n := cs.length) (i := (k : Int) % 12) (by omega) (by omega)]
      congr 1
    refine Ex.eq (Ex.fgt 3 (Ex.fgt 2 (ex_one (x1_setL 1 (j := k % 12) (ev_add (ev_pu (pu_ixO (pu_name 1 rfl) (pu_mod (pu_intI (pu_name 2 rfl)) pu_int (by decide)) (atI_map (d := 0) (xs := cs) (i := (k : Int) % 12) (by omega) (by omega)))) (ev_name 3 rfl)) (ev_mod (ev_intI (ev_name 2 rfl) mi) ev_int (by decide)) rfl rfl hj)))) ?_
    show Out.nx [vl (.scr ns), some (Sl.own (M.lst ((cs.map fun i => M.val (D.int i)).set (k % 12) (M.val (D.int (cs.getD ((k : Int) % 12).toNat 0 + c)))))), none, none] = _
    rw [show ((k : Int) % 12).toNat = k % 12 by omega, ← List.map_set]
  · rw [cut_12]
    have := cut_rest (xs := ns) fun z => hne (by rw [z]; rfl)
    omega
  exact ex_stop (x1_ret (ev_lstM (em_cons (ev_move 1 rfl) (em_cons ev_int (em_cons ev_int em_nil)))))
end
abbrev sGrown : Stmt := topS 26
abbrev sDraw : Stmt := topS 27
abbrev nGrown : List Str := ["pen", "sides", "way", "many"]
abbrev nDraw : List Str := ["pen", "many", "sides", "rest"]
theorem scGrown : FnScope nGrown ["pen", "sides", "way"] (defScope sGrown) := ⟨rfl, rfl, rfl, by decide +kernel, rfl, by decide +kernel, by decide +kernel⟩
theorem scDraw : FnScope nDraw ["pen", "many"] (defScope sDraw) := ⟨rfl, rfl, rfl, by decide +kernel, rfl, by decide +kernel, by decide +kernel⟩
structure Fs2 (K : PySem.W.Frag) (mg : Str → Option Value) : Prop extends Fs1 K mg where
  mra : mg "range" = none
  fGrown : Df K mg "_law_grown" sGrown ["pen", "sides", "way"]
  fDraw : Df K mg "_law_draw_tree" sDraw ["pen", "many"]
section
variable {P : Program} {w : World} {K : PySem.W.Frag} {mg : Str → Option Value} {base : Heap}
theorem ok_grown (h : Fs2 K mg) (way : Int) (hw : way = 0 ∨ way = 1 ∨ way = 2) : ∀ (n : Nat) (ns : List Int), ns.length = n → 0 < n → n ≤ 1000 → ∀ {B : Int} {m : M}, B + n ≤ 999999 → PenOk B m →
    ∃ (t : Tr) (m' : M), Fn P w K mg base "_law_grown" 3 (n + 2) (FS1 K [] m [.lst (ns.map D.int), .int way] (.val t.d) m') ∧ t.leaves = ns ∧ PenOk (B + (n - 1)) m' := by
  have ml := h.ml
  intro n
  induction n using Nat.strongRecOn with
  | ind n ih =>
    intro ns hl h0 hz B m hB hp
    have hlen : (ns.map D.int).length = n := by rw [List.length_map, hl]
    by_cases h1 : n = 1
    · obtain ⟨x, rfl⟩ : ∃ x, ns = [x] := List.length_eq_one_iff.mp (hl.trans h1)
      subst h1
      refine ⟨.leaf x, m, fd1 (pre := []) (post := [.lst [.int x], .int way]) h.fGrown scGrown rfl (env0 := [some (.io m), vl (.lst [.int x]), vl (.int way), none]) rfl fun f cdv A outer s H E hr => ?_, rfl, hp.mono (by omega)⟩
      apply Exists.intro
      refine ⟨?_, ?_⟩
      · exact ex_stop (x1_if (tv_eqI (ev_lenL (ev_name 1 rfl) ml) ev_int hr.units) (fun _ => ex_one (x1_ret (ev_ixL (ev_name 1 rfl) ev_int rfl))) (fun z => absurd rfl (of_decide_eq_false z)))
      · rfl
    · obtain ⟨r, m1, hz1, r0, r1, hp1⟩ := ok_take (P := P) (w := w) (base := base) h.toFs1 (by omega) hp ((n : Int) - 1) (by omega) (by omega)
      -- where the list is cut
      obtain ⟨many, hm1, hm2, hm3⟩ : ∃ many : Int, 1 ≤ many ∧ many ≤ (n : Int) - 1 ∧ L2.atI [D.int ((n : Int) / 2), .int ((n : Int) - 1), .int (1 + r)] way = some (.int many) := by
        rcases hw with rfl | rfl | rfl
        · exact ⟨_, by omega, by omega, rfl⟩
        · exact ⟨_, by omega, by omega, rfl⟩
        · exact ⟨_, by omega, by omega, rfl⟩
      have la : (ns.take many.toNat).length = many.toNat := by rw [List.length_take]; omega
      have lb : (ns.drop many.toNat).length = n - many.toNat := by rw [List.length_drop]; omega
      obtain ⟨t1, m2, hz2, e1, hp2⟩ := ih many.toNat (by omega) (ns.take many.toNat) la (by omega) (by omega) (by omega) hp1
      obtain ⟨t2, m3, hz3, e2, hp3⟩ := ih (n - many.toNat) (by omega) (ns.drop many.toNat) lb (by omega) (by omega) (by omega) hp2
      refine ⟨.node t1 t2, m3, fd1 (pre := []) (post := [.lst (ns.map D.int), .int way]) h.fGrown scGrown rfl (env0 := [some (.io m), vl (.lst (ns.map D.int)), vl (.int way), none]) rfl fun f cdv A outer s H E hr => ?_, by rw [Tr.leaves, e1, e2, List.take_append_drop], hp3.mono (by omega)⟩
      apply Exists.intro
      have hn := scGrown.nd
      have c1 : Lin.cutD (ns.map D.int) none (some many) = (ns.take many.toNat).map D.int := by rw [cut_to (by omega) (by omega), List.map_take]
      have c2 : Lin.cutD (ns.map D.int) (some many) none = (ns.drop many.toNat).map D.int := by rw [cut_from (by omega) (by omega), List.map_drop]
      have hln : ((ns.map D.int).length : Int) = n := by rw [hlen]
      refine ⟨?_, ?_⟩
      · refine ex_cons (x1_if (tv_eqI ((ev_lenL (ev_name 1 rfl) ml).eq (m' := .val (.int n)) (by rw [hln])) ev_int hr.units) (fun z => absurd (of_decide_eq_true z) (by omega)) (fun _ => ex_nil)) ?_
        refine ex_cons (x1_set 3 (ev_ixL (ds := [D.int ((n : Int) / 2), .int ((n : Int) - 1), .int (1 + r)]) (ev_lstF (ea_cons (ev_div ((ev_lenL (ev_name 1 rfl) ml).eq (m' := .val (.int n)) (by rw [hln])) ev_int ⟨by decide, by decide⟩) (ea_cons (ev_sub ((ev_lenL (ev_name 1 rfl) ml).eq (m' := .val (.int n)) (by rw [hln])) ev_int)
          (ea_cons (ev_add ev_int (ev_call1 (pre := []) (post := [.int ((n : Int) - 1)]) hz1 (hr.mono (by omega)) (ea_lend 0 rfl (ea_cons (ev_sub ((ev_lenL (ev_name 1 rfl) ml).eq (m' := .val (.int n)) (by rw [hln])) ev_int) ea_nil)) rfl)) ea_nil)))) (ev_name 2 rfl) hm3)) ?_
        refine ex_stop (x1_ret (ev_tup (ds := [t1.d, t2.d]) (ea_cons (ev_call1 (pre := []) (post := [.lst ((ns.take many.toNat).map D.int), .int way]) hz2 (hr.mono (by omega)) (ea_lend 0 rfl (ea_cons ((Ev.frzL (ev_slL (ev_name 1 rfl) po_no (po_ev (ev_name 3 rfl)))).eq (by rw [c1])) (ea_cons (ev_name 2 rfl) ea_nil))) rfl)
          (ea_cons (ev_call1 (pre := []) (post := [.lst ((ns.drop many.toNat).map D.int), .int way]) hz3 (hr.mono (by omega)) (ea_lend 0 rfl (ea_cons ((Ev.frzL (ev_slL (ev_name 1 rfl) (po_ev (ev_name 3 rfl)) po_no)).eq (by rw [c2])) (ea_cons (ev_name 2 rfl) ea_nil))) rfl) ea_nil))))
      · rfl
end
abbrev cDraw : Expr := whC (stAt (defBody sDraw) 1)
abbrev bDraw : List Stmt := whB (stAt (defBody sDraw) 1)
abbrev intsM (ns : List Int) : M := .lst (ns.map fun i => .val (.int i))
section
variable {P : Program} {w : World} {K : PySem.W.Frag} {mg : Str → Option Value} {base : Heap}
theorem draw_loop (h : Fs2 K mg) (many : Int) : ∀ (n : Nat) (rest sides : List Int), rest.length = n → sides.length + n ≤ 1000 → ∀ {B : Int} {m : M}, B + n ≤ 999999 → PenOk B m →
    ∃ (sides' : List Int) (m' : M), sides'.Perm (sides ++ rest) ∧ PenOk (B + n) m' ∧
      In0 P w K mg base nDraw "_law_draw_tree" sDraw 2 fun X => WhR X cDraw bDraw n [some (.io m), vl (.int many), some (.own (intsM sides)), some (.own (intsM rest))] (.nx [some (.io m'), vl (.int many), some (.own (intsM sides')), some (.own (intsM []))])
  | 0, rest, sides, hl, _, B, m, hB, hp => by
    obtain rfl := List.length_eq_zero_iff.mp hl
    refine ⟨sides, m, by rw [List.append_nil], hp.mono (by omega), fun f cdv A outer s H E hr => ?_⟩
    exact .stop ((tv_neInts 3 (ns := []) rfl rfl hr.units).eq rfl)
  | n + 1, rest, sides, hl, hz, B, m, hB, hp => by
    have ml := h.ml
    obtain ⟨r, m1, hz1, r0, r1, hp1⟩ := ok_take (P := P) (w := w) (base := base) h.toFs1 (by omega) hp rest.length (by omega) (by omega)
    have hj : r.toNat < rest.length := by omega
    have hx : rest[r.toNat]? = some rest[r.toNat] := List.getElem?_eq_getElem hj
    obtain ⟨sides', m', pm, hp', wh⟩ := draw_loop h many n (rest.eraseIdx r.toNat) (sides ++ [rest[r.toNat]]) (by rw [erase_len hj]; omega) (by rw [List.length_append]; simp; omega) (by omega) hp1
    refine ⟨sides', m', pm.trans ?_, hp'.mono (by omega), fun f cdv A outer s H E hr => ?_⟩
    · rw [List.append_assoc]
      exact (Lin.erase_perm rest r.toNat _ hx).append_left sides
    have hne : rest ≠ [] := fun z => by rw [z] at hl; cases hl
    have hlm : (rest.map fun i => M.val (.int i)).length = rest.length := List.length_map ..
    refine .nx ((tv_neInts 3 (ns := rest) rfl rfl hr.units).eq (decide_eq_true hne)) ?_ (wh f cdv A outer s H E hr)
    refine Ex.eq (ex_one (x1_expr (ev_append 2 (em_cons (ev_popAt 3 (m := .val (.int rest[r.toNat])) (ev_call1 (pre := []) (post := [.int rest.length]) hz1 hr (ea_lend 0 rfl (ea_cons ((ev_pu (pu_lenO (pu_name 3 rfl) ml)).eq (m' := .val (.int rest.length)) (by rw [hlm])) ea_nil)) rfl) rfl rfl (seqIx r0 (by rw [hlm]; exact r1)) (by rw [List.getElem?_map, hx]; rfl) (by omega) (by omega)) em_nil) rfl rfl (by rw [List.length_map]; have : sizeLine = 16777216 := sizeLine_eq; omega)))) ?_
    show Out.nx [some (.io m1), vl (.int many), some (.own (.lst ((sides.map fun i => M.val (.int i)) ++ [M.val (.int rest[r.toNat])]))), some (.own (.lst ((rest.map fun i => M.val (.int i)).eraseIdx r.toNat)))] = _
    rw [erase_map, intsM, intsM, List.map_append]
    rfl
theorem ok_draw (h : Fs2 K mg) (n : Nat) (h0 : 1 ≤ n) (h1 : n ≤ 1000) {B : Int} {m : M} (hB : B + 2 * n + 1 ≤ 999999) (hp : PenOk B m) :
    ∃ (t : Tr) (m' : M), Fn P w K mg base "_law_draw_tree" 2 (n + 4) (FS1 K [] m [.int n] (.val t.d) m') ∧ t.leaves.Perm (rangeI n) ∧ PenOk (B + 2 * n) m' := by
  have mli := h.mli
  have mra := h.mra
  obtain ⟨sides, m1, pm, hp1, wh⟩ := draw_loop (P := P) (w := w) (base := base) h n n (rangeI n) [] (rangeI_len n) (by simp; exact h1) (by omega) hp
  rw [List.nil_append] at pm
  have hl : sides.length = n := by rw [pm.length_eq, rangeI_len]
  obtain ⟨d, m2, hz2, hd, hp2⟩ := ok_oneOf (P := P) (w := w) (base := base) h.toFs1 (by omega) hp1 [.int 0, .int 0, .int 1, .int 2] (by decide) (by decide)
  obtain ⟨way, rfl, hw⟩ : ∃ way : Int, d = .int way ∧ (way = 0 ∨ way = 1 ∨ way = 2) := by
    simp only [List.mem_cons, List.not_mem_nil, or_false] at hd
    rcases hd with rfl | rfl | rfl | rfl
    · exact ⟨0, rfl, .inl rfl⟩
    · exact ⟨0, rfl, .inl rfl⟩
    · exact ⟨1, rfl, .inr (.inl rfl)⟩
    · exact ⟨2, rfl, .inr (.inr rfl)⟩
  obtain ⟨t, m3, hz3, et, hp3⟩ := ok_grown (P := P) (w := w) (base := base) h way hw n sides hl (by omega) h1 (by omega) hp2
  refine ⟨t, m3, fd1 (pre := []) (post := [.int n]) h.fDraw scDraw rfl (env0 := [some (.io m), vl (.int n), none, none]) rfl fun f cdv A outer s H E hr => ?_, by rw [et]; exact pm, hp3.mono (by omega)⟩
  apply Exists.intro
  have hn := scDraw.nd
  refine ⟨?_, ?_⟩
  · refine ex_cons (Ex1.eq (out' := .nx [some (.io m), vl (.int n), some (.own (intsM [])), some (.own (intsM (rangeI n)))]) (x1_par 2 3 (em_cons (ev_lstM em_nil) (em_cons (ev_listRg (ev_name 1 rfl) (by omega) (by omega) mli mra) em_nil))) (by rw [Int.toNat_natCast, lstVI]; rfl)) ?_
    refine ex_cons (x1_while (wh f cdv A outer s H E (hr.mono (by omega)))) ?_
    refine ex_frz 2 rfl ?_
    refine ex_stop (x1_ret (ev_call1 (pre := []) (post := [.lst (sides.map D.int), .int way]) hz3 (hr.mono (by omega)) (ea_lend 0 rfl (ea_cons ((ev_name 2 rfl).eq (by rw [frz_ints])) (ea_cons (ev_call1 (pre := []) (post := [.lst [.int 0, .int 0, .int 1, .int 2]]) hz2 (hr.mono (by omega)) (ea_lend 0 rfl (ea_cons (ev_lstF (ea_cons ev_int (ea_cons ev_int (ea_cons ev_int (ea_cons ev_int ea_nil))))) ea_nil)) rfl) ea_nil))) rfl))
  · rfl
end
abbrev sNote : Stmt := topS 28
abbrev sLMatches : Stmt := topS 29
abbrev sLSides : Stmt := topS 30
abbrev nNote : List Str := ["tree", "found", "first", "second"]
abbrev nLMatches : List Str := ["tree", "found"]
abbrev nLSides : List Str := ["tree", "found", "parts", "some", "kind", "one"]
theorem scNote : FnScope nNote ["tree", "found"] (defScope sNote) := ⟨rfl, rfl, rfl, by decide +kernel, rfl, by decide +kernel, by decide +kernel⟩
theorem scLMatches : FnScope nLMatches ["tree"] (defScope sLMatches) := ⟨rfl, rfl, rfl, by decide +kernel, rfl, by decide +kernel, by decide +kernel⟩
theorem scLSides : FnScope nLSides ["tree"] (defScope sLSides) := ⟨rfl, rfl, rfl, by decide +kernel, rfl, by decide +kernel, by decide +kernel⟩
structure Fs3 (K : PySem.W.Frag) (mg : Str → Option Value) : Prop extends Fs2 K mg where
  mis : mg "isinstance" = none
  mtu : mg "tuple" = none
  mso : mg "sorted" = none
  kII : PySem.W.kitOne K (.type "int") (.type "int") = some true
  kTI : PySem.W.kitOne K (.type "tuple") (.type "int") = some false
  fNote : Df K mg "_law_note" sNote ["tree", "found"]
  fLMatches : Df K mg "_law_matches" sLMatches ["tree"]
  fLSides : Df K mg "_law_sides" sLSides ["tree"]
section
variable {P : Program} {w : World} {K : PySem.W.Frag} {mg : Str → Option Value} {base : Heap}
theorem ok_note (h : Fs3 K mg) : ∀ (t : Tr) (f : Prs), f.length + t.leaves.length ≤ 1000 → Fn P w K mg base "_law_note" 2 (t.leaves.length + 1) (FS1 K [t.d] (prsM f) [] (.val (note t f).1.d) (prsM (note t f).2))
  | .leaf n, f, hz => by
    have mis := h.mis
    have mi := h.mi
    refine fd1 (pre := [.int n]) (post := []) h.fNote scNote rfl (env0 := [vl (.int n), some (.io (prsM f)), none, none]) rfl fun f cdv A outer s H E hr => ?_
    apply Exists.intro
    refine ⟨?_, ?_⟩
    · exact ex_stop (x1_if (tv_val (ev_pu (pu_isi (d := .int n) (pu_name 0 rfl) h.kII (by decide +kernel) mi mis))) (fun _ => ex_one (x1_ret (ev_tup (ds := [.str strSide, .int n]) (ea_cons ev_str (ea_cons (ev_name 0 rfl) ea_nil))))) (fun z => nomatch z))
    · rfl
  | .node l r, f, hz => by
    have mis := h.mis
    have mi := h.mi
    have ml := h.ml
    have lp := l.leaves_pos
    have rp := r.leaves_pos
    have hz : f.length + (l.leaves ++ r.leaves).length ≤ 1000 := hz
    rw [List.length_append] at hz
    have hl := note_len l f
    have hl2 := note_len r (note l f).2
    have h1 := ok_note h l f (by omega)
    have h2 := ok_note h r (note l f).2 (by omega)
    have lv : (Tr.node l r).leaves.length = l.leaves.length + r.leaves.length := List.length_append ..
    refine fd1 (pre := [.tup [l.d, r.d]]) (post := []) h.fNote scNote rfl (env0 := [vl (.tup [l.d, r.d]), some (.io (prsM f)), none, none]) rfl fun fa cdv A outer s H E hr => ?_
    apply Exists.intro
    have hn := scNote.nd
    refine ⟨?_, ?_⟩
    · refine ex_cons (x1_if (tv_val (ev_pu (pu_isi (d := .tup [l.d, r.d]) (pu_name 0 rfl) h.kTI (by decide +kernel) mi mis))) (fun z => nomatch z) (fun _ => ex_nil)) ?_
      refine ex_cons (x1_par 2 3 (em_cons (ev_call1 (pre := [l.d]) (post := []) h1 (hr.mono (by omega)) (ea_cons (ev_ixT (ev_name 0 rfl) ev_int rfl) (ea_lend 1 rfl ea_nil)) rfl) (em_cons (ev_call1 (pre := [r.d]) (post := []) h2 (hr.mono (by omega)) (ea_cons (ev_ixT (ev_name 0 rfl) ev_int rfl) (ea_lend 1 rfl ea_nil)) rfl) em_nil))) ?_
      refine ex_cons (x1_expr (ev_append 1 (em_cons (ev_tup (ds := [(note l f).1.d, (note r (note l f).2).1.d]) (ea_cons (ev_name 2 rfl) (ea_cons (ev_name 3 rfl) ea_nil))) em_nil) rfl rfl (by rw [List.length_map, sizeLine_eq]; omega))) ?_
      refine ex_stop (x1_ret (ev_tup (ds := [.str strMatch, .int (note r (note l f).2).2.length]) (ea_cons ev_str (ea_cons ((ev_sub (ev_pu (pu_lenO (pu_name 1 rfl) ml)) ev_int).eq ?_) ea_nil))))
      rw [List.length_append, List.length_map, List.length_cons, List.length_nil]
      congr 2
      omega
    · show some (some (Sl.io (M.lst (((note r (note l f).2).2.map fun p => M.val (prD p)) ++ [M.val (.tup [(note l f).1.d, (note r (note l f).2).1.d])])))) = some (some (Sl.io (M.lst (((note r (note l f).2).2 ++ [((note l f).1, (note r (note l f).2).1)]).map fun p => M.val (prD p)))))
      rw [List.map_append]
      rfl
abbrev mtch (t : Tr) : Prs := (note t []).2
theorem ok_lmatches (h : Fs3 K mg) (t : Tr) (hz : t.leaves.length ≤ 1000) : Fn P w K mg base "_law_matches" 1 (t.leaves.length + 2) (FS0 K [t.d] (prsM (mtch t))) := by
  refine fd0 (ds := [t.d]) h.fLMatches scLMatches rfl (env0 := [vl t.d, none]) rfl fun f cdv A outer s H E hr => ?_
  apply Exists.intro
  have hn := scLMatches.nd
  refine ex_cons (x1_set 1 (ev_lstM em_nil)) ?_
  refine ex_cons (x1_expr (ev_call1 (pre := [t.d]) (post := []) (ok_note h t [] (by simpa using hz)) hr (ea_cons (ev_name 0 rfl) (ea_lend 1 rfl ea_nil)) rfl)) ?_
  exact ex_stop (x1_ret (ev_move 1 rfl))
end
section
variable {P : Program} {w : World} {K : PySem.W.Frag} {mg : Str → Option Value} {base : Heap}
theorem ok_lsides (h : Fs3 K mg) (t : Tr) (hz : t.leaves.length ≤ 1000) : Fn P w K mg base "_law_sides" 1 (t.leaves.length + 3) (FS0 K [t.d] (sdsM (sdsOf (mtch t)))) := by
  have mli := h.mli
  have mtu := h.mtu
  have mso := h.mso
  have hln := note_len t []
  have sl := sizeLine_eq
  refine fd0 (ds := [t.d]) h.fLSides scLSides rfl (env0 := [vl t.d, none, none, none, none, none]) rfl fun f cdv A outer s H E hr => ?_
  apply Exists.intro
  have hn := scLSides.nd
  refine ex_cons (x1_set 1 (ev_lstM em_nil)) ?_
  refine ex_cons (x1_for (iv_list ((ev_call (ds := [t.d]) (ok_lmatches h t hz) hr (ea_cons (ev_name 0 rfl) ea_nil)).frz.eq (m' := .val (.lst ((mtch t).map prD))) (by rw [prsM, frz_map])))
    (forR_fold (fun acc : Sds => [vl t.d, some (.own (sdsM acc)), none, none, none, none]) _ sdStep (fun as acc => ∃ pre, pre ++ as = mtch t ∧ acc = sdsOf pre) (fun p as acc hI => ?_) _ [] ⟨[], rfl, rfl⟩)) ?_
  · obtain ⟨pre, epre, rfl⟩ := hI
    obtain ⟨⟨o1, o2⟩, hsz⟩ := pt_at epre
    refine ⟨⟨_, _, tg_name 2, ?_⟩, ⟨pre ++ [p], by rw [List.append_assoc]; exact epre, (sdsOf_snoc pre p).symm⟩⟩
    have hlen : (sdsOf pre).length ≤ 1000 := by
      have := congrArg List.length epre
      rw [List.length_append, List.length_cons] at this
      rw [sdsOf_len]
      simp only [List.length_nil] at hln
      have e2 : (mtch t).length + 1 = t.leaves.length := by rw [← Nat.zero_add t.leaves.length]; exact hln
      omega
    generalize sdsOf pre = acc at *
    obtain ⟨pa, pb⟩ := p
    refine ex_cons (x1_set 3 (ev_lstF (ds := []) ea_nil)) ?_
    refine ex_cons (x1_for (iv_tup (ds := [pa, pb].map Pt.d) (ev_name 2 rfl))
      (forR_fold (fun l : List Int => [vl t.d, some (.own (sdsM acc)), vl (prD (pa, pb)), vl (.lst (l.map D.int)), none, none]) Pt.d (fun l p => l ++ ptS acc p) (fun as l => (∀ p ∈ as, OkPt acc.length p) ∧ l.length + (as.map fun p => (ptS acc p).length).sum ≤ 1000) (fun p as l hI => ?_) [pa, pb] [] ⟨fun p hp => ?_, ?_⟩)) ?_
    · obtain ⟨hok, hs⟩ := hI
      rw [List.map_cons, List.sum_cons] at hs
      refine ⟨?_, fun q hq => hok q (List.mem_cons_of_mem _ hq), by rw [List.length_append]; omega⟩
      have hp := hok p (List.mem_cons_self ..)
      cases p with
      | side n =>
        have hs : l.length + (1 + _) ≤ 1000 := hs
        refine ⟨_, _, tg_tup (tgs_cons (tg_name 4) (tgs_cons (tg_name 5) tgs_nil)), ?_⟩
        refine Ex.eq (Ex.fgt 5 (Ex.fgt 4 (ex_one (x1_set 3 ((Ev.frzL (ev_cat (ev_name 3 rfl) (ev_ifT ((tv_eqS (by decide +kernel) (by decide +kernel) (ev_name 4 rfl) ev_str hr.units).eq (by decide)) (ev_lstF (ds := [.int n]) (ea_cons (ev_name 5 rfl) ea_nil))) (by rw [List.length_map, sl]; simp; omega))).eq (m' := .val (.lst ((l ++ ptS acc (.side n)).map D.int))) (by rw [List.map_append]; rfl)))))) ?_
        rfl
      | mtch k =>
        have hk : k < acc.length := hp
        have hs : l.length + ((acc.getD k []).length + _) ≤ 1000 := hs
        refine ⟨_, _, tg_tup (tgs_cons (tg_name 4) (tgs_cons (tg_name 5) tgs_nil)), ?_⟩
        refine Ex.eq (Ex.fgt 5 (Ex.fgt 4 (ex_one (x1_set 3 ((Ev.frzL (ev_cat (ev_name 3 rfl) (ev_ifF ((tv_eqS (by decide +kernel) (by decide +kernel) (ev_name 4 rfl) ev_str hr.units).eq (by decide)) (Ev.frzL (ev_listT (ds := (acc.getD k []).map D.int) (ev_pu (pu_ixO (pu_name 1 rfl) (pu_name 5 rfl) (at_map sdD acc [] hk)))))) (by rw [List.length_map, List.length_map, sl]; omega))).eq (m' := .val (.lst ((l ++ ptS acc (.mtch k)).map D.int))) (by rw [List.map_append]; rfl)))))) ?_
        rfl
    · simp only [List.mem_cons, List.not_mem_nil, or_false] at hp
      rcases hp with rfl | rfl
      · exact o1
      · exact o2
    · simp only [List.map_cons, List.map_nil, List.sum_cons, List.sum_nil, List.length_nil]
      have hsz : (ptS acc pa).length + (ptS acc pb).length ≤ _ := hsz
      omega
    · refine Ex.eq (Ex.fgt 3 (Ex.fgt 2 (ex_one (x1_expr (ev_append 1 (em_cons (ev_tupL (Ev.frzL (ev_sortedI (ns := ptS acc pa ++ ptS acc pb) (ev_name 3 rfl) (isort_perm _) (isort_pw _)))) em_nil) rfl rfl (by rw [List.length_map, sl]; omega)))))) ?_
      show Out.nx [vl t.d, some (Sl.own (M.lst ((acc.map fun l => M.val (sdD l)) ++ [M.val (sdD (isort (ptS acc pa ++ ptS acc pb)))]))), none, none, none, none] = _
      rw [snoc_map]
      rfl
  exact ex_stop (x1_ret (ev_move 1 rfl))
end
abbrev sIsInt : Stmt := topS 1
abbrev sAdd : Stmt := topS 3
abbrev sMatches : Stmt := topS 2
abbrev nIsInt : List Str := ["value"]
abbrev nAdd : List Str := ["found", "tree", "first", "second"]
abbrev nMatches : List Str := ["tree", "found"]
theorem scIsInt : FnScope nIsInt ["value"] (defScope sIsInt) := ⟨rfl, rfl, rfl, by decide +kernel, rfl, by decide +kernel, by decide +kernel⟩
theorem scAdd : FnScope nAdd ["found", "tree"] (defScope sAdd) := ⟨rfl, rfl, rfl, by decide +kernel, rfl, by decide +kernel, by decide +kernel⟩
theorem scMatches : FnScope nMatches ["tree"] (defScope sMatches) := ⟨rfl, rfl, rfl, by decide +kernel, rfl, by decide +kernel, by decide +kernel⟩
structure Pm (K : PySem.W.Frag) (mg : Str → Option Value) : Prop extends Fs3 K mg where
  mbo : mg "bool" = none
  ki : Kits K
  fIsInt : Df K mg "is_int" sIsInt ["value"]
  fAdd : Df K mg "add_matches" sAdd ["found", "tree"]
  fMatches : Df K mg "matches" sMatches ["tree"]
section
variable {P : Program} {w : World} {K : PySem.W.Frag} {mg : Str → Option Value} {base : Heap}
theorem ok_isInt (h : Pm K mg) (n : Int) : Fn P w K mg base "is_int" 1 1 (FS0 K [.int n] (.val (.bool true))) := by
  have mis := h.mis
  have mi := h.mi
  have mbo := h.mbo
  refine fd0 (ds := [.int n]) h.fIsInt scIsInt rfl (env0 := [vl (.int n)]) rfl fun f cdv A outer s H E hr => ?_
  apply Exists.intro
  exact ex_stop (x1_ret (ev_andT (ev_pu (pu_isi (d := .int n) (pu_name 0 rfl) (h.ki.g "int" "int" true (by decide)) (by decide +kernel) mi mis)) (ev_bop1 ((ev_not (ev_pu (pu_isi (d := .int n) (pu_name 0 rfl) (h.ki.g "int" "bool" false (by decide)) (by decide +kernel) mbo mis)))))))
theorem ok_isIntT (h : Pm K mg) (ds : List D) : Fn P w K mg base "is_int" 1 1 (FS0 K [.tup ds] (.val (.bool false))) := by
  have mis := h.mis
  have mi := h.mi
  refine fd0 (ds := [.tup ds]) h.fIsInt scIsInt rfl (env0 := [vl (.tup ds)]) rfl fun f cdv A outer s H E hr => ?_
  apply Exists.intro
  exact ex_stop (x1_ret (ev_andF (ev_pu (pu_isi (d := .tup ds) (pu_name 0 rfl) (h.ki.g "tuple" "int" false (by decide)) (by decide +kernel) mi mis))))
theorem ok_add (h : Pm K mg) : ∀ (t : Tr) (f : Prs), f.length + t.leaves.length ≤ 1000 → Fn P w K mg base "add_matches" 2 (t.leaves.length + 1) (FS1 K [] (prsM f) [t.d] (.val (note t f).1.d) (prsM (note t f).2))
  | .leaf n, f, hz => by
    refine fd1 (pre := []) (post := [.int n]) h.fAdd scAdd rfl (env0 := [some (.io (prsM f)), vl (.int n), none, none]) rfl fun f cdv A outer s H E hr => ?_
    apply Exists.intro
    refine ⟨?_, ?_⟩
    · exact ex_stop (x1_if (tv_val (ev_call (ds := [.int n]) (ok_isInt h n) hr (ea_cons (ev_name 1 rfl) ea_nil))) (fun _ => ex_one (x1_ret (ev_tup (ds := [.str strSide, .int n]) (ea_cons ev_str (ea_cons (ev_name 1 rfl) ea_nil))))) (fun z => nomatch z))
    · rfl
  | .node l r, f, hz => by
    have ml := h.ml
    have lp := l.leaves_pos
    have rp := r.leaves_pos
    have hz : f.length + (l.leaves ++ r.leaves).length ≤ 1000 := hz
    rw [List.length_append] at hz
    have hl := note_len l f
    have hl2 := note_len r (note l f).2
    have h1 := ok_add h l f (by omega)
    have h2 := ok_add h r (note l f).2 (by omega)
    have lv : (Tr.node l r).leaves.length = l.leaves.length + r.leaves.length := List.length_append ..
    refine fd1 (pre := []) (post := [.tup [l.d, r.d]]) h.fAdd scAdd rfl (env0 := [some (.io (prsM f)), vl (.tup [l.d, r.d]), none, none]) rfl fun fa cdv A outer s H E hr => ?_
    apply Exists.intro
    have hn := scAdd.nd
    refine ⟨?_, ?_⟩
    · refine ex_cons (x1_if (tv_val (ev_call (ds := [.tup [l.d, r.d]]) (ok_isIntT h _) (hr.mono (by omega)) (ea_cons (ev_name 1 rfl) ea_nil))) (fun z => nomatch z) (fun _ => ex_nil)) ?_
      refine ex_cons (x1_set 2 (ev_call1 (pre := []) (post := [l.d]) h1 (hr.mono (by omega)) (ea_lend 0 rfl (ea_cons (ev_ixT (ev_name 1 rfl) ev_int rfl) ea_nil)) rfl)) ?_
      refine ex_cons (x1_set 3 (ev_call1 (pre := []) (post := [r.d]) h2 (hr.mono (by omega)) (ea_lend 0 rfl (ea_cons (ev_ixT (ev_name 1 rfl) ev_int rfl) ea_nil)) rfl)) ?_
      refine ex_cons (x1_expr (ev_append 0 (em_cons (ev_tup (ds := [(note l f).1.d, (note r (note l f).2).1.d]) (ea_cons (ev_name 2 rfl) (ea_cons (ev_name 3 rfl) ea_nil))) em_nil) rfl rfl (by rw [List.length_map, sizeLine_eq]; omega))) ?_
      refine ex_stop (x1_ret (ev_tup (ds := [.str strMatch, .int (note r (note l f).2).2.length]) (ea_cons ev_str (ea_cons ((ev_sub (ev_pu (pu_lenO (pu_name 0 rfl) ml)) ev_int).eq ?_) ea_nil))))
      rw [List.length_append, List.length_map, List.length_cons, List.length_nil]
      congr 2
      omega
    · show some (some (Sl.io (M.lst (((note r (note l f).2).2.map fun p => M.val (prD p)) ++ [M.val (prD ((note l f).1, (note r (note l f).2).1))])))) = some (some (Sl.io (prsM ((note r (note l f).2).2 ++ [((note l f).1, (note r (note l f).2).1)]))))
      rw [snoc_map]
      rfl
theorem ok_matches (h : Pm K mg) (t : Tr) (hz : t.leaves.length ≤ 1000) : Fn P w K mg base "matches" 1 (t.leaves.length + 2) (FS0 K [t.d] (prsM (mtch t))) := by
  refine fd0 (ds := [t.d]) h.fMatches scMatches rfl (env0 := [vl t.d, none]) rfl fun f cdv A outer s H E hr => ?_
  apply Exists.intro
  have hn := scMatches.nd
  refine ex_cons (x1_set 1 (ev_lstM em_nil)) ?_
  refine ex_cons (x1_expr (ev_call1 (pre := []) (post := [t.d]) (ok_add h t [] (by simpa using hz)) hr (ea_lend 1 rfl (ea_cons (ev_name 0 rfl) ea_nil)) rfl)) ?_
  exact ex_stop (x1_ret (ev_move 1 rfl))
theorem ok_isIntD (h : Pm K mg) (d : D) (hd : tyOk d = true) : Fn P w K mg base "is_int" 1 1 (FS0 K [d] (.val (.bool (isI d)))) := by
  have mis := h.mis
  have mi := h.mi
  have mbo := h.mbo
  refine fd0 (ds := [d]) h.fIsInt scIsInt rfl (env0 := [vl d]) rfl fun f cdv A outer s H E hr => ?_
  apply Exists.intro
  exact ex_stop (x1_ret ((ev_and (ev_pu (pu_isi (d := d) (pu_name 0 rfl) (kit_I h.ki hd) (by decide +kernel) mi mis hd)) (fun _ => ev_bop1 (ev_not (ev_pu (pu_isi (d := d) (pu_name 0 rfl) (kit_B h.ki hd) (by decide +kernel) mbo mis hd))))).eq (by rw [isI_eq])))
end
abbrev sIsEnd : Stmt := topS 5
abbrev sBehind : Stmt := topS 6
abbrev sWorth : Stmt := topS 7
abbrev sScores : Stmt := topS 8
abbrev nIsEnd : List Str := ["pool", "results", "value", "parts", "at", "first", "second", "side"]
abbrev nBehind : List Str := ["part", "ending", "kind", "number"]
abbrev nWorth : List Str := ["pool", "at", "winner", "loser", "_", "points", "bonus"]
abbrev nScores : List Str := ["pool", "ending", "tree", "_", "sheets", "totals", "at", "first", "second", "winner", "loser", "brought", "entrant", "sheet"]
theorem scIsEnd : FnScope nIsEnd ["pool", "results", "value"] (defScope sIsEnd) := ⟨rfl, rfl, rfl, by decide +kernel, rfl, by decide +kernel, by decide +kernel⟩
theorem scBehind : FnScope nBehind ["part", "ending"] (defScope sBehind) := ⟨rfl, rfl, rfl, by decide +kernel, rfl, by decide +kernel, by decide +kernel⟩
theorem scWorth : FnScope nWorth ["pool", "at", "winner", "loser"] (defScope sWorth) := ⟨rfl, rfl, rfl, by decide +kernel, rfl, by decide +kernel, by decide +kernel⟩
theorem scScores : FnScope nScores ["pool", "ending"] (defScope sScores) := ⟨rfl, rfl, rfl, by decide +kernel, rfl, by decide +kernel, by decide +kernel⟩
structure Pe (K : PySem.W.Frag) (mg : Str → Option Value) : Prop extends Pm K mg where
  mall : mg "all" = none
  fIsEnd : Df K mg "is_ending" sIsEnd ["pool", "results", "value"]
  fBehind : Df K mg "side_behind" sBehind ["part", "ending"]
  fWorth : Df K mg "worth_of" sWorth ["pool", "at", "winner", "loser"]
  fScores : Df K mg "scores" sScores ["pool", "ending"]
section
variable {P : Program} {w : World} {K : PySem.W.Frag} {mg : Str → Option Value} {base : Heap}
theorem ok_behind (h : Pe K mg) (e : List Int) : ∀ p : Pt, OkPt e.length p → Fn P w K mg base "side_behind" 2 1 (FS0 K [p.d, sdD e] (.val (.int (sideE e p))))
  | .side n, _ => by
    refine fd0 (ds := [Pt.d (.side n), sdD e]) h.fBehind scBehind rfl (env0 := [vl (Pt.d (.side n)), vl (sdD e), none, none]) rfl fun f cdv A outer s H E hr => ?_
    apply Exists.intro
    have hn := scBehind.nd
    refine ex_cons (x1_asgT (ev_name 0 rfl) (tg_tup (tgs_cons (tg_name 2) (tgs_cons (tg_name 3) tgs_nil)))) ?_
    exact ex_stop (x1_ret (ev_ifT ((tv_eqS (by decide +kernel) (by decide +kernel) (ev_name 2 rfl) ev_str hr.units).eq (by decide)) (ev_name 3 rfl)))
  | .mtch k, hk => by
    have hk : k < e.length := hk
    refine fd0 (ds := [Pt.d (.mtch k), sdD e]) h.fBehind scBehind rfl (env0 := [vl (Pt.d (.mtch k)), vl (sdD e), none, none]) rfl fun f cdv A outer s H E hr => ?_
    apply Exists.intro
    have hn := scBehind.nd
    refine ex_cons (x1_asgT (ev_name 0 rfl) (tg_tup (tgs_cons (tg_name 2) (tgs_cons (tg_name 3) tgs_nil)))) ?_
    exact ex_stop (x1_ret (ev_ifF ((tv_eqS (by decide +kernel) (by decide +kernel) (ev_name 2 rfl) ev_str hr.units).eq (by decide)) (ev_ixT (ds := e.map D.int) (ev_name 1 rfl) (ev_name 3 rfl) (atI_map (f := D.int) (xs := e) (i := (k : Int)) (by omega) (by omega) 0))))
theorem ok_worth (h : Pe K mg) (p : PoolS) (k : Nat) (hk : k < p.pts.length) (wn ls : Int) : Fn P w K mg base "worth_of" 4 1 (FS0 K [p.d, .int k, .int wn, .int ls] (.val (.int (p.pts.getD k 0 + if wn > ls then p.bonus else 0)))) := by
  refine fd0 (ds := [p.d, .int k, .int wn, .int ls]) h.fWorth scWorth rfl (env0 := [vl p.d, vl (.int k), vl (.int wn), vl (.int ls), none, none, none]) rfl fun f cdv A outer s H E hr => ?_
  apply Exists.intro
  have hn := scWorth.nd
  refine ex_cons (x1_asgT (ev_name 0 rfl) (tg_tup (ds := [p.t.d, .tup (p.pts.map D.int), .int p.bonus, .tup (p.sheets.map sdD)]) (tgs_cons (tg_name 4) (tgs_cons (tg_name 5) (tgs_cons (tg_name 6) (tgs_cons (tg_name 4) tgs_nil)))))) ?_
  exact ex_stop (x1_ret (ev_add (ev_ixT (ds := p.pts.map D.int) (ev_name 5 rfl) (ev_name 1 rfl) (atI_map (f := D.int) (xs := p.pts) (i := (k : Int)) (by omega) (by omega) 0)) (ev_if (m := .val (.int (if wn > ls then p.bonus else 0))) (k := decide (ls < wn)) (tv_gt (ev_name 2 rfl) (ev_name 3 rfl)) (fun q => (ev_name 6 rfl).eq (by rw [if_pos (of_decide_eq_true q)])) (fun q => ev_int.eq (by rw [if_neg (of_decide_eq_false q)])))))
end
section
variable {P : Program} {w : World} {K : PySem.W.Frag} {mg : Str → Option Value} {base : Heap}
abbrev totM (xs : List Int) : M := .lst (xs.map fun i => .val (.int i))
theorem ok_scores (h : Pe K mg) (p : PoolS) (e : List Int) (hz : p.t.leaves.length ≤ 900) (hp : p.pts.length = (mtch p.t).length) (he : e.length = (mtch p.t).length) (hs : ∀ s ∈ p.sheets, s.length = (mtch p.t).length) (hsl : p.sheets.length ≤ 1000) :
    Fn P w K mg base "scores" 2 (p.t.leaves.length + 3) (FS0 K [p.d, sdD e] (.val (sdD (scoresF (mtch p.t) p.pts p.bonus p.sheets e)))) := by
  have ml := h.ml
  have mtu := h.mtu
  have men := h.men
  have sl := sizeLine_eq
  have lp := p.t.leaves_pos
  have hn2 : (mtch p.t).length + 1 = p.t.leaves.length := by have z := note_len p.t []; rw [List.length_nil, Nat.zero_add] at z; exact z
  have okf : OkF (mtch p.t) := (noted p.t []).ok fun i p z => by simp at z
  generalize hF : mtch p.t = F at *
  refine fd0 (ds := [p.d, sdD e]) h.fScores scScores rfl (env0 := [vl p.d, vl (sdD e), none, none, none, none, none, none, none, none, none, none, none, none]) rfl fun f cdv A outer s H E hr => ?_
  apply Exists.intro
  have hn := scScores.nd
  have hu := hr.units
  refine ex_cons (x1_asgT (ev_name 0 rfl) (tg_tup (ds := [p.t.d, .tup (p.pts.map D.int), .int p.bonus, .tup (p.sheets.map sdD)]) (tgs_cons (tg_name 2) (tgs_cons (tg_name 3) (tgs_cons (tg_name 3) (tgs_cons (tg_name 4) tgs_nil)))))) ?_
  refine ex_cons (x1_set 5 (m := totM (p.sheets.map fun s => sc F p.pts p.bonus e s 0)) (Ev.eq (ev_rep (ds := [.int 0]) (ev_lstF (ds := [.int 0]) (ea_cons ev_int ea_nil)) (ev_lenT (ds := p.sheets.map sdD) (ev_name 4 rfl) ml) (by omega) (by rw [List.length_map]; omega) (by rw [List.length_map, sl]; simp; omega)) ?_)) ?_
  · rw [List.length_map, Int.toNat_natCast]
    show M.lst _ = M.lst _
    congr 1
    generalize p.sheets = ss
    induction ss with
    | nil => rfl
    | cons a ss ih => rw [List.length_cons, List.replicate_succ, List.flatten_cons, List.map_append, ih]; rfl
  refine ex_cons (x1_for (Iv.eq (iv_enum ((ev_call (ds := [p.t.d]) (ok_matches h.toPm p.t (by omega)) (hr.mono (by omega)) (ea_cons (ev_name 2 rfl) ea_nil)).frz.eq (m' := .val (.lst (F.map prD))) (by rw [hF, prsM, frz_map]))) (prsT_enum _))
    (forR_fold (fun m : Nat => [vl p.d, vl (sdD e), vl p.t.d, vl (.int p.bonus), vl (.tup (p.sheets.map sdD)), some (.own (totM (p.sheets.map fun s => sc F p.pts p.bonus e s m))), none, none, none, none, none, none, none, none]) (fun p : (Pt × Pt) × Nat => D.tup [.int (p.2 : Nat), prD p.1]) (fun m _ => m + 1) (fun as m => as = (F.drop m).zipIdx m) (fun q as m hI => ?_) (F.zipIdx 0) 0 rfl)) ?_
  · obtain ⟨⟨pa, pb⟩, k⟩ := q
    have hm : ∃ r, F[m]? = some r := by
      cases hd : F[m]? with
      | some r => exact ⟨r, rfl⟩
      | none =>
        rw [List.drop_eq_nil_of_le (List.getElem?_eq_none_iff.mp hd)] at hI
        cases hI
    obtain ⟨r, hr2⟩ := hm
    rw [drop_at hr2, List.zipIdx_cons] at hI
    injection hI with e1 e2
    injection e1 with e3 e4
    subst e3 e4
    refine ⟨⟨_, _, tg_tup (tgs_cons (tg_name 6) (tgs_cons (tg_tup (tgs_cons (tg_name 7) (tgs_cons (tg_name 8) tgs_nil))) tgs_nil)), ?_⟩, e2⟩
    have hkl : k < F.length := (List.getElem?_eq_some_iff.mp hr2).1
    obtain ⟨o1, o2⟩ := okf k _ hr2
    have hgd : F.getD k (.side 0, .side 0) = (pa, pb) := by rw [List.getD_eq_getElem?_getD, hr2]; rfl
    refine ex_cons (x1_set 9 (ev_ixT (ds := e.map D.int) (ev_name 1 rfl) (ev_name 6 rfl) (atI_map (f := D.int) (xs := e) (i := (k : Int)) (by omega) (by omega) 0))) ?_
    refine ex_cons (x1_set 10 (ev_sub (ev_add (ev_call (ds := [pa.d, sdD e]) (ok_behind h e pa (o1.mono (by omega))) (hr.mono (by omega)) (ea_cons (ev_name 7 rfl) (ea_cons (ev_name 1 rfl) ea_nil))) (ev_call (ds := [pb.d, sdD e]) (ok_behind h e pb (o2.mono (by omega))) (hr.mono (by omega)) (ea_cons (ev_name 8 rfl) (ea_cons (ev_name 1 rfl) ea_nil)))) (ev_name 9 rfl))) ?_
    refine ex_cons (x1_set 11 (m := .val (.int (brought F p.pts p.bonus e k))) ((ev_call (ds := [p.d, .int k, .int (e.getD k 0), .int (sideE e pa + sideE e pb - e.getD k 0)]) (ok_worth h p k (by omega) _ _) (hr.mono (by omega)) (ea_cons (ev_name 0 rfl) (ea_cons (ev_name 6 rfl) (ea_cons (ev_name 9 rfl) (ea_cons (ev_name 10 rfl) ea_nil))))).eq (by unfold brought; rw [hgd]))) ?_
    refine Ex.eq (Ex.fgt 11 (Ex.fgt 10 (Ex.fgt 9 (Ex.fgt 8 (Ex.fgt 7 (Ex.fgt 6 (ex_one (x1_for (Iv.eq (iv_enumT (ds := p.sheets.map sdD) (ev_name 4 rfl)) (enumD_map sdD 0 _))
      (forR_fold (fun j : Nat => [vl p.d, vl (sdD e), vl p.t.d, vl (.int p.bonus), vl (.tup (p.sheets.map sdD)), some (.own (totM (mix p.sheets (fun s => sc F p.pts p.bonus e s k) (fun s => sc F p.pts p.bonus e s (k + 1)) j))), vl (.int (k : Int)), vl pa.d, vl pb.d, vl (.int (e.getD k 0)), vl (.int (sideE e pa + sideE e pb - e.getD k 0)), vl (.int (brought F p.pts p.bonus e k)), none, none]) (fun q : List Int × Nat => D.tup [.int (q.2 : Nat), sdD q.1]) (fun j _ => j + 1) (fun as j => as = (p.sheets.drop j).zipIdx j) (fun q as j hJ => ?_) (p.sheets.zipIdx 0) 0 rfl))))))))) ?_
    · obtain ⟨sh, i⟩ := q
      have hm2 : ∃ r, p.sheets[j]? = some r := by
        cases hd : p.sheets[j]? with
        | some r => exact ⟨r, rfl⟩
        | none =>
          rw [List.drop_eq_nil_of_le (List.getElem?_eq_none_iff.mp hd)] at hJ
          cases hJ
      obtain ⟨r, hr3⟩ := hm2
      rw [drop_at hr3, List.zipIdx_cons] at hJ
      injection hJ with e5 e6
      injection e5 with e7 e8
      subst e7 e8
      have hsh := hs sh (List.mem_of_getElem? hr3)
      refine ⟨⟨_, _, tg_tup (tgs_cons (tg_name 12) (tgs_cons (tg_name 13) tgs_nil)), ?_⟩, e6⟩
      have hmx := mix_at hr3 (fun s => sc F p.pts p.bonus e s k) (fun s => sc F p.pts p.bonus e s (k + 1))
      refine Ex.eq (Ex.fgt 13 (Ex.fgt 12 (ex_one (x1_if (k := decide (sh.getD k 0 = e.getD k 0)) (env1 := _) (out := .nx _) (tv_eqI (ev_ixT (ds := sh.map D.int) (ev_name 13 rfl) (ev_name 6 rfl) (atI_map (f := D.int) (xs := sh) (i := (k : Int)) (by omega) (by omega) 0)) (ev_name 9 rfl) hu) (fun q => Ex.eq (ex_one (x1_augI 5 (j := i) (z := sc F p.pts p.bonus e sh k) (c := brought F p.pts p.bonus e k) (ev_name 12 rfl) (ev_name 11 rfl) rfl rfl hmx (by rw [mix_len, sl]; omega))) (out' := .nx [vl p.d, vl (sdD e), vl p.t.d, vl (.int p.bonus), vl (.tup (p.sheets.map sdD)), some (.own (totM (mix p.sheets (fun s => sc F p.pts p.bonus e s k) (fun s => sc F p.pts p.bonus e s (k + 1)) (i + 1)))), vl (.int (k : Int)), vl pa.d, vl pb.d, vl (.int (e.getD k 0)), vl (.int (sideE e pa + sideE e pb - e.getD k 0)), vl (.int (brought F p.pts p.bonus e k)), vl (.int (i : Int)), vl (sdD sh)]) ?_) (fun q => Ex.eq ex_nil ?_))))) rfl
      · have hq := of_decide_eq_true q
        have := mix_set hr3 (fun s => sc F p.pts p.bonus e s k) (fun s => sc F p.pts p.bonus e s (k + 1))
        have ht : sc F p.pts p.bonus e sh k + brought F p.pts p.bonus e k = sc F p.pts p.bonus e sh (k + 1) := by
          show _ = sc F p.pts p.bonus e sh k + term F p.pts p.bonus e sh k
          unfold term
          rw [if_pos hq]
        rw [ht, this]; rfl
      · have hq := of_decide_eq_false q
        have ht : sc F p.pts p.bonus e sh (k + 1) = sc F p.pts p.bonus e sh k := by
          show sc F p.pts p.bonus e sh k + term F p.pts p.bonus e sh k = _
          unfold term
          rw [if_neg hq, Int.add_zero]
        rw [mix_same hr3 (fun s => sc F p.pts p.bonus e s k) (fun s => sc F p.pts p.bonus e s (k + 1)) ht]; rfl
    · rw [foldl_count, List.length_zipIdx, Nat.zero_add, mix_all]; rfl
  · rw [foldl_count, List.length_zipIdx, Nat.zero_add]
    refine ex_frz 5 rfl ?_
    exact ex_stop (x1_ret (ev_tupL (ds := (scoresF F p.pts p.bonus p.sheets e).map D.int) ((ev_name 5 rfl).eq (by rw [frz_ints]; rfl))))
end
abbrev tgIsEnd : Expr := frT (stAt (defBody sIsEnd) 3)
abbrev bIsEnd : List Stmt := frB (stAt (defBody sIsEnd) 3)
section
variable {P : Program} {w : World} {K : PySem.W.Frag} {mg : Str → Option Value} {base : Heap}
theorem end_loop (h : Pe K mg) (t : Tr) (rest : List D) (rs : Rs) (e : List Int) (hel : e.length = (mtch t).length) : ∀ (as pre : Prs), pre ++ as = mtch t →
    ∃ out : Out, (In0 P w K mg base nIsEnd "is_ending" sIsEnd 2 fun X => ForR X tgIsEnd bIsEnd (prsT pre.length as) [vl (.tup (t.d :: rest)), vl (dkD (resK rs)), vl (sdD e), vl (.lst ((mtch t).map prD)), none, none, none, none] out) ∧
      (((as.zipIdx pre.length).all (fun p => stepB rs e p.2 p.1) = true ∧ out = .nx [vl (.tup (t.d :: rest)), vl (dkD (resK rs)), vl (sdD e), vl (.lst ((mtch t).map prD)), none, none, none, none]) ∨
        ((as.zipIdx pre.length).all (fun p => stepB rs e p.2 p.1) = false ∧ ∃ env', out = .rt (.val (.bool false)) env'))
  | [], pre, _ => ⟨_, fun _ _ _ _ _ _ _ _ => .nil, .inl ⟨rfl, rfl⟩⟩
  | (pa, pb) :: as, pre, epre => by
    obtain ⟨out, fr, res⟩ := end_loop h t rest rs e hel as (pre ++ [(pa, pb)]) (by rw [List.append_assoc]; exact epre)
    have okf : OkF (mtch t) := (noted t []).ok fun i p z => by simp at z
    have hk : (mtch t)[pre.length]? = some (pa, pb) := by rw [← epre, List.getElem?_append_right (Nat.le_refl _), Nat.sub_self]; rfl
    have hkl : pre.length < (mtch t).length := (List.getElem?_eq_some_iff.mp hk).1
    obtain ⟨o1, o2⟩ := okf _ _ hk
    generalize ek : pre.length = k at *
    have ek2 : (pre ++ [(pa, pb)]).length = k + 1 := by rw [List.length_append, ek]; rfl
    rw [ek2] at fr res
    have atk : ∀ i : Int, i = (k : Int) → L2.atI (e.map D.int) i = some (.int (e.getD k 0)) := fun i ei => by
      subst ei
      exact atI_map (f := D.int) (xs := e) (i := (k : Int)) (by omega) (by omega) 0
    have all : (((pa, pb) :: as).zipIdx k).all (fun p => stepB rs e p.2 p.1) = (stepB rs e k (pa, pb) && (as.zipIdx (k + 1)).all (fun p => stepB rs e p.2 p.1)) := rfl
    rw [all]
    have c1 : ∀ (f : Addr) (cdv : Value) (A : Around) (outer : List Env) (s : Shared) (H : Hp) (E : XK), Room 2 (A.deeper (envOfC "is_ending" (defScope sIsEnd) s.heap.objs.size f cdv)) →
        Tv (cxOf CX0 P w K mg base nIsEnd "is_ending" (defScope sIsEnd) f cdv A outer s H E).nox (ifC (stAt bIsEnd 0))
          [vl (.tup (t.d :: rest)), vl (dkD (resK rs)), vl (sdD e), vl (.lst ((mtch t).map prD)), vl (.int k), vl pa.d, vl pb.d, none] (!decide (e.getD k 0 ∈ [sideE e pa, sideE e pb])) [vl (.tup (t.d :: rest)), vl (dkD (resK rs)), vl (sdD e), vl (.lst ((mtch t).map prD)), vl (.int k), vl pa.d, vl pb.d, none] := fun f cdv A outer s H E hr =>
      (tv_notInT (x := .int (e.getD k 0)) (ds := [.int (sideE e pa), .int (sideE e pb)]) (ev_ixT (ds := e.map D.int) (ev_name 2 rfl) (ev_name 4 rfl) (atk _ rfl)) (ev_tup (ds := [.int (sideE e pa), .int (sideE e pb)]) (ea_cons (ev_call (ds := [pa.d, sdD e]) (ok_behind h e pa (o1.mono (by omega))) (hr.mono (by omega)) (ea_cons (ev_name 5 rfl) (ea_cons (ev_name 2 rfl) ea_nil))) (ea_cons (ev_call (ds := [pb.d, sdD e]) (ok_behind h e pb (o2.mono (by omega))) (hr.mono (by omega)) (ea_cons (ev_name 6 rfl) (ea_cons (ev_name 2 rfl) ea_nil))) ea_nil))) rfl rfl).eq (by
        show (!inV (.int (e.getD k 0)) ([sideE e pa, sideE e pb].map V.int)) = _
        rw [inV_ints])
    have getv : (getD ((resK rs).map (·.1)) ((resK rs).map (·.2)) (.inl (k : Int))).getD (.int (e.getD k 0)) = .int (((lookR rs k).getD (e.getD k 0))) := by
      rw [get_res]
      cases lookR rs k <;> rfl
    have dec2 : (!decide (e.getD k 0 = (lookR rs k).getD (e.getD k 0))) = !resOk rs k (e.getD k 0) := by
      unfold resOk
      cases lookR rs k with
      | none => simp
      | some v => rfl
    have body : ∀ (o : Out) (g1 : decide (e.getD k 0 ∈ [sideE e pa, sideE e pb]) = true → resOk rs k (e.getD k 0) = true → o = .nx [vl (.tup (t.d :: rest)), vl (dkD (resK rs)), vl (sdD e), vl (.lst ((mtch t).map prD)), vl (.int k), vl pa.d, vl pb.d, none]) (g2 : ¬ (decide (e.getD k 0 ∈ [sideE e pa, sideE e pb]) = true ∧ resOk rs k (e.getD k 0) = true) → o = .rt (.val (.bool false)) [vl (.tup (t.d :: rest)), vl (dkD (resK rs)), vl (sdD e), vl (.lst ((mtch t).map prD)), vl (.int k), vl pa.d, vl pb.d, none]),
        In0 P w K mg base nIsEnd "is_ending" sIsEnd 2 fun X => Ex X bIsEnd [vl (.tup (t.d :: rest)), vl (dkD (resK rs)), vl (sdD e), vl (.lst ((mtch t).map prD)), vl (.int k), vl pa.d, vl pb.d, none] o := fun o g1 g2 f cdv A outer s H E hr => by
      have hu := hr.units
      have hu1 := Nat.lt_of_le_of_lt (Nat.add_le_add_left (by decide : 1 ≤ 64) _) hu
      by_cases q1 : decide (e.getD k 0 ∈ [sideE e pa, sideE e pb]) = true
      · refine ex_cons (x1_if ((c1 f cdv A outer s H E hr).eq (b' := false) (by rw [q1]; rfl)) (fun z => nomatch z) (fun _ => ex_nil)) ?_
        by_cases q2 : resOk rs k (e.getD k 0) = true
        · rw [g1 q1 q2]
          exact ex_one (x1_if ((tv_neI (i := e.getD k 0) (j := (lookR rs k).getD (e.getD k 0)) (ev_ixT (ds := e.map D.int) (ev_name 2 rfl) (ev_name 4 rfl) (atk _ rfl)) (Ev.eq (ev_get2 (k := .inl (k : Int)) (z := .int (e.getD k 0)) (ev_name 1 rfl) (ev_name 4 rfl) (ev_ixT (ds := e.map D.int) (ev_name 2 rfl) (ev_name 4 rfl) (atk _ rfl)) hu1) (congrArg M.val getv)) hu).eq (b' := false) (by rw [dec2, q2]; rfl)) (fun z => nomatch z) (fun _ => ex_nil))
        · rw [g2 fun z => q2 z.2]
          exact ex_one (x1_if ((tv_neI (i := e.getD k 0) (j := (lookR rs k).getD (e.getD k 0)) (ev_ixT (ds := e.map D.int) (ev_name 2 rfl) (ev_name 4 rfl) (atk _ rfl)) (Ev.eq (ev_get2 (k := .inl (k : Int)) (z := .int (e.getD k 0)) (ev_name 1 rfl) (ev_name 4 rfl) (ev_ixT (ds := e.map D.int) (ev_name 2 rfl) (ev_name 4 rfl) (atk _ rfl)) hu1) (congrArg M.val getv)) hu).eq (b' := true) (by rw [dec2, Bool.eq_false_iff.mpr q2]; rfl)) (fun _ => ex_one (x1_ret ev_bool)) (fun z => nomatch z))
      · rw [g2 fun z => q1 z.1]
        exact ex_stop (x1_if ((c1 f cdv A outer s H E hr).eq (b' := true) (by rw [Bool.eq_false_iff.mpr q1]; rfl)) (fun _ => ex_one (x1_ret ev_bool)) (fun z => nomatch z))
    have nd := scIsEnd.nd
    rw [prsT_cons]
    by_cases q : stepB rs e k (pa, pb) = true
    · rw [q, Bool.true_and]
      have q' := Bool.and_eq_true_iff.mp q
      refine ⟨out, fun f cdv A outer s H E hr => ?_, res⟩
      have hn := nd
      refine .nx (tg_tup (tgs_cons (tg_name 4) (tgs_cons (tg_tup (tgs_cons (tg_name 5) (tgs_cons (tg_name 6) tgs_nil))) tgs_nil))) (Ex.eq (Ex.fgt 6 (Ex.fgt 5 (Ex.fgt 4 (body _ (fun _ _ => rfl) (fun z => absurd q' z) f cdv A outer s H E hr))))) (fr f cdv A outer s H E hr)
    · rw [Bool.eq_false_iff.mpr q, Bool.false_and]
      refine ⟨.rt (.val (.bool false)) [vl (.tup (t.d :: rest)), vl (dkD (resK rs)), vl (sdD e), vl (.lst ((mtch t).map prD)), vl (.int k), vl pa.d, vl pb.d, none], fun f cdv A outer s H E hr => ?_, .inr ⟨rfl, _, rfl⟩⟩
      have hn := nd
      exact .rt (tg_tup (tgs_cons (tg_name 4) (tgs_cons (tg_tup (tgs_cons (tg_name 5) (tgs_cons (tg_name 6) tgs_nil))) tgs_nil))) (body _ (fun z1 z2 => absurd (Bool.and_eq_true_iff.mpr ⟨z1, z2⟩) q) (fun _ => rfl) f cdv A outer s H E hr)
theorem ok_isEndD (h : Pe K mg) (t : Tr) (hz : t.leaves.length ≤ 900) (rest : List D) (rs : Rs) (d : D) (hd : shw d = true) (hw : wD d ≤ 100000) : Fn P w K mg base "is_ending" 3 (t.leaves.length + 3) (FS0 K [.tup (t.d :: rest), dkD (resK rs), d] (.val (.bool (endD (mtch t) rs d)))) := by
  have ml := h.ml
  have mis := h.mis
  have mtu := h.mtu
  have mall := h.mall
  have men := h.men
  have sl := sizeLine_eq
  have lp := t.leaves_pos
  have td := shw_ty hd
  have nd := scIsEnd.nd
  -- the start
  have start : ∀ out, (In0 P w K mg base nIsEnd "is_ending" sIsEnd (t.leaves.length + 2) fun X => Ex X ((defBody sIsEnd).drop 1) [vl (.tup (t.d :: rest)), vl (dkD (resK rs)), vl d, vl (.lst ((mtch t).map prD)), none, none, none, none] out) →
      In0 P w K mg base nIsEnd "is_ending" sIsEnd (t.leaves.length + 2) fun X => Ex X (defBody sIsEnd) [vl (.tup (t.d :: rest)), vl (dkD (resK rs)), vl d, none, none, none, none, none] out := fun out k f cdv A outer s H E hr => by
    have hn := nd
    refine ex_cons (x1_set 3 (ev_call (ds := [t.d]) (ok_matches h.toPm t (by omega)) (hr.mono (by omega)) (ea_cons (ev_ixT (ds := t.d :: rest) (ev_name 0 rfl) ev_int (atI_of (i := 0) (by decide) rfl)) ea_nil))) ?_
    refine ex_frz 3 rfl ?_
    rw [show frz (prsM (mtch t)) = .lst ((mtch t).map prD) from frz_map prD _]
    exact k f cdv A outer s H E hr
  cases hk : kT d with
  | false =>
    have e0 : endD (mtch t) rs d = false := by cases d <;> first | rfl | (cases hk; done)
    rw [e0]
    refine fd0 (ds := [.tup (t.d :: rest), dkD (resK rs), d]) h.fIsEnd scIsEnd rfl (env0 := [vl (.tup (t.d :: rest)), vl (dkD (resK rs)), vl d, none, none, none, none, none]) rfl fun f cdv A outer s H E hr => ⟨[vl (.tup (t.d :: rest)), vl (dkD (resK rs)), vl d, vl (.lst ((mtch t).map prD)), none, none, none, none], start _ (fun f cdv A outer s H E hr => ?_) f cdv A outer s H E hr⟩
    exact ex_stop (x1_if (k := true) (tv_w (tw_orT ((tv_not (tv_val (ev_pu (pu_isi (d := d) (pu_name 2 rfl) (kit_T h.ki td) (by decide +kernel) mtu mis td)))).eq (b' := true) (by rw [hk]; rfl)))) (fun _ => ex_one (x1_ret ev_bool)) (fun z => nomatch z))
  | true =>
    obtain ⟨ds, rfl⟩ : ∃ ds, d = .tup ds := by cases d <;> first | exact ⟨_, rfl⟩ | (cases hk; done)
    have sds : ∀ x ∈ ds, shw x = true := (shwL_all ds).mp hd
    have lds : ds.length ≤ 100000 := by
      have := wL_len ds
      rw [wD_tup] at hw
      omega
    have isT : ∀ (f : Addr) (cdv : Value) (A : Around) (outer : List Env) (s : Shared) (H : Hp) (E : XK), Tv (cxOf CX0 P w K mg base nIsEnd "is_ending" (defScope sIsEnd) f cdv A outer s H E).nox (boI (ifC (stAt (defBody sIsEnd) 1)) 0) [vl (.tup (t.d :: rest)), vl (dkD (resK rs)), vl (.tup ds), vl (.lst ((mtch t).map prD)), none, none, none, none] false [vl (.tup (t.d :: rest)), vl (dkD (resK rs)), vl (.tup ds), vl (.lst ((mtch t).map prD)), none, none, none, none] := fun f cdv A outer s H E =>
      (tv_not (tv_val (ev_pu (pu_isi (d := .tup ds) (pu_name 2 rfl) (kit_T h.ki td) (by decide +kernel) mtu mis)))).eq (b' := false) rfl
    by_cases hl : ds.length = (mtch t).length
    · -- all ints, or not
      have second : ∀ (b : Bool) (out : Out), ds.all isI = b → (b = false → ∃ env', out = .rt (.val (.bool false)) env' ∧ env' = [vl (.tup (t.d :: rest)), vl (dkD (resK rs)), vl (.tup ds), vl (.lst ((mtch t).map prD)), none, none, none, none]) →
          (b = true → In0 P w K mg base nIsEnd "is_ending" sIsEnd (t.leaves.length + 2) fun X => Ex X ((defBody sIsEnd).drop 3) [vl (.tup (t.d :: rest)), vl (dkD (resK rs)), vl (.tup ds), vl (.lst ((mtch t).map prD)), none, none, none, none] out) →
          In0 P w K mg base nIsEnd "is_ending" sIsEnd (t.leaves.length + 2) fun X => Ex X ((defBody sIsEnd).drop 1) [vl (.tup (t.d :: rest)), vl (dkD (resK rs)), vl (.tup ds), vl (.lst ((mtch t).map prD)), none, none, none, none] out := fun b out eb hno hyes f cdv A outer s H E hr => by
        have hn := nd
        have hu := hr.units
        refine ex_cons (x1_if (k := false) (tv_w (tw_orF (isT f cdv A outer s H E) (tw_or1 ((tv_neI (ev_lenT (ds := ds) (ev_name 2 rfl) ml) (ev_lenL (ev_name 3 rfl) ml) hu).eq (b' := false) (by rw [List.length_map, hl]; simp))))) (fun z => nomatch z) (fun _ => ex_nil)) ?_
        have tall : Ev (cxOf CX0 P w K mg base nIsEnd "is_ending" (defScope sIsEnd) f cdv A outer s H E).nox (unI (ifC (stAt (defBody sIsEnd) 2))) [vl (.tup (t.d :: rest)), vl (dkD (resK rs)), vl (.tup ds), vl (.lst ((mtch t).map prD)), none, none, none, none] (.val (.bool b)) [vl (.tup (t.d :: rest)), vl (dkD (resK rs)), vl (.tup ds), vl (.lst ((mtch t).map prD)), none, none, none, none] := by
          refine (ev_all (bs := ds.map isI) (Ev.frzL (ds := (ds.map isI).map D.bool) (Ev.eq (ev_lc (own := [("side", 7)]) (iv_tup (ds := ds) (ev_name 2 rfl)) (lcR_mapD (fun d => M.val (.bool (isI d))) _ ds fun x hx => ⟨_, _, fun _ _ _ _ _ => tg_name 7, fun _ _ _ _ _ => ev_call (ds := [x]) (ok_isIntD h.toPm x (shw_ty (sds x hx))) (hr.mono (by omega)) (ea_cons (ev_name 7 rfl) ea_nil), rfl⟩) (bare1 rfl) (blkOk_by (N := nIsEnd) (sc := defScope sIsEnd) (by decide +kernel)) (by rw [sl]; omega)) (by rw [List.map_map, List.map_map]; rfl)))).eq ?_
          rw [List.all_map, ← eb]
          rfl
        cases b with
        | true => exact ex_cons (x1_if ((tv_not (tv_val tall)).eq (b' := false) rfl) (fun z => nomatch z) (fun _ => ex_nil)) (hyes rfl f cdv A outer s H E hr)
        | false =>
          obtain ⟨env', rfl, rfl⟩ := hno rfl
          exact ex_stop (x1_if ((tv_not (tv_val tall)).eq (b' := true) rfl) (fun _ => ex_one (x1_ret ev_bool)) (fun z => nomatch z))
      cases hI : ds.all isI with
      | false =>
        have e0 : endD (mtch t) rs (.tup ds) = false := by
          show (decide (ds.length = (mtch t).length) && ds.all isI && _) = false
          rw [hI, Bool.and_false, Bool.false_and]
        rw [e0]
        exact fd0 (ds := [.tup (t.d :: rest), dkD (resK rs), .tup ds]) h.fIsEnd scIsEnd rfl (env0 := [vl (.tup (t.d :: rest)), vl (dkD (resK rs)), vl (.tup ds), none, none, none, none, none]) rfl fun f cdv A outer s H E hr => ⟨_, start _ (second false _ hI (fun _ => ⟨_, rfl, rfl⟩) (fun z => nomatch z)) f cdv A outer s H E hr⟩
      | true =>
        obtain ⟨e, rfl⟩ : ∃ e : List Int, ds = e.map D.int := ⟨_, ints_of hI⟩
        rw [List.length_map] at hl
        obtain ⟨out, fr, res⟩ := end_loop (P := P) (w := w) (base := base) h t rest rs e hl (mtch t) [] rfl
        have ev : endD (mtch t) rs (.tup (e.map D.int)) = ((mtch t).zipIdx 0).all (fun p => stepB rs e p.2 p.1) := by
          show (decide ((e.map D.int).length = (mtch t).length) && (e.map D.int).all isI && endB (mtch t) rs ((e.map D.int).map iv)) = _
          rw [List.length_map, decide_eq_true hl, isI_ints, iv_ints]
          rfl
        have res : (((mtch t).zipIdx 0).all (fun p => stepB rs e p.2 p.1) = true ∧ out = _) ∨ (((mtch t).zipIdx 0).all (fun p => stepB rs e p.2 p.1) = false ∧ ∃ env', out = .rt (.val (.bool false)) env') := res
        rw [ev]
        rcases res with ⟨r1, rfl⟩ | ⟨r1, env', rfl⟩
        · rw [r1]
          refine fd0 (ds := [.tup (t.d :: rest), dkD (resK rs), sdD e]) h.fIsEnd scIsEnd rfl (env0 := [vl (.tup (t.d :: rest)), vl (dkD (resK rs)), vl (sdD e), none, none, none, none, none]) rfl fun f cdv A outer s H E hr => ⟨[vl (.tup (t.d :: rest)), vl (dkD (resK rs)), vl (sdD e), vl (.lst ((mtch t).map prD)), none, none, none, none], start _ (second true _ hI (fun z => nomatch z) fun _ f cdv A outer s H E hr => ?_) f cdv A outer s H E hr⟩
          exact ex_cons (x1_for ((iv_enum (ev_name 3 rfl)).eq (prsT_enum _)) (fr f cdv A outer s H E (hr.mono (by omega)))) (ex_stop (x1_ret ev_bool))
        · rw [r1]
          refine fd0 (ds := [.tup (t.d :: rest), dkD (resK rs), sdD e]) h.fIsEnd scIsEnd rfl (env0 := [vl (.tup (t.d :: rest)), vl (dkD (resK rs)), vl (sdD e), none, none, none, none, none]) rfl fun f cdv A outer s H E hr => ⟨env', start _ (second true _ hI (fun z => nomatch z) fun _ f cdv A outer s H E hr => ?_) f cdv A outer s H E hr⟩
          exact ex_stop (x1_for ((iv_enum (ev_name 3 rfl)).eq (prsT_enum _)) (fr f cdv A outer s H E (hr.mono (by omega))))
    · have e0 : endD (mtch t) rs (.tup ds) = false := by
        show (decide (ds.length = (mtch t).length) && ds.all isI && _) = false
        rw [decide_eq_false hl]
        rfl
      rw [e0]
      refine fd0 (ds := [.tup (t.d :: rest), dkD (resK rs), .tup ds]) h.fIsEnd scIsEnd rfl (env0 := [vl (.tup (t.d :: rest)), vl (dkD (resK rs)), vl (.tup ds), none, none, none, none, none]) rfl fun f cdv A outer s H E hr => ⟨[vl (.tup (t.d :: rest)), vl (dkD (resK rs)), vl (.tup ds), vl (.lst ((mtch t).map prD)), none, none, none, none], start _ (fun f cdv A outer s H E hr => ?_) f cdv A outer s H E hr⟩
      have hu := hr.units
      exact ex_stop (x1_if (k := true) (tv_w (tw_orF (isT f cdv A outer s H E) (tw_or1 ((tv_neI (ev_lenT (ds := ds) (ev_name 2 rfl) ml) (ev_lenL (ev_name 3 rfl) ml) hu).eq (b' := true) (by rw [List.length_map]; simp; omega))))) (fun _ => ex_one (x1_ret ev_bool)) (fun z => nomatch z))
end
abbrev sWithin : Stmt := topS 10
abbrev sTeam : Stmt := topS 15
abbrev sQuest : Stmt := topS 14
abbrev nWithin : List Str := ["value", "low", "high"]
abbrev nTeam : List Str := ["value", "many", "entrant", "one", "other"]
abbrev nQuest : List Str := ["pool", "value", "team", "rivals", "margin", "many", "one"]
theorem scWithin : FnScope nWithin ["value", "low", "high"] (defScope sWithin) := ⟨rfl, rfl, rfl, by decide +kernel, rfl, by decide +kernel, by decide +kernel⟩
theorem scTeam : FnScope nTeam ["value", "many"] (defScope sTeam) := ⟨rfl, rfl, rfl, by decide +kernel, rfl, by decide +kernel, by decide +kernel⟩
theorem scQuest : FnScope nQuest ["pool", "value"] (defScope sQuest) := ⟨rfl, rfl, rfl, by decide +kernel, rfl, by decide +kernel, by decide +kernel⟩
structure Pq (K : PySem.W.Frag) (mg : Str → Option Value) : Prop extends Pe K mg where
  mzi : mg "zip" = none
  cRiv : ∃ t, mg "MOST_RIVALS" = some (.int 4 t)
  cMar : ∃ t, mg "MOST_MARGIN" = some (.int 200 t)
  fWithin : Df K mg "is_within" sWithin ["value", "low", "high"]
  fTeam : Df K mg "is_team" sTeam ["value", "many"]
  fQuest : Df K mg "is_question" sQuest ["pool", "value"]
section
variable {P : Program} {w : World} {K : PySem.W.Frag} {mg : Str → Option Value} {base : Heap}
theorem ok_withinD (h : Pq K mg) (d : D) (hd : tyOk d = true) (lo hi : Int) : Fn P w K mg base "is_within" 3 2 (FS0 K [d, .int lo, .int hi] (.val (.bool (btw lo hi d)))) := by
  refine fd0 (ds := [d, .int lo, .int hi]) h.fWithin scWithin rfl (env0 := [vl d, vl (.int lo), vl (.int hi)]) rfl fun f cdv A outer s H E hr => ⟨[vl d, vl (.int lo), vl (.int hi)], ?_⟩
  cases e : isI d with
  | false =>
    have e2 : btw lo hi d = false := by cases d <;> first | rfl | (cases e; done)
    rw [e2]
    exact ex_stop (x1_ret (ev_andF ((ev_call (ds := [d]) (ok_isIntD h.toPm d hd) (hr.mono (by omega)) (ea_cons (ev_name 0 rfl) ea_nil)).eq (by rw [e]))))
  | true =>
    obtain ⟨i, rfl⟩ : ∃ i, d = .int i := by cases d <;> first | exact ⟨_, rfl⟩ | (cases e; done)
    exact ex_stop (x1_ret (ev_andT (ev_call (ds := [.int i]) (ok_isIntD h.toPm (.int i) hd) (hr.mono (by omega)) (ea_cons (ev_name 0 rfl) ea_nil)) (ev_bop1 (ev_chLE (ev_name 1 rfl) (ev_name 0 rfl) (ev_name 2 rfl)))))
theorem ok_team (h : Pq K mg) (d : D) (hd : shw d = true) (hw : wD d ≤ 100000) (n : Nat) (hn1 : n ≤ 60) : Fn P w K mg base "is_team" 2 3 (FS0 K [d, .int n] (.val (.bool (teamD n d)))) := by
  have ml := h.ml
  have mis := h.mis
  have mtu := h.mtu
  have mall := h.mall
  have mzi := h.mzi
  have sl := sizeLine_eq
  have td := shw_ty hd
  refine fd0 (ds := [d, .int n]) h.fTeam scTeam rfl (env0 := [vl d, vl (.int n), none, none, none]) rfl fun f cdv A outer s H E hr => ⟨[vl d, vl (.int n), none, none, none], ?_⟩
  have hn := scTeam.nd
  cases hk : kT d with
  | false =>
    have e0 : teamD n d = false := by cases d <;> first | rfl | (cases hk; done)
    rw [e0]
    exact ex_stop (x1_if (k := true) (tv_w (tw_orT ((tv_not (tv_val (ev_pu (pu_isi (d := d) (pu_name 0 rfl) (kit_T h.ki td) (by decide +kernel) mtu mis td)))).eq (b' := true) (by rw [hk]; rfl)))) (fun _ => ex_one (x1_ret ev_bool)) (fun z => nomatch z))
  | true =>
    obtain ⟨ds, rfl⟩ : ∃ ds, d = .tup ds := by cases d <;> first | exact ⟨_, rfl⟩ | (cases hk; done)
    have sds : ∀ x ∈ ds, shw x = true := (shwL_all ds).mp hd
    have lds : ds.length ≤ 100000 := by
      have := wL_len ds
      rw [wD_tup] at hw
      omega
    have isT : Tv (cxOf CX0 P w K mg base nTeam "is_team" (defScope sTeam) f cdv A outer s H E).nox (boI (ifC (stAt (defBody sTeam) 0)) 0) [vl (.tup ds), vl (.int n), none, none, none] false [vl (.tup ds), vl (.int n), none, none, none] :=
      (tv_not (tv_val (ev_pu (pu_isi (d := .tup ds) (pu_name 0 rfl) (kit_T h.ki td) (by decide +kernel) mtu mis)))).eq (b' := false) rfl
    by_cases c1 : (decide (1 ≤ (ds.length : Int)) && decide ((ds.length : Int) ≤ n)) = true
    · refine ex_cons (x1_if (k := false) (tv_w (tw_orF isT (tw_or1 ((tv_not (tv_chLE ev_int (ev_lenT (ds := ds) (ev_name 0 rfl) ml) (ev_name 1 rfl))).eq (b' := false) (by rw [c1]; rfl))))) (fun z => nomatch z) (fun _ => ex_nil)) ?_
      have c2 := Bool.and_eq_true_iff.mp c1
      have c3 := of_decide_eq_true c2.1
      have tall : Ev (cxOf CX0 P w K mg base nTeam "is_team" (defScope sTeam) f cdv A outer s H E).nox (unI (ifC (stAt (defBody sTeam) 1))) [vl (.tup ds), vl (.int n), none, none, none] (.val (.bool (ds.all (btw 0 (n - 1))))) [vl (.tup ds), vl (.int n), none, none, none] := by
        refine (ev_all (bs := ds.map (btw 0 (n - 1))) (Ev.frzL (ds := (ds.map (btw 0 (n - 1))).map D.bool) (Ev.eq (ev_lc (own := [("entrant", 2)]) (iv_tup (ds := ds) (ev_name 0 rfl)) (lcR_mapD (fun d => M.val (.bool (btw 0 (n - 1) d))) _ ds fun x hx => ⟨_, _, fun _ _ _ _ _ => tg_name 2, fun _ _ _ _ _ => ev_call (ds := [x, .int 0, .int (n - 1)]) (ok_withinD h x (shw_ty (sds x hx)) 0 (n - 1)) (hr.mono (by omega)) (ea_cons (ev_name 2 rfl) (ea_cons ev_int (ea_cons (ev_sub (ev_name 1 rfl) ev_int) ea_nil))), rfl⟩) (bare1 rfl) (blkOk_by (N := nTeam) (sc := defScope sTeam) (by decide +kernel)) (by rw [sl]; omega)) (by rw [List.map_map, List.map_map]; rfl)))).eq ?_
        rw [List.all_map]
        rfl
      cases hb : ds.all (btw 0 (n - 1)) with
      | false =>
        have e0 : teamD n (.tup ds) = false := by
          show (!ds.isEmpty && ds.all (btw 0 (n - 1)) && _) = false
          rw [hb, Bool.and_false, Bool.false_and]
        rw [e0]
        exact ex_stop (x1_if (k := true) ((tv_not (tv_val tall)).eq (b' := true) (by rw [hb]; rfl)) (fun _ => ex_one (x1_ret ev_bool)) (fun z => nomatch z))
      | true =>
        refine ex_cons (x1_if (k := false) ((tv_not (tv_val tall)).eq (b' := false) (by rw [hb]; rfl)) (fun z => nomatch z) (fun _ => ex_nil)) ?_
        obtain ⟨e1, _⟩ := btw_all hb
        have ee : teamD n (.tup ds) = risB (ds.map iv) := by
          have z : ds.isEmpty = false := by cases ds <;> first | rfl | (simp at c3; done)
          show (!ds.isEmpty && ds.all (btw 0 (n - 1)) && risB (ds.map iv)) = _
          rw [hb, z]
          rfl
        rw [ee]
        generalize ds.map iv = es at e1 ⊢
        subst e1
        rw [List.length_map] at lds c3
        refine ex_stop (x1_ret (Ev.eq (ev_all (bs := (es.zip (es.drop 1)).map fun p => decide (p.1 < p.2)) (Ev.frzL (Ev.eq (ev_lc (own := [("one", 3), ("other", 4)]) (Iv.eq (iv_zipT (ev_name 0 rfl) (Ev.eq (ev_slT (ds := es.map D.int) (ev_name 0 rfl) (po_ev ev_int) po_no) (congrArg (fun l => M.val (.tup l)) (cut_from (xs := es.map D.int) (k := 1) (by decide) (by rw [List.length_map]; omega))))) ((congrArg (zipD (es.map D.int)) List.map_drop.symm).trans (zipD_map D.int D.int es (es.drop 1)))) (lcR_map (fun p : Int × Int => D.tup [.int p.1, .int p.2]) (fun p => M.val (.bool (decide (p.1 < p.2)))) _ (es.zip (es.drop 1)) fun p hp => ⟨_, _, fun _ _ _ _ _ => tg_tup (tgs_cons (tg_name 3) (tgs_cons (tg_name 4) tgs_nil)), fun _ _ _ _ _ => ev_lt (ev_name 3 rfl) (ev_name 4 rfl), rfl⟩) (bare2 rfl rfl) (blkOk_by (N := nTeam) (sc := defScope sTeam) (by decide +kernel)) ?_) ?_))) ?_))
        · rw [List.length_map, List.length_zip, sl]; omega
        · rw [List.map_map, List.map_map]; rfl
        · rw [List.all_map]; rfl
    · have c1 := Bool.eq_false_iff.mpr c1
      have e0 : teamD n (.tup ds) = false := by
        refine Bool.eq_false_iff.mpr fun z => ?_
        have z : (!ds.isEmpty && ds.all (btw 0 (n - 1)) && risB (ds.map iv)) = true := z
        rw [Bool.and_eq_true_iff, Bool.and_eq_true_iff] at z
        obtain ⟨⟨z1, z2⟩, z3⟩ := z
        obtain ⟨_, z4⟩ := btw_all z2
        have q := ris_len (n := n) ((risB_iff _).mp z3) fun x hx => by have := z4 x hx; omega
        rw [List.length_map] at q
        have q0 : 0 < ds.length := by cases ds <;> first | (cases z1; done) | exact Nat.succ_pos _
        rw [decide_eq_true (by omega), decide_eq_true (by omega)] at c1
        cases c1
      rw [e0]
      exact ex_stop (x1_if (k := true) (tv_w (tw_orF isT (tw_or1 ((tv_not (tv_chLE ev_int (ev_lenT (ds := ds) (ev_name 0 rfl) ml) (ev_name 1 rfl))).eq (b' := true) (by rw [c1]; rfl))))) (fun _ => ex_one (x1_ret ev_bool)) (fun z => nomatch z))
end
section
variable {P : Program} {w : World} {K : PySem.W.Frag} {mg : Str → Option Value} {base : Heap}
theorem ok_quest (h : Pq K mg) (a b c : D) (ss : List D) (n : Nat) (hn0 : ss.length = n) (hn1 : n ≤ 60) (d : D) (hd : shw d = true) (hw : wD d ≤ 100000) : Fn P w K mg base "is_question" 2 4 (FS0 K [.tup [a, b, c, .tup ss], d] (.val (.bool (questD n d)))) := by
  have ml := h.ml
  have mis := h.mis
  have mtu := h.mtu
  have mall := h.mall
  obtain ⟨t1, c1⟩ := h.cRiv
  obtain ⟨t2, c2⟩ := h.cMar
  have sl := sizeLine_eq
  have td := shw_ty hd
  have hn := scQuest.nd
  cases hk : kT d with
  | false =>
    have e0 : questD n d = false := by cases d <;> first | rfl | (cases hk; done)
    rw [e0]
    refine fd0 (ds := [.tup [a, b, c, .tup ss], d]) h.fQuest scQuest rfl (env0 := [vl (.tup [a, b, c, .tup ss]), vl d, none, none, none, none, none]) rfl fun f cdv A outer s H E hr => ⟨[vl (.tup [a, b, c, .tup ss]), vl d, none, none, none, none, none], ?_⟩
    exact ex_stop (x1_if (k := true) (tv_w (tw_orT ((tv_not (tv_val (ev_pu (pu_isi (d := d) (pu_name 1 rfl) (kit_T h.ki td) (by decide +kernel) mtu mis td)))).eq (b' := true) (by rw [hk]; rfl)))) (fun _ => ex_one (x1_ret ev_bool)) (fun z => nomatch z))
  | true =>
    obtain ⟨ds, rfl⟩ : ∃ ds, d = .tup ds := by cases d <;> first | exact ⟨_, rfl⟩ | (cases hk; done)
    have sds : ∀ x ∈ ds, shw x = true := (shwL_all ds).mp hd
    have wds : ∀ x ∈ ds, wD x ≤ 100000 := fun x hx => by
      have := (Vok.mem (n := 100000) (m := dD (.tup ds)) ⟨hd, hw, Nat.le_refl _⟩ hx).wt
      omega
    have isT : ∀ (f : Addr) (cdv : Value) (A : Around) (outer : List Env) (s : Shared) (H : Hp) (E : XK), Tv (cxOf CX0 P w K mg base nQuest "is_question" (defScope sQuest) f cdv A outer s H E).nox (boI (ifC (stAt (defBody sQuest) 0)) 0) [vl (.tup [a, b, c, .tup ss]), vl (.tup ds), none, none, none, none, none] false [vl (.tup [a, b, c, .tup ss]), vl (.tup ds), none, none, none, none, none] := fun f cdv A outer s H E =>
      (tv_not (tv_val (ev_pu (pu_isi (d := .tup ds) (pu_name 1 rfl) (kit_T h.ki td) (by decide +kernel) mtu mis)))).eq (b' := false) rfl
    by_cases hl : ds.length = 3
    · obtain ⟨t, r, m, rfl⟩ : ∃ t r m, ds = [t, r, m] := by
        match ds, hl with
        | [t, r, m], _ => exact ⟨t, r, m, rfl⟩
      have st := sds t (by simp)
      have sr := sds r (by simp)
      have sm := sds m (by simp)
      have wt := wds t (by simp)
      have wr := wds r (by simp)
      -- behind the first test
      have start : ∀ out, (In0 P w K mg base nQuest "is_question" sQuest 3 fun X => Ex X ((defBody sQuest).drop 2) [vl (.tup [a, b, c, .tup ss]), vl (.tup [t, r, m]), vl t, vl r, vl m, none, none] out) →
          In0 P w K mg base nQuest "is_question" sQuest 3 fun X => Ex X (defBody sQuest) [vl (.tup [a, b, c, .tup ss]), vl (.tup [t, r, m]), none, none, none, none, none] out := fun out k f cdv A outer s H E hr => by
        have hn := scQuest.nd
        refine ex_cons (x1_if (k := false) (tv_w (tw_orF (isT f cdv A outer s H E) (tw_or1 ((tv_neI (ev_lenT (ds := [t, r, m]) (ev_name 1 rfl) ml) ev_int hr.units).eq (b' := false) rfl)))) (fun z => nomatch z) (fun _ => ex_nil)) ?_
        exact ex_cons (x1_asgT (ev_name 1 rfl) (tg_tup (ds := [t, r, m]) (tgs_cons (tg_name 2) (tgs_cons (tg_name 3) (tgs_cons (tg_name 4) tgs_nil))))) (k f cdv A outer s H E hr)
      cases hk2 : kT r with
      | false =>
        have e0 : questD n (.tup [t, r, m]) = false := by cases r <;> first | rfl | (cases hk2; done)
        rw [e0]
        refine fd0 (ds := [.tup [a, b, c, .tup ss], .tup [t, r, m]]) h.fQuest scQuest rfl (env0 := [vl (.tup [a, b, c, .tup ss]), vl (.tup [t, r, m]), none, none, none, none, none]) rfl fun f cdv A outer s H E hr => ⟨[vl (.tup [a, b, c, .tup ss]), vl (.tup [t, r, m]), vl t, vl r, vl m, none, none], start _ (fun f cdv A outer s H E hr => ?_) f cdv A outer s H E hr⟩
        exact ex_stop (x1_if (k := true) (tv_w (tw_orT ((tv_not (tv_val (ev_pu (pu_isi (d := r) (pu_name 3 rfl) (kit_T h.ki (shw_ty sr)) (by decide +kernel) mtu mis (shw_ty sr))))).eq (b' := true) (by rw [hk2]; rfl)))) (fun _ => ex_one (x1_ret ev_bool)) (fun z => nomatch z))
      | true =>
        obtain ⟨rs, rfl⟩ : ∃ rs, r = .tup rs := by cases r <;> first | exact ⟨_, rfl⟩ | (cases hk2; done)
        have srs : ∀ x ∈ rs, shw x = true := (shwL_all rs).mp sr
        have wrs : ∀ x ∈ rs, wD x ≤ 100000 := fun x hx => by
          have := (Vok.mem (n := 100000) (m := dD (.tup rs)) ⟨sr, wr, Nat.le_refl _⟩ hx).wt
          omega
        have isR : ∀ (f : Addr) (cdv : Value) (A : Around) (outer : List Env) (s : Shared) (H : Hp) (E : XK), Tv (cxOf CX0 P w K mg base nQuest "is_question" (defScope sQuest) f cdv A outer s H E).nox (boI (ifC (stAt (defBody sQuest) 2)) 0) [vl (.tup [a, b, c, .tup ss]), vl (.tup [t, .tup rs, m]), vl t, vl (.tup rs), vl m, none, none] false [vl (.tup [a, b, c, .tup ss]), vl (.tup [t, .tup rs, m]), vl t, vl (.tup rs), vl m, none, none] := fun f cdv A outer s H E =>
          (tv_not (tv_val (ev_pu (pu_isi (d := .tup rs) (pu_name 3 rfl) (kit_T h.ki (shw_ty sr)) (by decide +kernel) mtu mis)))).eq (b' := false) rfl
        by_cases h4 : rs.length ≤ 4
        · refine fd0 (ds := [.tup [a, b, c, .tup ss], .tup [t, .tup rs, m]]) h.fQuest scQuest rfl (env0 := [vl (.tup [a, b, c, .tup ss]), vl (.tup [t, .tup rs, m]), none, none, none, none, none]) rfl fun f cdv A outer s H E hr => ⟨[vl (.tup [a, b, c, .tup ss]), vl (.tup [t, .tup rs, m]), vl t, vl (.tup rs), vl m, vl (.int n), none], start _ (fun f cdv A outer s H E hr => ?_) f cdv A outer s H E hr⟩
          have hn := scQuest.nd
          refine ex_cons (x1_if (k := false) (tv_w (tw_orF (isR f cdv A outer s H E) (tw_or1 ((tv_gt (ev_lenT (ds := rs) (ev_name 3 rfl) ml) (ev_pu (pu_glob c1))).eq (b' := false) (decide_eq_false (by omega)))))) (fun z => nomatch z) (fun _ => ex_nil)) ?_
          refine ex_cons (x1_set 5 ((ev_lenT (ds := ss) (ev_ixT (ds := [a, b, c, .tup ss]) (ev_name 0 rfl) ev_int (atI_of (i := 3) (by decide) rfl)) ml).eq (m' := .val (.int n)) (by rw [hn0]))) ?_
          have tall : Ev (cxOf CX0 P w K mg base nQuest "is_question" (defScope sQuest) f cdv A outer s H E).nox (boI (rtV (stAt (defBody sQuest) 4)) 0) [vl (.tup [a, b, c, .tup ss]), vl (.tup [t, .tup rs, m]), vl t, vl (.tup rs), vl m, vl (.int n), none] (.val (.bool ((t :: rs).all (teamD n)))) [vl (.tup [a, b, c, .tup ss]), vl (.tup [t, .tup rs, m]), vl t, vl (.tup rs), vl m, vl (.int n), none] := by
            refine (ev_all (bs := (t :: rs).map (teamD n)) (Ev.frzL (ds := ((t :: rs).map (teamD n)).map D.bool) (Ev.eq (ev_lc (own := [("one", 6)]) (iv_tup (ds := t :: rs) (ev_tup (ds := t :: rs) (ea_cons (ev_name 2 rfl) (ea_starL (ev_name 3 rfl))) (by rw [List.length_cons]; omega))) (lcR_mapD (fun d => M.val (.bool (teamD n d))) _ (t :: rs) fun x hx => ⟨_, _, fun _ _ _ _ _ => tg_name 6, fun _ _ _ _ _ => ev_call (ds := [x, .int n]) (ok_team h x ?_ ?_ n hn1) (hr.mono (by omega)) (ea_cons (ev_name 6 rfl) (ea_cons (ev_name 5 rfl) ea_nil)), rfl⟩) (bare1 rfl) (blkOk_by (N := nQuest) (sc := defScope sQuest) (by decide +kernel)) (by rw [List.length_cons, sl]; omega)) (by rw [List.map_map, List.map_map]; rfl)))).eq ?_
            · rcases List.mem_cons.mp hx with rfl | hx
              · exact st
              · exact srs x hx
            · rcases List.mem_cons.mp hx with rfl | hx
              · exact wt
              · exact wrs x hx
            · rw [List.all_map]; rfl
          refine ex_stop (x1_ret (Ev.eq (ev_and tall (fun _ => ev_bop1 (ev_call (ds := [m, .int (-200), .int 200]) (ok_withinD h m (shw_ty sm) (-200) 200) (hr.mono (by omega)) (ea_cons (ev_name 4 rfl) (ea_cons (ev_neg (ev_pu (pu_glob c2))) (ea_cons (ev_pu (pu_glob c2)) ea_nil)))))) ?_))
          show M.val (.bool ((teamD n t && rs.all (teamD n)) && btw (-200) 200 m)) = M.val (.bool (teamD n t && decide (rs.length ≤ 4) && rs.all (teamD n) && btw (-200) 200 m))
          rw [decide_eq_true h4, Bool.and_true]
        · have e0 : questD n (.tup [t, .tup rs, m]) = false := by
            show (teamD n t && decide (rs.length ≤ 4) && rs.all (teamD n) && btw (-200) 200 m) = false
            rw [decide_eq_false h4, Bool.and_false, Bool.false_and, Bool.false_and]
          rw [e0]
          refine fd0 (ds := [.tup [a, b, c, .tup ss], .tup [t, .tup rs, m]]) h.fQuest scQuest rfl (env0 := [vl (.tup [a, b, c, .tup ss]), vl (.tup [t, .tup rs, m]), none, none, none, none, none]) rfl fun f cdv A outer s H E hr => ⟨[vl (.tup [a, b, c, .tup ss]), vl (.tup [t, .tup rs, m]), vl t, vl (.tup rs), vl m, none, none], start _ (fun f cdv A outer s H E hr => ?_) f cdv A outer s H E hr⟩
          exact ex_stop (x1_if (k := true) (tv_w (tw_orF (isR f cdv A outer s H E) (tw_or1 ((tv_gt (ev_lenT (ds := rs) (ev_name 3 rfl) ml) (ev_pu (pu_glob c1))).eq (b' := true) (decide_eq_true (by omega)))))) (fun _ => ex_one (x1_ret ev_bool)) (fun z => nomatch z))
    · have e0 : questD n (.tup ds) = false := by
        unfold questD
        split
        · rename_i heq
          cases heq
          exact absurd rfl hl
        · rfl
      rw [e0]
      refine fd0 (ds := [.tup [a, b, c, .tup ss], .tup ds]) h.fQuest scQuest rfl (env0 := [vl (.tup [a, b, c, .tup ss]), vl (.tup ds), none, none, none, none, none]) rfl fun f cdv A outer s H E hr => ⟨[vl (.tup [a, b, c, .tup ss]), vl (.tup ds), none, none, none, none, none], ?_⟩
      exact ex_stop (x1_if (k := true) (tv_w (tw_orF (isT f cdv A outer s H E) (tw_or1 ((tv_neI (ev_lenT (ds := ds) (ev_name 1 rfl) ml) ev_int hr.units).eq (b' := true) (by rw [decide_eq_false (by omega)]; rfl))))) (fun _ => ex_one (x1_ret ev_bool)) (fun z => nomatch z))
end
abbrev sPoints : Stmt := topS 18
abbrev sReach : Stmt := topS 17
abbrev sHope : Stmt := topS 16
abbrev nPoints : List Str := ["points", "team", "entrant"]
abbrev nReach : List Str := ["points", "question", "team", "rivals", "margin", "mine", "rival"]
abbrev nHope : List Str := ["pool", "results", "question", "value"]
theorem scPoints : FnScope nPoints ["points", "team"] (defScope sPoints) := ⟨rfl, rfl, rfl, by decide +kernel, rfl, by decide +kernel, by decide +kernel⟩
theorem scReach : FnScope nReach ["points", "question"] (defScope sReach) := ⟨rfl, rfl, rfl, by decide +kernel, rfl, by decide +kernel, by decide +kernel⟩
theorem scHope : FnScope nHope ["pool", "results", "question", "value"] (defScope sHope) := ⟨rfl, rfl, rfl, by decide +kernel, rfl, by decide +kernel, by decide +kernel⟩
structure Pr (K : PySem.W.Frag) (mg : Str → Option Value) : Prop extends Pq K mg where
  msum : mg "sum" = none
  fPoints : Df K mg "points_of" sPoints ["points", "team"]
  fReach : Df K mg "reaches" sReach ["points", "question"]
  fHope : Df K mg "is_hope" sHope ["pool", "results", "question", "value"]
def esOf : D → List Int
  | .tup ds => ds.map iv
  | _ => []
def hopeD (p : PoolS) (rs : Rs) (q : QuS) (d : D) : Bool := endD (mtch p.t) rs d && reachB (scoresF (mtch p.t) p.pts p.bonus p.sheets (esOf d)) q
section
variable {P : Program} {w : World} {K : PySem.W.Frag} {mg : Str → Option Value} {base : Heap}
theorem ok_points (h : Pr K mg) (ps es : List Int) (hl : es.length ≤ 100000) (hb : ∀ k ∈ es, 0 ≤ k ∧ k < ps.length) : Fn P w K mg base "points_of" 2 1 (FS0 K [sdD ps, sdD es] (.val (.int (tsum ps es)))) := by
  have msum := h.msum
  have sl := sizeLine_eq
  refine fd0 (ds := [sdD ps, sdD es]) h.fPoints scPoints rfl (env0 := [vl (sdD ps), vl (sdD es), none]) rfl fun f cdv A outer s H E hr => ⟨[vl (sdD ps), vl (sdD es), none], ?_⟩
  have hn := scPoints.nd
  refine ex_stop (x1_ret (ev_sumL (ns := es.map fun k => ps.getD k.toNat 0) (Ev.frzL (Ev.eq (ev_lc (own := [("entrant", 2)]) (iv_tup (ds := es.map D.int) (ev_name 1 rfl)) (lcR_map D.int (fun k => M.val (.int (ps.getD k.toNat 0))) _ es fun k hk => ⟨_, _, fun _ _ _ _ _ => tg_name 2, fun _ _ _ _ _ => ev_ixT (ds := ps.map D.int) (ev_name 0 rfl) (ev_name 2 rfl) (atI_map (f := D.int) (xs := ps) (i := k) (hb k hk).1 (hb k hk).2 0), rfl⟩) (bare1 rfl) (blkOk_by (N := nPoints) (sc := defScope sPoints) (by decide +kernel)) (by rw [List.length_map, sl]; omega)) (by rw [List.map_map, List.map_map]; rfl)))))
theorem ok_reach (h : Pr K mg) (ps : List Int) (q : QuS) (ok : QuOk ps.length q) (hps : ps.length ≤ 1000) : Fn P w K mg base "reaches" 2 2 (FS0 K [sdD ps, q.d] (.val (.bool (reachB ps q)))) := by
  have mall := h.mall
  have sl := sizeLine_eq
  refine fd0 (ds := [sdD ps, q.d]) h.fReach scReach rfl (env0 := [vl (sdD ps), vl q.d, none, none, none, none, none]) rfl fun f cdv A outer s H E hr => ⟨[vl (sdD ps), vl q.d, vl (sdD q.team), vl (.tup (q.rivals.map sdD)), vl (.int q.margin), vl (.int (tsum ps q.team)), none], ?_⟩
  have hn := scReach.nd
  have rl := ok.rl
  have tl := ok.t.len
  refine ex_cons (x1_asgT (ev_name 1 rfl) (tg_tup (ds := [sdD q.team, .tup (q.rivals.map sdD), .int q.margin]) (tgs_cons (tg_name 2) (tgs_cons (tg_name 3) (tgs_cons (tg_name 4) tgs_nil))))) ?_
  refine ex_cons (x1_set 5 (ev_call (ds := [sdD ps, sdD q.team]) (ok_points h ps q.team (by omega) ok.t.b) (hr.mono (by omega)) (ea_cons (ev_name 0 rfl) (ea_cons (ev_name 2 rfl) ea_nil)))) ?_
  refine ex_stop (x1_ret (Ev.eq (ev_all (bs := q.rivals.map fun r => decide (q.margin ≤ tsum ps q.team - tsum ps r)) (Ev.frzL (Ev.eq (ev_lc (own := [("rival", 6)]) (iv_tup (ds := q.rivals.map sdD) (ev_name 3 rfl)) (lcR_map sdD (fun r => M.val (.bool (decide (q.margin ≤ tsum ps q.team - tsum ps r)))) _ q.rivals fun r hrr => ⟨_, _, fun _ _ _ _ _ => tg_name 6, fun _ _ _ _ _ => ev_ge (ev_sub (ev_name 5 rfl) (ev_call (ds := [sdD ps, sdD r]) (ok_points h ps r ?_ (ok.r r hrr).b) (hr.mono (by omega)) (ea_cons (ev_name 0 rfl) (ea_cons (ev_name 6 rfl) ea_nil)))) (ev_name 4 rfl), rfl⟩) (bare1 rfl) (blkOk_by (N := nReach) (sc := defScope sReach) (by decide +kernel)) (by rw [List.length_map, sl]; omega)) (by rw [List.map_map, List.map_map]; rfl)))) ?_))
  · have := (ok.r r hrr).len; omega
  · unfold reachB leadF
    rw [List.all_map, List.all_map]; rfl
theorem ok_hope (h : Pr K mg) (p : PoolS) (hz : p.t.leaves.length ≤ 900) (hpl : p.pts.length = (mtch p.t).length) (hs : ∀ s ∈ p.sheets, s.length = (mtch p.t).length) (hsl : p.sheets.length ≤ 1000) (rs : Rs) (q : QuS) (ok : QuOk p.sheets.length q) (d : D) (hd : shw d = true) (hw : wD d ≤ 100000) :
    Fn P w K mg base "is_hope" 4 (p.t.leaves.length + 4) (FS0 K [p.d, dkD (resK rs), q.d, d] (.val (.bool (hopeD p rs q d)))) := by
  have e1 := ok_isEndD (P := P) (w := w) (base := base) h.toPe p.t hz [sdD p.pts, .int p.bonus, .tup (p.sheets.map sdD)] rs d hd hw
  have lp := p.t.leaves_pos
  refine fd0 (ds := [p.d, dkD (resK rs), q.d, d]) h.fHope scHope rfl (env0 := [vl p.d, vl (dkD (resK rs)), vl q.d, vl d]) rfl fun f cdv A outer s H E hr => ⟨[vl p.d, vl (dkD (resK rs)), vl q.d, vl d], ?_⟩
  cases he : endD (mtch p.t) rs d with
  | false =>
    have e0 : hopeD p rs q d = false := by unfold hopeD; rw [he]; rfl
    rw [e0]
    exact ex_stop (x1_if (k := true) ((tv_not (tv_val (ev_call (ds := [p.d, dkD (resK rs), d]) e1 (hr.mono (by omega)) (ea_cons (ev_name 0 rfl) (ea_cons (ev_name 1 rfl) (ea_cons (ev_name 3 rfl) ea_nil)))))).eq (b' := true) (by rw [he]; rfl)) (fun _ => ex_one (x1_ret ev_bool)) (fun z => nomatch z))
  | true =>
    obtain ⟨ds, rfl⟩ : ∃ ds, d = .tup ds := by cases d <;> first | exact ⟨_, rfl⟩ | (cases he; done)
    have he2 : (decide (ds.length = (mtch p.t).length) && ds.all isI && endB (mtch p.t) rs (ds.map iv)) = true := he
    rw [Bool.and_eq_true_iff, Bool.and_eq_true_iff, decide_eq_true_eq] at he2
    obtain ⟨⟨z1, z2⟩, z3⟩ := he2
    have e0 : hopeD p rs q (.tup ds) = reachB (scoresF (mtch p.t) p.pts p.bonus p.sheets (ds.map iv)) q := by unfold hopeD; rw [he]; rfl
    rw [e0]
    have ee := ints_of z2
    have hel : (ds.map iv).length = (mtch p.t).length := by rw [List.length_map, z1]
    have c1 := ok_scores (P := P) (w := w) (base := base) h.toPe p (ds.map iv) hz hpl hel hs hsl
    have sl : (scoresF (mtch p.t) p.pts p.bonus p.sheets (ds.map iv)).length = p.sheets.length := by unfold scoresF; rw [List.length_map]
    have c2 := ok_reach (P := P) (w := w) (base := base) h (scoresF (mtch p.t) p.pts p.bonus p.sheets (ds.map iv)) q (by rw [sl]; exact ok) (by rw [sl]; exact hsl)
    refine ex_cons (x1_if (k := false) ((tv_not (tv_val (ev_call (ds := [p.d, dkD (resK rs), .tup ds]) e1 (hr.mono (by omega)) (ea_cons (ev_name 0 rfl) (ea_cons (ev_name 1 rfl) (ea_cons (ev_name 3 rfl) ea_nil)))))).eq (b' := false) (by rw [he]; rfl)) (fun z => nomatch z) (fun _ => ex_nil)) ?_
    refine ex_stop (x1_ret (ev_call (ds := [sdD (scoresF (mtch p.t) p.pts p.bonus p.sheets (ds.map iv)), q.d]) c2 (hr.mono (by omega)) (ea_cons (ev_call (ds := [p.d, sdD (ds.map iv)]) c1 (hr.mono (by omega)) (ea_cons (ev_name 0 rfl) (ea_cons ((ev_name 3 rfl).eq ?_) ea_nil))) (ea_cons (ev_name 2 rfl) ea_nil))))
    show M.val (.tup ds) = M.val (.tup ((ds.map iv).map D.int))
    rw [← ee]
end
abbrev sLSide : Stmt := topS 31
abbrev sDSheet : Stmt := topS 32
abbrev nLSide : List Str := ["part", "winners"]
abbrev nDSheet : List Str := ["pen", "tree", "sides", "winners", "number", "parts", "some", "part"]
theorem scLSide : FnScope nLSide ["part", "winners"] (defScope sLSide) := ⟨rfl, rfl, rfl, by decide +kernel, rfl, by decide +kernel, by decide +kernel⟩
theorem scDSheet : FnScope nDSheet ["pen", "tree"] (defScope sDSheet) := ⟨rfl, rfl, rfl, by decide +kernel, rfl, by decide +kernel, by decide +kernel⟩
structure Fs5 (K : PySem.W.Frag) (mg : Str → Option Value) : Prop extends Fs3 K mg where
  fLSide : Df K mg "_law_side" sLSide ["part", "winners"]
  fDSheet : Df K mg "_law_draw_sheet" sDSheet ["pen", "tree"]
section
variable {P : Program} {w : World} {K : PySem.W.Frag} {mg : Str → Option Value} {base : Heap}
theorem ok_lside (h : Fs5 K mg) (rs : Rs) : ∀ p : Pt, Fn P w K mg base "_law_side" 2 1 (FS0 K [p.d, dkD (resK rs)] (.val (oD (sideW (lookR rs) p))))
  | .side n => by
    refine fd0 (ds := [Pt.d (.side n), dkD (resK rs)]) h.fLSide scLSide rfl (env0 := [vl (Pt.d (.side n)), vl (dkD (resK rs))]) rfl fun f cdv A outer s H E hr => ?_
    apply Exists.intro
    exact ex_stop (x1_ret (ev_ifT ((tv_eqS (by decide +kernel) (by decide +kernel) (ev_ixT (ev_name 0 rfl) ev_int rfl) ev_str hr.units).eq (by decide)) (ev_ixT (ev_name 0 rfl) ev_int rfl)))
  | .mtch k => by
    refine fd0 (ds := [Pt.d (.mtch k), dkD (resK rs)]) h.fLSide scLSide rfl (env0 := [vl (Pt.d (.mtch k)), vl (dkD (resK rs))]) rfl fun f cdv A outer s H E hr => ?_
    apply Exists.intro
    have hu := hr.units
    refine ex_stop (x1_ret (ev_ifF ((tv_eqS (by decide +kernel) (by decide +kernel) (ev_ixT (ev_name 0 rfl) ev_int rfl) ev_str hr.units).eq (by decide)) (Ev.eq (ev_get (k := .inl (k : Int)) (ev_name 1 rfl) (ev_ixT (ev_name 0 rfl) ev_int rfl) (Nat.lt_of_le_of_lt (Nat.add_le_add_left (by decide : 1 ≤ 64) _) hu)) ?_)))
    rw [get_res]
    show M.val (((lookR rs k).map D.int).getD .none) = .val (oD (lookR rs k))
    cases lookR rs k <;> rfl
end
abbrev tgDSheet : Expr := frT (stAt (defBody sDSheet) 1)
abbrev bDSheet : List Stmt := frB (stAt (defBody sDSheet) 1)
section
variable {P : Program} {w : World} {K : PySem.W.Frag} {mg : Str → Option Value} {base : Heap}
theorem sheet_loop (h : Fs5 K mg) (t : Tr) (hz : t.leaves.length ≤ 900) : ∀ (as pre : Prs), pre ++ as = mtch t → ∀ (rs : Rs), Known (sdsOf (mtch t)) pre.length rs → ∀ {B : Int} {m : M}, B + 2 * as.length ≤ 999999 → PenOk B m →
    ∃ (rs' : Rs) (m' : M), Known (sdsOf (mtch t)) (mtch t).length rs' ∧ PenOk (B + 2 * as.length) m' ∧
      In0 P w K mg base nDSheet "_law_draw_sheet" sDSheet 3 fun X => ForR X tgDSheet bDSheet (prsT pre.length as) [some (.io m), vl t.d, vl (.lst ((sdsOf (mtch t)).map sdD)), some (.own (dkM (resK rs))), none, none, none, none] (.nx [some (.io m'), vl t.d, vl (.lst ((sdsOf (mtch t)).map sdD)), some (.own (dkM (resK rs'))), none, none, none, none])
  | [], pre, e, rs, hk, B, m, hB, hp => by
    rw [List.append_nil] at e
    exact ⟨rs, m, by rw [← e] at hk ⊢; exact hk, hp.mono (by simp), fun _ _ _ _ _ _ _ _ => .nil⟩
  | p :: as, pre, e, rs, hk, B, m, hB, hp => by
    have mli := h.mli
    have f1 : Fs1 K mg := h.toFs3.toFs2.toFs1
    simp only [List.length_cons] at hB
    have okf : OkF (mtch t) := (noted t []).ok fun i p z => by simp at z
    have hat : (mtch t)[pre.length]? = some p := by rw [← e, List.getElem?_append_right (Nat.le_refl _), Nat.sub_self]; rfl
    obtain ⟨o1, o2⟩ := okf _ _ hat
    obtain ⟨a, ha, hma⟩ := hk.side o1
    obtain ⟨b, hb, hmb⟩ := hk.side o2
    have hn2 : (mtch t).length + 1 = t.leaves.length := by have z := note_len t []; rw [List.length_nil, Nat.zero_add] at z; exact z
    have hpl : pre.length < (mtch t).length := (List.getElem?_eq_some_iff.mp hat).1
    have hsl : pre.length < (sdsOf (mtch t)).length := by rw [sdsOf_len]; exact hpl
    have hso : (sdsOf (mtch t))[pre.length]? = some ((sdsOf (mtch t)).getD pre.length []) := by rw [List.getD_eq_getElem?_getD, List.getElem?_eq_getElem hsl]; rfl
    obtain ⟨z1, z2, _⟩ := (noted t []).sz _ _ (Nat.zero_le _) hso
    obtain ⟨r, m1, hz1, r0, r1, hp1⟩ := ok_take (P := P) (w := w) (base := base) f1 (by omega) hp 6 (by omega) (by omega)
    obtain ⟨ds, eds, hds0, hds1, hdsm⟩ : ∃ ds : List D, ds = (if 0 < r then [D.int a, .int b] else ((sdsOf (mtch t)).getD pre.length []).map D.int) ∧ 0 < ds.length ∧ ds.length < 1073741824 ∧ ∀ d ∈ ds, ∃ v : Int, d = .int v ∧ v ∈ (sdsOf (mtch t)).getD pre.length [] := by
      refine ⟨_, rfl, ?_, ?_, fun d hd => ?_⟩
      · split
        · exact Nat.succ_pos _
        · rw [List.length_map]; omega
      · split
        · exact (by decide : 2 < 1073741824)
        · rw [List.length_map]; omega
      · split at hd
        · have hd : d = .int a ∨ d = .int b := by simpa using hd
          rcases hd with rfl | rfl
          · exact ⟨a, rfl, part_in okf hat (.inl hma)⟩
          · exact ⟨b, rfl, part_in okf hat (.inr hmb)⟩
        · obtain ⟨v, hv, rfl⟩ := List.mem_map.mp hd
          exact ⟨v, rfl, hv⟩
    obtain ⟨d, m2, hz2, hd, hp2⟩ := ok_oneOf (P := P) (w := w) (base := base) f1 (by omega) hp1 ds hds0 hds1
    obtain ⟨v, rfl, hv⟩ := hdsm d hd
    obtain ⟨rs', m', hk', hp', fr⟩ := sheet_loop h t hz as (pre ++ [p]) (by rw [List.append_assoc]; exact e) (rs ++ [(pre.length, v)]) (by rw [List.length_append]; exact hk.snoc hv) (B := B + 1 + 1) (by omega) hp2
    refine ⟨rs', m', hk', hp'.mono (by simp only [List.length_cons]; omega), fun f cdv A outer s H E hr => ?_⟩
    have hn := scDSheet.nd
    have hu := hr.units
    have sl := sizeLine_eq
    have hu1 := Nat.lt_of_le_of_lt (Nat.add_le_add_left (by decide : 1 ≤ 64) _) hu
    have fr := fr f cdv A outer s H E hr
    rw [List.length_append] at fr
    have hlr : rs.length = pre.length := by have := congrArg List.length hk.keys; simpa using this
    obtain ⟨pa, pb⟩ := p
    rw [prsT_cons]
    refine .nx (tg_tup (tgs_cons (tg_name 4) (tgs_cons (tg_name 5) tgs_nil))) ?_ fr
    refine ex_cons (x1_setLc 6 (own := [("part", 7)]) (iv_tup (ds := [pa, pb].map Pt.d) (ev_name 5 rfl)) (lcR_map Pt.d (fun p => M.val (.int ((sideW (lookR rs) p).getD 0))) _ [pa, pb] fun q hq => ⟨_, _, fun _ _ _ _ _ => tg_name 7, fun _ _ _ _ _ => Ev.eq (ev_see rfl (ev_call (ds := [q.d, dkD (resK rs)]) (ok_lside h rs q) (hr.mono (by omega)) (ea_cons (ev_name 7 rfl) (ea_cons ((ev_name 3 rfl).eq (congrArg M.val (frz_dkM _))) ea_nil))) ?_) ?_, ?_⟩) (bare1 rfl) (blkOk_by (N := nDSheet) (sc := defScope sDSheet) (by decide +kernel)) (show 2 ≤ sizeLine by decide)) ?_
    · cases sideW (lookR rs) q <;> rfl
    · rcases (by simpa using hq : q = pa ∨ q = pb) with rfl | rfl
      · rw [show sideW (lookR rs) q = some a from ha]; rfl
      · rw [show sideW (lookR rs) q = some b from hb]; rfl
    · rfl
    refine ex_frz 6 rfl ?_
    have hfz : frz (M.lst ([pa, pb].map fun p => M.val (.int ((sideW (lookR rs) p).getD 0)))) = .lst [.int a, .int b] := by
      show D.lst [D.int ((sideW (lookR rs) pa).getD 0), D.int ((sideW (lookR rs) pb).getD 0)] = _
      rw [show sideW (lookR rs) pa = some a from ha, show sideW (lookR rs) pb = some b from hb]; rfl
    refine Ex.eq (Ex.fgt 6 (Ex.fgt 5 (Ex.fgt 4 (ex_one (x1_setK 3 (kvs := resK rs) (k := .inl (pre.length : Int)) (ev_call1 (pre := []) (post := [.lst ds]) hz2 hr (ea_lend 0 rfl (ea_cons (ev_if (k := decide (0 < r)) (tv_gt (ev_call1 (pre := []) (post := [.int 6]) hz1 (hr.mono (by omega)) (ea_lend 0 rfl (ea_cons ev_int ea_nil)) rfl) ev_int) (fun q => (ev_name 6 rfl).eq ?_) (fun q => Ev.eq (Ev.frzL (ev_listT (ds := ((sdsOf (mtch t)).getD pre.length []).map D.int) (ev_ixL (ev_name 2 rfl) (ev_name 4 rfl) ?_))) ?_)) ea_nil)) rfl) (ev_name 4 rfl) rfl rfl ?_ hu1))))) ?_
    · rw [eds, if_pos (of_decide_eq_true q)]
      exact congrArg M.val hfz
    · exact atI_map (f := sdD) (xs := sdsOf (mtch t)) (i := (pre.length : Int)) (by omega) (by omega) []
    · rw [eds, if_neg (of_decide_eq_false q)]
    · rw [show (resK rs).length = rs.length from List.length_map .., sl]; omega
    · show Out.nx [some (Sl.io m2), vl t.d, vl (.lst ((sdsOf (mtch t)).map sdD)), some (.own (dkM (putD (resK rs) (.inl (pre.length : Int)) (.int v)))), none, none, none, none] = _
      rw [put_new hk.new]
theorem ok_dsheet (h : Fs5 K mg) (t : Tr) (hz : t.leaves.length ≤ 900) {B : Int} {m : M} (hB : B + 2 * (mtch t).length ≤ 999999) (hp : PenOk B m) :
    ∃ (s : List Int) (m' : M), Fn P w K mg base "_law_draw_sheet" 2 (t.leaves.length + 4) (FS1 K [] m [t.d] (.val (sdD s)) m') ∧ SheetOk (sdsOf (mtch t)) s ∧ PenOk (B + 2 * (mtch t).length) m' := by
  have mra := h.mra
  have men := h.men
  have mtu := h.mtu
  have ml := h.ml
  have lp := t.leaves_pos
  obtain ⟨rs, m', hk, hp', fr⟩ := sheet_loop (P := P) (w := w) (base := base) h t hz (mtch t) [] rfl [] Known.nil hB hp
  have hk2 : Known (sdsOf (mtch t)) (sdsOf (mtch t)).length rs := by rw [sdsOf_len]; exact hk
  have hn2 : (mtch t).length + 1 = t.leaves.length := by have z := note_len t []; rw [List.length_nil, Nat.zero_add] at z; exact z
  have hsl : (sdsOf (mtch t)).length = (mtch t).length := sdsOf_len _
  refine ⟨endOf rs (sdsOf (mtch t)).length, m', fd1 (pre := []) (post := [t.d]) h.fDSheet scDSheet rfl (env0 := [some (.io m), vl t.d, none, none, none, none, none, none]) rfl fun f cdv A outer s H E hr => ?_, hk2.sheet, hp'⟩
  have hn := scDSheet.nd
  have hu := hr.units
  have sl := sizeLine_eq
  have hu1 := Nat.lt_of_le_of_lt (Nat.add_le_add_left (by decide : 1 ≤ 64) _) hu
  apply Exists.intro
  refine ⟨?_, ?_⟩
  · refine ex_cons (x1_parC 2 3 (em_cons (ev_call (ds := [t.d]) (ok_lsides h.toFs3 t (by omega)) (hr.mono (by omega)) (ea_cons (ev_name 1 rfl) ea_nil)) (em_cons ev_newK em_nil))) ?_
    refine ex_frz 2 rfl ?_
    rw [show frz (sdsM (sdsOf (mtch t))) = .lst ((sdsOf (mtch t)).map sdD) from frz_map sdD _]
    refine ex_cons (x1_for (Iv.eq (iv_enum ((ev_call (ds := [t.d]) (ok_lmatches h.toFs3 t (by omega)) (hr.mono (by omega)) (ea_cons (ev_name 1 rfl) ea_nil)).frz.eq (m' := .val (.lst ((mtch t).map prD))) (by rw [prsM, frz_map]))) (prsT_enum _)) (fr f cdv A outer s H E (hr.mono (by omega)))) ?_
    refine ex_stop (x1_ret (Ev.eq (ev_tupL (ds := (endOf rs (sdsOf (mtch t)).length).map D.int) (Ev.frzL (Ev.eq (ev_lc (own := [("number", 4)]) (Iv.eq (iv_range1 (ev_lenL (ev_name 2 rfl) ml) ⟨by omega, by rw [List.length_map]; omega⟩) (by rw [List.length_map, Int.toNat_natCast]; exact rangeD0 _)) (lcR_map (fun k : Nat => D.int (k : Int)) (fun k => M.val (.int ((lookR rs k).getD 0))) _ _ fun k hk => ⟨_, _, fun _ _ _ _ _ => tg_name 4, fun _ _ _ _ _ => ev_see rfl (ev_dget (k := .inl (k : Int)) (d := .int ((lookR rs k).getD 0)) ((ev_name 3 rfl).eq (congrArg M.val (frz_dkM _))) (ev_name 4 rfl) ?_ hu1) rfl, rfl⟩) (bare1 rfl) (blkOk_by (N := nDSheet) (sc := defScope sDSheet) (by decide +kernel)) ?_) ?_))) rfl))
    · obtain ⟨a, ha, _⟩ := hk2.look (List.mem_range.mp hk)
      rw [get_res, ha]; rfl
    · rw [List.length_map, List.length_range]; omega
    · unfold endOf
      rw [List.map_map, List.map_map]
      rfl
  · rfl
end
abbrev sDPool : Stmt := topS 33
abbrev nDPool : List Str := ["pen", "most", "entrants", "tree", "way", "count", "points", "sheets", "k"]
theorem scDPool : FnScope nDPool ["pen", "most", "entrants"] (defScope sDPool) := ⟨rfl, rfl, rfl, by decide +kernel, rfl, by decide +kernel, by decide +kernel⟩
structure Fs6 (K : PySem.W.Frag) (mg : Str → Option Value) : Prop extends Fs5 K mg where
  fDPool : Df K mg "_law_draw_pool" sDPool ["pen", "most", "entrants"]
abbrev lcPts : Expr := caI (asV (stAt (defBody sDPool) 2)) 0
abbrev lcShs : Expr := caI (asV (stAt (defBody sDPool) 3)) 0
section
variable {P : Program} {w : World} {K : PySem.W.Frag} {mg : Str → Option Value} {base : Heap}
theorem pts_loop (h : Fs6 K mg) (d1 d2 d3 d5 : D) (way : Int) (w0 : 0 ≤ way) (w1 : way < 4) : ∀ (n lo : Nat), lo + n ≤ 15 → ∀ {B : Int} {m : M}, B + 2 * n ≤ 999999 → PenOk B m →
    ∃ (xs : List Int) (m' : M), xs.length = n ∧ (∀ x ∈ xs, 0 ≤ x ∧ x ≤ 20) ∧ PenOk (B + 2 * n) m' ∧
      In0 P w K mg base nDPool "_law_draw_pool" sDPool 3 fun X => LcR X (lcS (defScope sDPool) lcPts) (lcT lcPts) (lcE lcPts) [] [8] ((List.range' lo n).map fun k => D.int (k : Nat)) [some (.io m), d1 |> vl, vl d2, vl d3, vl (.int way), vl d5, none, none, none] ((xs.map D.int).map M.val) [some (.io m'), vl d1, vl d2, vl d3, vl (.int way), vl d5, none, none, none]
  | 0, lo, _, B, m, hB, hp => ⟨[], m, rfl, (fun _ h => nomatch h), hp.mono (by simp), fun _ _ _ _ _ _ _ _ => .nil⟩
  | n + 1, lo, hlo, B, m, hB, hp => by
    have f1 : Fs1 K mg := h.toFs5.toFs3.toFs2.toFs1
    obtain ⟨r1, m1, hz1, a0, a1, hp1⟩ := ok_take (P := P) (w := w) (base := base) f1 (by omega) hp 21 (by omega) (by omega)
    obtain ⟨r2, m2, hz2, b0, b1, hp2⟩ := ok_take (P := P) (w := w) (base := base) f1 (by omega) hp1 3 (by omega) (by omega)
    obtain ⟨xs, m', hl, hb, hp', lc⟩ := pts_loop h d1 d2 d3 d5 way w0 w1 n (lo + 1) (by omega) (B := B + 1 + 1) (by omega) hp2
    refine ⟨([1, 1 + (lo : Int), r1, r2] : List Int).getD way.toNat 0 :: xs, m', by rw [List.length_cons, hl], fun x hx => ?_, hp'.mono (by omega), fun f cdv A outer s H E hr => ?_⟩
    · rcases List.mem_cons.mp hx with rfl | hx
      · obtain rfl | rfl | rfl | rfl : way = 0 ∨ way = 1 ∨ way = 2 ∨ way = 3 := by omega
        · exact (by decide : (0 : Int) ≤ 1 ∧ (1 : Int) ≤ 20)
        · show 0 ≤ 1 + (lo : Int) ∧ 1 + (lo : Int) ≤ 20; omega
        · show 0 ≤ r1 ∧ r1 ≤ 20; omega
        · show 0 ≤ r2 ∧ r2 ≤ 20; omega
      · exact hb x hx
    · have hn := scDPool.nd
      exact .yes (fun _ _ _ _ _ => tg_name 8) (fun _ _ _ _ _ => tvs_nil) (fun _ _ _ _ _ => ev_ixL (ev_lstF (ds := ([1, 1 + (lo : Int), r1, r2] : List Int).map D.int) (ea_cons ev_int (ea_cons (ev_add ev_int (ev_name 8 rfl)) (ea_cons (ev_call1 (pre := []) (post := [.int 21]) hz1 (hr.mono (by omega)) (ea_lend 0 rfl (ea_cons ev_int ea_nil)) rfl) (ea_cons (ev_call1 (pre := []) (post := [.int 3]) hz2 (hr.mono (by omega)) (ea_lend 0 rfl (ea_cons ev_int ea_nil)) rfl) ea_nil))))) (ev_name 4 rfl) (atI_map (f := D.int) w0 (by simpa using w1) 0)) (lc f cdv A outer s H E hr)
theorem shs_loop (h : Fs6 K mg) (d1 d2 d4 d5 d6 : D) (t : Tr) (hz : t.leaves.length ≤ 16) : ∀ (n lo : Nat), n ≤ 1000 → ∀ {B : Int} {m : M}, B + 32 * n ≤ 999999 → PenOk B m →
    ∃ (ss : List (List Int)) (m' : M), ss.length = n ∧ (∀ s ∈ ss, SheetOk (sdsOf (mtch t)) s) ∧ PenOk (B + 32 * n) m' ∧
      In0 P w K mg base nDPool "_law_draw_pool" sDPool 20 fun X => LcR X (lcS (defScope sDPool) lcShs) (lcT lcShs) (lcE lcShs) [] [8] ((List.range' lo n).map fun k => D.int (k : Nat)) [some (.io m), vl d1, vl d2, vl t.d, vl d4, vl d5, vl d6, none, none] ((ss.map sdD).map M.val) [some (.io m'), vl d1, vl d2, vl t.d, vl d4, vl d5, vl d6, none, none]
  | 0, lo, _, B, m, hB, hp => ⟨[], m, rfl, (fun _ h => nomatch h), hp.mono (by simp), fun _ _ _ _ _ _ _ _ => .nil⟩
  | n + 1, lo, hlo, B, m, hB, hp => by
    have hn2 : (mtch t).length + 1 = t.leaves.length := by have z := note_len t []; rw [List.length_nil, Nat.zero_add] at z; exact z
    obtain ⟨s1, m1, hz1, ok1, hp1⟩ := ok_dsheet (P := P) (w := w) (base := base) h.toFs5 t (by omega) (by omega) hp
    obtain ⟨ss, m', hl, hb, hp', lc⟩ := shs_loop h d1 d2 d4 d5 d6 t hz n (lo + 1) (by omega) (B := B + 32) (by omega) (hp1.mono (by omega))
    refine ⟨s1 :: ss, m', by rw [List.length_cons, hl], fun x hx => ?_, hp'.mono (by omega), fun f cdv A outer s H E hr => ?_⟩
    · rcases List.mem_cons.mp hx with rfl | hx
      · exact ok1
      · exact hb x hx
    · have hn := scDPool.nd
      exact .yes (fun _ _ _ _ _ => tg_name 8) (fun _ _ _ _ _ => tvs_nil) (fun _ _ _ _ _ => ev_call1 (pre := []) (post := [t.d]) hz1 (hr.mono (by omega)) (ea_lend 0 rfl (ea_cons (ev_name 3 rfl) ea_nil)) rfl) (lc f cdv A outer s H E hr)
/-- a pool as it is drawn -/
structure PoolOk (p : PoolS) : Prop where
  q : ∃ q : Nat, 2 ≤ q ∧ q ≤ 16 ∧ p.t.leaves.Perm (rangeI q)
  pl : p.pts.length = (mtch p.t).length
  pb : ∀ x ∈ p.pts, 0 ≤ x ∧ x ≤ 20
  b : 0 ≤ p.bonus ∧ p.bonus ≤ 9
  sl : 1 ≤ p.sheets.length ∧ p.sheets.length ≤ 5
  ss : ∀ s ∈ p.sheets, SheetOk (sdsOf (mtch p.t)) s
theorem ok_dpool (h : Fs6 K mg) (most ent : Int) (hm : 2 ≤ most ∧ most ≤ 16) (he : 1 ≤ ent ∧ ent ≤ 5) {B : Int} {m : M} (hB : B + 400 ≤ 999999) (hp : PenOk B m) :
    ∃ (p : PoolS) (m' : M), Fn P w K mg base "_law_draw_pool" 3 21 (FS1 K [] m [.int most, .int ent] (.val p.d) m') ∧ PoolOk p ∧ PenOk (B + 400) m' := by
  have mtu := h.mtu
  have mra := h.mra
  have ml := h.ml
  have f1 : Fs1 K mg := h.toFs5.toFs3.toFs2.toFs1
  obtain ⟨r, m1, hz1, r0, r1, hp1⟩ := ok_take (P := P) (w := w) (base := base) f1 (by omega) hp (most - 1) (by omega) (by omega)
  obtain ⟨q, hq⟩ : ∃ q : Nat, (q : Int) = 2 + r := ⟨(2 + r).toNat, by omega⟩
  obtain ⟨t, m2, hz2, et, hp2⟩ := ok_draw (P := P) (w := w) (base := base) h.toFs5.toFs3.toFs2 q (by omega) (by omega) (by omega) hp1
  have hlv : t.leaves.length = q := by rw [et.length_eq, rangeI_len]
  have hn2 : (mtch t).length + 1 = t.leaves.length := by have z := note_len t []; rw [List.length_nil, Nat.zero_add] at z; exact z
  obtain ⟨way, m3, hz3, w0, w1, hp3⟩ := ok_take (P := P) (w := w) (base := base) f1 (by omega) hp2 4 (by omega) (by omega)
  obtain ⟨pts, m4, pl, pb, hp4, lc4⟩ := pts_loop (P := P) (w := w) (base := base) h (.int most) (.int ent) t.d (.int (mtch t).length) way w0 (by omega) (mtch t).length 0 (by omega) (by omega) hp3
  obtain ⟨r5, m5, hz5, s0, s1, hp5⟩ := ok_take (P := P) (w := w) (base := base) f1 (by omega) hp4 ent (by omega) (by omega)
  obtain ⟨n5, hn5⟩ : ∃ n : Nat, (n : Int) = 1 + r5 := ⟨(1 + r5).toNat, by omega⟩
  obtain ⟨ss, m6, sl, sb, hp6, lc6⟩ := shs_loop (P := P) (w := w) (base := base) h (.int most) (.int ent) (.int way) (.int (mtch t).length) (.tup (pts.map D.int)) t (by omega) n5 0 (by omega) (by omega) hp5
  obtain ⟨d, m7, hz7, hd, hp7⟩ := ok_oneOf (P := P) (w := w) (base := base) f1 (by omega) hp6 [.int 0, .int 0, .int 1, .int 3, .int 9] (by decide) (by decide)
  obtain ⟨bonus, rfl, hb⟩ : ∃ b : Int, d = .int b ∧ (0 ≤ b ∧ b ≤ 9) := by
    simp only [List.mem_cons, List.not_mem_nil, or_false] at hd
    rcases hd with rfl | rfl | rfl | rfl | rfl
    · exact ⟨0, rfl, by decide⟩
    · exact ⟨0, rfl, by decide⟩
    · exact ⟨1, rfl, by decide⟩
    · exact ⟨3, rfl, by decide⟩
    · exact ⟨9, rfl, by decide⟩
  refine ⟨⟨t, pts, bonus, ss⟩, m7, fd1 (pre := []) (post := [.int most, .int ent]) h.fDPool scDPool rfl (env0 := [some (.io m), vl (.int most), vl (.int ent), none, none, none, none, none, none]) rfl fun f cdv A outer s H E hr => ?_, ⟨⟨q, by omega, by omega, et⟩, pl, pb, hb, ⟨by show 1 ≤ ss.length; omega, by show ss.length ≤ 5; omega⟩, sb⟩, hp7.mono (by omega)⟩
  have hn := scDPool.nd
  have sz := sizeLine_eq
  apply Exists.intro
  refine ⟨?_, ?_⟩
  · refine ex_cons (x1_set 3 (ev_call1 (pre := []) (post := [.int q]) hz2 (hr.mono (by omega)) (ea_lend 0 rfl (ea_cons ((ev_add ev_int (ev_call1 (pre := []) (post := [.int (most - 1)]) hz1 (hr.mono (by omega)) (ea_lend 0 rfl (ea_cons (ev_sub (ev_name 1 rfl) ev_int) ea_nil)) rfl)).eq (by rw [hq])) ea_nil)) rfl)) ?_
    refine ex_cons (x1_parC 4 5 (em_cons (ev_call1 (pre := []) (post := [.int 4]) hz3 (hr.mono (by omega)) (ea_lend 0 rfl (ea_cons ev_int ea_nil)) rfl) (em_cons (Ev.eq (m' := .val (.int (mtch t).length)) (ev_lenL (ds := (mtch t).map prD) ((ev_call (ds := [t.d]) (ok_lmatches h.toFs5.toFs3 t (by omega)) (hr.mono (by omega)) (ea_cons (ev_name 3 rfl) ea_nil)).frz.eq (by rw [prsM, frz_map])) ml) (by rw [List.length_map])) em_nil))) ?_
    refine ex_cons (x1_set 6 (ev_tupL (ds := pts.map D.int) (Ev.frzL (ev_lc (own := [("k", 8)]) (Iv.eq (iv_range1 (ev_name 5 rfl) ⟨by omega, by omega⟩) (by rw [Int.toNat_natCast, rangeD0, List.range_eq_range'])) (lc4 f cdv A outer s H E (hr.mono (by omega))) (bare1 rfl) (blkOk_by (N := nDPool) (sc := defScope sDPool) (by decide +kernel)) (by rw [List.length_map, List.length_range']; omega))))) ?_
    refine ex_cons (x1_set 7 (ev_tupL (ds := ss.map sdD) (Ev.frzL (ev_lc (own := [("k", 8)]) (Iv.eq (iv_range1 (ev_add ev_int (ev_call1 (pre := []) (post := [.int ent]) hz5 (hr.mono (by omega)) (ea_lend 0 rfl (ea_cons (ev_name 2 rfl) ea_nil)) rfl)) ⟨by omega, by omega⟩) (by rw [← hn5, Int.toNat_natCast, rangeD0, List.range_eq_range'])) (lc6 f cdv A outer s H E (hr.mono (by omega))) (bare1 rfl) (blkOk_by (N := nDPool) (sc := defScope sDPool) (by decide +kernel)) (by rw [List.length_map, List.length_range']; omega))))) ?_
    refine ex_stop (x1_ret (ev_tup (ds := [t.d, .tup (pts.map D.int), .int bonus, .tup (ss.map sdD)]) (ea_cons (ev_name 3 rfl) (ea_cons (ev_name 6 rfl) (ea_cons (ev_call1 (pre := []) (post := [.lst [.int 0, .int 0, .int 1, .int 3, .int 9]]) hz7 (hr.mono (by omega)) (ea_lend 0 rfl (ea_cons (ev_lstF (ds := [.int 0, .int 0, .int 1, .int 3, .int 9]) (ea_cons ev_int (ea_cons ev_int (ea_cons ev_int (ea_cons ev_int (ea_cons ev_int ea_nil)))))) ea_nil)) rfl) (ea_cons (ev_name 7 rfl) ea_nil))))))
  · rfl
end
abbrev sDRes : Stmt := topS 34
abbrev nDRes : List Str := ["pen", "pool", "wide", "found", "number", "parts", "some", "part"]
theorem scDRes : FnScope nDRes ["pen", "pool", "wide"] (defScope sDRes) := ⟨rfl, rfl, rfl, by decide +kernel, rfl, by decide +kernel, by decide +kernel⟩
structure Fs7 (K : PySem.W.Frag) (mg : Str → Option Value) : Prop extends Fs6 K mg where
  mdi : mg "dict" = none
  fDRes : Df K mg "_law_draw_results" sDRes ["pen", "pool", "wide"]
abbrev bDRes : List Stmt := frB (stAt (defBody sDRes) 1)
theorem flat_oD (o : Option Int) : flat (.val (oD o)) = true := by cases o <;> rfl
section
variable {P : Program} {w : World} {K : PySem.W.Frag} {mg : Str → Option Value} {base : Heap}
theorem res_loop (h : Fs7 K mg) (t : Tr) (hz : t.leaves.length ≤ 900) (rest : List D) (wide : Int) (w0 : 0 < wide) (w1 : wide < 1073741824) : ∀ (as pre : Prs), pre ++ as = mtch t → ∀ (rs : Rs), Grow (mtch t) rs → (∀ k ∈ rs.map (·.1), k < pre.length) → ∀ {B : Int} {m : M}, B + 2 * as.length ≤ 999999 → PenOk B m →
    ∃ (rs' : Rs) (m' : M), Grow (mtch t) rs' ∧ PenOk (B + 2 * as.length) m' ∧
      In0 P w K mg base nDRes "_law_draw_results" sDRes 4 fun X => ForR X (frT (stAt (defBody sDRes) 1)) bDRes (prsT pre.length as) [some (.io m), vl (.tup (t.d :: rest)), vl (.int wide), some (.own (dkM (resK rs))), none, none, none, none] (.nx [some (.io m'), vl (.tup (t.d :: rest)), vl (.int wide), some (.own (dkM (resK rs'))), none, none, none, none])
  | [], pre, e, rs, g, hk, B, m, hB, hp => ⟨rs, m, g, hp.mono (by simp), fun _ _ _ _ _ _ _ _ => .nil⟩
  | (pa, pb) :: as, pre, e, rs, g, hk, B, m, hB, hp => by
    have f1 : Fs1 K mg := h.toFs6.toFs5.toFs3.toFs2.toFs1
    simp only [List.length_cons] at hB
    have hat : (mtch t)[pre.length]? = some (pa, pb) := by rw [← e, List.getElem?_append_right (Nat.le_refl _), Nat.sub_self]; rfl
    have hkn : pre.length ∉ rs.map (·.1) := fun z => Nat.lt_irrefl _ (hk _ z)
    have nd := scDRes.nd
    -- the sides, as far as they are known
    have head : ∀ (m : M), In0 P w K mg base nDRes "_law_draw_results" sDRes 4 fun X => Ex1 X (stAt bDRes 0) [some (.io m), vl (.tup (t.d :: rest)), vl (.int wide), some (.own (dkM (resK rs))), vl (.int (pre.length : Nat)), vl (prD (pa, pb)), none, none]
        (.nx [some (.io m), vl (.tup (t.d :: rest)), vl (.int wide), some (.own (dkM (resK rs))), vl (.int (pre.length : Nat)), vl (prD (pa, pb)), some (.own (.lst [.val (oD (sideW (lookR rs) pa)), .val (oD (sideW (lookR rs) pb))])), none]) := fun m f cdv A outer s H E hr => by
      have hn := nd
      exact x1_setLc 6 (own := [("part", 7)]) (iv_tup (ds := [pa, pb].map Pt.d) (ev_name 5 rfl)) (lcR_map Pt.d (fun p => M.val (oD (sideW (lookR rs) p))) _ [pa, pb] fun q hq => ⟨_, _, fun _ _ _ _ _ => tg_name 7, fun _ _ _ _ _ => ev_see rfl (ev_call (ds := [q.d, dkD (resK rs)]) (ok_lside h.toFs5 rs q) (hr.mono (by omega)) (ea_cons (ev_name 7 rfl) (ea_cons ((ev_name 3 rfl).eq (congrArg M.val (frz_dkM _))) ea_nil))) (flat_oD _), rfl⟩) (bare1 rfl) (blkOk_by (N := nDRes) (sc := defScope sDRes) (by decide +kernel)) (show 2 ≤ sizeLine by decide)
    have frzS : frz (M.lst [.val (oD (sideW (lookR rs) pa)), .val (oD (sideW (lookR rs) pb))]) = .lst [oD (sideW (lookR rs) pa), oD (sideW (lookR rs) pb)] := rfl
    have fl2 : [oD (sideW (lookR rs) pa), oD (sideW (lookR rs) pb)].all flatD = true := by
      cases sideW (lookR rs) pa <;> cases sideW (lookR rs) pb <;> rfl
    have fin := freeB_in (mtch t) rs pre.length (pa, pb) hat
    have ll : ∀ rs2 : Rs, (∀ k ∈ rs2.map (·.1), k < (pre ++ [(pa, pb)]).length) → Grow (mtch t) rs2 → ∀ {B2 : Int} {m2 : M}, B2 + 2 * as.length ≤ 999999 → PenOk B2 m2 → _ := fun rs2 hk2 g2 => res_loop h t hz rest wide w0 w1 as (pre ++ [(pa, pb)]) (by rw [List.append_assoc]; exact e) rs2 g2 hk2
    have lpre : (pre ++ [(pa, pb)]).length = pre.length + 1 := by rw [List.length_append]; rfl
    have old : ∀ k ∈ rs.map (·.1), k < (pre ++ [(pa, pb)]).length := fun k z => by have := hk k z; omega
    cases fb : freeB (mtch t) rs pre.length with
    | false =>
      obtain ⟨rs', m', g', hp', fr⟩ := ll rs old g (B2 := B) (m2 := m) (by omega) hp
      refine ⟨rs', m', g', hp'.mono (by simp only [List.length_cons]; omega), fun f cdv A outer s H E hr => ?_⟩
      have hn := nd
      have fr := fr f cdv A outer s H E hr
      rw [lpre] at fr
      rw [prsT_cons]
      refine .nx (tg_tup (tgs_cons (tg_name 4) (tgs_cons (tg_name 5) tgs_nil))) (Ex.eq (Ex.fgt 6 (Ex.fgt 5 (Ex.fgt 4 (ex_cons (head m f cdv A outer s H E hr) (ex_frz 6 rfl (ex_one (x1_if (k := false) (tv_w (tw_andF ((tv_notInLF (ev_none) ((ev_name 6 rfl).eq (congrArg M.val frzS)) rfl fl2).eq (fin.trans fb)))) (fun z => nomatch z) (fun _ => ex_nil)))))))) rfl) fr
    | true =>
      obtain ⟨p2, a, b, hat2, ha, hb⟩ := free_some fb
      rw [hat] at hat2
      cases hat2
      have ha : sideW (lookR rs) pa = some a := ha
      have hb : sideW (lookR rs) pb = some b := hb
      obtain ⟨r, m1, hz1, r0, r1, hp1⟩ := ok_take (P := P) (w := w) (base := base) f1 (by omega) hp wide w0 w1
      by_cases hr0 : r = 0
      · obtain ⟨d, m2, hz2, hd, hp2⟩ := ok_oneOf (P := P) (w := w) (base := base) f1 (by omega) hp1 [.int a, .int b] (by simp) (by simp)
        obtain ⟨v, rfl, hv⟩ : ∃ v : Int, d = .int v ∧ (v = a ∨ v = b) := by
          simp only [List.mem_cons, List.not_mem_nil, or_false] at hd
          rcases hd with rfl | rfl
          · exact ⟨a, rfl, .inl rfl⟩
          · exact ⟨b, rfl, .inr rfl⟩
        have g2 := g.snoc hkn hat ha hb hv
        obtain ⟨rs', m', g', hp', fr⟩ := ll (rs ++ [(pre.length, v)]) (fun k z => by
          rw [List.map_append, List.mem_append] at z
          rcases z with z | z
          · exact old k z
          · have : k = pre.length := by simpa using z
            omega) g2 (B2 := B + 1 + 1) (m2 := m2) (by omega) hp2
        refine ⟨rs', m', g', hp'.mono (by simp only [List.length_cons]; omega), fun f cdv A outer s H E hr => ?_⟩
        have hn := nd
        have hu := hr.units
        have hu1 := Nat.lt_of_le_of_lt (Nat.add_le_add_left (by decide : 1 ≤ 64) _) hu
        have fr := fr f cdv A outer s H E hr
        rw [lpre] at fr
        rw [prsT_cons]
        have gl := g.len
        have hn2 : (mtch t).length + 1 = t.leaves.length := by have z := note_len t []; rw [List.length_nil, Nat.zero_add] at z; exact z
        refine .nx (tg_tup (tgs_cons (tg_name 4) (tgs_cons (tg_name 5) tgs_nil))) (Ex.eq (Ex.fgt 6 (Ex.fgt 5 (Ex.fgt 4 (ex_cons (head m f cdv A outer s H E hr) (ex_frz 6 rfl (ex_one (x1_if (k := true) (tv_w (tw_andT ((tv_notInLF (ev_none) ((ev_name 6 rfl).eq (congrArg M.val frzS)) rfl fl2).eq (fin.trans fb)) (tw_and1 ((tv_eqI (ev_call1 (pre := []) (post := [.int wide]) hz1 (hr.mono (by omega)) (ea_lend 0 rfl (ea_cons (ev_name 2 rfl) ea_nil)) rfl) ev_int hu).eq (decide_eq_true hr0)))))
          (fun _ => ex_one (x1_setK 3 (kvs := resK rs) (k := .inl (pre.length : Int)) (ev_call1 (pre := []) (post := [.lst [.int a, .int b]]) hz2 (hr.mono (by omega)) (ea_lend 0 rfl (ea_cons ((ev_name 6 rfl).eq (congrArg M.val (by rw [frzS, ha, hb]; rfl))) ea_nil)) rfl) (ev_name 4 rfl) rfl rfl ?_ hu1)) (fun z => nomatch z)))))))) ?_) fr
        · rw [show (resK rs).length = rs.length from List.length_map ..]
          rw [sizeLine_eq]
          omega
        · show Out.nx [some (Sl.io m2), vl (.tup (t.d :: rest)), vl (.int wide), some (.own (dkM (putD (resK rs) (.inl (pre.length : Int)) (.int v)))), none, none, none, none] = _
          rw [put_new hkn]
      · obtain ⟨rs', m', g', hp', fr⟩ := ll rs old g (B2 := B + 1) (m2 := m1) (by omega) hp1
        refine ⟨rs', m', g', hp'.mono (by simp only [List.length_cons]; omega), fun f cdv A outer s H E hr => ?_⟩
        have hn := nd
        have hu := hr.units
        have fr := fr f cdv A outer s H E hr
        rw [lpre] at fr
        rw [prsT_cons]
        refine .nx (tg_tup (tgs_cons (tg_name 4) (tgs_cons (tg_name 5) tgs_nil))) (Ex.eq (Ex.fgt 6 (Ex.fgt 5 (Ex.fgt 4 (ex_cons (head m f cdv A outer s H E hr) (ex_frz 6 rfl (ex_one (x1_if (k := false) (tv_w (tw_andT ((tv_notInLF (ev_none) ((ev_name 6 rfl).eq (congrArg M.val frzS)) rfl fl2).eq (fin.trans fb)) (tw_and1 ((tv_eqI (ev_call1 (pre := []) (post := [.int wide]) hz1 (hr.mono (by omega)) (ea_lend 0 rfl (ea_cons (ev_name 2 rfl) ea_nil)) rfl) ev_int hu).eq (decide_eq_false hr0)))))
          (fun z => nomatch z) (fun _ => ex_nil)))))))) rfl) fr
end
section
variable {P : Program} {w : World} {K : PySem.W.Frag} {mg : Str → Option Value} {base : Heap}
theorem grow_rev {f : Prs} {rs : Rs} (g : Grow f rs) : Grow f rs.reverse ∧ ∀ k, lookR rs.reverse k = lookR rs k := by
  have nd : (rs.reverse.map (·.1)).Nodup := by
    rw [List.map_reverse]
    exact List.pairwise_reverse.mpr (g.nd.imp fun h => Ne.symm h)
  have lk : ∀ k, lookR rs.reverse k = lookR rs k := fun k => by
    cases e : lookR rs k with
    | some v => exact lookR_mem nd (List.mem_reverse.mpr (lookR_some e))
    | none =>
      refine lookR_none.mpr fun z => lookR_none.mp e ?_
      rw [List.map_reverse] at z
      exact List.mem_reverse.mp z
  refine ⟨⟨nd, fun k v hv => ?_⟩, lk⟩
  obtain ⟨p, a, b, hp, ha, hb, hab⟩ := g.ok k v (List.mem_reverse.mp hv)
  have e : lookR rs.reverse = lookR rs := funext lk
  exact ⟨p, a, b, hp, by rw [e]; exact ha, by rw [e]; exact hb, hab⟩
theorem resK_rev (rs : Rs) : resK rs.reverse = (resK rs).reverse := List.map_reverse ..
theorem ok_dres (h : Fs7 K mg) (t : Tr) (hz : t.leaves.length ≤ 900) (rest : List D) (wide : Int) (w0 : 0 < wide) (w1 : wide < 1073741824) {B : Int} {m : M} (hB : B + 2 * (mtch t).length + 1 ≤ 999999) (hp : PenOk B m) :
    ∃ (rs : Rs) (m' : M), Fn P w K mg base "_law_draw_results" 3 (t.leaves.length + 5) (FS1 K [] m [.tup (t.d :: rest), .int wide] (dkM (resK rs)) m') ∧ Grow (mtch t) rs ∧ PenOk (B + 2 * (mtch t).length + 1) m' := by
  have mdi := h.mdi
  have mli := h.mli
  have men := h.men
  have f1 : Fs1 K mg := h.toFs6.toFs5.toFs3.toFs2.toFs1
  obtain ⟨rs, m1, g, hp1, fr⟩ := res_loop (P := P) (w := w) (base := base) h t hz rest wide w0 w1 (mtch t) [] rfl [] Grow.nil (fun k hk => nomatch hk) (by omega) hp
  obtain ⟨r, m2, hz2, r0, r1, hp2⟩ := ok_take (P := P) (w := w) (base := base) f1 (by omega) hp1 3 (by omega) (by omega)
  have nd := scDRes.nd
  have start : ∀ out, (In0 P w K mg base nDRes "_law_draw_results" sDRes (t.leaves.length + 4) fun X => Ex X ((defBody sDRes).drop 2) [some (.io m1), vl (.tup (t.d :: rest)), vl (.int wide), some (.own (dkM (resK rs))), none, none, none, none] out) →
      In0 P w K mg base nDRes "_law_draw_results" sDRes (t.leaves.length + 4) fun X => Ex X (defBody sDRes) [some (.io m), vl (.tup (t.d :: rest)), vl (.int wide), none, none, none, none, none] out := fun out k f cdv A outer s H E hr => by
    have hn := nd
    refine ex_cons (x1_set 3 ev_newK) ?_
    refine ex_cons (x1_for (Iv.eq (iv_enum ((ev_call (ds := [t.d]) (ok_lmatches h.toFs6.toFs5.toFs3 t (by omega)) (hr.mono (by omega)) (ea_cons (ev_ixT (ds := t.d :: rest) (ev_name 1 rfl) ev_int (atI_of (i := 0) (by decide) rfl)) ea_nil)).frz.eq (m' := .val (.lst ((mtch t).map prD))) (by rw [prsM, frz_map]))) (prsT_enum _)) (fr f cdv A outer s H E (hr.mono (by omega)))) ?_
    exact k f cdv A outer s H E hr
  by_cases hr0 : r = 0
  · obtain ⟨g2, _⟩ := grow_rev g
    refine ⟨rs.reverse, m2, fd1 (pre := []) (post := [.tup (t.d :: rest), .int wide]) h.fDRes scDRes rfl (env0 := [some (.io m), vl (.tup (t.d :: rest)), vl (.int wide), none, none, none, none, none]) rfl fun f cdv A outer s H E hr => ⟨[some (.io m2), vl (.tup (t.d :: rest)), vl (.int wide), some (.own (dkM (resK rs))), none, none, none, none], start _ (fun f cdv A outer s H E hr => ?_) f cdv A outer s H E hr, rfl⟩, g2, hp2⟩
    have hu := hr.units
    refine ex_stop (x1_ret (ev_ifT ((tv_eqI (ev_call1 (pre := []) (post := [.int 3]) hz2 (hr.mono (by omega)) (ea_lend 0 rfl (ea_cons ev_int ea_nil)) rfl) ev_int hu).eq (decide_eq_true hr0)) (ev_dictP (kvs := resK rs.reverse) (Ev.frzL ((ev_revL (ds := (resK rs).map fun q => D.tup [kD q.1, q.2]) ((ev_itemsO 3 (kvs := resK rs) rfl rfl).eq (by rw [items_kd]))).eq (by rw [← List.map_reverse, resK_rev]))) ?_)))
    exact resK_nd g2.nd
  · refine ⟨rs, m2, fd1 (pre := []) (post := [.tup (t.d :: rest), .int wide]) h.fDRes scDRes rfl (env0 := [some (.io m), vl (.tup (t.d :: rest)), vl (.int wide), none, none, none, none, none]) rfl fun f cdv A outer s H E hr => ⟨[some (.io m2), vl (.tup (t.d :: rest)), vl (.int wide), none, none, none, none, none], start _ (fun f cdv A outer s H E hr => ?_) f cdv A outer s H E hr, rfl⟩, g, hp2⟩
    have hu := hr.units
    exact ex_stop (x1_ret (ev_ifF ((tv_eqI (ev_call1 (pre := []) (post := [.int 3]) hz2 (hr.mono (by omega)) (ea_lend 0 rfl (ea_cons ev_int ea_nil)) rfl) ev_int hu).eq (decide_eq_false hr0)) (ev_move 3 rfl)))
/-- an ending that agrees with results, match by match -/
structure EndSt (f : Prs) (rs qs : Rs) (n : Nat) : Prop where
  g : Grow f qs
  keys : qs.map (·.1) = List.range n
  ag : ∀ k v, k < n → lookR rs k = some v → lookR qs k = some v
theorem EndSt.known {f : Prs} {rs qs : Rs} {n : Nat} (h : EndSt f rs qs n) : ∀ {q : Pt}, OkPt n q → ∃ a, sideW (lookR qs) q = some a
  | .side k, _ => ⟨k, rfl⟩
  | .mtch j, o => by
    cases e : lookR qs j with
    | some v => exact ⟨v, e⟩
    | none => exact absurd (by rw [h.keys]; exact List.mem_range.mpr o) (lookR_none.mp e)
theorem EndSt.new {f : Prs} {rs qs : Rs} {n : Nat} (h : EndSt f rs qs n) : n ∉ qs.map (·.1) := by rw [h.keys]; simp
theorem EndSt.snoc {f : Prs} {rs qs : Rs} {n : Nat} (h : EndSt f rs qs n) (gr : Grow f rs) (okf : OkF f) {p : Pt × Pt} {a b v : Int} (hp : f[n]? = some p) (ha : sideW (lookR qs) p.1 = some a) (hb : sideW (lookR qs) p.2 = some b) (hv : v = a ∨ v = b) :
    EndSt f rs (qs ++ [(n, (lookR rs n).getD v)]) (n + 1) := by
  have hv2 : (lookR rs n).getD v = a ∨ (lookR rs n).getD v = b := by
    cases e : lookR rs n with
    | none => exact hv
    | some x =>
      obtain ⟨p2, c, d, hp2, hc, hd, hx⟩ := gr.ok n x (lookR_some e)
      rw [hp] at hp2
      cases hp2
      obtain ⟨o1, o2⟩ := okf n p hp
      have part : ∀ {q : Pt} {c d : Int}, OkPt n q → sideW (lookR rs) q = some c → sideW (lookR qs) q = some d → c = d := fun {q c d} o e1 e2 => by
        cases q with
        | side k => rw [show sideW (lookR rs) (.side k) = sideW (lookR qs) (.side k) from rfl, e2] at e1; exact (Option.some.inj e1).symm
        | mtch j =>
          have z := h.ag j c o e1
          rw [show sideW (lookR qs) (.mtch j) = lookR qs j from rfl, z] at e2
          exact Option.some.inj e2
      rw [part o1 hc ha, part o2 hd hb] at hx
      exact hx
  refine ⟨h.g.snoc h.new hp ha hb hv2, by rw [List.map_append, h.keys, List.range_succ]; rfl, fun k x hk hx => ?_⟩
  rw [lookR_app]
  by_cases e : k < n
  · rw [h.ag k x e hx]; rfl
  · have e2 : k = n := by omega
    subst e2
    rw [lookR_none.mpr h.new, hx]
    simp [lookR]
end
abbrev sBetween : Stmt := topS 25
abbrev sLIsEnd : Stmt := topS 36
abbrev nBetween : List Str := ["value", "low", "high"]
abbrev nLIsEnd : List Str := ["pool", "results", "value", "parts", "number", "both", "part"]
theorem scBetween : FnScope nBetween ["value", "low", "high"] (defScope sBetween) := ⟨rfl, rfl, rfl, by decide +kernel, rfl, by decide +kernel, by decide +kernel⟩
theorem scLIsEnd : FnScope nLIsEnd ["pool", "results", "value"] (defScope sLIsEnd) := ⟨rfl, rfl, rfl, by decide +kernel, rfl, by decide +kernel, by decide +kernel⟩
structure Fs8 (K : PySem.W.Frag) (mg : Str → Option Value) : Prop extends Fs7 K mg where
  mbo : mg "bool" = none
  ki : Kits K
  fBetween : Df K mg "_law_between" sBetween ["value", "low", "high"]
  fLIsEnd : Df K mg "_law_is_ending" sLIsEnd ["pool", "results", "value"]
abbrev bLIsEnd : List Stmt := frB (stAt (defBody sLIsEnd) 2)
section
variable {P : Program} {w : World} {K : PySem.W.Frag} {mg : Str → Option Value} {base : Heap}
theorem ok_between (h : Fs8 K mg) (d : D) (hd : tyOk d = true) (lo hi : Int) : Fn P w K mg base "_law_between" 3 1 (FS0 K [d, .int lo, .int hi] (.val (.bool (btw lo hi d)))) := by
  have mis := h.mis
  have mi := h.mi
  have mbo := h.mbo
  refine fd0 (ds := [d, .int lo, .int hi]) h.fBetween scBetween rfl (env0 := [vl d, vl (.int lo), vl (.int hi)]) rfl fun f cdv A outer s H E hr => ?_
  apply Exists.intro
  cases e : kI d with
  | false =>
    have e2 : btw lo hi d = false := by cases d <;> first | rfl | (cases e; done)
    rw [e2]
    exact ex_stop (x1_ret (ev_andF ((ev_pu (pu_isi (d := d) (pu_name 0 rfl) (kit_I h.ki hd) (by decide +kernel) mi mis hd)).eq (by rw [e]))))
  | true =>
    cases d with
    | int i => exact ex_stop (x1_ret (ev_andT (ev_pu (pu_isi (d := .int i) (pu_name 0 rfl) (kit_I h.ki hd) (by decide +kernel) mi mis)) (ev_andT (ev_not (ev_pu (pu_isi (d := .int i) (pu_name 0 rfl) (kit_B h.ki hd) (by decide +kernel) mbo mis))) (ev_bop1 (ev_chLE (ev_name 1 rfl) (ev_name 0 rfl) (ev_name 2 rfl))))))
    | bool b => exact ex_stop (x1_ret (ev_andT (ev_pu (pu_isi (d := .bool b) (pu_name 0 rfl) (kit_I h.ki hd) (by decide +kernel) mi mis)) (ev_andF (ev_not (ev_pu (pu_isi (d := .bool b) (pu_name 0 rfl) (kit_B h.ki hd) (by decide +kernel) mbo mis))))))
    | _ => cases e
theorem lend_loop (h : Fs8 K mg) (t : Tr) (h16 : ∀ x ∈ t.leaves, 0 ≤ x ∧ x ≤ 15) (rest : List D) (rs : Rs) (ds : List D) (sds : ∀ x ∈ ds, shw x = true) (hel : ds.length = (mtch t).length) : ∀ (as pre : Prs), pre ++ as = mtch t →
    (∀ j p, j < pre.length → (mtch t)[j]? = some p → ∃ i, ds[j]? = some (.int i) ∧ i ∈ [sideE (ds.map iv) p.1, sideE (ds.map iv) p.2]) →
    ∃ out : Out, (In0 P w K mg base nLIsEnd "_law_is_ending" sLIsEnd 2 fun X => ForR X (frT (stAt (defBody sLIsEnd) 2)) bLIsEnd (prsT pre.length as) [vl (.tup (t.d :: rest)), vl (dkD (resK rs)), vl (.tup ds), vl (.lst ((mtch t).map prD)), none, none, none] out) ∧
      ((out = .nx [vl (.tup (t.d :: rest)), vl (dkD (resK rs)), vl (.tup ds), vl (.lst ((mtch t).map prD)), none, none, none] ∧ ds.all isI = true ∧ EndOk (mtch t) (ds.map iv)) ∨ (endD (mtch t) rs (.tup ds) = false ∧ ∃ env', out = .rt (.val (.bool false)) env'))
  | [], pre, epre, inv => by
    rw [List.append_nil] at epre
    subst epre
    refine ⟨_, fun _ _ _ _ _ _ _ _ => .nil, .inl ⟨rfl, List.all_eq_true.mpr fun x hx => ?_, by rw [List.length_map, hel], fun k p hp => ?_⟩⟩
    · obtain ⟨j, hj, e⟩ := List.getElem_of_mem hx
      have hj2 : j < (mtch t).length := by omega
      obtain ⟨i, hi, _⟩ := inv j _ hj2 (List.getElem?_eq_getElem hj2)
      rw [List.getElem?_eq_getElem hj, e] at hi
      rw [Option.some.inj hi]
      rfl
    · have hk := (List.getElem?_eq_some_iff.mp hp).1
      obtain ⟨i, hi, hm⟩ := inv k p hk hp
      have e : (ds.map iv).getD k 0 = i := by rw [List.getD_eq_getElem?_getD, List.getElem?_map, hi]; rfl
      rw [e]
      simpa using hm
  | (pa, pb) :: as, pre, epre, inv => by
    have okf : OkF (mtch t) := (noted t []).ok fun i p z => by simp at z
    have hk : (mtch t)[pre.length]? = some (pa, pb) := by rw [← epre, List.getElem?_append_right (Nat.le_refl _), Nat.sub_self]; rfl
    have hkl : pre.length < (mtch t).length := (List.getElem?_eq_some_iff.mp hk).1
    obtain ⟨o1, o2⟩ := okf _ _ hk
    have lpre : (pre ++ [(pa, pb)]).length = pre.length + 1 := by rw [List.length_append]; rfl
    obtain ⟨x, hx⟩ : ∃ x, ds[pre.length]? = some x := ⟨_, List.getElem?_eq_getElem (by omega)⟩
    have mx : x ∈ ds := List.mem_of_getElem? hx
    have tx := shw_ty (sds x mx)
    have bt := ok_between (P := P) (w := w) (base := base) h x tx 0 99
    have ix : L2.atI ds (pre.length : Int) = some x := atI_of (by omega) (by simpa using hx)
    have nd := scLIsEnd.nd
    -- where the law says no, the value is no ending
    have no : (btw 0 99 x = false ∨ ∃ i, x = .int i ∧ i ∉ [sideE (ds.map iv) pa, sideE (ds.map iv) pb]) → endD (mtch t) rs (.tup ds) = false := fun hno => by
      by_cases q : endD (mtch t) rs (.tup ds) = true
      · exfalso
        have q : (decide (ds.length = (mtch t).length) && ds.all isI && endB (mtch t) rs (ds.map iv)) = true := q
        rw [Bool.and_eq_true, Bool.and_eq_true] at q
        have hI := List.all_eq_true.mp q.1.2 x mx
        obtain ⟨i, rfl⟩ : ∃ i, x = .int i := by cases x <;> first | exact ⟨_, rfl⟩ | (cases hI; done)
        obtain ⟨eo, _⟩ := (endB_iff (by rw [List.length_map, hel])).mp q.2
        have ei : (ds.map iv).getD pre.length 0 = i := by rw [List.getD_eq_getElem?_getD, List.getElem?_map, hx]; rfl
        have ein := end_in okf eo.ok pre.length hkl
        rw [ei, List.getD_eq_getElem?_getD, List.getElem?_eq_getElem (by rw [sdsOf_len]; exact hkl)] at ein
        obtain ⟨_, _, hsub⟩ := (noted t []).sz pre.length _ (Nat.zero_le _) (List.getElem?_eq_getElem (by rw [sdsOf_len]; exact hkl))
        have hb := h16 i (hsub i ein)
        have hs := eo.ok _ _ hk
        rw [ei] at hs
        rcases hno with hno | ⟨i2, e2, hn2⟩
        · have z : btw 0 99 (.int i) = true := by
            show (decide (0 ≤ i) && decide (i ≤ 99)) = true
            rw [decide_eq_true (by omega), decide_eq_true (by omega)]
            rfl
          rw [z] at hno
          cases hno
        · cases e2
          exact hn2 (by simpa using hs)
      · exact Bool.eq_false_iff.mpr q
    have tgt : ∀ (f : Addr) (cdv : Value) (A : Around) (outer : List Env) (s : Shared) (H : Hp) (E : XK), Tg (cxOf CX0 P w K mg base nLIsEnd "_law_is_ending" (defScope sLIsEnd) f cdv A outer s H E).nox (frT (stAt (defBody sLIsEnd) 2)) (D.tup [.int (pre.length : Nat), prD (pa, pb)]) _ [vl (.tup (t.d :: rest)), vl (dkD (resK rs)), vl (.tup ds), vl (.lst ((mtch t).map prD)), none, none, none] [vl (.tup (t.d :: rest)), vl (dkD (resK rs)), vl (.tup ds), vl (.lst ((mtch t).map prD)), vl (.int (pre.length : Nat)), vl (prD (pa, pb)), none] := fun f cdv A outer s H E => by
      have hn := nd
      exact tg_tup (tgs_cons (tg_name 4) (tgs_cons (tg_name 5) tgs_nil))
    have c1 : ∀ (f : Addr) (cdv : Value) (A : Around) (outer : List Env) (s : Shared) (H : Hp) (E : XK), Room 2 (A.deeper (envOfC "_law_is_ending" (defScope sLIsEnd) s.heap.objs.size f cdv)) →
        Tv (cxOf CX0 P w K mg base nLIsEnd "_law_is_ending" (defScope sLIsEnd) f cdv A outer s H E).nox (ifC (stAt bLIsEnd 0)) [vl (.tup (t.d :: rest)), vl (dkD (resK rs)), vl (.tup ds), vl (.lst ((mtch t).map prD)), vl (.int (pre.length : Nat)), vl (prD (pa, pb)), none] (!btw 0 99 x) [vl (.tup (t.d :: rest)), vl (dkD (resK rs)), vl (.tup ds), vl (.lst ((mtch t).map prD)), vl (.int (pre.length : Nat)), vl (prD (pa, pb)), none] := fun f cdv A outer s H E hr =>
      tv_not (tv_val (ev_call (ds := [x, .int 0, .int 99]) bt (hr.mono (by omega)) (ea_cons (ev_ixT (ds := ds) (ev_name 2 rfl) (ev_name 4 rfl) ix) (ea_cons ev_int (ea_cons ev_int ea_nil)))))
    cases hb : btw 0 99 x with
    | false =>
      refine ⟨.rt (.val (.bool false)) [vl (.tup (t.d :: rest)), vl (dkD (resK rs)), vl (.tup ds), vl (.lst ((mtch t).map prD)), vl (.int (pre.length : Nat)), vl (prD (pa, pb)), none], fun f cdv A outer s H E hr => ?_, .inr ⟨no (.inl hb), _, rfl⟩⟩
      rw [prsT_cons]
      exact .rt (tgt f cdv A outer s H E) (ex_stop (x1_if ((c1 f cdv A outer s H E hr).eq (b' := true) (by rw [hb]; rfl)) (fun _ => ex_one (x1_ret ev_bool)) (fun z => nomatch z)))
    | true =>
      obtain ⟨i, rfl⟩ : ∃ i, x = .int i := by cases x <;> first | exact ⟨_, rfl⟩ | (cases hb; done)
      have c2 : ∀ (f : Addr) (cdv : Value) (A : Around) (outer : List Env) (s : Shared) (H : Hp) (E : XK), Room 2 (A.deeper (envOfC "_law_is_ending" (defScope sLIsEnd) s.heap.objs.size f cdv)) →
          Tv (cxOf CX0 P w K mg base nLIsEnd "_law_is_ending" (defScope sLIsEnd) f cdv A outer s H E).nox (ifC (stAt bLIsEnd 1)) [vl (.tup (t.d :: rest)), vl (dkD (resK rs)), vl (.tup ds), vl (.lst ((mtch t).map prD)), vl (.int (pre.length : Nat)), vl (prD (pa, pb)), none] (!decide (i ∈ [sideE (ds.map iv) pa, sideE (ds.map iv) pb])) [vl (.tup (t.d :: rest)), vl (dkD (resK rs)), vl (.tup ds), vl (.lst ((mtch t).map prD)), vl (.int (pre.length : Nat)), vl (prD (pa, pb)), none] := fun f cdv A outer s H E hr => by
        have hn := nd
        have hu := hr.units
        refine (tv_notInLF (x := .int i) (ds := [sideE (ds.map iv) pa, sideE (ds.map iv) pb].map D.int) (ev_ixT (ds := ds) (ev_name 2 rfl) (ev_name 4 rfl) ix) (Ev.frzL ((ev_lc (own := [("part", 6)]) (iv_tup (ds := [pa, pb].map Pt.d) (ev_name 5 rfl)) (lcR_map Pt.d (fun q => M.val (.int (sideE (ds.map iv) q))) _ [pa, pb] fun q hq => ⟨_, _, fun _ _ _ _ _ => tg_name 6, fun _ _ _ _ _ => part_ev (i := 6) (j := 2) (ds.map iv) q rfl rfl (fun k ek => ?_) hu rfl rfl (by first | exact Or.inl rfl | exact Or.inr (Or.inl rfl) | exact Or.inr (Or.inr rfl)) (by first | exact Or.inl rfl | exact Or.inr (Or.inl rfl) | exact Or.inr (Or.inr rfl)) (by decide) (by decide) (by decide) (by decide), rfl⟩) (bare1 rfl) (blkOk_by (N := nLIsEnd) (sc := defScope sLIsEnd) (by decide +kernel)) (show 2 ≤ sizeLine by decide)).eq rfl)) rfl (flat_ints _)).eq ?_
        · have ok : OkPt pre.length q := by
            rcases (by simpa using hq : q = pa ∨ q = pb) with rfl | rfl
            · exact o1
            · exact o2
          subst ek
          have ok : k < pre.length := ok
          obtain ⟨i2, h2, _⟩ := inv k _ ok (List.getElem?_eq_getElem (by omega))
          refine (atI_of (by omega) (by simpa using h2)).trans ?_
          rw [List.getD_eq_getElem?_getD, List.getElem?_map, h2]
          rfl
        · rw [vF_ints]
          show (!inV (.int i) _) = _
          rw [inV_ints]
      by_cases hm : i ∈ [sideE (ds.map iv) pa, sideE (ds.map iv) pb]
      · obtain ⟨out, fr, res⟩ := lend_loop h t h16 rest rs ds sds hel as (pre ++ [(pa, pb)]) (by rw [List.append_assoc]; exact epre) (fun j p hj hp => by
          rw [lpre] at hj
          by_cases e : j < pre.length
          · exact inv j p e hp
          · have e2 : j = pre.length := by omega
            subst e2
            rw [hk] at hp
            cases hp
            exact ⟨i, hx, hm⟩)
        refine ⟨out, fun f cdv A outer s H E hr => ?_, res⟩
        have hn := nd
        have fr := fr f cdv A outer s H E hr
        rw [lpre] at fr
        rw [prsT_cons]
        exact .nx (tgt f cdv A outer s H E) (Ex.eq (Ex.fgt 5 (Ex.fgt 4 (ex_cons (x1_if ((c1 f cdv A outer s H E hr).eq (b' := false) (by rw [hb]; rfl)) (fun z => nomatch z) (fun _ => ex_nil)) (ex_one (x1_if ((c2 f cdv A outer s H E hr).eq (b' := false) (by rw [decide_eq_true hm]; rfl)) (fun z => nomatch z) (fun _ => ex_nil))))))) fr
      · refine ⟨.rt (.val (.bool false)) [vl (.tup (t.d :: rest)), vl (dkD (resK rs)), vl (.tup ds), vl (.lst ((mtch t).map prD)), vl (.int (pre.length : Nat)), vl (prD (pa, pb)), none], fun f cdv A outer s H E hr => ?_, .inr ⟨no (.inr ⟨i, rfl, hm⟩), _, rfl⟩⟩
        rw [prsT_cons]
        exact .rt (tgt f cdv A outer s H E) (ex_cons (x1_if ((c1 f cdv A outer s H E hr).eq (b' := false) (by rw [hb]; rfl)) (fun z => nomatch z) (fun _ => ex_nil)) (ex_one (x1_if ((c2 f cdv A outer s H E hr).eq (b' := true) (by rw [decide_eq_false hm]; rfl)) (fun _ => ex_one (x1_ret ev_bool)) (fun z => nomatch z))))
end
abbrev sLEnds : Stmt := topS 35
abbrev sLPoints : Stmt := topS 37
abbrev sLScores : Stmt := topS 38
abbrev nLEnds : List Str := ["pool", "results", "found", "number", "parts", "later", "ending", "part", "side"]
abbrev nLPoints : List Str := ["pool", "number", "winner", "loser", "points", "sheet"]
abbrev nLScores : List Str := ["pool", "ending", "total", "number", "parts", "some", "loser", "more", "part", "a", "b"]
theorem scLEnds : FnScope nLEnds ["pool", "results"] (defScope sLEnds) := ⟨rfl, rfl, rfl, by decide +kernel, rfl, by decide +kernel, by decide +kernel⟩
theorem scLPoints : FnScope nLPoints ["pool", "number", "winner", "loser"] (defScope sLPoints) := ⟨rfl, rfl, rfl, by decide +kernel, rfl, by decide +kernel, by decide +kernel⟩
theorem scLScores : FnScope nLScores ["pool", "ending"] (defScope sLScores) := ⟨rfl, rfl, rfl, by decide +kernel, rfl, by decide +kernel, by decide +kernel⟩
structure Fs9 (K : PySem.W.Frag) (mg : Str → Option Value) : Prop extends Fs8 K mg where
  mzi : mg "zip" = none
  fLEnds : Df K mg "_law_endings" sLEnds ["pool", "results"]
  fLPoints : Df K mg "_law_points" sLPoints ["pool", "number", "winner", "loser"]
  fLScores : Df K mg "_law_scores" sLScores ["pool", "ending"]
section
variable {P : Program} {w : World} {K : PySem.W.Frag} {mg : Str → Option Value} {base : Heap}
theorem ok_lIsEnd (h : Fs8 K mg) (t : Tr) (hz : t.leaves.length ≤ 900) (h16 : ∀ x ∈ t.leaves, 0 ≤ x ∧ x ≤ 15) (rest : List D) (rs : Rs) (gr : Grow (mtch t) rs) (d : D) (hd : shw d = true) (hw : wD d ≤ 100000) :
    Fn P w K mg base "_law_is_ending" 3 (t.leaves.length + 4) (FS0 K [.tup (t.d :: rest), dkD (resK rs), d] (.val (.bool (endD (mtch t) rs d)))) := by
  have ml := h.ml
  have mis := h.mis
  have mtu := h.mtu
  have men := h.men
  have sl := sizeLine_eq
  have td := shw_ty hd
  have nd := scLIsEnd.nd
  have hn2 : (mtch t).length + 1 = t.leaves.length := by have z := note_len t []; rw [List.length_nil, Nat.zero_add] at z; exact z
  have start : ∀ out, (In0 P w K mg base nLIsEnd "_law_is_ending" sLIsEnd (t.leaves.length + 3) fun X => Ex X ((defBody sLIsEnd).drop 1) [vl (.tup (t.d :: rest)), vl (dkD (resK rs)), vl d, vl (.lst ((mtch t).map prD)), none, none, none] out) →
      In0 P w K mg base nLIsEnd "_law_is_ending" sLIsEnd (t.leaves.length + 3) fun X => Ex X (defBody sLIsEnd) [vl (.tup (t.d :: rest)), vl (dkD (resK rs)), vl d, none, none, none, none] out := fun out k f cdv A outer s H E hr => by
    have hn := nd
    refine ex_cons (x1_set 3 (ev_call (ds := [t.d]) (ok_lmatches h.toFs7.toFs6.toFs5.toFs3 t (by omega)) (hr.mono (by omega)) (ea_cons (ev_ixT (ds := t.d :: rest) (ev_name 0 rfl) ev_int (atI_of (i := 0) (by decide) rfl)) ea_nil))) ?_
    refine ex_frz 3 rfl ?_
    rw [show frz (prsM (mtch t)) = .lst ((mtch t).map prD) from frz_map prD _]
    exact k f cdv A outer s H E hr
  cases hk : kT d with
  | false =>
    have e0 : endD (mtch t) rs d = false := by cases d <;> first | rfl | (cases hk; done)
    rw [e0]
    refine fd0 (ds := [.tup (t.d :: rest), dkD (resK rs), d]) h.fLIsEnd scLIsEnd rfl (env0 := [vl (.tup (t.d :: rest)), vl (dkD (resK rs)), vl d, none, none, none, none]) rfl fun f cdv A outer s H E hr => ⟨[vl (.tup (t.d :: rest)), vl (dkD (resK rs)), vl d, vl (.lst ((mtch t).map prD)), none, none, none], start _ (fun f cdv A outer s H E hr => ?_) f cdv A outer s H E hr⟩
    exact ex_stop (x1_if (k := true) (tv_w (tw_orT ((tv_not (tv_val (ev_pu (pu_isi (d := d) (pu_name 2 rfl) (kit_T h.ki td) (by decide +kernel) mtu mis td)))).eq (b' := true) (by rw [hk]; rfl)))) (fun _ => ex_one (x1_ret ev_bool)) (fun z => nomatch z))
  | true =>
    obtain ⟨ds, rfl⟩ : ∃ ds, d = .tup ds := by cases d <;> first | exact ⟨_, rfl⟩ | (cases hk; done)
    have sds : ∀ x ∈ ds, shw x = true := (shwL_all ds).mp hd
    have isT : ∀ (f : Addr) (cdv : Value) (A : Around) (outer : List Env) (s : Shared) (H : Hp) (E : XK), Tv (cxOf CX0 P w K mg base nLIsEnd "_law_is_ending" (defScope sLIsEnd) f cdv A outer s H E).nox (boI (ifC (stAt (defBody sLIsEnd) 1)) 0) [vl (.tup (t.d :: rest)), vl (dkD (resK rs)), vl (.tup ds), vl (.lst ((mtch t).map prD)), none, none, none] false [vl (.tup (t.d :: rest)), vl (dkD (resK rs)), vl (.tup ds), vl (.lst ((mtch t).map prD)), none, none, none] := fun f cdv A outer s H E =>
      (tv_not (tv_val (ev_pu (pu_isi (d := .tup ds) (pu_name 2 rfl) (kit_T h.ki td) (by decide +kernel) mtu mis)))).eq (b' := false) rfl
    by_cases hl : ds.length = (mtch t).length
    · obtain ⟨out, fr, res⟩ := lend_loop (P := P) (w := w) (base := base) h t h16 rest rs ds sds hl (mtch t) [] rfl (fun j p hj => absurd hj (Nat.not_lt_zero _))
      rcases res with ⟨rfl, hI, eo⟩ | ⟨e0, env', rfl⟩
      · obtain ⟨e, rfl⟩ : ∃ e : List Int, ds = e.map D.int := ⟨_, ints_of hI⟩
        rw [iv_ints] at eo
        rw [List.length_map] at hl
        refine fd0 (ds := [.tup (t.d :: rest), dkD (resK rs), .tup (e.map D.int)]) h.fLIsEnd scLIsEnd rfl (env0 := [vl (.tup (t.d :: rest)), vl (dkD (resK rs)), vl (.tup (e.map D.int)), none, none, none, none]) rfl fun f cdv A outer s H E hr => ⟨[vl (.tup (t.d :: rest)), vl (dkD (resK rs)), vl (.tup (e.map D.int)), vl (.lst ((mtch t).map prD)), none, none, none], start _ (fun f cdv A outer s H E hr => ?_) f cdv A outer s H E hr⟩
        have hn := nd
        have hu := hr.units
        have hu1 := Nat.lt_of_le_of_lt (Nat.add_le_add_left (by decide : 1 ≤ 64) _) hu
        have gl := gr.len
        refine ex_cons (x1_if (k := false) (tv_w (tw_orF (isT f cdv A outer s H E) (tw_or1 ((tv_neI (ev_lenT (ds := e.map D.int) (ev_name 2 rfl) ml) (ev_lenL (ev_name 3 rfl) ml) hu).eq (b' := false) (by rw [List.length_map, List.length_map, hl]; simp))))) (fun z => nomatch z) (fun _ => ex_nil)) ?_
        refine ex_cons (x1_for ((iv_enum (ev_name 3 rfl)).eq (prsT_enum _)) (fr f cdv A outer s H E (hr.mono (by omega)))) ?_
        refine ex_stop (x1_ret (Ev.eq (ev_eqD (x := .lst (((rs.filter fun p => decide (e.getD p.1 0 ≠ p.2)).map fun p => (p.1 : Int)).map D.int)) (Ev.frzL (Ev.eq (ev_lcD 1 (own := [("number", 4)]) (ys := rs.map fun p => D.int (p.1 : Nat)) (ks := (resK rs).map (·.1)) (ds := (resK rs).map (·.2)) rfl (keysD_res rs ▸ liv_keys 1) (lcR_filter (fun p : Nat × Int => D.int (p.1 : Nat)) (fun p => M.val (.int (p.1 : Nat))) (fun p => decide (e.getD p.1 0 ≠ p.2)) _ rs fun p hp => ⟨_, _, _, fun _ _ _ _ _ => tg_name 4, fun _ _ _ _ _ => tvs_one ((tv_neI (i := e.getD p.1 0) (j := p.2) (ev_ixT (ds := e.map D.int) (ev_name 2 rfl) (ev_name 4 rfl) (atI_map (f := D.int) (xs := e) (i := (p.1 : Int)) (by omega) ?_ 0)) (ev_dget (k := .inl (p.1 : Int)) (d := .int p.2) (ev_name 1 rfl) (ev_name 4 rfl) ?_ hu1) hu).eq ?_), fun _ _ _ _ _ => ev_name 4 rfl, rfl, rfl⟩) (bare1 rfl) (blkOk_by (N := nLIsEnd) (sc := defScope sLIsEnd) (by decide +kernel)) (by rw [List.length_map, sl]; omega)) ?_)) (ev_lstF (ds := []) ea_nil) (cmp_ints _) (cmp_ints []) hu) ?_))
        · have := gr.lt (k := p.1) (v := p.2) hp
          omega
        · rw [get_res, lookR_mem gr.nd hp]; rfl
        · by_cases q : e.getD p.1 0 = p.2 <;> simp [q]
        · rw [List.map_map, List.map_map]; rfl
        · show M.val (.bool (PyData.eqv _ (pd (.lst (([] : List Int).map D.int))))) = _
          rw [eqv_ints]
          have e2 : endD (mtch t) rs (.tup (e.map D.int)) = endB (mtch t) rs e := by
            show (decide ((e.map D.int).length = (mtch t).length) && (e.map D.int).all isI && endB (mtch t) rs ((e.map D.int).map iv)) = _
            rw [List.length_map, decide_eq_true hl, isI_ints, iv_ints]
            rfl
          rw [e2]
          congr 2
          rw [Bool.eq_iff_iff, decide_eq_true_eq, endB_iff hl, List.map_eq_nil_iff, List.filter_eq_nil_iff]
          constructor
          · refine fun z => ⟨eo, fun k v hk hv => ?_⟩
            have q := z (k, v) (lookR_some hv)
            simpa using q
          · rintro ⟨_, z⟩ p hp q
            exact of_decide_eq_true q (z p.1 p.2 (gr.lt (k := p.1) (v := p.2) hp) (lookR_mem gr.nd hp))
      · rw [e0]
        refine fd0 (ds := [.tup (t.d :: rest), dkD (resK rs), .tup ds]) h.fLIsEnd scLIsEnd rfl (env0 := [vl (.tup (t.d :: rest)), vl (dkD (resK rs)), vl (.tup ds), none, none, none, none]) rfl fun f cdv A outer s H E hr => ⟨env', start _ (fun f cdv A outer s H E hr => ?_) f cdv A outer s H E hr⟩
        have hu := hr.units
        refine ex_cons (x1_if (k := false) (tv_w (tw_orF (isT f cdv A outer s H E) (tw_or1 ((tv_neI (ev_lenT (ds := ds) (ev_name 2 rfl) ml) (ev_lenL (ev_name 3 rfl) ml) hu).eq (b' := false) (by rw [List.length_map, hl]; simp))))) (fun z => nomatch z) (fun _ => ex_nil)) ?_
        exact ex_stop (x1_for ((iv_enum (ev_name 3 rfl)).eq (prsT_enum _)) (fr f cdv A outer s H E (hr.mono (by omega))))
    · have e0 : endD (mtch t) rs (.tup ds) = false := by
        show (decide (ds.length = (mtch t).length) && ds.all isI && _) = false
        rw [decide_eq_false hl]
        rfl
      rw [e0]
      refine fd0 (ds := [.tup (t.d :: rest), dkD (resK rs), .tup ds]) h.fLIsEnd scLIsEnd rfl (env0 := [vl (.tup (t.d :: rest)), vl (dkD (resK rs)), vl (.tup ds), none, none, none, none]) rfl fun f cdv A outer s H E hr => ⟨[vl (.tup (t.d :: rest)), vl (dkD (resK rs)), vl (.tup ds), vl (.lst ((mtch t).map prD)), none, none, none], start _ (fun f cdv A outer s H E hr => ?_) f cdv A outer s H E hr⟩
      have hu := hr.units
      exact ex_stop (x1_if (k := true) (tv_w (tw_orF (isT f cdv A outer s H E) (tw_or1 ((tv_neI (ev_lenT (ds := ds) (ev_name 2 rfl) ml) (ev_lenL (ev_name 3 rfl) ml) hu).eq (b' := true) (by rw [List.length_map]; simp; omega))))) (fun _ => ex_one (x1_ret ev_bool)) (fun z => nomatch z))
end
abbrev bLEnds : List Stmt := frB (stAt (defBody sLEnds) 1)
abbrev esM (es : List (List Int)) : M := .lst (es.map fun e => .val (sdD e))
section
variable {P : Program} {w : World} {K : PySem.W.Frag} {mg : Str → Option Value} {base : Heap}
theorem grow_fold (rs : Rs) (k : Nat) (pa pb : Pt) (e : List Int) (later : List (List Int)) : [pa, pb].foldl (fun acc q => if resOk rs k (sideE e q) = true then acc ++ [e ++ [sideE e q]] else acc) later = later ++ growE rs k (pa, pb) e := by
  simp only [List.foldl_cons, List.foldl_nil, growE]
  cases h1 : resOk rs k (sideE e pa) <;> cases h2 : resOk rs k (sideE e pb) <;> simp [h1, h2]
theorem flat_fold (rs : Rs) (k : Nat) (p : Pt × Pt) : ∀ (es later : List (List Int)), es.foldl (fun acc e => acc ++ growE rs k p e) later = later ++ es.flatMap (growE rs k p)
  | [], later => by simp
  | e :: es, later => by
    rw [List.foldl_cons, flat_fold rs k p es, List.flatMap_cons, List.append_assoc]
theorem lends_loop (h : Fs9 K mg) (t : Tr) (hz : t.leaves.length ≤ 16) (hnd : t.leaves.Nodup) (rest : List D) (rs : Rs) (gr : Grow (mtch t) rs) : ∀ (as pre : Prs), pre ++ as = mtch t → ∀ es : List (List Int), (∀ e ∈ es, Part (mtch t) rs pre.length e) → es.length ≤ 2 ^ pre.length →
    In0 P w K mg base nLEnds "_law_endings" sLEnds 3 fun X => ForR X (frT (stAt (defBody sLEnds) 1)) bLEnds (prsT pre.length as) [vl (.tup (t.d :: rest)), vl (dkD (resK rs)), some (.own (esM es)), none, none, none, none, none, none]
      (.nx [vl (.tup (t.d :: rest)), vl (dkD (resK rs)), some (.own (esM ((as.zipIdx pre.length).foldl (fun es p => es.flatMap (growE rs p.2 p.1)) es))), none, none, none, none, none, none])
  | [], pre, _, es, _, _ => fun _ _ _ _ _ _ _ _ => .nil
  | (pa, pb) :: as, pre, epre, es, hes, hl => fun f cdv A outer s H E hr => by
    have okf : OkF (mtch t) := (noted t []).ok fun i p z => by simp at z
    have hk : (mtch t)[pre.length]? = some (pa, pb) := by rw [← epre, List.getElem?_append_right (Nat.le_refl _), Nat.sub_self]; rfl
    have hkl : pre.length < (mtch t).length := (List.getElem?_eq_some_iff.mp hk).1
    obtain ⟨o1, o2⟩ := okf _ _ hk
    have lpre : (pre ++ [(pa, pb)]).length = pre.length + 1 := by rw [List.length_append]; rfl
    have hn2 : (mtch t).length + 1 = t.leaves.length := by have z := note_len t []; rw [List.length_nil, Nat.zero_add] at z; exact z
    have p15 : (2 : Nat) ^ pre.length ≤ 2 ^ 15 := Nat.pow_le_pow_right (by decide) (by omega)
    have p15' : (2 : Nat) ^ 15 = 32768 := by decide
    have g1 : ∀ e ∈ es, (growE rs pre.length (pa, pb) e).length ≤ 2 ∧ ∀ x ∈ growE rs pre.length (pa, pb) e, Part (mtch t) rs (pre.length + 1) x := fun e he => by
      obtain ⟨a, b⟩ := grow_one hnd gr hk (hes e he)
      refine ⟨?_, b⟩
      rw [a]
      split <;> omega
    have fr := lends_loop h t hz hnd rest rs gr as (pre ++ [(pa, pb)]) (by rw [List.append_assoc]; exact epre) (es.flatMap (growE rs pre.length (pa, pb))) (fun x hx => by
      obtain ⟨y, hy, hx⟩ := List.mem_flatMap.mp hx
      rw [lpre]
      exact (g1 y hy).2 x hx) (by
      rw [lpre, Nat.pow_succ]
      have : ∀ l : List (List Int), (∀ e ∈ l, (growE rs pre.length (pa, pb) e).length ≤ 2) → (l.flatMap (growE rs pre.length (pa, pb))).length ≤ l.length * 2 := fun l => by
        induction l with
        | nil => intro _; simp
        | cons a l ih =>
          intro hh
          rw [List.flatMap_cons, List.length_append, List.length_cons]
          have := hh a (List.mem_cons_self ..)
          have := ih fun x hx => hh x (List.mem_cons_of_mem _ hx)
          omega
      have := this es fun e he => (g1 e he).1
      omega) f cdv A outer s H E hr
    rw [lpre] at fr
    rw [prsT_cons]
    have hn := scLEnds.nd
    have hu := hr.units
    have hu1 := Nat.lt_of_le_of_lt (Nat.add_le_add_left (by decide : 1 ≤ 64) _) hu
    let E0 : List (List Int) → Sls := fun later => [vl (.tup (t.d :: rest)), vl (dkD (resK rs)), vl (.lst (es.map sdD)), vl (.int (pre.length : Nat)), vl (prD (pa, pb)), some (.own (esM later)), none, none, none]
    let E1 : List Int → List (List Int) → Sls := fun e later => [vl (.tup (t.d :: rest)), vl (dkD (resK rs)), vl (.lst (es.map sdD)), vl (.int (pre.length : Nat)), vl (prD (pa, pb)), some (.own (esM later)), vl (sdD e), none, none]
    -- one ending, and its parts
    have inner : ∀ (e : List Int), e ∈ es → ∀ later : List (List Int), later.length + 2 ≤ 200000 → ForR (cxOf CX0 P w K mg base nLEnds "_law_endings" (defScope sLEnds) f cdv A outer s H E).nox (frT (stAt (frB (stAt bLEnds 1)) 0)) (frB (stAt (frB (stAt bLEnds 1)) 0)) ([pa, pb].map Pt.d) (E1 e later) (.nx (E1 e (later ++ growE rs pre.length (pa, pb) e))) := fun e he later hll => by
      rw [← grow_fold]
      have pt := hes e he
      refine forR_fold (E1 e) Pt.d (fun acc q => if resOk rs pre.length (sideE e q) = true then acc ++ [e ++ [sideE e q]] else acc) (fun qs acc => (∀ q ∈ qs, q = pa ∨ q = pb) ∧ acc.length + qs.length ≤ 200000) (fun q qs acc hI => ?_) [pa, pb] later ⟨fun q hq => by simpa using hq, by simpa using hll⟩
      have hq := hI.1 q (List.mem_cons_self ..)
      have hlen := hI.2
      rw [List.length_cons] at hlen
      refine ⟨⟨_, _, tg_name 7 (hi := (show 7 < 9 by decide)), ?_⟩, fun x hx => hI.1 x (List.mem_cons_of_mem _ hx), ?_⟩
      · have ok : OkPt pre.length q := by
          rcases hq with rfl | rfl
          · exact o1
          · exact o2
        have lk : (getD ((resK rs).map (·.1)) ((resK rs).map (·.2)) (.inl (pre.length : Int))).getD (.int (sideE e q)) = .int ((lookR rs pre.length).getD (sideE e q)) := by
          rw [get_res]
          cases lookR rs pre.length <;> rfl
        have dec : decide ((lookR rs pre.length).getD (sideE e q) = sideE e q) = resOk rs pre.length (sideE e q) := by
          unfold resOk
          cases lookR rs pre.length with
          | none => simp
          | some v => exact decide_eq_decide.mpr ⟨fun z => z.symm, fun z => z.symm⟩
        have tst : Tv (cxOf CX0 P w K mg base nLEnds "_law_endings" (defScope sLEnds) f cdv A outer s H E).nox (ifC (stAt (frB (stAt (frB (stAt bLEnds 1)) 0)) 1)) [vl (.tup (t.d :: rest)), vl (dkD (resK rs)), vl (.lst (es.map sdD)), vl (.int (pre.length : Nat)), vl (prD (pa, pb)), some (.own (esM acc)), vl (sdD e), vl q.d, vl (.int (sideE e q))] (resOk rs pre.length (sideE e q)) [vl (.tup (t.d :: rest)), vl (dkD (resK rs)), vl (.lst (es.map sdD)), vl (.int (pre.length : Nat)), vl (prD (pa, pb)), some (.own (esM acc)), vl (sdD e), vl q.d, vl (.int (sideE e q))] :=
          (tv_eqI (i := (lookR rs pre.length).getD (sideE e q)) (j := sideE e q) (Ev.eq (ev_get2 (k := .inl (pre.length : Int)) (z := .int (sideE e q)) (ev_name 1 rfl) (ev_name 3 rfl) (ev_name 8 rfl) hu1) (congrArg M.val lk)) (ev_name 8 rfl) hu).eq dec
        refine Ex.eq (Ex.fgt 8 (Ex.fgt 7 (env1 := [vl (.tup (t.d :: rest)), vl (dkD (resK rs)), vl (.lst (es.map sdD)), vl (.int (pre.length : Nat)), vl (prD (pa, pb)), some (.own (esM (if resOk rs pre.length (sideE e q) = true then acc ++ [e ++ [sideE e q]] else acc))), vl (sdD e), vl q.d, vl (.int (sideE e q))]) (ex_cons (x1_set 8 (hi := (show 8 < 9 by decide)) (part_ev (i := 7) (j := 6) (ds := e.map D.int) e q rfl rfl (fun k ek => ?_) hu rfl rfl (by first | exact Or.inl rfl | exact Or.inr (Or.inl rfl) | exact Or.inr (Or.inr rfl)) (by first | exact Or.inl rfl | exact Or.inr (Or.inl rfl) | exact Or.inr (Or.inr rfl)) (by decide) (by decide) (by decide) (by decide))) ?_)))
        · subst ek
          have ok : k < pre.length := ok
          exact atI_map (f := D.int) (xs := e) (i := (k : Int)) (by omega) (by rw [pt.len]; omega) 0
        · by_cases hr1 : resOk rs pre.length (sideE e q) = true
          · rw [if_pos hr1]
            refine Ex.eq (ex_one (x1_if (tst.eq hr1) (fun _ => ex_one (x1_expr (ev_append 5 (m' := .val (sdD (e ++ [sideE e q]))) (em_cons (Ev.eq (ev_catT (ds := e.map D.int) (es' := [.int (sideE e q)]) (ev_name 6 rfl) (ev_tup (ds := [.int (sideE e q)]) (ea_cons (ev_name 8 rfl) ea_nil)) (by rw [List.length_map, pt.len, sizeLine_eq]; show _ + 1 ≤ _; omega)) (by show M.val (.tup (e.map D.int ++ [.int (sideE e q)])) = M.val (.tup ((e ++ [sideE e q]).map D.int)); rw [List.map_append]; rfl)) em_nil) rfl rfl (by rw [List.length_map, sizeLine_eq]; omega)))) (fun z => nomatch z))) ?_
            show Out.nx [vl (.tup (t.d :: rest)), vl (dkD (resK rs)), vl (.lst (es.map sdD)), vl (.int (pre.length : Nat)), vl (prD (pa, pb)), some (.own (.lst ((acc.map fun e => M.val (sdD e)) ++ [.val (sdD (e ++ [sideE e q]))]))), vl (sdD e), vl q.d, vl (.int (sideE e q))] = _
            unfold esM
            rw [List.map_append]
            rfl
          · rw [if_neg hr1]
            exact ex_one (x1_if (tst.eq (Bool.eq_false_iff.mpr hr1)) (fun z => nomatch z) (fun _ => ex_nil))
      · show (if _ then _ else _ : List (List Int)).length + _ ≤ _
        split
        · rw [List.length_append]; show _ + 1 + _ ≤ _; omega
        · omega
    have middle : ForR (cxOf CX0 P w K mg base nLEnds "_law_endings" (defScope sLEnds) f cdv A outer s H E).nox (frT (stAt bLEnds 1)) (frB (stAt bLEnds 1)) (es.map sdD) (E0 []) (.nx (E0 (es.flatMap (growE rs pre.length (pa, pb))))) := by
      have ff := flat_fold rs pre.length (pa, pb) es []
      rw [List.nil_append] at ff
      rw [← ff]
      refine forR_fold E0 sdD (fun acc e => acc ++ growE rs pre.length (pa, pb) e) (fun ys acc => (∀ e ∈ ys, e ∈ es) ∧ acc.length + 2 * ys.length ≤ 65536) (fun e ys acc hI => ?_) es [] ⟨fun e he => he, by simp; omega⟩
      have he := hI.1 e (List.mem_cons_self ..)
      have hlen := hI.2
      rw [List.length_cons] at hlen
      refine ⟨⟨_, _, tg_name 6 (hi := (show 6 < 9 by decide)), Ex.eq (Ex.fgt 6 (env1 := E1 e (acc ++ growE rs pre.length (pa, pb) e)) (hi := (show 6 < 9 by decide)) (ex_one (x1_for (iv_tup (ds := [pa, pb].map Pt.d) (ev_name 4 rfl)) (inner e he acc (by omega)))))⟩, fun x hx => hI.1 x (List.mem_cons_of_mem _ hx), ?_⟩
      show (acc ++ growE rs pre.length (pa, pb) e).length + _ ≤ _
      rw [List.length_append]
      have := (g1 e he).1
      omega
    have core : Ex (cxOf CX0 P w K mg base nLEnds "_law_endings" (defScope sLEnds) f cdv A outer s H E).nox bLEnds [vl (.tup (t.d :: rest)), vl (dkD (resK rs)), some (.own (esM es)), vl (.int (pre.length : Nat)), vl (prD (pa, pb)), none, none, none, none]
        (.nx [vl (.tup (t.d :: rest)), vl (dkD (resK rs)), some (.own (esM (es.flatMap (growE rs pre.length (pa, pb))))), vl (.int (pre.length : Nat)), vl (prD (pa, pb)), none, none, none, none]) := by
      refine ex_cons (x1_set 5 (ev_lstM em_nil)) ?_
      refine ex_frz 2 rfl ?_
      rw [show frz (esM es) = (.lst (es.map sdD) : D) from frz_map sdD es]
      refine ex_cons (x1_for (iv_list (ds := es.map sdD) (ev_name 2 rfl)) middle) ?_
      exact Ex.eq (ex_one (x1_set 2 (hi := (show 2 < 9 by decide)) (hio := fun m' z => nomatch z) (ev_move 5 rfl)))
    exact .nx (tg_tup (tgs_cons (tg_name 3) (tgs_cons (tg_name 4) tgs_nil))) (Ex.eq (Ex.fgt 4 (Ex.fgt 3 core))) fr
theorem ok_lendsA (h : Fs9 K mg) (t : Tr) (hz : t.leaves.length ≤ 16) (hnd : t.leaves.Nodup) (rest : List D) (rs : Rs) (gr : Grow (mtch t) rs) :
    Fn P w K mg base "_law_endings" 2 (t.leaves.length + 4) (FS0 K [.tup (t.d :: rest), dkD (resK rs)] (esM (allE rs (mtch t)))) := by
  have men := h.men
  have fr := lends_loop (P := P) (w := w) (base := base) h t hz hnd rest rs gr (mtch t) [] rfl [[]] (fun e he => by rw [List.mem_singleton.mp he]; exact ⟨rfl, fun k hk => absurd hk (Nat.not_lt_zero _), fun k v hk => absurd hk (Nat.not_lt_zero _)⟩) (by decide)
  refine fd0 (ds := [.tup (t.d :: rest), dkD (resK rs)]) h.fLEnds scLEnds rfl (env0 := [vl (.tup (t.d :: rest)), vl (dkD (resK rs)), none, none, none, none, none, none, none]) rfl fun f cdv A outer s H E hr => ?_
  apply Exists.intro
  have hn := scLEnds.nd
  refine ex_cons (x1_set 2 (m := esM [[]]) (ev_lstM (em_cons (ev_tup (ds := []) ea_nil) em_nil))) ?_
  refine ex_cons (x1_for (Iv.eq (iv_enum ((ev_call (ds := [t.d]) (ok_lmatches h.toFs8.toFs7.toFs6.toFs5.toFs3 t (by omega)) (hr.mono (by omega)) (ea_cons (ev_ixT (ds := t.d :: rest) (ev_name 0 rfl) ev_int (atI_of (i := 0) (by decide) rfl)) ea_nil)).frz.eq (m' := .val (.lst ((mtch t).map prD))) (by rw [prsM, frz_map]))) (prsT_enum _)) (fr f cdv A outer s H E (hr.mono (by omega)))) ?_
  exact ex_stop (x1_ret (ev_move 2 rfl))
theorem ok_lends (h : Fs9 K mg) (t : Tr) (hz : t.leaves.length ≤ 16) (hnd : t.leaves.Nodup) (rest : List D) (rs : Rs) (gr : Grow (mtch t) rs) :
    ∃ es : List (List Int), es.length = 2 ^ ((mtch t).length - rs.length) ∧ Fn P w K mg base "_law_endings" 2 (t.leaves.length + 4) (FS0 K [.tup (t.d :: rest), dkD (resK rs)] (esM es)) := by
  exact ⟨allE rs (mtch t), allE_len hnd gr, ok_lendsA h t hz hnd rest rs gr⟩
end
theorem zipD_self {α : Type} (f g : α → D) : ∀ xs : List α, zipD (xs.map f) (xs.map g) = xs.map fun x => .tup [f x, g x]
  | [] => rfl
  | x :: xs => by
    rw [List.map_cons, List.map_cons, zipD, zipD_self f g xs]
    rfl
def bi (b : Bool) : Int := if b = true then 1 else 0
theorem bi_sm (b : Bool) : -(2 ^ 64) < bi b ∧ bi b < 2 ^ 64 := by cases b <;> decide
section
variable {P : Program} {w : World} {K : PySem.W.Frag} {mg : Str → Option Value} {base : Heap}
theorem ok_lpoints (h : Fs9 K mg) (p : PoolS) (k : Nat) (hk : k < p.pts.length) (hs : ∀ s ∈ p.sheets, k < s.length) (hsl : p.sheets.length ≤ 1000) (wn ls : Int) :
    Fn P w K mg base "_law_points" 4 1 (FS0 K [p.d, .int k, .int wn, .int ls] (.lst (p.sheets.map fun s => .val (.int ((p.pts.getD k 0 + p.bonus * bi (decide (ls < wn))) * bi (decide (s.getD k 0 = wn))))))) := by
  have mi := h.mi
  refine fd0 (ds := [p.d, .int k, .int wn, .int ls]) h.fLPoints scLPoints rfl (env0 := [vl p.d, vl (.int k), vl (.int wn), vl (.int ls), none, none]) rfl fun f cdv A outer s H E hr => ?_
  apply Exists.intro
  have hn := scLPoints.nd
  have hu := hr.units
  refine ex_cons (x1_set 4 (ev_add (ev_ixT (ds := p.pts.map D.int) (ev_ixT (ds := [p.t.d, .tup (p.pts.map D.int), .int p.bonus, .tup (p.sheets.map sdD)]) (ev_name 0 rfl) ev_int rfl) (ev_name 1 rfl) (atI_map (f := D.int) (xs := p.pts) (i := (k : Int)) (by omega) (by omega) 0)) (ev_mul (i := p.bonus) (j := bi (decide (ls < wn))) (ev_ixT (ds := [p.t.d, .tup (p.pts.map D.int), .int p.bonus, .tup (p.sheets.map sdD)]) (ev_name 0 rfl) ev_int rfl) (ev_intB (ev_gt (ev_name 2 rfl) (ev_name 3 rfl))) (.inr (bi_sm _))))) ?_
  refine ex_stop (x1_ret (ev_lc (own := [("sheet", 5)]) (iv_tup (ds := p.sheets.map sdD) (ev_ixT (ds := [p.t.d, .tup (p.pts.map D.int), .int p.bonus, .tup (p.sheets.map sdD)]) (ev_name 0 rfl) ev_int rfl)) (lcR_map sdD (fun s => M.val (.int ((p.pts.getD k 0 + p.bonus * bi (decide (ls < wn))) * bi (decide (s.getD k 0 = wn))))) _ p.sheets fun sh hsh => ⟨_, _, fun _ _ _ _ _ => tg_name 5, fun _ _ _ _ _ => ev_mul (j := bi (decide (sh.getD k 0 = wn))) (ev_name 4 rfl) (ev_intB (ev_eqI (i := sh.getD k 0) (j := wn) (ev_ixT (ds := sh.map D.int) (ev_name 5 rfl) (ev_name 1 rfl) (atI_map (f := D.int) (xs := sh) (i := (k : Int)) (by omega) (by have := hs sh hsh; omega) 0)) (ev_name 2 rfl) hu)) (.inr (bi_sm _)), rfl⟩) (bare1 rfl) (blkOk_by (N := nLPoints) (sc := defScope sLPoints) (by decide +kernel)) (by rw [List.length_map, sizeLine_eq]; omega)))
theorem ok_lscores (h : Fs9 K mg) (p : PoolS) (e : List Int) (hz : p.t.leaves.length ≤ 900) (hp : p.pts.length = (mtch p.t).length) (eo : EndOk (mtch p.t) e) (hs : ∀ s ∈ p.sheets, s.length = (mtch p.t).length) (hsl : p.sheets.length ≤ 1000) :
    Fn P w K mg base "_law_scores" 2 (p.t.leaves.length + 4) (FS0 K [p.d, sdD e] (.val (sdD (scoresF (mtch p.t) p.pts p.bonus p.sheets e)))) := by
  have ml := h.ml
  have mtu := h.mtu
  have men := h.men
  have mzi := h.mzi
  have sl := sizeLine_eq
  have he := eo.len
  have hn2 : (mtch p.t).length + 1 = p.t.leaves.length := by have z := note_len p.t []; rw [List.length_nil, Nat.zero_add] at z; exact z
  have okf : OkF (mtch p.t) := (noted p.t []).ok fun i p z => by simp at z
  have fl := ok_lmatches (P := P) (w := w) (base := base) h.toFs8.toFs7.toFs6.toFs5.toFs3 p.t (by omega)
  generalize hF : mtch p.t = F at *
  refine fd0 (ds := [p.d, sdD e]) h.fLScores scLScores rfl (env0 := [vl p.d, vl (sdD e), none, none, none, none, none, none, none, none, none]) rfl fun f cdv A outer s H E hr => ?_
  apply Exists.intro
  have hn := scLScores.nd
  have hu := hr.units
  let tot : Nat → M := fun m => .lst (p.sheets.map fun s => .val (.int (sc F p.pts p.bonus e s m)))
  have ftot : ∀ m, frz (tot m) = .lst (p.sheets.map fun s => D.int (sc F p.pts p.bonus e s m)) := fun m => frz_map (fun s => D.int (sc F p.pts p.bonus e s m)) p.sheets
  refine ex_cons (x1_set 2 (m := tot 0) (Ev.eq (ev_rep (ds := [.int 0]) (ev_lstF (ds := [.int 0]) (ea_cons ev_int ea_nil)) (ev_lenT (ds := p.sheets.map sdD) (ev_ixT (ds := [p.t.d, .tup (p.pts.map D.int), .int p.bonus, .tup (p.sheets.map sdD)]) (ev_name 0 rfl) ev_int rfl) ml) (by omega) (by rw [List.length_map]; omega) (by rw [List.length_map, sl]; simp; omega)) ?_)) ?_
  · rw [List.length_map, Int.toNat_natCast]
    show M.lst _ = M.lst _
    congr 1
    generalize p.sheets = ss
    induction ss with
    | nil => rfl
    | cons a ss ih => rw [List.length_cons, List.replicate_succ, List.flatten_cons, List.map_append, ih]; rfl
  refine ex_cons (x1_for (Iv.eq (iv_enum ((ev_call (ds := [p.t.d]) fl (hr.mono (by omega)) (ea_cons (ev_ixT (ds := [p.t.d, .tup (p.pts.map D.int), .int p.bonus, .tup (p.sheets.map sdD)]) (ev_name 0 rfl) ev_int rfl) ea_nil)).frz.eq (m' := .val (.lst (F.map prD))) (by rw [prsM, frz_map]))) (prsT_enum _))
    (forR_fold (fun m : Nat => [vl p.d, vl (sdD e), some (.own (tot m)), none, none, none, none, none, none, none, none]) (fun p : (Pt × Pt) × Nat => D.tup [.int (p.2 : Nat), prD p.1]) (fun m _ => m + 1) (fun as m => as = (F.drop m).zipIdx m) (fun q as m hI => ?_) (F.zipIdx 0) 0 rfl)) ?_
  · obtain ⟨⟨pa, pb⟩, k⟩ := q
    have hm : ∃ r, F[m]? = some r := by
      cases hd : F[m]? with
      | some r => exact ⟨r, rfl⟩
      | none =>
        rw [List.drop_eq_nil_of_le (List.getElem?_eq_none_iff.mp hd)] at hI
        cases hI
    obtain ⟨r, hr2⟩ := hm
    rw [drop_at hr2, List.zipIdx_cons] at hI
    injection hI with e1 e2
    injection e1 with e3 e4
    subst e3 e4
    refine ⟨⟨_, _, tg_tup (tgs_cons (tg_name 3) (tgs_cons (tg_name 4) tgs_nil)), ?_⟩, e2⟩
    have hkl : k < F.length := (List.getElem?_eq_some_iff.mp hr2).1
    obtain ⟨o1, o2⟩ := okf k _ hr2
    have hgd : F.getD k (.side 0, .side 0) = (pa, pb) := by rw [List.getD_eq_getElem?_getD, hr2]; rfl
    have eok := eo.ok k _ hr2
    have ate : L2.atI (e.map D.int) (k : Int) = some (.int (e.getD k 0)) := atI_map (f := D.int) (xs := e) (i := (k : Int)) (by omega) (by omega) 0
    let ls : Int := if sideE e pa = e.getD k 0 then sideE e pb else sideE e pa
    have hls : ls = sideE e pa + sideE e pb - e.getD k 0 := by
      show (if _ then _ else _) = _
      split
      · rename_i q; rw [← q]; omega
      · rename_i q
        rcases eok with z | z
        · exact absurd z.symm q
        · rw [z]; show sideE e pa = sideE e pa + sideE e pb - sideE e pb; omega
    have core : Ex (cxOf CX0 P w K mg base nLScores "_law_scores" (defScope sLScores) f cdv A outer s H E).nox (frB (stAt (defBody sLScores) 1)) [vl p.d, vl (sdD e), some (.own (tot k)), vl (.int (k : Nat)), vl (prD (pa, pb)), none, none, none, none, none, none]
        (.nx [vl p.d, vl (sdD e), some (.own (tot (k + 1))), vl (.int (k : Nat)), vl (prD (pa, pb)), vl (.lst [.int (sideE e pa), .int (sideE e pb)]), vl (.int ls), vl (.lst (p.sheets.map fun s => D.int ((p.pts.getD k 0 + p.bonus * bi (decide (ls < e.getD k 0))) * bi (decide (s.getD k 0 = e.getD k 0))))), none, none, none]) := by
      refine ex_cons (x1_setLc 5 (own := [("part", 8)]) (iv_tup (ds := [pa, pb].map Pt.d) (ev_name 4 rfl)) (lcR_map Pt.d (fun q => M.val (.int (sideE e q))) _ [pa, pb] fun q hq => ⟨_, _, fun _ _ _ _ _ => tg_name 8, fun _ _ _ _ _ => part_ev (i := 8) (j := 1) (ds := e.map D.int) e q rfl rfl (fun j ej => ?_) hu rfl rfl (by first | exact Or.inl rfl | exact Or.inr (Or.inl rfl) | exact Or.inr (Or.inr rfl)) (by first | exact Or.inl rfl | exact Or.inr (Or.inl rfl) | exact Or.inr (Or.inr rfl)) (by decide) (by decide) (by decide) (by decide), rfl⟩) (bare1 rfl) (blkOk_by (N := nLScores) (sc := defScope sLScores) (by decide +kernel)) (show 2 ≤ sizeLine by decide)) ?_
      · have ok : OkPt k q := by
          rcases (by simpa using hq : q = pa ∨ q = pb) with rfl | rfl
          · exact o1
          · exact o2
        subst ej
        have ok : j < k := ok
        exact atI_map (f := D.int) (xs := e) (i := (j : Int)) (by omega) (by omega) 0
      refine ex_frz 5 rfl ?_
      rw [show frz (.lst ([pa, pb].map fun q => M.val (.int (sideE e q)))) = .lst [.int (sideE e pa), .int (sideE e pb)] from rfl]
      refine ex_cons (x1_set 6 (m := .val (.int ls)) (ev_if (k := decide (sideE e pa = e.getD k 0)) (tv_eqI (ev_ixL (ds := [.int (sideE e pa), .int (sideE e pb)]) (ev_name 5 rfl) ev_int rfl) (ev_ixT (ds := e.map D.int) (ev_name 1 rfl) (ev_name 3 rfl) ate) hu) (fun q => (ev_ixL (ds := [.int (sideE e pa), .int (sideE e pb)]) (ev_name 5 rfl) ev_int rfl).eq ?_) (fun q => (ev_ixL (ds := [.int (sideE e pa), .int (sideE e pb)]) (ev_name 5 rfl) ev_int rfl).eq ?_))) ?_
      · show _ = M.val (.int (if _ then _ else _))
        rw [if_pos (of_decide_eq_true q)]
      · show _ = M.val (.int (if _ then _ else _))
        rw [if_neg (of_decide_eq_false q)]
      refine ex_cons (x1_set 7 (ev_call (ds := [p.d, .int k, .int (e.getD k 0), .int ls]) (ok_lpoints h p k (by omega) (fun s hs2 => by rw [hs s hs2]; exact hkl) hsl _ _) (hr.mono (by omega)) (ea_cons (ev_name 0 rfl) (ea_cons (ev_name 3 rfl) (ea_cons (ev_ixT (ds := e.map D.int) (ev_name 1 rfl) (ev_name 3 rfl) ate) (ea_cons (ev_name 6 rfl) ea_nil)))))) ?_
      refine ex_frz 7 rfl ?_
      rw [show frz (.lst (p.sheets.map fun s => M.val (.int ((p.pts.getD k 0 + p.bonus * bi (decide (ls < e.getD k 0))) * bi (decide (s.getD k 0 = e.getD k 0)))))) = .lst (p.sheets.map fun s => D.int ((p.pts.getD k 0 + p.bonus * bi (decide (ls < e.getD k 0))) * bi (decide (s.getD k 0 = e.getD k 0)))) from frz_map (fun s => D.int ((p.pts.getD k 0 + p.bonus * bi (decide (ls < e.getD k 0))) * bi (decide (s.getD k 0 = e.getD k 0)))) p.sheets]
      refine ex_frz 2 rfl ?_
      rw [ftot k]
      refine Ex.eq (ex_one (x1_setLc 2 (own := [("a", 9), ("b", 10)]) (Iv.eq (iv_zip (ev_name 2 rfl) (ev_name 7 rfl)) (zipD_self _ _ p.sheets)) (lcR_map (fun s => D.tup [D.int (sc F p.pts p.bonus e s k), D.int ((p.pts.getD k 0 + p.bonus * bi (decide (ls < e.getD k 0))) * bi (decide (s.getD k 0 = e.getD k 0)))]) (fun s => M.val (.int (sc F p.pts p.bonus e s (k + 1)))) _ p.sheets fun s hs2 => ⟨_, _, fun _ _ _ _ _ => tg_tup (tgs_cons (tg_name 9) (tgs_cons (tg_name 10) tgs_nil)), fun _ _ _ _ _ => (ev_add (ev_name 9 rfl) (ev_name 10 rfl)).eq ?_, rfl⟩) (bare2 rfl rfl) (blkOk_by (N := nLScores) (sc := defScope sLScores) (by decide +kernel)) (by rw [List.length_map, sl]; omega))) rfl
      show M.val (.int _) = M.val (.int (sc F p.pts p.bonus e s k + term F p.pts p.bonus e s k))
      congr 3
      unfold term brought
      rw [hgd]
      show _ = if s.getD k 0 = e.getD k 0 then p.pts.getD k 0 + (if e.getD k 0 > sideE e pa + sideE e pb - e.getD k 0 then p.bonus else 0) else 0
      rw [← hls]
      have b1 : bi (decide (s.getD k 0 = e.getD k 0)) = if s.getD k 0 = e.getD k 0 then 1 else 0 := by
        unfold bi
        by_cases q : s.getD k 0 = e.getD k 0 <;> simp [q]
      have b2 : bi (decide (ls < e.getD k 0)) = if e.getD k 0 > ls then 1 else 0 := by
        unfold bi
        by_cases q : ls < e.getD k 0 <;> simp [q]
      rw [b1, b2]
      by_cases q : s.getD k 0 = e.getD k 0
      · rw [if_pos q, if_pos q, Int.mul_one]
        by_cases q2 : e.getD k 0 > ls
        · rw [if_pos q2, if_pos q2, Int.mul_one]
        · rw [if_neg q2, if_neg q2, Int.mul_zero]
      · rw [if_neg q, if_neg q, Int.mul_zero]
    exact Ex.eq (Ex.fgt 7 (Ex.fgt 6 (Ex.fgt 5 (Ex.fgt 4 (Ex.fgt 3 core)))))
  · have fold : ∀ (as : List ((Pt × Pt) × Nat)) (m : Nat), as.foldl (fun (m : Nat) _ => m + 1) m = m + as.length := fun as => by
      induction as with
      | nil => intro m; rfl
      | cons a as ih => intro m; rw [List.foldl_cons, ih, List.length_cons]; omega
    rw [fold, List.length_zipIdx, Nat.zero_add]
    refine ex_frz 2 rfl ?_
    refine ex_stop (x1_ret (Ev.eq (ev_tupL (ds := p.sheets.map fun s => D.int (sc F p.pts p.bonus e s F.length)) ((ev_name 2 rfl).eq (congrArg M.val (ftot _)))) ?_))
    unfold scoresF
    show M.val (.tup _) = M.val (.tup _)
    rw [List.map_map]
    rfl
end
abbrev sOdd : Stmt := topS 46
abbrev sBent : Stmt := topS 47
abbrev nOdd : List Str := ["pen", "some"]
abbrev nBent : List Str := ["pen", "value", "k", "way", "some"]
theorem scOdd : FnScope nOdd ["pen"] (defScope sOdd) := ⟨rfl, rfl, rfl, by decide +kernel, rfl, by decide +kernel, by decide +kernel⟩
theorem scBent : FnScope nBent ["pen", "value"] (defScope sBent) := ⟨rfl, rfl, rfl, by decide +kernel, rfl, by decide +kernel, by decide +kernel⟩
structure Gs5 (K : PySem.W.Frag) (mg : Str → Option Value) : Prop extends Fs9 K mg where
  fOdd : Df K mg "_law_odd" sOdd ["pen"]
  fBent : Df K mg "_law_bent" sBent ["pen", "value"]
def oddA : List D := [.none, .bool true, .bool false, .int 0, .int 1, .int 2, .int (-1), .int 3, .int 16, .int 21, .int 99, .int ((10 : Int) ^ (20 : Int).toNat), .str "", .str "a", .str "0", .tup [], .lst [], .dK [] [], .tup [.int 0], .tup [.int 0, .int 1], .tup [.int 1, .int 0]]
def oddB : List D := [.tup [.tup [.int 0, .int 1], .int 2], .lst [.int 0, .int 1], .tup [.int 0, .int 1, .int 2], .tup [.tup [.int 0], .tup [], .int 0], .tup [.bool true, .int 0], .dK [.inl 0] [.int 0], .tup [.int 0, .int 0]]
theorem odd_ok : ∀ d ∈ oddA ++ oddB, Vok 100 2 d := by
  have z : (oddA ++ oddB).all (fun d => shw d && decide (wD d ≤ 100) && decide (dD d ≤ 2)) = true := by decide +kernel
  intro d hd
  have q := List.all_eq_true.mp z d hd
  rw [Bool.and_eq_true, Bool.and_eq_true] at q
  exact ⟨q.1.1, of_decide_eq_true q.1.2, of_decide_eq_true q.2⟩
section
variable {P : Program} {w : World} {K : PySem.W.Frag} {mg : Str → Option Value} {base : Heap}
theorem ok_odd (h : Gs5 K mg) {B : Int} (hB : B ≤ 999999) {m : M} (hp : PenOk B m) :
    ∃ (d : D) (m' : M), Fn P w K mg base "_law_odd" 1 4 (FS1 K [] m [] (.val d) m') ∧ Vok 100 2 d ∧ PenOk (B + 1) m' := by
  have f1 : Fs1 K mg := h.toFs1
  obtain ⟨d, m', hz, hd, hp'⟩ := ok_oneOf (P := P) (w := w) (base := base) f1 hB hp (oddA ++ oddB) (by decide) (by decide)
  refine ⟨d, m', fd1 (pre := []) (post := []) h.fOdd scOdd rfl (env0 := [some (.io m), none]) rfl fun f cdv A outer s H E hr => ?_, odd_ok d hd, hp'⟩
  have hn := scOdd.nd
  have hu := hr.units
  apply Exists.intro
  refine ⟨?_, ?_⟩
  · refine ex_cons (x1_set 1 (ev_lstF (ds := oddA) (ea_cons ev_none (ea_cons ev_bool (ea_cons ev_bool (ea_cons ev_int (ea_cons ev_int (ea_cons ev_int (ea_cons (ev_neg ev_int) (ea_cons ev_int (ea_cons ev_int (ea_cons ev_int (ea_cons ev_int
      (ea_cons (ev_pow ev_int ev_int ⟨by decide, by decide, by decide⟩) (ea_cons ev_str (ea_cons ev_str (ea_cons ev_str (ea_cons (ev_tup (ds := []) ea_nil) (ea_cons (ev_lstF (ds := []) ea_nil) (ea_cons (Ev.frzK (ks := []) (ds := []) ev_newK)
      (ea_cons (ev_tup (ds := [.int 0]) (ea_cons ev_int ea_nil)) (ea_cons (ev_tup (ds := [.int 0, .int 1]) (ea_cons ev_int (ea_cons ev_int ea_nil))) (ea_cons (ev_tup (ds := [.int 1, .int 0]) (ea_cons ev_int (ea_cons ev_int ea_nil))) ea_nil))))))))))))))))))))))) ?_
    refine ex_stop (x1_ret (ev_call1 (pre := []) (post := [.lst (oddA ++ oddB)]) hz hr (ea_lend 0 rfl (ea_cons (Ev.frzL (ev_cat (ev_name 1 rfl) (ev_lstF (ds := oddB)
      (ea_cons (ev_tup (ds := [.tup [.int 0, .int 1], .int 2]) (ea_cons (ev_tup (ds := [.int 0, .int 1]) (ea_cons ev_int (ea_cons ev_int ea_nil))) (ea_cons ev_int ea_nil)))
      (ea_cons (ev_lstF (ds := [.int 0, .int 1]) (ea_cons ev_int (ea_cons ev_int ea_nil)))
      (ea_cons (ev_tup (ds := [.int 0, .int 1, .int 2]) (ea_cons ev_int (ea_cons ev_int (ea_cons ev_int ea_nil))))
      (ea_cons (ev_tup (ds := [.tup [.int 0], .tup [], .int 0]) (ea_cons (ev_tup (ds := [.int 0]) (ea_cons ev_int ea_nil)) (ea_cons (ev_tup (ds := []) ea_nil) (ea_cons ev_int ea_nil))))
      (ea_cons (ev_tup (ds := [.bool true, .int 0]) (ea_cons ev_bool (ea_cons ev_int ea_nil)))
      (ea_cons (Ev.frzK (ks := [.inl 0]) (ds := [.int 0]) (ev_disp1 (k := .inl 0) ev_int ev_int))
      (ea_cons (ev_tup (ds := [.int 0, .int 0]) (ea_cons ev_int (ea_cons ev_int ea_nil))) ea_nil)))))))) (by decide))) ea_nil)) rfl))
  · rfl
theorem ok_bent (h : Gs5 K mg) : ∀ (n : Nat) (d : D) (wt : Nat), Vok wt n d → wt ≤ 60000 → ∀ {B : Int} {m : M}, B + 5 * (n + 1) ≤ 999999 → PenOk B m →
    ∃ (d' : D) (m' : M), Fn P w K mg base "_law_bent" 2 (n + 5) (FS1 K [] m [d] (.val d') m') ∧ Vok (2 * wt + 100) (n + 2) d' ∧ PenOk (B + 5 * (n + 1)) m'
  | n, d, wt, hd, hw, B, m, hB, hp => by
    have mis := h.mis
    have mtu := h.mtu
    have ml := h.ml
    have mli := h.mli
    have f1 : Fs1 K mg := h.toFs1
    have td := shw_ty hd.sh
    cases hk : kT d with
    | false =>
      obtain ⟨d', m', hz, hv, hp'⟩ := ok_odd (P := P) (w := w) (base := base) h (by omega) hp
      refine ⟨d', m', fd1 (pre := []) (post := [d]) h.fBent scBent rfl (env0 := [some (.io m), vl d, none, none, none]) rfl fun f cdv A outer s H E hr => ?_, hv.mono (by omega) (by omega), hp'.mono (by omega)⟩
      apply Exists.intro
      refine ⟨?_, ?_⟩
      · exact ex_stop (x1_if (tv_w (tw_orT ((tv_not (tv_val (ev_pu (pu_isi (d := d) (pu_name 1 rfl) (kit_T h.ki td) (by decide +kernel) mtu mis td)))).eq (b' := true) (by rw [hk]; rfl)))) (fun _ => ex_one (x1_ret (ev_call1 (pre := []) (post := []) hz (hr.mono (by omega)) (ea_lend 0 rfl ea_nil) rfl))) (fun z => nomatch z))
      · rfl
    | true =>
      obtain ⟨ds, rfl⟩ : ∃ ds, d = .tup ds := by cases d <;> first | exact ⟨_, rfl⟩ | (cases hk; done)
      have wds : wL ds ≤ wt := by rw [← wD_tup]; exact hd.wt
      have nds : dL ds + 1 ≤ n := by rw [← dD_tup]; exact hd.dp
      have lds := wL_len ds
      have sds : ∀ x ∈ ds, shw x = true := (shwL_all ds).mp hd.sh
      have xds : ∀ x ∈ ds, dD x ≤ n - 1 := (dL_le ds (n - 1)).mp (by omega)
      cases hnil : ds.isEmpty with
      | true =>
        obtain ⟨d', m', hz, hv, hp'⟩ := ok_odd (P := P) (w := w) (base := base) h (by omega) hp
        refine ⟨d', m', fd1 (pre := []) (post := [.tup ds]) h.fBent scBent rfl (env0 := [some (.io m), vl (.tup ds), none, none, none]) rfl fun f cdv A outer s H E hr => ?_, hv.mono (by omega) (by omega), hp'.mono (by omega)⟩
        have hu := hr.units
        apply Exists.intro
        refine ⟨?_, ?_⟩
        · exact ex_stop (x1_if (k := true) (tv_w (tw_orF (tv_not (tv_val (ev_pu (pu_isi (d := .tup ds) (pu_name 1 rfl) (kit_T h.ki td) (by decide +kernel) mtu mis)))) (tw_orT ((tv_eqNil (ev_name 1 rfl) (ev_tup (ds := []) ea_nil) (Nat.lt_of_le_of_lt (Nat.le_add_right _ 64) hu)).eq hnil)))) (fun _ => ex_one (x1_ret (ev_call1 (pre := []) (post := []) hz (hr.mono (by omega)) (ea_lend 0 rfl ea_nil) rfl))) (fun z => nomatch z))
        · rfl
      | false =>
        have hpos : 0 < ds.length := by
          cases ds with
          | nil => cases hnil
          | cons x r => exact Nat.succ_pos _
        obtain ⟨r, m1, hz1, r0, r1, hp1⟩ := ok_take (P := P) (w := w) (base := base) f1 (by omega) hp 6 (by omega) (by omega)
        by_cases hr0 : r = 0
        · obtain ⟨d', m', hz, hv, hp'⟩ := ok_odd (P := P) (w := w) (base := base) h (by omega) hp1
          refine ⟨d', m', fd1 (pre := []) (post := [.tup ds]) h.fBent scBent rfl (env0 := [some (.io m), vl (.tup ds), none, none, none]) rfl fun f cdv A outer s H E hr => ?_, hv.mono (by omega) (by omega), hp'.mono (by omega)⟩
          have hu := hr.units
          apply Exists.intro
          refine ⟨?_, ?_⟩
          · exact ex_stop (x1_if (k := true) (tv_w (tw_orF (tv_not (tv_val (ev_pu (pu_isi (d := .tup ds) (pu_name 1 rfl) (kit_T h.ki td) (by decide +kernel) mtu mis)))) (tw_orF ((tv_eqNil (ev_name 1 rfl) (ev_tup (ds := []) ea_nil) (Nat.lt_of_le_of_lt (Nat.le_add_right _ 64) hu)).eq hnil)
              (tw_or1 ((tv_eqI (ev_call1 (pre := []) (post := [.int 6]) hz1 (hr.mono (by omega)) (ea_lend 0 rfl (ea_cons ev_int ea_nil)) rfl) ev_int hu).eq (b' := true) (decide_eq_true hr0)))))) (fun _ => ex_one (x1_ret (ev_call1 (pre := []) (post := []) hz (hr.mono (by omega)) (ea_lend 0 rfl ea_nil) rfl))) (fun z => nomatch z))
          · rfl
        · obtain ⟨k, m2, hz2, k0, k1, hp2⟩ := ok_take (P := P) (w := w) (base := base) f1 (by omega) hp1 ds.length (by omega) (by omega)
          obtain ⟨way, m3, hz3, y0, y1, hp3⟩ := ok_take (P := P) (w := w) (base := base) f1 (by omega) hp2 13 (by omega) (by omega)
          have hkl : k.toNat < ds.length := by omega
          obtain ⟨x, hx⟩ : ∃ x, ds[k.toNat]? = some x := ⟨_, List.getElem?_eq_getElem hkl⟩
          have mx : x ∈ ds := List.mem_of_getElem? hx
          have wx := wL_at hx
          have wm := wL_mem mx
          have ix : L2.atI ds k = some x := atI_of k0 hx
          have c1 : Lin.cutD ds none (some k) = ds.take k.toNat := cut_to (by omega) (by omega)
          have c2 : Lin.cutD ds (some (k + 1)) none = ds.drop (k.toNat + 1) := by rw [cut_from (by omega) (by omega)]; congr 1; omega
          have c3 : Lin.cutD ds (some k) none = ds.drop k.toNat := cut_from (by omega) (by omega)
          have hpre : ∀ (f : Addr) (cdv : Value) (A : Around) (outer : List Env) (s : Shared) (H : Hp) (E : XK) (m0 : M) (out : Out), Room (n + 4) (A.deeper (envOfC "_law_bent" (defScope sBent) s.heap.objs.size f cdv)) →
              Ex (cxOf CX0 P w K mg base nBent "_law_bent" (defScope sBent) f cdv A outer s H E).nox ((defBody sBent).drop 2) [some (.io m3), vl (.tup ds), vl (.int k), vl (.int way), none] out →
              Ex (cxOf CX0 P w K mg base nBent "_law_bent" (defScope sBent) f cdv A outer s H E).nox (defBody sBent) [some (.io m), vl (.tup ds), none, none, none] out := fun f cdv A outer s H E m0 out hr rest => by
            have hu := hr.units
            have hn := scBent.nd
            refine ex_cons (x1_if (k := false) (tv_w (tw_orF (tv_not (tv_val (ev_pu (pu_isi (d := .tup ds) (pu_name 1 rfl) (kit_T h.ki td) (by decide +kernel) mtu mis)))) (tw_orF ((tv_eqNil (ev_name 1 rfl) (ev_tup (ds := []) ea_nil) (Nat.lt_of_le_of_lt (Nat.le_add_right _ 64) hu)).eq hnil)
              (tw_or1 ((tv_eqI (ev_call1 (pre := []) (post := [.int 6]) hz1 (hr.mono (by omega)) (ea_lend 0 rfl (ea_cons ev_int ea_nil)) rfl) ev_int hu).eq (b' := false) (decide_eq_false hr0)))))) (fun z => nomatch z) (fun _ => ex_nil)) ?_
            exact ex_cons (x1_par 2 3 (em_cons (ev_call1 (pre := []) (post := [.int ds.length]) hz2 (hr.mono (by omega)) (ea_lend 0 rfl (ea_cons (ev_lenT (ev_name 1 rfl) ml) ea_nil)) rfl) (em_cons (ev_call1 (pre := []) (post := [.int 13]) hz3 (hr.mono (by omega)) (ea_lend 0 rfl (ea_cons ev_int ea_nil)) rfl) em_nil))) rest
          by_cases hway : way < 8
          · obtain ⟨n', rfl⟩ : ∃ n', n = n' + 1 := ⟨n - 1, by omega⟩
            have vx : Vok (wD x) n' x := ⟨sds x mx, Nat.le_refl _, xds x mx⟩
            obtain ⟨y, m4, hz4, vy, hp4⟩ := ok_bent h n' x (wD x) vx (by omega) (B := B + 1 + 1 + 1) (m := m3) (by omega) hp3
            have wy := vy.wt
            have dy := vy.dp
            refine ⟨.tup (ds.take k.toNat ++ [y] ++ ds.drop (k.toNat + 1)), m4, fd1 (pre := []) (post := [.tup ds]) h.fBent scBent rfl (env0 := [some (.io m), vl (.tup ds), none, none, none]) rfl fun f cdv A outer s H E hr => ?_, ?_, hp4.mono (by omega)⟩
            · have hu := hr.units
              apply Exists.intro
              refine ⟨hpre f cdv A outer s H E m3 _ hr (ex_stop (x1_if (tv_lt (ev_name 3 rfl) ev_int) (fun _ => ex_one (x1_ret (ev_catT (ev_catT ((ev_slT (ev_name 1 rfl) po_no (po_ev (ev_name 2 rfl))).eq (by rw [c1])) (ev_tup (ds := [y]) (ea_cons (ev_call1 (pre := []) (post := [x]) hz4 (hr.mono (by omega)) (ea_lend 0 rfl (ea_cons (ev_ixT (ev_name 1 rfl) (ev_name 2 rfl) ix) ea_nil)) rfl) ea_nil)) ?_) ((ev_slT (ev_name 1 rfl) (po_ev (ev_add (ev_name 2 rfl) ev_int)) po_no).eq (by rw [c2])) ?_))) (fun z => absurd hway (of_decide_eq_false z)))), ?_⟩
              · rw [List.length_take, sizeLine_eq]; show _ + 1 ≤ _; omega
              · rw [List.length_append, List.length_take, List.length_drop, sizeLine_eq]; show _ + 1 + _ ≤ _; omega
              · rfl
            · exact hd.part hx (vy.mono (Nat.le_refl _) (by omega))
          · let opts : List D := [.tup (ds.take k.toNat ++ ds.drop (k.toNat + 1)), .tup (ds.take k.toNat ++ [x] ++ ds.drop k.toNat), .lst ds, .tup ds.reverse, .tup (ds ++ ds.take 1)]
            have hopt : ∀ o ∈ opts, Vok (2 * wt + 100) (n + 2) o := fun o ho => by
              simp only [opts, List.mem_cons, List.not_mem_nil, or_false] at ho
              rcases ho with rfl | rfl | rfl | rfl | rfl
              · exact hd.out
              · exact hd.dup hx
              · exact hd.asL
              · exact hd.rev
              · exact hd.more 1
            obtain ⟨o, ho1, ho2⟩ : ∃ o, L2.atI opts (way - 8) = some o ∧ o ∈ opts := by
              obtain rfl | rfl | rfl | rfl | rfl : way = 8 ∨ way = 9 ∨ way = 10 ∨ way = 11 ∨ way = 12 := by omega
              all_goals exact ⟨_, rfl, by simp [opts]⟩
            refine ⟨o, m3, fd1 (pre := []) (post := [.tup ds]) h.fBent scBent rfl (env0 := [some (.io m), vl (.tup ds), none, none, none]) rfl fun f cdv A outer s H E hr => ?_, hopt o ho2, hp3.mono (by omega)⟩
            have hu := hr.units
            have hn := scBent.nd
            apply Exists.intro
            refine ⟨hpre f cdv A outer s H E m3 _ hr ?_, ?_⟩
            · refine ex_cons (x1_if (tv_lt (ev_name 3 rfl) ev_int) (fun z => absurd (of_decide_eq_true z) hway) (fun _ => ex_nil)) ?_
              refine ex_cons (x1_set 4 (ev_lstF (ds := opts) (ea_cons (ev_catT ((ev_slT (ev_name 1 rfl) po_no (po_ev (ev_name 2 rfl))).eq (by rw [c1])) ((ev_slT (ev_name 1 rfl) (po_ev (ev_add (ev_name 2 rfl) ev_int)) po_no).eq (by rw [c2])) ?_)
                (ea_cons (ev_catT (ev_catT ((ev_slT (ev_name 1 rfl) po_no (po_ev (ev_name 2 rfl))).eq (by rw [c1])) (ev_tup (ds := [x]) (ea_cons (ev_ixT (ev_name 1 rfl) (ev_name 2 rfl) ix) ea_nil)) ?_) ((ev_slT (ev_name 1 rfl) (po_ev (ev_name 2 rfl)) po_no).eq (by rw [c3])) ?_)
                (ea_cons (Ev.frzL (ev_listT (ev_name 1 rfl))) (ea_cons (ev_revT (ev_name 1 rfl)) (ea_cons (ev_catT (ev_name 1 rfl) ((ev_slT (ev_name 1 rfl) po_no (po_ev ev_int)).eq (by rw [cut_to (by decide) (by omega)]; rfl)) ?_) ea_nil))))) (hz := (by decide : (5 : Nat) ≤ 1000)))) ?_
              · rw [List.length_take, List.length_drop, sizeLine_eq]; omega
              · rw [List.length_take, sizeLine_eq]; show _ + 1 ≤ _; omega
              · rw [List.length_append, List.length_take, List.length_drop, sizeLine_eq]; show _ + 1 + _ ≤ _; omega
              · rw [List.length_take, sizeLine_eq]; omega
              · exact ex_stop (x1_ret (ev_ixL (ds := opts) (ev_name 4 rfl) (ev_sub (ev_name 3 rfl) ev_int) ho1))
            · rfl
end
abbrev sLTeam : Stmt := topS 44
abbrev sLQuest : Stmt := topS 45
abbrev sTSum : Stmt := topS 39
abbrev sLead : Stmt := topS 40
abbrev sHopes : Stmt := topS 41
abbrev nLTeam : List Str := ["pool", "value", "one"]
abbrev nLQuest : List Str := ["pool", "value", "one"]
abbrev nTSum : List Str := ["points", "team", "entrant"]
abbrev nLead : List Str := ["points", "question", "own", "rival"]
abbrev nHopes : List Str := ["pool", "question", "endings", "found", "ending", "lead", "one"]
theorem scLTeam : FnScope nLTeam ["pool", "value"] (defScope sLTeam) := ⟨rfl, rfl, rfl, by decide +kernel, rfl, by decide +kernel, by decide +kernel⟩
theorem scLQuest : FnScope nLQuest ["pool", "value"] (defScope sLQuest) := ⟨rfl, rfl, rfl, by decide +kernel, rfl, by decide +kernel, by decide +kernel⟩
theorem scTSum : FnScope nTSum ["points", "team"] (defScope sTSum) := ⟨rfl, rfl, rfl, by decide +kernel, rfl, by decide +kernel, by decide +kernel⟩
theorem scLead : FnScope nLead ["points", "question"] (defScope sLead) := ⟨rfl, rfl, rfl, by decide +kernel, rfl, by decide +kernel, by decide +kernel⟩
theorem scHopes : FnScope nHopes ["pool", "question", "endings"] (defScope sHopes) := ⟨rfl, rfl, rfl, by decide +kernel, rfl, by decide +kernel, by decide +kernel⟩
structure Gs6 (K : PySem.W.Frag) (mg : Str → Option Value) : Prop extends Gs5 K mg where
  mse : mg "set" = none
  msum : mg "sum" = none
  fLTeam : Df K mg "_law_is_team" sLTeam ["pool", "value"]
  fLQuest : Df K mg "_law_is_question" sLQuest ["pool", "value"]
  fTSum : Df K mg "_law_team_sum" sTSum ["points", "team"]
  fLead : Df K mg "_law_lead" sLead ["points", "question"]
  fHopes : Df K mg "_law_hopes" sHopes ["pool", "question", "endings"]
section
variable {P : Program} {w : World} {K : PySem.W.Frag} {mg : Str → Option Value} {base : Heap}
theorem ok_lteam (h : Gs6 K mg) (a b c : D) (ss : List D) (n : Nat) (hn0 : ss.length = n) (hn1 : n ≤ 60) (d : D) (hd : shw d = true) (hw : wD d ≤ 3900) : Fn P w K mg base "_law_is_team" 2 2 (FS0 K [.tup [a, b, c, .tup ss], d] (.val (.bool (teamD n d)))) := by
  have ml := h.ml
  have mis := h.mis
  have mtu := h.mtu
  have mli := h.mli
  have mso := h.mso
  have mse := h.mse
  have sl := sizeLine_eq
  have td := shw_ty hd
  refine fd0 (ds := [.tup [a, b, c, .tup ss], d]) h.fLTeam scLTeam rfl (env0 := [vl (.tup [a, b, c, .tup ss]), vl d, none]) rfl fun f cdv A outer s H E hr => ⟨[vl (.tup [a, b, c, .tup ss]), vl d, none], ?_⟩
  have hn := scLTeam.nd
  have hu := hr.units
  cases hk : kT d with
  | false =>
    have e0 : teamD n d = false := by cases d <;> first | rfl | (cases hk; done)
    rw [e0]
    exact ex_stop (x1_if (k := true) (tv_w (tw_orT ((tv_not (tv_val (ev_pu (pu_isi (d := d) (pu_name 1 rfl) (kit_T h.ki td) (by decide +kernel) mtu mis td)))).eq (b' := true) (by rw [hk]; rfl)))) (fun _ => ex_one (x1_ret ev_bool)) (fun z => nomatch z))
  | true =>
    obtain ⟨ds, rfl⟩ : ∃ ds, d = .tup ds := by cases d <;> first | exact ⟨_, rfl⟩ | (cases hk; done)
    have sds : ∀ x ∈ ds, shw x = true := (shwL_all ds).mp hd
    have lds : ds.length ≤ 3900 := by
      have := wL_len ds
      rw [wD_tup] at hw
      omega
    have isT : Tv (cxOf CX0 P w K mg base nLTeam "_law_is_team" (defScope sLTeam) f cdv A outer s H E).nox (boI (ifC (stAt (defBody sLTeam) 0)) 0) [vl (.tup [a, b, c, .tup ss]), vl (.tup ds), none] false [vl (.tup [a, b, c, .tup ss]), vl (.tup ds), none] :=
      (tv_not (tv_val (ev_pu (pu_isi (d := .tup ds) (pu_name 1 rfl) (kit_T h.ki td) (by decide +kernel) mtu mis)))).eq (b' := false) rfl
    cases hnil : ds.isEmpty with
    | true =>
      have e0 : teamD n (.tup ds) = false := by
        show (!ds.isEmpty && ds.all (btw 0 (n - 1)) && _) = false
        rw [hnil]; rfl
      rw [e0]
      exact ex_stop (x1_if (k := true) (tv_w (tw_orF isT (tw_or1 ((tv_eqNil (ev_name 1 rfl) (ev_tup (ds := []) ea_nil) (Nat.lt_of_le_of_lt (Nat.le_add_right _ 64) hu)).eq (b' := true) (by rw [hnil]))))) (fun _ => ex_one (x1_ret ev_bool)) (fun z => nomatch z))
    | false =>
      refine ex_cons (x1_if (k := false) (tv_w (tw_orF isT (tw_or1 ((tv_eqNil (ev_name 1 rfl) (ev_tup (ds := []) ea_nil) (Nat.lt_of_le_of_lt (Nat.le_add_right _ 64) hu)).eq (b' := false) (by rw [hnil]))))) (fun z => nomatch z) (fun _ => ex_nil)) ?_
      have tall : Tv (cxOf CX0 P w K mg base nLTeam "_law_is_team" (defScope sLTeam) f cdv A outer s H E).nox (ifC (stAt (defBody sLTeam) 1)) [vl (.tup [a, b, c, .tup ss]), vl (.tup ds), none] (!ds.all (btw 0 (n - 1))) [vl (.tup [a, b, c, .tup ss]), vl (.tup ds), none] := by
        refine ((tv_inFalse (bs := ds.map (btw 0 (n - 1))) ev_bool (Ev.frzL (ds := (ds.map (btw 0 (n - 1))).map D.bool) (Ev.eq (ev_lc (own := [("one", 2)]) (iv_tup (ds := ds) (ev_name 1 rfl)) (lcR_mapD (fun d => M.val (.bool (btw 0 (n - 1) d))) _ ds fun x hx => ⟨_, _, fun _ _ _ _ _ => tg_name 2, fun _ _ _ _ _ => ev_call (ds := [x, .int 0, .int (n - 1)]) (ok_between h.toFs8 x (shw_ty (sds x hx)) 0 (n - 1)) (hr.mono (by omega)) (ea_cons (ev_name 2 rfl) (ea_cons ev_int (ea_cons (ev_sub ((ev_lenT (ds := ss) (ev_ixT (ds := [a, b, c, .tup ss]) (ev_name 0 rfl) ev_int (atI_of (i := 3) (by decide) rfl)) ml).eq (m' := .val (.int n)) (by rw [hn0])) ev_int) ea_nil))), rfl⟩) (bare1 rfl) (blkOk_by (N := nLTeam) (sc := defScope sLTeam) (by decide +kernel)) (by rw [sl]; omega)) (by rw [List.map_map, List.map_map]; rfl))))).eq ?_
        rw [List.all_map]
        rfl
      cases hb : ds.all (btw 0 (n - 1)) with
      | false =>
        have e0 : teamD n (.tup ds) = false := by
          show (!ds.isEmpty && ds.all (btw 0 (n - 1)) && _) = false
          rw [hb, Bool.and_false, Bool.false_and]
        rw [e0]
        exact ex_stop (x1_if (k := true) (tall.eq (b' := true) (by rw [hb]; rfl)) (fun _ => ex_one (x1_ret ev_bool)) (fun z => nomatch z))
      | true =>
        refine ex_cons (x1_if (k := false) (tall.eq (b' := false) (by rw [hb]; rfl)) (fun z => nomatch z) (fun _ => ex_nil)) ?_
        obtain ⟨e1, e2⟩ := btw_all hb
        have ee : teamD n (.tup ds) = risB (ds.map iv) := by
          show (!ds.isEmpty && ds.all (btw 0 (n - 1)) && risB (ds.map iv)) = _
          rw [hb, hnil]
          rfl
        rw [ee]
        generalize ds.map iv = es at e1 e2 ⊢
        subst e1
        rw [List.length_map] at lds
        have e3 : ∀ x ∈ es, 0 ≤ x ∧ x < n := fun x hx => by have := e2 x hx; omega
        refine ex_stop (x1_ret (Ev.eq (ev_eqD (x := .lst (es.map D.int)) (y := .lst ((riseR n es).map D.int)) (Ev.frzL (ev_listT (ds := es.map D.int) (ev_name 1 rfl))) (Ev.frzL (ev_sortSet (ns := es) (rs := riseR n es) (ev_name 1 rfl) (FewI.ofRange (n := n) (by omega) (by omega) e3) (riseR_pw n es) (riseR_mem e3))) (cmp_ints es) (cmp_ints _) hu) ?_))
        rw [eqv_ints, riseR_eq e3]
theorem ok_lquest (h : Gs6 K mg) (a b c : D) (ss : List D) (n : Nat) (hn0 : ss.length = n) (hn1 : n ≤ 60) (d : D) (hd : shw d = true) (hw : wD d ≤ 3900) : Fn P w K mg base "_law_is_question" 2 3 (FS0 K [.tup [a, b, c, .tup ss], d] (.val (.bool (questD n d)))) := by
  have ml := h.ml
  have mis := h.mis
  have mtu := h.mtu
  have sl := sizeLine_eq
  have td := shw_ty hd
  refine fd0 (ds := [.tup [a, b, c, .tup ss], d]) h.fLQuest scLQuest rfl (env0 := [vl (.tup [a, b, c, .tup ss]), vl d, none]) rfl fun f cdv A outer s H E hr => ⟨[vl (.tup [a, b, c, .tup ss]), vl d, none], ?_⟩
  have hn := scLQuest.nd
  have hu := hr.units
  cases hk : kT d with
  | false =>
    have e0 : questD n d = false := by cases d <;> first | rfl | (cases hk; done)
    rw [e0]
    exact ex_stop (x1_if (k := true) (tv_w (tw_orT ((tv_not (tv_val (ev_pu (pu_isi (d := d) (pu_name 1 rfl) (kit_T h.ki td) (by decide +kernel) mtu mis td)))).eq (b' := true) (by rw [hk]; rfl)))) (fun _ => ex_one (x1_ret ev_bool)) (fun z => nomatch z))
  | true =>
    obtain ⟨ds, rfl⟩ : ∃ ds, d = .tup ds := by cases d <;> first | exact ⟨_, rfl⟩ | (cases hk; done)
    have sds : ∀ x ∈ ds, shw x = true := (shwL_all ds).mp hd
    have wds : ∀ x ∈ ds, wD x ≤ 3900 := fun x hx => by
      have := (Vok.mem (n := 3900) (m := dD (.tup ds)) ⟨hd, hw, Nat.le_refl _⟩ hx).wt
      omega
    have isT : Tv (cxOf CX0 P w K mg base nLQuest "_law_is_question" (defScope sLQuest) f cdv A outer s H E).nox (boI (ifC (stAt (defBody sLQuest) 0)) 0) [vl (.tup [a, b, c, .tup ss]), vl (.tup ds), none] false [vl (.tup [a, b, c, .tup ss]), vl (.tup ds), none] :=
      (tv_not (tv_val (ev_pu (pu_isi (d := .tup ds) (pu_name 1 rfl) (kit_T h.ki td) (by decide +kernel) mtu mis)))).eq (b' := false) rfl
    by_cases hl : ds.length = 3
    · obtain ⟨t, r, m, rfl⟩ : ∃ t r m, ds = [t, r, m] := by
        match ds, hl with
        | [t, r, m], _ => exact ⟨t, r, m, rfl⟩
      have st := sds t (by simp)
      have sr := sds r (by simp)
      have sm := sds m (by simp)
      have wt := wds t (by simp)
      have wr := wds r (by simp)
      have len3 : Tv (cxOf CX0 P w K mg base nLQuest "_law_is_question" (defScope sLQuest) f cdv A outer s H E).nox (boI (ifC (stAt (defBody sLQuest) 0)) 1) [vl (.tup [a, b, c, .tup ss]), vl (.tup [t, r, m]), none] false [vl (.tup [a, b, c, .tup ss]), vl (.tup [t, r, m]), none] :=
        (tv_neI (ev_lenT (ds := [t, r, m]) (ev_name 1 rfl) ml) ev_int hu).eq (b' := false) rfl
      have tm : Tv (cxOf CX0 P w K mg base nLQuest "_law_is_question" (defScope sLQuest) f cdv A outer s H E).nox (boI (ifC (stAt (defBody sLQuest) 0)) 2) [vl (.tup [a, b, c, .tup ss]), vl (.tup [t, r, m]), none] (!teamD n t) [vl (.tup [a, b, c, .tup ss]), vl (.tup [t, r, m]), none] :=
        tv_not (tv_val (ev_call (ds := [.tup [a, b, c, .tup ss], t]) (ok_lteam h a b c ss n hn0 hn1 t st wt) (hr.mono (by omega)) (ea_cons (ev_name 0 rfl) (ea_cons (ev_ixT (ds := [t, r, m]) (ev_name 1 rfl) ev_int (atI_of (i := 0) (by decide) rfl)) ea_nil))))
      cases ht : teamD n t with
      | false =>
        have e0 : questD n (.tup [t, r, m]) = false := by
          cases r with
          | tup rs =>
            show (teamD n t && decide (rs.length ≤ 4) && rs.all (teamD n) && btw (-200) 200 m) = false
            rw [ht]; rfl
          | _ => rfl
        rw [e0]
        exact ex_stop (x1_if (k := true) (tv_w (tw_orF isT (tw_orF len3 (tw_or1 (tm.eq (b' := true) (by rw [ht]; rfl)))))) (fun _ => ex_one (x1_ret ev_bool)) (fun z => nomatch z))
      | true =>
        refine ex_cons (x1_if (k := false) (tv_w (tw_orF isT (tw_orF len3 (tw_or1 (tm.eq (b' := false) (by rw [ht]; rfl)))))) (fun z => nomatch z) (fun _ => ex_nil)) ?_
        cases hk2 : kT r with
        | false =>
          have e0 : questD n (.tup [t, r, m]) = false := by cases r <;> first | rfl | (cases hk2; done)
          rw [e0]
          exact ex_stop (x1_if (k := true) (tv_w (tw_orT ((tv_not (tv_val (ev_pu (pu_isi (d := r) (pu_ixT (ds := [t, r, m]) (pu_name 1 rfl) pu_int (atI_of (i := 1) (by decide) rfl)) (kit_T h.ki (shw_ty sr)) (by decide +kernel) mtu mis (shw_ty sr))))).eq (b' := true) (by rw [hk2]; rfl)))) (fun _ => ex_one (x1_ret ev_bool)) (fun z => nomatch z))
        | true =>
          obtain ⟨rs, rfl⟩ : ∃ rs, r = .tup rs := by cases r <;> first | exact ⟨_, rfl⟩ | (cases hk2; done)
          have srs : ∀ x ∈ rs, shw x = true := (shwL_all rs).mp sr
          have wrs : ∀ x ∈ rs, wD x ≤ 3900 := fun x hx => by
            have := (Vok.mem (n := 3900) (m := dD (.tup rs)) ⟨sr, wr, Nat.le_refl _⟩ hx).wt
            omega
          have isR : Tv (cxOf CX0 P w K mg base nLQuest "_law_is_question" (defScope sLQuest) f cdv A outer s H E).nox (boI (ifC (stAt (defBody sLQuest) 1)) 0) [vl (.tup [a, b, c, .tup ss]), vl (.tup [t, .tup rs, m]), none] false [vl (.tup [a, b, c, .tup ss]), vl (.tup [t, .tup rs, m]), none] :=
            (tv_not (tv_val (ev_pu (pu_isi (d := .tup rs) (pu_ixT (ds := [t, .tup rs, m]) (pu_name 1 rfl) pu_int (atI_of (i := 1) (by decide) rfl)) (kit_T h.ki (shw_ty sr)) (by decide +kernel) mtu mis)))).eq (b' := false) rfl
          have l4 : Tv (cxOf CX0 P w K mg base nLQuest "_law_is_question" (defScope sLQuest) f cdv A outer s H E).nox (boI (ifC (stAt (defBody sLQuest) 1)) 1) [vl (.tup [a, b, c, .tup ss]), vl (.tup [t, .tup rs, m]), none] (decide ((4 : Int) < rs.length)) [vl (.tup [a, b, c, .tup ss]), vl (.tup [t, .tup rs, m]), none] :=
            tv_gt (ev_lenT (ds := rs) (ev_ixT (ds := [t, .tup rs, m]) (ev_name 1 rfl) ev_int (atI_of (i := 1) (by decide) rfl)) ml) ev_int
          by_cases h4 : rs.length ≤ 4
          · have tall : Tv (cxOf CX0 P w K mg base nLQuest "_law_is_question" (defScope sLQuest) f cdv A outer s H E).nox (boI (ifC (stAt (defBody sLQuest) 1)) 2) [vl (.tup [a, b, c, .tup ss]), vl (.tup [t, .tup rs, m]), none] (!rs.all (teamD n)) [vl (.tup [a, b, c, .tup ss]), vl (.tup [t, .tup rs, m]), none] := by
              refine ((tv_inFalse (bs := rs.map (teamD n)) ev_bool (Ev.frzL (ds := (rs.map (teamD n)).map D.bool) (Ev.eq (ev_lc (own := [("one", 2)]) (iv_tup (ds := rs) (ev_ixT (ds := [t, .tup rs, m]) (ev_name 1 rfl) ev_int (atI_of (i := 1) (by decide) rfl))) (lcR_mapD (fun d => M.val (.bool (teamD n d))) _ rs fun x hx => ⟨_, _, fun _ _ _ _ _ => tg_name 2, fun _ _ _ _ _ => ev_call (ds := [.tup [a, b, c, .tup ss], x]) (ok_lteam h a b c ss n hn0 hn1 x (srs x hx) (wrs x hx)) (hr.mono (by omega)) (ea_cons (ev_name 0 rfl) (ea_cons (ev_name 2 rfl) ea_nil)), rfl⟩) (bare1 rfl) (blkOk_by (N := nLQuest) (sc := defScope sLQuest) (by decide +kernel)) (by rw [sl]; omega)) (by rw [List.map_map, List.map_map]; rfl))))).eq ?_
              rw [List.all_map]
              rfl
            cases hb : rs.all (teamD n) with
            | false =>
              have e0 : questD n (.tup [t, .tup rs, m]) = false := by
                show (teamD n t && decide (rs.length ≤ 4) && rs.all (teamD n) && btw (-200) 200 m) = false
                rw [hb, Bool.and_false, Bool.false_and]
              rw [e0]
              exact ex_stop (x1_if (k := true) (tv_w (tw_orF isR (tw_orF (l4.eq (b' := false) (decide_eq_false (by omega))) (tw_or1 (tall.eq (b' := true) (by rw [hb]; rfl)))))) (fun _ => ex_one (x1_ret ev_bool)) (fun z => nomatch z))
            | true =>
              refine ex_cons (x1_if (k := false) (tv_w (tw_orF isR (tw_orF (l4.eq (b' := false) (decide_eq_false (by omega))) (tw_or1 (tall.eq (b' := false) (by rw [hb]; rfl)))))) (fun z => nomatch z) (fun _ => ex_nil)) ?_
              refine ex_stop (x1_ret (Ev.eq (ev_call (ds := [m, .int (-200), .int 200]) (ok_between h.toFs8 m (shw_ty sm) (-200) 200) (hr.mono (by omega)) (ea_cons (ev_ixT (ds := [t, .tup rs, m]) (ev_name 1 rfl) ev_int (atI_of (i := 2) (by decide) rfl)) (ea_cons (ev_neg ev_int) (ea_cons ev_int ea_nil)))) ?_))
              show M.val (.bool (btw (-200) 200 m)) = M.val (.bool (teamD n t && decide (rs.length ≤ 4) && rs.all (teamD n) && btw (-200) 200 m))
              rw [decide_eq_true h4, hb, ht]
              rfl
          · have e0 : questD n (.tup [t, .tup rs, m]) = false := by
              show (teamD n t && decide (rs.length ≤ 4) && rs.all (teamD n) && btw (-200) 200 m) = false
              rw [decide_eq_false h4, Bool.and_false, Bool.false_and, Bool.false_and]
            rw [e0]
            exact ex_stop (x1_if (k := true) (tv_w (tw_orF isR (tw_orT (l4.eq (b' := true) (decide_eq_true (by omega)))))) (fun _ => ex_one (x1_ret ev_bool)) (fun z => nomatch z))
    · have e0 : questD n (.tup ds) = false := by
        unfold questD
        split
        · rename_i heq
          cases heq
          exact absurd rfl hl
        · rfl
      rw [e0]
      exact ex_stop (x1_if (k := true) (tv_w (tw_orF isT (tw_orT ((tv_neI (ev_lenT (ds := ds) (ev_name 1 rfl) ml) ev_int hu).eq (b' := true) (by rw [decide_eq_false (by omega)]; rfl))))) (fun _ => ex_one (x1_ret ev_bool)) (fun z => nomatch z))
end
abbrev hopesF (p : PoolS) (q : QuS) (es : List (List Int)) : List (List Int) := es.filter fun e => reachB (scoresF (mtch p.t) p.pts p.bonus p.sheets e) q
abbrev bHopes : List Stmt := frB (stAt (defBody sHopes) 1)
section
variable {P : Program} {w : World} {K : PySem.W.Frag} {mg : Str → Option Value} {base : Heap}
theorem ok_tsum (h : Gs6 K mg) (ps es : List Int) (hl : es.length ≤ 100000) (hb : ∀ k ∈ es, 0 ≤ k ∧ k < ps.length) : Fn P w K mg base "_law_team_sum" 2 1 (FS0 K [sdD ps, sdD es] (.val (.int (tsum ps es)))) := by
  have msum := h.msum
  have sl := sizeLine_eq
  refine fd0 (ds := [sdD ps, sdD es]) h.fTSum scTSum rfl (env0 := [vl (sdD ps), vl (sdD es), none]) rfl fun f cdv A outer s H E hr => ⟨[vl (sdD ps), vl (sdD es), none], ?_⟩
  have hn := scTSum.nd
  refine ex_stop (x1_ret (ev_sumL (ns := es.map fun k => ps.getD k.toNat 0) (Ev.frzL (Ev.eq (ev_lc (own := [("entrant", 2)]) (iv_tup (ds := es.map D.int) (ev_name 1 rfl)) (lcR_map D.int (fun k => M.val (.int (ps.getD k.toNat 0))) _ es fun k hk => ⟨_, _, fun _ _ _ _ _ => tg_name 2, fun _ _ _ _ _ => ev_ixT (ds := ps.map D.int) (ev_name 0 rfl) (ev_name 2 rfl) (atI_map (f := D.int) (xs := ps) (i := k) (hb k hk).1 (hb k hk).2 0), rfl⟩) (bare1 rfl) (blkOk_by (N := nTSum) (sc := defScope sTSum) (by decide +kernel)) (by rw [List.length_map, sl]; omega)) (by rw [List.map_map, List.map_map]; rfl)))))
theorem ok_lead (h : Gs6 K mg) (ps : List Int) (q : QuS) (ok : QuOk ps.length q) (hps : ps.length ≤ 1000) : Fn P w K mg base "_law_lead" 2 2 (FS0 K [sdD ps, q.d] (.val (sdD (leadF ps q)))) := by
  have mtu := h.mtu
  have sl := sizeLine_eq
  refine fd0 (ds := [sdD ps, q.d]) h.fLead scLead rfl (env0 := [vl (sdD ps), vl q.d, none, none]) rfl fun f cdv A outer s H E hr => ⟨[vl (sdD ps), vl q.d, vl (.int (tsum ps q.team)), none], ?_⟩
  have hn := scLead.nd
  have rl := ok.rl
  have tl := ok.t.len
  refine ex_cons (x1_set 2 (ev_call (ds := [sdD ps, sdD q.team]) (ok_tsum h ps q.team (by omega) ok.t.b) (hr.mono (by omega)) (ea_cons (ev_name 0 rfl) (ea_cons (ev_ixT (ds := [sdD q.team, .tup (q.rivals.map sdD), .int q.margin]) (ev_name 1 rfl) ev_int (atI_of (i := 0) (by decide) rfl)) ea_nil)))) ?_
  refine ex_stop (x1_ret (ev_tupL (ds := (leadF ps q).map D.int) (Ev.frzL (Ev.eq (ev_lc (own := [("rival", 3)]) (iv_tup (ds := q.rivals.map sdD) (ev_ixT (ds := [sdD q.team, .tup (q.rivals.map sdD), .int q.margin]) (ev_name 1 rfl) ev_int (atI_of (i := 1) (by decide) rfl))) (lcR_map sdD (fun r => M.val (.int (tsum ps q.team - tsum ps r))) _ q.rivals fun r hrr => ⟨_, _, fun _ _ _ _ _ => tg_name 3, fun _ _ _ _ _ => ev_sub (ev_name 2 rfl) (ev_call (ds := [sdD ps, sdD r]) (ok_tsum h ps r ?_ (ok.r r hrr).b) (hr.mono (by omega)) (ea_cons (ev_name 0 rfl) (ea_cons (ev_name 3 rfl) ea_nil))), rfl⟩) (bare1 rfl) (blkOk_by (N := nLead) (sc := defScope sLead) (by decide +kernel)) (by rw [List.length_map, sl]; omega)) ?_))))
  · have := (ok.r r hrr).len; omega
  · unfold leadF
    rw [List.map_map, List.map_map]; rfl
theorem ok_hopes (h : Gs6 K mg) (p : PoolS) (hz : p.t.leaves.length ≤ 900) (hpl : p.pts.length = (mtch p.t).length) (hs : ∀ s ∈ p.sheets, s.length = (mtch p.t).length) (hsl : p.sheets.length ≤ 1000) (q : QuS) (ok : QuOk p.sheets.length q) (es : List (List Int)) (he : ∀ e ∈ es, EndOk (mtch p.t) e) (hel : es.length ≤ 100000) :
    Fn P w K mg base "_law_hopes" 3 (p.t.leaves.length + 5) (FS0 K [p.d, q.d, .lst (es.map sdD)] (esM (hopesF p q es))) := by
  have sl := sizeLine_eq
  have lp := p.t.leaves_pos
  refine fd0 (ds := [p.d, q.d, .lst (es.map sdD)]) h.fHopes scHopes rfl (env0 := [vl p.d, vl q.d, vl (.lst (es.map sdD)), none, none, none, none]) rfl fun f cdv A outer s H E hr => ?_
  apply Exists.intro
  have hn := scHopes.nd
  have hu := hr.units
  have rl := ok.rl
  have fold : es.foldl (fun acc e => if reachB (scoresF (mtch p.t) p.pts p.bonus p.sheets e) q = true then acc ++ [e] else acc) [] = hopesF p q es := by
    have g : ∀ (l acc : List (List Int)), l.foldl (fun acc e => if reachB (scoresF (mtch p.t) p.pts p.bonus p.sheets e) q = true then acc ++ [e] else acc) acc = acc ++ hopesF p q l := fun l => by
      induction l with
      | nil => intro acc; simp [hopesF]
      | cons e l ih =>
        intro acc
        rw [List.foldl_cons, ih]
        unfold hopesF
        rw [List.filter_cons]
        split <;> simp
    rw [g, List.nil_append]
  refine ex_cons (x1_set 3 (m := esM []) (ev_lstM em_nil)) ?_
  refine ex_cons (x1_for (iv_list (ds := es.map sdD) (ev_name 2 rfl)) (forR_fold (fun acc : List (List Int) => [vl p.d, vl q.d, vl (.lst (es.map sdD)), some (.own (esM acc)), none, none, none]) sdD (fun acc e => if reachB (scoresF (mtch p.t) p.pts p.bonus p.sheets e) q = true then acc ++ [e] else acc) (fun l acc => (∀ e ∈ l, e ∈ es) ∧ acc.length + l.length ≤ 100000) (fun e l acc hI => ?_) es [] ⟨fun _ z => z, by simpa using hel⟩)) ?_
  · have hee := hI.1 e (List.mem_cons_self ..)
    have hlen := hI.2
    rw [List.length_cons] at hlen
    have slen : (scoresF (mtch p.t) p.pts p.bonus p.sheets e).length = p.sheets.length := by unfold scoresF; rw [List.length_map]
    have c1 := ok_lscores (P := P) (w := w) (base := base) h.toFs9 p e hz hpl (he e hee) hs hsl
    have c2 := ok_lead (P := P) (w := w) (base := base) h (scoresF (mtch p.t) p.pts p.bonus p.sheets e) q (by rw [slen]; exact ok) (by rw [slen]; exact hsl)
    generalize hL : leadF (scoresF (mtch p.t) p.pts p.bonus p.sheets e) q = L at c2
    have hLl : L.length ≤ 4 := by rw [← hL]; unfold leadF; rw [List.length_map]; exact rl
    have hR : reachB (scoresF (mtch p.t) p.pts p.bonus p.sheets e) q = decide ((L.filter fun x => decide (x < q.margin)) = []) := by
      unfold reachB
      rw [hL, Bool.eq_iff_iff, decide_eq_true_eq, List.filter_eq_nil_iff, List.all_eq_true]
      refine ⟨fun z x hx => ?_, fun z x hx => ?_⟩
      · have := of_decide_eq_true (z x hx)
        rw [decide_eq_true_eq]; omega
      · have := z x hx
        rw [decide_eq_true_eq] at this
        exact decide_eq_true (by omega)
    have tst : Tv (cxOf CX0 P w K mg base nHopes "_law_hopes" (defScope sHopes) f cdv A outer s H E).nox (ifC (stAt bHopes 1)) [vl p.d, vl q.d, vl (.lst (es.map sdD)), some (.own (esM acc)), vl (sdD e), vl (sdD L), none] (reachB (scoresF (mtch p.t) p.pts p.bonus p.sheets e) q) [vl p.d, vl q.d, vl (.lst (es.map sdD)), some (.own (esM acc)), vl (sdD e), vl (sdD L), none] := by
      refine Tv.eq (tv_eqD (x := .lst ((L.filter fun x => decide (x < q.margin)).map D.int)) (y := .lst ([].map D.int)) (Ev.frzL (Ev.eq (ev_lc (own := [("one", 6)]) (iv_tup (ds := L.map D.int) (ev_name 5 rfl)) (lcR_filter D.int (fun x => M.val (.int x)) (fun x => decide (x < q.margin)) _ L fun x hx => ⟨_, _, _, fun _ _ _ _ _ => tg_name 6, fun _ _ _ _ _ => tvs_one (tv_lt (ev_name 6 rfl) (ev_ixT (ds := [sdD q.team, .tup (q.rivals.map sdD), .int q.margin]) (ev_name 1 rfl) ev_int (atI_of (i := 2) (by decide) rfl))), fun _ _ _ _ _ => ev_name 6 rfl, rfl, rfl⟩) (bare1 rfl) (blkOk_by (N := nHopes) (sc := defScope sHopes) (by decide +kernel)) (by rw [List.length_map, sl]; omega)) (by rw [List.map_map]; rfl))) (Ev.frzL (ds := []) (ev_lstM em_nil)) (cmp_ints _) (cmp_ints []) hu) ?_
      rw [eqv_ints, hR]
    refine ⟨⟨_, _, tg_name 4 (hi := (show 4 < 7 by decide)), Ex.eq (Ex.fgt 5 (Ex.fgt 4 (env1 := [vl p.d, vl q.d, vl (.lst (es.map sdD)), some (.own (esM (if reachB (scoresF (mtch p.t) p.pts p.bonus p.sheets e) q = true then acc ++ [e] else acc))), vl (sdD e), vl (sdD L), none]) (hi := (show 4 < 7 by decide)) (ex_cons (x1_set 5 (hi := (show 5 < 7 by decide)) (ev_call (ds := [sdD (scoresF (mtch p.t) p.pts p.bonus p.sheets e), q.d]) c2 (hr.mono (by omega)) (ea_cons (ev_call (ds := [p.d, sdD e]) c1 (hr.mono (by omega)) (ea_cons (ev_name 0 rfl) (ea_cons (ev_name 4 rfl) ea_nil))) (ea_cons (ev_name 1 rfl) ea_nil)))) ?_)))⟩, fun x hx => hI.1 x (List.mem_cons_of_mem _ hx), ?_⟩
    · by_cases hr1 : reachB (scoresF (mtch p.t) p.pts p.bonus p.sheets e) q = true
      · rw [if_pos hr1]
        refine Ex.eq (ex_one (x1_if (tst.eq hr1) (fun _ => ex_one (x1_expr (ev_append 3 (m' := .val (sdD e)) (em_cons (ev_name 4 rfl) em_nil) rfl rfl (by rw [List.length_map, sl]; omega)))) (fun z => nomatch z))) ?_
        show Out.nx [vl p.d, vl q.d, vl (.lst (es.map sdD)), some (.own (.lst ((acc.map fun e => M.val (sdD e)) ++ [.val (sdD e)]))), vl (sdD e), vl (sdD L), none] = _
        unfold esM
        rw [List.map_append]
        rfl
      · rw [if_neg hr1]
        exact ex_one (x1_if (tst.eq (Bool.eq_false_iff.mpr hr1)) (fun z => nomatch z) (fun _ => ex_nil))
    · show (if _ then _ else _ : List (List Int)).length + _ ≤ _
      split
      · rw [List.length_append]; show _ + 1 + _ ≤ _; omega
      · omega
  rw [fold]
  exact ex_stop (x1_ret (ev_move 3 rfl))
end
abbrev sDTeam : Stmt := topS 42
abbrev sDQuest : Stmt := topS 43
abbrev nDTeam : List Str := ["pen", "entrants", "some", "k"]
abbrev nDQuest : List Str := ["pen", "pool", "entrants", "team", "rivals", "margin", "k", "again"]
theorem scDTeam : FnScope nDTeam ["pen", "entrants"] (defScope sDTeam) := ⟨rfl, rfl, rfl, by decide +kernel, rfl, by decide +kernel, by decide +kernel⟩
theorem scDQuest : FnScope nDQuest ["pen", "pool"] (defScope sDQuest) := ⟨rfl, rfl, rfl, by decide +kernel, rfl, by decide +kernel, by decide +kernel⟩
structure Gs7 (K : PySem.W.Frag) (mg : Str → Option Value) : Prop extends Gs6 K mg where
  fDTeam : Df K mg "_law_draw_team" sDTeam ["pen", "entrants"]
  fDQuest : Df K mg "_law_draw_question" sDQuest ["pen", "pool"]
def lcIf : Expr → Expr
  | .ListComp _ (g :: _) _ _ => g.ifs.getD 0 (.Constant .none 0 ⟨0, 0, 0, 0⟩)
  | _ => .Constant .none 0 ⟨0, 0, 0, 0⟩
abbrev lcDT : Expr := asV (stAt (defBody sDTeam) 1)
def ifB : Stmt → List Stmt
  | .If _ b _ _ => b
  | _ => []
abbrev lcDQ : Expr := asV (stAt (ifB (stAt (defBody sDQuest) 3)) 0)
section
variable {P : Program} {w : World} {K : PySem.W.Frag} {mg : Str → Option Value} {base : Heap}
theorem team_loop (h : Gs7 K mg) (d1 : D) : ∀ (n : Nat) (lo : Int), ∀ {B : Int} {m : M}, B + n ≤ 999999 → PenOk B m →
    ∃ (ks : List Int) (m' : M), ks.Pairwise (· < ·) ∧ (∀ k ∈ ks, lo ≤ k ∧ k < lo + n) ∧ PenOk (B + n) m' ∧
      In0 P w K mg base nDTeam "_law_draw_team" sDTeam 2 fun X => LcR X (lcS (defScope sDTeam) lcDT) (lcT lcDT) (lcE lcDT) [lcIf lcDT] [3] (rangeD lo n) [some (.io m), vl d1, none, none] (ks.map fun i => M.val (.int i)) [some (.io m'), vl d1, none, none]
  | 0, lo, B, m, hB, hp => ⟨[], m, .nil, (fun _ h => nomatch h), hp.mono (by simp), fun _ _ _ _ _ _ _ _ => .nil⟩
  | n + 1, lo, B, m, hB, hp => by
    have f1 : Fs1 K mg := h.toGs5.toFs1
    obtain ⟨r, m1, hz1, r0, r1, hp1⟩ := ok_take (P := P) (w := w) (base := base) f1 (by omega) hp 2 (by omega) (by omega)
    obtain ⟨ks, m', pw, hb, hp', lc⟩ := team_loop h d1 n (lo + 1) (B := B + 1) (by omega) hp1
    by_cases hr0 : r = 0
    · refine ⟨lo :: ks, m', List.pairwise_cons.mpr ⟨fun x hx => by have := hb x hx; omega, pw⟩, fun x hx => ?_, hp'.mono (by omega), fun f cdv A outer s H E hr => ?_⟩
      · rcases List.mem_cons.mp hx with rfl | hx
        · omega
        · have := hb x hx; omega
      · have hn := scDTeam.nd
        have hu := hr.units
        refine .yes (fun _ _ _ _ _ => tg_name 3) (fun _ _ _ _ _ => tvs_one ((tv_eqI (ev_call1 (pre := []) (post := [.int 2]) hz1 (hr.mono (by omega)) (ea_lend 0 rfl (ea_cons ev_int ea_nil)) rfl) ev_int hu).eq (b' := true) (decide_eq_true hr0))) (fun _ _ _ _ _ => ev_name 3 rfl) ?_
        exact lc f cdv A outer s H E hr
    · refine ⟨ks, m', pw, fun x hx => by have := hb x hx; omega, hp'.mono (by omega), fun f cdv A outer s H E hr => ?_⟩
      have hn := scDTeam.nd
      have hu := hr.units
      refine .no (fun _ _ _ _ _ => tg_name 3) (fun _ _ _ _ _ => tvs_one ((tv_eqI (ev_call1 (pre := []) (post := [.int 2]) hz1 (hr.mono (by omega)) (ea_lend 0 rfl (ea_cons ev_int ea_nil)) rfl) ev_int hu).eq (b' := false) (decide_eq_false hr0))) ?_
      exact lc f cdv A outer s H E hr
theorem ok_dteam (h : Gs7 K mg) (n : Nat) (n0 : 1 ≤ n) (n1 : n ≤ 60) {B : Int} {m : M} (hB : B + n + 2 ≤ 999999) (hp : PenOk B m) :
    ∃ (es : List Int) (m' : M), Fn P w K mg base "_law_draw_team" 2 3 (FS1 K [] m [.int n] (.val (sdD es)) m') ∧ TeamOk n es ∧ PenOk (B + n + 2) m' := by
  have f1 : Fs1 K mg := h.toGs5.toFs1
  have mra := h.mra
  have mtu := h.mtu
  have sl := sizeLine_eq
  obtain ⟨r, m1, hz1, r0, r1, hp1⟩ := ok_take (P := P) (w := w) (base := base) f1 (by omega) hp 3 (by omega) (by omega)
  by_cases hr0 : 0 < r
  · obtain ⟨k, m2, hz2, k0, k1, hp2⟩ := ok_take (P := P) (w := w) (base := base) f1 (by omega) hp1 n (by omega) (by omega)
    refine ⟨[k], m2, fd1 (pre := []) (post := [.int n]) h.fDTeam scDTeam rfl (env0 := [some (.io m), vl (.int n), none, none]) rfl fun f cdv A outer s H E hr => ⟨[some (.io m2), vl (.int n), none, none], ?_, rfl⟩, ⟨by simp, by simp, fun x hx => ?_⟩, hp2.mono (by omega)⟩
    · have hn := scDTeam.nd
      exact ex_stop (x1_if (k := true) ((tv_gt (ev_call1 (pre := []) (post := [.int 3]) hz1 (hr.mono (by omega)) (ea_lend 0 rfl (ea_cons ev_int ea_nil)) rfl) ev_int).eq (b' := true) (decide_eq_true hr0)) (fun _ => ex_one (x1_ret (ev_tup (ds := [.int k]) (ea_cons (ev_call1 (pre := []) (post := [.int n]) hz2 (hr.mono (by omega)) (ea_lend 0 rfl (ea_cons (ev_name 1 rfl) ea_nil)) rfl) ea_nil)))) (fun z => nomatch z))
    · rw [List.mem_singleton.mp hx]; omega
  · obtain ⟨ks, m2, pw, hb, hp2, lc⟩ := team_loop (P := P) (w := w) (base := base) h (.int n) n 0 (by omega) hp1
    have start : ∀ out, (In0 P w K mg base nDTeam "_law_draw_team" sDTeam 2 fun X => Ex X ((defBody sDTeam).drop 2) [some (.io m2), vl (.int n), vl (.lst (ks.map D.int)), none] out) →
        In0 P w K mg base nDTeam "_law_draw_team" sDTeam 2 fun X => Ex X (defBody sDTeam) [some (.io m), vl (.int n), none, none] out := fun out q f cdv A outer s H E hr => by
      have hn := scDTeam.nd
      refine ex_cons (x1_if (k := false) ((tv_gt (ev_call1 (pre := []) (post := [.int 3]) hz1 (hr.mono (by omega)) (ea_lend 0 rfl (ea_cons ev_int ea_nil)) rfl) ev_int).eq (b' := false) (decide_eq_false hr0)) (fun z => nomatch z) (fun _ => ex_nil)) ?_
      exact ex_cons (x1_setLc 2 (own := [("k", 3)]) (Iv.eq (iv_range1 (ev_name 1 rfl)) (by rw [Int.toNat_natCast])) (lc f cdv A outer s H E hr) (bare1 rfl) (blkOk_by (N := nDTeam) (sc := defScope sDTeam) (by decide +kernel)) (by rw [rangeD_len, sl]; omega)) (ex_frz 2 rfl (by rw [frz_ints]; exact q f cdv A outer s H E hr))
    by_cases hne : ks = []
    · obtain ⟨k, m3, hz3, k0, k1, hp3⟩ := ok_take (P := P) (w := w) (base := base) f1 (by omega) hp2 n (by omega) (by omega)
      refine ⟨[k], m3, fd1 (pre := []) (post := [.int n]) h.fDTeam scDTeam rfl (env0 := [some (.io m), vl (.int n), none, none]) rfl fun f cdv A outer s H E hr => ⟨[some (.io m3), vl (.int n), vl (.lst (ks.map D.int)), none], start _ (fun f cdv A outer s H E hr => ?_) f cdv A outer s H E hr, rfl⟩, ⟨by simp, by simp, fun x hx => ?_⟩, hp3.mono (by omega)⟩
      · exact ex_stop (x1_ret (ev_ifF ((tv_neD (x := .lst (ks.map D.int)) (y := .lst ([].map D.int)) (ev_name 2 rfl) (Ev.frzL (ds := []) (ev_lstM em_nil)) (cmp_ints ks) (cmp_ints []) hr.units).eq (b' := false) (by rw [eqv_ints, decide_eq_true hne]; rfl)) (ev_tup (ds := [.int k]) (ea_cons (ev_call1 (pre := []) (post := [.int n]) hz3 (hr.mono (by omega)) (ea_lend 0 rfl (ea_cons (ev_name 1 rfl) ea_nil)) rfl) ea_nil))))
      · rw [List.mem_singleton.mp hx]; omega
    · refine ⟨ks, m2, fd1 (pre := []) (post := [.int n]) h.fDTeam scDTeam rfl (env0 := [some (.io m), vl (.int n), none, none]) rfl fun f cdv A outer s H E hr => ⟨[some (.io m2), vl (.int n), vl (.lst (ks.map D.int)), none], start _ (fun f cdv A outer s H E hr => ?_) f cdv A outer s H E hr, rfl⟩, ⟨hne, pw, fun x hx => by have := hb x hx; omega⟩, hp2.mono (by omega)⟩
      exact ex_stop (x1_ret (ev_ifT ((tv_neD (x := .lst (ks.map D.int)) (y := .lst ([].map D.int)) (ev_name 2 rfl) (Ev.frzL (ds := []) (ev_lstM em_nil)) (cmp_ints ks) (cmp_ints []) hr.units).eq (b' := true) (by rw [eqv_ints, decide_eq_false hne]; rfl)) (ev_tupL (ds := ks.map D.int) (ev_name 2 rfl))))
theorem riv_loop (h : Gs7 K mg) (d1 d3 : D) (r0 : M) (n : Nat) (n0 : 1 ≤ n) (n1 : n ≤ 60) : ∀ (j : Nat) (lo : Int), ∀ {B : Int} {m : M}, B + (n + 2) * j ≤ 999999 → PenOk B m →
    ∃ (rs : List (List Int)) (m' : M), rs.length = j ∧ (∀ r ∈ rs, TeamOk n r) ∧ PenOk (B + (n + 2) * j) m' ∧
      In0 P w K mg base nDQuest "_law_draw_question" sDQuest 3 fun X => LcR X (lcS (defScope sDQuest) lcDQ) (lcT lcDQ) (lcE lcDQ) [] [7] (rangeD lo j) [some (.io m), vl d1, vl (.int n), vl d3, some (.own r0), none, none, none] ((rs.map sdD).map M.val) [some (.io m'), vl d1, vl (.int n), vl d3, some (.own r0), none, none, none]
  | 0, lo, B, m, hB, hp => ⟨[], m, rfl, (fun _ h => nomatch h), hp.mono (by simp), fun _ _ _ _ _ _ _ _ => .nil⟩
  | j + 1, lo, B, m, hB, hp => by
    have e1 : ((n : Int) + 2) * ((j + 1 : Nat) : Int) = (n + 2) * (j : Nat) + (n + 2) := by
      rw [Int.natCast_add, Int.mul_add]; simp
    rw [e1] at hB
    have pos : 0 ≤ ((n : Int) + 2) * (j : Nat) := Int.mul_nonneg (by omega) (by omega)
    obtain ⟨es, m1, hz1, ok, hp1⟩ := ok_dteam (P := P) (w := w) (base := base) h n n0 n1 (B := B) (m := m) (by omega) hp
    obtain ⟨rs, m', hl, hb, hp', lc⟩ := riv_loop h d1 d3 r0 n n0 n1 j (lo + 1) (B := B + n + 2) (m := m1) (by omega) hp1
    refine ⟨es :: rs, m', by rw [List.length_cons, hl], fun x hx => ?_, hp'.mono (by rw [e1]; omega), fun f cdv A outer s H E hr => ?_⟩
    · rcases List.mem_cons.mp hx with rfl | hx
      · exact ok
      · exact hb x hx
    · have hn := scDQuest.nd
      exact .yes (fun _ _ _ _ _ => tg_name 7) (fun _ _ _ _ _ => tvs_nil) (fun _ _ _ _ _ => ev_call1 (pre := []) (post := [.int n]) hz1 (hr.mono (by omega)) (ea_lend 0 rfl (ea_cons (ev_name 2 rfl) ea_nil)) rfl) (lc f cdv A outer s H E hr)
end
section
variable {P : Program} {w : World} {K : PySem.W.Frag} {mg : Str → Option Value} {base : Heap}
theorem quest_tail (h : Gs7 K mg) (d1 : D) (n : Nat) (es : List Int) (rs : List (List Int)) (hrl : rs.length ≤ 4) {B : Int} {m : M} (hB : B + 3 ≤ 999999) (hp : PenOk B m) :
    ∃ (z : Int) (m' : M), (-200 ≤ z ∧ z ≤ 200) ∧ PenOk (B + 3) m' ∧ In0 P w K mg base nDQuest "_law_draw_question" sDQuest 3 fun X => Ex X ((defBody sDQuest).drop 4) [some (.io m), vl d1, vl (.int n), vl (sdD es), some (.own (.lst ((rs.map sdD).map M.val))), none, none, none] (.rt (.val (QuS.d ⟨es, rs, z⟩)) [some (.io m'), vl d1, vl (.int n), vl (sdD es), vl (.lst (rs.map sdD)), vl (.int z), none, none]) := by
  have f1 : Fs1 K mg := h.toGs5.toFs1
  have mtu := h.mtu
  obtain ⟨r1, m1, hz1, a0, a1, hp1⟩ := ok_take (P := P) (w := w) (base := base) f1 (by omega) hp 30 (by omega) (by omega)
  obtain ⟨r2, m2, hz2, b0, b1, hp2⟩ := ok_take (P := P) (w := w) (base := base) f1 (by omega) hp1 401 (by omega) (by omega)
  obtain ⟨d, m3, hz3, hd, hp3⟩ := ok_oneOf (P := P) (w := w) (base := base) f1 (by omega) hp2 [.int 0, .int 0, .int 0, .int 1, .int 1, .int 5, .int (-3), .int (r1 - 10), .int (r2 - 200)] (by simp) (by simp)
  obtain ⟨z, rfl, z0, z1⟩ : ∃ z : Int, d = .int z ∧ -200 ≤ z ∧ z ≤ 200 := by
    simp only [List.mem_cons, List.not_mem_nil, or_false] at hd
    rcases hd with rfl | rfl | rfl | rfl | rfl | rfl | rfl | rfl | rfl <;> exact ⟨_, rfl, by omega, by omega⟩
  refine ⟨z, m3, ⟨z0, z1⟩, hp3.mono (by omega), fun f cdv A outer s H E hr => ?_⟩
  have hn := scDQuest.nd
  refine ex_frz 4 rfl ?_
  rw [show frz (.lst ((rs.map sdD).map M.val)) = .lst (rs.map sdD) by rw [List.map_map]; exact frz_map sdD rs]
  refine ex_cons (x1_set 5 (ev_call1 (pre := []) (post := [.lst [.int 0, .int 0, .int 0, .int 1, .int 1, .int 5, .int (-3), .int (r1 - 10), .int (r2 - 200)]]) hz3 (hr.mono (by omega)) (ea_lend 0 rfl (ea_cons (ev_lstF (ds := [.int 0, .int 0, .int 0, .int 1, .int 1, .int 5, .int (-3), .int (r1 - 10), .int (r2 - 200)]) (ea_cons ev_int (ea_cons ev_int (ea_cons ev_int (ea_cons ev_int (ea_cons ev_int (ea_cons ev_int (ea_cons (ev_neg ev_int) (ea_cons (ev_sub (ev_call1 (pre := []) (post := [.int 30]) hz1 (hr.mono (by omega)) (ea_lend 0 rfl (ea_cons ev_int ea_nil)) rfl) ev_int) (ea_cons (ev_sub (ev_call1 (pre := []) (post := [.int 401]) hz2 (hr.mono (by omega)) (ea_lend 0 rfl (ea_cons ev_int ea_nil)) rfl) ev_int) ea_nil))))))))) (hz := (by simp))) ea_nil)) rfl)) ?_
  exact Ex.eq (ex_stop (x1_ret (ev_tup (ds := [sdD es, .tup (rs.map sdD), .int z]) (ea_cons (ev_name 3 rfl) (ea_cons (ev_tupL (ev_name 4 rfl)) (ea_cons (ev_name 5 rfl) ea_nil))))))
theorem ok_dquest (h : Gs7 K mg) (p : PoolS) (n : Nat) (hn0 : p.sheets.length = n) (n0 : 1 ≤ n) (n1 : n ≤ 20) {B : Int} {m : M} (hB : B + 200 ≤ 999999) (hp : PenOk B m) :
    ∃ (q : QuS) (m' : M), Fn P w K mg base "_law_draw_question" 2 4 (FS1 K [] m [p.d] (.val q.d) m') ∧ QuOk n q ∧ PenOk (B + 200) m' := by
  have f1 : Fs1 K mg := h.toGs5.toFs1
  have ml := h.ml
  have mra := h.mra
  have mtu := h.mtu
  have sl := sizeLine_eq
  obtain ⟨es, m1, hz1, ok1, hp1⟩ := ok_dteam (P := P) (w := w) (base := base) h n n0 (by omega) (by omega) hp
  obtain ⟨r, m2, hz2, r0, r1, hp2⟩ := ok_take (P := P) (w := w) (base := base) f1 (by omega) hp1 4 (by omega) (by omega)
  let R : List (List Int) := (((List.range n).filter fun k : Nat => !decide ((k : Int) ∈ es)).map fun k : Nat => [(k : Int)]).take 4
  have hRl : R.length ≤ 4 := by show (List.take 4 _).length ≤ 4; rw [List.length_take]; omega
  have hR : ∀ x ∈ R, TeamOk n x := fun x hx => by
    obtain ⟨k, hk, rfl⟩ := List.mem_map.mp (List.mem_of_mem_take hx)
    have := List.mem_range.mp (List.mem_filter.mp hk).1
    exact ⟨by simp, by simp, fun y hy => by rw [List.mem_singleton.mp hy]; omega⟩
  have start : ∀ out, (In0 P w K mg base nDQuest "_law_draw_question" sDQuest 3 fun X => Ex X ((defBody sDQuest).drop 3) [some (.io m1), vl p.d, vl (.int n), vl (sdD es), some (.own (.lst ((R.map sdD).map M.val))), none, none, none] out) →
      In0 P w K mg base nDQuest "_law_draw_question" sDQuest 3 fun X => Ex X (defBody sDQuest) [some (.io m), vl p.d, none, none, none, none, none, none] out := fun out q f cdv A outer s H E hr => by
    have hn := scDQuest.nd
    refine ex_cons (x1_set 2 ((ev_lenT (ds := p.sheets.map sdD) (ev_ixT (ds := [p.t.d, sdD p.pts, .int p.bonus, .tup (p.sheets.map sdD)]) (ev_name 1 rfl) ev_int (atI_of (i := 3) (by decide) rfl)) ml).eq (m' := .val (.int n)) (by rw [List.length_map, hn0]))) ?_
    refine ex_cons (x1_set 3 (ev_call1 (pre := []) (post := [.int n]) hz1 (hr.mono (by omega)) (ea_lend 0 rfl (ea_cons (ev_name 2 rfl) ea_nil)) rfl)) ?_
    refine ex_cons (x1_set 4 (Ev.eq (m' := .lst ((R.map sdD).map M.val)) (ev_slL (ds := (((List.range n).filter fun k : Nat => !decide ((k : Int) ∈ es)).map fun k : Nat => [(k : Int)]).map sdD) (Ev.frzL (Ev.eq (ev_lc (own := [("k", 6)]) (Iv.eq (iv_range1 (ev_name 2 rfl)) (by rw [Int.toNat_natCast]; exact rangeD0 n)) (lcR_filter (fun k : Nat => D.int (k : Int)) (fun k => M.val (.tup [.int (k : Int)])) (fun k => !decide ((k : Int) ∈ es)) _ (List.range n) fun k hk => ⟨_, _, _, fun _ _ _ _ _ => tg_name 6, fun _ _ _ _ _ => tvs_one (Tv.eq (tv_notInT (x := .int (k : Int)) (ds := es.map D.int) (ev_name 6 rfl) (ev_name 3 rfl) rfl ?_) ?_), fun _ _ _ _ _ => ev_tup (ds := [.int (k : Int)]) (ea_cons (ev_name 6 rfl) ea_nil), rfl, rfl⟩) (bare1 rfl) (blkOk_by (N := nDQuest) (sc := defScope sDQuest) (by decide +kernel)) ?_) ?_)) po_no (po_ev ev_int)) ?_)) ?_
    · rw [List.all_map]
      exact List.all_eq_true.mpr fun _ _ => rfl
    · show (!inV (.int (k : Int)) ((es.map D.int).map vF)) = _
      rw [List.map_map]
      show (!inV (.int (k : Int)) (es.map V.int)) = _
      rw [inV_ints]
    · rw [List.length_map, List.length_range, sl]; omega
    · rw [List.map_map, List.map_map]; rfl
    · rw [show ((4 : Int)) = ((4 : Nat) : Int) from rfl, cut_take]
      exact congrArg (fun l => M.lst (l.map M.val)) List.map_take.symm
    · exact q f cdv A outer s H E hr
  by_cases hr0 : r = 0
  · obtain ⟨j, m3, hz3, j0, j1, hp3⟩ := ok_take (P := P) (w := w) (base := base) f1 (by omega) hp2 5 (by omega) (by omega)
    obtain ⟨jn, rfl⟩ : ∃ jn : Nat, j = jn := ⟨j.toNat, by omega⟩
    have hj : ((n : Int) + 2) * (jn : Nat) ≤ 22 * 4 := by
      have a : ((n : Int) + 2) * (jn : Nat) ≤ 22 * (jn : Nat) := Int.mul_le_mul_of_nonneg_right (by omega) (by omega)
      omega
    obtain ⟨rs, m4, hl4, hrs, hp4, lc⟩ := riv_loop (P := P) (w := w) (base := base) h p.d (sdD es) (.lst ((R.map sdD).map M.val)) n n0 (by omega) jn 0 (by omega) hp3
    obtain ⟨z, m5, hz, hp5, tail⟩ := quest_tail (P := P) (w := w) (base := base) h p.d n es rs (by omega) (by omega) hp4
    refine ⟨⟨es, rs, z⟩, m5, fd1 (pre := []) (post := [p.d]) h.fDQuest scDQuest rfl (env0 := [some (.io m), vl p.d, none, none, none, none, none, none]) rfl fun f cdv A outer s H E hr => ⟨[some (.io m5), vl p.d, vl (.int n), vl (sdD es), vl (.lst (rs.map sdD)), vl (.int z), none, none], start _ (fun f cdv A outer s H E hr => ?_) f cdv A outer s H E hr, rfl⟩, ⟨ok1, by show rs.length ≤ 4; omega, hrs, hz⟩, hp5.mono (by omega)⟩
    have hn := scDQuest.nd
    refine ex_cons (x1_if (k := true) ((tv_eqI (ev_call1 (pre := []) (post := [.int 4]) hz2 (hr.mono (by omega)) (ea_lend 0 rfl (ea_cons ev_int ea_nil)) rfl) ev_int hr.units).eq (decide_eq_true hr0)) (fun _ => ex_one (x1_setLc 4 (env' := [some (.io m4), vl p.d, vl (.int n), vl (sdD es), some (.own (.lst ((R.map sdD).map M.val))), none, none, none]) (ms := (rs.map sdD).map M.val) (own := [("again", 7)]) (Iv.eq (iv_range1 (ev_call1 (pre := []) (post := [.int 5]) hz3 (hr.mono (by omega)) (ea_lend 0 rfl (ea_cons ev_int ea_nil)) rfl)) (by rw [Int.toNat_natCast])) ?_ (bare1 rfl) (blkOk_by (N := nDQuest) (sc := defScope sDQuest) (by decide +kernel)) (by rw [rangeD_len, sl]; omega))) (fun z => nomatch z)) ?_
    · exact lc f cdv A outer s H E hr
    · exact tail f cdv A outer s H E hr
  · obtain ⟨z, m5, hz, hp5, tail⟩ := quest_tail (P := P) (w := w) (base := base) h p.d n es R hRl (by omega) hp2
    refine ⟨⟨es, R, z⟩, m5, fd1 (pre := []) (post := [p.d]) h.fDQuest scDQuest rfl (env0 := [some (.io m), vl p.d, none, none, none, none, none, none]) rfl fun f cdv A outer s H E hr => ⟨[some (.io m5), vl p.d, vl (.int n), vl (sdD es), vl (.lst (R.map sdD)), vl (.int z), none, none], start _ (fun f cdv A outer s H E hr => ?_) f cdv A outer s H E hr, rfl⟩, ⟨ok1, hRl, hR, hz⟩, hp5.mono (by omega)⟩
    have hn := scDQuest.nd
    refine ex_cons (x1_if (k := false) ((tv_eqI (ev_call1 (pre := []) (post := [.int 4]) hz2 (hr.mono (by omega)) (ea_lend 0 rfl (ea_cons ev_int ea_nil)) rfl) ev_int hr.units).eq (decide_eq_false hr0)) (fun z => nomatch z) (fun _ => ex_nil)) ?_
    exact tail f cdv A outer s H E hr
end
abbrev sSame : Stmt := topS 23
abbrev nSame : List Str := ["found", "due", "one", "other"]
theorem scSame : FnScope nSame ["found", "due"] (defScope sSame) := ⟨rfl, rfl, rfl, by decide +kernel, rfl, by decide +kernel, by decide +kernel⟩
structure Fs4 (K : PySem.W.Frag) (mg : Str → Option Value) : Prop where
  mi : mg "int" = none
  ml : mg "len" = none
  mis : mg "isinstance" = none
  mbo : mg "bool" = none
  mst : mg "str" = none
  mtu : mg "tuple" = none
  mli : mg "list" = none
  mzi : mg "zip" = none
  ki : Kits K
  fSame : Df K mg "_law_same" sSame ["found", "due"]
section
variable {P : Program} {w : World} {K : PySem.W.Frag} {mg : Str → Option Value} {base : Heap}
theorem ok_same (h : Fs4 K mg) : ∀ (n : Nat) (d : D), dep d = n → sameOk d = true → Fn P w K mg base "_law_same" 2 (n + 1) (FS0 K [d, d] (.val (.bool true))) := by
  have mi := h.mi
  have ml := h.ml
  have mis := h.mis
  have mbo := h.mbo
  have mst := h.mst
  have mtu := h.mtu
  have mli := h.mli
  have mzi := h.mzi
  have ki := h.ki
  intro n
  induction n using Nat.strongRecOn with
  | ind n ih =>
    intro d hn hd
    refine fd0 (ds := [d, d]) h.fSame scSame rfl (env0 := [vl d, vl d, none, none]) rfl fun f cdv A outer s H E hr => ?_
    have nd := scSame.nd
    have hu := hr.units
    have hu2 : (A.deeper (envOfC "_law_same" (defScope sSame) s.heap.objs.size f cdv)).units + 65 < cLine := by have := hr.un; omega
    cases d with
    | none =>
      refine ⟨[vl (.none), vl (.none), none, none], ?_⟩
      exact ex_stop (x1_if (tv_w (tw_orT (tv_isN (d := .none) (ev_name 1 rfl) ev_none))) (fun _ => ex_one (x1_ret (ev_andT (ev_isN (d := .none) (ev_name 1 rfl) ev_none) (ev_bop1 (ev_isN (d := .none) (ev_name 0 rfl) ev_none))))) (fun z => nomatch z))
    | bool b =>
      refine ⟨[vl (.bool b), vl (.bool b), none, none], ?_⟩
      refine ex_cons (x1_if (tv_w (tw_orF (tv_isN (d := .bool b) (ev_name 1 rfl) ev_none) (tw_or1 (tv_isN (d := .bool b) (ev_name 0 rfl) ev_none)))) (fun z => nomatch z) (fun _ => ex_nil)) ?_
      refine ex_stop (x1_if (tv_w (tw_orT (tv_val (ev_pu (pu_isi (d := .bool b) (pu_name 1 rfl) (ki.g "bool" "bool" true (by decide)) (by decide +kernel) mbo mis))))) (fun _ => ex_one (x1_ret ?_)) (fun z => nomatch z))
      exact ev_andT (ev_pu (pu_isi (d := .bool b) (pu_name 1 rfl) (ki.g "bool" "bool" true (by decide)) (by decide +kernel) mbo mis)) (ev_andT (ev_pu (pu_isi (d := .bool b) (pu_name 0 rfl) (ki.g "bool" "bool" true (by decide)) (by decide +kernel) mbo mis)) (ev_bop1 (by exact Ev.eq (m' := .val (.bool true)) (ev_eqB (k := b) (k2 := b) (ev_name 0 rfl) (ev_name 1 rfl) hu) (by simp))))
    | int i =>
      refine ⟨[vl (.int i), vl (.int i), none, none], ?_⟩
      refine ex_cons (x1_if (tv_w (tw_orF (tv_isN (d := .int i) (ev_name 1 rfl) ev_none) (tw_or1 (tv_isN (d := .int i) (ev_name 0 rfl) ev_none)))) (fun z => nomatch z) (fun _ => ex_nil)) ?_
      refine ex_cons (x1_if (tv_w (tw_orF (tv_val (ev_pu (pu_isi (d := .int i) (pu_name 1 rfl) (ki.g "int" "bool" false (by decide)) (by decide +kernel) mbo mis))) (tw_or1 (tv_val (ev_pu (pu_isi (d := .int i) (pu_name 0 rfl) (ki.g "int" "bool" false (by decide)) (by decide +kernel) mbo mis)))))) (fun z => nomatch z) (fun _ => ex_nil)) ?_
      refine ex_stop (x1_if (tv_val (ev_isi2 (d := .int i) (pu_name 1 rfl) (Kits.two (ki.g "int" "int" true (by decide)) (ki.g "int" "str" false (by decide))) (by decide +kernel) (by decide +kernel) mi mst mis)) (fun _ => ?_) (fun z => nomatch z))
      refine ex_cons (x1_if (k := false) (Tv.eq (b' := false) (tv_neB (ev_pu (pu_isi (d := .int i) (pu_name 0 rfl) (ki.g "int" "int" true (by decide)) (by decide +kernel) mi mis)) (ev_pu (pu_isi (d := .int i) (pu_name 1 rfl) (ki.g "int" "int" true (by decide)) (by decide +kernel) mi mis)) hu) (by rfl)) (fun z => nomatch z) (fun _ => ex_nil)) ?_
      exact ex_stop (x1_ret (ev_andT (ev_isi2 (d := .int i) (pu_name 0 rfl) (Kits.two (ki.g "int" "int" true (by decide)) (ki.g "int" "str" false (by decide))) (by decide +kernel) (by decide +kernel) mi mst mis) (ev_bop1 (by exact Ev.eq (m' := .val (.bool true)) (ev_eqI (i := i) (j := i) (ev_name 0 rfl) (ev_name 1 rfl) hu) (by simp)))))
    | str z =>
      refine ⟨[vl (.str z), vl (.str z), none, none], ?_⟩
      have hz : PyData.strOk z = true := hd
      refine ex_cons (x1_if (tv_w (tw_orF (tv_isN (d := .str z) (ev_name 1 rfl) ev_none) (tw_or1 (tv_isN (d := .str z) (ev_name 0 rfl) ev_none)))) (fun z => nomatch z) (fun _ => ex_nil)) ?_
      refine ex_cons (x1_if (tv_w (tw_orF (tv_val (ev_pu (pu_isi (d := .str z) (pu_name 1 rfl) (ki.g "str" "bool" false (by decide)) (by decide +kernel) mbo mis))) (tw_or1 (tv_val (ev_pu (pu_isi (d := .str z) (pu_name 0 rfl) (ki.g "str" "bool" false (by decide)) (by decide +kernel) mbo mis)))))) (fun z => nomatch z) (fun _ => ex_nil)) ?_
      refine ex_stop (x1_if (tv_val (ev_isi2 (d := .str z) (pu_name 1 rfl) (Kits.two (ki.g "str" "int" false (by decide)) (ki.g "str" "str" true (by decide))) (by decide +kernel) (by decide +kernel) mi mst mis)) (fun _ => ?_) (fun z => nomatch z))
      refine ex_cons (x1_if (k := false) (Tv.eq (b' := false) (tv_neB (ev_pu (pu_isi (d := .str z) (pu_name 0 rfl) (ki.g "str" "int" false (by decide)) (by decide +kernel) mi mis)) (ev_pu (pu_isi (d := .str z) (pu_name 1 rfl) (ki.g "str" "int" false (by decide)) (by decide +kernel) mi mis)) hu) (by rfl)) (fun z => nomatch z) (fun _ => ex_nil)) ?_
      exact ex_stop (x1_ret (ev_andT (ev_isi2 (d := .str z) (pu_name 0 rfl) (Kits.two (ki.g "str" "int" false (by decide)) (ki.g "str" "str" true (by decide))) (by decide +kernel) (by decide +kernel) mi mst mis) (ev_bop1 (by exact Ev.eq (m' := .val (.bool true)) (ev_eqD (x := .str z) (y := .str z) (ev_name 0 rfl) (ev_name 1 rfl) (cmp_str hz) (cmp_str hz) hu) (by rw [eqv_str]; simp)))))
    | tup ds =>
      refine ⟨[vl (.tup ds), vl (.tup ds), none, none], ?_⟩
      have hd := Bool.and_eq_true_iff.mp (show (sameOkL ds && decide (ds.length ≤ 1000000)) = true from hd)
      have hl := of_decide_eq_true hd.2
      have hn : depL ds + 1 = n := hn
      refine ex_cons (x1_if (tv_w (tw_orF (tv_isN (d := .tup ds) (ev_name 1 rfl) ev_none) (tw_or1 (tv_isN (d := .tup ds) (ev_name 0 rfl) ev_none)))) (fun z => nomatch z) (fun _ => ex_nil)) ?_
      refine ex_cons (x1_if (tv_w (tw_orF (tv_val (ev_pu (pu_isi (d := .tup ds) (pu_name 1 rfl) (ki.g "tuple" "bool" false (by decide)) (by decide +kernel) mbo mis))) (tw_or1 (tv_val (ev_pu (pu_isi (d := .tup ds) (pu_name 0 rfl) (ki.g "tuple" "bool" false (by decide)) (by decide +kernel) mbo mis)))))) (fun z => nomatch z) (fun _ => ex_nil)) ?_
      refine ex_cons (x1_if (tv_val (ev_isi2 (d := .tup ds) (pu_name 1 rfl) (Kits.two (ki.g "tuple" "int" false (by decide)) (ki.g "tuple" "str" false (by decide))) (by decide +kernel) (by decide +kernel) mi mst mis)) (fun z => nomatch z) (fun _ => ex_nil)) ?_
      refine ex_cons (x1_if (tv_w (tw_orF (Tv.eq (b' := false) (tv_neB (ev_pu (pu_isi (d := .tup ds) (pu_name 1 rfl) (ki.g "tuple" "tuple" true (by decide)) (by decide +kernel) mtu mis)) (ev_pu (pu_isi (d := .tup ds) (pu_name 0 rfl) (ki.g "tuple" "tuple" true (by decide)) (by decide +kernel) mtu mis)) hu) (by rfl)) (tw_or1 (Tv.eq (b' := false) (tv_neB (ev_pu (pu_isi (d := .tup ds) (pu_name 1 rfl) (ki.g "tuple" "list" false (by decide)) (by decide +kernel) mli mis)) (ev_pu (pu_isi (d := .tup ds) (pu_name 0 rfl) (ki.g "tuple" "list" false (by decide)) (by decide +kernel) mli mis)) hu) (by rfl))))) (fun z => nomatch z) (fun _ => ex_nil)) ?_
      refine ex_cons (x1_if (k := false) (Tv.eq (b' := false) (tv_neI (i := ds.length) (j := ds.length) (ev_lenT (ev_name 0 rfl) ml) (ev_lenT (ev_name 1 rfl) ml) hu) (by simp)) (fun z => nomatch z) (fun _ => ex_nil)) ?_
      refine ex_stop (x1_ret (Ev.eq (ev_notInL ev_bool (Ev.frzL ((ev_lc (own := [("one", 2), ("other", 3)]) ((iv_zipT (ev_name 0 rfl) (ev_name 1 rfl)).eq (zip_self ds)) (lcR_map (fun d => D.tup [d, d]) (fun _ => M.val (.bool true)) _ ds fun d hm => ⟨_, _, fun _ _ _ _ _ => tg_tup (tgs_cons (tg_name 2) (tgs_cons (tg_name 3) tgs_nil)), fun _ _ _ _ _ => ev_call (ds := [d, d]) (ih (dep d) (by have := depL_mem hm; omega) d rfl (sameOkL_mem hd.1 hm)) (hr.mono (by have := depL_mem hm; omega)) (ea_cons (ev_name 2 rfl) (ea_cons (ev_name 3 rfl) ea_nil)), rfl⟩)
        (bare2 rfl rfl) (blkOk_by (N := nSame) (sc := defScope sSame) (by decide +kernel)) (by rw [List.length_map, sizeLine_eq]; omega)).eq (frzL_trues ds))) cmp_bool (cmp_trues _) hu2) (by rw [pdL_trues]; rfl)))
    | lst ds =>
      refine ⟨[vl (.lst ds), vl (.lst ds), none, none], ?_⟩
      have hd := Bool.and_eq_true_iff.mp (show (sameOkL ds && decide (ds.length ≤ 1000000)) = true from hd)
      have hl := of_decide_eq_true hd.2
      have hn : depL ds + 1 = n := hn
      refine ex_cons (x1_if (tv_w (tw_orF (tv_isN (d := .lst ds) (ev_name 1 rfl) ev_none) (tw_or1 (tv_isN (d := .lst ds) (ev_name 0 rfl) ev_none)))) (fun z => nomatch z) (fun _ => ex_nil)) ?_
      refine ex_cons (x1_if (tv_w (tw_orF (tv_val (ev_pu (pu_isi (d := .lst ds) (pu_name 1 rfl) (ki.g "list" "bool" false (by decide)) (by decide +kernel) mbo mis))) (tw_or1 (tv_val (ev_pu (pu_isi (d := .lst ds) (pu_name 0 rfl) (ki.g "list" "bool" false (by decide)) (by decide +kernel) mbo mis)))))) (fun z => nomatch z) (fun _ => ex_nil)) ?_
      refine ex_cons (x1_if (tv_val (ev_isi2 (d := .lst ds) (pu_name 1 rfl) (Kits.two (ki.g "list" "int" false (by decide)) (ki.g "list" "str" false (by decide))) (by decide +kernel) (by decide +kernel) mi mst mis)) (fun z => nomatch z) (fun _ => ex_nil)) ?_
      refine ex_cons (x1_if (tv_w (tw_orF (Tv.eq (b' := false) (tv_neB (ev_pu (pu_isi (d := .lst ds) (pu_name 1 rfl) (ki.g "list" "tuple" false (by decide)) (by decide +kernel) mtu mis)) (ev_pu (pu_isi (d := .lst ds) (pu_name 0 rfl) (ki.g "list" "tuple" false (by decide)) (by decide +kernel) mtu mis)) hu) (by rfl)) (tw_or1 (Tv.eq (b' := false) (tv_neB (ev_pu (pu_isi (d := .lst ds) (pu_name 1 rfl) (ki.g "list" "list" true (by decide)) (by decide +kernel) mli mis)) (ev_pu (pu_isi (d := .lst ds) (pu_name 0 rfl) (ki.g "list" "list" true (by decide)) (by decide +kernel) mli mis)) hu) (by rfl))))) (fun z => nomatch z) (fun _ => ex_nil)) ?_
      refine ex_cons (x1_if (k := false) (Tv.eq (b' := false) (tv_neI (i := ds.length) (j := ds.length) (ev_lenL (ev_name 0 rfl) ml) (ev_lenL (ev_name 1 rfl) ml) hu) (by simp)) (fun z => nomatch z) (fun _ => ex_nil)) ?_
      refine ex_stop (x1_ret (Ev.eq (ev_notInL ev_bool (Ev.frzL ((ev_lc (own := [("one", 2), ("other", 3)]) ((iv_zip (ev_name 0 rfl) (ev_name 1 rfl)).eq (zip_self ds)) (lcR_map (fun d => D.tup [d, d]) (fun _ => M.val (.bool true)) _ ds fun d hm => ⟨_, _, fun _ _ _ _ _ => tg_tup (tgs_cons (tg_name 2) (tgs_cons (tg_name 3) tgs_nil)), fun _ _ _ _ _ => ev_call (ds := [d, d]) (ih (dep d) (by have := depL_mem hm; omega) d rfl (sameOkL_mem hd.1 hm)) (hr.mono (by have := depL_mem hm; omega)) (ea_cons (ev_name 2 rfl) (ea_cons (ev_name 3 rfl) ea_nil)), rfl⟩)
        (bare2 rfl rfl) (blkOk_by (N := nSame) (sc := defScope sSame) (by decide +kernel)) (by rw [List.length_map, sizeLine_eq]; omega)).eq (frzL_trues ds))) cmp_bool (cmp_trues _) hu2) (by rw [pdL_trues]; rfl)))
    | dK _ _ => cases hd
    | dT _ _ => cases hd
    | ins _ _ _ => cases hd
    | scr _ => cases hd
end
abbrev sLaw : Stmt := topS 48
abbrev nLaw : List Str := ["script", "pen", "turn", "pool", "question", "team", "rivals", "margin", "values", "again", "value", "seen", "results", "some", "ending", "due", "text", "lead", "near", "asked"]
theorem scLaw : FnScope nLaw ["script"] (defScope sLaw) := ⟨rfl, rfl, rfl, by decide +kernel, rfl, by decide +kernel, by decide +kernel⟩
structure All (K : PySem.W.Frag) (mg : Str → Option Value) : Prop extends Gs7 K mg, Pr K mg, Fs4 K mg where
  mre : mg "repr" = none
  mmin : mg "min" = none
  mmax : mg "max" = none
abbrev turnB : List Stmt := frB (stAt (defBody sLaw) 1)
def biL : Expr → Expr
  | .BinOp a _ _ _ => a
  | _ => .Constant .none 0 ⟨0, 0, 0, 0⟩
def tuI : Expr → Nat → Expr
  | .Tuple es _ _, i => es.getD i (.Constant .none 0 ⟨0, 0, 0, 0⟩)
  | _, _ => .Constant .none 0 ⟨0, 0, 0, 0⟩
abbrev lcLaw : Expr := biR (biL (asV (stAt turnB 6)))
abbrev valS : Stmt := stAt turnB 7
abbrev agS : Stmt := stAt turnB 10
abbrev nearS : Stmt := stAt (frB agS) 7
theorem PoolOk.lvs {p : PoolS} (ok : PoolOk p) : 2 ≤ p.t.leaves.length ∧ p.t.leaves.length ≤ 16 ∧ p.t.leaves.Nodup ∧ ∀ x ∈ p.t.leaves, 0 ≤ x ∧ x ≤ 15 := by
  obtain ⟨q, q0, q1, pm⟩ := ok.q
  have hl : p.t.leaves.length = q := by rw [pm.length_eq, rangeI_len]
  refine ⟨by omega, by omega, pm.nodup_iff.mpr (rangeI_nodup q), fun x hx => ?_⟩
  have := mem_rangeI (pm.mem_iff.mp hx)
  omega
theorem PoolOk.ssl {p : PoolS} (ok : PoolOk p) : ∀ s ∈ p.sheets, s.length = (mtch p.t).length := fun s hs => by rw [(ok.ss s hs).1, sdsOf_len]
theorem in_lvs (t : Tr) {s : List Int} (hl : s.length = (mtch t).length) (h : ∀ k, k < (mtch t).length → s.getD k 0 ∈ (sdsOf (mtch t)).getD k []) : ∀ x ∈ s, x ∈ t.leaves := fun x hx => by
  obtain ⟨k, hk, rfl⟩ := List.getElem_of_mem hx
  have hk2 : k < (sdsOf (mtch t)).length := by rw [sdsOf_len]; omega
  obtain ⟨z1, z2, z3⟩ := (noted t []).sz k _ (Nat.zero_le _) (List.getElem?_eq_getElem hk2)
  refine z3 _ ?_
  have q := h k (by omega)
  have q1 : s.getD k 0 = s[k] := by rw [List.getD_eq_getElem?_getD, List.getElem?_eq_getElem hk]; rfl
  have q2 : (sdsOf (mtch t)).getD k [] = (sdsOf (mtch t))[k] := by rw [List.getD_eq_getElem?_getD, List.getElem?_eq_getElem hk2]; rfl
  rw [q1, q2] at q
  exact q
theorem okf (t : Tr) : OkF (mtch t) := (noted t []).ok fun i p z => by simp at z
theorem vok4 {A n : Nat} {a b c d : D} (ha : Vok A n a) (hb : Vok A n b) (hc : Vok A n c) (hd : Vok A n d) : Vok (4 * A + 4) (n + 1) (.tup [a, b, c, d]) := by
  have h1 := ha.wt
  have h2 := hb.wt
  have h3 := hc.wt
  have h4 := hd.wt
  refine Vok.tup (fun y hy => ?_) ?_ (fun y hy => ?_)
  · simp only [List.mem_cons, List.not_mem_nil, or_false] at hy
    rcases hy with rfl | rfl | rfl | rfl
    · exact ha.sh
    · exact hb.sh
    · exact hc.sh
    · exact hd.sh
  · rw [wL_cons, wL_cons, wL_cons, wL_cons, wL_nil]; omega
  · simp only [List.mem_cons, List.not_mem_nil, or_false] at hy
    rcases hy with rfl | rfl | rfl | rfl
    · exact ha.dp
    · exact hb.dp
    · exact hc.dp
    · exact hd.dp
theorem vok3 {A n : Nat} {a b c : D} (ha : Vok A n a) (hb : Vok A n b) (hc : Vok A n c) : Vok (3 * A + 3) (n + 1) (.tup [a, b, c]) := by
  have h1 := ha.wt
  have h2 := hb.wt
  have h3 := hc.wt
  refine Vok.tup (fun y hy => ?_) ?_ (fun y hy => ?_)
  · simp only [List.mem_cons, List.not_mem_nil, or_false] at hy
    rcases hy with rfl | rfl | rfl
    · exact ha.sh
    · exact hb.sh
    · exact hc.sh
  · rw [wL_cons, wL_cons, wL_cons, wL_nil]; omega
  · simp only [List.mem_cons, List.not_mem_nil, or_false] at hy
    rcases hy with rfl | rfl | rfl
    · exact ha.dp
    · exact hb.dp
    · exact hc.dp
theorem int_okS {i : Int} (h0 : -1000 ≤ i) (h1 : i ≤ 1000) : Vok 10 0 (.int i) := by
  refine ⟨decide_eq_true (Nat.lt_of_le_of_lt (show i.natAbs ≤ 1000 by omega) (by decide +kernel)), ?_, Nat.le_refl 0⟩
  show (if i == 0 then 0 else i.natAbs.log2 + 1) ≤ 10
  split
  · exact Nat.zero_le _
  · rename_i h
    have h3 : i.natAbs ≠ 0 := fun z => h (by rw [Int.natAbs_eq_zero.mp z]; rfl)
    have : i.natAbs.log2 < 10 := (Nat.log2_lt h3).mpr (by omega)
    omega
theorem pool_ok {p : PoolS} (ok : PoolOk p) : Vok 4000 17 p.d := by
  obtain ⟨l0, l1, nd, lb⟩ := ok.lvs
  have hn2 : (mtch p.t).length + 1 = p.t.leaves.length := by have z := note_len p.t []; rw [List.length_nil, Nat.zero_add] at z; exact z
  have a : Vok 830 16 p.t.d := (tr_ok p.t fun x hx => by have := lb x hx; omega).mono (by omega) (by omega)
  have b : Vok 830 16 (sdD p.pts) := (vok_ints fun x hx => by have := ok.pb x hx; omega).mono (by have := ok.pl; omega) (by omega)
  have c : Vok 830 16 (.int p.bonus) := (int_ok (by have := ok.b; omega) (by have := ok.b; omega)).mono (by omega) (by omega)
  have d : Vok 830 16 (.tup (p.sheets.map sdD)) := (vok_sheets (c := 15) fun s hs => ⟨by rw [ok.ssl s hs]; omega, fun x hx => by
    have := lb x (in_lvs p.t (ok.ssl s hs) (fun k hk => (ok.ss s hs).2 k (by rw [sdsOf_len]; exact hk)) x hx)
    omega⟩).mono (by have := ok.sl; omega) (by omega)
  exact (vok4 a b c d).mono (by omega) (Nat.le_refl _)
theorem res_ok {p : PoolS} (ok : PoolOk p) {rs : Rs} (g : Grow (mtch p.t) rs) : Vok 330 1 (dkD (resK rs)) := by
  obtain ⟨l0, l1, nd, lb⟩ := ok.lvs
  have hn2 : (mtch p.t).length + 1 = p.t.leaves.length := by have z := note_len p.t []; rw [List.length_nil, Nat.zero_add] at z; exact z
  have gl := g.len
  refine (vok_res fun q hq => ?_).mono (by omega) (by omega)
  have a := g.lt (k := q.1) (v := q.2) hq
  have b := g.inSds (okf p.t) q.1 q.2 hq
  have hk2 : q.1 < (sdsOf (mtch p.t)).length := by rw [sdsOf_len]; omega
  obtain ⟨z1, z2, z3⟩ := (noted p.t []).sz q.1 _ (Nat.zero_le _) (List.getElem?_eq_getElem hk2)
  rw [List.getD_eq_getElem?_getD, List.getElem?_eq_getElem hk2] at b
  have := lb _ (z3 _ b)
  omega
theorem team_ok {n : Nat} {es : List Int} (h : TeamOk n es) (hn : n ≤ 5) : Vok 55 1 (sdD es) :=
  (vok_ints fun x hx => by have := h.b x hx; omega).mono (by have := h.len; omega) (Nat.le_refl _)
theorem rivs_ok {n : Nat} {q : QuS} (h : QuOk n q) (hn : n ≤ 5) : Vok 224 2 (.tup (q.rivals.map sdD)) :=
  (vok_sheets (c := 5) fun s hs => ⟨by have := (h.r s hs).len; omega, fun x hx => by have := (h.r s hs).b x hx; omega⟩).mono (by have := h.rl; omega) (Nat.le_refl _)
theorem quest_ok {n : Nat} {q : QuS} (h : QuOk n q) (hn : n ≤ 5) : Vok 675 3 q.d :=
  (vok3 (A := 224) (n := 2) ((team_ok h.t hn).mono (by omega) (by omega)) (rivs_ok h hn) ((int_okS (by have := h.m; omega) (by have := h.m; omega)).mono (by omega) (by omega))).mono (by omega) (Nat.le_refl _)
theorem end_ok {p : PoolS} (ok : PoolOk p) {e : List Int} (h : EndOk (mtch p.t) e) : Vok 165 1 (sdD e) := by
  obtain ⟨l0, l1, nd, lb⟩ := ok.lvs
  have hn2 : (mtch p.t).length + 1 = p.t.leaves.length := by have z := note_len p.t []; rw [List.length_nil, Nat.zero_add] at z; exact z
  exact (vok_ints fun x hx => by have := lb x (in_lvs p.t h.len (end_in (okf p.t) h.ok) x hx); omega).mono (by have := h.len; omega) (Nat.le_refl _)
section
variable {P : Program} {w : World} {K : PySem.W.Frag} {mg : Str → Option Value} {base : Heap}
theorem same_bool (h : All K mg) (b : Bool) : Fn P w K mg base "_law_same" 2 1 (FS0 K [.bool b, .bool b] (.val (.bool true))) := ok_same h.toFs4 0 (.bool b) rfl rfl
theorem bents (h : All K mg) (ns : List Int) (tu : Int) (p : PoolS) (q : QuS) (vd : D) (vq : Vok 675 3 q.d) : ∀ (j : Nat) (lo : Int) {B : Int} {m : M}, B + 20 * j ≤ 999000 → PenOk B m →
    ∃ (ds : List D) (m' : M), ds.length = j ∧ (∀ d ∈ ds, Vok 1450 5 d) ∧ PenOk (B + 20 * j) m' ∧
      In0 P w K mg base nLaw "law" sLaw 57 fun X => LcR X (lcS (defScope sLaw) lcLaw) (lcT lcLaw) (lcE lcLaw) [] [9] (rangeD lo j) [vl (.scr ns), some (.own m), vl (.int tu), vl p.d, vl q.d, vl (sdD q.team), vl (.tup (q.rivals.map sdD)), vl (.int q.margin), vl vd, none, none, none, none, none, none, none, none, none, none, none] (ds.map M.val) [vl (.scr ns), some (.own m'), vl (.int tu), vl p.d, vl q.d, vl (sdD q.team), vl (.tup (q.rivals.map sdD)), vl (.int q.margin), vl vd, none, none, none, none, none, none, none, none, none, none, none]
  | 0, lo, B, m, hB, hp => ⟨[], m, rfl, (fun _ h => nomatch h), hp.mono (by simp), fun _ _ _ _ _ _ _ _ => .nil⟩
  | j + 1, lo, B, m, hB, hp => by
    obtain ⟨d, m1, hz1, hd, hp1⟩ := ok_bent (P := P) (w := w) (base := base) h.toGs5 3 q.d 675 vq (by omega) (by omega) hp
    obtain ⟨ds, m', hl, hv, hp', lc⟩ := bents h ns tu p q vd vq j (lo + 1) (B := B + 20) (m := m1) (by omega) (hp1.mono (by omega))
    refine ⟨d :: ds, m', by rw [List.length_cons, hl], fun x hx => ?_, hp'.mono (by omega), fun f cdv A outer s H E hr => ?_⟩
    · rcases List.mem_cons.mp hx with rfl | hx
      · exact hd
      · exact hv x hx
    · exact .yes (fun _ _ _ _ _ => tg_name 9 (hn := scLaw.nd)) (fun _ _ _ _ _ => tvs_nil) (fun _ _ _ _ _ => ev_call1 (pre := []) (post := [q.d]) hz1 (hr.mono (by omega)) (ea_lend 1 rfl (ea_cons (ev_name 4 rfl) ea_nil)) rfl) (lc f cdv A outer s H E hr)
/-- the recognizer of questions and the law's own agree on all values; they stay as they are -/
theorem values_loop (h : All K mg) (ns : List Int) (m : M) (tu : Int) (p : PoolS) (q : QuS) (vd : D) (ok : PoolOk p) : ∀ ds : List D, (∀ d ∈ ds, Vok 3000 20 d) →
    Top0 P w K mg base nLaw sLaw fun X => ForR X (frT valS) (frB valS) ds [vl (.scr ns), some (.own m), vl (.int tu), vl p.d, vl q.d, vl (sdD q.team), vl (.tup (q.rivals.map sdD)), vl (.int q.margin), vl vd, none, none, none, none, none, none, none, none, none, none, none] (.nx [vl (.scr ns), some (.own m), vl (.int tu), vl p.d, vl q.d, vl (sdD q.team), vl (.tup (q.rivals.map sdD)), vl (.int q.margin), vl vd, none, none, none, none, none, none, none, none, none, none, none])
  | [], _ => fun _ _ _ _ _ => .nil
  | d :: ds, hd => fun f cdv s H E => by
    have mre := h.mre
    have hn0 := scLaw.nd
    have vdd := hd d (List.mem_cons_self ..)
    have w0 : (pk d).weight ≤ 3000 := vdd.wt
    have dp : (pk d).depth ≤ 20 := vdd.dp
    have hr := top_room nLaw "law" (defScope sLaw) s f cdv
    have sl := ok.sl
    have e1 := ok_quest (P := P) (w := w) (base := base) h.toPq p.t.d (sdD p.pts) (.int p.bonus) (p.sheets.map sdD) p.sheets.length (by rw [List.length_map]) (by omega) d vdd.sh (Nat.le_trans vdd.wt (by decide))
    have e2 := ok_lquest (P := P) (w := w) (base := base) h.toGs6 p.t.d (sdD p.pts) (.int p.bonus) (p.sheets.map sdD) p.sheets.length (by rw [List.length_map]) (by omega) d vdd.sh (Nat.le_trans vdd.wt (by decide))
    have un : (callerA.deeper (envOfC "law" (defScope sLaw) s.heap.objs.size f cdv)).units + ((pk d).depth + 1) < cLine := by
      have := hr.un
      omega
    suffices core : Ex (cxOf CX0 P w K mg base nLaw "law" (defScope sLaw) f cdv callerA [] s H E).nox (frB valS) [vl (.scr ns), some (.own m), vl (.int tu), vl p.d, vl q.d, vl (sdD q.team), vl (.tup (q.rivals.map sdD)), vl (.int q.margin), vl vd, none, vl d, none, none, none, none, none, none, none, none, none] (.nx [vl (.scr ns), some (.own m), vl (.int tu), vl p.d, vl q.d, vl (sdD q.team), vl (.tup (q.rivals.map sdD)), vl (.int q.margin), vl vd, none, vl d, vl (.str (pk d).shown), none, none, none, none, none, none, none, none]) from
      .nx (tg_name 10 (hn := hn0)) (Ex.eq (Ex.fgt 11 (Ex.fgt 10 core))) (values_loop h ns m tu p q vd ok ds (fun x hx => hd x (List.mem_cons_of_mem _ hx)) f cdv s H E)
    refine ex_cons (x1_set 11 (ev_repr rfl (ev_name 10 rfl) vdd.sh (by omega) un) (hn := hn0)) ?_
    exact ex_one (x1_if (k := false) (tv_w (tw_orF ((tv_not (tv_val (ev_call (ds := [.bool (questD p.sheets.length d), .bool (questD p.sheets.length d)]) (same_bool h (questD p.sheets.length d)) (hr.mono (by omega)) (ea_cons (ev_call (ds := [p.d, d]) e1 (hr.mono (by omega)) (ea_cons (ev_name 3 rfl) (ea_cons (ev_name 10 rfl) ea_nil))) (ea_cons (ev_call (ds := [p.d, d]) e2 (hr.mono (by omega)) (ea_cons (ev_name 3 rfl) (ea_cons (ev_name 10 rfl) ea_nil))) ea_nil))))).eq (b' := false) rfl)
      (tw_or1 ((tv_neStr (ev_repr rfl (ev_name 10 rfl) vdd.sh (by omega) un) (ev_name 11 rfl)).eq (b' := false) (by rw [decide_eq_true rfl]; rfl))))) (fun z => nomatch z) (fun _ => ex_nil))
/-- the law's hopes of one ending, none or not -/
theorem hopes_ne (p : PoolS) (q : QuS) (e : List Int) : (!PyData.eqv (pd (.lst ((hopesF p q [e]).map sdD))) (pd (.lst ([].map D.int)))) = reachB (scoresF (mtch p.t) p.pts p.bonus p.sheets e) q := by
  rw [eqv_sds_nil]
  unfold hopesF
  rw [List.filter_cons, List.filter_nil]
  cases reachB (scoresF (mtch p.t) p.pts p.bonus p.sheets e) q <;> rfl
theorem near_loop (h : All K mg) (ns : List Int) (m : M) (tu : Int) (p : PoolS) (q : QuS) (vd : D) (sn : Str) (rs : Rs) (es : List (List Int)) (ag : Int) (va due tx ld : D) (ok : PoolOk p) (okq : QuOk p.sheets.length q) (e : List Int) (eo : EndOk (mtch p.t) e) (ea : ∀ k v, k < (mtch p.t).length → lookR rs k = some v → e.getD k 0 = v) : ∀ zs : List Int, (∀ z ∈ zs, -200 ≤ z ∧ z ≤ 200) →
    Top0 P w K mg base nLaw sLaw fun X => ForR X (frT nearS) (frB nearS) (zs.map D.int) [vl (.scr ns), some (.own m), vl (.int tu), vl p.d, vl q.d, vl (sdD q.team), vl (.tup (q.rivals.map sdD)), vl (.int q.margin), vl vd, vl (.int ag), vl va, vl (.str sn), vl (dkD (resK rs)), vl (.lst (es.map sdD)), vl (sdD e), vl due, vl tx, vl ld, none, none] (.nx [vl (.scr ns), some (.own m), vl (.int tu), vl p.d, vl q.d, vl (sdD q.team), vl (.tup (q.rivals.map sdD)), vl (.int q.margin), vl vd, vl (.int ag), vl va, vl (.str sn), vl (dkD (resK rs)), vl (.lst (es.map sdD)), vl (sdD e), vl due, vl tx, vl ld, none, none])
  | [], _ => fun _ _ _ _ _ => .nil
  | z :: zs, hz => fun f cdv s H E => by
    have hn0 := scLaw.nd
    have hz1 := hz z (List.mem_cons_self ..)
    have hr := top_room nLaw "law" (defScope sLaw) s f cdv
    have hu := hr.units
    obtain ⟨l0, l1, nd, lb⟩ := ok.lvs
    have sl := ok.sl
    have ve := end_ok ok eo
    have ok2 : QuOk p.sheets.length ⟨q.team, q.rivals, z⟩ := ⟨okq.t, okq.rl, okq.r, hz1⟩
    have e1 := ok_hope (P := P) (w := w) (base := base) h.toPr p (by omega) ok.pl ok.ssl (by omega) rs ⟨q.team, q.rivals, z⟩ ok2 (sdD e) ve.sh (Nat.le_trans ve.wt (by decide))
    have e2 := ok_hopes (P := P) (w := w) (base := base) h.toGs6 p (by omega) ok.pl ok.ssl (by omega) ⟨q.team, q.rivals, z⟩ ok2 [e] (fun x hx => by rw [List.mem_singleton.mp hx]; exact eo) (by simp)
    have hh : hopeD p rs ⟨q.team, q.rivals, z⟩ (sdD e) = reachB (scoresF (mtch p.t) p.pts p.bonus p.sheets e) ⟨q.team, q.rivals, z⟩ := by
      unfold hopeD
      rw [endD_of eo ea, show esOf (sdD e) = e from iv_ints e]
      rfl
    rw [hh] at e1
    suffices core : Ex (cxOf CX0 P w K mg base nLaw "law" (defScope sLaw) f cdv callerA [] s H E).nox (frB nearS) [vl (.scr ns), some (.own m), vl (.int tu), vl p.d, vl q.d, vl (sdD q.team), vl (.tup (q.rivals.map sdD)), vl (.int q.margin), vl vd, vl (.int ag), vl va, vl (.str sn), vl (dkD (resK rs)), vl (.lst (es.map sdD)), vl (sdD e), vl due, vl tx, vl ld, vl (.int z), none] (.nx [vl (.scr ns), some (.own m), vl (.int tu), vl p.d, vl q.d, vl (sdD q.team), vl (.tup (q.rivals.map sdD)), vl (.int q.margin), vl vd, vl (.int ag), vl va, vl (.str sn), vl (dkD (resK rs)), vl (.lst (es.map sdD)), vl (sdD e), vl due, vl tx, vl ld, vl (.int z), vl (QuS.d ⟨q.team, q.rivals, z⟩)]) from
      .nx (tg_name 18 (hn := hn0)) (Ex.eq (Ex.fgt 19 (Ex.fgt 18 core))) (near_loop h ns m tu p q vd sn rs es ag va due tx ld ok okq e eo ea zs (fun x hx => hz x (List.mem_cons_of_mem _ hx)) f cdv s H E)
    refine ex_cons (x1_set 19 (ev_tup (ds := [sdD q.team, .tup (q.rivals.map sdD), .int z]) (ea_cons (ev_name 5 rfl) (ea_cons (ev_name 6 rfl) (ea_cons (ev_name 18 rfl) ea_nil)))) (hn := hn0)) ?_
    exact ex_one (x1_if (k := false) ((tv_not (tv_val (ev_call (ds := [.bool (reachB (scoresF (mtch p.t) p.pts p.bonus p.sheets e) ⟨q.team, q.rivals, z⟩), .bool (reachB (scoresF (mtch p.t) p.pts p.bonus p.sheets e) ⟨q.team, q.rivals, z⟩)]) (same_bool h _) (hr.mono (by omega)) (ea_cons (ev_call (ds := [p.d, dkD (resK rs), QuS.d ⟨q.team, q.rivals, z⟩, sdD e]) e1 (hr.mono (by omega)) (ea_cons (ev_name 3 rfl) (ea_cons (ev_name 12 rfl) (ea_cons (ev_name 19 rfl) (ea_cons (ev_name 14 rfl) ea_nil))))) (ea_cons ((ev_neD (x := .lst ((hopesF p ⟨q.team, q.rivals, z⟩ [e]).map sdD)) (y := .lst ([].map D.int)) ((Ev.frz (ev_call (ds := [p.d, QuS.d ⟨q.team, q.rivals, z⟩, .lst ([e].map sdD)]) e2 (hr.mono (by omega)) (ea_cons (ev_name 3 rfl) (ea_cons (ev_name 19 rfl) (ea_cons (ev_lstF (ds := [sdD e]) (ea_cons (ev_name 14 rfl) ea_nil)) ea_nil))))).eq (congrArg M.val (frz_map sdD _))) (Ev.frzL (ds := []) (ev_lstM em_nil)) (cmp_sds _) (cmp_ints []) hu).eq (congrArg (fun b => M.val (.bool b)) (hopes_ne p ⟨q.team, q.rivals, z⟩ e))) ea_nil))))).eq (b' := false) rfl) (fun z => nomatch z) (fun _ => ex_nil))
end
section
variable {P : Program} {w : World} {K : PySem.W.Frag} {mg : Str → Option Value} {base : Heap}
/-- from the value on: the two recognizers of hopes, the greatest lead asked, one more -/
theorem again_rest (h : All K mg) (ns : List Int) (m : M) (tu : Int) (p : PoolS) (q : QuS) (vd : D) (sn : Str) (rs : Rs) (g : Grow (mtch p.t) rs) (es : List (List Int)) (lo : Int) (ok : PoolOk p) (okq : QuOk p.sheets.length q) (e : List Int) (eo : EndOk (mtch p.t) e) (ea : ∀ k v, k < (mtch p.t).length → lookR rs k = some v → e.getD k 0 = v) (v : D) (vv : Vok 1000 5 v) :
    ∃ (ld : D), Top0 P w K mg base nLaw sLaw fun X => Ex X ((frB agS).drop 2) [vl (.scr ns), some (.own m), vl (.int tu), vl p.d, vl q.d, vl (sdD q.team), vl (.tup (q.rivals.map sdD)), vl (.int q.margin), vl vd, vl (.int lo), vl v, vl (.str sn), vl (dkD (resK rs)), vl (.lst (es.map sdD)), vl (sdD e), none, none, none, none, none] (.nx [vl (.scr ns), some (.own m), vl (.int tu), vl p.d, vl q.d, vl (sdD q.team), vl (.tup (q.rivals.map sdD)), vl (.int q.margin), vl vd, vl (.int lo), vl v, vl (.str sn), vl (dkD (resK rs)), vl (.lst (es.map sdD)), vl (sdD e), vl (.bool (hopeD p rs q v)), vl (.str (pk v).shown), vl ld, none, none]) := by
  obtain ⟨l0, l1, nd, lb⟩ := ok.lvs
  have sl := ok.sl
  have slen : (scoresF (mtch p.t) p.pts p.bonus p.sheets e).length = p.sheets.length := by unfold scoresF; rw [List.length_map]
  generalize hL : leadF (scoresF (mtch p.t) p.pts p.bonus p.sheets e) q = L
  have hLl : L.length ≤ 4 := by rw [← hL]; unfold leadF; rw [List.length_map]; exact okq.rl
  obtain ⟨z, zs, hz⟩ : ∃ z zs, L ++ [(0 : Int)] = z :: zs := by
    cases L with
    | nil => exact ⟨0, [], rfl⟩
    | cons a L => exact ⟨a, L ++ [0], rfl⟩
  generalize hl1 : zs.foldl min z = l1v
  generalize hl2 : (if (if l1v < 199 then l1v else 199) > -200 then (if l1v < 199 then l1v else (199 : Int)) else -200) = l2
  have b2 : -200 ≤ l2 ∧ l2 ≤ 199 := by
    subst hl2
    split <;> split at * <;> omega
  refine ⟨.int l2, fun f cdv s H E => ?_⟩
  have mre := h.mre
  have mmin := h.mmin
  have mmax := h.mmax
  have mli := h.mli
  have hn := scLaw.nd
  have szl := sizeLine_eq
  have hr := top_room nLaw "law" (defScope sLaw) s f cdv
  have hu := hr.units
  have hu2 : (callerA.deeper (envOfC "law" (defScope sLaw) s.heap.objs.size f cdv)).units + 2 < cLine := by omega
  have w0 : (pk v).weight ≤ 1000 := vv.wt
  have dp : (pk v).depth ≤ 5 := vv.dp
  have un : (callerA.deeper (envOfC "law" (defScope sLaw) s.heap.objs.size f cdv)).units + ((pk v).depth + 1) < cLine := by
    have := hr.un
    omega
  have ve := end_ok ok eo
  have vl' : Vok 165 1 (.lst (e.map D.int)) := Vok.lst ((shwL_all _).mp ve.sh) (by rw [← wD_tup]; exact ve.wt) ((dL_le _ 0).mp (Nat.le_of_succ_le_succ (show dL (e.map D.int) + 1 ≤ 0 + 1 by rw [← dD_tup]; exact ve.dp)))
  have e1 := ok_hope (P := P) (w := w) (base := base) h.toPr p (by omega) ok.pl ok.ssl (by omega) rs q okq v vv.sh (Nat.le_trans vv.wt (by decide))
  have e2 := ok_hope (P := P) (w := w) (base := base) h.toPr p (by omega) ok.pl ok.ssl (by omega) rs q okq (.lst (e.map D.int)) vl'.sh (Nat.le_trans vl'.wt (by decide))
  have e2f : hopeD p rs q (.lst (e.map D.int)) = false := rfl
  rw [e2f] at e2
  have e3 := ok_lIsEnd (P := P) (w := w) (base := base) h.toFs8 p.t (by omega) lb [sdD p.pts, .int p.bonus, .tup (p.sheets.map sdD)] rs g v vv.sh (Nat.le_trans vv.wt (by decide))
  have c1 := ok_lscores (P := P) (w := w) (base := base) h.toFs9 p e (by omega) ok.pl eo ok.ssl (by omega)
  have c2 := ok_lead (P := P) (w := w) (base := base) h.toGs6 (scoresF (mtch p.t) p.pts p.bonus p.sheets e) q (by rw [slen]; exact okq) (by rw [slen]; omega)
  rw [hL] at c2
  -- what is due
  have due : Ev (cxOf CX0 P w K mg base nLaw "law" (defScope sLaw) f cdv callerA [] s H E).nox (tuI (asV (stAt (frB agS) 2)) 0) [vl (.scr ns), some (.own m), vl (.int tu), vl p.d, vl q.d, vl (sdD q.team), vl (.tup (q.rivals.map sdD)), vl (.int q.margin), vl vd, vl (.int lo), vl v, vl (.str sn), vl (dkD (resK rs)), vl (.lst (es.map sdD)), vl (sdD e), none, none, none, none, none] (.val (.bool (hopeD p rs q v))) [vl (.scr ns), some (.own m), vl (.int tu), vl p.d, vl q.d, vl (sdD q.team), vl (.tup (q.rivals.map sdD)), vl (.int q.margin), vl vd, vl (.int lo), vl v, vl (.str sn), vl (dkD (resK rs)), vl (.lst (es.map sdD)), vl (sdD e), none, none, none, none, none] := by
    cases he : endD (mtch p.t) rs v with
    | false =>
      have e0 : hopeD p rs q v = false := by unfold hopeD; rw [he]; rfl
      rw [e0]
      exact ev_andF ((ev_call (ds := [p.d, dkD (resK rs), v]) e3 (hr.mono (by omega)) (ea_cons (ev_name 3 rfl) (ea_cons (ev_name 12 rfl) (ea_cons (ev_name 10 rfl) ea_nil)))).eq (by rw [he]))
    | true =>
      obtain ⟨e', rfl, eo', _⟩ := endD_is he
      have e0 : hopeD p rs q (sdD e') = reachB (scoresF (mtch p.t) p.pts p.bonus p.sheets e') q := by unfold hopeD; rw [he, show esOf (sdD e') = e' from iv_ints e']; rfl
      rw [e0]
      have e4 := ok_hopes (P := P) (w := w) (base := base) h.toGs6 p (by omega) ok.pl ok.ssl (by omega) q okq [e'] (fun x hx => by rw [List.mem_singleton.mp hx]; exact eo') (by simp)
      exact ev_andT ((ev_call (ds := [p.d, dkD (resK rs), sdD e']) e3 (hr.mono (by omega)) (ea_cons (ev_name 3 rfl) (ea_cons (ev_name 12 rfl) (ea_cons (ev_name 10 rfl) ea_nil)))).eq (by rw [he])) (ev_bop1 ((ev_neD (x := .lst ((hopesF p q [e']).map sdD)) (y := .lst ([].map D.int)) ((Ev.frz (ev_call (ds := [p.d, q.d, .lst ([e'].map sdD)]) e4 (hr.mono (by omega)) (ea_cons (ev_name 3 rfl) (ea_cons (ev_name 4 rfl) (ea_cons (ev_lstF (ds := [sdD e']) (ea_cons (ev_name 10 rfl) ea_nil)) ea_nil))))).eq (congrArg M.val (frz_map sdD _))) (Ev.frzL (ds := []) (ev_lstM em_nil)) (cmp_sds _) (cmp_ints []) hu).eq (congrArg (fun b => M.val (.bool b)) (hopes_ne p q e'))))
  refine ex_cons (x1_par 15 16 (em_cons due (em_cons (ev_repr rfl (ev_name 10 rfl) vv.sh (by omega) un) em_nil))) ?_
  refine ex_cons (x1_if (k := false) (tv_w (tw_orF ((tv_not (tv_val (ev_call (ds := [.bool (hopeD p rs q v), .bool (hopeD p rs q v)]) (same_bool h _) (hr.mono (by omega)) (ea_cons (ev_call (ds := [p.d, dkD (resK rs), q.d, v]) e1 (hr.mono (by omega)) (ea_cons (ev_name 3 rfl) (ea_cons (ev_name 12 rfl) (ea_cons (ev_name 4 rfl) (ea_cons (ev_name 10 rfl) ea_nil))))) (ea_cons (ev_name 15 rfl) ea_nil))))).eq (b' := false) rfl)
    (tw_or1 ((tv_neStr (ev_repr rfl (ev_name 10 rfl) vv.sh (by omega) un) (ev_name 16 rfl)).eq (b' := false) (by rw [decide_eq_true rfl]; rfl))))) (fun z => nomatch z) (fun _ => ex_nil)) ?_
  refine ex_cons (x1_if (k := false) ((tv_not (tv_val (ev_call (ds := [.bool false, .bool false]) (same_bool h false) (hr.mono (by omega)) (ea_cons (ev_call (ds := [p.d, dkD (resK rs), q.d, .lst (e.map D.int)]) e2 (hr.mono (by omega)) (ea_cons (ev_name 3 rfl) (ea_cons (ev_name 12 rfl) (ea_cons (ev_name 4 rfl) (ea_cons (Ev.frzL (ev_listT (ds := e.map D.int) (ev_name 14 rfl))) ea_nil))))) (ea_cons ev_bool ea_nil))))).eq (b' := false) rfl) (fun z => nomatch z) (fun _ => ex_nil)) ?_
  refine ex_cons (x1_set 17 ((ev_minT (z := z) (ns := zs) (Ev.eq (ev_catT (ds := L.map D.int) (es' := [.int 0]) (ev_call (ds := [sdD (scoresF (mtch p.t) p.pts p.bonus p.sheets e), q.d]) c2 (hr.mono (by omega)) (ea_cons (ev_call (ds := [p.d, sdD e]) c1 (hr.mono (by omega)) (ea_cons (ev_name 3 rfl) (ea_cons (ev_name 14 rfl) ea_nil))) (ea_cons (ev_name 4 rfl) ea_nil))) (ev_tup (ds := [.int 0]) (ea_cons ev_int ea_nil)) ?_) ?_) hu2).eq (m' := .val (.int l1v)) (by rw [hl1]))) ?_
  · rw [List.length_map, szl]; show _ + 1 ≤ _; omega
  · rw [← hz, List.map_append]; rfl
  refine ex_cons (x1_set 17 ((ev_max2 (ev_neg ev_int) (ev_min2 ev_int (ev_name 17 rfl))).eq (m' := .val (.int l2)) (congrArg (fun i => M.val (.int i)) hl2))) ?_
  exact Ex.eq (ex_one (x1_for (iv_list (ev_lstF (ds := [l2, l2 + 1].map D.int) (ea_cons (ev_name 17 rfl) (ea_cons (ev_add (ev_name 17 rfl) ev_int) ea_nil)))) (near_loop h ns m tu p q vd sn rs es lo v (.bool (hopeD p rs q v)) (.str (pk v).shown) (.int l2) ok okq e eo ea [l2, l2 + 1] (fun y hy => by
    simp only [List.mem_cons, List.not_mem_nil, or_false] at hy
    rcases hy with rfl | rfl <;> omega) f cdv s H E)))
theorem again_loop (h : All K mg) (ns : List Int) (tu : Int) (p : PoolS) (q : QuS) (vd : D) (sn : Str) (rs : Rs) (g : Grow (mtch p.t) rs) (ok : PoolOk p) (okq : QuOk p.sheets.length q) : ∀ (j : Nat) (lo : Int) {B : Int} {m : M}, B + 20 * j ≤ 999000 → PenOk B m →
    ∃ m' : M, PenOk (B + 20 * j) m' ∧ Top0 P w K mg base nLaw sLaw fun X => ForR X (frT agS) (frB agS) (rangeD lo j) [vl (.scr ns), some (.own m), vl (.int tu), vl p.d, vl q.d, vl (sdD q.team), vl (.tup (q.rivals.map sdD)), vl (.int q.margin), vl vd, none, none, vl (.str sn), vl (dkD (resK rs)), vl (.lst ((allE rs (mtch p.t)).map sdD)), none, none, none, none, none, none] (.nx [vl (.scr ns), some (.own m'), vl (.int tu), vl p.d, vl q.d, vl (sdD q.team), vl (.tup (q.rivals.map sdD)), vl (.int q.margin), vl vd, none, none, vl (.str sn), vl (dkD (resK rs)), vl (.lst ((allE rs (mtch p.t)).map sdD)), none, none, none, none, none, none])
  | 0, lo, B, m, hB, hp => ⟨m, hp.mono (by simp), fun _ _ _ _ _ => .nil⟩
  | j + 1, lo, B, m, hB, hp => by
    have f1 : Fs1 K mg := h.toGs5.toFs1
    obtain ⟨l0, l1, nd, lb⟩ := ok.lvs
    have hn2 : (mtch p.t).length + 1 = p.t.leaves.length := by have z := note_len p.t []; rw [List.length_nil, Nat.zero_add] at z; exact z
    have alen : (allE rs (mtch p.t)).length = 2 ^ ((mtch p.t).length - rs.length) := allE_len nd g
    have ap : (2 : Nat) ^ ((mtch p.t).length - rs.length) ≤ 2 ^ 15 := Nat.pow_le_pow_right (by decide) (by omega)
    have ap0 : 0 < (2 : Nat) ^ ((mtch p.t).length - rs.length) := Nat.pow_pos (by decide)
    generalize hE : allE rs (mtch p.t) = es at *
    obtain ⟨de, m1, hz1, hde, hp1⟩ := ok_oneOf (P := P) (w := w) (base := base) f1 (by omega) hp (es.map sdD) (by rw [List.length_map]; omega) (by rw [List.length_map]; omega)
    obtain ⟨e, he, rfl⟩ := List.mem_map.mp hde
    obtain ⟨eo, ea⟩ := allE_end (okf p.t) (rs := rs) (by rw [hE]; exact he)
    have ve := end_ok ok eo
    obtain ⟨r, m2, hz2, r0, r1, hp2⟩ := ok_take (P := P) (w := w) (base := base) f1 (by omega) hp1 3 (by omega) (by omega)
    obtain ⟨v, m3, hp3, vv, val⟩ : ∃ (v : D) (m3 : M), PenOk (B + 20) m3 ∧ Vok 1000 5 v ∧ Top0 P w K mg base nLaw sLaw fun X => Ex1 X (stAt (frB agS) 1) [vl (.scr ns), some (.own m1), vl (.int tu), vl p.d, vl q.d, vl (sdD q.team), vl (.tup (q.rivals.map sdD)), vl (.int q.margin), vl vd, vl (.int lo), none, vl (.str sn), vl (dkD (resK rs)), vl (.lst (es.map sdD)), vl (sdD e), none, none, none, none, none] (.nx [vl (.scr ns), some (.own m3), vl (.int tu), vl p.d, vl q.d, vl (sdD q.team), vl (.tup (q.rivals.map sdD)), vl (.int q.margin), vl vd, vl (.int lo), vl v, vl (.str sn), vl (dkD (resK rs)), vl (.lst (es.map sdD)), vl (sdD e), none, none, none, none, none]) := by
      by_cases hr0 : 0 < r
      · refine ⟨sdD e, m2, hp2.mono (by omega), ve.mono (by omega) (by omega), fun f cdv s H E => ?_⟩
        have hn := scLaw.nd
        have hr := top_room nLaw "law" (defScope sLaw) s f cdv
        exact Ex1.eq (x1_set 10 (ev_ifT ((tv_gt (ev_call1 (pre := []) (post := [.int 3]) hz2 (hr.mono (by omega)) (ea_lend 1 rfl (ea_cons ev_int ea_nil)) rfl) ev_int).eq (decide_eq_true hr0)) (ev_name 14 rfl)))
      · obtain ⟨v, m3, hz3, vv, hp3⟩ := ok_bent (P := P) (w := w) (base := base) h.toGs5 1 (sdD e) 165 ve (by omega) (by omega) hp2
        refine ⟨v, m3, hp3.mono (by omega), vv.mono (by omega) (by omega), fun f cdv s H E => ?_⟩
        have hn := scLaw.nd
        have hr := top_room nLaw "law" (defScope sLaw) s f cdv
        exact Ex1.eq (x1_set 10 (ev_ifF ((tv_gt (ev_call1 (pre := []) (post := [.int 3]) hz2 (hr.mono (by omega)) (ea_lend 1 rfl (ea_cons ev_int ea_nil)) rfl) ev_int).eq (decide_eq_false hr0)) (ev_call1 (pre := []) (post := [sdD e]) hz3 (hr.mono (by omega)) (ea_lend 1 rfl (ea_cons (ev_name 14 rfl) ea_nil)) rfl)))
    obtain ⟨ld, rest⟩ := again_rest (P := P) (w := w) (base := base) h ns m3 tu p q vd sn rs g es lo ok okq e eo ea v vv
    obtain ⟨m', hp', fr⟩ := again_loop h ns tu p q vd sn rs g ok okq j (lo + 1) (B := B + 20) (m := m3) (by omega) hp3
    rw [hE] at fr
    refine ⟨m', hp'.mono (by omega), fun f cdv s H E => ?_⟩
    have hn0 := scLaw.nd
    have hr := top_room nLaw "law" (defScope sLaw) s f cdv
    suffices core : Ex (cxOf CX0 P w K mg base nLaw "law" (defScope sLaw) f cdv callerA [] s H E).nox (frB agS) [vl (.scr ns), some (.own m), vl (.int tu), vl p.d, vl q.d, vl (sdD q.team), vl (.tup (q.rivals.map sdD)), vl (.int q.margin), vl vd, vl (.int lo), none, vl (.str sn), vl (dkD (resK rs)), vl (.lst (es.map sdD)), none, none, none, none, none, none] (.nx [vl (.scr ns), some (.own m3), vl (.int tu), vl p.d, vl q.d, vl (sdD q.team), vl (.tup (q.rivals.map sdD)), vl (.int q.margin), vl vd, vl (.int lo), vl v, vl (.str sn), vl (dkD (resK rs)), vl (.lst (es.map sdD)), vl (sdD e), vl (.bool (hopeD p rs q v)), vl (.str (pk v).shown), vl ld, none, none]) from
      .nx (tg_name 9 (hn := hn0)) (Ex.eq (Ex.fgt 17 (Ex.fgt 16 (Ex.fgt 15 (Ex.fgt 14 (Ex.fgt 10 (Ex.fgt 9 core))))))) (fr f cdv s H E)
    have hn := hn0
    refine ex_cons (x1_set 14 (ev_call1 (pre := []) (post := [.lst (es.map sdD)]) hz1 (hr.mono (by omega)) (ea_lend 1 rfl (ea_cons (ev_name 13 rfl) ea_nil)) rfl)) ?_
    refine ex_cons (val f cdv s H E) ?_
    exact rest f cdv s H E
end
section
variable {P : Program} {w : World} {K : PySem.W.Frag} {mg : Str → Option Value} {base : Heap}
theorem turns (h : All K mg) (ns : List Int) : ∀ (n : Nat) (lo : Int), ∀ {B : Int} {m : M}, B + 2000 * n ≤ 900000 → PenOk B m →
    ∃ m' : M, Top0 P w K mg base nLaw sLaw fun X => ForR X (frT (stAt (defBody sLaw) 1)) turnB (rangeD lo n) [vl (.scr ns), some (.own m), none, none, none, none, none, none, none, none, none, none, none, none, none, none, none, none, none, none] (.nx [vl (.scr ns), some (.own m'), none, none, none, none, none, none, none, none, none, none, none, none, none, none, none, none, none, none])
  | 0, lo, B, m, hB, hp => ⟨m, fun _ _ _ _ _ => .nil⟩
  | n + 1, lo, B, m, hB, hp => by
    obtain ⟨p, m1, hz1, ok, hp1⟩ := ok_dpool (P := P) (w := w) (base := base) h.toFs6 8 5 (by omega) (by omega) (by omega) hp
    have sl := ok.sl
    obtain ⟨q, m2, hz2, okq, hp2⟩ := ok_dquest (P := P) (w := w) (base := base) h.toGs7 p p.sheets.length rfl (by omega) (by omega) (by omega) hp1
    have vT := team_ok okq.t (by omega)
    have vR := rivs_ok okq (by omega)
    have vq := quest_ok okq (by omega)
    have tl := okq.t.len
    have tb := okq.t.b
    have rl := okq.rl
    have qm := okq.m
    let ds0 : List D := [q.d, .tup [sdD q.team, .tup (q.rivals.map sdD), .int 201], .tup [sdD q.team, .tup (q.rivals.map sdD), .int (-200)], .tup [sdD q.team, .tup (q.rivals.map sdD), .bool true], .tup [sdD q.team, .tup [sdD q.team, sdD q.team, sdD q.team, sdD q.team, sdD q.team], .int 0]]
    let ds1 : List D := [.tup [sdD q.team, .tup (q.rivals.map sdD), .int 200], .tup [sdD q.team, .tup (q.rivals.map sdD), .int (-201)]]
    let ds2 : List D := [.tup [.int (q.team.getD 0 0), .tup (q.rivals.map sdD), .int q.margin], .tup [sdD q.team, .tup [.int 0], .int q.margin], .tup [.tup (q.team.map D.int ++ q.team.map D.int), .tup (q.rivals.map sdD), .int q.margin], .tup [sdD q.team, .tup (q.rivals.map sdD)]]
    obtain ⟨ds3, m3, hl3, hv3, hp3, lc⟩ := bents (P := P) (w := w) (base := base) h ns lo p q (.lst (ds0 ++ ds1 ++ ds2)) vq 12 0 (by omega) hp2
    let ds4 : List D := [.tup [sdD q.team, .lst (q.rivals.map sdD), .int q.margin], .none, .dK [] []]
    obtain ⟨l0, l1, nd, lb⟩ := ok.lvs
    have hn2 : (mtch p.t).length + 1 = p.t.leaves.length := by have z := note_len p.t []; rw [List.length_nil, Nat.zero_add] at z; exact z
    obtain ⟨rs, m4, hz4, g, hp4⟩ := ok_dres (P := P) (w := w) (base := base) h.toFs7 p.t (by omega) [sdD p.pts, .int p.bonus, .tup (p.sheets.map sdD)] 3 (by omega) (by omega) (by omega) hp3
    obtain ⟨m6, hp6, ags⟩ := again_loop (P := P) (w := w) (base := base) h ns lo p q (.lst (ds0 ++ ds1 ++ ds2 ++ ds3 ++ ds4)) (pk (.tup [p.d, dkD (resK rs), q.d])).shown rs g ok okq 8 0 (by omega) hp4
    obtain ⟨m', fr⟩ := turns h ns n (lo + 1) (B := B + 2000) (m := m6) (by omega) (hp6.mono (by omega))
    have hall : ∀ d ∈ ds0 ++ ds1 ++ ds2 ++ ds3 ++ ds4, Vok 3000 20 d := fun d hd => by
      have pr : ∀ x y z : D, Vok 300 2 x → Vok 300 2 y → Vok 300 2 z → Vok 3000 20 (.tup [x, y, z]) := fun x y z hx hy hz => (vok3 hx hy hz).mono (by omega) (by omega)
      have a : Vok 300 2 (sdD q.team) := vT.mono (by omega) (by omega)
      have b : Vok 300 2 (.tup (q.rivals.map sdD)) := vR.mono (by omega) (by omega)
      have io : ∀ i : Int, -1000 ≤ i → i ≤ 1000 → Vok 300 2 (.int i) := fun i h0 h1 => (int_okS h0 h1).mono (by omega) (by omega)
      have t5 : Vok 300 2 (.tup [sdD q.team, sdD q.team, sdD q.team, sdD q.team, sdD q.team]) := by
        have h1 := vT.wt
        refine Vok.tup (m := 1) (fun y hy => ?_) ?_ (fun y hy => ?_)
        · have e : y = sdD q.team := by simpa using hy
          rw [e]; exact vT.sh
        · rw [wL_cons, wL_cons, wL_cons, wL_cons, wL_cons, wL_nil]; omega
        · have e : y = sdD q.team := by simpa using hy
          rw [e]; exact vT.dp
      have tt2 : Vok 300 2 (.tup (q.team.map D.int ++ q.team.map D.int)) := by
        rw [← List.map_append]
        exact (vok_ints (e := q.team ++ q.team) fun x hx => by
          have : x ∈ q.team := (List.mem_append.mp hx).elim id id
          have := tb x this
          omega).mono (by rw [List.length_append]; omega) (by omega)
      have lr : Vok 300 2 (.lst (q.rivals.map sdD)) := (Vok.lst ((shwL_all _).mp vR.sh) (by rw [← wD_tup]; exact vR.wt) ((dL_le _ 1).mp (Nat.le_of_succ_le_succ (show dL (q.rivals.map sdD) + 1 ≤ 1 + 1 by rw [← dD_tup]; exact vR.dp)))).mono (by omega) (Nat.le_refl _)
      have z0 : Vok 300 2 (.tup [.int 0]) := ⟨by decide +kernel, by decide +kernel, by decide +kernel⟩
      have tr : Vok 300 2 (.bool true) := ⟨rfl, Nat.zero_le _, Nat.zero_le _⟩
      have g0 : Vok 300 2 (.int (q.team.getD 0 0)) := by
        have hlen : 0 < q.team.length := List.length_pos_iff.mpr okq.t.ne
        have hm : q.team.getD 0 0 ∈ q.team := by
          rw [List.getD_eq_getElem?_getD, List.getElem?_eq_getElem hlen]
          exact List.getElem_mem hlen
        have := tb _ hm
        exact io _ (by omega) (by omega)
      rw [List.mem_append, List.mem_append, List.mem_append, List.mem_append] at hd
      rcases hd with (((hd | hd) | hd) | hd) | hd
      · simp only [ds0, List.mem_cons, List.not_mem_nil, or_false] at hd
        rcases hd with rfl | rfl | rfl | rfl | rfl
        · exact vq.mono (by omega) (by omega)
        · exact pr _ _ _ a b (io _ (by omega) (by omega))
        · exact pr _ _ _ a b (io _ (by omega) (by omega))
        · exact pr _ _ _ a b tr
        · exact pr _ _ _ a t5 (io _ (by omega) (by omega))
      · simp only [ds1, List.mem_cons, List.not_mem_nil, or_false] at hd
        rcases hd with rfl | rfl
        · exact pr _ _ _ a b (io _ (by omega) (by omega))
        · exact pr _ _ _ a b (io _ (by omega) (by omega))
      · simp only [ds2, List.mem_cons, List.not_mem_nil, or_false] at hd
        rcases hd with rfl | rfl | rfl | rfl
        · exact pr _ _ _ g0 b (io _ (by omega) (by omega))
        · exact pr _ _ _ a z0 (io _ (by omega) (by omega))
        · exact pr _ _ _ tt2 b (io _ (by omega) (by omega))
        · exact (Vok.two a b).mono (by omega) (by omega)
      · exact (hv3 d hd).mono (by omega) (by omega)
      · simp only [ds4, List.mem_cons, List.not_mem_nil, or_false] at hd
        rcases hd with rfl | rfl | rfl
        · exact pr _ _ _ a lr (io _ (by omega) (by omega))
        · exact ⟨rfl, Nat.zero_le _, Nat.zero_le _⟩
        · exact ⟨by decide +kernel, by decide +kernel, by decide +kernel⟩
    refine ⟨m', fun f cdv s H E => ?_⟩
    have hn := scLaw.nd
    have ml := h.ml
    have mra := h.mra
    have mli := h.mli
    have mre := h.mre
    have szl := sizeLine_eq
    have hr := top_room nLaw "law" (defScope sLaw) s f cdv
    have hu := hr.units
    have vls := values_loop (P := P) (w := w) (base := base) h ns m3 lo p q (.lst (ds0 ++ ds1 ++ ds2 ++ ds3 ++ ds4)) ok _ hall f cdv s H E
    have vps : Vok 12100 18 (.tup [p.d, dkD (resK rs), q.d]) := (vok3 (A := 4000) (n := 17) (pool_ok ok) ((res_ok ok g).mono (by omega) (by omega)) (vq.mono (by omega) (by omega))).mono (by omega) (Nat.le_refl _)
    have vw : (pk (.tup [p.d, dkD (resK rs), q.d])).weight ≤ 12100 := vps.wt
    have vd : (pk (.tup [p.d, dkD (resK rs), q.d])).depth ≤ 18 := vps.dp
    have un : (callerA.deeper (envOfC "law" (defScope sLaw) s.heap.objs.size f cdv)).units + ((pk (.tup [p.d, dkD (resK rs), q.d])).depth + 1) < cLine := by
      have := hr.un
      omega
    have t0 : L2.atI (q.team.map D.int) 0 = some (.int (q.team.getD 0 0)) := by
      have hlen : 0 < q.team.length := List.length_pos_iff.mpr okq.t.ne
      exact atI_map (f := D.int) (xs := q.team) (i := 0) (by omega) (by omega) 0
    have tt : (q.team.map D.int).length + (q.team.map D.int).length ≤ sizeLine := by rw [List.length_map, szl]; omega
    have cA := ok_lendsA (P := P) (w := w) (base := base) h.toFs9 p.t l1 nd [sdD p.pts, .int p.bonus, .tup (p.sheets.map sdD)] rs g
    suffices core : Ex (cxOf CX0 P w K mg base nLaw "law" (defScope sLaw) f cdv callerA [] s H E).nox turnB [vl (.scr ns), some (.own m), vl (.int lo), none, none, none, none, none, none, none, none, none, none, none, none, none, none, none, none, none] (.nx [vl (.scr ns), some (.own m6), vl (.int lo), vl p.d, vl q.d, vl (sdD q.team), vl (.tup (q.rivals.map sdD)), vl (.int q.margin), vl (.lst (ds0 ++ ds1 ++ ds2 ++ ds3 ++ ds4)), none, none, vl (.str (pk (.tup [p.d, dkD (resK rs), q.d])).shown), vl (dkD (resK rs)), vl (.lst ((allE rs (mtch p.t)).map sdD)), none, none, none, none, none, none]) from
      .nx (tg_name 2) (Ex.eq (Ex.fgtL _ [vl (.scr ns), some (.own m6)] rfl core)) (fr f cdv s H E)
    refine ex_cons (x1_set 3 (ev_call1 (pre := []) (post := [.int 8, .int 5]) hz1 (hr.mono (by omega)) (ea_lend 1 rfl (ea_cons ev_int (ea_cons ev_int ea_nil))) rfl)) ?_
    refine ex_cons (x1_set 4 (ev_call1 (pre := []) (post := [p.d]) hz2 (hr.mono (by omega)) (ea_lend 1 rfl (ea_cons (ev_name 3 rfl) ea_nil)) rfl)) ?_
    refine ex_cons (x1_asgT (ev_name 4 rfl) (tg_tup (ds := [sdD q.team, .tup (q.rivals.map sdD), .int q.margin]) (tgs_cons (tg_name 5) (tgs_cons (tg_name 6) (tgs_cons (tg_name 7) tgs_nil))))) ?_
    refine ex_cons (x1_set 8 (ev_lstF (ds := ds0) (ea_cons (ev_name 4 rfl) (ea_cons (ev_tup (ds := [sdD q.team, .tup (q.rivals.map sdD), .int 201]) (ea_cons (ev_name 5 rfl) (ea_cons (ev_name 6 rfl) (ea_cons ev_int ea_nil)))) (ea_cons (ev_tup (ds := [sdD q.team, .tup (q.rivals.map sdD), .int (-200)]) (ea_cons (ev_name 5 rfl) (ea_cons (ev_name 6 rfl) (ea_cons (ev_neg ev_int) ea_nil)))) (ea_cons (ev_tup (ds := [sdD q.team, .tup (q.rivals.map sdD), .bool true]) (ea_cons (ev_name 5 rfl) (ea_cons (ev_name 6 rfl) (ea_cons ev_bool ea_nil)))) (ea_cons (ev_tup (ds := [sdD q.team, .tup [sdD q.team, sdD q.team, sdD q.team, sdD q.team, sdD q.team], .int 0]) (ea_cons (ev_name 5 rfl) (ea_cons (Ev.eq (ev_repT (ds := [sdD q.team]) (ev_tup (ds := [sdD q.team]) (ea_cons (ev_name 5 rfl) ea_nil)) ev_int (by decide) (by decide) (by simp) (by simp)) rfl) (ea_cons ev_int ea_nil)))) ea_nil))))) (hz := (by decide : (5 : Nat) ≤ 1000)))) ?_
    refine ex_cons (x1_set 8 (Ev.frzL (ds := ds0 ++ ds1) (ev_cat (ds := ds0) (es := ds1) (ev_name 8 rfl) (ev_lstF (ds := ds1) (ea_cons (ev_tup (ds := [sdD q.team, .tup (q.rivals.map sdD), .int 200]) (ea_cons (ev_name 5 rfl) (ea_cons (ev_name 6 rfl) (ea_cons ev_int ea_nil)))) (ea_cons (ev_tup (ds := [sdD q.team, .tup (q.rivals.map sdD), .int (-201)]) (ea_cons (ev_name 5 rfl) (ea_cons (ev_name 6 rfl) (ea_cons (ev_neg ev_int) ea_nil)))) ea_nil)) (hz := (by decide : (2 : Nat) ≤ 1000))) (by rw [szl]; show 5 + 2 ≤ _; omega)))) ?_
    refine ex_cons (x1_set 8 (Ev.frzL (ds := ds0 ++ ds1 ++ ds2) (ev_cat (ds := ds0 ++ ds1) (es := ds2) (ev_name 8 rfl) (ev_lstF (ds := ds2) (ea_cons (ev_tup (ds := [.int (q.team.getD 0 0), .tup (q.rivals.map sdD), .int q.margin]) (ea_cons (ev_ixT (ds := q.team.map D.int) (ev_name 5 rfl) ev_int t0) (ea_cons (ev_name 6 rfl) (ea_cons (ev_name 7 rfl) ea_nil)))) (ea_cons (ev_tup (ds := [sdD q.team, .tup [.int 0], .int q.margin]) (ea_cons (ev_name 5 rfl) (ea_cons (ev_tup (ds := [.int 0]) (ea_cons ev_int ea_nil)) (ea_cons (ev_name 7 rfl) ea_nil)))) (ea_cons (ev_tup (ds := [.tup (q.team.map D.int ++ q.team.map D.int), .tup (q.rivals.map sdD), .int q.margin]) (ea_cons (ev_catT (ds := q.team.map D.int) (es' := q.team.map D.int) (ev_name 5 rfl) (ev_name 5 rfl) tt) (ea_cons (ev_name 6 rfl) (ea_cons (ev_name 7 rfl) ea_nil)))) (ea_cons (Ev.eq (ev_slT (ds := [sdD q.team, .tup (q.rivals.map sdD), .int q.margin]) (ev_name 4 rfl) po_no (po_ev ev_int)) (congrArg (fun l => M.val (.tup l)) (cut_take [sdD q.team, .tup (q.rivals.map sdD), .int q.margin] 2))) ea_nil)))) (hz := (by decide : (4 : Nat) ≤ 1000))) (by rw [szl]; show 7 + 4 ≤ _; omega)))) ?_
    refine ex_cons (x1_set 8 (Ev.frzL (ds := ds0 ++ ds1 ++ ds2 ++ ds3 ++ ds4) (ev_cat (ds := ds0 ++ ds1 ++ ds2 ++ ds3) (es := ds4) (Ev.frzL (ds := ds0 ++ ds1 ++ ds2 ++ ds3) (ev_cat (ds := ds0 ++ ds1 ++ ds2) (es := ds3) (ev_name 8 rfl) (Ev.frzL (ev_lc (own := [("again", 9)]) (iv_range1 ev_int) (lc f cdv callerA [] s H E (hr.mono (by omega))) (bare1 rfl) (blkOk_by (N := nLaw) (sc := defScope sLaw) (by decide +kernel)) (by rw [rangeD_len, szl]; decide))) (by rw [hl3, szl]; show 11 + 12 ≤ _; omega))) (ev_lstF (ds := ds4) (ea_cons (ev_tup (ds := [sdD q.team, .lst (q.rivals.map sdD), .int q.margin]) (ea_cons (ev_name 5 rfl) (ea_cons (Ev.frzL (ev_listT (ds := q.rivals.map sdD) (ev_name 6 rfl))) (ea_cons (ev_name 7 rfl) ea_nil)))) (ea_cons ev_none (ea_cons (Ev.frzK (ks := []) (ds := []) ev_newK) ea_nil))) (hz := (by decide : (3 : Nat) ≤ 1000))) (by rw [List.length_append, hl3, szl]; show 11 + 12 + 3 ≤ _; omega)))) ?_
    refine ex_cons (x1_for (iv_list (ev_name 8 rfl)) vls) ?_
    refine ex_cons (x1_set 12 ((Ev.frz (ev_call1 (pre := []) (post := [p.d, .int 3]) hz4 (hr.mono (by omega)) (ea_lend 1 rfl (ea_cons (ev_name 3 rfl) (ea_cons ev_int ea_nil))) rfl)).eq (congrArg M.val (frz_dkM _)))) ?_
    refine ex_cons (x1_par 13 11 (em_cons (ev_call (ds := [p.d, dkD (resK rs)]) cA (hr.mono (by omega)) (ea_cons (ev_name 3 rfl) (ea_cons (ev_name 12 rfl) ea_nil))) (em_cons (ev_repr rfl (ev_tup (ds := [p.d, dkD (resK rs), q.d]) (ea_cons (ev_name 3 rfl) (ea_cons (ev_name 12 rfl) (ea_cons (ev_name 4 rfl) ea_nil)))) vps.sh (by omega) un) em_nil))) ?_
    refine ex_frz 13 rfl ?_
    rw [show frz (esM (allE rs (mtch p.t))) = (.lst ((allE rs (mtch p.t)).map sdD) : D) from frz_map sdD _]
    refine ex_cons (x1_for (iv_range1 ev_int) (ags f cdv s H E)) ?_
    exact Ex.eq (ex_one (x1_if (k := false) ((tv_neStr (ev_repr rfl (ev_tup (ds := [p.d, dkD (resK rs), q.d]) (ea_cons (ev_name 3 rfl) (ea_cons (ev_name 12 rfl) (ea_cons (ev_name 4 rfl) ea_nil)))) vps.sh (by omega) un) (ev_name 11 rfl)).eq (b' := false) (by rw [decide_eq_true rfl]; rfl)) (fun z => nomatch z) (fun _ => ex_nil)))
theorem ok_law (h : All K mg) {f : Addr} {fd : FuncData} (F : Fun K "law" "law" sLaw f fd) (bind : ∀ (s : Shared) (u : Value), BindsTo s fd ⟨[u], []⟩ [("script", u)]) : TopOk P w K mg base f := by
  refine top_of F scLaw bind fun ns _ f cdv s H E => ?_
  have mra := h.mra
  obtain ⟨m0, hz0, hp0⟩ := ok_open (P := P) (w := w) (base := base) h.toGs5.toFs1 ns
  obtain ⟨m', fr⟩ := turns (P := P) (w := w) (base := base) h ns 5 0 (by omega) hp0
  have hn := scLaw.nd
  have hr := top_room nLaw "law" (defScope sLaw) s f cdv
  apply Exists.intro
  show Ex _ (defBody sLaw) [vl (.scr ns), none, none, none, none, none, none, none, none, none, none, none, none, none, none, none, none, none, none, none] _
  refine ex_cons (x1_set 1 (ev_call (ds := [.scr ns]) hz0 (hr.mono (by omega)) (ea_cons (ev_name 0 rfl) ea_nil))) ?_
  refine ex_cons (x1_for (iv_range1 ev_int) (fr f cdv s H E)) ?_
  exact ex_stop (x1_ret ev_bool)
end
theorem all_mk {l : PySem.W.OpenLaw} {w : World} {K : PySem.W.Frag} {h : Heap} {mg : Str → Option Value} {fa f0 f1 f2 f3 f4 f5 f6 f7 f8 f9 f10 f11 f12 f13 f14 f15 f16 f17 f18 f19 f20 f21 f22 f23 f24 f25 f26 f27 f28 f29 f30 f31 f32 f33 f34 f35 f36 f37 f38 f39 f40 f41 : Addr} (X : K.In h) (G : h.Ns mainGlobals mg) (hfa : mg "law" = some (.ref fa))
    {od0 an0 od1 an1 od2 an2 od3 an3 od4 an4 od5 an5 od6 an6 od7 an7 od8 an8 od9 an9 od10 an10 od11 an11 od12 an12 od13 an13 od14 an14 od15 an15 od16 an16 od17 an17 od18 an18 od19 an19 od20 an20 od21 an21 od22 an22 od23 an23 od24 an24 od25 an25 od26 an26 od27 an27 od28 an28 od29 an29 od30 an30 od31 an31 od32 an32 od33 an33 od34 an34 od35 an35 od36 an36 od37 an37 od38 an38 od39 an39 od40 an40 od41 an41 : Option Addr} {sl0 sl1 sl2 sl3 sl4 sl5 sl6 sl7 sl8 sl9 sl10 sl11 sl12 sl13 sl14 sl15 sl16 sl17 sl18 sl19 sl20 sl21 sl22 sl23 sl24 sl25 sl26 sl27 sl28 sl29 sl30 sl31 sl32 sl33 sl34 sl35 sl36 sl37 sl38 sl39 sl40 sl41 : Array (Option Value)} {oc0 kV0 dc0 pm0 cd0 ct0 oc1 kV1 dc1 pm1 cd1 ct1 oc2 kV2 dc2 pm2 cd2 ct2 oc3 kV3 dc3 pm3 cd3 ct3 oc4 kV4 dc4 pm4 cd4 ct4 oc5 kV5 dc5 pm5 cd5 ct5 oc6 kV6 dc6 pm6 cd6 ct6 oc7 kV7 dc7 pm7 cd7 ct7 oc8 kV8 dc8 pm8 cd8 ct8 oc9 kV9 dc9 pm9 cd9 ct9 oc10 kV10 dc10 pm10 cd10 ct10 oc11 kV11 dc11 pm11 cd11 ct11 oc12 kV12 dc12 pm12 cd12 ct12 oc13 kV13 dc13 pm13 cd13 ct13 oc14 kV14 dc14 pm14 cd14 ct14 oc15 kV15 dc15 pm15 cd15 ct15 oc16 kV16 dc16 pm16 cd16 ct16 oc17 kV17 dc17 pm17 cd17 ct17 oc18 kV18 dc18 pm18 cd18 ct18 oc19 kV19 dc19 pm19 cd19 ct19 oc20 kV20 dc20 pm20 cd20 ct20 oc21 kV21 dc21 pm21 cd21 ct21 oc22 kV22 dc22 pm22 cd22 ct22 oc23 kV23 dc23 pm23 cd23 ct23 oc24 kV24 dc24 pm24 cd24 ct24 oc25 kV25 dc25 pm25 cd25 ct25 oc26 kV26 dc26 pm26 cd26 ct26 oc27 kV27 dc27 pm27 cd27 ct27 oc28 kV28 dc28 pm28 cd28 ct28 oc29 kV29 dc29 pm29 cd29 ct29 oc30 kV30 dc30 pm30 cd30 ct30 oc31 kV31 dc31 pm31 cd31 ct31 oc32 kV32 dc32 pm32 cd32 ct32 oc33 kV33 dc33 pm33 cd33 ct33 oc34 kV34 dc34 pm34 cd34 ct34 oc35 kV35 dc35 pm35 cd35 ct35 oc36 kV36 dc36 pm36 cd36 ct36 oc37 kV37 dc37 pm37 cd37 ct37 oc38 kV38 dc38 pm38 cd38 ct38 oc39 kV39 dc39 pm39 cd39 ct39 oc40 kV40 dc40 pm40 cd40 ct40 oc41 kV41 dc41 pm41 cd41 ct41 : Value}
    (a0 : PySem.W.nsIn K mainGlobals "is_int" = some (some (.ref f0))) (l0 : K.lookup f0 = some ⟨oc0, od0, .func (PySem.W.fnOf "is_int" "is_int" (defArgs sIsInt) (defBody sIsInt) (defScope sIsInt) .none kV0 dc0 pm0 an0 cd0 ct0), sl0⟩) (c0 : PySem.W.codeIn K cd0 "is_int" = true) (k0 : PySem.W.keepIn K (.ref f0) = true)
    (a1 : PySem.W.nsIn K mainGlobals "matches" = some (some (.ref f1))) (l1 : K.lookup f1 = some ⟨oc1, od1, .func (PySem.W.fnOf "matches" "matches" (defArgs sMatches) (defBody sMatches) (defScope sMatches) .none kV1 dc1 pm1 an1 cd1 ct1), sl1⟩) (c1 : PySem.W.codeIn K cd1 "matches" = true) (k1 : PySem.W.keepIn K (.ref f1) = true)
    (a2 : PySem.W.nsIn K mainGlobals "add_matches" = some (some (.ref f2))) (l2 : K.lookup f2 = some ⟨oc2, od2, .func (PySem.W.fnOf "add_matches" "add_matches" (defArgs sAdd) (defBody sAdd) (defScope sAdd) .none kV2 dc2 pm2 an2 cd2 ct2), sl2⟩) (c2 : PySem.W.codeIn K cd2 "add_matches" = true) (k2 : PySem.W.keepIn K (.ref f2) = true)
    (a3 : PySem.W.nsIn K mainGlobals "is_ending" = some (some (.ref f3))) (l3 : K.lookup f3 = some ⟨oc3, od3, .func (PySem.W.fnOf "is_ending" "is_ending" (defArgs sIsEnd) (defBody sIsEnd) (defScope sIsEnd) .none kV3 dc3 pm3 an3 cd3 ct3), sl3⟩) (c3 : PySem.W.codeIn K cd3 "is_ending" = true) (k3 : PySem.W.keepIn K (.ref f3) = true)
    (a4 : PySem.W.nsIn K mainGlobals "side_behind" = some (some (.ref f4))) (l4 : K.lookup f4 = some ⟨oc4, od4, .func (PySem.W.fnOf "side_behind" "side_behind" (defArgs sBehind) (defBody sBehind) (defScope sBehind) .none kV4 dc4 pm4 an4 cd4 ct4), sl4⟩) (c4 : PySem.W.codeIn K cd4 "side_behind" = true) (k4 : PySem.W.keepIn K (.ref f4) = true)
    (a5 : PySem.W.nsIn K mainGlobals "worth_of" = some (some (.ref f5))) (l5 : K.lookup f5 = some ⟨oc5, od5, .func (PySem.W.fnOf "worth_of" "worth_of" (defArgs sWorth) (defBody sWorth) (defScope sWorth) .none kV5 dc5 pm5 an5 cd5 ct5), sl5⟩) (c5 : PySem.W.codeIn K cd5 "worth_of" = true) (k5 : PySem.W.keepIn K (.ref f5) = true)
    (a6 : PySem.W.nsIn K mainGlobals "scores" = some (some (.ref f6))) (l6 : K.lookup f6 = some ⟨oc6, od6, .func (PySem.W.fnOf "scores" "scores" (defArgs sScores) (defBody sScores) (defScope sScores) .none kV6 dc6 pm6 an6 cd6 ct6), sl6⟩) (c6 : PySem.W.codeIn K cd6 "scores" = true) (k6 : PySem.W.keepIn K (.ref f6) = true)
    (a7 : PySem.W.nsIn K mainGlobals "is_within" = some (some (.ref f7))) (l7 : K.lookup f7 = some ⟨oc7, od7, .func (PySem.W.fnOf "is_within" "is_within" (defArgs sWithin) (defBody sWithin) (defScope sWithin) .none kV7 dc7 pm7 an7 cd7 ct7), sl7⟩) (c7 : PySem.W.codeIn K cd7 "is_within" = true) (k7 : PySem.W.keepIn K (.ref f7) = true)
    (a8 : PySem.W.nsIn K mainGlobals "is_question" = some (some (.ref f8))) (l8 : K.lookup f8 = some ⟨oc8, od8, .func (PySem.W.fnOf "is_question" "is_question" (defArgs sQuest) (defBody sQuest) (defScope sQuest) .none kV8 dc8 pm8 an8 cd8 ct8), sl8⟩) (c8 : PySem.W.codeIn K cd8 "is_question" = true) (k8 : PySem.W.keepIn K (.ref f8) = true)
    (a9 : PySem.W.nsIn K mainGlobals "is_team" = some (some (.ref f9))) (l9 : K.lookup f9 = some ⟨oc9, od9, .func (PySem.W.fnOf "is_team" "is_team" (defArgs sTeam) (defBody sTeam) (defScope sTeam) .none kV9 dc9 pm9 an9 cd9 ct9), sl9⟩) (c9 : PySem.W.codeIn K cd9 "is_team" = true) (k9 : PySem.W.keepIn K (.ref f9) = true)
    (a10 : PySem.W.nsIn K mainGlobals "is_hope" = some (some (.ref f10))) (l10 : K.lookup f10 = some ⟨oc10, od10, .func (PySem.W.fnOf "is_hope" "is_hope" (defArgs sHope) (defBody sHope) (defScope sHope) .none kV10 dc10 pm10 an10 cd10 ct10), sl10⟩) (c10 : PySem.W.codeIn K cd10 "is_hope" = true) (k10 : PySem.W.keepIn K (.ref f10) = true)
    (a11 : PySem.W.nsIn K mainGlobals "reaches" = some (some (.ref f11))) (l11 : K.lookup f11 = some ⟨oc11, od11, .func (PySem.W.fnOf "reaches" "reaches" (defArgs sReach) (defBody sReach) (defScope sReach) .none kV11 dc11 pm11 an11 cd11 ct11), sl11⟩) (c11 : PySem.W.codeIn K cd11 "reaches" = true) (k11 : PySem.W.keepIn K (.ref f11) = true)
    (a12 : PySem.W.nsIn K mainGlobals "points_of" = some (some (.ref f12))) (l12 : K.lookup f12 = some ⟨oc12, od12, .func (PySem.W.fnOf "points_of" "points_of" (defArgs sPoints) (defBody sPoints) (defScope sPoints) .none kV12 dc12 pm12 an12 cd12 ct12), sl12⟩) (c12 : PySem.W.codeIn K cd12 "points_of" = true) (k12 : PySem.W.keepIn K (.ref f12) = true)
    (a13 : PySem.W.nsIn K mainGlobals "_law_open" = some (some (.ref f13))) (l13 : K.lookup f13 = some ⟨oc13, od13, .func (PySem.W.fnOf "_law_open" "_law_open" (defArgs sOpen) (defBody sOpen) (defScope sOpen) .none kV13 dc13 pm13 an13 cd13 ct13), sl13⟩) (c13 : PySem.W.codeIn K cd13 "_law_open" = true) (k13 : PySem.W.keepIn K (.ref f13) = true)
    (a14 : PySem.W.nsIn K mainGlobals "_law_spread" = some (some (.ref f14))) (l14 : K.lookup f14 = some ⟨oc14, od14, .func (PySem.W.fnOf "_law_spread" "_law_spread" (defArgs sSpread) (defBody sSpread) (defScope sSpread) .none kV14 dc14 pm14 an14 cd14 ct14), sl14⟩) (c14 : PySem.W.codeIn K cd14 "_law_spread" = true) (k14 : PySem.W.keepIn K (.ref f14) = true)
    (a15 : PySem.W.nsIn K mainGlobals "_law_take" = some (some (.ref f15))) (l15 : K.lookup f15 = some ⟨oc15, od15, .func (PySem.W.fnOf "_law_take" "_law_take" (defArgs sTake) (defBody sTake) (defScope sTake) .none kV15 dc15 pm15 an15 cd15 ct15), sl15⟩) (c15 : PySem.W.codeIn K cd15 "_law_take" = true) (k15 : PySem.W.keepIn K (.ref f15) = true)
    (a16 : PySem.W.nsIn K mainGlobals "_law_same" = some (some (.ref f16))) (l16 : K.lookup f16 = some ⟨oc16, od16, .func (PySem.W.fnOf "_law_same" "_law_same" (defArgs sSame) (defBody sSame) (defScope sSame) .none kV16 dc16 pm16 an16 cd16 ct16), sl16⟩) (c16 : PySem.W.codeIn K cd16 "_law_same" = true) (k16 : PySem.W.keepIn K (.ref f16) = true)
    (a17 : PySem.W.nsIn K mainGlobals "_law_one_of" = some (some (.ref f17))) (l17 : K.lookup f17 = some ⟨oc17, od17, .func (PySem.W.fnOf "_law_one_of" "_law_one_of" (defArgs sOneOf) (defBody sOneOf) (defScope sOneOf) .none kV17 dc17 pm17 an17 cd17 ct17), sl17⟩) (c17 : PySem.W.codeIn K cd17 "_law_one_of" = true) (k17 : PySem.W.keepIn K (.ref f17) = true)
    (a18 : PySem.W.nsIn K mainGlobals "_law_between" = some (some (.ref f18))) (l18 : K.lookup f18 = some ⟨oc18, od18, .func (PySem.W.fnOf "_law_between" "_law_between" (defArgs sBetween) (defBody sBetween) (defScope sBetween) .none kV18 dc18 pm18 an18 cd18 ct18), sl18⟩) (c18 : PySem.W.codeIn K cd18 "_law_between" = true) (k18 : PySem.W.keepIn K (.ref f18) = true)
    (a19 : PySem.W.nsIn K mainGlobals "_law_grown" = some (some (.ref f19))) (l19 : K.lookup f19 = some ⟨oc19, od19, .func (PySem.W.fnOf "_law_grown" "_law_grown" (defArgs sGrown) (defBody sGrown) (defScope sGrown) .none kV19 dc19 pm19 an19 cd19 ct19), sl19⟩) (c19 : PySem.W.codeIn K cd19 "_law_grown" = true) (k19 : PySem.W.keepIn K (.ref f19) = true)
    (a20 : PySem.W.nsIn K mainGlobals "_law_draw_tree" = some (some (.ref f20))) (l20 : K.lookup f20 = some ⟨oc20, od20, .func (PySem.W.fnOf "_law_draw_tree" "_law_draw_tree" (defArgs sDraw) (defBody sDraw) (defScope sDraw) .none kV20 dc20 pm20 an20 cd20 ct20), sl20⟩) (c20 : PySem.W.codeIn K cd20 "_law_draw_tree" = true) (k20 : PySem.W.keepIn K (.ref f20) = true)
    (a21 : PySem.W.nsIn K mainGlobals "_law_note" = some (some (.ref f21))) (l21 : K.lookup f21 = some ⟨oc21, od21, .func (PySem.W.fnOf "_law_note" "_law_note" (defArgs sNote) (defBody sNote) (defScope sNote) .none kV21 dc21 pm21 an21 cd21 ct21), sl21⟩) (c21 : PySem.W.codeIn K cd21 "_law_note" = true) (k21 : PySem.W.keepIn K (.ref f21) = true)
    (a22 : PySem.W.nsIn K mainGlobals "_law_matches" = some (some (.ref f22))) (l22 : K.lookup f22 = some ⟨oc22, od22, .func (PySem.W.fnOf "_law_matches" "_law_matches" (defArgs sLMatches) (defBody sLMatches) (defScope sLMatches) .none kV22 dc22 pm22 an22 cd22 ct22), sl22⟩) (c22 : PySem.W.codeIn K cd22 "_law_matches" = true) (k22 : PySem.W.keepIn K (.ref f22) = true)
    (a23 : PySem.W.nsIn K mainGlobals "_law_sides" = some (some (.ref f23))) (l23 : K.lookup f23 = some ⟨oc23, od23, .func (PySem.W.fnOf "_law_sides" "_law_sides" (defArgs sLSides) (defBody sLSides) (defScope sLSides) .none kV23 dc23 pm23 an23 cd23 ct23), sl23⟩) (c23 : PySem.W.codeIn K cd23 "_law_sides" = true) (k23 : PySem.W.keepIn K (.ref f23) = true)
    (a24 : PySem.W.nsIn K mainGlobals "_law_side" = some (some (.ref f24))) (l24 : K.lookup f24 = some ⟨oc24, od24, .func (PySem.W.fnOf "_law_side" "_law_side" (defArgs sLSide) (defBody sLSide) (defScope sLSide) .none kV24 dc24 pm24 an24 cd24 ct24), sl24⟩) (c24 : PySem.W.codeIn K cd24 "_law_side" = true) (k24 : PySem.W.keepIn K (.ref f24) = true)
    (a25 : PySem.W.nsIn K mainGlobals "_law_draw_sheet" = some (some (.ref f25))) (l25 : K.lookup f25 = some ⟨oc25, od25, .func (PySem.W.fnOf "_law_draw_sheet" "_law_draw_sheet" (defArgs sDSheet) (defBody sDSheet) (defScope sDSheet) .none kV25 dc25 pm25 an25 cd25 ct25), sl25⟩) (c25 : PySem.W.codeIn K cd25 "_law_draw_sheet" = true) (k25 : PySem.W.keepIn K (.ref f25) = true)
    (a26 : PySem.W.nsIn K mainGlobals "_law_draw_pool" = some (some (.ref f26))) (l26 : K.lookup f26 = some ⟨oc26, od26, .func (PySem.W.fnOf "_law_draw_pool" "_law_draw_pool" (defArgs sDPool) (defBody sDPool) (defScope sDPool) .none kV26 dc26 pm26 an26 cd26 ct26), sl26⟩) (c26 : PySem.W.codeIn K cd26 "_law_draw_pool" = true) (k26 : PySem.W.keepIn K (.ref f26) = true)
    (a27 : PySem.W.nsIn K mainGlobals "_law_draw_results" = some (some (.ref f27))) (l27 : K.lookup f27 = some ⟨oc27, od27, .func (PySem.W.fnOf "_law_draw_results" "_law_draw_results" (defArgs sDRes) (defBody sDRes) (defScope sDRes) .none kV27 dc27 pm27 an27 cd27 ct27), sl27⟩) (c27 : PySem.W.codeIn K cd27 "_law_draw_results" = true) (k27 : PySem.W.keepIn K (.ref f27) = true)
    (a28 : PySem.W.nsIn K mainGlobals "_law_endings" = some (some (.ref f28))) (l28 : K.lookup f28 = some ⟨oc28, od28, .func (PySem.W.fnOf "_law_endings" "_law_endings" (defArgs sLEnds) (defBody sLEnds) (defScope sLEnds) .none kV28 dc28 pm28 an28 cd28 ct28), sl28⟩) (c28 : PySem.W.codeIn K cd28 "_law_endings" = true) (k28 : PySem.W.keepIn K (.ref f28) = true)
    (a29 : PySem.W.nsIn K mainGlobals "_law_is_ending" = some (some (.ref f29))) (l29 : K.lookup f29 = some ⟨oc29, od29, .func (PySem.W.fnOf "_law_is_ending" "_law_is_ending" (defArgs sLIsEnd) (defBody sLIsEnd) (defScope sLIsEnd) .none kV29 dc29 pm29 an29 cd29 ct29), sl29⟩) (c29 : PySem.W.codeIn K cd29 "_law_is_ending" = true) (k29 : PySem.W.keepIn K (.ref f29) = true)
    (a30 : PySem.W.nsIn K mainGlobals "_law_points" = some (some (.ref f30))) (l30 : K.lookup f30 = some ⟨oc30, od30, .func (PySem.W.fnOf "_law_points" "_law_points" (defArgs sLPoints) (defBody sLPoints) (defScope sLPoints) .none kV30 dc30 pm30 an30 cd30 ct30), sl30⟩) (c30 : PySem.W.codeIn K cd30 "_law_points" = true) (k30 : PySem.W.keepIn K (.ref f30) = true)
    (a31 : PySem.W.nsIn K mainGlobals "_law_scores" = some (some (.ref f31))) (l31 : K.lookup f31 = some ⟨oc31, od31, .func (PySem.W.fnOf "_law_scores" "_law_scores" (defArgs sLScores) (defBody sLScores) (defScope sLScores) .none kV31 dc31 pm31 an31 cd31 ct31), sl31⟩) (c31 : PySem.W.codeIn K cd31 "_law_scores" = true) (k31 : PySem.W.keepIn K (.ref f31) = true)
    (a32 : PySem.W.nsIn K mainGlobals "_law_team_sum" = some (some (.ref f32))) (l32 : K.lookup f32 = some ⟨oc32, od32, .func (PySem.W.fnOf "_law_team_sum" "_law_team_sum" (defArgs sTSum) (defBody sTSum) (defScope sTSum) .none kV32 dc32 pm32 an32 cd32 ct32), sl32⟩) (c32 : PySem.W.codeIn K cd32 "_law_team_sum" = true) (k32 : PySem.W.keepIn K (.ref f32) = true)
    (a33 : PySem.W.nsIn K mainGlobals "_law_lead" = some (some (.ref f33))) (l33 : K.lookup f33 = some ⟨oc33, od33, .func (PySem.W.fnOf "_law_lead" "_law_lead" (defArgs sLead) (defBody sLead) (defScope sLead) .none kV33 dc33 pm33 an33 cd33 ct33), sl33⟩) (c33 : PySem.W.codeIn K cd33 "_law_lead" = true) (k33 : PySem.W.keepIn K (.ref f33) = true)
    (a34 : PySem.W.nsIn K mainGlobals "_law_hopes" = some (some (.ref f34))) (l34 : K.lookup f34 = some ⟨oc34, od34, .func (PySem.W.fnOf "_law_hopes" "_law_hopes" (defArgs sHopes) (defBody sHopes) (defScope sHopes) .none kV34 dc34 pm34 an34 cd34 ct34), sl34⟩) (c34 : PySem.W.codeIn K cd34 "_law_hopes" = true) (k34 : PySem.W.keepIn K (.ref f34) = true)
    (a35 : PySem.W.nsIn K mainGlobals "_law_draw_team" = some (some (.ref f35))) (l35 : K.lookup f35 = some ⟨oc35, od35, .func (PySem.W.fnOf "_law_draw_team" "_law_draw_team" (defArgs sDTeam) (defBody sDTeam) (defScope sDTeam) .none kV35 dc35 pm35 an35 cd35 ct35), sl35⟩) (c35 : PySem.W.codeIn K cd35 "_law_draw_team" = true) (k35 : PySem.W.keepIn K (.ref f35) = true)
    (a36 : PySem.W.nsIn K mainGlobals "_law_draw_question" = some (some (.ref f36))) (l36 : K.lookup f36 = some ⟨oc36, od36, .func (PySem.W.fnOf "_law_draw_question" "_law_draw_question" (defArgs sDQuest) (defBody sDQuest) (defScope sDQuest) .none kV36 dc36 pm36 an36 cd36 ct36), sl36⟩) (c36 : PySem.W.codeIn K cd36 "_law_draw_question" = true) (k36 : PySem.W.keepIn K (.ref f36) = true)
    (a37 : PySem.W.nsIn K mainGlobals "_law_is_team" = some (some (.ref f37))) (l37 : K.lookup f37 = some ⟨oc37, od37, .func (PySem.W.fnOf "_law_is_team" "_law_is_team" (defArgs sLTeam) (defBody sLTeam) (defScope sLTeam) .none kV37 dc37 pm37 an37 cd37 ct37), sl37⟩) (c37 : PySem.W.codeIn K cd37 "_law_is_team" = true) (k37 : PySem.W.keepIn K (.ref f37) = true)
    (a38 : PySem.W.nsIn K mainGlobals "_law_is_question" = some (some (.ref f38))) (l38 : K.lookup f38 = some ⟨oc38, od38, .func (PySem.W.fnOf "_law_is_question" "_law_is_question" (defArgs sLQuest) (defBody sLQuest) (defScope sLQuest) .none kV38 dc38 pm38 an38 cd38 ct38), sl38⟩) (c38 : PySem.W.codeIn K cd38 "_law_is_question" = true) (k38 : PySem.W.keepIn K (.ref f38) = true)
    (a39 : PySem.W.nsIn K mainGlobals "_law_odd" = some (some (.ref f39))) (l39 : K.lookup f39 = some ⟨oc39, od39, .func (PySem.W.fnOf "_law_odd" "_law_odd" (defArgs sOdd) (defBody sOdd) (defScope sOdd) .none kV39 dc39 pm39 an39 cd39 ct39), sl39⟩) (c39 : PySem.W.codeIn K cd39 "_law_odd" = true) (k39 : PySem.W.keepIn K (.ref f39) = true)
    (a40 : PySem.W.nsIn K mainGlobals "_law_bent" = some (some (.ref f40))) (l40 : K.lookup f40 = some ⟨oc40, od40, .func (PySem.W.fnOf "_law_bent" "_law_bent" (defArgs sBent) (defBody sBent) (defScope sBent) .none kV40 dc40 pm40 an40 cd40 ct40), sl40⟩) (c40 : PySem.W.codeIn K cd40 "_law_bent" = true) (k40 : PySem.W.keepIn K (.ref f40) = true)
    (a41 : PySem.W.nsIn K mainGlobals "law" = some (some (.ref f41))) (l41 : K.lookup f41 = some ⟨oc41, od41, .func (PySem.W.fnOf "law" "law" (defArgs sLaw) (defBody sLaw) (defScope sLaw) .none kV41 dc41 pm41 an41 cd41 ct41), sl41⟩) (c41 : PySem.W.codeIn K cd41 "law" = true) (k41 : PySem.W.keepIn K (.ref f41) = true)
    {t0 : Tok} (n0 : PySem.W.nsIn K mainGlobals "MOST_RIVALS" = some (some (.int 4 t0)))
    {t1 : Tok} (n1 : PySem.W.nsIn K mainGlobals "MOST_MARGIN" = some (some (.int 200 t1)))
    (z_int : PySem.W.nsIn K mainGlobals "int" = some none)
    (z_len : PySem.W.nsIn K mainGlobals "len" = some none)
    (z_list : PySem.W.nsIn K mainGlobals "list" = some none)
    (z_enumerate : PySem.W.nsIn K mainGlobals "enumerate" = some none)
    (z_range : PySem.W.nsIn K mainGlobals "range" = some none)
    (z_isinstance : PySem.W.nsIn K mainGlobals "isinstance" = some none)
    (z_tuple : PySem.W.nsIn K mainGlobals "tuple" = some none)
    (z_sorted : PySem.W.nsIn K mainGlobals "sorted" = some none)
    (z_bool : PySem.W.nsIn K mainGlobals "bool" = some none)
    (z_str : PySem.W.nsIn K mainGlobals "str" = some none)
    (z_zip : PySem.W.nsIn K mainGlobals "zip" = some none)
    (z_all : PySem.W.nsIn K mainGlobals "all" = some none)
    (z_dict : PySem.W.nsIn K mainGlobals "dict" = some none)
    (z_sum : PySem.W.nsIn K mainGlobals "sum" = some none)
    (z_set : PySem.W.nsIn K mainGlobals "set" = some none)
    (z_min : PySem.W.nsIn K mainGlobals "min" = some none)
    (z_max : PySem.W.nsIn K mainGlobals "max" = some none)
    (z_repr : PySem.W.nsIn K mainGlobals "repr" = some none)
    : ∀ base : Heap, K.In base → base.Ns mainGlobals mg → TopOk l.prog w K mg base fa := by
  have e := hfa.symm.trans (PySem.W.mg_of X G a41)
  cases e
  have A : All K mg :=
    { mi := PySem.W.mg_none_of X G z_int,
      ml := PySem.W.mg_none_of X G z_len,
      mli := PySem.W.mg_none_of X G z_list,
      men := PySem.W.mg_none_of X G z_enumerate,
      mra := PySem.W.mg_none_of X G z_range,
      mis := PySem.W.mg_none_of X G z_isinstance,
      mtu := PySem.W.mg_none_of X G z_tuple,
      mso := PySem.W.mg_none_of X G z_sorted,
      mbo := PySem.W.mg_none_of X G z_bool,
      mst := PySem.W.mg_none_of X G z_str,
      mzi := PySem.W.mg_none_of X G z_zip,
      mall := PySem.W.mg_none_of X G z_all,
      mdi := PySem.W.mg_none_of X G z_dict,
      msum := PySem.W.mg_none_of X G z_sum,
      mse := PySem.W.mg_none_of X G z_set,
      mmin := PySem.W.mg_none_of X G z_min,
      mmax := PySem.W.mg_none_of X G z_max,
      mre := PySem.W.mg_none_of X G z_repr,
      fIsInt := Df.mk l0 c0 k0 (fun _ _ _ _ _ _ us hl => match us, hl with | [_], _ => rfl) (PySem.W.mg_of X G a0),
      fMatches := Df.mk l1 c1 k1 (fun _ _ _ _ _ _ us hl => match us, hl with | [_], _ => rfl) (PySem.W.mg_of X G a1),
      fAdd := Df.mk l2 c2 k2 (fun _ _ _ _ _ _ us hl => match us, hl with | [_, _], _ => rfl) (PySem.W.mg_of X G a2),
      fIsEnd := Df.mk l3 c3 k3 (fun _ _ _ _ _ _ us hl => match us, hl with | [_, _, _], _ => rfl) (PySem.W.mg_of X G a3),
      fBehind := Df.mk l4 c4 k4 (fun _ _ _ _ _ _ us hl => match us, hl with | [_, _], _ => rfl) (PySem.W.mg_of X G a4),
      fWorth := Df.mk l5 c5 k5 (fun _ _ _ _ _ _ us hl => match us, hl with | [_, _, _, _], _ => rfl) (PySem.W.mg_of X G a5),
      fScores := Df.mk l6 c6 k6 (fun _ _ _ _ _ _ us hl => match us, hl with | [_, _], _ => rfl) (PySem.W.mg_of X G a6),
      fWithin := Df.mk l7 c7 k7 (fun _ _ _ _ _ _ us hl => match us, hl with | [_, _, _], _ => rfl) (PySem.W.mg_of X G a7),
      fQuest := Df.mk l8 c8 k8 (fun _ _ _ _ _ _ us hl => match us, hl with | [_, _], _ => rfl) (PySem.W.mg_of X G a8),
      fTeam := Df.mk l9 c9 k9 (fun _ _ _ _ _ _ us hl => match us, hl with | [_, _], _ => rfl) (PySem.W.mg_of X G a9),
      fHope := Df.mk l10 c10 k10 (fun _ _ _ _ _ _ us hl => match us, hl with | [_, _, _, _], _ => rfl) (PySem.W.mg_of X G a10),
      fReach := Df.mk l11 c11 k11 (fun _ _ _ _ _ _ us hl => match us, hl with | [_, _], _ => rfl) (PySem.W.mg_of X G a11),
      fPoints := Df.mk l12 c12 k12 (fun _ _ _ _ _ _ us hl => match us, hl with | [_, _], _ => rfl) (PySem.W.mg_of X G a12),
      fOpen := Df.mk l13 c13 k13 (fun _ _ _ _ _ _ us hl => match us, hl with | [_], _ => rfl) (PySem.W.mg_of X G a13),
      fSpread := Df.mk l14 c14 k14 (fun _ _ _ _ _ _ us hl => match us, hl with | [_, _], _ => rfl) (PySem.W.mg_of X G a14),
      fTake := Df.mk l15 c15 k15 (fun _ _ _ _ _ _ us hl => match us, hl with | [_, _], _ => rfl) (PySem.W.mg_of X G a15),
      fSame := Df.mk l16 c16 k16 (fun _ _ _ _ _ _ us hl => match us, hl with | [_, _], _ => rfl) (PySem.W.mg_of X G a16),
      fOneOf := Df.mk l17 c17 k17 (fun _ _ _ _ _ _ us hl => match us, hl with | [_, _], _ => rfl) (PySem.W.mg_of X G a17),
      fBetween := Df.mk l18 c18 k18 (fun _ _ _ _ _ _ us hl => match us, hl with | [_, _, _], _ => rfl) (PySem.W.mg_of X G a18),
      fGrown := Df.mk l19 c19 k19 (fun _ _ _ _ _ _ us hl => match us, hl with | [_, _, _], _ => rfl) (PySem.W.mg_of X G a19),
      fDraw := Df.mk l20 c20 k20 (fun _ _ _ _ _ _ us hl => match us, hl with | [_, _], _ => rfl) (PySem.W.mg_of X G a20),
      fNote := Df.mk l21 c21 k21 (fun _ _ _ _ _ _ us hl => match us, hl with | [_, _], _ => rfl) (PySem.W.mg_of X G a21),
      fLMatches := Df.mk l22 c22 k22 (fun _ _ _ _ _ _ us hl => match us, hl with | [_], _ => rfl) (PySem.W.mg_of X G a22),
      fLSides := Df.mk l23 c23 k23 (fun _ _ _ _ _ _ us hl => match us, hl with | [_], _ => rfl) (PySem.W.mg_of X G a23),
      fLSide := Df.mk l24 c24 k24 (fun _ _ _ _ _ _ us hl => match us, hl with | [_, _], _ => rfl) (PySem.W.mg_of X G a24),
      fDSheet := Df.mk l25 c25 k25 (fun _ _ _ _ _ _ us hl => match us, hl with | [_, _], _ => rfl) (PySem.W.mg_of X G a25),
      fDPool := Df.mk l26 c26 k26 (fun _ _ _ _ _ _ us hl => match us, hl with | [_, _, _], _ => rfl) (PySem.W.mg_of X G a26),
      fDRes := Df.mk l27 c27 k27 (fun _ _ _ _ _ _ us hl => match us, hl with | [_, _, _], _ => rfl) (PySem.W.mg_of X G a27),
      fLEnds := Df.mk l28 c28 k28 (fun _ _ _ _ _ _ us hl => match us, hl with | [_, _], _ => rfl) (PySem.W.mg_of X G a28),
      fLIsEnd := Df.mk l29 c29 k29 (fun _ _ _ _ _ _ us hl => match us, hl with | [_, _, _], _ => rfl) (PySem.W.mg_of X G a29),
      fLPoints := Df.mk l30 c30 k30 (fun _ _ _ _ _ _ us hl => match us, hl with | [_, _, _, _], _ => rfl) (PySem.W.mg_of X G a30),
      fLScores := Df.mk l31 c31 k31 (fun _ _ _ _ _ _ us hl => match us, hl with | [_, _], _ => rfl) (PySem.W.mg_of X G a31),
      fTSum := Df.mk l32 c32 k32 (fun _ _ _ _ _ _ us hl => match us, hl with | [_, _], _ => rfl) (PySem.W.mg_of X G a32),
      fLead := Df.mk l33 c33 k33 (fun _ _ _ _ _ _ us hl => match us, hl with | [_, _], _ => rfl) (PySem.W.mg_of X G a33),
      fHopes := Df.mk l34 c34 k34 (fun _ _ _ _ _ _ us hl => match us, hl with | [_, _, _], _ => rfl) (PySem.W.mg_of X G a34),
      fDTeam := Df.mk l35 c35 k35 (fun _ _ _ _ _ _ us hl => match us, hl with | [_, _], _ => rfl) (PySem.W.mg_of X G a35),
      fDQuest := Df.mk l36 c36 k36 (fun _ _ _ _ _ _ us hl => match us, hl with | [_, _], _ => rfl) (PySem.W.mg_of X G a36),
      fLTeam := Df.mk l37 c37 k37 (fun _ _ _ _ _ _ us hl => match us, hl with | [_, _], _ => rfl) (PySem.W.mg_of X G a37),
      fLQuest := Df.mk l38 c38 k38 (fun _ _ _ _ _ _ us hl => match us, hl with | [_, _], _ => rfl) (PySem.W.mg_of X G a38),
      fOdd := Df.mk l39 c39 k39 (fun _ _ _ _ _ _ us hl => match us, hl with | [_], _ => rfl) (PySem.W.mg_of X G a39),
      fBent := Df.mk l40 c40 k40 (fun _ _ _ _ _ _ us hl => match us, hl with | [_, _], _ => rfl) (PySem.W.mg_of X G a40),
      cRiv := ⟨_, PySem.W.mg_of X G n0⟩,
      cMar := ⟨_, PySem.W.mg_of X G n1⟩,
      ki := kits_all K,
      kII := (kits_all K).g "int" "int" true (by decide),
      kTI := (kits_all K).g "tuple" "int" false (by decide) }
  exact fun base _ _ => ok_law A (fun_mk (st := sLaw) l41 c41 k41) (fun s v => .of_eq rfl)
end K10
open PySem PySem.W PyProof.Rows
set_option maxRecDepth 100000 in
set_option maxHeartbeats 0 in
theorem PySem.Challenge.cw_poolhopes_k10_questions_and_hopes_recogn_holds : PySem.Challenge.rw_poolhopes_k10_questions_and_hopes_recogn.Holds := by
  w_on; o_law; k_head; (case hw => w_witness2)
  k_fill
  refine Lin.walk_top (l := PySem.Challenge.rw_poolhopes_k10_questions_and_hopes_recogn) rfl rfl (fun w h Y => PySem.W.kIn_of Y) ?F
  case F =>
    intro w mg fa h KX G hmg
    refine' K10.all_mk KX G hmg ?a0 ?l0 ?c0 ?k0 ?a1 ?l1 ?c1 ?k1 ?a2 ?l2 ?c2 ?k2 ?a3 ?l3 ?c3 ?k3 ?a4 ?l4 ?c4 ?k4 ?a5 ?l5 ?c5 ?k5 ?a6 ?l6 ?c6 ?k6 ?a7 ?l7 ?c7 ?k7 ?a8 ?l8 ?c8 ?k8 ?a9 ?l9 ?c9 ?k9 ?a10 ?l10 ?c10 ?k10 ?a11 ?l11 ?c11 ?k11 ?a12 ?l12 ?c12 ?k12 ?a13 ?l13 ?c13 ?k13 ?a14 ?l14 ?c14 ?k14 ?a15 ?l15 ?c15 ?k15 ?a16 ?l16 ?c16 ?k16 ?a17 ?l17 ?c17 ?k17 ?a18 ?l18 ?c18 ?k18 ?a19 ?l19 ?c19 ?k19 ?a20 ?l20 ?c20 ?k20 ?a21 ?l21 ?c21 ?k21 ?a22 ?l22 ?c22 ?k22 ?a23 ?l23 ?c23 ?k23 ?a24 ?l24 ?c24 ?k24 ?a25 ?l25 ?c25 ?k25 ?a26 ?l26 ?c26 ?k26 ?a27 ?l27 ?c27 ?k27 ?a28 ?l28 ?c28 ?k28 ?a29 ?l29 ?c29 ?k29 ?a30 ?l30 ?c30 ?k30 ?a31 ?l31 ?c31 ?k31 ?a32 ?l32 ?c32 ?k32 ?a33 ?l33 ?c33 ?k33 ?a34 ?l34 ?c34 ?k34 ?a35 ?l35 ?c35 ?k35 ?a36 ?l36 ?c36 ?k36 ?a37 ?l37 ?c37 ?k37 ?a38 ?l38 ?c38 ?k38 ?a39 ?l39 ?c39 ?k39 ?a40 ?l40 ?c40 ?k40 ?a41 ?l41 ?c41 ?k41 ?n0 ?n1 ?z_int ?z_len ?z_list ?z_enumerate ?z_range ?z_isinstance ?z_tuple ?z_sorted ?z_bool ?z_str ?z_zip ?z_all ?z_dict ?z_sum ?z_set ?z_min ?z_max ?z_repr
    (case a0 => k_is)
    (case l0 => k_is)
    (case c0 => k_is)
    (case k0 => k_is)
    (case a1 => k_is)
    (case l1 => k_is)
    (case c1 => k_is)
    (case k1 => k_is)
    (case a2 => k_is)
    (case l2 => k_is)
    (case c2 => k_is)
    (case k2 => k_is)
    (case a3 => k_is)
    (case l3 => k_is)
    (case c3 => k_is)
    (case k3 => k_is)
    (case a4 => k_is)
    (case l4 => k_is)
    (case c4 => k_is)
    (case k4 => k_is)
    (case a5 => k_is)
    (case l5 => k_is)
    (case c5 => k_is)
    (case k5 => k_is)
    (case a6 => k_is)
    (case l6 => k_is)
    (case c6 => k_is)
    (case k6 => k_is)
    (case a7 => k_is)
    (case l7 => k_is)
    (case c7 => k_is)
    (case k7 => k_is)
    (case a8 => k_is)
    (case l8 => k_is)
    (case c8 => k_is)
    (case k8 => k_is)
    (case a9 => k_is)
    (case l9 => k_is)
    (case c9 => k_is)
    (case k9 => k_is)
    (case a10 => k_is)
    (case l10 => k_is)
    (case c10 => k_is)
    (case k10 => k_is)
    (case a11 => k_is)
    (case l11 => k_is)
    (case c11 => k_is)
    (case k11 => k_is)
    (case a12 => k_is)
    (case l12 => k_is)
    (case c12 => k_is)
    (case k12 => k_is)
    (case a13 => k_is)
    (case l13 => k_is)
    (case c13 => k_is)
    (case k13 => k_is)
    (case a14 => k_is)
    (case l14 => k_is)
    (case c14 => k_is)
    (case k14 => k_is)
    (case a15 => k_is)
    (case l15 => k_is)
    (case c15 => k_is)
    (case k15 => k_is)
    (case a16 => k_is)
    (case l16 => k_is)
    (case c16 => k_is)
    (case k16 => k_is)
    (case a17 => k_is)
    (case l17 => k_is)
    (case c17 => k_is)
    (case k17 => k_is)
    (case a18 => k_is)
    (case l18 => k_is)
    (case c18 => k_is)
    (case k18 => k_is)
    (case a19 => k_is)
    (case l19 => k_is)
    (case c19 => k_is)
    (case k19 => k_is)
    (case a20 => k_is)
    (case l20 => k_is)
    (case c20 => k_is)
    (case k20 => k_is)
    (case a21 => k_is)
    (case l21 => k_is)
    (case c21 => k_is)
    (case k21 => k_is)
    (case a22 => k_is)
    (case l22 => k_is)
    (case c22 => k_is)
    (case k22 => k_is)
    (case a23 => k_is)
    (case l23 => k_is)
    (case c23 => k_is)
    (case k23 => k_is)
    (case a24 => k_is)
    (case l24 => k_is)
    (case c24 => k_is)
    (case k24 => k_is)
    (case a25 => k_is)
    (case l25 => k_is)
    (case c25 => k_is)
    (case k25 => k_is)
    (case a26 => k_is)
    (case l26 => k_is)
    (case c26 => k_is)
    (case k26 => k_is)
    (case a27 => k_is)
    (case l27 => k_is)
    (case c27 => k_is)
    (case k27 => k_is)
    (case a28 => k_is)
    (case l28 => k_is)
    (case c28 => k_is)
    (case k28 => k_is)
    (case a29 => k_is)
    (case l29 => k_is)
    (case c29 => k_is)
    (case k29 => k_is)
    (case a30 => k_is)
    (case l30 => k_is)
    (case c30 => k_is)
    (case k30 => k_is)
    (case a31 => k_is)
    (case l31 => k_is)
    (case c31 => k_is)
    (case k31 => k_is)
    (case a32 => k_is)
    (case l32 => k_is)
    (case c32 => k_is)
    (case k32 => k_is)
    (case a33 => k_is)
    (case l33 => k_is)
    (case c33 => k_is)
    (case k33 => k_is)
    (case a34 => k_is)
    (case l34 => k_is)
    (case c34 => k_is)
    (case k34 => k_is)
    (case a35 => k_is)
    (case l35 => k_is)
    (case c35 => k_is)
    (case k35 => k_is)
    (case a36 => k_is)
    (case l36 => k_is)
    (case c36 => k_is)
    (case k36 => k_is)
    (case a37 => k_is)
    (case l37 => k_is)
    (case c37 => k_is)
    (case k37 => k_is)
    (case a38 => k_is)
    (case l38 => k_is)
    (case c38 => k_is)
    (case k38 => k_is)
    (case a39 => k_is)
    (case l39 => k_is)
    (case c39 => k_is)
    (case k39 => k_is)
    (case a40 => k_is)
    (case l40 => k_is)
    (case c40 => k_is)
    (case k40 => k_is)
    (case a41 => k_is)
    (case l41 => k_is)
    (case c41 => k_is)
    (case k41 => k_is)
    (case n0 => k_is)
    (case n1 => k_is)
    (case z_int => k_is)
    (case z_len => k_is)
    (case z_list => k_is)
    (case z_enumerate => k_is)
    (case z_range => k_is)
    (case z_isinstance => k_is)
    (case z_tuple => k_is)
    (case z_sorted => k_is)
    (case z_bool => k_is)
    (case z_str => k_is)
    (case z_zip => k_is)
    (case z_all => k_is)
    (case z_dict => k_is)
    (case z_sum => k_is)
    (case z_set => k_is)
    (case z_min => k_is)
    (case z_max => k_is)
    (case z_repr => k_is)

