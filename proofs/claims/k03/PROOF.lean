import PyProof.Rows.All
import Wide.All
import OpenK.AllK
import Wide.FinOn
import HandS.ForMost
import HandS.ExcInit
import HandS.Walk
import HandS.Zip
import HandS.IsInst
import HandS.Steps
import HandS.DeepEq
import HandS.TupAny
import HandS.SortInts
import HandS.Conv
import HandS.Text
import HandS.Deep
import PyProof.StrBlock2
import HandS.DictComp
import HandS.Comp
import KE.SortCalls
import HandS.Ends
import HandS.Small
import HandS.More
import HandS.WordsDict
import HandS.TupLe
import HandS.SetFor
import KE.KRevSl
import HandS.Style
import KE.KTupSum
import KE.DataMinMax
import KE.GoesEnum
import HandS.Iter
import HandS.EndBits
import PyProof.ReprRoads
import PyProof.CallFns
import PyProof.ReprLen
import HandS.ListItems
import HandS.Strs
import HandS.Star
import HandS.TupMul
import KE.KDictZip
import KE.KItemsList
import HandS.SortKw
import HandS.TupSets
import KE.SortData
import HandS.DictSubView
import KE.DataFind
import HandS.Finally
import PyProof.NeKinds
import HandS.CallLocal
import HandS.NoneIn
import HandS.ExcValue
import HandS.ExcIs
import HandS.ExcField
import KE.KExcIs
import PySem.Challenge.RW_poolhopes_k03_errors_by_hand
set_option Elab.async false
set_option linter.all false
set_option maxRecDepth 100000
section
/-! Lin: pure data over the hand layer; owned lists and dicts are trees with footprints. -/
namespace Lin
open PySem L2

/-- frozen data: nobody changes it any more -/
inductive D where
  | none | bool (b : Bool) | int (i : Int) | str (s : Str)
  | tup (xs : List D) | lst (xs : List D)
  | dK (ks : List Key) (xs : List D) | dT (ks : List (List Key)) (xs : List D)
  | ins (C : Addr) (fs : List Str) (xs : List D)
  /-- the script -/
  | scr (ns : List Int)
  /-- a place that is told elsewhere -/
  | adr (a : Addr)
  /-- a tuple that can be a key -/
  | kt (k : List Key)
  /-- a place by what is true of its one object -/
  | xt (φ : Addr → Heap → Prop)
  /-- an exception of an own class with fields -/
  | exc (C : Addr) (fs : List Str) (xs : List D)

/-- a thing that is owned: a tree of lists, dicts, instances over frozen data -/
inductive M where
  | val (d : D)
  | lst (ms : List M)
  | dK (ks : List Key) (ms : List M) | dT (ks : List (List Key)) (ms : List M)
  | ins (C : Addr) (fs : List Str) (ms : List M)
  | tup (ms : List M)

def WrL (K : PySem.W.Frag) (a : Addr) (xs : List V) : Prop :=
  ∃ (o : Obj) (its : Array Value) (n : Nat), K.lookup a = some o ∧ o.cls = .type "list" ∧ o.dict = none ∧ o.data = .seq its n ∧ its.size ≤ sizeLine ∧ Vals xs its.toList
def WrT (K : PySem.W.Frag) (a : Addr) (xs : List V) : Prop :=
  ∃ (o : Obj) (its : Array Value) (n : Nat), K.lookup a = some o ∧ o.cls = .type "tuple" ∧ o.data = .seq its n ∧ its.size ≤ sizeLine ∧ Vals xs its.toList

abbrev OW := Addr → Prop
section
variable (K : PySem.W.Frag) (O : OW) (H : Hp)
mutual
def Rep : D → V → Prop
  | .none, v => v = .non
  | .bool b, v => v = .bl b
  | .int i, v => v = .int i
  | .str s, v => v = .str s
  | .tup ds, v => ∃ a xs, v = .ref a ∧ ((¬ O a ∧ Rd H a (.tup xs)) ∨ WrT K a xs) ∧ RepL ds xs
  | .lst ds, v => ∃ a xs, v = .ref a ∧ ¬ O a ∧ H a = some (.lst xs) ∧ RepL ds xs
  | .dK ks ds, v => ∃ a kvs, v = .ref a ∧ ¬ O a ∧ Rd H a (.dK kvs) ∧ kvs.map (·.1) = ks ∧ RepL ds (kvs.map (·.2))
  | .dT ks ds, v => ∃ a kvs, v = .ref a ∧ ¬ O a ∧ Rd H a (.dT kvs) ∧ kvs.map (·.1) = ks ∧ RepL ds (kvs.map (·.2))
  | .ins C fs ds, v => ∃ a dx kvs, v = .ref a ∧ ¬ O a ∧ H a = some (.ins C dx kvs) ∧ kvs.map (·.1) = fs ∧ RepL ds (kvs.map (·.2))
  | .scr ns, v => ∃ a, v = .ref a ∧ ((¬ O a ∧ Rd H a (.lst (ns.map V.int))) ∨ WrL K a (ns.map V.int))
  | .adr a, v => v = .ref a
  | .kt k, v => ∃ a, v = .ref a ∧ ¬ O a ∧ H a = some (.tup (k.map kV))
  | .xt φ, v => ∃ a, v = .ref a ∧ ¬ O a ∧ H a = some (.ext (φ a))
  | .exc C fs ds, v => ∃ a dx kvs, v = .ref a ∧ (¬ O a ∧ ¬ O dx) ∧ (H a = some (exo a C (some dx)) ∧ H dx = some (exd dx kvs)) ∧ kvs.map (·.1) = fs ∧ RepL ds (kvs.map (·.2))
def RepL : List D → List V → Prop
  | [], xs => xs = []
  | d :: ds, xs => ∃ v vs, xs = v :: vs ∧ Rep d v ∧ RepL ds vs
end
mutual
def RepM : M → V → List Addr → Prop
  | .val d, v, F => F = [] ∧ Rep K O H d v
  | .lst ms, v, F => ∃ a xs F', v = .ref a ∧ F = a :: F' ∧ H a = some (.lst xs) ∧ RepML ms xs F'
  | .dK ks ms, v, F => ∃ a kvs F', v = .ref a ∧ F = a :: F' ∧ H a = some (.dK kvs) ∧ kvs.map (·.1) = ks ∧ RepML ms (kvs.map (·.2)) F'
  | .dT ks ms, v, F => ∃ a kvs F', v = .ref a ∧ F = a :: F' ∧ H a = some (.dT kvs) ∧ kvs.map (·.1) = ks ∧ RepML ms (kvs.map (·.2)) F'
  | .ins C fs ms, v, F => ∃ a dx kvs F', v = .ref a ∧ F = a :: F' ∧ H a = some (.ins C dx kvs) ∧ kvs.map (·.1) = fs ∧ RepML ms (kvs.map (·.2)) F'
  | .tup ms, v, F => ∃ a xs, v = .ref a ∧ ¬ O a ∧ H a = some (.tup xs) ∧ RepML ms xs F
def RepML : List M → List V → List Addr → Prop
  | [], xs, F => xs = [] ∧ F = []
  | m :: ms, xs, F => ∃ v vs F1 F2, xs = v :: vs ∧ F = F1 ++ F2 ∧ RepM m v F1 ∧ RepML ms vs F2
end
end

example (K : PySem.W.Frag) (O : OW) (H : Hp) (v : V) (h : Rep K O H (.int 3) v) : v = .int 3 := h

/-- owned places are no tuples -/
def NTp : HO → Prop
  | .tup _ => False
  | .frz _ (.tup _) => False
  | _ => True
/-- what holds of a state's owned places -/
structure Wf (O : OW) (H : Hp) (F : List Addr) : Prop where
  nd : F.Nodup
  own : ∀ a ∈ F, O a
  dom : ∀ a, O a → ∃ o, H a = some o
  nt : ∀ a o, O a → H a = some o → NTp o

/-- a step that may change the places F alone and leaves F' -/
structure Step (O : OW) (H : Hp) (F : List Addr) (O' : OW) (H' : Hp) (F' : List Addr) : Prop where
  frame : ∀ a o, H a = some o → a ∉ F → H' a = some o
  nw : ∀ a, O' a → O a ∨ H a = none
  old : ∀ a, O a → a ∉ F → O' a
  fp : ∀ a ∈ F', a ∈ F ∨ H a = none
  wf : Wf O' H' F'

theorem Step.refl {O : OW} {H : Hp} {F : List Addr} (w : Wf O H F) : Step O H F O H F :=
  ⟨fun _ _ h _ => h, fun _ h => .inl h, fun _ h _ => h, fun _ h => .inl h, w⟩
theorem none_or (H : Hp) (a : Addr) : H a = none ∨ ∃ o, H a = some o := by
  cases e : H a with
  | none => exact .inl rfl
  | some o => exact .inr ⟨o, rfl⟩
theorem Step.trans {O O1 O2 : OW} {H H1 H2 : Hp} {F F1 F2 : List Addr} (w : Wf O H F) (s : Step O H F O1 H1 F1) (t : Step O1 H1 F1 O2 H2 F2) : Step O H F O2 H2 F2 where
  frame := fun a o h hn => t.frame a o (s.frame a o h hn) fun h1 => by
    rcases s.fp a h1 with q | q
    · exact hn q
    · rw [h] at q; cases q
  nw := fun a h => by
    rcases none_or H a with q | ⟨o, q⟩
    · exact .inr q
    rcases t.nw a h with z | z
    · exact s.nw a z
    · by_cases hf : a ∈ F
      · exact .inl (w.own a hf)
      · have := s.frame a o q hf
        rw [z] at this; cases this
  old := fun a h hn => t.old a (s.old a h hn) fun h1 => by
    rcases s.fp a h1 with q | q
    · exact hn q
    · obtain ⟨o, e⟩ := w.dom a h
      rw [e] at q; cases q
  fp := fun a h => by
    rcases none_or H a with q | ⟨o, q⟩
    · exact .inr q
    rcases t.fp a h with z | z
    · exact s.fp a z
    · by_cases hf : a ∈ F
      · exact .inl hf
      · have := s.frame a o q hf
        rw [z] at this; cases this
  wf := t.wf

section
variable {K : PySem.W.Frag} {O O' : OW} {H H' : Hp}
theorem rd_keep {a : Addr} {u : HO} (k : ∀ a o, H a = some o → ¬ O a → H' a = some o) (hn : ¬ O a) (h : Rd H a u) : Rd H' a u := by
  rcases h with h | ⟨o, h⟩
  · exact .inl (k _ _ h hn)
  · exact .inr ⟨o, k _ _ h hn⟩
theorem no_keep {a : Addr} {u : HO} (n : ∀ a, O' a → O a ∨ H a = none) (hn : ¬ O a) (h : Rd H a u) : ¬ O' a := fun q => by
  rcases n a q with z | z
  · exact hn z
  · rcases h with h | ⟨o, h⟩
    · rw [h] at z; cases z
    · rw [h] at z; cases z
mutual
theorem Rep.keep (k : ∀ a o, H a = some o → ¬ O a → H' a = some o) (n : ∀ a, O' a → O a ∨ H a = none) : ∀ (d : D) {v : V}, Rep K O H d v → Rep K O' H' d v
  | .none, _, h => h
  | .bool _, _, h => h
  | .int _, _, h => h
  | .str _, _, h => h
  | .tup ds, _, ⟨a, xs, e, p, q⟩ => ⟨a, xs, e, p.imp (fun p => ⟨no_keep n p.1 p.2, rd_keep k p.1 p.2⟩) id, RepL.keep k n ds q⟩
  | .lst ds, _, ⟨a, xs, e, p, r, q⟩ => ⟨a, xs, e, no_keep n p (.inl r), k _ _ r p, RepL.keep k n ds q⟩
  | .dK ks ds, _, ⟨a, kvs, e, p, r, z, q⟩ => ⟨a, kvs, e, no_keep n p r, rd_keep k p r, z, RepL.keep k n ds q⟩
  | .dT ks ds, _, ⟨a, kvs, e, p, r, z, q⟩ => ⟨a, kvs, e, no_keep n p r, rd_keep k p r, z, RepL.keep k n ds q⟩
  | .ins C fs ds, _, ⟨a, dx, kvs, e, p, r, z, q⟩ => ⟨a, dx, kvs, e, no_keep n p (.inl r), k _ _ r p, z, RepL.keep k n ds q⟩
  | .scr ns, _, ⟨a, e, p⟩ => ⟨a, e, p.imp (fun p => ⟨no_keep n p.1 p.2, rd_keep k p.1 p.2⟩) id⟩
  | .adr _, _, h => h
  | .kt ks, _, ⟨a, e, p, r⟩ => ⟨a, e, no_keep n p (.inl r), k _ _ r p⟩
  | .xt _, _, ⟨a, e, p, r⟩ => ⟨a, e, no_keep n p (.inl r), k _ _ r p⟩
  | .exc C fs ds, _, ⟨a, dx, kvs, e, p, r, z, q⟩ => ⟨a, dx, kvs, e, ⟨no_keep n p.1 (.inl r.1), no_keep n p.2 (.inl r.2)⟩, ⟨k _ _ r.1 p.1, k _ _ r.2 p.2⟩, z, RepL.keep k n ds q⟩
theorem RepL.keep (k : ∀ a o, H a = some o → ¬ O a → H' a = some o) (n : ∀ a, O' a → O a ∨ H a = none) : ∀ (ds : List D) {xs : List V}, RepL K O H ds xs → RepL K O' H' ds xs
  | [], _, h => h
  | d :: ds, _, ⟨v, vs, e, p, q⟩ => ⟨v, vs, e, Rep.keep k n d p, RepL.keep k n ds q⟩
end
mutual
theorem RepM.keep (k : ∀ a o, H a = some o → ¬ O a → H' a = some o) (n : ∀ a, O' a → O a ∨ H a = none) : ∀ (m : M) {v : V} {F : List Addr}, (∀ a o, a ∈ F → H a = some o → H' a = some o) → RepM K O H m v F → RepM K O' H' m v F
  | .val d, _, _, _, ⟨e, h⟩ => ⟨e, Rep.keep k n d h⟩
  | .lst ms, _, _, hf, ⟨a, xs, F', e, ef, h, r⟩ => ⟨a, xs, F', e, ef, hf a _ (ef ▸ List.mem_cons_self ..) h, RepML.keep k n ms (fun a o z => hf a o (ef ▸ List.mem_cons_of_mem _ z)) r⟩
  | .dK ks ms, _, _, hf, ⟨a, kvs, F', e, ef, h, z, r⟩ => ⟨a, kvs, F', e, ef, hf a _ (ef ▸ List.mem_cons_self ..) h, z, RepML.keep k n ms (fun a o z => hf a o (ef ▸ List.mem_cons_of_mem _ z)) r⟩
  | .dT ks ms, _, _, hf, ⟨a, kvs, F', e, ef, h, z, r⟩ => ⟨a, kvs, F', e, ef, hf a _ (ef ▸ List.mem_cons_self ..) h, z, RepML.keep k n ms (fun a o z => hf a o (ef ▸ List.mem_cons_of_mem _ z)) r⟩
  | .ins C fs ms, _, _, hf, ⟨a, dx, kvs, F', e, ef, h, z, r⟩ => ⟨a, dx, kvs, F', e, ef, hf a _ (ef ▸ List.mem_cons_self ..) h, z, RepML.keep k n ms (fun a o z => hf a o (ef ▸ List.mem_cons_of_mem _ z)) r⟩
  | .tup ms, _, _, hf, ⟨a, xs, e, p, h, r⟩ => ⟨a, xs, e, no_keep n p (.inl h), k _ _ h p, RepML.keep k n ms hf r⟩
theorem RepML.keep (k : ∀ a o, H a = some o → ¬ O a → H' a = some o) (n : ∀ a, O' a → O a ∨ H a = none) : ∀ (ms : List M) {xs : List V} {F : List Addr}, (∀ a o, a ∈ F → H a = some o → H' a = some o) → RepML K O H ms xs F → RepML K O' H' ms xs F
  | [], _, _, _, h => h
  | m :: ms, _, _, hf, ⟨v, vs, F1, F2, e, ef, p, q⟩ => ⟨v, vs, F1, F2, e, ef, RepM.keep k n m (fun a o z => hf a o (ef ▸ List.mem_append_left _ z)) p, RepML.keep k n ms (fun a o z => hf a o (ef ▸ List.mem_append_right _ z)) q⟩
end
end

/-- a slot: owned, or a parameter whose owner waits for it (it keeps its place) -/
inductive Sl where
  | own (m : M) | io (m : M)
def Sl.m : Sl → M
  | .own m => m
  | .io m => m
abbrev Sls := List (Option Sl)
abbrev vl (d : D) : Option Sl := some (.own (.val d))
section
variable (K : PySem.W.Frag) (O : OW) (H : Hp)
def RepS : Sls → L2.St → List Addr → Prop
  | [], σ, F => σ = [] ∧ F = []
  | none :: es, σ, F => ∃ o σ', σ = o :: σ' ∧ RepS es σ' F
  | some s :: es, σ, F => ∃ v σ' F1 F2, σ = some v :: σ' ∧ F = F1 ++ F2 ∧ RepM K O H s.m v F1 ∧ RepS es σ' F2
end
theorem RepS.keep {K : PySem.W.Frag} {O O' : OW} {H H' : Hp} (k : ∀ a o, H a = some o → ¬ O a → H' a = some o) (n : ∀ a, O' a → O a ∨ H a = none) : ∀ (es : Sls) {σ : L2.St} {F : List Addr}, (∀ a o, a ∈ F → H a = some o → H' a = some o) → RepS K O H es σ F → RepS K O' H' es σ F
  | [], _, _, _, h => h
  | none :: es, _, _, hf, ⟨o, σ', e, r⟩ => ⟨o, σ', e, RepS.keep k n es hf r⟩
  | some s :: es, _, _, hf, ⟨v, σ', F1, F2, e, ef, p, q⟩ => ⟨v, σ', F1, F2, e, ef, RepM.keep k n s.m (fun a o z => hf a o (ef ▸ List.mem_append_left _ z)) p, RepS.keep k n es (fun a o z => hf a o (ef ▸ List.mem_append_right _ z)) q⟩
end Lin

end

section
namespace Lin
open PySem L2

/-! ### lists of places -/
theorem Wf.perm {O : OW} {H : Hp} {F F2 : List Addr} (p : F.Perm F2) (w : Wf O H F) : Wf O H F2 :=
  ⟨p.nodup_iff.mp w.nd, fun a h => w.own a (p.mem_iff.mpr h), w.dom, w.nt⟩
theorem Step.permL {O O' : OW} {H H' : Hp} {F F' F2 : List Addr} (p : F.Perm F2) (s : Step O H F O' H' F') : Step O H F2 O' H' F' :=
  ⟨fun a o h n => s.frame a o h fun q => n (p.mem_iff.mp q), s.nw, fun a h n => s.old a h fun q => n (p.mem_iff.mp q), fun a h => (s.fp a h).imp p.mem_iff.mp id, s.wf⟩
theorem Step.permR {O O' : OW} {H H' : Hp} {F F' F2 : List Addr} (p : F'.Perm F2) (s : Step O H F O' H' F') : Step O H F O' H' F2 :=
  ⟨s.frame, s.nw, s.old, fun a h => s.fp a (p.mem_iff.mpr h), s.wf.perm p⟩
theorem Wf.left {O : OW} {H : Hp} {F G : List Addr} (w : Wf O H (F ++ G)) : Wf O H F :=
  ⟨(List.nodup_append.mp w.nd).1, fun a h => w.own a (List.mem_append_left _ h), w.dom, w.nt⟩
theorem Wf.right {O : OW} {H : Hp} {F G : List Addr} (w : Wf O H (F ++ G)) : Wf O H G :=
  ⟨(List.nodup_append.mp w.nd).2.1, fun a h => w.own a (List.mem_append_right _ h), w.dom, w.nt⟩
theorem Wf.apart {O : OW} {H : Hp} {F G : List Addr} (w : Wf O H (F ++ G)) {a : Addr} (h : a ∈ F) (g : a ∈ G) : False :=
  (List.nodup_append.mp w.nd).2.2 a h a g rfl
/-- places may be forgotten -/
theorem Step.dropR {O O' : OW} {H H' : Hp} {F F' G : List Addr} (s : Step O H F O' H' (F' ++ G)) : Step O H F O' H' F' :=
  ⟨s.frame, s.nw, s.old, fun a h => s.fp a (List.mem_append_left _ h), s.wf.left⟩
theorem Step.dropL {O O' : OW} {H H' : Hp} {F F' G : List Addr} (s : Step O H F O' H' (G ++ F')) : Step O H F O' H' F' :=
  ⟨s.frame, s.nw, s.old, fun a h => s.fp a (List.mem_append_right _ h), s.wf.right⟩
/-- a step beside places that it doesn't know -/
theorem Step.beside {O O' : OW} {H H' : Hp} {F F' R : List Addr} (w : Wf O H (F ++ R)) (s : Step O H F O' H' F') : Step O H (F ++ R) O' H' (F' ++ R) where
  frame := fun a o h n => s.frame a o h fun q => n (List.mem_append_left _ q)
  nw := s.nw
  old := fun a h n => s.old a h fun q => n (List.mem_append_left _ q)
  fp := fun a h => by
    rcases List.mem_append.mp h with h | h
    · exact (s.fp a h).imp (List.mem_append_left _) id
    · exact .inl (List.mem_append_right _ h)
  wf := by
    refine ⟨List.nodup_append.mpr ⟨s.wf.nd, w.right.nd, fun a h b g e => ?_⟩, fun a h => ?_, s.wf.dom, s.wf.nt⟩
    · subst e
      rcases s.fp a h with q | q
      · exact w.apart q g
      · obtain ⟨o, e⟩ := w.dom a (w.right.own a g)
        rw [e] at q; cases q
    · rcases List.mem_append.mp h with h | h
      · exact s.wf.own a h
      · exact s.old a (w.right.own a h) fun q => w.apart q h
/-- what a step leaves of frozen things and of places that it doesn't know -/
theorem Step.kf {O O' : OW} {H H' : Hp} {F F' : List Addr} (w : Wf O H F) (s : Step O H F O' H' F') : ∀ a o, H a = some o → ¬ O a → H' a = some o :=
  fun a o h n => s.frame a o h fun q => n (w.own a q)
theorem Step.rep {K : PySem.W.Frag} {O O' : OW} {H H' : Hp} {F F' : List Addr} (w : Wf O H F) (s : Step O H F O' H' F') {d : D} {v : V} (h : Rep K O H d v) : Rep K O' H' d v :=
  Rep.keep (s.kf w) s.nw d h
theorem Step.repM {K : PySem.W.Frag} {O O' : OW} {H H' : Hp} {F F' G : List Addr} (w : Wf O H F) (s : Step O H F O' H' F') {m : M} {v : V} (hd : ∀ a ∈ G, a ∉ F) (h : RepM K O H m v G) : RepM K O' H' m v G :=
  RepM.keep (s.kf w) s.nw m (fun a o g e => s.frame a o e (hd a g)) h
theorem Step.repML {K : PySem.W.Frag} {O O' : OW} {H H' : Hp} {F F' G : List Addr} (w : Wf O H F) (s : Step O H F O' H' F') {ms : List M} {vs : List V} (hd : ∀ a ∈ G, a ∉ F) (h : RepML K O H ms vs G) : RepML K O' H' ms vs G :=
  RepML.keep (s.kf w) s.nw ms (fun a o g e => s.frame a o e (hd a g)) h
/-- a new place -/
theorem Step.new {O : OW} {H : Hp} {F G : List Addr} {p : Addr} {o : HO} (w : Wf O H (G ++ F)) (hp : H p = none) (hn : NTp o := by trivial) : Step O H (G ++ F) (fun a => O a ∨ a = p) (upd H p o) (p :: G ++ F) where
  frame := fun a u h _ => by rw [upd_ne (ne_of_none h hp)]; exact h
  nw := fun a h => (show O a ∨ a = p from h).imp id fun e => by rw [e]; exact hp
  old := fun a h _ => .inl h
  fp := fun a h => by
    rcases List.mem_cons.mp h with e | h
    · exact .inr (e ▸ hp)
    · exact .inl h
  wf := by
    refine ⟨List.nodup_cons.mpr ⟨fun h => ?_, w.nd⟩, fun a h => ?_, fun a h => ?_, fun a u h z => ?_⟩
    · obtain ⟨u, e⟩ := w.dom p (w.own p h)
      rw [hp] at e; cases e
    · rcases List.mem_cons.mp h with e | h
      · exact Or.inr e
      · exact Or.inl (w.own a h)
    · rcases (show O a ∨ a = p from h) with h | h
      · obtain ⟨u, e⟩ := w.dom a h
        exact ⟨u, by rw [upd_ne (ne_of_none e hp)]; exact e⟩
      · exact ⟨o, by rw [h]; exact upd_same⟩
    · rcases (show O a ∨ a = p from h) with h | h
      · obtain ⟨v, e⟩ := w.dom a h
        rw [upd_ne (ne_of_none e hp)] at z
        exact w.nt a u h z
      · rw [h, upd_same] at z
        cases z; exact hn
/-- a new frozen place -/
theorem Step.newF {O : OW} {H : Hp} {F : List Addr} {p : Addr} {o : HO} (w : Wf O H F) (hp : H p = none) : Step O H F O (upd H p o) F where
  frame := fun a u h _ => by rw [upd_ne (ne_of_none h hp)]; exact h
  nw := fun a h => .inl h
  old := fun a h _ => h
  fp := fun a h => .inl h
  wf := ⟨w.nd, w.own, fun a h => by
    obtain ⟨u, e⟩ := w.dom a h
    exact ⟨u, by rw [upd_ne (ne_of_none e hp)]; exact e⟩, fun a u h z => by
    obtain ⟨v, e⟩ := w.dom a h
    rw [upd_ne (ne_of_none e hp)] at z
    exact w.nt a u h z⟩
/-- an owned place is written -/
theorem Step.write {O : OW} {H : Hp} {F : List Addr} {p : Addr} {o : HO} (w : Wf O H F) (hp : p ∈ F) (hn : NTp o := by trivial) : Step O H F O (upd H p o) F where
  frame := fun a u h n => by
    have e : a ≠ p := fun e => n (by rw [e]; exact hp)
    rw [upd_ne e]; exact h
  nw := fun a h => .inl h
  old := fun a h _ => h
  fp := fun a h => .inl h
  wf := ⟨w.nd, w.own, fun a h => by
    by_cases e : a = p
    · exact ⟨o, by rw [e]; exact upd_same⟩
    · obtain ⟨u, q⟩ := w.dom a h
      exact ⟨u, by rw [upd_ne e]; exact q⟩, fun a u h z => by
    by_cases e : a = p
    · rw [e, upd_same] at z
      cases z; exact hn
    · rw [upd_ne e] at z
      exact w.nt a u h z⟩

/-! ### freezing -/
mutual
def frz : M → D
  | .val d => d
  | .lst ms => .lst (frzL ms)
  | .dK ks ms => .dK ks (frzL ms)
  | .dT ks ms => .dT ks (frzL ms)
  | .ins C fs ms => .ins C fs (frzL ms)
  | .tup ms => .tup (frzL ms)
def frzL : List M → List D
  | [] => []
  | m :: ms => frz m :: frzL ms
end
theorem frzL_eq : ∀ ms : List M, frzL ms = ms.map frz
  | [] => rfl
  | m :: ms => by rw [List.map_cons, ← frzL_eq ms]; rfl
section
variable {K : PySem.W.Frag} {O : OW} {H : Hp} {O' : OW}
mutual
theorem Rep.less (h : ∀ a, O' a → O a) : ∀ (d : D) {v : V}, Rep K O H d v → Rep K O' H d v
  | .none, _, h => h
  | .bool _, _, h => h
  | .int _, _, h => h
  | .str _, _, h => h
  | .tup ds, _, ⟨a, xs, e, p, q⟩ => ⟨a, xs, e, p.imp (fun p => ⟨fun z => p.1 (h _ z), p.2⟩) id, RepL.less h ds q⟩
  | .lst ds, _, ⟨a, xs, e, p, r, q⟩ => ⟨a, xs, e, fun z => p (h _ z), r, RepL.less h ds q⟩
  | .dK ks ds, _, ⟨a, kvs, e, p, r, z, q⟩ => ⟨a, kvs, e, fun z => p (h _ z), r, z, RepL.less h ds q⟩
  | .dT ks ds, _, ⟨a, kvs, e, p, r, z, q⟩ => ⟨a, kvs, e, fun z => p (h _ z), r, z, RepL.less h ds q⟩
  | .ins C fs ds, _, ⟨a, dx, kvs, e, p, r, z, q⟩ => ⟨a, dx, kvs, e, fun z => p (h _ z), r, z, RepL.less h ds q⟩
  | .scr ns, _, ⟨a, e, p⟩ => ⟨a, e, p.imp (fun p => ⟨fun z => p.1 (h _ z), p.2⟩) id⟩
  | .adr _, _, h => h
  | .kt _, _, ⟨a, e, p, r⟩ => ⟨a, e, fun z => p (h _ z), r⟩
  | .xt _, _, ⟨a, e, p, r⟩ => ⟨a, e, fun z => p (h _ z), r⟩
  | .exc C fs ds, _, ⟨a, dx, kvs, e, p, r, z, q⟩ => ⟨a, dx, kvs, e, ⟨fun z => p.1 (h _ z), fun z => p.2 (h _ z)⟩, r, z, RepL.less h ds q⟩
theorem RepL.less (h : ∀ a, O' a → O a) : ∀ (ds : List D) {xs : List V}, RepL K O H ds xs → RepL K O' H ds xs
  | [], _, h => h
  | d :: ds, _, ⟨v, vs, e, p, q⟩ => ⟨v, vs, e, Rep.less h d p, RepL.less h ds q⟩
end
mutual
theorem RepM.frz : ∀ (m : M) {v : V} {F : List Addr}, (∀ a, O' a → O a) → (∀ a ∈ F, ¬ O' a) → RepM K O H m v F → Rep K O' H (Lin.frz m) v
  | .val d, _, _, h, _, ⟨_, r⟩ => Rep.less h d r
  | .lst ms, _, _, h, hf, ⟨a, xs, F', e, ef, p, q⟩ => ⟨a, xs, e, hf a (ef ▸ List.mem_cons_self ..), p, RepML.frz ms h (fun a z => hf a (ef ▸ List.mem_cons_of_mem _ z)) q⟩
  | .dK ks ms, _, _, h, hf, ⟨a, kvs, F', e, ef, p, z, q⟩ => ⟨a, kvs, e, hf a (ef ▸ List.mem_cons_self ..), .inl p, z, RepML.frz ms h (fun a z => hf a (ef ▸ List.mem_cons_of_mem _ z)) q⟩
  | .dT ks ms, _, _, h, hf, ⟨a, kvs, F', e, ef, p, z, q⟩ => ⟨a, kvs, e, hf a (ef ▸ List.mem_cons_self ..), .inl p, z, RepML.frz ms h (fun a z => hf a (ef ▸ List.mem_cons_of_mem _ z)) q⟩
  | .ins C fs ms, _, _, h, hf, ⟨a, dx, kvs, F', e, ef, p, z, q⟩ => ⟨a, dx, kvs, e, hf a (ef ▸ List.mem_cons_self ..), p, z, RepML.frz ms h (fun a z => hf a (ef ▸ List.mem_cons_of_mem _ z)) q⟩
  | .tup ms, _, _, h, hf, ⟨a, xs, e, no, p, q⟩ => ⟨a, xs, e, .inl ⟨fun z => no (h _ z), .inl p⟩, RepML.frz ms h hf q⟩
theorem RepML.frz : ∀ (ms : List M) {vs : List V} {F : List Addr}, (∀ a, O' a → O a) → (∀ a ∈ F, ¬ O' a) → RepML K O H ms vs F → RepL K O' H (frzL ms) vs
  | [], _, _, _, _, ⟨e, _⟩ => e
  | m :: ms, _, _, h, hf, ⟨v, vs, F1, F2, e, ef, p, q⟩ => ⟨v, vs, e, RepM.frz m h (fun a z => hf a (ef ▸ List.mem_append_left _ z)) p, RepML.frz ms h (fun a z => hf a (ef ▸ List.mem_append_right _ z)) q⟩
end
end
theorem Step.freeze {O : OW} {H : Hp} {G F : List Addr} (w : Wf O H (G ++ F)) : Step O H (G ++ F) (fun a => O a ∧ a ∉ G) H F where
  frame := fun _ _ h _ => h
  nw := fun a h => .inl h.1
  old := fun a h n => ⟨h, fun q => n (List.mem_append_left _ q)⟩
  fp := fun a h => .inl (List.mem_append_right _ h)
  wf := ⟨w.right.nd, fun a h => ⟨w.right.own a h, fun q => w.apart q h⟩, fun a h => w.dom a h.1, fun a u h => w.nt a u h.1⟩

/-! ### slots -/
theorem RepS.len {K : PySem.W.Frag} {O : OW} {H : Hp} : ∀ {es : Sls} {σ : L2.St} {F : List Addr}, RepS K O H es σ F → σ.length = es.length
  | [], _, _, ⟨e, _⟩ => by rw [e]; rfl
  | none :: es, _, _, ⟨o, σ', e, r⟩ => by rw [e, List.length_cons, r.len, List.length_cons]
  | some s :: es, _, _, ⟨v, σ', F1, F2, e, ef, p, r⟩ => by rw [e, List.length_cons, r.len, List.length_cons]
/-- one slot out of all -/
theorem RepS.at {K : PySem.W.Frag} {O : OW} {H : Hp} : ∀ {es : Sls} {σ : L2.St} {F : List Addr} {i : Nat} {s : Sl}, RepS K O H es σ F → es[i]? = some (some s) →
    ∃ v F1 Fi F2, σ[i]? = some (some v) ∧ F = F1 ++ (Fi ++ F2) ∧ RepM K O H s.m v Fi ∧ RepS K O H (es.set i none) σ (F1 ++ F2) ∧
      ∀ (O2 : OW) (H2 : Hp), (∀ a o, H a = some o → ¬ O a → H2 a = some o) → (∀ a, O2 a → O a ∨ H a = none) → (∀ a o, a ∈ F1 ++ F2 → H a = some o → H2 a = some o) → ∀ (v' : V) (s' : Sl) (Fi' : List Addr), RepM K O2 H2 s'.m v' Fi' →
        RepS K O2 H2 (es.set i (some s')) (σ.set i (some v')) (F1 ++ (Fi' ++ F2))
  | [], _, _, _, _, _, h => by simp at h
  | none :: es, _, _, 0, _, _, h => by simp at h
  | none :: es, _, F, i + 1, s, ⟨o, σ', e, r⟩, h => by
    obtain ⟨v, F1, Fi, F2, e1, ef, p, q, k⟩ := RepS.at r (i := i) (by simpa using h)
    subst e
    exact ⟨v, F1, Fi, F2, by simpa using e1, ef, p, ⟨o, σ', rfl, q⟩, fun O2 H2 a b c v' s' Fi' z => ⟨o, _, rfl, k O2 H2 a b c v' s' Fi' z⟩⟩
  | some t :: es, _, F, 0, s, ⟨v, σ', F1, F2, e, ef, p, r⟩, h => by
    have e0 : t = s := by simpa using h
    subst e e0
    exact ⟨v, [], F1, F2, rfl, ef, p, ⟨_, σ', rfl, r⟩, fun O2 H2 a b c v' s' Fi' z => ⟨v', σ', Fi', F2, rfl, rfl, z, RepS.keep a b es c r⟩⟩
  | some t :: es, _, F, i + 1, s, ⟨v, σ', G1, G2, e, ef, p, r⟩, h => by
    obtain ⟨w, F1, Fi, F2, e1, ef', p', q, k⟩ := RepS.at r (i := i) (by simpa using h)
    subst e
    refine ⟨w, G1 ++ F1, Fi, F2, by simpa using e1, by rw [ef, ef', List.append_assoc], p', ⟨v, σ', G1, F1 ++ F2, rfl, by rw [List.append_assoc], p, q⟩, fun O2 H2 a b c v' s' Fi' z => ?_⟩
    refine ⟨v, _, G1, F1 ++ (Fi' ++ F2), rfl, by rw [List.append_assoc], RepM.keep a b t.m (fun a o z => c a o (by rw [List.append_assoc]; exact List.mem_append_left _ z)) p, ?_⟩
    exact k O2 H2 a b (fun a o z => c a o (by rw [List.append_assoc]; exact List.mem_append_right _ z)) v' s' Fi' z
/-- a slot is forgotten or overwritten, whatever it held -/
theorem RepS.drop {K : PySem.W.Frag} {O : OW} {H : Hp} : ∀ {es : Sls} {σ : L2.St} {F : List Addr} (i : Nat) (o : Option V), i < es.length → RepS K O H es σ F → ∃ F1 F2 Fi, F = F1 ++ (Fi ++ F2) ∧ RepS K O H (es.set i none) (σ.set i o) (F1 ++ F2) ∧
      ∀ (v' : V) (s' : Sl) (Fi' : List Addr), RepM K O H s'.m v' Fi' → RepS K O H (es.set i (some s')) (σ.set i (some v')) (F1 ++ (Fi' ++ F2))
  | [], _, _, i, _, h, _ => absurd h (Nat.not_lt_zero _)
  | none :: es, _, F, 0, o, _, ⟨o', σ', e, r⟩ => by
    subst e
    exact ⟨[], F, [], rfl, ⟨o, σ', rfl, r⟩, fun v' s' Fi' z => ⟨v', σ', Fi', F, rfl, rfl, z, r⟩⟩
  | none :: es, _, F, i + 1, o, h, ⟨o', σ', e, r⟩ => by
    obtain ⟨F1, F2, Fi, ef, q, k⟩ := RepS.drop i o (Nat.lt_of_succ_lt_succ h) r
    subst e
    exact ⟨F1, F2, Fi, ef, ⟨o', _, rfl, q⟩, fun v' s' Fi' z => ⟨o', _, rfl, k v' s' Fi' z⟩⟩
  | some t :: es, _, F, 0, o, _, ⟨v, σ', F1, F2, e, ef, p, r⟩ => by
    subst e
    exact ⟨[], F2, F1, ef, ⟨o, σ', rfl, r⟩, fun v' s' Fi' z => ⟨v', σ', Fi', F2, rfl, rfl, z, r⟩⟩
  | some t :: es, _, F, i + 1, o, h, ⟨v, σ', G1, G2, e, ef, p, r⟩ => by
    obtain ⟨F1, F2, Fi, ef', q, k⟩ := RepS.drop i o (Nat.lt_of_succ_lt_succ h) r
    subst e
    exact ⟨G1 ++ F1, F2, Fi, by rw [ef, ef', List.append_assoc], ⟨v, _, G1, F1 ++ F2, rfl, by rw [List.append_assoc], p, q⟩,
      fun v' s' Fi' z => ⟨v, _, G1, F1 ++ (Fi' ++ F2), rfl, by rw [List.append_assoc], p, k v' s' Fi' z⟩⟩
end Lin

end

section
namespace Lin
open PySem PySem.Spec PyProof.Rows L2

/-! ### what a piece of syntax may be asked, without a derivation -/
def wE (X : Cx) (e : Expr) : TE := fun σ H Q => ∃ t, PE X e t ∧ t σ H Q
def wT (X : Cx) (e : Expr) : TT := fun σ H Q => ∃ t, PT X e t ∧ t σ H Q
def wA (X : Cx) (es : List Expr) : TA := fun σ H Q => ∃ t, PA X es t ∧ t σ H Q
def wS (X : Cx) (sts : List Stmt) : TS := fun D σ H => ∃ t, PSs X sts t ∧ t D σ H
def wS1 (X : Cx) (st : Stmt) : TS := fun D σ H => ∃ t, PS X st t ∧ t D σ H
theorem pe_w {X : Cx} {e : Expr} : PE X e (wE X e) := ⟨fun pins s σ H Q I ⟨t, p, h⟩ => p.run pins s σ H Q I h⟩
theorem pt_w {X : Cx} {e : Expr} : PT X e (wT X e) := ⟨fun pins s σ H Q I ⟨t, p, h⟩ => p.run pins s σ H Q I h⟩
theorem pa_w {X : Cx} {es : List Expr} : PA X es (wA X es) := ⟨fun pos pins s σ H Q I ⟨t, p, h⟩ => p.run pos pins s σ H Q I h⟩
theorem pss_w {X : Cx} {sts : List Stmt} : PSs X sts (wS X sts) := ⟨fun pins s σ H D I ⟨t, p, h⟩ => p.run pins s σ H D I h⟩
theorem ps_w {X : Cx} {st : Stmt} : PS X st (wS1 X st) := ⟨fun pins s σ H D I ⟨t, p, h⟩ => p.run pins s σ H D I h⟩

/-- parameters whose owner waits stay such -/
def Io (env env' : Sls) : Prop := ∀ (i : Nat) (m : M), env[i]? = some (some (Sl.io m)) → ∃ m' : M, env'[i]? = some (some (Sl.io m'))
theorem Io.refl (env : Sls) : Io env env := fun _ m h => ⟨m, h⟩
theorem Io.trans {e1 e2 e3 : Sls} (a : Io e1 e2) (b : Io e2 e3) : Io e1 e3 := fun i m h => by
  obtain ⟨m', h'⟩ := a i m h
  exact b i m' h'

/-- e gives m and leaves the slots as env' -/
def Ev (X : Cx) (e : Expr) (env : Sls) (m : M) (env' : Sls) : Prop := Io env env' ∧
  ∀ (O : OW) (H : Hp) (σ : L2.St) (F : List Addr), RepS X.K O H env σ F → Wf O H F → ∀ Q : VK,
    (∀ (O' : OW) (H' : Hp) (v : V) (Fv F' : List Addr), RepM X.K O' H' m v Fv → RepS X.K O' H' env' σ F' → Step O H F O' H' (Fv ++ F') → Q v H') → wE X e σ H Q
/-- a test gives b -/
def Tv (X : Cx) (e : Expr) (env : Sls) (b : Bool) (env' : Sls) : Prop := Io env env' ∧
  ∀ (O : OW) (H : Hp) (σ : L2.St) (F : List Addr), RepS X.K O H env σ F → Wf O H F → ∀ Q : Bool → Hp → Prop,
    (∀ (O' : OW) (H' : Hp) (F' : List Addr), RepS X.K O' H' env' σ F' → Step O H F O' H' F' → Q b H') → wT X e σ H Q
/-- an argument: by value, or a name that is lent -/
inductive AK where
  | v (d : D) | lend (i : Nat)
def RepA (K : PySem.W.Frag) (O : OW) (H : Hp) (σ : L2.St) : List AK → List V → Prop
  | [], vs => vs = []
  | .v d :: as, vs => ∃ u us, vs = u :: us ∧ Rep K O H d u ∧ RepA K O H σ as us
  | .lend i :: as, vs => ∃ u us, vs = u :: us ∧ σ[i]? = some (some u) ∧ RepA K O H σ as us
def EvAs (X : Cx) (es : List Expr) (env : Sls) (as : List AK) (env' : Sls) : Prop := Io env env' ∧
  ∀ (O : OW) (H : Hp) (σ : L2.St) (F : List Addr), RepS X.K O H env σ F → Wf O H F → ∀ Q : List V → Hp → Prop,
    (∀ (O' : OW) (H' : Hp) (vs : List V) (F' : List Addr), RepA X.K O' H' σ as vs → RepS X.K O' H' env' σ F' → Step O H F O' H' F' → Q vs H') → wA X es σ H Q

inductive Out where
  | nx (env : Sls) | rt (m : M) (env : Sls) | bk (env : Sls) | ct (env : Sls)
/-- the parameters whose owners wait are at their places -/
def Pins (env : Sls) (σ : L2.St) (env' : Sls) (σ' : L2.St) : Prop := ∀ (i : Nat) (m : M), env[i]? = some (some (Sl.io m)) → (∃ m' : M, env'[i]? = some (some (Sl.io m'))) ∧ σ'[i]? = σ[i]?
theorem Pins.refl {env : Sls} {σ : L2.St} : Pins env σ env σ := fun _ m h => ⟨⟨m, h⟩, rfl⟩
theorem Pins.of {env env' : Sls} {σ : L2.St} (h : Io env env') : Pins env σ env' σ := fun i m e => ⟨h i m e, rfl⟩
theorem Pins.trans {e1 e2 e3 : Sls} {s1 s2 s3 : L2.St} (a : Pins e1 s1 e2 s2) (b : Pins e2 s2 e3 s3) : Pins e1 s1 e3 s3 := fun i m h => by
  obtain ⟨⟨m', h'⟩, q⟩ := a i m h
  obtain ⟨z, q'⟩ := b i m' h'
  exact ⟨z, q'.trans q⟩
/-- what the ends must grant -/
def Grants (X : Cx) (out : Out) (D : Ends) (O : OW) (H : Hp) (env : Sls) (σ : L2.St) (F : List Addr) : Prop :=
  match out with
  | .nx env' => ∀ (O' : OW) (H' : Hp) (σ' : L2.St) (F' : List Addr), RepS X.K O' H' env' σ' F' → Step O H F O' H' F' → Pins env σ env' σ' → D.nx σ' H'
  | .bk env' => ∀ (O' : OW) (H' : Hp) (σ' : L2.St) (F' : List Addr), RepS X.K O' H' env' σ' F' → Step O H F O' H' F' → Pins env σ env' σ' → D.bk σ' H'
  | .ct env' => ∀ (O' : OW) (H' : Hp) (σ' : L2.St) (F' : List Addr), RepS X.K O' H' env' σ' F' → Step O H F O' H' F' → Pins env σ env' σ' → D.ct σ' H'
  | .rt m env' => ∀ (O' : OW) (H' : Hp) (σ' : L2.St) (v : V) (Fv F' : List Addr), RepM X.K O' H' m v Fv → RepS X.K O' H' env' σ' F' → Step O H F O' H' (Fv ++ F') → Pins env σ env' σ' → D.rt v H'
/-- a block ends so -/
def Ex (X : Cx) (body : List Stmt) (env : Sls) (out : Out) : Prop :=
  ∀ (O : OW) (H : Hp) (σ : L2.St) (F : List Addr), RepS X.K O H env σ F → Wf O H F → ∀ D : Ends, Grants X out D O H env σ F → wS X body D σ H
/-- a statement ends so -/
def Ex1 (X : Cx) (st : Stmt) (env : Sls) (out : Out) : Prop :=
  ∀ (O : OW) (H : Hp) (σ : L2.St) (F : List Addr), RepS X.K O H env σ F → Wf O H F → ∀ D : Ends, Grants X out D O H env σ F → wS1 X st D σ H
/-- what is granted ahead of a step is granted behind it -/
theorem Grants.back {X : Cx} {D : Ends} {O O1 : OW} {H H1 : Hp} {env env1 : Sls} {σ σ1 : L2.St} {F F1 : List Addr} (w : Wf O H F) (s : Step O H F O1 H1 F1) (p : Pins env σ env1 σ1) : ∀ {out : Out}, Grants X out D O H env σ F → Grants X out D O1 H1 env1 σ1 F1
  | .nx _, g => fun O' H' σ' F' r t q => g O' H' σ' F' r (s.trans w t) (p.trans q)
  | .bk _, g => fun O' H' σ' F' r t q => g O' H' σ' F' r (s.trans w t) (p.trans q)
  | .ct _, g => fun O' H' σ' F' r t q => g O' H' σ' F' r (s.trans w t) (p.trans q)
  | .rt _ _, g => fun O' H' σ' v Fv F' m r t q => g O' H' σ' v Fv F' m r (s.trans w t) (p.trans q)

/-! ### operations by values -/
/-- x op y gives m, and changes nothing -/
def RO (K : PySem.W.Frag) (r : R2) (x y : D) (m : M) : Prop := ∀ (O : OW) (H : Hp), Wf O H [] → ∀ u v : V, Rep K O H x u → Rep K O H y v → ∀ Q : VK,
  (∀ (O' : OW) (H' : Hp) (z : V) (Fz : List Addr), RepM K O' H' m z Fz → Step O H [] O' H' Fz → Q z H') → r u v H Q
/-- a call by values -/
def RF (K : PySem.W.Frag) (r : List V → Hp → VK → Prop) (ds : List D) (m : M) : Prop := ∀ (O : OW) (H : Hp), Wf O H [] → ∀ vs : List V, RepL K O H ds vs → ∀ Q : VK,
  (∀ (O' : OW) (H' : Hp) (z : V) (Fz : List Addr), RepM K O' H' m z Fz → Step O H [] O' H' Fz → Q z H') → r vs H Q
theorem Wf.keepN {O : OW} {H H' : Hp} {F : List Addr} (w : Wf O H F) (k : ∀ a o, H a = some o → H' a = some o) : ∀ a u, O a → H' a = some u → NTp u := fun a u h z => by
  obtain ⟨o, q⟩ := w.dom a h
  rw [k a o q] at z
  cases z
  exact w.nt a _ h q
theorem Wf.nil {O : OW} {H : Hp} {F : List Addr} (w : Wf O H F) : Wf O H [] := ⟨List.nodup_nil, (fun _ h => nomatch h), w.dom, w.nt⟩
theorem Step.quiet {O O' : OW} {H H' : Hp} {F Fz : List Addr} (w : Wf O H F) (s : Step O H [] O' H' Fz) : Step O H F O' H' (Fz ++ F) := by
  have z := s.beside (R := F) w
  exact z
theorem RepS.quiet {K : PySem.W.Frag} {O O' : OW} {H H' : Hp} {F Fz : List Addr} {env : Sls} {σ : L2.St} (s : Step O H [] O' H' Fz) (r : RepS K O H env σ F) : RepS K O' H' env σ F :=
  RepS.keep (fun a o h _ => s.frame a o h (by simp)) s.nw env (fun a o _ h => s.frame a o h (by simp)) r
theorem Rep.quiet {K : PySem.W.Frag} {O O' : OW} {H H' : Hp} {F F' : List Addr} {d : D} {v : V} (w : Wf O H F) (s : Step O H F O' H' F') (r : Rep K O H d v) : Rep K O' H' d v := s.rep w r
/-- a scalar answer, in the heap as it is -/
theorem ro_val {K : PySem.W.Frag} {r : R2} {x y d : D} (h : ∀ (O : OW) (H : Hp) (u v : V) (Q : VK), Rep K O H x u → Rep K O H y v → (∀ z, Rep K O H d z → Q z H) → r u v H Q) : RO K r x y (.val d) :=
  fun O H w u v a b Q q => h O H u v Q a b fun z rz => q O H z [] ⟨rfl, rz⟩ (Step.refl w)

section
variable {X : Cx} {env env1 env2 env3 : Sls} {a b c e : Expr} {es : List Expr} {pos : Pos} {d x y : D} {m : M} {ms : List M}

/-! ### values -/
theorem Ev.eq {m' : M} (h : Ev X e env m env1) (q : m = m') : Ev X e env m' env1 := q ▸ h
theorem Tv.eq {b b' : Bool} (h : Tv X e env b env1) (q : b = b') : Tv X e env b' env1 := q ▸ h
/-- a new thing is frozen at once -/
theorem Ev.frz (h : Ev X e env m env1) : Ev X e env (.val (Lin.frz m)) env1 := ⟨h.1, fun O H σ F r w Q q => h.2 O H σ F r w Q fun O' H' v Fv F' rm rs st =>
  q (fun a => O' a ∧ a ∉ Fv) H' v [] F' ⟨rfl, RepM.frz m (fun _ z => z.1) (fun a z n => n.2 z) rm⟩
    (RepS.keep (K := X.K) (O := O') (H := H') (fun _ _ z _ => z) (fun a z => .inl z.1) env1 (fun _ _ _ z => z) rs) (st.trans w (Step.freeze st.wf))⟩
/-- a value that leaves the state as it is -/
theorem ev_const {v : V} (hp : PE X e (tC v)) (hr : ∀ (K : PySem.W.Frag) (O : OW) (H : Hp), Rep K O H d v) : Ev X e env (.val d) env :=
  ⟨Io.refl _, fun O H σ F r w Q q => ⟨_, hp, q O H v [] F ⟨rfl, hr _ _ _⟩ r (Step.refl w)⟩⟩
theorem ev_int {i : Int} {j : Nat} : Ev X (.Constant (.int i) j pos) env (.val (.int i)) env := ev_const pe_int fun _ _ _ => rfl
theorem ev_bool {c : Bool} {j : Nat} : Ev X (.Constant (.bool c) j pos) env (.val (.bool c)) env := ev_const pe_bl fun _ _ _ => rfl
theorem ev_none {j : Nat} : Ev X (.Constant .none j pos) env (.val .none) env := ev_const pe_non fun _ _ _ => rfl
theorem ev_str {s : Str} {j : Nat} : Ev X (.Constant (.str s) j pos) env (.val (.str s)) env := ev_const pe_str fun _ _ _ => rfl
theorem repM_val {K : PySem.W.Frag} {O : OW} {H : Hp} {v : V} {F : List Addr} (h : RepM K O H (Sl.own (.val d)).m v F) : F = [] ∧ Rep K O H d v := h
/-- a name of frozen data -/
theorem ev_name (i : Nat) {n : Str} (h : env[i]? = some (some (Sl.own (.val d)))) (hN : X.N[i]? = some n := by rfl) (hv : Vis X.env.scope n := by first | exact Or.inl rfl | exact Or.inr (Or.inl rfl) | exact Or.inr (Or.inr rfl))
    (hd : (n == ("__debug__" : Str)) = false := by decide) (hcd : (n == ("__classdict__" : Str)) = false := by decide) : Ev X (.Name n pos) env (.val d) env :=
  ⟨Io.refl _, fun O H σ F r w Q q => by
    obtain ⟨v, F1, Fi, F2, e1, ef, p, _, _⟩ := RepS.at r h
    obtain ⟨rfl, p'⟩ := repM_val p
    exact ⟨_, pe_var hN hv hd hcd, v, e1, q O H v [] F ⟨rfl, p'⟩ r (Step.refl w)⟩⟩
/-- a name's thing is taken out of it -/
theorem ev_move (i : Nat) {n : Str} (h : env[i]? = some (some (Sl.own m))) (hN : X.N[i]? = some n := by rfl) (hv : Vis X.env.scope n := by first | exact Or.inl rfl | exact Or.inr (Or.inl rfl) | exact Or.inr (Or.inr rfl))
    (hd : (n == ("__debug__" : Str)) = false := by decide) (hcd : (n == ("__classdict__" : Str)) = false := by decide) : Ev X (.Name n pos) env m (env.set i none) :=
  ⟨fun j m' z => ⟨m', by
      rw [List.getElem?_set_ne (fun e => ?_)]
      · exact z
      · subst e; rw [h] at z; cases z⟩, fun O H σ F r w Q q => by
    obtain ⟨v, F1, Fi, F2, e1, ef, p, r', _⟩ := RepS.at r h
    have pm : F.Perm (Fi ++ (F1 ++ F2)) := by
      rw [ef, ← List.append_assoc, ← List.append_assoc]
      exact List.Perm.append_right _ List.perm_append_comm
    exact ⟨_, pe_var hN hv hd hcd, v, e1, q O H v Fi (F1 ++ F2) p r' ((Step.refl w).permR pm)⟩⟩
/-- the two operands, one after the other -/
theorem two (ha : Ev X a env (.val x) env1) (hb : Ev X b env1 (.val y) env2) {O : OW} {H : Hp} {σ : L2.St} {F : List Addr} (r : RepS X.K O H env σ F) (w : Wf O H F) {R : V → V → Hp → Prop}
    (k : ∀ (O' : OW) (H' : Hp) (u v : V) (F' : List Addr), Rep X.K O' H' x u → Rep X.K O' H' y v → RepS X.K O' H' env2 σ F' → Step O H F O' H' F' → R u v H') : wE X a σ H fun u H1 => wE X b σ H1 fun v H2 => R u v H2 :=
  ha.2 O H σ F r w _ fun O1 H1 u Fu F1 ⟨eu, ru⟩ r1 s1 => by
    subst eu
    exact hb.2 O1 H1 σ F1 r1 s1.wf _ fun O2 H2 v Fv F2 ⟨ev, rv⟩ r2 s2 => by
      subst ev
      exact k O2 H2 u v F2 (s2.rep s1.wf ru) rv r2 (s1.trans w s2)
theorem ev_bin {op : Operator} {r : R2} (ho : OpR X (binaryOp op) r) (ha : Ev X a env (.val x) env1) (hb : Ev X b env1 (.val y) env2) (hr : RO X.K r x y m) : Ev X (.BinOp a op b pos) env m env2 :=
  ⟨ha.1.trans hb.1, fun O H σ F rs w Q q => ⟨_, pe_op ho pe_w pe_w, two ha hb rs w fun O' H' u v F' ru rv r' s' =>
    hr O' H' s'.wf.nil u v ru rv Q fun O2 H2 z Fz rz s2 => q O2 H2 z Fz F' rz (r'.quiet s2) (s'.trans w (s2.quiet s'.wf))⟩⟩
theorem ev_cmp {op : CmpOp} {r : R2} (ho : OpR X (compareOp op) r) (ha : Ev X a env (.val x) env1) (hb : Ev X b env1 (.val y) env2) (hr : RO X.K r x y m) (hm : behindInMarks op b = false := by first | exact nomark _ | rfl) : Ev X (.Compare a [op] [b] pos) env m env2 :=
  ⟨ha.1.trans hb.1, fun O H σ F rs w Q q => ⟨_, pe_cmpR ho pe_w pe_w hm, two ha hb rs w fun O' H' u v F' ru rv r' s' =>
    hr O' H' s'.wf.nil u v ru rv Q fun O2 H2 z Fz rz s2 => q O2 H2 z Fz F' rz (r'.quiet s2) (s'.trans w (s2.quiet s'.wf))⟩⟩
theorem tv_cmp {op : CmpOp} {r : R2} {k : Bool} (ho : OpR X (compareOp op) r) (ha : Ev X a env (.val x) env1) (hb : Ev X b env1 (.val y) env2) (hr : RO X.K r x y (.val (.bool k))) (hm : behindInMarks op b = false := by first | exact nomark _ | rfl) : Tv X (.Compare a [op] [b] pos) env k env2 :=
  ⟨ha.1.trans hb.1, fun O H σ F rs w Q q => ⟨_, pt_cmpR ho pe_w pe_w hm, two ha hb rs w fun O' H' u v F' ru rv r' s' =>
    hr O' H' s'.wf.nil u v ru rv _ fun O2 H2 z Fz ⟨ez, rz⟩ s2 => by
      subst ez
      exact ⟨k, rz, q O2 H2 F' (r'.quiet s2) (s'.trans w (s2.quiet s'.wf))⟩⟩⟩
/-- a truth as a test -/
theorem tv_val {k : Bool} (h : Ev X e env (.val (.bool k)) env1) (he : ∀ whole, isTrue e X.env whole = (do let v ← whole; standAt e.pos; holding [v] (truthy v)) := by intro _; rfl) : Tv X e env k env1 :=
  ⟨h.1, fun O H σ F rs w Q q => ⟨_, pt_val pe_w he, h.2 O H σ F rs w _ fun O' H' v Fv F' ⟨ev, rv⟩ r' s' => by
    subst ev
    exact ⟨k, rv, q O' H' F' r' s'⟩⟩⟩
theorem tv_not {k : Bool} (h : Tv X e env k env1) : Tv X (.UnaryOp .Not e pos) env (!k) env1 :=
  ⟨h.1, fun O H σ F rs w Q q => ⟨_, pt_not pt_w, h.2 O H σ F rs w _ fun O' H' F' r' s' => q O' H' F' r' s'⟩⟩
end
end Lin

end

section
namespace Lin
open PySem PySem.Spec PyProof.Rows L2

section
variable {X : Cx} {env env1 env2 env3 : Sls} {a b c e : Expr} {es : List Expr} {pos : Pos} {d x y : D} {m : M} {ms : List M} {st : Stmt} {rest body : List Stmt} {out : Out}

/-! ### statements -/
theorem ex_nil : Ex X [] env (.nx env) := fun O H σ F r w D g => ⟨_, pss_nil, g O H σ F r (Step.refl w) Pins.refl⟩
theorem ex_cons (h : Ex1 X st env (.nx env1)) (k : Ex X rest env1 out) : Ex X (st :: rest) env out := fun O H σ F r w D g =>
  ⟨_, pss_cons ps_w pss_w, h O H σ F r w { D with nx := wS X rest D } fun O' H' σ' F' r' s p => k O' H' σ' F' r' s.wf D (g.back w s p)⟩
/-- a block's statement that goes no further -/
def Out.stops : Out → Prop
  | .nx _ => False
  | _ => True
theorem Grants.nx {D : Ends} {O : OW} {H : Hp} {σ : L2.St} {F : List Addr} {n : L2.St → Hp → Prop} (hs : out.stops) (g : Grants X out D O H env σ F) : Grants X out { D with nx := n } O H env σ F := by
  cases out with
  | nx _ => exact hs.elim
  | rt _ _ => exact g
  | bk _ => exact g
  | ct _ => exact g
theorem ex_stop (h : Ex1 X st env out) (hs : out.stops := by trivial) : Ex X (st :: rest) env out := fun O H σ F r w D g =>
  ⟨_, pss_cons ps_w pss_w, h O H σ F r w { D with nx := wS X rest D } (g.nx hs)⟩
theorem ex_one (h : Ex1 X st env out) : Ex X [st] env out := fun O H σ F r w D g => ⟨_, pss_one ps_w, h O H σ F r w D g⟩

theorem perm_drop {Fv F1 Fi F2 : List Addr} : (Fv ++ (F1 ++ (Fi ++ F2))).Perm ((F1 ++ (Fv ++ F2)) ++ Fi) :=
  List.perm_iff_count.mpr fun a => by simp only [List.count_append]; omega
/-- x = e -/
theorem x1_set (i : Nat) {n : Str} {pos' : Pos} (he : Ev X e env m env1) (hio : ∀ m', env[i]? ≠ some (some (Sl.io m')) := by intro _ h; cases h) (hi : i < env.length := by simp) (hn : X.N.Nodup := by assumption) (hN : X.N[i]? = some n := by rfl)
    (hx : Loc X.env.scope n := by first | exact Or.inl rfl | exact Or.inr rfl) (hs : swapsWith e (some (.Name n pos')) pos.line X.env = pure false := by rfl) (hf : X.fn n = true ∨ X.env.scope.names.lookup n = some .local := by first | exact .inl rfl | exact .inr rfl) :
    Ex1 X (.Assign [.Name n pos'] e pos) env (.nx (env1.set i (some (.own m)))) := fun O H σ F r w D g =>
  ⟨_, ps_set hn hN hx pe_w hs hf, he.2 O H σ F r w _ fun O' H' v Fv F' rm rs s => by
    have hl : i < env1.length := by rw [← rs.len, r.len]; exact hi
    obtain ⟨F1, F2, Fi, ef, _, k⟩ := RepS.drop i (some v) hl rs
    subst ef
    refine g O' H' _ (F1 ++ (Fv ++ F2)) (k v (.own m) Fv rm) ((s.permR perm_drop).dropR) fun j m' z => ?_
    have hne : i ≠ j := fun q => hio m' (q ▸ z)
    obtain ⟨m2, z2⟩ := he.1 j m' z
    exact ⟨⟨m2, by rw [List.getElem?_set_ne hne]; exact z2⟩, List.getElem?_set_ne hne⟩⟩
theorem x1_ret (he : Ev X e env m env1) : Ex1 X (.Return (some e) pos) env (.rt m env1) := fun O H σ F r w D g =>
  ⟨_, ps_ret pe_w, he.2 O H σ F r w _ fun O' H' v Fv F' rm rs s => g O' H' σ v Fv F' rm rs s (Pins.of he.1)⟩
theorem x1_retN : Ex1 X (.Return none pos) env (.rt (.val .none) env) := fun O H σ F r w D g =>
  ⟨_, ps_retN, g O H σ .non [] F ⟨rfl, rfl⟩ r (Step.refl w) Pins.refl⟩
theorem x1_expr (he : Ev X e env m env1) (hs : swapsWith e none pos.line X.env = pure false := by rfl) : Ex1 X (.Expr e pos) env (.nx env1) := fun O H σ F r w D g =>
  ⟨_, ps_expr pe_w hs, he.2 O H σ F r w _ fun O' H' v Fv F' rm rs s => g O' H' σ F' rs s.dropL (Pins.of he.1)⟩
theorem x1_pass : Ex1 X (.Pass pos) env (.nx env) := fun O H σ F r w D g => ⟨_, ps_pass, g O H σ F r (Step.refl w) Pins.refl⟩
theorem x1_break : Ex1 X (.Break pos) env (.bk env) := fun O H σ F r w D g => ⟨_, ps_break, g O H σ F r (Step.refl w) Pins.refl⟩
theorem x1_cont : Ex1 X (.Continue pos) env (.ct env) := fun O H σ F r w D g => ⟨_, ps_continue, g O H σ F r (Step.refl w) Pins.refl⟩
theorem x1_if {k : Bool} {s1 s2 : List Stmt} (hc : Tv X c env k env1) (h1 : k = true → Ex X s1 env1 out) (h2 : k = false → Ex X s2 env1 out) : Ex1 X (.If c s1 s2 pos) env out := fun O H σ F r w D g =>
  ⟨_, ps_if pt_w pss_w pss_w, hc.2 O H σ F r w _ fun O' H' F' rs s => by
    cases k with
    | true => rw [if_pos rfl]; exact h1 rfl O' H' σ F' rs s.wf D (g.back w s (Pins.of hc.1))
    | false => rw [if_neg Bool.false_ne_true]; exact h2 rfl O' H' σ F' rs s.wf D (g.back w s (Pins.of hc.1))⟩
theorem set_same {α : Type} : ∀ {l : List α} {i : Nat} {a : α}, l[i]? = some a → l.set i a = l
  | [], _, _, h => by simp at h
  | b :: l, 0, a, h => by
    have e : b = a := by simpa using h
    rw [e]; rfl
  | b :: l, i + 1, a, h => by
    show b :: l.set i a = b :: l
    rw [set_same (by simpa using h)]
/-- a slot's thing is frozen -/
theorem ex_frz (i : Nat) (h : env[i]? = some (some (Sl.own m))) (k : Ex X body (env.set i (vl (frz m))) out) : Ex X body env out := fun O H σ F r w D g => by
  obtain ⟨v, F1, Fi, F2, e1, ef, p, _, kk⟩ := RepS.at r h
  subst ef
  have pm : (F1 ++ (Fi ++ F2)).Perm (Fi ++ (F1 ++ F2)) := List.perm_iff_count.mpr fun a => by simp only [List.count_append]; omega
  have s : Step O H (F1 ++ (Fi ++ F2)) (fun a => O a ∧ a ∉ Fi) H (F1 ++ F2) := (Step.freeze (w.perm pm)).permL pm.symm
  have r' : RepS X.K (fun a => O a ∧ a ∉ Fi) H (env.set i (vl (frz m))) (σ.set i (some v)) (F1 ++ ([] ++ F2)) :=
    kk (fun a => O a ∧ a ∉ Fi) H (fun _ _ z _ => z) (fun a z => .inl z.1) (fun _ _ _ z => z) v (.own (.val (frz m))) [] ⟨rfl, RepM.frz m (fun _ z => z.1) (fun a z n => n.2 z) p⟩
  rw [show σ.set i (some v) = σ from set_same e1] at r'
  refine k _ H σ _ r' s.wf D (g.back w s fun j m' z => ⟨⟨m', ?_⟩, rfl⟩)
  have hne : i ≠ j := fun q => by subst q; rw [h] at z; cases z
  rw [List.getElem?_set_ne hne]; exact z

/-! ### argument lists, displays -/
theorem ea_nil : EvAs X [] env [] env := ⟨Io.refl _, fun O H σ F r w Q q => ⟨_, pa_nil, q O H [] F rfl r (Step.refl w)⟩⟩
theorem RepA.keep {K : PySem.W.Frag} {O O' : OW} {H H' : Hp} {σ : L2.St} (k : ∀ a o, H a = some o → ¬ O a → H' a = some o) (n : ∀ a, O' a → O a ∨ H a = none) : ∀ (as : List AK) {vs : List V}, RepA K O H σ as vs → RepA K O' H' σ as vs
  | [], _, h => h
  | .v d :: as, _, ⟨u, us, e, p, q⟩ => ⟨u, us, e, Rep.keep k n d p, RepA.keep k n as q⟩
  | .lend i :: as, _, ⟨u, us, e, p, q⟩ => ⟨u, us, e, p, RepA.keep k n as q⟩
theorem ea_cons {as : List AK} (he : Ev X e env (.val d) env1) (hr : EvAs X es env1 as env2) (hs : starEach (e :: es) X.env = (false, eval e X.env) :: starEach es X.env := by rfl) : EvAs X (e :: es) env (.v d :: as) env2 :=
  ⟨he.1.trans hr.1, fun O H σ F r w Q q => ⟨_, pa_cons pe_w pa_w hs, he.2 O H σ F r w _ fun O1 H1 u Fu F1 ⟨eu, ru⟩ r1 s1 => by
    subst eu
    exact hr.2 O1 H1 σ F1 r1 s1.wf _ fun O2 H2 vs F2 ra r2 s2 => q O2 H2 (u :: vs) F2 ⟨u, vs, rfl, s2.rep s1.wf ru, ra⟩ r2 (s1.trans w s2)⟩⟩
/-- a name that is lent -/
theorem ea_lend (i : Nat) {n : Str} {as : List AK} {p : Pos} {s : Sl} (h : env[i]? = some (some s)) (hr : EvAs X es env as env2) (hN : X.N[i]? = some n := by rfl) (hv : Vis X.env.scope n := by first | exact Or.inl rfl | exact Or.inr (Or.inl rfl) | exact Or.inr (Or.inr rfl))
    (hd : (n == ("__debug__" : Str)) = false := by decide) (hcd : (n == ("__classdict__" : Str)) = false := by decide) (hs : starEach (.Name n p :: es) X.env = (false, eval (.Name n p) X.env) :: starEach es X.env := by rfl) : EvAs X (.Name n p :: es) env (.lend i :: as) env2 :=
  ⟨hr.1, fun O H σ F r w Q q => ⟨_, pa_cons (pe_var hN hv hd hcd) pa_w hs, by
    obtain ⟨v, F1, Fi, F2, e1, ef, _, _, _⟩ := RepS.at r h
    exact ⟨v, e1, hr.2 O H σ F r w _ fun O2 H2 vs F2 ra r2 s2 => q O2 H2 (v :: vs) F2 ⟨v, vs, rfl, e1, ra⟩ r2 s2⟩⟩⟩
theorem repL_of {K : PySem.W.Frag} {O : OW} {H : Hp} {σ : L2.St} : ∀ (ds : List D) {vs : List V}, RepA K O H σ (ds.map AK.v) vs → RepL K O H ds vs
  | [], _, h => h
  | d :: ds, _, ⟨u, us, e, p, q⟩ => ⟨u, us, e, p, repL_of ds q⟩
theorem RepL.len {K : PySem.W.Frag} {O : OW} {H : Hp} : ∀ {ds : List D} {vs : List V}, RepL K O H ds vs → vs.length = ds.length
  | [], _, h => by rw [show _ = [] from h]; rfl
  | d :: ds, _, ⟨u, us, e, p, q⟩ => by rw [e, List.length_cons, RepL.len q, List.length_cons]
/-- (a, b, ..) -/
theorem ev_tup {ds : List D} {x1} (h : EvAs X es env (ds.map AK.v) env1) (hz : ds.length ≤ 1000 := by first | decide | simp) : Ev X (.Tuple es x1 pos) env (.val (.tup ds)) env1 :=
  ⟨h.1, fun O H σ F r w Q q => ⟨_, pe_tup pa_w, h.2 O H σ F r w _ fun O1 H1 vs F1 ra r1 s1 => by
    have rl := repL_of ds ra
    refine ⟨by rw [rl.len]; exact Nat.le_trans hz (by decide), fun p hp => ?_⟩
    have s2 : Step O1 H1 F1 O1 (upd H1 p (.tup vs)) F1 := Step.newF s1.wf hp
    have s0 : Step O1 H1 [] O1 (upd H1 p (.tup vs)) [] := Step.newF s1.wf.nil hp
    refine q O1 _ (.ref p) [] F1 ⟨rfl, p, vs, rfl, .inl ⟨fun z => ?_, .inl upd_same⟩, RepL.keep (s0.kf s1.wf.nil) s0.nw ds rl⟩ (r1.quiet s0) (s1.trans w s2)
    obtain ⟨o, e⟩ := s1.wf.dom p z
    rw [hp] at e; cases e⟩⟩
/-- [a, b, ..], owned -/
theorem repML_val {K : PySem.W.Frag} {O : OW} {H : Hp} : ∀ (ds : List D) {vs : List V}, RepL K O H ds vs → RepML K O H (ds.map M.val) vs []
  | [], _, h => ⟨h, rfl⟩
  | d :: ds, _, ⟨u, us, e, p, q⟩ => ⟨u, us, [], [], e, rfl, ⟨rfl, p⟩, repML_val ds q⟩
theorem ev_lst {ds : List D} (h : EvAs X es env (ds.map AK.v) env1) (hz : ds.length ≤ 1000 := by first | decide | simp) : Ev X (.List es pos) env (.lst (ds.map M.val)) env1 :=
  ⟨h.1, fun O H σ F r w Q q => ⟨_, pe_lst pa_w, h.2 O H σ F r w _ fun O1 H1 vs F1 ra r1 s1 => by
    have rl := repL_of ds ra
    refine ⟨by rw [rl.len]; exact Nat.le_trans hz (by decide), fun p hp => ?_⟩
    have s0 : Step O1 H1 [] (fun a => O1 a ∨ a = p) (upd H1 p (.lst vs)) [p] := Step.new (G := []) s1.wf.nil hp
    refine q _ _ (.ref p) [p] F1 ⟨p, vs, [], rfl, rfl, upd_same, repML_val ds (RepL.keep (s0.kf s1.wf.nil) s0.nw ds rl)⟩ (r1.quiet s0) (s1.trans w (s0.quiet s1.wf))⟩⟩
theorem frzL_val (ds : List D) : frzL (ds.map M.val) = ds := by
  rw [frzL_eq, List.map_map]
  exact List.map_id ds
theorem ev_lstF {ds : List D} (h : EvAs X es env (ds.map AK.v) env1) (hz : ds.length ≤ 1000 := by first | decide | simp) : Ev X (.List es pos) env (.val (.lst ds)) env1 :=
  (ev_lst h hz).frz.eq (by show M.val (.lst (frzL (ds.map M.val))) = _; rw [frzL_val])
end

/-! ### functions -/
/-- called with ds, all frozen, it gives r and changes nothing -/
def FS0 (K : PySem.W.Frag) (ds : List D) (r : M) : Sp := fun vs H Q _ => ∃ O, Wf O H [] ∧ RepL K O H ds vs ∧ ∀ (O' : OW) (H' : Hp) (v : V) (Fv : List Addr), RepM K O' H' r v Fv → Step O H [] O' H' Fv → Q v H'
/-- one argument is lent: its thing m becomes m' -/
def FS1 (K : PySem.W.Frag) (pre : List D) (m : M) (post : List D) (r : M) (m' : M) : Sp := fun vs H Q _ => ∃ (O : OW) (u0 : V) (F0 : List Addr) (vs1 vs2 : List V), Wf O H F0 ∧ RepM K O H m u0 F0 ∧ vs = vs1 ++ u0 :: vs2 ∧ RepL K O H pre vs1 ∧ RepL K O H post vs2 ∧
  ∀ (O' : OW) (H' : Hp) (v : V) (Fv F1 : List Addr), RepM K O' H' r v Fv → RepM K O' H' m' u0 F1 → Step O H F0 O' H' (Fv ++ F1) → Q v H'
/-- a def of the module -/
def Fn (P : Program) (w : World) (K : PySem.W.Frag) (mg : Str → Option Value) (base : Heap) (x : Str) (n k : Nat) (sp : Sp) : Prop :=
  ∃ (f : Addr) (fd : FuncData) (ps : List Str), ps.length = n ∧ FnOk P w K mg base CX0 k f fd ps sp ∧ mg x = some (.ref f) ∧ PySem.W.keepIn K (.ref f) = true ∧ Binds K fd ps []
section
variable {X : Cx} {env env1 env2 : Sls} {e : Expr} {es : List Expr} {pos p : Pos} {n : Str} {k j : Nat} {r m m' : M}
theorem ev_call {ds : List D} (G : Fn X.prog X.w X.K X.mg X.base n j k (FS0 X.K ds r)) (hr : Room k X.A) (ha : EvAs X (e :: es) env (ds.map AK.v) env1) (hg : Gl X n := by rfl)
    (hdb : (n == ("__debug__" : Str)) = false := by decide) (he : starEach (e :: es) X.env = (false, eval e X.env) :: starEach es X.env := by rfl) (hpl : (backTo pos (starEach es X.env)).any (·.1) = false := by rfl) :
    Ev X (.Call (.Name n p) (e :: es) [] pos) env r env1 := by
  obtain ⟨f, fd, ps, _, G, hm, hk, hb⟩ := G
  refine ⟨ha.1, fun O H σ F rs w Q q => ⟨_, pe_call G hr hg hm hk hb .nil pass0 pa_w hdb he hpl, ha.2 O H σ F rs w _ fun O1 H1 vs F1 ra r1 s1 => ?_⟩⟩
  show FS0 X.K ds r (vs ++ []) H1 Q _
  rw [List.append_nil]
  exact ⟨O1, s1.wf.nil, repL_of ds ra, fun O2 H2 v Fv rv s2 => q O2 H2 v Fv F1 rv (r1.quiet s2) (s1.trans w (s2.quiet s1.wf))⟩
end
end Lin

end

section
namespace Lin
open PySem PySem.Spec PyProof.Rows L2

/-! ### defs -/
def start0 (N : List Str) (ds : List D) : Sls := ds.map vl ++ List.replicate (N.length - ds.length) none
theorem repS_none {K : PySem.W.Frag} {O : OW} {H : Hp} : ∀ j : Nat, RepS K O H (List.replicate j none) (List.replicate j none) []
  | 0 => ⟨rfl, rfl⟩
  | j + 1 => ⟨none, _, rfl, repS_none j⟩
theorem repS_start {K : PySem.W.Frag} {O : OW} {H : Hp} (j : Nat) : ∀ (ds : List D) {vs : List V}, RepL K O H ds vs → RepS K O H (ds.map vl ++ List.replicate j none) (vs.map some ++ List.replicate j none) []
  | [], _, h => by rw [show _ = [] from h]; exact repS_none j
  | d :: ds, _, ⟨u, us, e, p, q⟩ => by
    rw [e]
    exact ⟨u, _, [], [], rfl, rfl, ⟨rfl, p⟩, repS_start j ds q⟩
section
variable {P : Program} {w : World} {K : PySem.W.Frag} {mg : Str → Option Value} {base : Heap} {x qual : Str} {st : Stmt} {f : Addr} {fd : FuncData} {N ps : List Str} {k : Nat} {ds : List D} {r : M} {env0 env' : Sls}
/-- a def that changes nothing, by its body -/
theorem fn0 (F : Fun K x qual st f fd) (S : FnScope N ps (defScope st)) (b : Binds K fd ps []) (g : mg x = some (.ref f)) (hl : ds.length = ps.length) (h0 : env0 = start0 N ds)
    (body : ∀ (cdv : Value) (A : Around) (outer : List Env) (s : Shared) (H : Hp) (E : XK), Room k (A.deeper (envOfC qual (defScope st) s.heap.objs.size f cdv)) →
      ∃ env', Ex (cxOf CX0 P w K mg base N qual (defScope st) f cdv A outer s H E).nox (defBody st) env0 (.rt r env')) : Fn P w K mg base x ps.length (k + 1) (FS0 K ds r) := by
  refine ⟨f, fd, ps, rfl, F.ok S (fun vs H Q E h => ?_) (fun cdv A outer s H vs Q E hr h => ?_), g, F.kp, b⟩
  · obtain ⟨O, _, rl, _⟩ := h
    rw [rl.len, hl]
  · obtain ⟨O, wf, rl, q⟩ := h
    obtain ⟨env', ex⟩ := body cdv A outer s H E hr
    subst h0
    refine ex O H (L2.start N vs) [] ?_ wf _ fun O' H' σ' v Fv F' rm rs s' _ => q O' H' v Fv rm s'.dropR
    have z := repS_start (K := K) (O := O) (H := H) (N.length - ds.length) ds rl
    unfold L2.start start0
    rw [rl.len]
    exact z
/-- one that ends without return -/
theorem fn0n (F : Fun K x qual st f fd) (S : FnScope N ps (defScope st)) (b : Binds K fd ps []) (g : mg x = some (.ref f)) (hl : ds.length = ps.length) (h0 : env0 = start0 N ds)
    (body : ∀ (cdv : Value) (A : Around) (outer : List Env) (s : Shared) (H : Hp) (E : XK), Room k (A.deeper (envOfC qual (defScope st) s.heap.objs.size f cdv)) →
      ∃ env', Ex (cxOf CX0 P w K mg base N qual (defScope st) f cdv A outer s H E).nox (defBody st) env0 (.nx env')) : Fn P w K mg base x ps.length (k + 1) (FS0 K ds (.val .none)) := by
  refine ⟨f, fd, ps, rfl, F.ok S (fun vs H Q E h => ?_) (fun cdv A outer s H vs Q E hr h => ?_), g, F.kp, b⟩
  · obtain ⟨O, _, rl, _⟩ := h
    rw [rl.len, hl]
  · obtain ⟨O, wf, rl, q⟩ := h
    obtain ⟨env', ex⟩ := body cdv A outer s H E hr
    subst h0
    refine ex O H (L2.start N vs) [] ?_ wf _ fun O' H' σ' F' rs s' _ => q O' H' .non [] ⟨rfl, rfl⟩ (Step.dropR (F' := []) s')
    have z := repS_start (K := K) (O := O) (H := H) (N.length - ds.length) ds rl
    unfold L2.start start0
    rw [rl.len]
    exact z
end

/-! ### operators on ints -/
section
variable {X : Cx} {env env1 env2 env3 : Sls} {a b c e : Expr} {es : List Expr} {pos : Pos} {d x y : D} {m : M} {K : PySem.W.Frag}
theorem ro_int0 {g : Int → Int → V} {i j : Int} (h : ∀ (O : OW) (H : Hp), Rep K O H d (g i j)) : RO K (rI0 g) (.int i) (.int j) (.val d) :=
  ro_val fun O H u v Q hu hv q => ⟨i, j, hu, hv, q _ (h O H)⟩
theorem ro_int {C : Int → Int → Prop} {g : Int → Int → V} {i j : Int} (hc : C i j) (h : ∀ (O : OW) (H : Hp), Rep K O H d (g i j)) : RO K (rI C g) (.int i) (.int j) (.val d) :=
  ro_val fun O H u v Q hu hv q => ⟨i, j, hu, hv, hc, q _ (h O H)⟩
variable {i j : Int}
theorem ev_add (ha : Ev X a env (.val (.int i)) env1) (hb : Ev X b env1 (.val (.int j)) env2) : Ev X (.BinOp a .Add b pos) env (.val (.int (i + j))) env2 := ev_bin op_add ha hb (ro_int0 fun _ _ => rfl)
theorem ev_sub (ha : Ev X a env (.val (.int i)) env1) (hb : Ev X b env1 (.val (.int j)) env2) : Ev X (.BinOp a .Sub b pos) env (.val (.int (i - j))) env2 := ev_bin op_sub ha hb (ro_int0 fun _ _ => rfl)
theorem ev_mul (ha : Ev X a env (.val (.int i)) env1) (hb : Ev X b env1 (.val (.int j)) env2) (hc : CMul i j) : Ev X (.BinOp a .Mult b pos) env (.val (.int (i * j))) env2 := ev_bin op_mul ha hb (ro_int hc fun _ _ => rfl)
theorem ev_mod (ha : Ev X a env (.val (.int i)) env1) (hb : Ev X b env1 (.val (.int j)) env2) (hc : 0 < j) : Ev X (.BinOp a .Mod b pos) env (.val (.int (i % j))) env2 := ev_bin op_mod ha hb (ro_int hc fun _ _ => rfl)
theorem ev_div (ha : Ev X a env (.val (.int i)) env1) (hb : Ev X b env1 (.val (.int j)) env2) (hc : CDiv i j) : Ev X (.BinOp a .FloorDiv b pos) env (.val (.int (i / j))) env2 := ev_bin op_fdiv ha hb (ro_int hc fun _ _ => rfl)
theorem ev_pow (ha : Ev X a env (.val (.int i)) env1) (hb : Ev X b env1 (.val (.int j)) env2) (hc : CPow i j) : Ev X (.BinOp a .Pow b pos) env (.val (.int (i ^ j.toNat))) env2 := ev_bin op_pow ha hb (ro_int hc fun _ _ => rfl)
theorem ev_neg (ha : Ev X a env (.val (.int i)) env1) : Ev X (.UnaryOp .USub a pos) env (.val (.int (-i))) env1 :=
  ⟨ha.1, fun O H σ F r w Q q => ⟨_, pe_un un_neg pe_w, ha.2 O H σ F r w _ fun O' H' v Fv F' ⟨ev, rv⟩ rs s => by
    subst ev
    exact ⟨i, rv, q O' H' _ [] F' ⟨rfl, rfl⟩ rs s⟩⟩⟩
theorem tv_lt (ha : Ev X a env (.val (.int i)) env1) (hb : Ev X b env1 (.val (.int j)) env2) : Tv X (.Compare a [.Lt] [b] pos) env (decide (i < j)) env2 := tv_cmp op_lt ha hb (ro_int0 fun _ _ => rfl)
theorem tv_le (ha : Ev X a env (.val (.int i)) env1) (hb : Ev X b env1 (.val (.int j)) env2) : Tv X (.Compare a [.LtE] [b] pos) env (decide (i ≤ j)) env2 := tv_cmp op_le ha hb (ro_int0 fun _ _ => rfl)
theorem tv_gt (ha : Ev X a env (.val (.int i)) env1) (hb : Ev X b env1 (.val (.int j)) env2) : Tv X (.Compare a [.Gt] [b] pos) env (decide (j < i)) env2 := tv_cmp op_gt ha hb (ro_int0 fun _ _ => rfl)
theorem tv_ge (ha : Ev X a env (.val (.int i)) env1) (hb : Ev X b env1 (.val (.int j)) env2) : Tv X (.Compare a [.GtE] [b] pos) env (decide (j ≤ i)) env2 := tv_cmp op_ge ha hb (ro_int0 fun _ _ => rfl)
theorem ev_lt (ha : Ev X a env (.val (.int i)) env1) (hb : Ev X b env1 (.val (.int j)) env2) : Ev X (.Compare a [.Lt] [b] pos) env (.val (.bool (decide (i < j)))) env2 := ev_cmp op_lt ha hb (ro_int0 fun _ _ => rfl)
theorem ev_le (ha : Ev X a env (.val (.int i)) env1) (hb : Ev X b env1 (.val (.int j)) env2) : Ev X (.Compare a [.LtE] [b] pos) env (.val (.bool (decide (i ≤ j)))) env2 := ev_cmp op_le ha hb (ro_int0 fun _ _ => rfl)
theorem ev_gt (ha : Ev X a env (.val (.int i)) env1) (hb : Ev X b env1 (.val (.int j)) env2) : Ev X (.Compare a [.Gt] [b] pos) env (.val (.bool (decide (j < i)))) env2 := ev_cmp op_gt ha hb (ro_int0 fun _ _ => rfl)
theorem ev_ge (ha : Ev X a env (.val (.int i)) env1) (hb : Ev X b env1 (.val (.int j)) env2) : Ev X (.Compare a [.GtE] [b] pos) env (.val (.bool (decide (j ≤ i)))) env2 := ev_cmp op_ge ha hb (ro_int0 fun _ _ => rfl)
/-- scalars that are compared by == -/
def scalD : D → D → Bool
  | .int _, .int _ => true
  | .bool _, .bool _ => true
  | .str _, .str _ => true
  | _, _ => false
end
end Lin

end

section
namespace Lin
open PySem PySem.Spec PyProof.Rows L2

section
variable {X : Cx} {env env1 env2 env3 : Sls} {a b c e : Expr} {es : List Expr} {pos p : Pos} {d x y : D} {m : M} {K : PySem.W.Frag} {O : OW} {H : Hp} {n : Str}
/-! ### items -/
theorem RepL.get : ∀ {ds : List D} {xs : List V} {i : Nat}, RepL K O H ds xs → ds[i]? = some d → ∃ v, xs[i]? = some v ∧ Rep K O H d v
  | [], _, _, _, h => by simp at h
  | d' :: ds, _, 0, ⟨v, vs, e, p, q⟩, h => by
    have e' : d' = d := by simpa using h
    subst e e'
    exact ⟨v, rfl, p⟩
  | d' :: ds, _, i + 1, ⟨v, vs, e, p, q⟩, h => by
    subst e
    obtain ⟨u, z, r⟩ := RepL.get (i := i) q (by simpa using h)
    exact ⟨u, by simpa using z, r⟩
theorem RepL.atI {ds : List D} {xs : List V} {i : Int} (r : RepL K O H ds xs) (h : L2.atI ds i = some d) : ∃ v, L2.atI xs i = some v ∧ Rep K O H d v := by
  unfold L2.atI at h ⊢
  rw [r.len]
  cases q : ixN ds.length i with
  | none => rw [q] at h; cases h
  | some j =>
    rw [q] at h
    exact r.get h
theorem RepL.app : ∀ {ds : List D} {xs : List V} {es : List D} {ys : List V}, RepL K O H ds xs → RepL K O H es ys → RepL K O H (ds ++ es) (xs ++ ys)
  | [], _, _, _, h, k => by rw [show _ = [] from h]; exact k
  | d :: ds, _, _, _, ⟨v, vs, e, p, q⟩, k => by
    rw [e]
    exact ⟨v, _, rfl, p, RepL.app q k⟩
theorem repL_ints : ∀ (ns : List Int), RepL K O H (ns.map D.int) (ns.map V.int)
  | [] => rfl
  | n :: ns => ⟨_, _, rfl, rfl, repL_ints ns⟩
theorem RepL.ints : ∀ (ns : List Int) {xs : List V}, RepL K O H (ns.map D.int) xs → xs = ns.map V.int
  | [], _, h => h
  | n :: ns, _, ⟨v, vs, e, p, q⟩ => by rw [e, show v = V.int n from p, RepL.ints ns q]; rfl

theorem ev_ix {r : R2} (hi : IxR X r) (ha : Ev X a env (.val x) env1) (hb : Ev X b env1 (.val y) env2) (hr : RO X.K r x y m) (hs : PlainIx b := by exact fun _ _ => rfl) : Ev X (.Subscript a b pos) env m env2 :=
  ⟨ha.1.trans hb.1, fun O H σ F rs w Q q => ⟨_, pe_ix hi pe_w pe_w hs, two ha hb rs w fun O' H' u v F' ru rv r' s' =>
    hr O' H' s'.wf.nil u v ru rv Q fun O2 H2 z Fz rz s2 => q O2 H2 z Fz F' rz (r'.quiet s2) (s'.trans w (s2.quiet s'.wf))⟩⟩
theorem ro_ixL {ds : List D} {i : Int} (h : L2.atI ds i = some d) : RO K (rIxL K) (.lst ds) (.int i) (.val d) :=
  ro_val fun O H u v Q ⟨a, xs, e, _, hp, rl⟩ hv q => by
    obtain ⟨z, hz, rz⟩ := rl.atI h
    exact ⟨a, xs, i, z, e, hv, .inl (.inl hp), hz, q z rz⟩
theorem ro_ixT {ds : List D} {i : Int} (h : L2.atI ds i = some d) : RO K (rIxT K) (.tup ds) (.int i) (.val d) :=
  ro_val fun O H u v Q ⟨a, xs, e, hp, rl⟩ hv q => by
    obtain ⟨z, hz, rz⟩ := rl.atI h
    exact ⟨a, xs, i, z, e, hv, hp.imp (fun p => p.2) id, hz, q z rz⟩
theorem ev_ixL {ds : List D} {i : Int} (ha : Ev X a env (.val (.lst ds)) env1) (hb : Ev X b env1 (.val (.int i)) env2) (h : L2.atI ds i = some d) (hs : PlainIx b := by exact fun _ _ => rfl) : Ev X (.Subscript a b pos) env (.val d) env2 := ev_ix ix_list ha hb (ro_ixL h) hs
theorem ev_ixT {ds : List D} {i : Int} (ha : Ev X a env (.val (.tup ds)) env1) (hb : Ev X b env1 (.val (.int i)) env2) (h : L2.atI ds i = some d) (hs : PlainIx b := by exact fun _ _ => rfl) : Ev X (.Subscript a b pos) env (.val d) env2 := ev_ix ix_tup ha hb (ro_ixT h) hs
theorem ro_cat {ds es : List D} (hz : ds.length + es.length ≤ sizeLine) : RO K rCat (.lst ds) (.lst es) (.lst ((ds ++ es).map M.val)) :=
  fun O H w u v ⟨a, xs, eu, _, ha, ra⟩ ⟨b, ys, ev, _, hb, rb⟩ Q q => ⟨a, b, xs, ys, eu, ev, ha, hb, by rw [ra.len, rb.len]; exact hz, fun p hp => by
    have s0 : Step O H [] (fun a => O a ∨ a = p) (upd H p (.lst (xs ++ ys))) [p] := Step.new (G := []) w hp
    exact q _ _ (.ref p) [p] ⟨p, xs ++ ys, [], rfl, rfl, upd_same, repML_val _ (RepL.keep (s0.kf w) s0.nw _ (ra.app rb))⟩ s0⟩
theorem ev_cat {ds es : List D} (ha : Ev X a env (.val (.lst ds)) env1) (hb : Ev X b env1 (.val (.lst es)) env2) (hz : ds.length + es.length ≤ sizeLine) : Ev X (.BinOp a .Add b pos) env (.lst ((ds ++ es).map M.val)) env2 := ev_bin op_cat ha hb (ro_cat hz)

/-! ### calls of what is built in -/
theorem ev_cty {T : String} {r : List V → Hp → VK → Prop} {ds : List D} (hc : CallR X (.type T) r) (hr : RF X.K r ds m) (ha : EvAs X (e :: es) env (ds.map AK.v) env1) (hm : X.mg n = none) (hv : bootBuiltins n = some (.type T)) (hg : Gl X n := by rfl) (hn : n ≠ "__name__" := by decide) (hdb : (n == ("__debug__" : Str)) = false := by decide) 
    (he : starEach (e :: es) X.env = (false, eval e X.env) :: starEach es X.env := by rfl) (hpl : (backTo pos (starEach es X.env)).any (·.1) = false := by rfl) : Ev X (.Call (.Name n p) (e :: es) [] pos) env m env1 :=
  ⟨ha.1, fun O H σ F rs w Q q => ⟨_, pe_callTy hc hg hm hv pa_w hn hdb he hpl, ha.2 O H σ F rs w _ fun O1 H1 vs F1 ra r1 s1 =>
    hr O1 H1 s1.wf.nil vs (repL_of ds ra) Q fun O2 H2 z Fz rz s2 => q O2 H2 z Fz F1 rz (r1.quiet s2) (s1.trans w (s2.quiet s1.wf))⟩⟩
theorem ev_cbi {id : String} {r : List V → Hp → VK → Prop} {ds : List D} (hc : CallR X (.builtin id) r) (hr : RF X.K r ds m) (ha : EvAs X (e :: es) env (ds.map AK.v) env1) (hm : X.mg n = none) (hv : bootBuiltins n = some (.builtin id)) (hg : Gl X n := by rfl) (hn : n ≠ "__name__" := by decide) (hdb : (n == ("__debug__" : Str)) = false := by decide) 
    (he : starEach (e :: es) X.env = (false, eval e X.env) :: starEach es X.env := by rfl) (hpl : (backTo pos (starEach es X.env)).any (·.1) = false := by rfl) : Ev X (.Call (.Name n p) (e :: es) [] pos) env m env1 :=
  ⟨ha.1, fun O H σ F rs w Q q => ⟨_, pe_callB hc hg hm hv pa_w hn hdb he hpl, ha.2 O H σ F rs w _ fun O1 H1 vs F1 ra r1 s1 =>
    hr O1 H1 s1.wf.nil vs (repL_of ds ra) Q fun O2 H2 z Fz rz s2 => q O2 H2 z Fz F1 rz (r1.quiet s2) (s1.trans w (s2.quiet s1.wf))⟩⟩
/-- a scalar answer -/
theorem rf_val {r : List V → Hp → VK → Prop} {ds : List D} (h : ∀ (O : OW) (H : Hp) (vs : List V) (Q : VK), RepL K O H ds vs → (∀ z, Rep K O H d z → Q z H) → r vs H Q) : RF K r ds (.val d) :=
  fun O H w vs rl Q q => h O H vs Q rl fun z rz => q O H z [] ⟨rfl, rz⟩ (Step.refl w)
theorem ev_intI {i : Int} (ha : Ev X e env (.val (.int i)) env1) (hm : X.mg "int" = none) (hg : Gl X "int" := by rfl) (he : starEach [e] X.env = (false, eval e X.env) :: starEach [] X.env := by rfl) (hpl : (backTo pos (starEach [] X.env)).any (·.1) = false := by rfl) : Ev X (.Call (.Name "int" p) [e] [] pos) env (.val (.int i)) env1 :=
  ev_cty (ds := [.int i]) call_int1 (rf_val fun O H vs Q ⟨u, us, e, hu, hn⟩ q => .inl ⟨i, by rw [e, show u = V.int i from hu, show us = [] from hn], q _ rfl⟩) (ea_cons ha ea_nil he) hm boot_int hg (by decide) (by decide) he hpl
theorem ev_lenL {ds : List D} (ha : Ev X e env (.val (.lst ds)) env1) (hm : X.mg "len" = none) (hg : Gl X "len" := by rfl) (he : starEach [e] X.env = (false, eval e X.env) :: starEach [] X.env := by rfl) (hpl : (backTo pos (starEach [] X.env)).any (·.1) = false := by rfl) : Ev X (.Call (.Name "len" p) [e] [] pos) env (.val (.int ds.length)) env1 :=
  ev_cbi (ds := [.lst ds]) call_len_seq (rf_val fun O H vs Q ⟨u, us, e, ⟨a, xs, hu, _, hp, rl⟩, hn⟩ q => ⟨a, xs, by rw [e, hu, show us = [] from hn], .inl (.inl (.inl hp)), by rw [rl.len]; exact q _ rfl⟩) (ea_cons ha ea_nil he) hm PySem.boot_len hg (by decide) (by decide) he hpl
theorem ev_lenT {ds : List D} (ha : Ev X e env (.val (.tup ds)) env1) (hm : X.mg "len" = none) (hg : Gl X "len" := by rfl) (he : starEach [e] X.env = (false, eval e X.env) :: starEach [] X.env := by rfl) (hpl : (backTo pos (starEach [] X.env)).any (·.1) = false := by rfl) : Ev X (.Call (.Name "len" p) [e] [] pos) env (.val (.int ds.length)) env1 :=
  ev_cbi (ds := [.tup ds]) call_len_seq (rf_val fun O H vs Q ⟨u, us, e, ⟨a, xs, hu, hp, rl⟩, hn⟩ q => ⟨a, xs, by rw [e, hu, show us = [] from hn], .inr (hp.imp (fun p => p.2) id), by rw [rl.len]; exact q _ rfl⟩) (ea_cons ha ea_nil he) hm PySem.boot_len hg (by decide) (by decide) he hpl
end
end Lin

end

section
namespace Lin
open PySem PySem.Spec PyProof.Rows L2

def Sl.put : Sl → M → Sl
  | .own _, m => .own m
  | .io _, m => .io m
theorem Sl.put_m (s : Sl) (m : M) : (s.put m).m = m := by cases s <;> rfl
theorem Io.put {env : Sls} {i : Nat} {s : Sl} {m : M} (h : env[i]? = some (some s)) : Io env (env.set i (some (s.put m))) := fun j m' z => by
  by_cases e : i = j
  · subst e
    rw [h] at z
    have hl : i < env.length := (List.getElem?_eq_some_iff.mp h).1
    cases z
    exact ⟨m, by rw [List.getElem?_set_self hl]; rfl⟩
  · exact ⟨m', by rw [List.getElem?_set_ne e]; exact z⟩
theorem repA_split {K : PySem.W.Frag} {O : OW} {H : Hp} {σ : L2.St} {i : Nat} {post : List D} {u0 : V} (h0 : σ[i]? = some (some u0)) : ∀ (pre : List D) {vs : List V}, RepA K O H σ (pre.map AK.v ++ AK.lend i :: post.map AK.v) vs → ∃ vs1 vs2, vs = vs1 ++ u0 :: vs2 ∧ RepL K O H pre vs1 ∧ RepL K O H post vs2
  | [], _, ⟨u, us, e, p, q⟩ => by
    have e1 : u = u0 := by rw [h0] at p; exact (Option.some.inj (Option.some.inj p)).symm
    subst e1
    exact ⟨[], us, e, rfl, repL_of post q⟩
  | d :: pre, _, ⟨u, us, e, p, q⟩ => by
    obtain ⟨v1, v2, e2, a, b⟩ := repA_split h0 pre q
    exact ⟨u :: v1, v2, by rw [e, e2]; rfl, ⟨u, v1, rfl, p, a⟩, b⟩
section
variable {X : Cx} {env env1 env2 : Sls} {e : Expr} {es : List Expr} {pos p : Pos} {n : Str} {k j i : Nat} {r m m' : M} {s : Sl}
/-- a call to which one name is lent -/
theorem ev_call1 {pre post : List D} (G : Fn X.prog X.w X.K X.mg X.base n j k (FS1 X.K pre m post r m')) (hr : Room k X.A) (ha : EvAs X (e :: es) env (pre.map AK.v ++ AK.lend i :: post.map AK.v) env1) (hi : env1[i]? = some (some s)) (hsm : s.m = m := by rfl) (hg : Gl X n := by rfl)
    (hdb : (n == ("__debug__" : Str)) = false := by decide) (he : starEach (e :: es) X.env = (false, eval e X.env) :: starEach es X.env := by rfl) (hpl : (backTo pos (starEach es X.env)).any (·.1) = false := by rfl) :
    Ev X (.Call (.Name n p) (e :: es) [] pos) env r (env1.set i (some (s.put m'))) := by
  obtain ⟨f, fd, ps, _, G, hm, hk, hb⟩ := G
  subst hsm
  refine ⟨ha.1.trans (Io.put hi), fun O H σ F rs w Q q => ⟨_, pe_call G hr hg hm hk hb .nil pass0 pa_w hdb he hpl, ha.2 O H σ F rs w _ fun O1 H1 vs F1 ra r1 s1 => ?_⟩⟩
  show FS1 X.K pre s.m post r m' (vs ++ []) H1 Q _
  rw [List.append_nil]
  obtain ⟨v, G1, Gi, G2, e1, ef, rm, _, kk⟩ := RepS.at r1 hi
  subst ef
  obtain ⟨vs1, vs2, ev, a1, a2⟩ := repA_split e1 pre ra
  have pm : (Gi ++ (G1 ++ G2)).Perm (G1 ++ (Gi ++ G2)) := List.perm_iff_count.mpr fun a => by simp only [List.count_append]; omega
  have wf := s1.wf.perm pm.symm
  refine ⟨O1, v, Gi, vs1, vs2, wf.left, rm, ev, a1, a2, fun O2 H2 z Fz F2 rz rm2 s2 => ?_⟩
  have rs2 := kk O2 H2 (s2.kf wf.left) s2.nw (fun a o ha h => s2.frame a o h fun q => wf.apart q ha) v (s.put m') F2 (by rw [Sl.put_m]; exact rm2)
  rw [set_same e1] at rs2
  refine q O2 H2 z Fz _ rz rs2 (s1.trans w (((s2.beside wf).permL pm).permR (List.perm_iff_count.mpr fun a => by simp only [List.count_append]; omega)))
end
section
variable {P : Program} {w : World} {K : PySem.W.Frag} {mg : Str → Option Value} {base : Heap} {x qual : Str} {st : Stmt} {f : Addr} {fd : FuncData} {N ps : List Str} {k : Nat} {pre post : List D} {r m m' : M} {env0 : Sls}
def start1 (N : List Str) (pre : List D) (m : M) (post : List D) : Sls := pre.map vl ++ some (Sl.io m) :: (post.map vl ++ List.replicate (N.length - (pre.length + post.length + 1)) none)
theorem repS_start1 {O : OW} {H : Hp} {u0 : V} {F0 : List Addr} (rm : RepM K O H m u0 F0) {tl : Sls} {st : L2.St} (rt : RepS K O H tl st []) : ∀ (pre : List D) {vs : List V}, RepL K O H pre vs → RepS K O H (pre.map vl ++ some (Sl.io m) :: tl) (vs.map some ++ some u0 :: st) F0
  | [], _, h => by
    rw [show _ = [] from h]
    exact ⟨u0, st, F0, [], rfl, (List.append_nil _).symm, rm, rt⟩
  | d :: pre, _, ⟨u, us, e, p, q⟩ => by
    rw [e]
    exact ⟨u, _, [], F0, rfl, rfl, ⟨rfl, p⟩, repS_start1 rm rt pre q⟩
/-- a def to which one argument is lent, by its body -/
theorem fn1 (F : Fun K x qual st f fd) (S : FnScope N ps (defScope st)) (b : Binds K fd ps []) (g : mg x = some (.ref f)) (hl : pre.length + post.length + 1 = ps.length) (h0 : env0 = start1 N pre m post)
    (body : ∀ (cdv : Value) (A : Around) (outer : List Env) (s : Shared) (H : Hp) (E : XK), Room k (A.deeper (envOfC qual (defScope st) s.heap.objs.size f cdv)) →
      ∃ env', Ex (cxOf CX0 P w K mg base N qual (defScope st) f cdv A outer s H E).nox (defBody st) env0 (.rt r env') ∧ env'[pre.length]? = some (some (Sl.io m'))) : Fn P w K mg base x ps.length (k + 1) (FS1 K pre m post r m') := by
  refine ⟨f, fd, ps, rfl, F.ok S (fun vs H Q E h => ?_) (fun cdv A outer s H vs Q E hr h => ?_), g, F.kp, b⟩
  · obtain ⟨O, u0, F0, v1, v2, _, _, e, a1, a2, _⟩ := h
    rw [e, List.length_append, List.length_cons, a1.len, a2.len, ← hl]; omega
  · obtain ⟨O, u0, F0, v1, v2, wf, rm, e, a1, a2, q⟩ := h
    obtain ⟨env', ex, he'⟩ := body cdv A outer s H E hr
    subst h0
    have hst : L2.start N vs = v1.map some ++ some u0 :: (v2.map some ++ List.replicate (N.length - (pre.length + post.length + 1)) none) := by
      unfold L2.start
      rw [e, List.length_append, List.length_cons, a1.len, a2.len, List.map_append, List.map_cons, List.append_assoc, List.cons_append, show pre.length + (post.length + 1) = pre.length + post.length + 1 by omega]
    have rs0 := repS_start1 (K := K) rm (repS_start (K := K) (O := O) (H := H) (N.length - (pre.length + post.length + 1)) post a2) pre a1
    rw [← hst] at rs0
    refine ex O H (L2.start N vs) F0 rs0 wf _ fun O' H' σ' v Fv F' rv rs s' pn => ?_
    have hin : (start1 N pre m post)[pre.length]? = some (some (Sl.io m)) := by
      unfold start1
      rw [List.getElem?_append_right (by rw [List.length_map]; exact Nat.le_refl _), List.length_map, Nat.sub_self]; rfl
    obtain ⟨_, hp⟩ := pn _ m hin
    obtain ⟨u, G1, Gi, G2, e1, ef, rmi, _, _⟩ := RepS.at rs he'
    subst ef
    have hu : (L2.start N vs)[pre.length]? = some (some u0) := by
      rw [hst, List.getElem?_append_right (by rw [List.length_map, a1.len]; exact Nat.le_refl _), List.length_map, a1.len, Nat.sub_self]; rfl
    have e2 : u = u0 := by
      rw [hp, hu] at e1
      exact (Option.some.inj (Option.some.inj e1)).symm
    subst e2
    exact q O' H' v Fv Gi rv rmi ((s'.permR (List.perm_iff_count.mpr fun a => by simp only [List.count_append]; omega : (Fv ++ (G1 ++ (Gi ++ G2))).Perm ((Fv ++ Gi) ++ (G1 ++ G2)))).dropR)
end
end Lin

end

section
namespace Lin
open PySem PySem.Spec PyProof.Rows L2

section
variable {X : Cx} {env env1 env2 env3 : Sls} {a b c e : Expr} {es : List Expr} {pos p pos' apos : Pos} {d x y : D} {m : M} {ms : List M} {K : PySem.W.Frag} {O : OW} {H : Hp} {n : Str} {s : Sl} {i j : Nat}
/-! ### lists that are owned, by their name -/
theorem RepML.len : ∀ {ms : List M} {vs : List V} {F : List Addr}, RepML K O H ms vs F → vs.length = ms.length
  | [], _, _, ⟨h, _⟩ => by rw [h]; rfl
  | m :: ms, _, _, ⟨v, vs, F1, F2, e, ef, p, q⟩ => by rw [e, List.length_cons, RepML.len q, List.length_cons]
theorem RepML.get : ∀ {ms : List M} {vs : List V} {F : List Addr} {i : Nat}, RepML K O H ms vs F → ms[i]? = some (.val d) → ∃ v, vs[i]? = some v ∧ Rep K O H d v
  | [], _, _, _, _, h => by simp at h
  | m' :: ms, _, _, 0, ⟨v, vs, F1, F2, e, ef, p, q⟩, h => by
    have e' : m' = .val d := by simpa using h
    subst e e'
    exact ⟨v, rfl, p.2⟩
  | m' :: ms, _, _, i + 1, ⟨v, vs, F1, F2, e, ef, p, q⟩, h => by
    subst e
    obtain ⟨u, z, r⟩ := RepML.get (i := i) q (by simpa using h)
    exact ⟨u, by simpa using z, r⟩
theorem RepML.atI {vs : List V} {F : List Addr} {i : Int} (r : RepML K O H ms vs F) (h : L2.atI ms i = some (.val d)) : ∃ v, L2.atI vs i = some v ∧ Rep K O H d v := by
  unfold L2.atI at h ⊢
  rw [r.len]
  cases q : ixN ms.length i with
  | none => rw [q] at h; cases h
  | some j =>
    rw [q] at h
    exact r.get h
theorem RepML.set : ∀ {ms : List M} {vs : List V} {F : List Addr} {i : Nat} {v : V}, RepML K O H ms vs F → Rep K O H d v → i < ms.length → ∃ F' G, F.Perm (F' ++ G) ∧ RepML K O H (ms.set i (.val d)) (vs.set i v) F'
  | [], _, _, _, _, _, _, h => absurd h (Nat.not_lt_zero _)
  | m' :: ms, _, _, 0, u, ⟨v, vs, F1, F2, e, ef, p, q⟩, r, _ => by
    subst e ef
    exact ⟨F2, F1, List.perm_append_comm, u, vs, [], F2, rfl, rfl, ⟨rfl, r⟩, q⟩
  | m' :: ms, _, _, i + 1, u, ⟨v, vs, F1, F2, e, ef, p, q⟩, r, h => by
    subst e ef
    obtain ⟨F', G, pm, k⟩ := RepML.set (i := i) (v := u) q r (Nat.lt_of_succ_lt_succ h)
    exact ⟨F1 ++ F', G, by rw [List.append_assoc]; exact pm.append_left F1, v, vs.set i u, F1, F', rfl, rfl, p, k⟩
theorem RepML.app : ∀ {ms ns : List M} {xs ys : List V} {F G : List Addr}, RepML K O H ms xs F → RepML K O H ns ys G → RepML K O H (ms ++ ns) (xs ++ ys) (F ++ G)
  | [], _, _, _, _, _, ⟨h, e⟩, k => by rw [h, e]; exact k
  | m :: ms, _, _, _, _, _, ⟨v, vs, F1, F2, e, ef, p, q⟩, k => by
    rw [e, ef, List.append_assoc]
    exact ⟨v, _, F1, _, rfl, rfl, p, RepML.app q k⟩
/-- x[i] of an owned list, a frozen item -/
theorem ev_ixO (i : Nat) {k : Int} (hb : Ev X b env (.val (.int k)) env1) (hi : env1[i]? = some (some s)) (hm : s.m = .lst ms) (h : L2.atI ms k = some (.val d)) (hN : X.N[i]? = some n := by rfl) (hv : Vis X.env.scope n := by first | exact Or.inl rfl | exact Or.inr (Or.inl rfl) | exact Or.inr (Or.inr rfl))
    (hd : (n == ("__debug__" : Str)) = false := by decide) (hcd : (n == ("__classdict__" : Str)) = false := by decide) (hs : PlainIx b := by exact fun _ _ => rfl) (hse : ∃ t, env[i]? = some (some t) := by exact ⟨_, rfl⟩) : Ev X (.Subscript (.Name n p) b pos) env (.val d) env1 :=
  ⟨hb.1, fun O H σ F r w Q q => ⟨_, pe_ix ix_list (pe_var hN hv hd hcd) pe_w hs, by
    obtain ⟨t, ht⟩ := hse
    obtain ⟨v, F1, Fi, F2, e1, ef, _, _, _⟩ := RepS.at r ht
    refine ⟨v, e1, hb.2 O H σ F r w _ fun O1 H1 u Fu G ⟨eu, ru⟩ r1 s1 => ?_⟩
    subst eu
    obtain ⟨v', G1, Gi, G2, e2, ef', rm, _, _⟩ := RepS.at r1 hi
    have ev : v' = v := by rw [e1] at e2; exact (Option.some.inj (Option.some.inj e2)).symm
    subst ev
    rw [hm] at rm
    obtain ⟨l, xs, F', el, _, hp, rl⟩ := rm
    obtain ⟨z, hz, rz⟩ := rl.atI h
    exact ⟨l, xs, k, z, el, ru, .inl (.inl hp), hz, q O1 H1 z [] G ⟨rfl, rz⟩ r1 s1⟩⟩⟩
/-- len(x) of an owned list -/
theorem ev_lenO (i : Nat) (hi : env[i]? = some (some s)) (hm : s.m = .lst ms) (hl : X.mg "len" = none) (hN : X.N[i]? = some n := by rfl) (hv : Vis X.env.scope n := by first | exact Or.inl rfl | exact Or.inr (Or.inl rfl) | exact Or.inr (Or.inr rfl))
    (hd : (n == ("__debug__" : Str)) = false := by decide) (hcd : (n == ("__classdict__" : Str)) = false := by decide) (hg : Gl X "len" := by rfl) (he : starEach [.Name n p'] X.env = (false, eval (.Name n p') X.env) :: starEach [] X.env := by rfl) (hpl : (backTo pos (starEach [] X.env)).any (·.1) = false := by rfl) :
    Ev X (.Call (.Name "len" p) [.Name n p'] [] pos) env (.val (.int ms.length)) env :=
  ⟨Io.refl _, fun O H σ F r w Q q => ⟨_, pe_callB call_len_seq hg hl PySem.boot_len (pa_cons (pe_var hN hv hd hcd) pa_nil he) (by decide) (by decide) he hpl, by
    obtain ⟨v, F1, Fi, F2, e1, ef, rm, _, _⟩ := RepS.at r hi
    rw [hm] at rm
    obtain ⟨l, xs, F', el, _, hp, rl⟩ := rm
    exact ⟨v, e1, l, xs, by rw [el], .inl (.inl (.inl hp)), by rw [rl.len]; exact q O H _ [] F ⟨rfl, rfl⟩ r (Step.refl w)⟩⟩⟩
/-- x[k] = e of an owned list -/
theorem x1_setL (i : Nat) {k : Int} {j : Nat} (he : Ev X e env (.val d) env1) (hb : Ev X b env1 (.val (.int k)) env2) (hi : env2[i]? = some (some s)) (hm : s.m = .lst ms) (hj : ixN ms.length k = some j) (hse : ∃ t, env1[i]? = some (some t) := by exact ⟨_, rfl⟩) (hN : X.N[i]? = some n := by rfl) (hv : Vis X.env.scope n := by first | exact Or.inl rfl | exact Or.inr (Or.inl rfl) | exact Or.inr (Or.inr rfl))
    (hd : (n == ("__debug__" : Str)) = false := by decide) (hcd : (n == ("__classdict__" : Str)) = false := by decide) (hs : swapsWithSole [.Subscript (.Name n p) b pos'] e pos.line X.env = pure false := by rfl) (hw : swappedStores [.Subscript (.Name n p) b pos'] e X.env = pure none := by rfl)
    (hasg : ∀ v, assign (.Subscript (.Name n p) b pos') X.env v = (do let ov ← holding [v] (eval (.Name n p) X.env); let iv ← holding [v, ov] (eval b X.env); standAt pos'; holding [v, ov, iv] (setItem ov iv v); release [v, ov, iv] []) := by intro _; rfl) :
    Ex1 X (.Assign [.Subscript (.Name n p) b pos'] e pos) env (.nx (env2.set i (some (s.put (.lst (ms.set j (.val d))))))) := fun O H σ F r w D g =>
  ⟨_, ps_asg pe_w (pg_sub (pe_var hN hv hd hcd) pe_w set_list hasg) hs hw, he.2 O H σ F r w _ fun O1 H1 u Fu G ⟨eu, ru⟩ r1 s1 => by
    subst eu
    obtain ⟨t, ht⟩ := hse
    obtain ⟨v, F1, Fi, F2, e1, ef, _, _, _⟩ := RepS.at r1 ht
    refine ⟨v, e1, hb.2 O1 H1 σ G r1 s1.wf _ fun O2 H2 u2 Fu2 G' ⟨eu2, ru2⟩ r2 s2 => ?_⟩
    subst eu2
    obtain ⟨v', G1, Gi, G2, e2, ef', rm, _, kk⟩ := RepS.at r2 hi
    subst ef'
    have ev : v' = v := by rw [e1] at e2; exact (Option.some.inj (Option.some.inj e2)).symm
    subst ev
    rw [hm] at rm
    obtain ⟨l, xs, F', el, ef, hp, rl⟩ := rm
    subst ef
    have s02 := s1.trans w s2
    have jl : j < ms.length := by
      unfold ixN at hj
      split at hj
      · split at hj
        · have := Option.some.inj hj; omega
        · cases hj
      · split at hj
        · have := Option.some.inj hj; omega
        · cases hj
    have wf2 : Wf O2 H2 (G1 ++ (l :: F' ++ G2)) := s2.wf
    have lin : l ∈ G1 ++ (l :: F' ++ G2) := List.mem_append_right _ (List.mem_append_left _ (List.mem_cons_self ..))
    have lo : O2 l := wf2.own l lin
    obtain ⟨F3, G3, pm, rl3⟩ := RepML.set (i := j) (v := u) rl (s2.rep s1.wf ru) jl
    have s3 : Step O2 H2 (G1 ++ (l :: F' ++ G2)) O2 (upd H2 l (.lst (xs.set j u))) (G1 ++ (l :: F' ++ G2)) := Step.write wf2 lin
    have nd := wf2.nd
    have nF : ∀ a ∈ F', a ≠ l := fun a ha e => by
      subst e
      have := (List.nodup_append.mp nd).2.1
      exact (List.nodup_cons.mp this).1 (List.mem_append_left _ ha)
    have nG : ∀ a ∈ G1 ++ G2, a ≠ l := fun a ha e => by
      subst e
      rcases List.mem_append.mp ha with h | h
      · exact (List.nodup_append.mp nd).2.2 a h a (List.mem_append_left _ (List.mem_cons_self ..)) rfl
      · have := (List.nodup_append.mp nd).2.1
        exact (List.nodup_cons.mp this).1 (List.mem_append_right _ h)
    have kf : ∀ a o, H2 a = some o → ¬ O2 a → upd H2 l (.lst (xs.set j u)) a = some o := fun a o h n => by
      rw [upd_ne (fun e => n (by rw [e]; exact lo))]; exact h
    have rl4 : RepML X.K O2 (upd H2 l (.lst (xs.set j u))) (ms.set j (.val d)) (xs.set j u) F3 := RepML.keep kf (fun a h => .inl h) _ (fun a o ha h => by
      rw [upd_ne (nF a (pm.mem_iff.mpr (List.mem_append_left _ ha)))]; exact h) rl3
    have rs3 := kk O2 (upd H2 l (.lst (xs.set j u))) kf (fun a h => .inl h) (fun a o ha h => by rw [upd_ne (nG a ha)]; exact h) (.ref l) (s.put (.lst (ms.set j (.val d)))) (l :: F3) (by rw [Sl.put_m]; exact ⟨l, _, F3, rfl, rfl, upd_same, rl4⟩)
    rw [el] at e2
    rw [set_same e2] at rs3
    refine ⟨l, xs, k, j, el, ru2, hp, by rw [rl.len]; exact hj, g O2 _ σ (G1 ++ (l :: F3 ++ G2)) rs3 (((s02.trans w s3).permR (F2 := (G1 ++ (l :: F3 ++ G2)) ++ G3) ?_).dropR) (Pins.of (he.1.trans (hb.1.trans (Io.put hi))))⟩
    refine List.perm_iff_count.mpr fun a => ?_
    have := List.perm_iff_count.mp pm a
    simp only [List.count_append, List.count_cons] at this ⊢
    omega⟩
end
end Lin

end

section
namespace Lin
open PySem PySem.Spec PyProof.Rows L2

/-! ### targets and loops -/
def wG (X : Cx) (tg : Expr) : TG := fun v σ H Q => ∃ g, PG X tg g ∧ g v σ H Q
def wGs (X : Cx) (tgs : List Expr) : TGs := fun vs σ H Q => ∃ g, PGs X tgs g ∧ g vs σ H Q
def wI (X : Cx) (tg it : Expr) : TI := fun σ H R => ∃ w, PI X tg it w ∧ w σ H R
theorem pg_w {X : Cx} {tg : Expr} : PG X tg (wG X tg) := ⟨fun pins s σ H v u Q I r ⟨g, p, h⟩ => p.run pins s σ H v u Q I r h⟩
theorem pgs_w {X : Cx} {tgs : List Expr} : PGs X tgs (wGs X tgs) := ⟨fun pins s σ H v u Q I r ⟨g, p, h⟩ => p.run pins s σ H v u Q I r h⟩
theorem pi_w {X : Cx} {tg it : Expr} : PI X tg it (wI X tg it) := ⟨fun pins s σ H R I ⟨w, p, h⟩ => p.run pins s σ H R I h⟩

/-- what is frozen in one state stays in another -/
def Kept (O : OW) (H : Hp) (O' : OW) (H' : Hp) : Prop := (∀ a o, H a = some o → ¬ O a → H' a = some o) ∧ ∀ a, O' a → O a ∨ H a = none
theorem Kept.refl {O : OW} {H : Hp} : Kept O H O H := ⟨fun _ _ h _ => h, fun _ h => .inl h⟩
theorem Kept.trans {O O1 O2 : OW} {H H1 H2 : Hp} (k : Kept O H O1 H1) (l : Kept O1 H1 O2 H2) : Kept O H O2 H2 := by
  refine ⟨fun a o h n => l.1 a o (k.1 a o h n) fun q => ?_, fun a h => ?_⟩
  · rcases k.2 a q with z | z
    · exact n z
    · rw [h] at z; cases z
  · rcases none_or H a with q | ⟨o, q⟩
    · exact .inr q
    · rcases l.2 a h with z | z
      · exact k.2 a z
      · by_cases n : O a
        · exact .inl n
        · rw [k.1 a o q n] at z; cases z
theorem Step.kept {O O' : OW} {H H' : Hp} {F F' : List Addr} (w : Wf O H F) (s : Step O H F O' H' F') : Kept O H O' H' := ⟨s.kf w, s.nw⟩
theorem Rep.kept {K : PySem.W.Frag} {O O' : OW} {H H' : Hp} {d : D} {v : V} (k : Kept O H O' H') (h : Rep K O H d v) : Rep K O' H' d v := Rep.keep k.1 k.2 d h
theorem RepL.kept {K : PySem.W.Frag} {O O' : OW} {H H' : Hp} {d : List D} {v : List V} (k : Kept O H O' H') (h : RepL K O H d v) : RepL K O' H' d v := RepL.keep k.1 k.2 d h

/-- two rows of slots are one but at ws -/
def SameBut (ws : List Nat) (σ σ' : L2.St) : Prop := σ'.length = σ.length ∧ ∀ i, i ∉ ws → σ'[i]? = σ[i]?
/-- the target takes d, and stores at ws alone -/
def Tg (X : Cx) (tg : Expr) (d : D) (ws : List Nat) (env env' : Sls) : Prop := Io env env' ∧ ∀ (O : OW) (H : Hp) (σ : L2.St) (F : List Addr) (v : V), Rep X.K O H d v → RepS X.K O H env σ F → Wf O H F → ∀ Q : L2.St → Hp → Prop,
  (∀ (σ' : L2.St) (F' : List Addr), RepS X.K O H env' σ' F' → Step O H F O H F' → Pins env σ env' σ' → SameBut ws σ σ' → Q σ' H) → wG X tg v σ H Q
def Tgs (X : Cx) (tgs : List Expr) (ds : List D) (ws : List Nat) (env env' : Sls) : Prop := Io env env' ∧ ∀ (O : OW) (H : Hp) (σ : L2.St) (F : List Addr) (vs : List V), RepL X.K O H ds vs → RepS X.K O H env σ F → Wf O H F → ∀ Q : L2.St → Hp → Prop,
  (∀ (σ' : L2.St) (F' : List Addr), RepS X.K O H env' σ' F' → Step O H F O H F' → Pins env σ env' σ' → SameBut ws σ σ' → Q σ' H) → wGs X tgs vs σ H Q
section
variable {X : Cx} {env env1 env2 : Sls} {d : D} {ds : List D} {n : Str} {pos : Pos} {e : Expr} {es : List Expr} {ws ws2 : List Nat}
theorem io_set {i : Nat} {o : Option Sl} (hio : ∀ m', env[i]? ≠ some (some (Sl.io m'))) : Io env (env.set i o) := fun j m' z => by
  have hne : i ≠ j := fun q => hio m' (q ▸ z)
  exact ⟨m', by rw [List.getElem?_set_ne hne]; exact z⟩
theorem tg_name (i : Nat) (hio : ∀ m', env[i]? ≠ some (some (Sl.io m')) := by intro _ h; cases h) (hi : i < env.length := by simp) (hn : X.N.Nodup := by assumption) (hN : X.N[i]? = some n := by rfl)
    (hx : Loc X.env.scope n := by first | exact Or.inl rfl | exact Or.inr rfl) (hf : X.fn n = true ∨ X.env.scope.names.lookup n = some .local := by first | exact .inl rfl | exact .inr rfl) : Tg X (.Name n pos) d [i] env (env.set i (vl d)) := ⟨io_set hio, fun O H σ F v rd rs w Q q =>
  ⟨_, pg_name hn hN hx hf, by
    obtain ⟨F1, F2, Fi, ef, _, k⟩ := RepS.drop i (some v) hi rs
    subst ef
    refine q _ (F1 ++ ([] ++ F2)) (k v (.own (.val d)) [] ⟨rfl, rd⟩) (((Step.refl w).permR (F2 := (F1 ++ ([] ++ F2)) ++ Fi) (List.perm_iff_count.mpr fun a => by simp only [List.count_append, List.count_nil]; omega)).dropR) (fun j m' z => ?_) ⟨List.length_set .., fun j hj => List.getElem?_set_ne (fun e => hj (by rw [e]; exact List.mem_cons_self ..))⟩
    have hne : i ≠ j := fun q => hio m' (q ▸ z)
    exact ⟨⟨m', by rw [List.getElem?_set_ne hne]; exact z⟩, List.getElem?_set_ne hne⟩⟩⟩
theorem tgs_nil : Tgs X [] [] [] env env := ⟨Io.refl _, fun O H σ F vs rd rs w Q q => ⟨_, pgs_nil, rd, q σ F rs (Step.refl w) Pins.refl ⟨rfl, fun _ _ => rfl⟩⟩⟩
theorem tgs_cons (h1 : Tg X e d ws env env1) (h2 : Tgs X es ds ws2 env1 env2) (hs : (assignEach (e :: es) X.env).map (·.2) = assign e X.env :: (assignEach es X.env).map (·.2) := by rfl) : Tgs X (e :: es) (d :: ds) (ws ++ ws2) env env2 :=
  ⟨h1.1.trans h2.1, fun O H σ F vs ⟨u, us, ev, rd, rr⟩ rs w Q q => ⟨_, pgs_cons pg_w pgs_w hs, u, us, ev, h1.2 O H σ F u rd rs w _ fun σ1 F1 r1 s1 p1 b1 =>
    h2.2 O H σ1 F1 us rr r1 s1.wf _ fun σ2 F2 r2 s2 p2 b2 => q σ2 F2 r2 (s1.trans w s2) (p1.trans p2) ⟨b2.1.trans b1.1, fun i hi => (b2.2 i fun z => hi (List.mem_append_right _ z)).trans (b1.2 i fun z => hi (List.mem_append_left _ z))⟩⟩⟩
theorem tg_tup {k : Nat} (h : Tgs X es ds ws env env1) (hl : es.length = ds.length := by rfl) (hc : X.calm = true := by rfl)
    (hn : (assignEach es X.env).length = es.length := by rfl) (hst : (assignEach es X.env).findIdx? (·.1) = none := by rfl) : Tg X (.Tuple es k pos) (.tup ds) ws env env1 :=
  ⟨h.1, fun O H σ F v ⟨a, xs, ev, hp, rl⟩ rs w Q q => ⟨_, pg_tup hc pgs_w hn hst, a, xs, ev, hp.imp (fun p => p.2) id, by rw [rl.len, hl], h.2 O H σ F xs rl rs w Q q⟩⟩
end

/-- a walk gives ys, one after the other, whatever the turns do -/
def Wk (K : PySem.W.Frag) (O : OW) (H : Hp) (J : It) (ys : List D) : Prop := ∀ (O' : OW) (H' : Hp) (F' : List Addr), Kept O H O' H' → Wf O' H' F' →
  J.stop ys.length H' ∧ ∀ (i : Nat) (d : D), ys[i]? = some d → J.go i H' ∧ ∀ (x : V) (H2 : Hp), J.yld i H' x H2 → Step O' H' [] O' H2 [] ∧ Rep K O' H2 d x
def Iv (X : Cx) (tg it : Expr) (env : Sls) (ys : List D) (env' : Sls) : Prop := Io env env' ∧
  ∀ (O : OW) (H : Hp) (σ : L2.St) (F : List Addr), RepS X.K O H env σ F → Wf O H F → ∀ R : It → Hp → Prop,
    (∀ (O1 : OW) (H1 : Hp) (J : It) (F1 : List Addr), Wk X.K O1 H1 J ys → RepS X.K O1 H1 env' σ F1 → Step O H F O1 H1 F1 → R J H1) → wI X tg it σ H R
inductive ForR (X : Cx) (tg : Expr) (body : List Stmt) : List D → Sls → Out → Prop
  | nil {env : Sls} : ForR X tg body [] env (.nx env)
  | nx {d : D} {ds : List D} {env env1 env2 : Sls} {out : Out} {ws : List Nat} : Tg X tg d ws env env1 → Ex X body env1 (.nx env2) → ForR X tg body ds env2 out → ForR X tg body (d :: ds) env out
  | ct {d : D} {ds : List D} {env env1 env2 : Sls} {out : Out} {ws : List Nat} : Tg X tg d ws env env1 → Ex X body env1 (.ct env2) → ForR X tg body ds env2 out → ForR X tg body (d :: ds) env out
  | bk {d : D} {ds : List D} {env env1 env2 : Sls} {ws : List Nat} : Tg X tg d ws env env1 → Ex X body env1 (.bk env2) → ForR X tg body (d :: ds) env (.nx env2)
  | rt {d : D} {ds : List D} {env env1 env2 : Sls} {m : M} {ws : List Nat} : Tg X tg d ws env env1 → Ex X body env1 (.rt m env2) → ForR X tg body (d :: ds) env (.rt m env2)
section
variable {X : Cx} {env env1 env2 : Sls} {d : D} {ds ys : List D} {pos : Pos} {e tg it : Expr} {body : List Stmt} {out : Out}
theorem for_semS {D : Ends} {O : OW} {H : Hp} {σ : L2.St} {F : List Addr} (io : Io env env1) (hS : ∀ R : It → Hp → Prop, (∀ (O1 : OW) (H1 : Hp) (J : It) (F1 : List Addr), Wk X.K O1 H1 J ys → RepS X.K O1 H1 env1 σ F1 → Step O H F O1 H1 F1 → R J H1) → wI X tg it σ H R)
    (hr : ForR X tg body ys env1 out) (w : Wf O H F) (g : Grants X out D O H env σ F) : tFor (wI X tg it) (wG X tg) (wS X body) D σ H := by
  refine hS _ fun O1 H1 J F1 wk r1 s1 => ?_
  let St (i : Nat) (σ' : L2.St) (H' : Hp) : Prop := ∃ (env' : Sls) (O' : OW) (F' : List Addr), ForR X tg body (ys.drop i) env' out ∧ RepS X.K O' H' env' σ' F' ∧ Wf O' H' F' ∧ Kept O1 H1 O' H' ∧ Grants X out D O' H' env' σ' F'
  refine ⟨fun i m σ' H' => m = ys.length - i ∧ i ≤ ys.length ∧ St i σ' H', ⟨ys.length, rfl, Nat.zero_le _, env1, O1, F1, hr, r1, s1.wf, Kept.refl, g.back w s1 (Pins.of io)⟩, ?_⟩
  rintro i m σ' H' ⟨rfl, hle, env', O', F', fr, rs, wf, kp, gr⟩
  obtain ⟨st, go⟩ := wk O' H' F' kp wf
  rcases Nat.lt_or_ge i ys.length with hlt | hge
  · have hd : ys[i]? = some ys[i] := List.getElem?_eq_getElem hlt
    obtain ⟨g1, yl⟩ := go i _ hd
    have ed : ys.drop i = ys[i] :: ys.drop (i + 1) := List.drop_eq_getElem_cons hlt
    rw [ed] at fr
    generalize ys[i] = d at *
    generalize hds : ys.drop (i + 1) = ds at *
    refine .inr ⟨g1, St (i + 1), fun σ2 H2 z => ⟨ys.length - (i + 1), by omega, rfl, hlt, z⟩, fun x H2 y => ?_⟩
    obtain ⟨s2, rx⟩ := yl x H2 y
    have s2' : Step O' H' F' O' H2 F' := s2.quiet wf
    have rs2 : RepS X.K O' H2 env' σ' F' := rs.quiet s2
    cases fr with
    | nx ht hb hn =>
      refine ht.2 O' H2 σ' F' x rx rs2 s2'.wf _ fun σ3 F3 r3 s3 p3 _ => ?_
      have s23 := s2'.trans wf s3
      refine hb O' H2 σ3 F3 r3 s3.wf _ fun O4 H4 σ4 F4 r4 s4 p4 => ?_
      exact ⟨_, O4, F4, by rw [hds]; exact hn, r4, s4.wf, (kp.trans (s23.kept wf)).trans (s4.kept s3.wf), gr.back wf (s23.trans wf s4) (p3.trans p4)⟩
    | ct ht hb hn =>
      refine ht.2 O' H2 σ' F' x rx rs2 s2'.wf _ fun σ3 F3 r3 s3 p3 _ => ?_
      have s23 := s2'.trans wf s3
      refine hb O' H2 σ3 F3 r3 s3.wf _ fun O4 H4 σ4 F4 r4 s4 p4 => ?_
      exact ⟨_, O4, F4, by rw [hds]; exact hn, r4, s4.wf, (kp.trans (s23.kept wf)).trans (s4.kept s3.wf), gr.back wf (s23.trans wf s4) (p3.trans p4)⟩
    | bk ht hb =>
      refine ht.2 O' H2 σ' F' x rx rs2 s2'.wf _ fun σ3 F3 r3 s3 p3 _ => ?_
      have s23 := s2'.trans wf s3
      refine hb O' H2 σ3 F3 r3 s3.wf _ fun O4 H4 σ4 F4 r4 s4 p4 => ?_
      exact gr O4 H4 σ4 F4 r4 (s23.trans wf s4) (p3.trans p4)
    | rt ht hb =>
      refine ht.2 O' H2 σ' F' x rx rs2 s2'.wf _ fun σ3 F3 r3 s3 p3 _ => ?_
      have s23 := s2'.trans wf s3
      refine hb O' H2 σ3 F3 r3 s3.wf _ fun O4 H4 σ4 v Fv F4 rv r4 s4 p4 => ?_
      exact gr O4 H4 σ4 v Fv F4 rv r4 (s23.trans wf s4) (p3.trans p4)
  · have ei : i = ys.length := by omega
    subst ei
    rw [List.drop_eq_nil_of_le (Nat.le_refl _)] at fr
    cases fr
    exact .inl ⟨st, gr O' H' σ' F' rs (Step.refl wf) Pins.refl⟩
theorem x1_for (hi : Iv X tg it env ys env1) (hr : ForR X tg body ys env1 out) (hp : PassesOwn (model X.prog X.w) X.A X.env X.xe := by exact PassesOwn.never) (hc : X.calm = true := by rfl) (hs : ∀ x, foldedSetIterable it X.env x = pure x := by intro _; rfl) :
    Ex1 X (.For tg it body [] pos) env out := fun O H σ F r w D g => ⟨_, ps_for hp hc pi_w pg_w pss_w hs, for_semS hi.1 (hi.2 O H σ F r w) hr w g⟩
inductive WhR (X : Cx) (c : Expr) (body : List Stmt) : Nat → Sls → Out → Prop
  | stop {n : Nat} {env env1 : Sls} : Tv X c env false env1 → WhR X c body n env (.nx env1)
  | nx {n : Nat} {env env1 env2 : Sls} {out : Out} : Tv X c env true env1 → Ex X body env1 (.nx env2) → WhR X c body n env2 out → WhR X c body (n + 1) env out
  | ct {n : Nat} {env env1 env2 : Sls} {out : Out} : Tv X c env true env1 → Ex X body env1 (.ct env2) → WhR X c body n env2 out → WhR X c body (n + 1) env out
  | bk {n : Nat} {env env1 env2 : Sls} : Tv X c env true env1 → Ex X body env1 (.bk env2) → WhR X c body n env (.nx env2)
  | rt {n : Nat} {env env1 env2 : Sls} {m : M} : Tv X c env true env1 → Ex X body env1 (.rt m env2) → WhR X c body n env (.rt m env2)
theorem x1_while {c : Expr} {n : Nat} (hr : WhR X c body n env out) (hp : PassesOwn (model X.prog X.w) X.A X.env X.xe := by exact PassesOwn.never) : Ex1 X (.While c body [] pos) env out := fun O H σ F r w D g =>
  ⟨_, ps_while hp pt_w pss_w, fun m σ' H' => ∃ (env' : Sls) (O' : OW) (F' : List Addr), WhR X c body m env' out ∧ RepS X.K O' H' env' σ' F' ∧ Wf O' H' F' ∧ Grants X out D O' H' env' σ' F', ⟨n, env, O, F, hr, r, w, g⟩, by
    rintro m σ' H' ⟨env', O', F', wr, rs, wf, gr⟩
    cases wr with
    | stop ht =>
      refine ht.2 O' H' σ' F' rs wf _ fun O2 H2 F2 r2 s2 => ?_
      rw [if_neg Bool.false_ne_true]
      exact gr O2 H2 σ' F2 r2 s2 (Pins.of ht.1)
    | @nx n1 _ _ _ _ ht hb hn =>
      refine ht.2 O' H' σ' F' rs wf _ fun O2 H2 F2 r2 s2 => ?_
      rw [if_pos rfl]
      refine ⟨fun σ4 H4 => ∃ (env' : Sls) (O' : OW) (F' : List Addr), WhR X c body n1 env' out ∧ RepS X.K O' H4 env' σ4 F' ∧ Wf O' H4 F' ∧ Grants X out D O' H4 env' σ4 F', fun σ4 H4 z => ⟨n1, Nat.lt_succ_self _, z⟩, ?_⟩
      refine hb O2 H2 σ' F2 r2 s2.wf _ fun O4 H4 σ4 F4 r4 s4 p4 => ?_
      exact ⟨_, O4, F4, hn, r4, s4.wf, gr.back wf (s2.trans wf s4) ((Pins.of ht.1).trans p4)⟩
    | @ct n1 _ _ _ _ ht hb hn =>
      refine ht.2 O' H' σ' F' rs wf _ fun O2 H2 F2 r2 s2 => ?_
      rw [if_pos rfl]
      refine ⟨fun σ4 H4 => ∃ (env' : Sls) (O' : OW) (F' : List Addr), WhR X c body n1 env' out ∧ RepS X.K O' H4 env' σ4 F' ∧ Wf O' H4 F' ∧ Grants X out D O' H4 env' σ4 F', fun σ4 H4 z => ⟨n1, Nat.lt_succ_self _, z⟩, ?_⟩
      refine hb O2 H2 σ' F2 r2 s2.wf _ fun O4 H4 σ4 F4 r4 s4 p4 => ?_
      exact ⟨_, O4, F4, hn, r4, s4.wf, gr.back wf (s2.trans wf s4) ((Pins.of ht.1).trans p4)⟩
    | bk ht hb =>
      refine ht.2 O' H' σ' F' rs wf _ fun O2 H2 F2 r2 s2 => ?_
      rw [if_pos rfl]
      refine ⟨fun _ _ => False, fun _ _ z => z.elim, hb O2 H2 σ' F2 r2 s2.wf _ fun O4 H4 σ4 F4 r4 s4 p4 => ?_⟩
      exact gr O4 H4 σ4 F4 r4 (s2.trans wf s4) ((Pins.of ht.1).trans p4)
    | rt ht hb =>
      refine ht.2 O' H' σ' F' rs wf _ fun O2 H2 F2 r2 s2 => ?_
      rw [if_pos rfl]
      refine ⟨fun _ _ => False, fun _ _ z => z.elim, hb O2 H2 σ' F2 r2 s2.wf _ fun O4 H4 σ4 v Fv F4 rv r4 s4 p4 => ?_⟩
      exact gr O4 H4 σ4 v Fv F4 rv r4 (s2.trans wf s4) ((Pins.of ht.1).trans p4)⟩
end
end Lin

end

section
namespace Lin
open PySem PySem.Spec PyProof.Rows L2

/-! ### what is walked -/
section
variable {K : PySem.W.Frag} {O : OW} {H : Hp} {J : It} {ys ds es : List D} {a b : Addr} {xs zs : List V}
theorem wk_of {n : Nat} {G : Hp → Prop} {Y : Nat → Hp → V → Hp → Prop} (w : Walk J n G Y) (hn : n = ys.length) (hG : ∀ O' H', Kept O H O' H' → G H')
    (hY : ∀ (O' : OW) (H' : Hp) (F' : List Addr) (i : Nat) (d : D) (x : V) (H2 : Hp), Kept O H O' H' → Wf O' H' F' → ys[i]? = some d → Y i H' x H2 → Step O' H' [] O' H2 [] ∧ Rep K O' H2 d x) : Wk K O H J ys := fun O' H' F' kp wf => by
  subst hn
  refine ⟨w.stops H' (hG O' H' kp), fun i d hd => ?_⟩
  have hl : i < ys.length := (List.getElem?_eq_some_iff.mp hd).1
  exact ⟨w.goes i H' hl (hG O' H' kp), fun x H2 y => hY O' H' F' i d x H2 kp wf hd (w.yields i H' x H2 hl (hG O' H' kp) y)⟩
theorem repL_at {i : Nat} {d : D} {x : V} (rl : RepL K O H ds xs) (hd : ds[i]? = some d) (hx : xs[i]? = some x) : Rep K O H d x := by
  obtain ⟨v, hv, rv⟩ := rl.get hd
  rw [hv] at hx; cases hx; exact rv
theorem wk_list (no : ¬ O a) (ha : H a = some (.lst xs)) (rl : RepL K O H ds xs) : Wk K O H (Itl K a) ds :=
  wk_of walk_list rl.len (fun O' H' kp => .inl (.inl (kp.1 a _ ha no))) fun O' H' F' i d x H2 kp wf hd ⟨e, hx⟩ => by
    subst e
    exact ⟨Step.refl wf.nil, repL_at (rl.kept kp) hd hx⟩
/-- a tuple's place -/
def TupAt (K : PySem.W.Frag) (O : OW) (H : Hp) (a : Addr) (xs : List V) : Prop := (¬ O a ∧ Rd H a (.tup xs)) ∨ WrT K a xs
theorem TupAt.sq (h : TupAt K O H a xs) : SqT K H a xs := h.imp (fun p => p.2) id
theorem TupAt.kept {O' : OW} {H' : Hp} (k : Kept O H O' H') (h : TupAt K O H a xs) : TupAt K O' H' a xs := h.imp (fun p => ⟨no_keep k.2 p.1 p.2, rd_keep k.1 p.1 p.2⟩) id
theorem wk_tup (ha : TupAt K O H a xs) (rl : RepL K O H ds xs) : Wk K O H (Itt K a) ds :=
  wk_of walk_tup rl.len (fun O' H' kp => (ha.kept kp).sq) fun O' H' F' i d x H2 kp wf hd ⟨e, hx⟩ => by
    subst e
    exact ⟨Step.refl wf.nil, repL_at (rl.kept kp) hd hx⟩
def rangeD (lo : Int) : Nat → List D
  | 0 => []
  | n + 1 => .int lo :: rangeD (lo + 1) n
theorem rangeD_len (lo : Int) (n : Nat) : (rangeD lo n).length = n := by
  induction n generalizing lo with
  | zero => rfl
  | succ n ih => rw [rangeD, List.length_cons, ih]
theorem rangeD_get {lo : Int} {n i : Nat} {d : D} (h : (rangeD lo n)[i]? = some d) : d = .int (lo + i) := by
  induction n generalizing lo i with
  | zero => simp [rangeD] at h
  | succ n ih =>
    cases i with
    | zero =>
      have e : D.int lo = d := by simpa [rangeD] using h
      rw [← e]; simp
    | succ i =>
      have := ih (lo := lo + 1) (i := i) (by simpa [rangeD] using h)
      rw [this]; congr 1; omega
theorem wk_range {lo : Int} {n : Nat} : Wk K O H (Itr lo n) (rangeD lo n) :=
  wk_of walk_range (rangeD_len lo n).symm (fun _ _ _ => trivial) fun O' H' F' i d x H2 kp wf hd ⟨e, hx⟩ => by
    subst e
    refine ⟨Step.refl wf.nil, ?_⟩
    rw [rangeD_get hd]; exact hx
/-- a new pair -/
theorem rep_pair {T : Addr} {x y : V} {d e : D} (wf : Wf O H []) (hT : H T = none) (hx : Rep K O H d x) (hy : Rep K O H e y) : Step O H [] O (upd H T (.tup [x, y])) [] ∧ Rep K O (upd H T (.tup [x, y])) (.tup [d, e]) (.ref T) := by
  have s : Step O H [] O (upd H T (.tup [x, y])) [] := Step.newF wf hT
  have kp := s.kept wf
  refine ⟨s, T, [x, y], rfl, .inl ⟨fun z => ?_, .inl upd_same⟩, _, _, rfl, hx.kept kp, _, _, rfl, hy.kept kp, rfl⟩
  obtain ⟨o, e⟩ := wf.dom T z
  rw [hT] at e; cases e
def enumD (k : Nat) : List D → List D
  | [] => []
  | d :: ds => .tup [.int k, d] :: enumD (k + 1) ds
theorem enumD_len (k : Nat) (ds : List D) : (enumD k ds).length = ds.length := by
  induction ds generalizing k with
  | nil => rfl
  | cons d ds ih => rw [enumD, List.length_cons, ih, List.length_cons]
theorem enumD_get {k i : Nat} {d : D} (h : (enumD k ds)[i]? = some d) : ∃ e, ds[i]? = some e ∧ d = .tup [.int ((k + i : Nat) : Int), e] := by
  induction ds generalizing k i with
  | nil => simp [enumD] at h
  | cons c ds ih =>
    cases i with
    | zero =>
      have e : D.tup [.int k, c] = d := by simpa [enumD] using h
      exact ⟨c, rfl, e.symm⟩
    | succ i =>
      obtain ⟨e, h1, h2⟩ := ih (k := k + 1) (i := i) (by simpa [enumD] using h)
      refine ⟨e, by simpa using h1, ?_⟩
      rw [h2, show k + 1 + i = k + (i + 1) by omega]
theorem wk_enum (no : ¬ O a) (ha : H a = some (.lst xs)) (rl : RepL K O H ds xs) : Wk K O H (Ite K a) (enumD 0 ds) :=
  wk_of walk_enum (by rw [enumD_len, rl.len]) (fun O' H' kp => .inl (.inl (kp.1 a _ ha no))) fun O' H' F' i d x H2 kp wf hd ⟨T, x1, y1, ex, hT, eH, hx, hy⟩ => by
    obtain ⟨e, he, ed⟩ := enumD_get hd
    subst ex eH ed
    cases hx
    rw [Nat.zero_add]
    exact rep_pair wf.nil hT rfl (repL_at (rl.kept kp) he hy)
def zipD : List D → List D → List D
  | d :: ds, e :: es => .tup [d, e] :: zipD ds es
  | _, _ => []
theorem zipD_len : ∀ (ds es : List D), (zipD ds es).length = min ds.length es.length
  | [], es => by cases es <;> simp [zipD]
  | d :: ds, [] => by simp [zipD]
  | d :: ds, e :: es => by rw [zipD, List.length_cons, zipD_len ds es, List.length_cons, List.length_cons]; omega
theorem zipD_get : ∀ {ds es : List D} {i : Nat} {d : D}, (zipD ds es)[i]? = some d → ∃ e f, ds[i]? = some e ∧ es[i]? = some f ∧ d = .tup [e, f]
  | [], es, _, _, h => by cases es <;> simp [zipD] at h
  | _ :: _, [], _, _, h => by simp [zipD] at h
  | c :: ds, e :: es, 0, d, h => by
    have q : D.tup [c, e] = d := by simpa [zipD] using h
    exact ⟨c, e, rfl, rfl, q.symm⟩
  | c :: ds, e :: es, i + 1, d, h => by
    obtain ⟨x, y, h1, h2, h3⟩ := zipD_get (ds := ds) (es := es) (i := i) (d := d) (by simpa [zipD] using h)
    exact ⟨x, y, by simpa using h1, by simpa using h2, h3⟩
theorem wk_zip (na : ¬ O a) (ha : H a = some (.lst xs)) (rl : RepL K O H ds xs) (nb : ¬ O b) (hb : H b = some (.lst zs)) (rm : RepL K O H es zs) : Wk K O H (Itz K a b) (zipD ds es) :=
  wk_of (walk_zip (xs := xs) (ys := zs) rfl) (by rw [zipD_len, rl.len, rm.len]) (fun O' H' kp => ⟨.inl (.inl (kp.1 a _ ha na)), .inl (.inl (kp.1 b _ hb nb))⟩) fun O' H' F' i d x H2 kp wf hd ⟨T, x1, y1, ex, hT, eH, hx, hy⟩ => by
    obtain ⟨e, f, he, hf, ed⟩ := zipD_get hd
    subst ex eH ed
    exact rep_pair wf.nil hT (repL_at (rl.kept kp) he hx) (repL_at (rm.kept kp) hf hy)
end
section
variable {X : Cx} {env env1 env2 : Sls} {d : D} {ds es : List D} {pos p : Pos} {e e2 tg a b : Expr} {i j : Int} {elts : List Expr} {kk : Nat} {tpos : Pos}
theorem iv_list (h : Ev X e env (.val (.lst ds)) env1) : Iv X tg e env ds env1 := ⟨h.1, fun O H σ F r w R q => ⟨_, pi_list pe_w, h.2 O H σ F r w _ fun O1 H1 v Fv F1 ⟨ev, rv⟩ rs s => by
  subst ev
  obtain ⟨a, xs, ea, no, ha, rl⟩ := rv
  exact ⟨a, ea, ⟨xs, .inl (.inl ha)⟩, q O1 H1 _ F1 (wk_list no ha rl) rs s⟩⟩⟩
theorem iv_tup (h : Ev X e env (.val (.tup ds)) env1) : Iv X tg e env ds env1 := ⟨h.1, fun O H σ F r w R q => ⟨_, pi_tup pe_w, h.2 O H σ F r w _ fun O1 H1 v Fv F1 ⟨ev, rv⟩ rs s => by
  subst ev
  obtain ⟨a, xs, ea, ha, rl⟩ := rv
  exact ⟨a, ea, ⟨xs, TupAt.sq ha⟩, q O1 H1 _ F1 (wk_tup ha rl) rs s⟩⟩⟩
theorem iv_range1 (h : Ev X a env (.val (.int j)) env1) (hz : -(2 ^ 62) ≤ j ∧ j < 2 ^ 62 := by first | decide | omega) (hm : X.mg "range" = none := by assumption) (hg : Gl X "range" := by rfl) (he : starEach [a] X.env = [(false, eval a X.env)] := by rfl) (he' : starEach [a] X.env = (false, eval a X.env) :: starEach [] X.env := by rfl) : Iv X tg (.Call (.Name "range" p) [a] [] pos) env (rangeD 0 j.toNat) env1 :=
  ⟨h.1, fun O H σ F r w R q => ⟨_, pi_range1 hg hm (pa_cons pe_w pa_nil he') he, h.2 O H σ F r w _ fun O1 H1 v Fv F1 ⟨ev, rv⟩ rs s => by
    subst ev
    exact ⟨j, by rw [show v = V.int j from rv], hz.1, hz.2, q O1 H1 _ F1 wk_range rs s⟩⟩⟩
theorem iv_range2 (ha : Ev X a env (.val (.int i)) env1) (hb : Ev X b env1 (.val (.int j)) env2) (hz : -(2 ^ 62) ≤ i ∧ i < 2 ^ 62 ∧ -(2 ^ 62) ≤ j ∧ j < 2 ^ 62 := by first | decide | omega) (hm : X.mg "range" = none := by assumption) (hg : Gl X "range" := by rfl)
    (he : starEach [a, b] X.env = [(false, eval a X.env), (false, eval b X.env)] := by rfl) (he2 : starEach [b] X.env = [(false, eval b X.env)] := by rfl) (he' : starEach [a, b] X.env = (false, eval a X.env) :: starEach [b] X.env := by rfl) (he3 : starEach [b] X.env = (false, eval b X.env) :: starEach [] X.env := by rfl) : Iv X tg (.Call (.Name "range" p) [a, b] [] pos) env (rangeD i (j - i).toNat) env2 :=
  ⟨ha.1.trans hb.1, fun O H σ F r w R q => ⟨_, pi_range2 hg hm (pa_cons pe_w (pa_cons pe_w pa_nil he3) he') he he2, two ha hb r w (R := fun u v H' => ∃ i j : Int, [u, v] = [V.int i, V.int j] ∧ (-(2 ^ 62) ≤ i ∧ i < 2 ^ 62 ∧ -(2 ^ 62) ≤ j ∧ j < 2 ^ 62) ∧ R (Itr i (j - i).toNat) H') fun O1 H1 u v F1 ru rv rs s =>
    ⟨i, j, by rw [show u = V.int i from ru, show v = V.int j from rv], hz, q O1 H1 _ F1 wk_range rs s⟩⟩⟩
theorem iv_enum (h : Ev X e env (.val (.lst ds)) env1) (hm : X.mg "enumerate" = none := by assumption) (hg : Gl X "enumerate" := by rfl) (he : starEach [e] X.env = [(false, eval e X.env)] := by rfl) (he' : starEach [e] X.env = (false, eval e X.env) :: starEach [] X.env := by rfl) : Iv X (.Tuple elts kk tpos) (.Call (.Name "enumerate" p) [e] [] pos) env (enumD 0 ds) env1 :=
  ⟨h.1, fun O H σ F r w R q => ⟨_, pi_enum hg hm (pa_cons pe_w pa_nil he') he, h.2 O H σ F r w _ fun O1 H1 v Fv F1 ⟨ev, rv⟩ rs s => by
    subst ev
    obtain ⟨a, xs, ea, no, ha, rl⟩ := rv
    exact ⟨a, xs, by rw [ea], .inl (.inl ha), q O1 H1 _ F1 (wk_enum no ha rl) rs s⟩⟩⟩
theorem iv_zip (ha : Ev X e env (.val (.lst ds)) env1) (hb : Ev X e2 env1 (.val (.lst es)) env2) (hm : X.mg "zip" = none := by assumption) (hg : Gl X "zip" := by rfl)
    (he2 : (backTo pos (starEach [e2] X.env)).any (·.1) = false := by rfl) (he' : starEach [e, e2] X.env = (false, eval e X.env) :: starEach [e2] X.env := by rfl) (he3 : starEach [e2] X.env = (false, eval e2 X.env) :: starEach [] X.env := by rfl) : Iv X (.Tuple elts kk tpos) (.Call (.Name "zip" p) [e, e2] [] pos) env (zipD ds es) env2 :=
  ⟨ha.1.trans hb.1, fun O H σ F r w R q => ⟨_, pi_zip hg hm (pa_cons pe_w (pa_cons pe_w pa_nil he3) he') he' he2, two ha hb r w (R := fun u v H' => ∃ a b xs ys, [u, v] = [V.ref a, V.ref b] ∧ SqL X.K H' a xs ∧ SqL X.K H' b ys ∧ R (Itz X.K a b) H') fun O1 H1 u v F1 ru rv rs s => by
    obtain ⟨a, xs, ea, na, ha, rl⟩ := ru
    obtain ⟨b, ys, eb, nb, hb, rm⟩ := rv
    exact ⟨a, b, xs, ys, by rw [ea, eb], .inl (.inl ha), .inl (.inl hb), q O1 H1 _ F1 (wk_zip na ha rl nb hb rm) rs s⟩⟩⟩
end
end Lin

end

section
namespace Lin
open PySem PySem.Spec PyProof.Rows L2

/-! ### comprehensions -/
/-- the tests of a clause come out b -/
def wTs (X : Cx) (ifs : List Expr) : TT := fun σ H Q => ∃ t, PTs X ifs t ∧ t σ H Q
def Tvs (X : Cx) (ifs : List Expr) (env : Sls) (b : Bool) (env' : Sls) : Prop := Io env env' ∧
  ∀ (O : OW) (H : Hp) (σ : L2.St) (F : List Addr), RepS X.K O H env σ F → Wf O H F → ∀ Q : Bool → Hp → Prop,
    (∀ (O' : OW) (H' : Hp) (F' : List Addr), RepS X.K O' H' env' σ F' → Step O H F O' H' F' → Q b H') → wTs X ifs σ H Q
theorem tvs_nil {X : Cx} {env : Sls} : Tvs X [] env true env := ⟨Io.refl _, fun O H σ F r w Q q => ⟨_, pts_nil, q O H F r (Step.refl w)⟩⟩
theorem tvs_one {X : Cx} {c : Expr} {env env' : Sls} {b : Bool} (h : Tv X c env b env') : Tvs X [c] env b env' := ⟨h.1, fun O H σ F r w Q q => ⟨_, pts_one pt_w, h.2 O H σ F r w Q q⟩⟩
/-- in every block of the comprehension -/
abbrev InB (X : Cx) (scope : Scope) (P : Cx → Prop) : Prop := ∀ (s : Shared) (H : Hp) (C : Addr) (cl : List (Str × Addr)) (fp : List Addr), P (X.blk s H scope (compEnvC scope cl C X.env) fp)
def bE (X : Cx) (scope : Scope) (e : Expr) : TE := fun σ H Q => InB X scope fun X' => wE X' e σ H Q
def bTs (X : Cx) (scope : Scope) (e : List Expr) : TT := fun σ H Q => InB X scope fun X' => wTs X' e σ H Q
def bG (X : Cx) (scope : Scope) (e : Expr) : TG := fun v σ H Q => InB X scope fun X' => wG X' e v σ H Q
/-- the slots without vs -/
def wipeE (env : Sls) : List Nat → Sls
  | [] => env
  | v :: vs => (wipeE env vs).set v none
inductive LcR (X : Cx) (scope : Scope) (tg elt : Expr) (ifs : List Expr) (vs : List Nat) : List D → Sls → List M → Sls → Prop
  | nil {env : Sls} : LcR X scope tg elt ifs vs [] env [] env
  | yes {d : D} {ds : List D} {env env1 env2 env3 env' : Sls} {m : M} {ms : List M} : (InB X scope fun X' => Tg X' tg d vs env env1) → (InB X scope fun X' => Tvs X' ifs env1 true env2) → (InB X scope fun X' => Ev X' elt env2 m env3) → LcR X scope tg elt ifs vs ds (wipeE env3 vs) ms env' → LcR X scope tg elt ifs vs (d :: ds) env (m :: ms) env'
  | no {d : D} {ds : List D} {env env1 env2 env' : Sls} {ms : List M} : (InB X scope fun X' => Tg X' tg d vs env env1) → (InB X scope fun X' => Tvs X' ifs env1 false env2) → LcR X scope tg elt ifs vs ds (wipeE env2 vs) ms env' → LcR X scope tg elt ifs vs (d :: ds) env ms env'

theorem RepS.wipe1 {K : PySem.W.Frag} {O : OW} {H : Hp} {es : Sls} {σ : L2.St} {F : List Addr} (i : Nat) (o : Option V) (r : RepS K O H es σ F) : ∃ F2 G, F.Perm (F2 ++ G) ∧ RepS K O H (es.set i none) (σ.set i o) F2 := by
  by_cases h : i < es.length
  · obtain ⟨F1, F2, Fi, ef, q, _⟩ := RepS.drop i o h r
    exact ⟨F1 ++ F2, Fi, by rw [ef]; exact List.perm_iff_count.mpr fun a => by simp only [List.count_append]; omega, q⟩
  · refine ⟨F, [], by rw [List.append_nil], ?_⟩
    rw [List.set_eq_of_length_le (by omega), List.set_eq_of_length_le (by rw [r.len]; omega)]
    exact r
theorem RepS.wipeN {K : PySem.W.Frag} {O : OW} {H : Hp} {es : Sls} {σ : L2.St} {F : List Addr} (r : RepS K O H es σ F) : ∀ vs : List Nat, ∃ F2 G, F.Perm (F2 ++ G) ∧ RepS K O H (wipeE es vs) (wipe σ vs) F2
  | [] => ⟨F, [], by rw [List.append_nil], r⟩
  | v :: vs => by
    obtain ⟨F2, G, p, q⟩ := RepS.wipeN r vs
    obtain ⟨F3, G2, p2, q2⟩ := q.wipe1 v none
    exact ⟨F3, G2 ++ G, p.trans ((p2.append_right G).trans (by rw [List.append_assoc])), q2⟩
/-- slots that are told nothing of may hold anything -/
theorem RepS.loose {K : PySem.W.Frag} {O : OW} {H : Hp} : ∀ {es : Sls} {σ σ2 : L2.St} {F : List Addr}, RepS K O H es σ F → σ2.length = σ.length → (∀ (i : Nat) (s : Sl), es[i]? = some (some s) → σ2[i]? = σ[i]?) → RepS K O H es σ2 F
  | [], _, σ2, _, ⟨e, f⟩, hl, _ => by
    subst e
    exact ⟨List.length_eq_zero_iff.mp hl, f⟩
  | none :: es, _, σ2, _, ⟨o, σ', e, r⟩, hl, h => by
    subst e
    cases σ2 with
    | nil => simp at hl
    | cons a t => exact ⟨a, t, rfl, RepS.loose r (by simpa using hl) fun i s z => by simpa using h (i + 1) s (by simpa using z)⟩
  | some s :: es, _, σ2, _, ⟨v, σ', F1, F2, e, ef, p, r⟩, hl, h => by
    subst e
    cases σ2 with
    | nil => simp at hl
    | cons a t =>
      have e0 : a = some v := by simpa using h 0 s rfl
      exact ⟨v, t, F1, F2, by rw [e0], ef, p, RepS.loose r (by simpa using hl) fun i s z => by simpa using h (i + 1) s (by simpa using z)⟩
theorem wipe_get {σ : L2.St} {vs : List Nat} {i : Nat} (h : i ∉ vs) : (wipe σ vs)[i]? = σ[i]? := by
  induction vs with
  | nil => rfl
  | cons v vs ih =>
    show ((wipe σ vs).set v none)[i]? = _
    rw [List.getElem?_set_ne (fun e => h (by rw [e]; exact List.mem_cons_self ..)), ih fun z => h (List.mem_cons_of_mem _ z)]
theorem wipeE_len (env : Sls) : ∀ vs : List Nat, (wipeE env vs).length = env.length
  | [] => rfl
  | v :: vs => by show ((wipeE env vs).set v none).length = _; rw [List.length_set, wipeE_len env vs]
theorem wipeE_in {env : Sls} {vs : List Nat} {i : Nat} {s : Sl} (h : (wipeE env vs)[i]? = some (some s)) : i ∉ vs := by
  induction vs with
  | nil => exact List.not_mem_nil
  | cons v vs ih =>
    have h : ((wipeE env vs).set v none)[i]? = some (some s) := h
    by_cases e : v = i
    · subst e
      rw [List.getElem?_set] at h
      split at h
      · split at h
        · cases h
        · cases h
      · next z => exact absurd rfl z
    · rw [List.getElem?_set_ne e] at h
      intro z
      rcases List.mem_cons.mp z with z | z
      · exact e z.symm
      · exact ih h z
theorem wipe_idem (σ : L2.St) (vs : List Nat) {i : Nat} (h : i ∈ vs) (hl : i < σ.length) : (wipe σ vs)[i]? = some none := by
  induction vs with
  | nil => cases h
  | cons v vs ih =>
    show ((wipe σ vs).set v none)[i]? = some none
    by_cases e : v = i
    · subst e
      rw [List.getElem?_set_self (by rw [wipe_length]; exact hl)]
    · rw [List.getElem?_set_ne e]
      rcases List.mem_cons.mp h with z | z
      · exact absurd z.symm e
      · exact ih z
section
variable {X : Cx} {env env1 env' : Sls} {ys : List D} {ms : List M} {pos : Pos} {elt tg it : Expr} {ifs : List Expr} {scope : Scope} {own : List (Str × Nat)}
theorem wipe_ext {σ σ2 : L2.St} {vs : List Nat} (hl : σ2.length = σ.length) (h : ∀ i, i ∉ vs → σ2[i]? = σ[i]?) : wipe σ2 vs = wipe σ vs := by
  apply List.ext_getElem?
  intro i
  by_cases hi : i ∈ vs
  · by_cases hlt : i < σ.length
    · rw [wipe_idem σ vs hi hlt, wipe_idem σ2 vs hi (by omega)]
    · rw [List.getElem?_eq_none (by rw [wipe_length]; omega), List.getElem?_eq_none (by rw [wipe_length]; omega)]
  · rw [wipe_get hi, wipe_get hi, h i hi]
theorem wipeE_get {env : Sls} {vs : List Nat} {i : Nat} (h : i ∉ vs) : (wipeE env vs)[i]? = env[i]? := by
  induction vs with
  | nil => rfl
  | cons v vs ih =>
    show ((wipeE env vs).set v none)[i]? = _
    rw [List.getElem?_set_ne (fun e => h (by rw [e]; exact List.mem_cons_self ..)), ih fun z => h (List.mem_cons_of_mem _ z)]
/-- nothing is told of the slots vs -/
def Bare (env : Sls) (vs : List Nat) : Prop := ∀ (i : Nat) (s : Sl), env[i]? = some (some s) → i ∉ vs
theorem bare_wipe (env : Sls) (vs : List Nat) : Bare (wipeE env vs) vs := fun _ _ h => wipeE_in h
theorem io_wipe {vs : List Nat} (b : Bare env vs) (h : Io env env1) : Io env (wipeE env1 vs) := fun i m z => by
  obtain ⟨m', e⟩ := h i m z
  exact ⟨m', by rw [wipeE_get (b i _ z)]; exact e⟩
theorem LcR.io {vs : List Nat} (s0 : Shared) (H0 : Hp) (h : LcR X scope tg elt ifs vs ys env ms env') : Bare env vs → Io env env' := by
  induction h with
  | nil => exact fun _ => Io.refl _
  | yes h1 h2 h3 _ ih => exact fun b => (io_wipe b (((h1 s0 H0 0 [] []).1.trans (h2 s0 H0 0 [] []).1).trans (h3 s0 H0 0 [] []).1)).trans (ih (bare_wipe _ _))
  | no h1 h2 _ ih => exact fun b => (io_wipe b ((h1 s0 H0 0 [] []).1.trans (h2 s0 H0 0 [] []).1)).trans (ih (bare_wipe _ _))
theorem RepML.snoc {K : PySem.W.Frag} {O : OW} {H : Hp} {m : M} {v : V} {Fv : List Addr} : ∀ {ms : List M} {xs : List V} {F : List Addr}, RepML K O H ms xs F → RepM K O H m v Fv → RepML K O H (ms ++ [m]) (xs ++ [v]) (F ++ Fv)
  | ms, xs, F, h, k => RepML.app h ⟨v, [], Fv, [], rfl, (List.append_nil _).symm, k, rfl, rfl⟩
theorem wipe_wipe (σ : L2.St) (vs : List Nat) : wipe (wipe σ vs) vs = wipe σ vs := wipe_ext (wipe_length σ vs) fun i hi => wipe_get hi
theorem lc_semS (O : OW) (H : Hp) (σ : L2.St) (F : List Addr) (hS : ∀ R : It → Hp → Prop, (∀ (O1 : OW) (H1 : Hp) (J : It) (F1 : List Addr), Wk X.K O1 H1 J ys → RepS X.K O1 H1 env1 σ F1 → Step O H F O1 H1 F1 → R J H1) → wI X tg it σ H R)
    (hr : LcR X scope tg elt ifs (own.map (·.2)) ys env1 ms env') (hb : Bare env1 (own.map (·.2))) (hz : ys.length ≤ sizeLine) (w : Wf O H F) (Q : VK)
    (q : ∀ (O' : OW) (H' : Hp) (v : V) (Fv F' : List Addr), RepM X.K O' H' (.lst ms) v Fv → RepS X.K O' H' env' σ F' → Step O H F O' H' (Fv ++ F') → Q v H') : tLc (wI X tg it) (bG X scope tg) (bTs X scope ifs) (bE X scope elt) (own.map (·.2)) σ H Q := by
  refine hS _ fun O1 H1 J F1 wk r1 s1 D hD => ?_
  generalize hvs : own.map (·.2) = vs at *
  let St (i : Nat) (H' : Hp) : Prop := ∃ (env2 : Sls) (O2 : OW) (F2 Fa : List Addr) (acc : List V) (ms1 ms2 : List M), ms = ms1 ++ ms2 ∧ ms1.length ≤ i ∧ LcR X scope tg elt ifs vs (ys.drop i) env2 ms2 env' ∧ Bare env2 vs ∧ RepS X.K O2 H' env2 (wipe σ vs) F2 ∧ H' D = some (.lst acc) ∧ RepML X.K O2 H' ms1 acc Fa ∧ Kept O1 H1 O2 H' ∧ Step O H F O2 H' ((D :: Fa) ++ F2)
  refine ⟨fun i m H' => m = ys.length - i ∧ i ≤ ys.length ∧ St i H', ⟨ys.length, rfl, Nat.zero_le _, ?_⟩, ?_⟩
  · have s0 : Step O1 H1 [] (fun a => O1 a ∨ a = D) (upd H1 D (.lst [])) [D] := Step.new (G := []) s1.wf.nil hD
    refine ⟨env1, _, F1, [], [], [], ms, rfl, Nat.le_refl _, hr, hb, (RepS.quiet s0 r1).loose (wipe_length σ vs) (fun i s z => wipe_get (hb i s z)), upd_same, ⟨rfl, rfl⟩, s0.kept s1.wf.nil, s1.trans w (s0.quiet s1.wf)⟩
  rintro i m H' ⟨rfl, hle, env2, O2, F2, Fa, acc, ms1, ms2, ems, hml, lr, bare, rs, hDa, rml, kp, st⟩
  have wf := st.wf
  obtain ⟨sp, go⟩ := wk O2 H' _ kp wf
  rcases Nat.lt_or_ge i ys.length with hlt | hge
  · have hd : ys[i]? = some ys[i] := List.getElem?_eq_getElem hlt
    obtain ⟨g1, yl⟩ := go i _ hd
    have ed : ys.drop i = ys[i] :: ys.drop (i + 1) := List.drop_eq_getElem_cons hlt
    rw [ed] at lr
    generalize ys[i] = d at *
    generalize hds : ys.drop (i + 1) = ds at *
    refine .inr ⟨g1, St (i + 1), fun H2 z => ⟨ys.length - (i + 1), by omega, rfl, hlt, z⟩, fun x H2 y => ?_⟩
    obtain ⟨s2, rx⟩ := yl x H2 y
    have st2 : Step O H F O2 H2 ((D :: Fa) ++ F2) := st.trans w (s2.quiet wf)
    have wf2 := st2.wf
    have wfF : Wf O2 H2 F2 := wf2.right
    have rs2 : RepS X.K O2 H2 env2 (wipe σ vs) F2 := rs.quiet s2
    have hD2 : H2 D = some (.lst acc) := s2.frame D _ hDa (by simp)
    have rml2 : RepML X.K O2 H2 ms1 acc Fa := s2.repML wf.nil (fun _ _ => by simp) rml
    have kp2 : Kept O1 H1 O2 H2 := kp.trans (s2.kept wf.nil)
    have dF : D ∉ F2 := fun z => wf2.apart (List.mem_cons_self ..) z
    have dA : D ∉ Fa := fun z => (List.nodup_cons.mp (List.nodup_append.mp wf2.nd).1).1 z
    have aF : ∀ a ∈ Fa, a ∉ F2 := fun a h z => wf2.apart (List.mem_cons_of_mem _ h) z
    have pmF : ((D :: Fa) ++ F2).Perm (F2 ++ (D :: Fa)) := List.perm_append_comm
    have wip : ∀ σ3, SameBut vs (wipe σ vs) σ3 → wipe σ3 vs = wipe σ vs := fun σ3 b => by
      rw [wipe_ext b.1 b.2, wipe_wipe]
    cases lr with
    | yes h1 h2 h3 hn =>
      intro s0 H0 C0 cl0 fp0
      refine (h1 s0 H0 C0 cl0 fp0).2 O2 H2 (wipe σ vs) F2 x rx rs2 wfF _ fun σ3 F3 r3 s3 p3 b3 => ⟨wip σ3 b3, fun s0 H0 C0 cl0 fp0 => ?_⟩
      refine (h2 s0 H0 C0 cl0 fp0).2 O2 H2 σ3 F3 r3 s3.wf _ fun O4 H4 F4 r4 s4 => ?_
      rw [if_pos rfl]
      intro s0 H0 C0 cl0 fp0
      refine (h3 s0 H0 C0 cl0 fp0).2 O4 H4 σ3 F4 r4 s4.wf _ fun O5 H5 v Fv F5 rv r5 s5 => ?_
      have s25 : Step O2 H2 F2 O5 H5 (Fv ++ F5) := (s3.trans wfF s4).trans wfF s5
      have sB := (s25.beside (wf2.perm pmF)).permL pmF.symm
      have hD5 : H5 D = some (.lst acc) := s25.frame D _ hD2 dF
      have rml5 : RepML X.K O5 H5 ms1 acc Fa := s25.repML wfF aF rml2
      obtain ⟨F6, G, pm6, r6⟩ := RepS.wipeN r5 vs
      rw [wip σ3 b3] at r6
      have wf5 := sB.wf
      have dIn : D ∈ (Fv ++ F5) ++ (D :: Fa) := List.mem_append_right _ (List.mem_cons_self ..)
      have oD : O5 D := wf5.own D dIn
      have dV : D ∉ Fv ++ F5 := fun z => wf5.apart z (List.mem_cons_self ..)
      have sW : Step O5 H5 ((Fv ++ F5) ++ (D :: Fa)) O5 (upd H5 D (.lst (acc ++ [v]))) ((Fv ++ F5) ++ (D :: Fa)) := Step.write wf5 dIn
      have kf : ∀ a o, H5 a = some o → ¬ O5 a → upd H5 D (.lst (acc ++ [v])) a = some o := fun a o h n => by
        rw [upd_ne (fun e => n (by rw [e]; exact oD))]; exact h
      have ku : ∀ a o, a ≠ D → H5 a = some o → upd H5 D (.lst (acc ++ [v])) a = some o := fun a o n h => by rw [upd_ne n]; exact h
      have rml6 : RepML X.K O5 (upd H5 D (.lst (acc ++ [v]))) (ms1 ++ [_]) (acc ++ [v]) (Fa ++ Fv) :=
        RepML.keep kf (fun a h => .inl h) _ (fun a o ha h => ku a o (fun e => by
          subst e
          rcases List.mem_append.mp ha with z | z
          · exact dA z
          · exact dV (List.mem_append_left _ z)) h) (rml5.snoc rv)
      have r7 : RepS X.K O5 (upd H5 D (.lst (acc ++ [v]))) (wipeE _ vs) (wipe σ vs) F6 :=
        RepS.keep kf (fun a h => .inl h) _ (fun a o ha h => ku a o (fun e => by
          subst e
          exact dV (List.mem_append_right _ (pm6.mem_iff.mpr (List.mem_append_left _ ha)))) h) r6
      have s6 : Step O2 H2 ((D :: Fa) ++ F2) O5 (upd H5 D (.lst (acc ++ [v]))) ((D :: (Fa ++ Fv)) ++ F6) :=
        ((sB.trans wf2 sW).permR (F2 := ((D :: (Fa ++ Fv)) ++ F6) ++ G) (List.perm_iff_count.mpr fun a => by
          have := List.perm_iff_count.mp pm6 a
          simp only [List.count_append, List.count_cons] at this ⊢
          omega)).dropR
      refine ⟨acc, hD5, by rw [rml5.len]; omega, ?_⟩
      exact ⟨_, O5, F6, Fa ++ Fv, acc ++ [v], ms1 ++ [_], _, by rw [ems, List.append_assoc]; rfl, by rw [List.length_append]; simp; omega, by rw [hds]; exact hn, bare_wipe _ _, r7, upd_same, rml6, kp2.trans (s6.kept wf2), st2.trans w s6⟩
    | no h1 h2 hn =>
      intro s0 H0 C0 cl0 fp0
      refine (h1 s0 H0 C0 cl0 fp0).2 O2 H2 (wipe σ vs) F2 x rx rs2 wfF _ fun σ3 F3 r3 s3 p3 b3 => ⟨wip σ3 b3, fun s0 H0 C0 cl0 fp0 => ?_⟩
      refine (h2 s0 H0 C0 cl0 fp0).2 O2 H2 σ3 F3 r3 s3.wf _ fun O4 H4 F4 r4 s4 => ?_
      rw [if_neg Bool.false_ne_true]
      have s24 : Step O2 H2 F2 O4 H4 F4 := s3.trans wfF s4
      have sB := (s24.beside (wf2.perm pmF)).permL pmF.symm
      have hD5 : H4 D = some (.lst acc) := s24.frame D _ hD2 dF
      have rml5 : RepML X.K O4 H4 ms1 acc Fa := s24.repML wfF aF rml2
      obtain ⟨F6, G, pm6, r6⟩ := RepS.wipeN r4 vs
      rw [wip σ3 b3] at r6
      have s6 : Step O2 H2 ((D :: Fa) ++ F2) O4 H4 ((D :: Fa) ++ F6) :=
        (sB.permR (F2 := ((D :: Fa) ++ F6) ++ G) (List.perm_iff_count.mpr fun a => by
          have := List.perm_iff_count.mp pm6 a
          simp only [List.count_append, List.count_cons] at this ⊢
          omega)).dropR
      exact ⟨_, O4, F6, Fa, acc, ms1, ms2, ems, by omega, by rw [hds]; exact hn, bare_wipe _ _, r6, hD5, rml5, kp2.trans (s6.kept wf2), st2.trans w s6⟩
  · have ei : i = ys.length := by omega
    subst ei
    rw [List.drop_eq_nil_of_le (Nat.le_refl _)] at lr
    refine .inl ⟨sp, ?_⟩
    cases lr
    rw [List.append_nil] at ems
    subst ems
    refine q O2 H' (.ref D) (D :: Fa) F2 ⟨D, acc, Fa, rfl, rfl, hDa, rml⟩ (rs.loose (wipe_length σ vs).symm fun i s z => (wipe_get (bare i s z)).symm) st
theorem lc_sem (hi : Iv X tg it env ys env1) (hr : LcR X scope tg elt ifs (own.map (·.2)) ys env1 ms env') (hb : Bare env1 (own.map (·.2))) (hz : ys.length ≤ sizeLine) (O : OW) (H : Hp) (σ : L2.St) (F : List Addr) (r : RepS X.K O H env σ F) (w : Wf O H F) (Q : VK)
    (q : ∀ (O' : OW) (H' : Hp) (v : V) (Fv F' : List Addr), RepM X.K O' H' (.lst ms) v Fv → RepS X.K O' H' env' σ F' → Step O H F O' H' (Fv ++ F') → Q v H') : tLc (wI X tg it) (bG X scope tg) (bTs X scope ifs) (bE X scope elt) (own.map (·.2)) σ H Q :=
  lc_semS O H σ F (hi.2 O H σ F r w) hr hb hz w Q q
theorem bg_ok (s : Shared) (H : Hp) (C : Addr) (cl : List (Str × Addr)) (fp : List Addr) : PG (X.blk s H scope (compEnvC scope cl C X.env) fp) tg (bG X scope tg) := ⟨fun pins s' σ H' v u Q I rv h => pg_w.run pins s' σ H' v u Q I rv (h s H C cl fp)⟩
theorem pts_w {X : Cx} {ifs : List Expr} : PTs X ifs (wTs X ifs) := ⟨fun pins s' σ H' Q I ⟨t, p, h⟩ => p.run pins s' σ H' Q I h⟩
theorem bts_ok (s : Shared) (H : Hp) (C : Addr) (cl : List (Str × Addr)) (fp : List Addr) : PTs (X.blk s H scope (compEnvC scope cl C X.env) fp) ifs (bTs X scope ifs) := ⟨fun pins s' σ H' Q I h => pts_w.run pins s' σ H' Q I (h s H C cl fp)⟩
theorem be_ok (s : Shared) (H : Hp) (C : Addr) (cl : List (Str × Addr)) (fp : List Addr) : PE (X.blk s H scope (compEnvC scope cl C X.env) fp) elt (bE X scope elt) := ⟨fun pins s' σ H' Q I h => pe_w.run pins s' σ H' Q I (h s H C cl fp)⟩
theorem ev_lc (hi : Iv X tg it env ys env1) (hr : LcR X scope tg elt ifs (own.map (·.2)) ys env1 ms env') (hb : Bare env1 (own.map (·.2))) (ok : BlkOk X.N X.env.scope scope own) (hz : ys.length ≤ sizeLine) (hN : X.N.Nodup := by assumption)
    (hc : X.calm = true := by rfl) (hs : ∀ x, foldedSetIterable it X.env x = pure x := by intro _; rfl) : Ev X (.ListComp elt [⟨tg, it, ifs, 0⟩] scope pos) env (.lst ms) env' :=
  ⟨hi.1.trans (hr.io X.s_0 X.H_0 hb), fun O H σ F r w Q q => ⟨_, pe_lc hc hN pi_w ok bg_ok bts_ok be_ok hs, lc_sem hi hr hb hz O H σ F r w Q q⟩⟩
/-- name = [a comprehension], the name a local -/
theorem x1_setLc (i : Nat) {n : Str} {pos' spos : Pos} (hi : Iv X tg it env ys env1) (hr : LcR X scope tg elt ifs (own.map (·.2)) ys env1 ms env') (hb : Bare env1 (own.map (·.2))) (ok : BlkOk X.N X.env.scope scope own) (hz : ys.length ≤ sizeLine) (hio : ∀ m', env[i]? ≠ some (some (Sl.io m')) := by intro _ h; cases h) (hil : i < env.length := by simp) (hN : X.N.Nodup := by assumption) (hn : X.N[i]? = some n := by rfl)
    (hx : X.env.scope.names.lookup n = some .local := by rfl) (hsw : swapsWith (.ListComp elt [⟨tg, it, ifs, 0⟩] scope pos) (some (.Name n pos')) spos.line X.env = pure true := by rfl) (hc : X.calm = true := by rfl) (hs : ∀ x, foldedSetIterable it X.env x = pure x := by intro _; rfl) :
    Ex1 X (.Assign [.Name n pos'] (.ListComp elt [⟨tg, it, ifs, 0⟩] scope pos) spos) env (.nx (env'.set i (some (.own (.lst ms))))) := fun O H σ F r w D g =>
  ⟨_, ps_setLc hc hN hn hx hsw pi_w ok bg_ok bts_ok be_ok hs, lc_sem hi hr hb hz O H σ F r w _ fun O' H' v Fv F' rm rs s => by
    have hl : i < env'.length := by rw [← rs.len, r.len]; exact hil
    obtain ⟨F1, F2, Fi, ef, _, k⟩ := RepS.drop i (some v) hl rs
    subst ef
    refine g O' H' _ (F1 ++ (Fv ++ F2)) (k v (.own (.lst ms)) Fv rm) ((s.permR perm_drop).dropR) fun j m' z => ?_
    have hne : i ≠ j := fun q => hio m' (q ▸ z)
    obtain ⟨m2, z2⟩ := (hi.1.trans (hr.io X.s_0 X.H_0 hb)) j m' z
    exact ⟨⟨m2, by rw [List.getElem?_set_ne hne]; exact z2⟩, List.getElem?_set_ne hne⟩⟩
end
end Lin

end

section
namespace Lin
open PySem PySem.Spec PyProof.Rows L2

/-! ### looks: what is read without a change -/
def Pu (X : Cx) (e : Expr) (env : Sls) (m : M) : Prop :=
  ∀ (O : OW) (H : Hp) (σ : L2.St) (F : List Addr), RepS X.K O H env σ F → Wf O H F → ∀ Q : VK, (∀ (v : V) (Fv : List Addr), RepM X.K O H m v Fv → Q v H) → wE X e σ H Q
section
variable {X : Cx} {env env1 env2 : Sls} {a b c e : Expr} {es : List Expr} {pos p p' : Pos} {d x y : D} {m m' : M} {ms : List M} {ds : List D} {K : PySem.W.Frag} {O : OW} {H : Hp} {n : Str} {s : Sl} {i j : Int}
theorem Pu.eq (h : Pu X e env m) (q : m = m') : Pu X e env m' := q ▸ h
theorem ev_pu (h : Pu X e env (.val d)) : Ev X e env (.val d) env := ⟨Io.refl _, fun O H σ F r w Q q => h O H σ F r w Q fun v Fv ⟨ef, rv⟩ => q O H v [] F ⟨rfl, rv⟩ r (Step.refl w)⟩
theorem pu_name (i : Nat) (h : env[i]? = some (some s)) (hm : s.m = m := by rfl) (hN : X.N[i]? = some n := by rfl) (hv : Vis X.env.scope n := by first | exact Or.inl rfl | exact Or.inr (Or.inl rfl) | exact Or.inr (Or.inr rfl))
    (hd : (n == ("__debug__" : Str)) = false := by decide) (hcd : (n == ("__classdict__" : Str)) = false := by decide) : Pu X (.Name n pos) env m := fun O H σ F r w Q q => by
  subst hm
  obtain ⟨v, F1, Fi, F2, e1, ef, p, _, _⟩ := RepS.at r h
  exact ⟨_, pe_var hN hv hd hcd, v, e1, q v Fi p⟩
theorem pu_const {v : V} (hp : PE X e (tC v)) (hr : ∀ (K : PySem.W.Frag) (O : OW) (H : Hp), Rep K O H d v) : Pu X e env (.val d) := fun O H σ F r w Q q => ⟨_, hp, q v [] ⟨rfl, hr _ _ _⟩⟩
theorem pu_int {i : Int} {j : Nat} : Pu X (.Constant (.int i) j pos) env (.val (.int i)) := pu_const pe_int fun _ _ _ => rfl
theorem pu_str {s : Str} {j : Nat} : Pu X (.Constant (.str s) j pos) env (.val (.str s)) := pu_const pe_str fun _ _ _ => rfl
/-- x op y gives d, in the heap as it is -/
def RP (K : PySem.W.Frag) (r : R2) (x y d : D) : Prop := ∀ (O : OW) (H : Hp) (u v : V) (Q : VK), Rep K O H x u → Rep K O H y v → (∀ z, Rep K O H d z → Q z H) → r u v H Q
theorem pu_bin {op : Operator} {r : R2} (ho : OpR X (binaryOp op) r) (ha : Pu X a env (.val x)) (hb : Pu X b env (.val y)) (hr : RP X.K r x y d) : Pu X (.BinOp a op b pos) env (.val d) := fun O H σ F rs w Q q =>
  ⟨_, pe_op ho pe_w pe_w, ha O H σ F rs w _ fun u _ ⟨_, ru⟩ => hb O H σ F rs w _ fun v _ ⟨_, rv⟩ => hr O H u v Q ru rv fun z rz => q z [] ⟨rfl, rz⟩⟩
theorem rp_int0 {g : Int → Int → V} (h : ∀ (O : OW) (H : Hp), Rep K O H d (g i j)) : RP K (rI0 g) (.int i) (.int j) d := fun O H u v Q hu hv q => ⟨i, j, hu, hv, q _ (h O H)⟩
theorem rp_int {C : Int → Int → Prop} {g : Int → Int → V} (hc : C i j) (h : ∀ (O : OW) (H : Hp), Rep K O H d (g i j)) : RP K (rI C g) (.int i) (.int j) d := fun O H u v Q hu hv q => ⟨i, j, hu, hv, hc, q _ (h O H)⟩
theorem pu_add (ha : Pu X a env (.val (.int i))) (hb : Pu X b env (.val (.int j))) : Pu X (.BinOp a .Add b pos) env (.val (.int (i + j))) := pu_bin op_add ha hb (rp_int0 fun _ _ => rfl)
theorem pu_sub (ha : Pu X a env (.val (.int i))) (hb : Pu X b env (.val (.int j))) : Pu X (.BinOp a .Sub b pos) env (.val (.int (i - j))) := pu_bin op_sub ha hb (rp_int0 fun _ _ => rfl)
theorem pu_mul (ha : Pu X a env (.val (.int i))) (hb : Pu X b env (.val (.int j))) (hc : CMul i j) : Pu X (.BinOp a .Mult b pos) env (.val (.int (i * j))) := pu_bin op_mul ha hb (rp_int hc fun _ _ => rfl)
theorem pu_mod (ha : Pu X a env (.val (.int i))) (hb : Pu X b env (.val (.int j))) (hc : 0 < j) : Pu X (.BinOp a .Mod b pos) env (.val (.int (i % j))) := pu_bin op_mod ha hb (rp_int hc fun _ _ => rfl)
theorem pu_div (ha : Pu X a env (.val (.int i))) (hb : Pu X b env (.val (.int j))) (hc : CDiv i j) : Pu X (.BinOp a .FloorDiv b pos) env (.val (.int (i / j))) := pu_bin op_fdiv ha hb (rp_int hc fun _ _ => rfl)
theorem pu_intI (ha : Pu X e env (.val (.int i))) (hm : X.mg "int" = none := by assumption) (hg : Gl X "int" := by rfl) (he : starEach [e] X.env = (false, eval e X.env) :: starEach [] X.env := by rfl) (hpl : (backTo pos (starEach [] X.env)).any (·.1) = false := by rfl) : Pu X (.Call (.Name "int" p) [e] [] pos) env (.val (.int i)) := fun O H σ F rs w Q q =>
  ⟨_, pe_callTy call_int1 hg hm boot_int (pa_cons pe_w pa_nil he) (by decide) (by decide) he hpl, ha O H σ F rs w _ fun v _ ⟨_, rv⟩ => .inl ⟨i, by rw [show v = V.int i from rv], q _ [] ⟨rfl, rfl⟩⟩⟩
theorem RepML.getM : ∀ {ms : List M} {vs : List V} {F : List Addr} {i : Nat}, RepML K O H ms vs F → ms[i]? = some m → ∃ v Fv, vs[i]? = some v ∧ RepM K O H m v Fv
  | [], _, _, _, _, h => by simp at h
  | m' :: ms, _, _, 0, ⟨v, vs, F1, F2, e, ef, p, q⟩, h => by
    have e' : m' = m := by simpa using h
    subst e e'
    exact ⟨v, F1, rfl, p⟩
  | m' :: ms, _, _, i + 1, ⟨v, vs, F1, F2, e, ef, p, q⟩, h => by
    subst e
    obtain ⟨u, Fu, z, r⟩ := RepML.getM (i := i) q (by simpa using h)
    exact ⟨u, Fu, by simpa using z, r⟩
theorem RepML.atM {vs : List V} {F : List Addr} {i : Int} (r : RepML K O H ms vs F) (h : L2.atI ms i = some m) : ∃ v Fv, L2.atI vs i = some v ∧ RepM K O H m v Fv := by
  unfold L2.atI at h ⊢
  rw [r.len]
  cases q : ixN ms.length i with
  | none => rw [q] at h; cases h
  | some j =>
    rw [q] at h
    exact r.getM h
theorem pu_ixO (ha : Pu X a env (.lst ms)) (hb : Pu X b env (.val (.int i))) (h : L2.atI ms i = some m) (hs : PlainIx b := by exact fun _ _ => rfl) : Pu X (.Subscript a b pos) env m := fun O H σ F rs w Q q =>
  ⟨_, pe_ix ix_list pe_w pe_w hs, ha O H σ F rs w _ fun u _ ⟨l, xs, F', el, _, hp, rl⟩ => hb O H σ F rs w _ fun v _ ⟨_, rv⟩ => by
    obtain ⟨z, Fz, hz, rz⟩ := rl.atM h
    exact ⟨l, xs, i, z, el, rv, .inl (.inl hp), hz, q z Fz rz⟩⟩
theorem pu_ixL (ha : Pu X a env (.val (.lst ds))) (hb : Pu X b env (.val (.int i))) (h : L2.atI ds i = some d) (hs : PlainIx b := by exact fun _ _ => rfl) : Pu X (.Subscript a b pos) env (.val d) := fun O H σ F rs w Q q =>
  ⟨_, pe_ix ix_list pe_w pe_w hs, ha O H σ F rs w _ fun u _ ⟨_, l, xs, el, _, hp, rl⟩ => hb O H σ F rs w _ fun v _ ⟨_, rv⟩ => by
    obtain ⟨z, hz, rz⟩ := rl.atI h
    exact ⟨l, xs, i, z, el, rv, .inl (.inl hp), hz, q z [] ⟨rfl, rz⟩⟩⟩
theorem pu_ixT (ha : Pu X a env (.val (.tup ds))) (hb : Pu X b env (.val (.int i))) (h : L2.atI ds i = some d) (hs : PlainIx b := by exact fun _ _ => rfl) : Pu X (.Subscript a b pos) env (.val d) := fun O H σ F rs w Q q =>
  ⟨_, pe_ix ix_tup pe_w pe_w hs, ha O H σ F rs w _ fun u _ ⟨_, l, xs, el, hp, rl⟩ => hb O H σ F rs w _ fun v _ ⟨_, rv⟩ => by
    obtain ⟨z, hz, rz⟩ := rl.atI h
    exact ⟨l, xs, i, z, el, rv, TupAt.sq hp, hz, q z [] ⟨rfl, rz⟩⟩⟩
theorem pu_lenO (ha : Pu X e env (.lst ms)) (hl : X.mg "len" = none := by assumption) (hg : Gl X "len" := by rfl) (he : starEach [e] X.env = (false, eval e X.env) :: starEach [] X.env := by rfl) (hpl : (backTo pos (starEach [] X.env)).any (·.1) = false := by rfl) :
    Pu X (.Call (.Name "len" p) [e] [] pos) env (.val (.int ms.length)) := fun O H σ F r w Q q => ⟨_, pe_callB call_len_seq hg hl PySem.boot_len (pa_cons pe_w pa_nil he) (by decide) (by decide) he hpl, ha O H σ F r w _ fun u _ ⟨l, xs, F', el, _, hp, rl⟩ =>
  ⟨l, xs, by rw [el], .inl (.inl (.inl hp)), by rw [rl.len]; exact q _ [] ⟨rfl, rfl⟩⟩⟩
theorem pu_lenL (ha : Pu X e env (.val (.lst ds))) (hl : X.mg "len" = none := by assumption) (hg : Gl X "len" := by rfl) (he : starEach [e] X.env = (false, eval e X.env) :: starEach [] X.env := by rfl) (hpl : (backTo pos (starEach [] X.env)).any (·.1) = false := by rfl) :
    Pu X (.Call (.Name "len" p) [e] [] pos) env (.val (.int ds.length)) := fun O H σ F r w Q q => ⟨_, pe_callB call_len_seq hg hl PySem.boot_len (pa_cons pe_w pa_nil he) (by decide) (by decide) he hpl, ha O H σ F r w _ fun u _ ⟨_, l, xs, el, _, hp, rl⟩ =>
  ⟨l, xs, by rw [el], .inl (.inl (.inl hp)), by rw [rl.len]; exact q _ [] ⟨rfl, rfl⟩⟩⟩
theorem pu_lenT (ha : Pu X e env (.val (.tup ds))) (hl : X.mg "len" = none := by assumption) (hg : Gl X "len" := by rfl) (he : starEach [e] X.env = (false, eval e X.env) :: starEach [] X.env := by rfl) (hpl : (backTo pos (starEach [] X.env)).any (·.1) = false := by rfl) :
    Pu X (.Call (.Name "len" p) [e] [] pos) env (.val (.int ds.length)) := fun O H σ F r w Q q => ⟨_, pe_callB call_len_seq hg hl PySem.boot_len (pa_cons pe_w pa_nil he) (by decide) (by decide) he hpl, ha O H σ F r w _ fun u _ ⟨_, l, xs, el, hp, rl⟩ =>
  ⟨l, xs, by rw [el], .inr (TupAt.sq hp), by rw [rl.len]; exact q _ [] ⟨rfl, rfl⟩⟩⟩
end

/-! ### a slot's thing is written in place -/
theorem RepML.updK {K : PySem.W.Frag} {O : OW} {H : Hp} {l : Addr} {o : HO} {ms : List M} {xs : List V} {F : List Addr} (hl : l ∉ F) (ol : O l) (h : RepML K O H ms xs F) : RepML K O (upd H l o) ms xs F :=
  RepML.keep (fun a u h n => by rw [upd_ne (fun e => n (by rw [e]; exact ol))]; exact h) (fun a h => .inl h) ms (fun a u ha h => by rw [upd_ne (fun e => hl (by rw [← e]; exact ha))]; exact h) h
theorem RepM.updK {K : PySem.W.Frag} {O : OW} {H : Hp} {l : Addr} {o : HO} {m : M} {x : V} {F : List Addr} (hl : l ∉ F) (ol : O l) (h : RepM K O H m x F) : RepM K O (upd H l o) m x F :=
  RepM.keep (fun a u h n => by rw [upd_ne (fun e => n (by rw [e]; exact ol))]; exact h) (fun a h => .inl h) m (fun a u ha h => by rw [upd_ne (fun e => hl (by rw [← e]; exact ha))]; exact h) h
theorem slot_upd {K : PySem.W.Frag} {O : OW} {H : Hp} {env : Sls} {σ : L2.St} {F Fx : List Addr} {i : Nat} {s : Sl} (rs : RepS K O H env σ F) (hi : env[i]? = some (some s)) (w : Wf O H (Fx ++ F)) :
    ∃ (v : V) (Fi : List Addr), σ[i]? = some (some v) ∧ RepM K O H s.m v Fi ∧ ∀ (l : Addr) (F' : List Addr), Fi = l :: F' → O l ∧ l ∉ Fx ++ F' ∧
      ∀ (o' : HO) (m' : M) (F3 Fo G : List Addr), (Fx ++ F').Perm (F3 ++ (Fo ++ G)) → RepM K O (upd H l o') m' v (l :: F3) → (hn : NTp o' := by trivial) →
        ∃ F2, RepS K O (upd H l o') (env.set i (some (s.put m'))) σ F2 ∧ Step O H (Fx ++ F) O (upd H l o') (Fo ++ F2) ∧ ∀ (m2 : M) (v2 : V), RepM K O H m2 v2 Fo → RepM K O (upd H l o') m2 v2 Fo := by
  obtain ⟨v, G1, Gi, G2, e1, ef, rm, _, kk⟩ := RepS.at rs hi
  subst ef
  refine ⟨v, Gi, e1, rm, fun l F' eg => ?_⟩
  subst eg
  have nd := w.nd
  have lin : l ∈ Fx ++ (G1 ++ (l :: F' ++ G2)) := List.mem_append_right _ (List.mem_append_right _ (List.mem_append_left _ (List.mem_cons_self ..)))
  have lo : O l := w.own l lin
  have pm0 : (Fx ++ (G1 ++ (l :: F' ++ G2))).Perm (l :: ((Fx ++ F') ++ (G1 ++ G2))) := List.perm_iff_count.mpr fun a => by simp only [List.count_append, List.count_cons]; omega
  have nd2 := pm0.nodup_iff.mp nd
  have ln : l ∉ (Fx ++ F') ++ (G1 ++ G2) := (List.nodup_cons.mp nd2).1
  refine ⟨lo, fun z => ln (List.mem_append_left _ z), fun o' m' F3 Fo G pm rm' hn => ?_⟩
  have kf : ∀ a o, H a = some o → ¬ O a → upd H l o' a = some o := fun a o h n => by
    rw [upd_ne (fun e => n (by rw [e]; exact lo))]; exact h
  have rs3 := kk O (upd H l o') kf (fun a h => .inl h) (fun a o ha h => by rw [upd_ne (fun e => ln (by rw [← e]; exact List.mem_append_right _ ha))]; exact h) v (s.put m') (l :: F3) (by rw [Sl.put_m]; exact rm')
  rw [set_same e1] at rs3
  have s3 : Step O H (Fx ++ (G1 ++ (l :: F' ++ G2))) O (upd H l o') (Fx ++ (G1 ++ (l :: F' ++ G2))) := Step.write w lin hn
  refine ⟨G1 ++ (l :: F3 ++ G2), rs3, (s3.permR (F2 := (Fo ++ (G1 ++ (l :: F3 ++ G2))) ++ G) (List.perm_iff_count.mpr fun a => ?_)).dropR, fun m2 v2 r2 => r2.updK (fun z => ln (List.mem_append_left _ (pm.mem_iff.mpr (List.mem_append_right _ (List.mem_append_left _ z))))) lo⟩
  have := List.perm_iff_count.mp pm a
  simp only [List.count_append, List.count_cons] at this ⊢
  omega
end Lin

end

section
namespace Lin
open PySem PySem.Spec PyProof.Rows L2

/-! ### and, or, if-else, is None, isinstance, == -/
def wW (X : Cx) (e : Expr) : TT := fun σ H Q => ∃ t, PW X e t ∧ t σ H Q
theorem pw_w {X : Cx} {e : Expr} : PW X e (wW X e) := ⟨fun wh pins s σ H Q I ⟨t, p, h⟩ => p.run wh pins s σ H Q I h⟩
/-- a test whatever its whole is -/
def Tw (X : Cx) (e : Expr) (env : Sls) (b : Bool) (env' : Sls) : Prop := Io env env' ∧
  ∀ (O : OW) (H : Hp) (σ : L2.St) (F : List Addr), RepS X.K O H env σ F → Wf O H F → ∀ Q : Bool → Hp → Prop,
    (∀ (O' : OW) (H' : Hp) (F' : List Addr), RepS X.K O' H' env' σ F' → Step O H F O' H' F' → Q b H') → wW X e σ H Q
section
variable {X : Cx} {env env1 env2 : Sls} {a b c e : Expr} {es rest : List Expr} {pos p p' : Pos} {d x y : D} {m m' : M} {ms : List M} {ds : List D} {K : PySem.W.Frag} {O : OW} {H : Hp} {n : Str} {s : Sl} {i j : Int} {k k2 : Bool}
theorem tv_w (h : Tw X e env k env1) : Tv X e env k env1 := ⟨h.1, fun O H σ F r w Q q => by
  obtain ⟨t, p, z⟩ := h.2 O H σ F r w Q q
  exact ⟨t, p.pt, z⟩⟩
theorem tw_and1 (h : Tv X a env k env1) : Tw X (.BoolOp .And [a] pos) env k env1 := ⟨h.1, fun O H σ F r w Q q => ⟨_, pw_and1 pt_w, h.2 O H σ F r w Q q⟩⟩
theorem tw_or1 (h : Tv X a env k env1) : Tw X (.BoolOp .Or [a] pos) env k env1 := ⟨h.1, fun O H σ F r w Q q => ⟨_, pw_or1 pt_w, h.2 O H σ F r w Q q⟩⟩
theorem tw_andT (h : Tv X a env true env1) (g : Tw X (.BoolOp .And (b :: rest) pos) env1 k env2) : Tw X (.BoolOp .And (a :: b :: rest) pos) env k env2 :=
  ⟨h.1.trans g.1, fun O H σ F r w Q q => ⟨_, pw_and pt_w pw_w, h.2 O H σ F r w _ fun O1 H1 F1 r1 s1 => by
    rw [if_pos rfl]
    exact g.2 O1 H1 σ F1 r1 s1.wf Q fun O2 H2 F2 r2 s2 => q O2 H2 F2 r2 (s1.trans w s2)⟩⟩
theorem tw_andF (h : Tv X a env false env1) : Tw X (.BoolOp .And (a :: b :: rest) pos) env false env1 :=
  ⟨h.1, fun O H σ F r w Q q => ⟨_, pw_and pt_w pw_w, h.2 O H σ F r w _ fun O1 H1 F1 r1 s1 => by
    rw [if_neg Bool.false_ne_true]
    exact q O1 H1 F1 r1 s1⟩⟩
theorem tw_orF (h : Tv X a env false env1) (g : Tw X (.BoolOp .Or (b :: rest) pos) env1 k env2) : Tw X (.BoolOp .Or (a :: b :: rest) pos) env k env2 :=
  ⟨h.1.trans g.1, fun O H σ F r w Q q => ⟨_, pw_or pt_w pw_w, h.2 O H σ F r w _ fun O1 H1 F1 r1 s1 => by
    rw [if_neg Bool.false_ne_true]
    exact g.2 O1 H1 σ F1 r1 s1.wf Q fun O2 H2 F2 r2 s2 => q O2 H2 F2 r2 (s1.trans w s2)⟩⟩
theorem tw_orT (h : Tv X a env true env1) : Tw X (.BoolOp .Or (a :: b :: rest) pos) env true env1 :=
  ⟨h.1, fun O H σ F r w Q q => ⟨_, pw_or pt_w pw_w, h.2 O H σ F r w _ fun O1 H1 F1 r1 s1 => by
    rw [if_pos rfl]
    exact q O1 H1 F1 r1 s1⟩⟩
/-- tests that leave the slots as they are -/
theorem tw_and (h : Tv X a env k env) (g : k = true → Tw X (.BoolOp .And (b :: rest) pos) env k2 env) : Tw X (.BoolOp .And (a :: b :: rest) pos) env (k && k2) env := by
  cases k with
  | true => exact tw_andT h (g rfl)
  | false => exact tw_andF h
theorem tw_or (h : Tv X a env k env) (g : k = false → Tw X (.BoolOp .Or (b :: rest) pos) env k2 env) : Tw X (.BoolOp .Or (a :: b :: rest) pos) env (k || k2) env := by
  cases k with
  | true => exact tw_orT h
  | false => exact tw_orF h (g rfl)
/-! as values -/
theorem ev_bop1 {op : BoolOp} (h : Ev X a env m env1) : Ev X (.BoolOp op [a] pos) env m env1 := ⟨h.1, fun O H σ F r w Q q => ⟨_, pe_one pe_w, h.2 O H σ F r w Q q⟩⟩
theorem ev_andT (h : Ev X a env (.val (.bool true)) env1) (g : Ev X (.BoolOp .And (b :: rest) pos) env1 m env2) : Ev X (.BoolOp .And (a :: b :: rest) pos) env m env2 :=
  ⟨h.1.trans g.1, fun O H σ F r w Q q => ⟨_, pe_and pe_w pe_w, h.2 O H σ F r w _ fun O1 H1 v Fv F1 ⟨ev, rv⟩ r1 s1 => by
    subst ev
    refine ⟨true, rv, ?_⟩
    rw [if_pos rfl]
    exact g.2 O1 H1 σ F1 r1 s1.wf Q fun O2 H2 v2 Fv2 F2 rv2 r2 s2 => q O2 H2 v2 Fv2 F2 rv2 r2 (s1.trans w s2)⟩⟩
theorem ev_andF (h : Ev X a env (.val (.bool false)) env1) : Ev X (.BoolOp .And (a :: b :: rest) pos) env (.val (.bool false)) env1 :=
  ⟨h.1, fun O H σ F r w Q q => ⟨_, pe_and pe_w pe_w, h.2 O H σ F r w _ fun O1 H1 v Fv F1 ⟨ev, rv⟩ r1 s1 => by
    subst ev
    refine ⟨false, rv, ?_⟩
    rw [if_neg Bool.false_ne_true]
    exact q O1 H1 _ [] F1 ⟨rfl, rfl⟩ r1 s1⟩⟩
theorem ev_orF (h : Ev X a env (.val (.bool false)) env1) (g : Ev X (.BoolOp .Or (b :: rest) pos) env1 m env2) : Ev X (.BoolOp .Or (a :: b :: rest) pos) env m env2 :=
  ⟨h.1.trans g.1, fun O H σ F r w Q q => ⟨_, pe_or pe_w pe_w, h.2 O H σ F r w _ fun O1 H1 v Fv F1 ⟨ev, rv⟩ r1 s1 => by
    subst ev
    refine ⟨false, rv, ?_⟩
    rw [if_neg Bool.false_ne_true]
    exact g.2 O1 H1 σ F1 r1 s1.wf Q fun O2 H2 v2 Fv2 F2 rv2 r2 s2 => q O2 H2 v2 Fv2 F2 rv2 r2 (s1.trans w s2)⟩⟩
theorem ev_orT (h : Ev X a env (.val (.bool true)) env1) : Ev X (.BoolOp .Or (a :: b :: rest) pos) env (.val (.bool true)) env1 :=
  ⟨h.1, fun O H σ F r w Q q => ⟨_, pe_or pe_w pe_w, h.2 O H σ F r w _ fun O1 H1 v Fv F1 ⟨ev, rv⟩ r1 s1 => by
    subst ev
    refine ⟨true, rv, ?_⟩
    rw [if_pos rfl]
    exact q O1 H1 _ [] F1 ⟨rfl, rfl⟩ r1 s1⟩⟩
theorem ev_and (h : Ev X a env (.val (.bool k)) env) (g : k = true → Ev X (.BoolOp .And (b :: rest) pos) env (.val (.bool k2)) env) : Ev X (.BoolOp .And (a :: b :: rest) pos) env (.val (.bool (k && k2))) env := by
  cases k with
  | true => exact ev_andT h (g rfl)
  | false => exact ev_andF h
theorem ev_or (h : Ev X a env (.val (.bool k)) env) (g : k = false → Ev X (.BoolOp .Or (b :: rest) pos) env (.val (.bool k2)) env) : Ev X (.BoolOp .Or (a :: b :: rest) pos) env (.val (.bool (k || k2))) env := by
  cases k with
  | true => exact ev_orT h
  | false => exact ev_orF h (g rfl)
theorem ev_not (h : Ev X a env (.val (.bool k)) env1) : Ev X (.UnaryOp .Not a pos) env (.val (.bool (!k))) env1 :=
  ⟨h.1, fun O H σ F r w Q q => ⟨_, pe_not pe_w, h.2 O H σ F r w _ fun O1 H1 v Fv F1 ⟨ev, rv⟩ r1 s1 => by
    subst ev
    exact ⟨k, rv, q O1 H1 _ [] F1 ⟨rfl, rfl⟩ r1 s1⟩⟩⟩
theorem ev_ifT (hc : Tv X c env true env1) (h : Ev X a env1 m env2) : Ev X (.IfExp c a b pos) env m env2 :=
  ⟨hc.1.trans h.1, fun O H σ F r w Q q => ⟨_, pe_ifExp pt_w pe_w pe_w, hc.2 O H σ F r w _ fun O1 H1 F1 r1 s1 => by
    rw [if_pos rfl]
    exact h.2 O1 H1 σ F1 r1 s1.wf Q fun O2 H2 v2 Fv2 F2 rv2 r2 s2 => q O2 H2 v2 Fv2 F2 rv2 r2 (s1.trans w s2)⟩⟩
theorem ev_ifF (hc : Tv X c env false env1) (h : Ev X b env1 m env2) : Ev X (.IfExp c a b pos) env m env2 :=
  ⟨hc.1.trans h.1, fun O H σ F r w Q q => ⟨_, pe_ifExp pt_w pe_w pe_w, hc.2 O H σ F r w _ fun O1 H1 F1 r1 s1 => by
    rw [if_neg Bool.false_ne_true]
    exact h.2 O1 H1 σ F1 r1 s1.wf Q fun O2 H2 v2 Fv2 F2 rv2 r2 s2 => q O2 H2 v2 Fv2 F2 rv2 r2 (s1.trans w s2)⟩⟩
theorem ev_if (hc : Tv X c env k env1) (h1 : k = true → Ev X a env1 m env2) (h2 : k = false → Ev X b env1 m env2) : Ev X (.IfExp c a b pos) env m env2 := by
  cases k with
  | true => exact ev_ifT hc (h1 rfl)
  | false => exact ev_ifF hc (h2 rfl)
/-! is None -/
def isNon : D → Bool
  | .none => true
  | _ => false
theorem rep_non {v : V} : ∀ {d : D}, Rep K O H d v → decide (v = .non) = isNon d
  | .none, h => by rw [show v = V.non from h]; rfl
  | .bool b, h => by rw [show v = V.bl b from h]; rfl
  | .int b, h => by rw [show v = V.int b from h]; rfl
  | .str b, h => by rw [show v = V.str b from h]; rfl
  | .tup ds, ⟨a, xs, e, _⟩ => by rw [e]; rfl
  | .lst ds, ⟨a, xs, e, _⟩ => by rw [e]; rfl
  | .dK _ ds, ⟨a, xs, e, _⟩ => by rw [e]; rfl
  | .dT _ ds, ⟨a, xs, e, _⟩ => by rw [e]; rfl
  | .ins _ _ ds, ⟨a, _, xs, e, _⟩ => by rw [e]; rfl
  | .scr ds, ⟨a, e, _⟩ => by rw [e]; rfl
  | .adr a, h => by rw [show _ = V.ref a from h]; rfl
  | .kt k, ⟨a, e, _⟩ => by rw [e]; rfl
  | .xt k, ⟨a, e, _⟩ => by rw [e]; rfl
  | .exc _ _ ds, ⟨a, _, xs, e, _⟩ => by rw [e]; rfl
theorem ro_isN : RO K (fun x y H Q => y = .non ∧ Q (.bl (decide (x = .non))) H) d .none (.val (.bool (isNon d))) :=
  ro_val fun O H u v Q hu hv q => ⟨hv, q _ (by rw [rep_non hu]; rfl)⟩
theorem ro_notN : RO K (fun x y H Q => y = .non ∧ Q (.bl (!decide (x = .non))) H) d .none (.val (.bool (!isNon d))) :=
  ro_val fun O H u v Q hu hv q => ⟨hv, q _ (by rw [rep_non hu]; rfl)⟩
theorem ev_isN (ha : Ev X a env (.val d) env1) (hb : Ev X b env1 (.val .none) env2) : Ev X (.Compare a [.Is] [b] pos) env (.val (.bool (isNon d))) env2 := ev_cmp op_isN ha hb ro_isN
theorem ev_notN (ha : Ev X a env (.val d) env1) (hb : Ev X b env1 (.val .none) env2) : Ev X (.Compare a [.IsNot] [b] pos) env (.val (.bool (!isNon d))) env2 := ev_cmp op_notN ha hb ro_notN
theorem tv_isN (ha : Ev X a env (.val d) env1) (hb : Ev X b env1 (.val .none) env2) : Tv X (.Compare a [.Is] [b] pos) env (isNon d) env2 := tv_cmp op_isN ha hb ro_isN
theorem tv_notN (ha : Ev X a env (.val d) env1) (hb : Ev X b env1 (.val .none) env2) : Tv X (.Compare a [.IsNot] [b] pos) env (!isNon d) env2 := tv_cmp op_notN ha hb ro_notN
/-! isinstance -/
def tyD : D → String
  | .none => "NoneType" | .bool _ => "bool" | .int _ => "int" | .str _ => "str" | .tup _ => "tuple" | .lst _ => "list" | .dK _ _ => "dict" | .dT _ _ => "dict" | .ins _ _ _ => "" | .scr _ => "list" | .adr _ => "" | .kt _ => "tuple" | .xt _ => "" | .exc _ _ _ => ""
def tyOk : D → Bool
  | .dT _ _ => false | .ins _ _ _ => false | .adr _ => false | .kt _ => false | .xt _ => false | .exc _ _ _ => false | _ => true
theorem wrT_ty {a : Addr} {xs : List V} (h : WrT K a xs) : TyX K H (.ref a) (.type "tuple") := by
  obtain ⟨o, its, n, e, c, _⟩ := h
  exact .kTuple e c
theorem rep_ty {v : V} : ∀ {d : D}, tyOk d = true → Rep K O H d v → TyX K H v (.type (tyD d))
  | .none, _, h => by rw [show v = V.non from h]; exact .base .non
  | .bool b, _, h => by rw [show v = V.bl b from h]; exact .base (.bl b)
  | .int b, _, h => by rw [show v = V.int b from h]; exact .base (.int b)
  | .str b, _, h => by rw [show v = V.str b from h]; exact .base (.str b)
  | .tup ds, _, ⟨a, xs, e, hp, _⟩ => by
    rw [e]
    rcases hp with ⟨_, hp | ⟨o, hp⟩⟩ | hp
    · exact .base (.tup hp)
    · exact .fTuple hp
    · exact wrT_ty hp
  | .lst ds, _, ⟨a, xs, e, _, hp, _⟩ => by rw [e]; exact .base (.lst hp)
  | .dK _ ds, _, ⟨a, xs, e, _, hp, _⟩ => by
    rw [e]
    rcases hp with hp | ⟨o, hp⟩
    · exact .base (.dK hp)
    · exact .fDict hp
  | .scr ds, _, ⟨a, e, hp⟩ => by
    rw [e]
    rcases hp with ⟨_, hp | ⟨o, hp⟩⟩ | ⟨o, its, n, hp, c, _⟩
    · exact .base (.lst hp)
    · exact .base (.frz hp)
    · exact .kList hp c
theorem pu_isi {T : String} {nT : Str} (ha : Pu X e env (.val d)) (hk : PySem.W.kitOne X.K (.type (tyD d)) (.type T) = some k) (hb : bootBuiltins nT = some (.type T)) (hmT : X.mg nT = none) (hm : X.mg "isinstance" = none) (ht : tyOk d = true := by rfl) (hg : Gl X "isinstance" := by rfl) (hgT : Gl X nT := by rfl)
    (hn : nT ≠ "__name__" := by decide) (hdb : (nT == ("__debug__" : Str)) = false := by decide)
    (he : starEach [e, .Name nT p'] X.env = (false, eval e X.env) :: starEach [.Name nT p'] X.env := by rfl) (he2 : starEach [.Name nT p'] X.env = (false, eval (.Name nT p') X.env) :: starEach [] X.env := by rfl) (hpl : (backTo pos (starEach [.Name nT p'] X.env)).any (·.1) = false := by rfl) :
    Pu X (.Call (.Name "isinstance" p) [e, .Name nT p'] [] pos) env (.val (.bool k)) := fun O H σ F rs w Q q =>
  ⟨_, pe_callB call_isi hg hm boot_isinstance (pa_cons pe_w (pa_cons (pe_bltn hgT hmT hb (v := .ty T) rfl hn hdb) pa_nil he2) he) (by decide) (by decide) he hpl,
    ha O H σ F rs w _ fun v _ ⟨_, rv⟩ => ⟨v, .ty T, .type (tyD d), .type T, k, rfl, .ty T, rep_ty ht rv, hk, q _ [] ⟨rfl, rfl⟩⟩⟩
end
end Lin

end

section
namespace Lin
open PySem PySem.Spec PyProof.Rows L2

/-! ### == of data -/
mutual
def pd : D → PyData
  | .none => .none | .bool b => .bool b | .int i => .int i | .str s => .str s
  | .tup ds => .tuple (pdL ds) | .lst ds => .list (pdL ds)
  | .dK _ _ => .none | .dT _ _ => .none | .ins _ _ _ => .none | .scr _ => .none | .adr _ => .none | .kt _ => .none | .xt _ => .none | .exc _ _ _ => .none
def pdL : List D → List PyData
  | [] => []
  | d :: ds => pd d :: pdL ds
end
mutual
def plain : D → Bool
  | .none => true | .bool _ => true | .int _ => true | .str _ => true
  | .tup ds => plainL ds | .lst ds => plainL ds
  | .dK _ _ => false | .dT _ _ => false | .ins _ _ _ => false | .scr _ => false | .adr _ => false | .kt _ => false | .xt _ => false | .exc _ _ _ => false
def plainL : List D → Bool
  | [] => true
  | d :: ds => plain d && plainL ds
end
section
variable {K : PySem.W.Frag} {O : OW} {H : Hp}
mutual
theorem Rep.dp : ∀ (d : D) {v : V}, plain d = true → Rep K O H d v → Dp K H v (pd d)
  | .none, _, _, h => by rw [show _ = V.non from h]; exact .non
  | .bool b, _, _, h => by rw [show _ = V.bl b from h]; exact .bl b
  | .int b, _, _, h => by rw [show _ = V.int b from h]; exact .int b
  | .str b, _, _, h => by rw [show _ = V.str b from h]; exact .str b
  | .tup ds, _, hp, ⟨a, xs, e, h, rl⟩ => by rw [e]; exact .tup (TupAt.sq h) (RepL.dp ds hp rl)
  | .lst ds, _, hp, ⟨a, xs, e, _, h, rl⟩ => by rw [e]; exact .lst (.inl (.inl h)) (RepL.dp ds hp rl)
  | .dK _ _, _, hp, _ => by cases hp
  | .dT _ _, _, hp, _ => by cases hp
  | .ins _ _ _, _, hp, _ => by cases hp
  | .scr _, _, hp, _ => by cases hp
  | .adr _, _, hp, _ => by cases hp
  | .kt _, _, hp, _ => by cases hp
  | .xt _, _, hp, _ => by cases hp
  | .exc _ _ _, _, hp, _ => by cases hp
theorem RepL.dp : ∀ (ds : List D) {vs : List V}, plainL ds = true → RepL K O H ds vs → DpAll K H vs (pdL ds)
  | [], _, _, h => by rw [show _ = [] from h]; exact .nil
  | d :: ds, _, hp, ⟨v, vs, e, r, rl⟩ => by
    have hp := Bool.and_eq_true_iff.mp (show (plain d && plainL ds) = true from hp)
    rw [e]; exact .cons (Rep.dp d hp.1 r) (RepL.dp ds hp.2 rl)
end
mutual
theorem RepM.dp : ∀ (m : M) {v : V} {F : List Addr}, plain (frz m) = true → RepM K O H m v F → Dp K H v (pd (frz m))
  | .val d, _, _, hp, ⟨_, h⟩ => Rep.dp d hp h
  | .lst ms, _, _, hp, ⟨a, xs, F', e, _, h, rl⟩ => by rw [e]; exact .lst (.inl (.inl h)) (RepML.dp ms hp rl)
  | .tup ms, _, _, hp, ⟨a, xs, e, _, h, rl⟩ => by rw [e]; exact .tup (.inl (.inl h)) (RepML.dp ms hp rl)
  | .dK _ _, _, _, hp, _ => by cases hp
  | .dT _ _, _, _, hp, _ => by cases hp
  | .ins _ _ _, _, _, hp, _ => by cases hp
theorem RepML.dp : ∀ (ms : List M) {vs : List V} {F : List Addr}, plainL (frzL ms) = true → RepML K O H ms vs F → DpAll K H vs (pdL (frzL ms))
  | [], _, _, _, ⟨h, _⟩ => by rw [h]; exact .nil
  | m :: ms, _, _, hp, ⟨v, vs, F1, F2, e, _, r, rl⟩ => by
    have hp := Bool.and_eq_true_iff.mp (show (plain (frz m) && plainL (frzL ms)) = true from hp)
    rw [e]; exact .cons (RepM.dp m hp.1 r) (RepML.dp ms hp.2 rl)
end
end
/-- data that may be compared -/
def CmpD (d : D) : Prop := plain d = true ∧ SeqAt.shaped (pd d) = true
section
variable {X : Cx} {env env1 env2 : Sls} {a b c e : Expr} {es rest : List Expr} {pos p p' : Pos} {d x y : D} {m m' : M} {ms : List M} {ds : List D} {K : PySem.W.Frag} {O : OW} {H : Hp} {n : Str} {s : Sl} {i j : Int} {k k2 : Bool}
theorem ro_eqD (hx : CmpD x) (hy : CmpD y) : RO K (rEqD K) x y (.val (.bool (PyData.eqv (pd x) (pd y)))) := ro_val fun O H u v Q hu hv q => ⟨pd x, pd y, hu.dp x hx.1, hv.dp y hy.1, hx.2, hy.2, q _ rfl⟩
theorem ro_neD (hx : CmpD x) (hy : CmpD y) : RO K (rNeD K) x y (.val (.bool (!PyData.eqv (pd x) (pd y)))) := ro_val fun O H u v Q hu hv q => ⟨pd x, pd y, hu.dp x hx.1, hv.dp y hy.1, hx.2, hy.2, q _ rfl⟩
theorem ev_eqD (ha : Ev X a env (.val x) env1) (hb : Ev X b env1 (.val y) env2) (hx : CmpD x) (hy : CmpD y) (hu : X.A.units + 64 < cLine) : Ev X (.Compare a [.Eq] [b] pos) env (.val (.bool (PyData.eqv (pd x) (pd y)))) env2 := ev_cmp (op_eqD hu) ha hb (ro_eqD hx hy)
theorem ev_neD (ha : Ev X a env (.val x) env1) (hb : Ev X b env1 (.val y) env2) (hx : CmpD x) (hy : CmpD y) (hu : X.A.units + 64 < cLine) : Ev X (.Compare a [.NotEq] [b] pos) env (.val (.bool (!PyData.eqv (pd x) (pd y)))) env2 := ev_cmp (op_neD hu) ha hb (ro_neD hx hy)
theorem tv_eqD (ha : Ev X a env (.val x) env1) (hb : Ev X b env1 (.val y) env2) (hx : CmpD x) (hy : CmpD y) (hu : X.A.units + 64 < cLine) : Tv X (.Compare a [.Eq] [b] pos) env (PyData.eqv (pd x) (pd y)) env2 := tv_cmp (op_eqD hu) ha hb (ro_eqD hx hy)
theorem tv_neD (ha : Ev X a env (.val x) env1) (hb : Ev X b env1 (.val y) env2) (hx : CmpD x) (hy : CmpD y) (hu : X.A.units + 64 < cLine) : Tv X (.Compare a [.NotEq] [b] pos) env (!PyData.eqv (pd x) (pd y)) env2 := tv_cmp (op_neD hu) ha hb (ro_neD hx hy)
/-! scalars -/
theorem cmp_int : CmpD (.int i) := ⟨rfl, rfl⟩
theorem cmp_bool : CmpD (.bool k) := ⟨rfl, rfl⟩
theorem cmp_str {z : Str} (h : PySem.PyData.strOk z = true) : CmpD (.str z) := ⟨rfl, by show (PySem.PyData.strOk z && decide (0 ≤ 64)) = true; rw [h]; rfl⟩
theorem cmp_none : CmpD .none := ⟨rfl, rfl⟩
theorem eqv_int : PyData.eqv (pd (.int i)) (pd (.int j)) = decide (i = j) := rfl
theorem eqv_str {z w : Str} : PyData.eqv (pd (.str z)) (pd (.str w)) = decide (z = w) := by
  show (z == w) = _
  by_cases h : z = w
  · subst h; simp
  · simp [h]
theorem eqv_bool : PyData.eqv (pd (.bool k)) (pd (.bool k2)) = decide (k = k2) := by cases k <;> cases k2 <;> rfl
theorem ev_eqI (ha : Ev X a env (.val (.int i)) env1) (hb : Ev X b env1 (.val (.int j)) env2) (hu : X.A.units + 64 < cLine) : Ev X (.Compare a [.Eq] [b] pos) env (.val (.bool (decide (i = j)))) env2 := ev_eqD ha hb cmp_int cmp_int hu
theorem tv_eqI (ha : Ev X a env (.val (.int i)) env1) (hb : Ev X b env1 (.val (.int j)) env2) (hu : X.A.units + 64 < cLine) : Tv X (.Compare a [.Eq] [b] pos) env (decide (i = j)) env2 := tv_eqD ha hb cmp_int cmp_int hu
theorem tv_neI (ha : Ev X a env (.val (.int i)) env1) (hb : Ev X b env1 (.val (.int j)) env2) (hu : X.A.units + 64 < cLine) : Tv X (.Compare a [.NotEq] [b] pos) env (!decide (i = j)) env2 := tv_neD ha hb cmp_int cmp_int hu
theorem tv_eqS {z w : Str} (hz : PySem.PyData.strOk z = true) (hw : PySem.PyData.strOk w = true) (ha : Ev X a env (.val (.str z)) env1) (hb : Ev X b env1 (.val (.str w)) env2) (hu : X.A.units + 64 < cLine) : Tv X (.Compare a [.Eq] [b] pos) env (decide (z = w)) env2 := (tv_eqD ha hb (cmp_str hz) (cmp_str hw) hu).eq eqv_str
theorem tv_neS {z w : Str} (hz : PySem.PyData.strOk z = true) (hw : PySem.PyData.strOk w = true) (ha : Ev X a env (.val (.str z)) env1) (hb : Ev X b env1 (.val (.str w)) env2) (hu : X.A.units + 64 < cLine) : Tv X (.Compare a [.NotEq] [b] pos) env (!decide (z = w)) env2 := (tv_neD ha hb (cmp_str hz) (cmp_str hw) hu).eq (by rw [eqv_str])
theorem ev_eqB (ha : Ev X a env (.val (.bool k)) env1) (hb : Ev X b env1 (.val (.bool k2)) env2) (hu : X.A.units + 64 < cLine) : Ev X (.Compare a [.Eq] [b] pos) env (.val (.bool (decide (k = k2)))) env2 := (ev_eqD ha hb cmp_bool cmp_bool hu).eq (by rw [eqv_bool])
theorem tv_neB (ha : Ev X a env (.val (.bool k)) env1) (hb : Ev X b env1 (.val (.bool k2)) env2) (hu : X.A.units + 64 < cLine) : Tv X (.Compare a [.NotEq] [b] pos) env (!decide (k = k2)) env2 := (tv_neD ha hb cmp_bool cmp_bool hu).eq (by rw [eqv_bool])
/-- a test of what a name owns with a datum -/
theorem tv_neO (i : Nat) (hb : Ev X b env (.val y) env1) (hi : env1[i]? = some (some s)) (hx : CmpD (frz s.m)) (hy : CmpD y) (hu : X.A.units + 64 < cLine) (hN : X.N[i]? = some n := by rfl) (hv : Vis X.env.scope n := by first | exact Or.inl rfl | exact Or.inr (Or.inl rfl) | exact Or.inr (Or.inr rfl))
    (hd : (n == ("__debug__" : Str)) = false := by decide) (hcd : (n == ("__classdict__" : Str)) = false := by decide) (hm : behindInMarks .NotEq b = false := by first | exact nomark _ | rfl) (hse : ∃ t, env[i]? = some (some t) := by exact ⟨_, rfl⟩) :
    Tv X (.Compare (.Name n p) [.NotEq] [b] pos) env (!PyData.eqv (pd (frz s.m)) (pd y)) env1 :=
  ⟨hb.1, fun O H σ F r w Q q => ⟨_, pt_cmpR (op_neD hu) (pe_var hN hv hd hcd) pe_w hm, by
    obtain ⟨t, ht⟩ := hse
    obtain ⟨v, F1, Fi, F2, e1, ef, _, _, _⟩ := RepS.at r ht
    refine ⟨v, e1, hb.2 O H σ F r w _ fun O1 H1 u Fu G ⟨eu, ru⟩ r1 s1 => ?_⟩
    subst eu
    obtain ⟨v', G1, Gi, G2, e2, ef', rm, _, _⟩ := RepS.at r1 hi
    have ev : v' = v := by rw [e1] at e2; exact (Option.some.inj (Option.some.inj e2)).symm
    subst ev
    exact ⟨_, _, RepM.dp _ hx.1 rm, ru.dp y hy.1, hx.2, hy.2, _, rfl, q O1 H1 G r1 s1⟩⟩⟩
/-! in, not in -/
theorem ev_notInL (ha : Ev X a env (.val x) env1) (hb : Ev X b env1 (.val (.lst ds)) env2) (hx : CmpD x) (hy : CmpD (.lst ds)) (hu : X.A.units + 65 < cLine) (hm : behindInMarks .NotIn b = false := by first | exact nomark _ | rfl) :
    Ev X (.Compare a [.NotIn] [b] pos) env (.val (.bool (!(pdL ds).any fun z => PyData.eqv z (pd x)))) env2 := ev_cmp (op_notInD hu) ha hb (ro_val fun O H u v Q hu hv q => ⟨pd x, pdL ds, hu.dp x hx.1, hv.dp _ hy.1, hx.2, hy.2, q _ rfl⟩) hm
theorem ev_inL (ha : Ev X a env (.val x) env1) (hb : Ev X b env1 (.val (.lst ds)) env2) (hx : CmpD x) (hy : CmpD (.lst ds)) (hu : X.A.units + 65 < cLine) (hm : behindInMarks .In b = false := by first | exact nomark _ | rfl) :
    Ev X (.Compare a [.In] [b] pos) env (.val (.bool ((pdL ds).any fun z => PyData.eqv z (pd x)))) env2 := ev_cmp (op_inD hu) ha hb (ro_val fun O H u v Q hu hv q => ⟨pd x, pdL ds, hu.dp x hx.1, hv.dp _ hy.1, hx.2, hy.2, q _ rfl⟩) hm
end

/-! ### displays of owned things, several targets -/
def EvMs (X : Cx) (es : List Expr) (env : Sls) (ms : List M) (env' : Sls) : Prop := Io env env' ∧
  ∀ (O : OW) (H : Hp) (σ : L2.St) (F : List Addr), RepS X.K O H env σ F → Wf O H F → ∀ Q : List V → Hp → Prop,
    (∀ (O' : OW) (H' : Hp) (vs : List V) (Fm F' : List Addr), RepML X.K O' H' ms vs Fm → RepS X.K O' H' env' σ F' → Step O H F O' H' (Fm ++ F') → Q vs H') → wA X es σ H Q
section
variable {X : Cx} {env env1 env2 : Sls} {a b c e : Expr} {es rest : List Expr} {pos p p' : Pos} {d x y : D} {m m' : M} {ms : List M} {ds : List D} {n : Str} {s : Sl}
theorem em_nil : EvMs X [] env [] env := ⟨Io.refl _, fun O H σ F r w Q q => ⟨_, pa_nil, q O H [] [] F ⟨rfl, rfl⟩ r (Step.refl w)⟩⟩
theorem em_cons (he : Ev X e env m env1) (hr : EvMs X es env1 ms env2) (hs : starEach (e :: es) X.env = (false, eval e X.env) :: starEach es X.env := by rfl) : EvMs X (e :: es) env (m :: ms) env2 :=
  ⟨he.1.trans hr.1, fun O H σ F r w Q q => ⟨_, pa_cons pe_w pa_w hs, he.2 O H σ F r w _ fun O1 H1 u Fu F1 ru r1 s1 => by
    have w1 := s1.wf
    refine hr.2 O1 H1 σ F1 r1 w1.right _ fun O2 H2 vs Fm F2 rm r2 s2 => ?_
    have pm : (Fu ++ F1).Perm (F1 ++ Fu) := List.perm_append_comm
    have sb := (s2.beside (w1.perm pm)).permL pm.symm
    refine q O2 H2 (u :: vs) (Fu ++ Fm) F2 ⟨u, vs, Fu, Fm, rfl, rfl, s2.repM w1.right (fun a h z => w1.apart h z) ru, rm⟩ r2 ((s1.trans w sb).permR (List.perm_iff_count.mpr fun a => by simp only [List.count_append]; omega))⟩⟩
/-- [a, b, ..] of owned things -/
theorem ev_lstM (h : EvMs X es env ms env1) (hz : ms.length ≤ 1000 := by first | decide | simp) : Ev X (.List es pos) env (.lst ms) env1 :=
  ⟨h.1, fun O H σ F r w Q q => ⟨_, pe_lst pa_w, h.2 O H σ F r w _ fun O1 H1 vs Fm F1 rm r1 s1 => by
    refine ⟨by rw [rm.len]; exact Nat.le_trans hz (by decide), fun p hp => ?_⟩
    have s0 : Step O1 H1 [] (fun a => O1 a ∨ a = p) (upd H1 p (.lst vs)) [p] := Step.new (G := []) s1.wf.nil hp
    refine q _ _ (.ref p) (p :: Fm) F1 ⟨p, vs, Fm, rfl, rfl, upd_same, s0.repML s1.wf.nil (fun _ _ => by simp) rm⟩ (r1.quiet s0) ((s1.trans w (s0.quiet s1.wf)).permR (List.Perm.refl _))⟩⟩
/-- x, y = a, b -/
theorem x1_par (i j : Nat) {x y : Str} {m1 m2 : M} {px py pt : Pos} {kt k2 pt2} (h : EvMs X [a, b] env [m1, m2] env1) (hioI : ∀ m', env[i]? ≠ some (some (Sl.io m')) := by intro _ h; cases h) (hioJ : ∀ m', env[j]? ≠ some (some (Sl.io m')) := by intro _ h; cases h)
    (hiL : i < env.length := by simp) (hjL : j < env.length := by simp) (hij : i ≠ j := by decide) (hN : X.N.Nodup := by assumption) (hi : X.N[i]? = some x := by rfl) (hj : X.N[j]? = some y := by rfl) (hx : X.env.scope.names.lookup x = some .local := by rfl) (hy : X.env.scope.names.lookup y = some .local := by rfl)
    (hc : X.calm = true := by rfl) (hw : swappedStores [.Tuple [.Name x px, .Name y py] kt pt] (.Tuple [a, b] k2 pt2) X.env = pure (some [x, y]) := by rfl) (hs : swapsWithSole [.Tuple [.Name x px, .Name y py] kt pt] (.Tuple [a, b] k2 pt2) pos.line X.env = pure false := by rfl) :
    Ex1 X (.Assign [.Tuple [.Name x px, .Name y py] kt pt] (.Tuple [a, b] k2 pt2) pos) env (.nx ((env1.set i (some (.own m1))).set j (some (.own m2)))) := fun O H σ F r w D g =>
  ⟨_, ps_par hc hN hi hj hij hx hy pa_w hw hs, h.2 O H σ F r w _ fun O1 H1 vs Fm F1 ⟨u, us, Fa, Fb, ev, ef, ra, v, vs', Fc, Fd, ev2, ef2, rb, en, en2⟩ r1 s1 => by
    subst en ev2 ev
    subst en2 ef2 ef
    have hl : env1.length = env.length := by rw [← r1.len, r.len]
    obtain ⟨G1, G2, Gi, eg, q1, k1⟩ := RepS.drop i (some u) (by rw [hl]; exact hiL) r1
    have r2 := k1 u (.own m1) Fa ra
    obtain ⟨J1, J2, Ji, ej, q2, k2⟩ := RepS.drop j (some v) (by rw [List.length_set, hl]; exact hjL) r2
    have r3 := k2 v (.own m2) Fc rb
    refine ⟨u, v, rfl, g O1 H1 _ _ r3 ((s1.permR (F2 := (J1 ++ (Fc ++ J2)) ++ (Gi ++ Ji)) (List.perm_iff_count.mpr fun a => ?_)).dropR) fun l m' z => ?_⟩
    · have e1 := congrArg (List.count a) eg
      have e2 := congrArg (List.count a) ej
      simp only [List.count_append, List.count_nil] at e1 e2 ⊢
      omega
    · have n1 : i ≠ l := fun q => hioI m' (q ▸ z)
      have n2 : j ≠ l := fun q => hioJ m' (q ▸ z)
      obtain ⟨m3, z3⟩ := h.1 l m' z
      exact ⟨⟨m3, by rw [List.getElem?_set_ne n2, List.getElem?_set_ne n1]; exact z3⟩, by rw [List.getElem?_set_ne n2, List.getElem?_set_ne n1]⟩⟩
/-- (x, y) = a tuple -/
theorem x1_asgT {tg : Expr} {ws : List Nat} (he : Ev X e env (.val d) env1) (ht : Tg X tg d ws env1 env2) (hs : swapsWithSole [tg] e pos.line X.env = pure false := by rfl) (hw : swappedStores [tg] e X.env = pure none := by rfl) (h1 : (assignEach [tg] X.env).map (·.2) = [assign tg X.env] := by rfl) :
    Ex1 X (.Assign [tg] e pos) env (.nx env2) := fun O H σ F r w D g =>
  ⟨_, ps_asg pe_w pg_w hs hw h1, he.2 O H σ F r w _ fun O1 H1 v Fv F1 ⟨ev, rv⟩ r1 s1 => by
    subst ev
    exact ht.2 O1 H1 σ F1 v rv r1 s1.wf _ fun σ2 F2 r2 s2 p2 _ => g O1 H1 σ2 F2 r2 (s1.trans w s2) ((Pins.of he.1).trans p2)⟩
end
end Lin

end

section
namespace Lin
open PySem PySem.Spec PyProof.Rows L2

/-! ### lists: methods on what a name owns -/
section
variable {X : Cx} {env env1 env2 : Sls} {a b c e : Expr} {es rest : List Expr} {pos p p' apos cpos : Pos} {d x y : D} {m m' : M} {ms : List M} {ds : List D} {n : Str} {s : Sl} {K : PySem.W.Frag} {O : OW} {H : Hp}
theorem ev_append (i : Nat) (ha : EvMs X [e] env [m'] env1) (hi : env1[i]? = some (some s)) (hm : s.m = .lst ms) (hz : ms.length < sizeLine) (hse : ∃ t ms0, env[i]? = some (some t) ∧ t.m = .lst ms0 := by exact ⟨_, _, rfl, rfl⟩) (hN : X.N[i]? = some n := by rfl) (hv : Vis X.env.scope n := by first | exact Or.inl rfl | exact Or.inr (Or.inl rfl) | exact Or.inr (Or.inr rfl))
    (hd : (n == ("__debug__" : Str)) = false := by decide) (hcd : (n == ("__classdict__" : Str)) = false := by decide)
    (hbase : attributeBase (.Name n p) "append" X.env (eval (.Name n p) X.env) = eval (.Name n p) X.env := by rfl)
    (hfew : ((backTo cpos (starEach [e] X.env)).all (fun x => !x.1) && (backToKw cpos (keywordEach [] X.env)).all (fun x => x.1.isSome)
      && decide ([e].length + ([] : List Keyword).length + (if ([] : List Keyword).isEmpty then 0 else 1) < 30)) = true := by rfl)
    (hline : (apos.endLine == cpos.line) = true := by rfl) (hs : starEach [e] X.env = (false, eval e X.env) :: starEach [] X.env := by rfl) (hplain : (backTo cpos (starEach [] X.env)).any (·.1) = false := by rfl) :
    Ev X (.Call (.Attribute (.Name n p) "append" apos) [e] [] cpos) env (.val .none) (env1.set i (some (s.put (.lst (ms ++ [m']))))) :=
  ⟨ha.1.trans (Io.put hi), fun O H σ F r w Q q => ⟨_, pe_bm PySem.F.plainAttrs_list PySem.F.slot_list_append PySem.F.type_list_append mt_append (pe_var hN hv hd hcd) pa_w hbase hfew hline hs hplain, by
    obtain ⟨t, ms0, ht, hm0⟩ := hse
    obtain ⟨v, F1, Fi, F2, e1, ef, rm0, _, _⟩ := RepS.at r ht
    rw [hm0] at rm0
    obtain ⟨l0, xs0, F0, el0, _, hp0, _⟩ := rm0
    refine ⟨v, e1, by rw [el0]; exact .inl ⟨rfl, _, .inl (.inl hp0)⟩, ha.2 O H σ F r w _ fun O1 H1 vs Fm G rml r1 s1 => ?_⟩
    obtain ⟨y, ys, Fa, Fb, ev, efm, ra, en, en2⟩ := rml
    subst en ev
    subst en2 efm
    obtain ⟨v', Fi', e2, rm, kk⟩ := slot_upd r1 hi s1.wf
    have ev : v' = v := by rw [e1] at e2; exact (Option.some.inj (Option.some.inj e2)).symm
    subst ev
    rw [hm] at rm
    obtain ⟨l, xs, F', el, ef', hp, rl⟩ := rm
    obtain ⟨ol, nl, k2⟩ := kk l F' ef'
    have nl1 : l ∉ F' := fun z => nl (List.mem_append_right _ z)
    have nl2 : l ∉ Fa := fun z => nl (List.mem_append_left _ (List.mem_append_left _ z))
    obtain ⟨F2', rs2, s2, _⟩ := k2 (.lst (xs ++ [y])) (.lst (ms ++ [m'])) (F' ++ Fa) [] [] (List.perm_iff_count.mpr fun a => by simp only [List.count_append, List.count_nil]; omega)
      ⟨l, xs ++ [y], F' ++ Fa, el, rfl, upd_same, (rl.updK nl1 ol).snoc (ra.updK nl2 ol)⟩
    exact ⟨l, xs, y, el, rfl, hp, by rw [rl.len]; exact hz, q O1 _ .non [] F2' ⟨rfl, rfl⟩ rs2 (s1.trans w s2)⟩⟩⟩
theorem RepML.erase : ∀ {ms : List M} {xs : List V} {F : List Addr} {k : Nat}, RepML K O H ms xs F → ms[k]? = some m → ∃ y Fy F3, xs[k]? = some y ∧ RepM K O H m y Fy ∧ RepML K O H (ms.eraseIdx k) (xs.eraseIdx k) F3 ∧ F.Perm (F3 ++ Fy)
  | [], _, _, _, _, h => by simp at h
  | m' :: ms, _, _, 0, ⟨v, vs, F1, F2, e, ef, p, q⟩, h => by
    have e' : m' = m := by simpa using h
    subst e e' ef
    exact ⟨v, F1, F2, rfl, p, q, List.perm_append_comm⟩
  | m' :: ms, _, _, k + 1, ⟨v, vs, F1, F2, e, ef, p, q⟩, h => by
    subst e ef
    obtain ⟨y, Fy, F3, h1, h2, h3, h4⟩ := RepML.erase (k := k) q (by simpa using h)
    refine ⟨y, Fy, F1 ++ F3, by simpa using h1, h2, ⟨v, _, F1, F3, rfl, rfl, p, h3⟩, ?_⟩
    rw [List.append_assoc]
    exact h4.append_left F1
theorem ev_popAt (i : Nat) {k : Int} {j : Nat} (ha : Ev X e env (.val (.int k)) env1) (hi : env1[i]? = some (some s)) (hm : s.m = .lst ms) (hk : seqIndex? k ms.length = some j) (hj : ms[j]? = some m) (h1 : -(2 ^ 63) ≤ k) (h2 : k < 2 ^ 63) (hse : ∃ t ms0, env[i]? = some (some t) ∧ t.m = .lst ms0 := by exact ⟨_, _, rfl, rfl⟩) (hN : X.N[i]? = some n := by rfl) (hv : Vis X.env.scope n := by first | exact Or.inl rfl | exact Or.inr (Or.inl rfl) | exact Or.inr (Or.inr rfl))
    (hd : (n == ("__debug__" : Str)) = false := by decide) (hcd : (n == ("__classdict__" : Str)) = false := by decide)
    (hbase : attributeBase (.Name n p) "pop" X.env (eval (.Name n p) X.env) = eval (.Name n p) X.env := by rfl)
    (hfew : ((backTo cpos (starEach [e] X.env)).all (fun x => !x.1) && (backToKw cpos (keywordEach [] X.env)).all (fun x => x.1.isSome)
      && decide ([e].length + ([] : List Keyword).length + (if ([] : List Keyword).isEmpty then 0 else 1) < 30)) = true := by rfl)
    (hline : (apos.endLine == cpos.line) = true := by rfl) (hs : starEach [e] X.env = (false, eval e X.env) :: starEach [] X.env := by rfl) (hplain : (backTo cpos (starEach [] X.env)).any (·.1) = false := by rfl) :
    Ev X (.Call (.Attribute (.Name n p) "pop" apos) [e] [] cpos) env m (env1.set i (some (s.put (.lst (ms.eraseIdx j))))) :=
  ⟨ha.1.trans (Io.put hi), fun O H σ F r w Q q => ⟨_, pe_bm PySem.F.plainAttrs_list PySem.F.slot_list_pop PySem.F.type_list_pop mt_popAt (pe_var hN hv hd hcd) (pa_cons pe_w pa_nil hs) hbase hfew hline hs hplain, by
    obtain ⟨t, ms0, ht, hm0⟩ := hse
    obtain ⟨v, F1, Fi, F2, e1, ef, rm0, _, _⟩ := RepS.at r ht
    rw [hm0] at rm0
    obtain ⟨l0, xs0, F0, el0, _, hp0, _⟩ := rm0
    refine ⟨v, e1, by rw [el0]; exact .inl ⟨rfl, _, .inl (.inl hp0)⟩, ha.2 O H σ F r w _ fun O1 H1 u Fu G ⟨eu, ru⟩ r1 s1 => ?_⟩
    subst eu
    have w1 : Wf O1 H1 ([] ++ G) := s1.wf
    obtain ⟨v', Fi', e2, rm, kk⟩ := slot_upd r1 hi w1
    have ev : v' = v := by rw [e1] at e2; exact (Option.some.inj (Option.some.inj e2)).symm
    subst ev
    rw [hm] at rm
    obtain ⟨l, xs, F', el, ef', hp, rl⟩ := rm
    obtain ⟨ol, nl, k2⟩ := kk l F' ef'
    obtain ⟨y, Fy, F3, hy, ry, rl3, pm⟩ := rl.erase hj
    have nl1 : l ∉ F3 := fun z => nl (pm.mem_iff.mpr (List.mem_append_left _ z))
    obtain ⟨F2', rs2, s2, kp⟩ := k2 (.lst (xs.eraseIdx j)) (.lst (ms.eraseIdx j)) F3 Fy [] (by simpa using pm) ⟨l, xs.eraseIdx j, F3, el, rfl, upd_same, rl3.updK nl1 ol⟩
    exact ⟨l, xs, k, j, y, el, by rw [show u = V.int k from ru], hp, h1, h2, by rw [rl.len]; exact hk, hy, q O1 _ y Fy F2' (kp m y ry) rs2 (s1.trans w s2)⟩⟩⟩
theorem seqIx {k : Int} {n : Nat} (h0 : 0 ≤ k) (h1 : k < n) : seqIndex? k n = some k.toNat := by
  unfold seqIndex?
  simp [show ¬ k < 0 by omega, show 0 ≤ k by omega, show k < (n : Int) by omega]
/-! list, tuple, sorted, str, len .. by values -/
theorem repL_M (h : RepL K O H ds xs) : RepML K O H (ds.map M.val) xs [] := repML_val ds h
theorem rf_new {r : List V → Hp → VK → Prop} {ds es : List D} (h : ∀ (O : OW) (H : Hp) (vs : List V), RepL K O H ds vs → ∃ xs, RepL K O H es xs ∧ ∀ Q : VK, (∀ p, H p = none → Q (.ref p) (upd H p (.lst xs))) → r vs H Q) : RF K r ds (.lst (es.map M.val)) :=
  fun O H w vs rl Q q => by
    obtain ⟨xs, rx, hr⟩ := h O H vs rl
    refine hr Q fun p hp => ?_
    have s0 : Step O H [] (fun a => O a ∨ a = p) (upd H p (.lst xs)) [p] := Step.new (G := []) w hp
    exact q _ _ (.ref p) [p] ⟨p, xs, [], rfl, rfl, upd_same, repML_val _ (RepL.keep (s0.kf w) s0.nw _ rx)⟩ s0
theorem rf_newT {r : List V → Hp → VK → Prop} {ds es : List D} (h : ∀ (O : OW) (H : Hp) (vs : List V), RepL K O H ds vs → ∃ xs, RepL K O H es xs ∧ ∀ Q : VK, (∀ p, H p = none → Q (.ref p) (upd H p (.tup xs))) → r vs H Q) : RF K r ds (.val (.tup es)) :=
  fun O H w vs rl Q q => by
    obtain ⟨xs, rx, hr⟩ := h O H vs rl
    refine hr Q fun p hp => ?_
    have s0 : Step O H [] O (upd H p (.tup xs)) [] := Step.newF w hp
    refine q _ _ (.ref p) [] ⟨rfl, p, xs, rfl, .inl ⟨fun z => ?_, .inl upd_same⟩, RepL.keep (s0.kf w) s0.nw _ rx⟩ s0
    obtain ⟨o, e⟩ := w.dom p z
    rw [hp] at e; cases e
theorem ev_listL (ha : Ev X e env (.val (.lst ds)) env1) (hm : X.mg "list" = none := by assumption) (hg : Gl X "list" := by rfl) (he : starEach [e] X.env = (false, eval e X.env) :: starEach [] X.env := by rfl) (hpl : (backTo pos (starEach [] X.env)).any (·.1) = false := by rfl) : Ev X (.Call (.Name "list" p) [e] [] pos) env (.lst (ds.map M.val)) env1 :=
  ev_cty (ds := [.lst ds]) call_list_of (rf_new fun O H vs ⟨u, us, e, ⟨a, xs, hu, _, hp, rl⟩, hn⟩ => ⟨xs, rl, fun Q q => ⟨a, xs, by rw [e, hu, show us = [] from hn], .inl (.inl (.inl hp)), q⟩⟩) (ea_cons ha ea_nil he) hm (by decide +kernel) hg (by decide) (by decide) he hpl
theorem ev_listT (ha : Ev X e env (.val (.tup ds)) env1) (hm : X.mg "list" = none := by assumption) (hg : Gl X "list" := by rfl) (he : starEach [e] X.env = (false, eval e X.env) :: starEach [] X.env := by rfl) (hpl : (backTo pos (starEach [] X.env)).any (·.1) = false := by rfl) : Ev X (.Call (.Name "list" p) [e] [] pos) env (.lst (ds.map M.val)) env1 :=
  ev_cty (ds := [.tup ds]) call_list_of (rf_new fun O H vs ⟨u, us, e, ⟨a, xs, hu, hp, rl⟩, hn⟩ => ⟨xs, rl, fun Q q => ⟨a, xs, by rw [e, hu, show us = [] from hn], .inr (TupAt.sq hp), q⟩⟩) (ea_cons ha ea_nil he) hm (by decide +kernel) hg (by decide) (by decide) he hpl
theorem ev_listS {ns : List Int} (ha : Ev X e env (.val (.scr ns)) env1) (hm : X.mg "list" = none := by assumption) (hg : Gl X "list" := by rfl) (he : starEach [e] X.env = (false, eval e X.env) :: starEach [] X.env := by rfl) (hpl : (backTo pos (starEach [] X.env)).any (·.1) = false := by rfl) : Ev X (.Call (.Name "list" p) [e] [] pos) env (.lst ((ns.map D.int).map M.val)) env1 :=
  ev_cty (ds := [.scr ns]) call_list_of (rf_new fun O H vs ⟨u, us, e, ⟨a, hu, hp⟩, hn⟩ => ⟨_, repL_ints ns, fun Q q => ⟨a, ns.map V.int, by rw [e, hu, show us = [] from hn], .inl (hp.imp (fun p => p.2) id), q⟩⟩) (ea_cons ha ea_nil he) hm (by decide +kernel) hg (by decide) (by decide) he hpl
theorem ev_tupL (ha : Ev X e env (.val (.lst ds)) env1) (hm : X.mg "tuple" = none := by assumption) (hg : Gl X "tuple" := by rfl) (he : starEach [e] X.env = (false, eval e X.env) :: starEach [] X.env := by rfl) (hpl : (backTo pos (starEach [] X.env)).any (·.1) = false := by rfl) : Ev X (.Call (.Name "tuple" p) [e] [] pos) env (.val (.tup ds)) env1 :=
  ev_cty (ds := [.lst ds]) call_tuple_of (rf_newT fun O H vs ⟨u, us, e, ⟨a, xs, hu, _, hp, rl⟩, hn⟩ => ⟨xs, rl, fun Q q => ⟨a, xs, by rw [e, hu, show us = [] from hn], .inl ⟨.inl (.inl hp), q⟩⟩⟩) (ea_cons ha ea_nil he) hm (by decide +kernel) hg (by decide) (by decide) he hpl
theorem perm_sorted_eq {l1 l2 : List Int} (p : l1.Perm l2) (h1 : l1.Pairwise (· ≤ ·)) (h2 : l2.Pairwise (· ≤ ·)) : l1 = l2 := p.eq_of_pairwise (fun a b _ _ h1 h2 => Int.le_antisymm h1 h2) h1 h2
theorem ev_sortedI {ns ns0 : List Int} (ha : Ev X e env (.val (.lst (ns.map D.int))) env1) (hp : ns0.Perm ns) (hs : ns0.Pairwise (· ≤ ·)) (hm : X.mg "sorted" = none := by assumption) (hg : Gl X "sorted" := by rfl) (he : starEach [e] X.env = (false, eval e X.env) :: starEach [] X.env := by rfl) (hpl : (backTo pos (starEach [] X.env)).any (·.1) = false := by rfl) : Ev X (.Call (.Name "sorted" p) [e] [] pos) env (.lst ((ns0.map D.int).map M.val)) env1 :=
  ev_cbi (ds := [.lst (ns.map D.int)]) cr_sortedI (rf_new fun O H vs ⟨u, us, e, ⟨a, xs, hu, _, ha, rl⟩, hn⟩ => ⟨_, repL_ints ns0, fun Q q => ⟨a, ns, by rw [e, hu, show us = [] from hn], .inl (.inl (by rw [← RepL.ints ns rl]; exact ha)), fun ns' p pm pw hp' => by
    rw [perm_sorted_eq (pm.trans hp.symm) pw hs]
    exact q p hp'⟩⟩) (ea_cons ha ea_nil he) hm (by decide +kernel) hg (by decide) (by decide) he hpl
theorem ev_strI {k : Int} (ha : Ev X e env (.val (.int k)) env1) (hk : k.natAbs.log2 < 1920) (hm : X.mg "str" = none := by assumption) (hg : Gl X "str" := by rfl) (he : starEach [e] X.env = (false, eval e X.env) :: starEach [] X.env := by rfl) (hpl : (backTo pos (starEach [] X.env)).any (·.1) = false := by rfl) : Ev X (.Call (.Name "str" p) [e] [] pos) env (.val (.str (toString k))) env1 :=
  ev_cty (ds := [.int k]) call_str_int (rf_val fun O H vs Q ⟨u, us, e, hu, hn⟩ q => ⟨k, by rw [e, show u = V.int k from hu, show us = [] from hn], hk, q _ rfl⟩) (ea_cons ha ea_nil he) hm (by decide +kernel) hg (by decide) (by decide) he hpl
theorem ev_intB {k : Bool} (ha : Ev X e env (.val (.bool k)) env1) (hm : X.mg "int" = none := by assumption) (hg : Gl X "int" := by rfl) (he : starEach [e] X.env = (false, eval e X.env) :: starEach [] X.env := by rfl) (hpl : (backTo pos (starEach [] X.env)).any (·.1) = false := by rfl) : Ev X (.Call (.Name "int" p) [e] [] pos) env (.val (.int (if k then 1 else 0))) env1 :=
  ev_cty (ds := [.bool k]) call_int1 (rf_val fun O H vs Q ⟨u, us, e, hu, hn⟩ q => .inr ⟨k, by rw [e, show u = V.bl k from hu, show us = [] from hn], q _ rfl⟩) (ea_cons ha ea_nil he) hm boot_int hg (by decide) (by decide) he hpl
/-! texts -/
theorem op_mul_str : OpR X (binaryOp .Mult) (fun x y H Q => ∃ (z : Str) (i : Int), x = .str z ∧ y = .int i ∧ MulOk z i ∧ Q (.str (Txt.mul z i)) H) := by
  intro pins s σ H x y v u Q I rx ry h
  obtain ⟨z, i, rfl, rfl, hz, q⟩ := h
  obtain ⟨t, rfl⟩ := rx
  obtain ⟨t', rfl⟩ := ry
  exact SB.mul hz fun t' k => ⟨.str _, H, I.tok _, ⟨_, rfl⟩, q⟩
theorem ev_mulS {z : Str} {i : Int} (ha : Ev X a env (.val (.str z)) env1) (hb : Ev X b env1 (.val (.int i)) env2) (hz : MulOk z i) : Ev X (.BinOp a .Mult b pos) env (.val (.str (Txt.mul z i))) env2 := ev_bin op_mul_str ha hb (ro_val fun O H u v Q hu hv q => ⟨z, i, hu, hv, hz, q _ rfl⟩)
theorem ev_addS {z w : Str} (ha : Ev X a env (.val (.str z)) env1) (hb : Ev X b env1 (.val (.str w)) env2) (hz : z.length + w.length ≤ sizeLine) : Ev X (.BinOp a .Add b pos) env (.val (.str (z ++ w))) env2 := ev_bin op_add_str ha hb (ro_val fun O H u v Q hu hv q => ⟨z, w, hu, hv, hz, q _ rfl⟩)
theorem ev_ixS {z : Str} {i : Int} {c : Nat} (ha : Ev X a env (.val (.str z)) env1) (hb : Ev X b env1 (.val (.int i)) env2) (hz : z.length ≤ sizeLine) (hc : L2.atI z.cps.toList i = some c) (hs : PlainIx b := by exact fun _ _ => rfl) : Ev X (.Subscript a b pos) env (.val (.str ⟨#[c]⟩)) env2 := ev_ix ix_str ha hb (ro_val fun O H u v Q hu hv q => ⟨z, i, c, hu, hv, hz, hc, q _ rfl⟩) hs
theorem repL_strs : ∀ (ns : List Str), RepL K O H (ns.map D.str) (ns.map V.str)
  | [] => rfl
  | n :: ns => ⟨_, _, rfl, rfl, repL_strs ns⟩
theorem RepL.strs : ∀ (ns : List Str) {xs : List V}, RepL K O H (ns.map D.str) xs → xs = ns.map V.str
  | [], _, h => h
  | n :: ns, _, ⟨v, vs, e, p, q⟩ => by rw [e, show v = V.str n from p, RepL.strs ns q]; rfl
theorem ev_join {z : Str} {ys : List Str} (ha : Ev X a env (.val (.str z)) env1) (hb : Ev X b env1 (.val (.lst (ys.map D.str))) env2) (hz : (ys.map (·.length)).sum + ys.length * z.length ≤ 16777216) (hs : starEach [b] X.env = [(false, eval b X.env)] := by rfl) (hbase : attributeBase a "join" X.env (eval a X.env) = eval a X.env := by rfl) (hline : (apos.endLine == pos.line) = true := by rfl) :
    Ev X (.Call (.Attribute a "join" apos) [b] [] pos) env (.val (.str (Txt.join z ys))) env2 :=
  ⟨ha.1.trans hb.1, fun O H σ F rs w Q q => ⟨_, pe_join pe_w pe_w hs hbase hline, ha.2 O H σ F rs w _ fun O1 H1 u Fu F1 ⟨eu, ru⟩ r1 s1 => by
    subst eu
    refine ⟨⟨z, ru⟩, hb.2 O1 H1 σ F1 r1 s1.wf _ fun O2 H2 v Fv F2 ⟨ev, rv⟩ r2 s2 => ?_⟩
    subst ev
    obtain ⟨a', xs, hv, _, hp, rl⟩ := rv
    exact ⟨z, a', ys, ru, by rw [hv], .inl (.inl (.inl (by rw [← RepL.strs ys rl]; exact hp))), hz, q O2 H2 _ [] F2 ⟨rfl, rfl⟩ r2 (s1.trans w s2)⟩⟩⟩
theorem ev_split {z t : Str} (ha : Ev X a env (.val (.str z)) env1) (hb : Ev X b env1 (.val (.str t)) env2) (ht : (t.length == 0) = false) (hz : z.length + 2 ≤ sizeLine) (hs : starEach [b] X.env = [(false, eval b X.env)] := by rfl) (hbase : attributeBase a "split" X.env (eval a X.env) = eval a X.env := by rfl) (hline : (apos.endLine == pos.line) = true := by rfl) :
    Ev X (.Call (.Attribute a "split" apos) [b] [] pos) env (.lst (((Txt.split z t).map D.str).map M.val)) env2 :=
  ⟨ha.1.trans hb.1, fun O H σ F rs w Q q => ⟨_, pe_split pe_w pe_w hs hbase hline, ha.2 O H σ F rs w _ fun O1 H1 u Fu F1 ⟨eu, ru⟩ r1 s1 => by
    subst eu
    refine ⟨⟨z, ru⟩, hb.2 O1 H1 σ F1 r1 s1.wf _ fun O2 H2 v Fv F2 ⟨ev, rv⟩ r2 s2 => ?_⟩
    subst ev
    refine ⟨z, t, ru, by rw [show v = V.str t from rv], ht, hz, fun p hp => ?_⟩
    have s0 : Step O2 H2 [] (fun a => O2 a ∨ a = p) (upd H2 p (.lst ((Txt.split z t).map V.str))) [p] := Step.new (G := []) s2.wf.nil hp
    exact q _ _ (.ref p) [p] F2 ⟨p, _, [], rfl, rfl, upd_same, repML_val _ (repL_strs _)⟩ (r2.quiet s0) ((s1.trans w s2).trans w (s0.quiet s2.wf))⟩⟩
end
end Lin

end

section
set_option maxHeartbeats 4000000
namespace Lin
open PySem PySem.Spec PyProof.Rows L2
section
variable {X : Cx}
/-- name = {a dict comprehension}, the name a local -/
theorem ps_setDc {i : Nat} {y : Str} {py pos spos : Pos} {kx vx tg iter : Expr} {ifs : List Expr} {scope : Scope} {own : List (Str × Nat)} {wi : TI} {g : TG} {tt : TT} {tk tv : TE} (calm : X.calm = true) (nd : X.N.Nodup) (yi : X.N[i]? = some y) (loc : X.env.scope.names.lookup y = some .local)
    (sw : swapsWith (.DictComp kx vx [⟨tg, iter, ifs, 0⟩] scope pos) (some (.Name y py)) spos.line X.env = pure true) (ii : PI X tg iter wi) (ok : BlkOk X.N X.env.scope scope own)
    (gg : ∀ s H C cl fp, PG (X.blk s H scope (compEnvC scope cl C X.env) fp) tg g) (gt : ∀ s H C cl fp, PTs (X.blk s H scope (compEnvC scope cl C X.env) fp) ifs tt) (gk : ∀ s H C cl fp, PE (X.blk s H scope (compEnvC scope cl C X.env) fp) kx tk) (gv : ∀ s H C cl fp, PE (X.blk s H scope (compEnvC scope cl C X.env) fp) vx tv)
    (fold : ∀ x, foldedSetIterable iter X.env x = pure x := by intro _; rfl) : PS X (.Assign [.Name y py] (.DictComp kx vx [⟨tg, iter, ifs, 0⟩] scope pos) spos) (tAsg (tDc wi g tt tk tv (own.map (·.2))) (gName i)) := by
  constructor
  intro pins s σ H D I wish
  rw [exec_Assign_Name_used _ _ _ _ sw]
  refine wpAny_bind (wpAny_standAt (wpAny_bind ?_))
  change wpAny _ X.A (comprehension (.DictComp kx vx [⟨tg, iter, ifs, 0⟩] scope pos) scope X.env (firstIterPos [⟨tg, iter, ifs, 0⟩] pos) newDict false (eval iter X.env) (some (assign (.Name y py) X.env)) >>= fun _ => pure ()) _ _ s
  have wish2 : tDc wi g tt tk tv (own.map (·.2)) σ H (fun x H1 => gName i x σ H1 D.nx) := wish
  have core := dc_core (pos := pos) (pos' := firstIterPos [⟨tg, iter, ifs, 0⟩] pos) (use := some (assign (.Name y py) X.env)) (Qf := fun _ t => SP X pins D .next t) calm nd I ii ok gg gt gk gv fold wish2 fun L C t m H2 I2 q ns fr => by
    change wpAny _ _ (assign (.Name y py) X.env (.ref L)) _ _ _
    obtain ⟨f0, f1, f2, f3, f4, f5⟩ := fr
    refine wpAny_assign_Name (store_ok2 (v := V.ref L) I2 nd yi (.inl loc) rfl (fun t2 I3 ⟨a, sb, ha⟩ => ?_) (.inr loc))
    have off : C ≠ a := ha.elim (fun z => z ▸ f1) fun z e => f4 y a z e.symm
    exact ⟨m, ns.sameBut sb off, fun h3 sb3 => ⟨_, H2, I3.turned (t' := t2.toks) (fun b o hb e => (sb3.2 b hb).trans e) f0 f1 f3 f4 f5, q⟩⟩
  exact wpAny_bind (thn core fun _ t hq => wpAny_pure (wpAny_pure hq))
end
end Lin

end

section
set_option maxHeartbeats 4000000
namespace Lin
open PySem PySem.Spec PyProof.Rows L2

/-! sorted(a tuple of ints) -/
section
variable {prog : Program} {w : World} {A : Around} {E : Value → Shared → Prop} {s : Shared}
/-- the items of a tuple, gathered in a list -/
theorem gather {it : Addr} {vs : List Value} {Q : List Value → Shared → Prop} (hl : IsTup s.heap it vs.toArray) (hz : vs.length ≤ sizeLine)
    (k : Q vs { s with heap := (s.heap.push (seqObj "list" #[] 0)).update s.heap.objs.size (Obj.mapSeq (· ++ vs.toArray)) }) : wpAny (model prog w) A (collect (.ref it)) Q E s := by
  obtain ⟨o, ho, hc, n, hd⟩ := hl
  have hS : (s.heap.push (seqObj "list" #[] 0)).get? s.heap.objs.size = some (seqObj "list" #[] 0) := Heap.get?_push_size _ rfl
  have hU : ((s.heap.push (seqObj "list" #[] 0)).update s.heap.objs.size (Obj.mapSeq (· ++ vs.toArray))).get? s.heap.objs.size = some (Obj.mapSeq (· ++ vs.toArray) (seqObj "list" #[] 0)) := Heap.get?_update_self _ hS rfl
  unfold collect
  refine wpAny_bind (wpAny_runValue (codeAny_builtin F.entry_proto_collect ?_))
  rw [Around.under_plainId F.plain_proto_collect]
  change wpAny (model prog w) A.in1 (newList [] >>= fun l => again (.builtin "list.__iadd__" ⟨[l, .ref it], []⟩)) _ _ s
  refine wpAny_bind (wpAny_newObj_type (wpAny_pure ⟨plainId_quiet F.plain_list_iadd _, codeAny_builtin F.entry_list_iadd ?_⟩))
  rw [Around.under_plainId F.plain_list_iadd]
  change wpAny (model prog w) A.in1 (Builtin.List.listExtendWith (.ref s.heap.objs.size) (.ref it) (.ref s.heap.objs.size)) _ _ { s with heap := s.heap.push (seqObj "list" #[] 0) }
  have step := wpAny_extend_seq (prog := prog) (w := w) (A := A) (s := { s with heap := s.heap.push (seqObj "list" #[] 0) }) s.heap.objs.size it (.ref s.heap.objs.size) 0 (T := "tuple") (o := o) (items := vs.toArray) (n := n) (.inr rfl) hS (Heap.get?_push_of_some _ ho) hc hd
    (R := fun r t => r = .ok (.ret (.ref s.heap.objs.size)) ∧ t = { s with heap := (s.heap.push (seqObj "list" #[] 0)).update s.heap.objs.size (Obj.mapSeq (· ++ vs.toArray)) }) ⟨rfl, rfl⟩ (by simpa using hz)
  have done : wpAny (model prog w) A (load s.heap.objs.size >>= fun o => match o.data with
      | .seq xs _ => pure xs.toList
      | _ => unsupported "internal:collect") Q E { s with heap := (s.heap.push (seqObj "list" #[] 0)).update s.heap.objs.size (Obj.mapSeq (· ++ vs.toArray)) } := by
    refine wpAny_bind (wpAny_load hU ?_)
    change wpAny (model prog w) A (pure ((#[] : Array Value) ++ vs.toArray).toList) Q E _
    have e : ((#[] : Array Value) ++ vs.toArray).toList = vs := by simp
    rw [e]
    exact wpAny_pure k
  refine wpAny_mono step (fun fin t h => ?_) fun e t h => ?_
  · cases fin with
    | done f =>
      obtain ⟨e1, rfl⟩ := h
      cases e1
      exact done
    | again c =>
      refine ⟨h.1, codeAny_mono h.2 fun r t2 h2 => ?_⟩
      obtain ⟨rfl, rfl⟩ := h2
      exact done
  · exact absurd h.1 (by simp)
end
/-- sorted of a tuple of ints -/
def rSortTI (K : PySem.W.Frag) : List V → Hp → VK → Prop := fun vs H Q => ∃ (a : Addr) (ns : List Int), vs = [V.ref a] ∧ SqT K H a (ns.map V.int) ∧
  ∀ (ms : List Int) (p : Addr), ms.Perm ns → ms.Pairwise (· ≤ ·) → H p = none → Q (.ref p) (upd H p (.lst (ms.map V.int)))
theorem cr_sortTI {X : Cx} : CallR X (.builtin "sorted") (rSortTI X.K) := by
  intro pins s σ H vs us Q I r h
  obtain ⟨a, ns, rfl, hs, q⟩ := h
  obtain ⟨its, rv, hl, hz⟩ := I.tuple hs
  have hz2 : its.length ≤ sizeLine := by rw [← rv.length]; exact hz
  have hi := rv.ints
  rw [Vals.ref1 r]
  refine Calls.call_function_entry kind_sorted plain_sorted entry_sorted (args_sorted1 _) ?_
  unfold Builtin.«sorted»
  refine wpAny_bind (m := checkCount "sorted" 1 1 _) (wpAny_pure (wpAny_bind (gather hl hz2 (wpAny_bind (wpAny_newList ?_ hz2)))))
  have size1 : ((s.heap.push (seqObj "list" #[] 0)).update s.heap.objs.size (Obj.mapSeq (· ++ its.toArray))).objs.size = s.heap.objs.size + 1 := (Heap.size_update ..).trans (size_push' ..)
  change wpAny _ _ _ _ _ { s with heap := PySem.W.copyHeap s.heap its }
  rw [size1]
  have h0 := PySem.W.copyHeap_at s.heap its
  refine wpAny_bind (wpAny_holding (wpAny_call_entry slot_list_sort ⟨_, h0, rfl⟩ entry_list_sort (SrtO.list_sort_ord SrtO.swo_int h0 hz2 (fun h2 => SrtO.ints_sortable hi h2) fun out g1 g2 => ⟨_, rfl, wpAny_pure ⟨_, rfl, ?_⟩⟩) (args_list_sort _)))
  obtain ⟨k1, k2, k3⟩ := SrtO.ints_out hi g1 g2
  obtain ⟨ep, at1⟩ := PyProof.Rows.sortedAll_at s.heap its out.toArray
  have len : ((out.map SrtO.iv).map V.int).length ≤ sizeLine := by
    rw [List.length_map, k2.length_eq, ← List.length_map (f := V.int)]
    exact hz
  exact ⟨.ref (s.heap.objs.size + 1), upd H (s.heap.objs.size + 1) (.lst ((out.map SrtO.iv).map V.int)), I.laid (t' := s.toks) (fun _ _ => PyProof.Rows.sortedAll_old) (Nat.le_succ _) ⟨len, out, ep, vals_of_ints k1, at1⟩, rfl, q _ _ k2 k3 (I.hok.fresh (Nat.le_succ _))⟩
end Lin

end

section
namespace Lin
open PySem PySem.Spec PyProof.Rows L2

/-! ### slices -/
def cutD {α : Type} (ds : List α) (lo hi : Option Int) : List α := (ds.drop (HT.sIx ds.length 0 lo)).take (HT.sIx ds.length ds.length hi - HT.sIx ds.length 0 lo)
section
variable {K : PySem.W.Frag} {O : OW} {H : Hp}
theorem RepL.drop : ∀ {ds : List D} {xs : List V} (k : Nat), RepL K O H ds xs → RepL K O H (ds.drop k) (xs.drop k)
  | ds, xs, 0, h => h
  | [], _, k + 1, h => by rw [show _ = [] from h]; rfl
  | d :: ds, _, k + 1, ⟨v, vs, e, p, q⟩ => by rw [e]; exact RepL.drop k q
theorem RepL.take : ∀ {ds : List D} {xs : List V} (k : Nat), RepL K O H ds xs → RepL K O H (ds.take k) (xs.take k)
  | ds, xs, 0, h => rfl
  | [], _, k + 1, h => by rw [show _ = [] from h]; rfl
  | d :: ds, _, k + 1, ⟨v, vs, e, p, q⟩ => by rw [e]; exact ⟨v, _, rfl, p, RepL.take k q⟩
theorem RepL.cut {ds : List D} {xs : List V} (lo hi : Option Int) (h : RepL K O H ds xs) : RepL K O H (cutD ds lo hi) (cutV xs lo hi) := by
  unfold cutD cutV
  rw [h.len]
  exact (h.drop _).take _
end
theorem cutV_ints (ns : List Int) (lo hi : Option Int) : cutV (ns.map V.int) lo hi = (cutD ns lo hi).map V.int := by
  unfold cutD cutV
  rw [List.length_map, List.map_take, List.map_drop]
def wO (X : Cx) (e : Option Expr) : TO := fun σ H Q => ∃ t, PO X e t ∧ t σ H Q
theorem po_w {X : Cx} {e : Option Expr} : PO X e (wO X e) := ⟨fun pins s σ H Q I ⟨t, p, h⟩ => p.run pins s σ H Q I h⟩
def PoE (X : Cx) (e : Option Expr) (env : Sls) (l : Option Int) (env' : Sls) : Prop := Io env env' ∧
  ∀ (O : OW) (H : Hp) (σ : L2.St) (F : List Addr), RepS X.K O H env σ F → Wf O H F → ∀ Q : Option Int → Hp → Prop,
    (∀ (O' : OW) (H' : Hp) (F' : List Addr), RepS X.K O' H' env' σ F' → Step O H F O' H' F' → Q l H') → wO X e σ H Q
section
variable {X : Cx} {env env1 env2 env3 : Sls} {a b c e : Expr} {es rest : List Expr} {pos p p2 p' apos cpos : Pos} {d x y : D} {m m' : M} {ms : List M} {ds es' : List D} {n : Str} {s : Sl} {K : PySem.W.Frag} {O : OW} {H : Hp} {lo hi : Option Expr} {l u : Option Int} {i : Int}
theorem po_no : PoE X none env none env := ⟨Io.refl _, fun O H σ F r w Q q => ⟨_, po_none, q O H F r (Step.refl w)⟩⟩
theorem po_ev (h : Ev X e env (.val (.int i)) env1) : PoE X (some e) env (some i) env1 := ⟨h.1, fun O H σ F r w Q q => ⟨_, po_some pe_w, h.2 O H σ F r w _ fun O1 H1 v Fv F1 ⟨ev, rv⟩ r1 s1 => by
  subst ev
  exact ⟨i, rv, q O1 H1 F1 r1 s1⟩⟩⟩
theorem ev_slL (ha : Ev X e env (.val (.lst ds)) env1) (hl : PoE X lo env1 l env2) (hu : PoE X hi env2 u env3) : Ev X (.Subscript e (.Slice lo hi none p2) pos) env (.lst ((cutD ds l u).map M.val)) env3 :=
  ⟨(ha.1.trans hl.1).trans hu.1, fun O H σ F r w Q q => ⟨_, pe_slice sl_list pe_w po_w po_w, ha.2 O H σ F r w _ fun O1 H1 v Fv F1 ⟨ev, rv⟩ r1 s1 => by
    subst ev
    refine hl.2 O1 H1 σ F1 r1 s1.wf _ fun O2 H2 F2 r2 s2 => hu.2 O2 H2 σ F2 r2 s2.wf _ fun O3 H3 F3 r3 s3 => ?_
    have s12 := s2.trans s1.wf s3
    obtain ⟨a, xs, ea, no, hp, rl⟩ := s12.rep s1.wf rv
    refine ⟨a, xs, ea, .inl (.inl hp), fun p hp => ?_⟩
    have s0 : Step O3 H3 [] (fun a => O3 a ∨ a = p) (upd H3 p (.lst (cutV xs l u))) [p] := Step.new (G := []) s3.wf.nil hp
    exact q _ _ (.ref p) [p] F3 ⟨p, _, [], rfl, rfl, upd_same, repML_val _ (RepL.keep (s0.kf s3.wf.nil) s0.nw _ (rl.cut l u))⟩ (r3.quiet s0) ((s1.trans w s12).trans w (s0.quiet s3.wf))⟩⟩
theorem ev_slS {ns : List Int} (ha : Ev X e env (.val (.scr ns)) env1) (hl : PoE X lo env1 l env2) (hu : PoE X hi env2 u env3) : Ev X (.Subscript e (.Slice lo hi none p2) pos) env (.lst (((cutD ns l u).map D.int).map M.val)) env3 :=
  ⟨(ha.1.trans hl.1).trans hu.1, fun O H σ F r w Q q => ⟨_, pe_slice sl_list pe_w po_w po_w, ha.2 O H σ F r w _ fun O1 H1 v Fv F1 ⟨ev, rv⟩ r1 s1 => by
    subst ev
    refine hl.2 O1 H1 σ F1 r1 s1.wf _ fun O2 H2 F2 r2 s2 => hu.2 O2 H2 σ F2 r2 s2.wf _ fun O3 H3 F3 r3 s3 => ?_
    have s12 := s2.trans s1.wf s3
    obtain ⟨a, ea, hp⟩ := s12.rep s1.wf rv
    refine ⟨a, ns.map V.int, ea, hp.imp (fun p => p.2) id, fun p hp => ?_⟩
    rw [cutV_ints]
    have s0 : Step O3 H3 [] (fun a => O3 a ∨ a = p) (upd H3 p (.lst ((cutD ns l u).map V.int))) [p] := Step.new (G := []) s3.wf.nil hp
    exact q _ _ (.ref p) [p] F3 ⟨p, _, [], rfl, rfl, upd_same, repML_val _ (repL_ints _)⟩ (r3.quiet s0) ((s1.trans w s12).trans w (s0.quiet s3.wf))⟩⟩
theorem cutD_all {α : Type} {xs : List α} (h : HT.sIx xs.length 0 l = 0 ∧ HT.sIx xs.length xs.length u = xs.length) : cutD xs l u = xs := by
  unfold cutD
  rw [h.1, h.2, List.drop_zero, Nat.sub_zero, List.take_length]
theorem ev_slT (ha : Ev X e env (.val (.tup ds)) env1) (hl : PoE X lo env1 l env2) (hu : PoE X hi env2 u env3) : Ev X (.Subscript e (.Slice lo hi none p2) pos) env (.val (.tup (cutD ds l u))) env3 :=
  ⟨(ha.1.trans hl.1).trans hu.1, fun O H σ F r w Q q => ⟨_, pe_slice sl_tupA pe_w po_w po_w, ha.2 O H σ F r w _ fun O1 H1 v Fv F1 ⟨ev, rv⟩ r1 s1 => by
    subst ev
    refine hl.2 O1 H1 σ F1 r1 s1.wf _ fun O2 H2 F2 r2 s2 => hu.2 O2 H2 σ F2 r2 s2.wf _ fun O3 H3 F3 r3 s3 => ?_
    have s12 := s2.trans s1.wf s3
    obtain ⟨a, xs, ea, ta, rl⟩ := s12.rep s1.wf rv
    refine ⟨a, xs, ea, TupAt.sq ta, fun hall => ?_, fun _ p hp => ?_⟩
    · rw [rl.len] at hall
      rw [cutD_all hall] at q
      exact q O3 H3 _ [] F3 ⟨rfl, a, xs, rfl, ta, rl⟩ r3 (s1.trans w s12)
    · have s0 : Step O3 H3 [] O3 (upd H3 p (.tup (cutV xs l u))) [] := Step.newF s3.wf.nil hp
      refine q _ _ (.ref p) [] F3 ⟨rfl, p, _, rfl, .inl ⟨fun z => ?_, .inl upd_same⟩, RepL.keep (s0.kf s3.wf.nil) s0.nw _ (rl.cut l u)⟩ (r3.quiet s0) ((s1.trans w s12).trans w (s0.quiet s3.wf))
      obtain ⟨o, e⟩ := s3.wf.dom p z
      rw [hp] at e; cases e⟩⟩
/-- tuple + tuple -/
theorem ro_catT (hz : ds.length + es'.length ≤ sizeLine) : RO K (rCatA K) (.tup ds) (.tup es') (.val (.tup (ds ++ es'))) :=
  fun O H w u v ⟨a, xs, eu, ha, ra⟩ ⟨b, ys, ev, hb, rb⟩ Q q => ⟨a, b, xs, ys, eu, ev, TupAt.sq ha, TupAt.sq hb, by rw [ra.len, rb.len]; exact hz, fun e => by
      subst e
      have e2 : ds = [] := List.length_eq_zero_iff.mp (by rw [← ra.len]; rfl)
      subst e2
      exact q O H _ [] ⟨rfl, b, ys, rfl, hb, rb⟩ (Step.refl w), fun _ e => by
      subst e
      have e2 : es' = [] := List.length_eq_zero_iff.mp (by rw [← rb.len]; rfl)
      subst e2
      rw [List.append_nil] at q
      exact q O H _ [] ⟨rfl, a, xs, rfl, ha, ra⟩ (Step.refl w), fun _ _ p hp => by
      have s0 : Step O H [] O (upd H p (.tup (xs ++ ys))) [] := Step.newF w hp
      refine q O _ _ [] ⟨rfl, p, _, rfl, .inl ⟨fun z => ?_, .inl upd_same⟩, RepL.keep (s0.kf w) s0.nw _ (ra.app rb)⟩ s0
      obtain ⟨o, e⟩ := w.dom p z
      rw [hp] at e; cases e⟩
theorem ev_catT (ha : Ev X a env (.val (.tup ds)) env1) (hb : Ev X b env1 (.val (.tup es')) env2) (hz : ds.length + es'.length ≤ sizeLine) : Ev X (.BinOp a .Add b pos) env (.val (.tup (ds ++ es'))) env2 := ev_bin op_catA ha hb (ro_catT hz)

/-! ### dicts of frozen things -/
/-- what stands under k -/
def getD (ks : List Key) (ds : List D) (k : Key) : Option D := ((ks.zip ds).find? fun kv => decide (kv.1 = k)).map (·.2)
theorem rep_val {k : Key} : ∀ {kvs : List (Key × V)} {ks : List Key} {ds : List D}, kvs.map (·.1) = ks → RepL K O H ds (kvs.map (·.2)) → (∃ d v, getD ks ds k = some d ∧ valV kvs k = some v ∧ Rep K O H d v) ∨ (getD ks ds k = none ∧ valV kvs k = none)
  | [], _, ds, e, r => by
    subst e
    have e2 : ds = [] := List.length_eq_zero_iff.mp (by rw [← RepL.len r]; rfl)
    subst e2
    exact .inr ⟨rfl, rfl⟩
  | kv :: kvs, _, [], e, r => by cases (show kv.2 :: kvs.map (·.2) = [] from r)
  | kv :: kvs, _, d :: ds, e, ⟨v, vs, ev, rd, rr⟩ => by
    subst e
    obtain ⟨e1, e2⟩ := List.cons.inj (show kv.2 :: kvs.map (·.2) = v :: vs from ev)
    by_cases h : kv.1 = k
    · exact .inl ⟨d, v, by simp [getD, List.find?_cons, h], by rw [valV_pos h, e1], rd⟩
    · have z := rep_val (k := k) (kvs := kvs) (ks := kvs.map (·.1)) (ds := ds) rfl (by rw [e2]; exact rr)
      rw [valV_neg h]
      rcases z with ⟨d', v', h1, h2, h3⟩ | ⟨h1, h2⟩
      · exact .inl ⟨d', v', by simpa [getD, List.find?_cons, h] using h1, h2, h3⟩
      · exact .inr ⟨by simpa [getD, List.find?_cons, h] using h1, h2⟩
/-- a key as a datum -/
def kD : Key → D
  | .inl i => .int i
  | .inr x => .str x
theorem rep_kD {k : Key} {v : V} (h : Rep K O H (kD k) v) : v = kV k := by
  cases k with
  | inl i => exact h
  | inr x => exact h
theorem ev_dget {ks : List Key} {k : Key} (ha : Ev X a env (.val (.dK ks ds)) env1) (hb : Ev X b env1 (.val (kD k)) env2) (hk : getD ks ds k = some d) (hu : X.A.units + 1 < cLine) (hs : NoSl b := by exact fun _ _ => rfl) : Ev X (.Subscript a b pos) env (.val d) env2 :=
  ⟨ha.1.trans hb.1, fun O H σ F rs w Q q => ⟨_, pe_dget hu pe_w pe_w hs, two ha hb rs w (R := fun u v H' => ∃ a r, u = V.ref a ∧ DGet H' a v (some r) ∧ Q r H') fun O' H' u v F' ru rv r' s' => by
    obtain ⟨a', kvs, ea, no, hp, hks, rl⟩ := ru
    have ev := rep_kD rv
    subst ev
    rcases rep_val (k := k) hks rl with ⟨d', v', h1, h2, h3⟩ | ⟨h1, _⟩
    · rw [hk] at h1; cases h1
      exact ⟨a', v', ea, .inl ⟨kvs, k, hp, rfl, h2.symm⟩, q O' H' v' [] F' ⟨rfl, h3⟩ r' s'⟩
    · rw [hk] at h1; cases h1⟩⟩
theorem dget_of {ks : List Key} {k : Key} {a' : Addr} {kvs : List (Key × V)} (hp : Rd H a' (.dK kvs)) (hks : kvs.map (·.1) = ks) (rl : RepL K O H ds (kvs.map (·.2))) : ∃ o, DGet H a' (kV k) o ∧ o.isSome = (getD ks ds k).isSome := by
  refine ⟨valV kvs k, .inl ⟨kvs, k, hp, rfl, rfl⟩, ?_⟩
  rcases rep_val (k := k) hks rl with ⟨d', v', h1, h2, h3⟩ | ⟨h1, h2⟩
  · rw [h1, h2]; rfl
  · rw [h1, h2]; rfl
theorem tv_dnotin {ks : List Key} {k : Key} (ha : Ev X a env (.val (kD k)) env1) (hb : Ev X b env1 (.val (.dK ks ds)) env2) (hu : X.A.units + 1 < cLine) (hm : behindInMarks .NotIn b = false := by first | exact nobehind _ (by decide) (by decide) | rfl) : Tv X (.Compare a [.NotIn] [b] pos) env (!(getD ks ds k).isSome) env2 :=
  ⟨ha.1.trans hb.1, fun O H σ F rs w Q q => ⟨_, pt_cmp (pc_dnotin hu pe_w pe_w) hm, two ha hb rs w (R := fun u v H' => ∃ a o, v = V.ref a ∧ DGet H' a u o ∧ ∃ b, V.bl (!o.isSome) = .bl b ∧ Q b H') fun O' H' u v F' ru rv r' s' => by
    obtain ⟨a', kvs, ea, no, hp, hks, rl⟩ := rv
    have ev := rep_kD ru
    subst ev
    obtain ⟨o, h1, h2⟩ := dget_of (k := k) hp hks rl
    exact ⟨a', o, ea, h1, _, rfl, by rw [h2]; exact q O' H' F' r' s'⟩⟩⟩
theorem tv_din {ks : List Key} {k : Key} (ha : Ev X a env (.val (kD k)) env1) (hb : Ev X b env1 (.val (.dK ks ds)) env2) (hu : X.A.units + 1 < cLine) (hm : behindInMarks .In b = false := by first | exact nobehind _ (by decide) (by decide) | rfl) : Tv X (.Compare a [.In] [b] pos) env ((getD ks ds k).isSome) env2 :=
  ⟨ha.1.trans hb.1, fun O H σ F rs w Q q => ⟨_, pt_cmp (pc_din hu pe_w pe_w) hm, two ha hb rs w (R := fun u v H' => ∃ a o, v = V.ref a ∧ DGet H' a u o ∧ ∃ b, V.bl (o.isSome) = .bl b ∧ Q b H') fun O' H' u v F' ru rv r' s' => by
    obtain ⟨a', kvs, ea, no, hp, hks, rl⟩ := rv
    have ev := rep_kD ru
    subst ev
    obtain ⟨o, h1, h2⟩ := dget_of (k := k) hp hks rl
    exact ⟨a', o, ea, h1, _, rfl, by rw [h2]; exact q O' H' F' r' s'⟩⟩⟩
end
end Lin

end

section
namespace Lin
open PySem PySem.Spec PyProof.Rows L2

/-! ### dict comprehensions of frozen things -/
def putD (kvs : List (Key × D)) (k : Key) (v : D) : List (Key × D) :=
  if (kvs.any fun kv => decide (kv.1 = k)) = true then kvs.map (fun kv => if kv.1 = k then (kv.1, v) else kv) else kvs ++ [(k, v)]
theorem any_keys {k : Key} {α β : Type} : ∀ {a : List (Key × α)} {b : List (Key × β)}, a.map (·.1) = b.map (·.1) → (a.any fun kv => decide (kv.1 = k)) = (b.any fun kv => decide (kv.1 = k))
  | [], [], _ => rfl
  | [], _ :: _, h => by simp at h
  | _ :: _, [], h => by simp at h
  | x :: a, y :: b, h => by
    have h := List.cons.inj (show x.1 :: a.map (·.1) = y.1 :: b.map (·.1) from h)
    rw [List.any_cons, List.any_cons, any_keys h.2, h.1]
section
variable {K : PySem.W.Frag} {O : OW} {H : Hp}
theorem putD_keys {k : Key} {d : D} {v : V} {a : List (Key × V)} {b : List (Key × D)} (h : a.map (·.1) = b.map (·.1)) : (putK a k v).map (·.1) = (putD b k d).map (·.1) := by
  unfold putK putD
  rw [any_keys h]
  split
  · rw [List.map_map, List.map_map]
    have e1 : ((fun kv : Key × V => kv.1) ∘ fun kv => if kv.1 = k then (kv.1, v) else kv) = fun kv => kv.1 := by
      funext kv; show (if kv.1 = k then (kv.1, v) else kv).1 = kv.1; split <;> rfl
    have e2 : ((fun kv : Key × D => kv.1) ∘ fun kv => if kv.1 = k then (kv.1, d) else kv) = fun kv => kv.1 := by
      funext kv; show (if kv.1 = k then (kv.1, d) else kv).1 = kv.1; split <;> rfl
    rw [e1, e2, h]
  · rw [List.map_append, List.map_append, h]; rfl
theorem repL_put {k : Key} {d : D} {v : V} (rd : Rep K O H d v) : ∀ {a : List (Key × V)} {b : List (Key × D)}, a.map (·.1) = b.map (·.1) → RepL K O H (b.map (·.2)) (a.map (·.2)) →
    RepL K O H ((b.map (fun kv => if kv.1 = k then (kv.1, d) else kv)).map (·.2)) ((a.map (fun kv => if kv.1 = k then (kv.1, v) else kv)).map (·.2))
  | [], [], _, r => r
  | [], _ :: _, h, _ => by simp at h
  | _ :: _, [], h, _ => by simp at h
  | x :: a, y :: b, h, ⟨w, ws, e, p, q⟩ => by
    have h := List.cons.inj (show x.1 :: a.map (·.1) = y.1 :: b.map (·.1) from h)
    obtain ⟨e1, e2⟩ := List.cons.inj (show x.2 :: a.map (·.2) = w :: ws from e)
    subst e1 e2
    have ih := repL_put (k := k) rd h.2 q
    refine ⟨(if x.1 = k then (x.1, v) else x).2, _, rfl, ?_, ih⟩
    show Rep K O H (if y.1 = k then (y.1, d) else y).2 (if x.1 = k then (x.1, v) else x).2
    rw [h.1]
    by_cases z : y.1 = k
    · rw [if_pos z, if_pos z]; exact rd
    · rw [if_neg z, if_neg z]; exact p
theorem putD_rep {k : Key} {d : D} {v : V} {a : List (Key × V)} {b : List (Key × D)} (h : a.map (·.1) = b.map (·.1)) (rd : Rep K O H d v) (r : RepL K O H (b.map (·.2)) (a.map (·.2))) : RepL K O H ((putD b k d).map (·.2)) ((putK a k v).map (·.2)) := by
  unfold putK putD
  rw [any_keys h]
  split
  · exact repL_put rd h r
  · rw [List.map_append, List.map_append]
    exact r.app ⟨v, [], rfl, rd, rfl⟩
end
theorem putD_len {k : Key} {d : D} {b : List (Key × D)} : (putD b k d).length ≤ b.length + 1 := by
  unfold putD
  split
  · rw [List.length_map]; omega
  · rw [List.length_append]; exact Nat.le_refl _
inductive DcR (X : Cx) (scope : Scope) (tg kx vx : Expr) (ifs : List Expr) (vs : List Nat) : List D → List (Key × D) → Sls → List (Key × D) → Sls → Prop
  | nil {kvs : List (Key × D)} {env : Sls} : DcR X scope tg kx vx ifs vs [] kvs env kvs env
  | yes {d v : D} {k : Key} {ds : List D} {kvs kvs' : List (Key × D)} {env env1 env2 env3 env4 env' : Sls} : (InB X scope fun X' => Tg X' tg d vs env env1) → (InB X scope fun X' => Tvs X' ifs env1 true env2) → (InB X scope fun X' => Ev X' kx env2 (.val (kD k)) env3) → (InB X scope fun X' => Ev X' vx env3 (.val v) env4) →
      DcR X scope tg kx vx ifs vs ds (putD kvs k v) (wipeE env4 vs) kvs' env' → DcR X scope tg kx vx ifs vs (d :: ds) kvs env kvs' env'
  | no {d : D} {ds : List D} {kvs kvs' : List (Key × D)} {env env1 env2 env' : Sls} : (InB X scope fun X' => Tg X' tg d vs env env1) → (InB X scope fun X' => Tvs X' ifs env1 false env2) → DcR X scope tg kx vx ifs vs ds kvs (wipeE env2 vs) kvs' env' → DcR X scope tg kx vx ifs vs (d :: ds) kvs env kvs' env'
section
variable {X : Cx} {env env1 env' : Sls} {ys : List D} {kvs kvs' : List (Key × D)} {pos : Pos} {kx vx tg it : Expr} {ifs : List Expr} {scope : Scope} {own : List (Str × Nat)}
theorem DcR.io {vs : List Nat} (s0 : Shared) (H0 : Hp) (h : DcR X scope tg kx vx ifs vs ys kvs env kvs' env') : Bare env vs → Io env env' := by
  induction h with
  | nil => exact fun _ => Io.refl _
  | yes h1 h2 h3 h4 _ ih => exact fun b => (io_wipe b ((((h1 s0 H0 0 [] []).1.trans (h2 s0 H0 0 [] []).1).trans (h3 s0 H0 0 [] []).1).trans (h4 s0 H0 0 [] []).1)).trans (ih (bare_wipe _ _))
  | no h1 h2 _ ih => exact fun b => (io_wipe b ((h1 s0 H0 0 [] []).1.trans (h2 s0 H0 0 [] []).1)).trans (ih (bare_wipe _ _))
theorem dc_sem (hi : Iv X tg it env ys env1) (hr : DcR X scope tg kx vx ifs (own.map (·.2)) ys [] env1 kvs' env') (hb : Bare env1 (own.map (·.2))) (hz : ys.length ≤ sizeLine) (O : OW) (H : Hp) (σ : L2.St) (F : List Addr) (r : RepS X.K O H env σ F) (w : Wf O H F) (Q : VK)
    (q : ∀ (O' : OW) (H' : Hp) (v : V) (Fv F' : List Addr), RepM X.K O' H' (.dK (kvs'.map (·.1)) ((kvs'.map (·.2)).map M.val)) v Fv → RepS X.K O' H' env' σ F' → Step O H F O' H' (Fv ++ F') → Q v H') : tDc (wI X tg it) (bG X scope tg) (bTs X scope ifs) (bE X scope kx) (bE X scope vx) (own.map (·.2)) σ H Q := by
  refine hi.2 O H σ F r w _ fun O1 H1 J F1 wk r1 s1 D hD => ?_
  generalize hvs : own.map (·.2) = vs at *
  let St (i : Nat) (H' : Hp) : Prop := ∃ (env2 : Sls) (O2 : OW) (F2 : List Addr) (acc : List (Key × V)) (kv2 : List (Key × Lin.D)), kv2.length ≤ i ∧ DcR X scope tg kx vx ifs vs (ys.drop i) kv2 env2 kvs' env' ∧ Bare env2 vs ∧ RepS X.K O2 H' env2 (wipe σ vs) F2 ∧ H' D = some (.dK acc) ∧ acc.map (·.1) = kv2.map (·.1) ∧ RepL X.K O2 H' (kv2.map (·.2)) (acc.map (·.2)) ∧ Kept O1 H1 O2 H' ∧ Step O H F O2 H' ([D] ++ F2)
  refine ⟨fun i m H' => m = ys.length - i ∧ i ≤ ys.length ∧ St i H', ⟨ys.length, rfl, Nat.zero_le _, ?_⟩, ?_⟩
  · have s0 : Step O1 H1 [] (fun a => O1 a ∨ a = D) (upd H1 D (.dK [])) [D] := Step.new (G := []) s1.wf.nil hD
    refine ⟨env1, _, F1, [], [], Nat.le_refl _, hr, hb, (RepS.quiet s0 r1).loose (wipe_length σ vs) (fun i s z => wipe_get (hb i s z)), upd_same, rfl, rfl, s0.kept s1.wf.nil, s1.trans w (s0.quiet s1.wf)⟩
  rintro i m H' ⟨rfl, hle, env2, O2, F2, acc, kv2, hml, lr, bare, rs, hDa, hks, rl, kp, st⟩
  have wf := st.wf
  obtain ⟨sp, go⟩ := wk O2 H' _ kp wf
  rcases Nat.lt_or_ge i ys.length with hlt | hge
  · have hd : ys[i]? = some ys[i] := List.getElem?_eq_getElem hlt
    obtain ⟨g1, yl⟩ := go i _ hd
    have ed : ys.drop i = ys[i] :: ys.drop (i + 1) := List.drop_eq_getElem_cons hlt
    rw [ed] at lr
    generalize ys[i] = d at *
    generalize hds : ys.drop (i + 1) = ds at *
    refine .inr ⟨g1, St (i + 1), fun H2 z => ⟨ys.length - (i + 1), by omega, rfl, hlt, z⟩, fun x H2 y => ?_⟩
    obtain ⟨s2, rx⟩ := yl x H2 y
    have st2 : Step O H F O2 H2 ([D] ++ F2) := st.trans w (s2.quiet wf)
    have wf2 := st2.wf
    have wfF : Wf O2 H2 F2 := wf2.right
    have rs2 : RepS X.K O2 H2 env2 (wipe σ vs) F2 := rs.quiet s2
    have hD2 : H2 D = some (.dK acc) := s2.frame D _ hDa (by simp)
    have rl2 : RepL X.K O2 H2 (kv2.map (·.2)) (acc.map (·.2)) := rl.kept (s2.kept wf.nil)
    have kp2 : Kept O1 H1 O2 H2 := kp.trans (s2.kept wf.nil)
    have dF : D ∉ F2 := fun z => wf2.apart (List.mem_cons_self ..) z
    have pmF : ([D] ++ F2).Perm (F2 ++ [D]) := List.perm_append_comm
    have wip : ∀ σ3, SameBut vs (wipe σ vs) σ3 → wipe σ3 vs = wipe σ vs := fun σ3 b => by
      rw [wipe_ext b.1 b.2, wipe_wipe]
    cases lr with
    | @yes _ v k _ _ _ _ env1' env2' env3' env4' _ h1 h2 h3 h4 hn =>
      intro s0 H0 C0 cl0 fp0
      refine (h1 s0 H0 C0 cl0 fp0).2 O2 H2 (wipe σ vs) F2 x rx rs2 wfF _ fun σ3 F3 r3 s3 p3 b3 => ⟨wip σ3 b3, fun s0 H0 C0 cl0 fp0 => ?_⟩
      refine (h2 s0 H0 C0 cl0 fp0).2 O2 H2 σ3 F3 r3 s3.wf _ fun O4 H4 F4 r4 s4 => ?_
      rw [if_pos rfl]
      intro s0 H0 C0 cl0 fp0
      refine (h3 s0 H0 C0 cl0 fp0).2 O4 H4 σ3 F4 r4 s4.wf _ fun O5 H5 u Fu F5 ⟨eu, ru⟩ r5 s5 => ?_
      subst eu
      intro s0 H0 C0 cl0 fp0
      refine (h4 s0 H0 C0 cl0 fp0).2 O5 H5 σ3 F5 r5 s5.wf _ fun O6 H6 z Fz F6 ⟨ez, rz⟩ r6 s6 => ?_
      subst ez
      have s25 : Step O2 H2 F2 O6 H6 F6 := ((s3.trans wfF s4).trans wfF s5).trans wfF s6
      have sB := (s25.beside (wf2.perm pmF)).permL pmF.symm
      have hD6 : H6 D = some (.dK acc) := s25.frame D _ hD2 dF
      have rl6 : RepL X.K O6 H6 (kv2.map (·.2)) (acc.map (·.2)) := rl2.kept (s25.kept wfF)
      obtain ⟨F7, G, pm7, r7⟩ := RepS.wipeN r6 vs
      rw [wip σ3 b3] at r7
      have wf6 := sB.wf
      have dIn : D ∈ F6 ++ [D] := List.mem_append_right _ (List.mem_cons_self ..)
      have oD : O6 D := wf6.own D dIn
      have dV : D ∉ F6 := fun z => wf6.apart z (List.mem_cons_self ..)
      have sW : Step O6 H6 (F6 ++ [D]) O6 (upd H6 D (.dK (putK acc k z))) (F6 ++ [D]) := Step.write wf6 dIn
      have kf : ∀ a o, H6 a = some o → ¬ O6 a → upd H6 D (.dK (putK acc k z)) a = some o := fun a o h n => by
        rw [upd_ne (fun e => n (by rw [e]; exact oD))]; exact h
      have r8 : RepS X.K O6 (upd H6 D (.dK (putK acc k z))) (wipeE _ vs) (wipe σ vs) F7 :=
        RepS.keep kf (fun a h => .inl h) _ (fun a o ha h => by rw [upd_ne (fun e => dV (by rw [← e]; exact pm7.mem_iff.mpr (List.mem_append_left _ ha)))]; exact h) r7
      have s7 : Step O2 H2 ([D] ++ F2) O6 (upd H6 D (.dK (putK acc k z))) ([D] ++ F7) :=
        ((sB.trans wf2 sW).permR (F2 := ([D] ++ F7) ++ G) (List.perm_iff_count.mpr fun a => by
          have := List.perm_iff_count.mp pm7 a
          simp only [List.count_append, List.count_cons] at this ⊢
          omega)).dropR
      have ek := rep_kD ru
      refine ⟨acc, k, ek, hD6, ?_, ?_⟩
      · have e := congrArg List.length hks
        rw [List.length_map, List.length_map] at e
        omega
      · exact ⟨_, O6, F7, putK acc k z, putD kv2 k v, Nat.le_trans putD_len (Nat.succ_le_succ hml), by rw [hds]; exact hn, bare_wipe _ _, r8, upd_same, putD_keys hks, RepL.keep kf (fun a h => .inl h) _ (putD_rep hks rz rl6), kp2.trans (s7.kept wf2), st2.trans w s7⟩
    | no h1 h2 hn =>
      intro s0 H0 C0 cl0 fp0
      refine (h1 s0 H0 C0 cl0 fp0).2 O2 H2 (wipe σ vs) F2 x rx rs2 wfF _ fun σ3 F3 r3 s3 p3 b3 => ⟨wip σ3 b3, fun s0 H0 C0 cl0 fp0 => ?_⟩
      refine (h2 s0 H0 C0 cl0 fp0).2 O2 H2 σ3 F3 r3 s3.wf _ fun O4 H4 F4 r4 s4 => ?_
      rw [if_neg Bool.false_ne_true]
      have s24 : Step O2 H2 F2 O4 H4 F4 := s3.trans wfF s4
      have sB := (s24.beside (wf2.perm pmF)).permL pmF.symm
      have hD5 : H4 D = some (.dK acc) := s24.frame D _ hD2 dF
      have rl5 : RepL X.K O4 H4 (kv2.map (·.2)) (acc.map (·.2)) := rl2.kept (s24.kept wfF)
      obtain ⟨F6, G, pm6, r6⟩ := RepS.wipeN r4 vs
      rw [wip σ3 b3] at r6
      have s6 : Step O2 H2 ([D] ++ F2) O4 H4 ([D] ++ F6) :=
        (sB.permR (F2 := ([D] ++ F6) ++ G) (List.perm_iff_count.mpr fun a => by
          have := List.perm_iff_count.mp pm6 a
          simp only [List.count_append, List.count_cons] at this ⊢
          omega)).dropR
      exact ⟨_, O4, F6, acc, kv2, by omega, by rw [hds]; exact hn, bare_wipe _ _, r6, hD5, hks, rl5, kp2.trans (s6.kept wf2), st2.trans w s6⟩
  · have ei : i = ys.length := by omega
    subst ei
    rw [List.drop_eq_nil_of_le (Nat.le_refl _)] at lr
    refine .inl ⟨sp, ?_⟩
    cases lr
    refine q O2 H' (.ref D) [D] F2 ⟨D, acc, [], rfl, rfl, hDa, hks, repML_val _ rl⟩ (rs.loose (wipe_length σ vs).symm fun i s z => (wipe_get (bare i s z)).symm) st
theorem ev_dc (hi : Iv X tg it env ys env1) (hr : DcR X scope tg kx vx ifs (own.map (·.2)) ys [] env1 kvs' env') (hb : Bare env1 (own.map (·.2))) (ok : BlkOk X.N X.env.scope scope own) (hz : ys.length ≤ sizeLine) (hN : X.N.Nodup := by assumption)
    (hc : X.calm = true := by rfl) (hs : ∀ x, foldedSetIterable it X.env x = pure x := by intro _; rfl) : Ev X (.DictComp kx vx [⟨tg, it, ifs, 0⟩] scope pos) env (.dK (kvs'.map (·.1)) ((kvs'.map (·.2)).map M.val)) env' :=
  ⟨hi.1.trans (hr.io X.s_0 X.H_0 hb), fun O H σ F r w Q q => ⟨_, pe_dc hc hN pi_w ok bg_ok bts_ok be_ok be_ok hs, dc_sem hi hr hb hz O H σ F r w Q q⟩⟩
/-- name = {a dict comprehension}, the name a local -/
theorem x1_setDc (i : Nat) {n : Str} {pos' spos : Pos} (hi : Iv X tg it env ys env1) (hr : DcR X scope tg kx vx ifs (own.map (·.2)) ys [] env1 kvs' env') (hb : Bare env1 (own.map (·.2))) (ok : BlkOk X.N X.env.scope scope own) (hz : ys.length ≤ sizeLine) (hio : ∀ m', env[i]? ≠ some (some (Sl.io m')) := by intro _ h; cases h) (hil : i < env.length := by simp) (hN : X.N.Nodup := by assumption) (hn : X.N[i]? = some n := by rfl)
    (hx : X.env.scope.names.lookup n = some .local := by rfl) (hsw : swapsWith (.DictComp kx vx [⟨tg, it, ifs, 0⟩] scope pos) (some (.Name n pos')) spos.line X.env = pure true := by rfl) (hc : X.calm = true := by rfl) (hs : ∀ x, foldedSetIterable it X.env x = pure x := by intro _; rfl) :
    Ex1 X (.Assign [.Name n pos'] (.DictComp kx vx [⟨tg, it, ifs, 0⟩] scope pos) spos) env (.nx (env'.set i (some (.own (.dK (kvs'.map (·.1)) ((kvs'.map (·.2)).map M.val)))))) := fun O H σ F r w D g =>
  ⟨_, ps_setDc hc hN hn hx hsw pi_w ok bg_ok bts_ok be_ok be_ok hs, dc_sem hi hr hb hz O H σ F r w _ fun O' H' v Fv F' rm rs s => by
    have hl : i < env'.length := by rw [← rs.len, r.len]; exact hil
    obtain ⟨F1, F2, Fi, ef, _, k⟩ := RepS.drop i (some v) hl rs
    subst ef
    refine g O' H' _ (F1 ++ (Fv ++ F2)) (k v (.own _) Fv rm) ((s.permR perm_drop).dropR) fun j m' z => ?_
    have hne : i ≠ j := fun q => hio m' (q ▸ z)
    obtain ⟨m2, z2⟩ := (hi.1.trans (hr.io X.s_0 X.H_0 hb)) j m' z
    exact ⟨⟨m2, by rw [List.getElem?_set_ne hne]; exact z2⟩, List.getElem?_set_ne hne⟩⟩
end
end Lin

end

section
namespace Lin
open PySem PySem.Spec PyProof.Rows L2

/-! ### defs by what the head tells -/
def Df (K : PySem.W.Frag) (mg : Str → Option Value) (x : Str) (st : Stmt) (ps : List Str) : Prop := ∃ (f : Addr) (fd : FuncData), Fun K x x st f fd ∧ Binds K fd ps [] ∧ mg x = some (.ref f)
section
variable {P : Program} {w : World} {K : PySem.W.Frag} {mg : Str → Option Value} {base : Heap} {x : Str} {st : Stmt} {N ps : List Str} {k : Nat} {ds pre post : List D} {r m m' : M} {env0 : Sls}
/-- the surroundings of a def's body -/
abbrev In0 (P : Program) (w : World) (K : PySem.W.Frag) (mg : Str → Option Value) (base : Heap) (N : List Str) (x : Str) (st : Stmt) (k : Nat) (Goal : Cx → Prop) : Prop :=
  ∀ (f : Addr) (cdv : Value) (A : Around) (outer : List Env) (s : Shared) (H : Hp) (E : XK), Room k (A.deeper (envOfC x (defScope st) s.heap.objs.size f cdv)) →
    Goal (cxOf CX0 P w K mg base N x (defScope st) f cdv A outer s H E).nox
theorem fd0 (h : Df K mg x st ps) (S : FnScope N ps (defScope st)) (hl : ds.length = ps.length) (h0 : env0 = start0 N ds)
    (body : In0 P w K mg base N x st k fun X => ∃ env', Ex X (defBody st) env0 (.rt r env')) : Fn P w K mg base x ps.length (k + 1) (FS0 K ds r) := by
  obtain ⟨f, fd, F, b, g⟩ := h
  exact fn0 F S b g hl h0 (body f)
theorem fd0n (h : Df K mg x st ps) (S : FnScope N ps (defScope st)) (hl : ds.length = ps.length) (h0 : env0 = start0 N ds)
    (body : In0 P w K mg base N x st k fun X => ∃ env', Ex X (defBody st) env0 (.nx env')) : Fn P w K mg base x ps.length (k + 1) (FS0 K ds (.val .none)) := by
  obtain ⟨f, fd, F, b, g⟩ := h
  exact fn0n F S b g hl h0 (body f)
theorem fd1 (h : Df K mg x st ps) (S : FnScope N ps (defScope st)) (hl : pre.length + post.length + 1 = ps.length) (h0 : env0 = start1 N pre m post)
    (body : In0 P w K mg base N x st k fun X => ∃ env', Ex X (defBody st) env0 (.rt r env') ∧ env'[pre.length]? = some (some (Sl.io m'))) : Fn P w K mg base x ps.length (k + 1) (FS1 K pre m post r m') := by
  obtain ⟨f, fd, F, b, g⟩ := h
  exact fn1 F S b g hl h0 (body f)
/-- a def's level may be told higher -/
theorem Fn.mono {j n : Nat} {sp : Sp} (h : Fn P w K mg base x n k sp) (hk : k ≤ j) : Fn P w K mg base x n j sp := by
  obtain ⟨f, fd, ps, hn, G, hm, hkp, hb⟩ := h
  exact ⟨f, fd, ps, hn, G.mono hk, hm, hkp, hb⟩
end
section
variable {X : Cx} {env env1 env2 : Sls} {e c : Expr} {m m' : M} {st : Stmt} {rest body : List Stmt} {out : Out} {d : D} {k : Bool} {pos p p' : Pos}
/-- a slot's thing is forgotten -/
theorem ex_fgt (i : Nat) (k : Ex X body (env.set i none) out) (hio : ∀ m', env[i]? ≠ some (some (Sl.io m')) := by intro _ h; cases h) (hi : i < env.length := by simp) : Ex X body env out := fun O H σ F r w D g => by
  have hl : i < σ.length := by rw [r.len]; exact hi
  have hs : σ[i]? = some σ[i] := List.getElem?_eq_getElem hl
  obtain ⟨F1, F2, Fi, ef, q, _⟩ := RepS.drop i σ[i] hi r
  rw [set_same hs] at q
  have s : Step O H F O H (F1 ++ F2) := ((Step.refl w).permR (F2 := (F1 ++ F2) ++ Fi) (by rw [ef]; exact List.perm_iff_count.mpr fun a => by simp only [List.count_append]; omega)).dropR
  refine k O H σ _ q s.wf D (g.back w s fun j m' z => ⟨⟨m', ?_⟩, rfl⟩)
  have hne : i ≠ j := fun q => hio m' (q ▸ z)
  rw [List.getElem?_set_ne hne]; exact z
/-- .. behind a block -/
theorem Ex.fgt (i : Nat) (h : Ex X body env (.nx env1)) (hio : ∀ m', env1[i]? ≠ some (some (Sl.io m')) := by intro _ h; cases h) (hi : i < env1.length := by simp) : Ex X body env (.nx (env1.set i none)) := fun O H σ F r w D g => by
  refine h O H σ F r w D fun O' H' σ' F' r s p => ?_
  have hl : i < σ'.length := by rw [r.len]; exact hi
  have hs : σ'[i]? = some σ'[i] := List.getElem?_eq_getElem hl
  obtain ⟨F1, F2, Fi, ef, q, _⟩ := RepS.drop i σ'[i] hi r
  rw [set_same hs] at q
  refine g O' H' σ' _ q ((s.permR (F2 := (F1 ++ F2) ++ Fi) (by rw [ef]; exact List.perm_iff_count.mpr fun a => by simp only [List.count_append]; omega)).dropR) fun j m' z => ?_
  obtain ⟨⟨m2, z2⟩, e⟩ := p j m' z
  have hne : i ≠ j := fun q => hio m2 (q ▸ z2)
  exact ⟨⟨m2, by rw [List.getElem?_set_ne hne]; exact z2⟩, e⟩
/-- isinstance(x, (A, B)) -/
theorem ev_isi2 {T1 T2 : String} {n1 n2 : Str} {kk : Nat} {q1 q2 q3 : Pos} (ha : Pu X e env (.val d)) (hk : PySem.W.kitAny X.K (.type (tyD d)) [.type T1, .type T2] = some k) (hb1 : bootBuiltins n1 = some (.type T1)) (hb2 : bootBuiltins n2 = some (.type T2)) (hm1 : X.mg n1 = none) (hm2 : X.mg n2 = none) (hm : X.mg "isinstance" = none) (ht : tyOk d = true := by rfl) (hg : Gl X "isinstance" := by rfl) (hg1 : Gl X n1 := by rfl) (hg2 : Gl X n2 := by rfl)
    (hn1 : n1 ≠ "__name__" := by decide) (hdb1 : (n1 == ("__debug__" : Str)) = false := by decide) (hn2 : n2 ≠ "__name__" := by decide) (hdb2 : (n2 == ("__debug__" : Str)) = false := by decide)
    (he : starEach [e, .Tuple [.Name n1 q1, .Name n2 q2] kk q3] X.env = (false, eval e X.env) :: starEach [.Tuple [.Name n1 q1, .Name n2 q2] kk q3] X.env := by rfl) (he2 : starEach [.Tuple [.Name n1 q1, .Name n2 q2] kk q3] X.env = (false, eval (.Tuple [.Name n1 q1, .Name n2 q2] kk q3) X.env) :: starEach [] X.env := by rfl)
    (he3 : starEach [.Name n1 q1, .Name n2 q2] X.env = (false, eval (.Name n1 q1) X.env) :: starEach [.Name n2 q2] X.env := by rfl) (he4 : starEach [.Name n2 q2] X.env = (false, eval (.Name n2 q2) X.env) :: starEach [] X.env := by rfl) (hpl : (backTo pos (starEach [.Tuple [.Name n1 q1, .Name n2 q2] kk q3] X.env)).any (·.1) = false := by rfl) :
    Ev X (.Call (.Name "isinstance" p) [e, .Tuple [.Name n1 q1, .Name n2 q2] kk q3] [] pos) env (.val (.bool k)) env :=
  ⟨Io.refl _, fun O H σ F rs w Q q => ⟨_, pe_callB call_isiT hg hm boot_isinstance (pa_cons pe_w (pa_cons (pe_tup (pa_cons (pe_bltn hg1 hm1 hb1 (v := .ty T1) rfl hn1 hdb1) (pa_cons (pe_bltn hg2 hm2 hb2 (v := .ty T2) rfl hn2 hdb2) pa_nil he4) he3)) pa_nil he2) he) (by decide) (by decide) he hpl,
    ha O H σ F rs w _ fun v _ ⟨_, rv⟩ => ⟨show 2 ≤ sizeLine by decide, fun p hp => by
      have s2 : Step O H F O (upd H p (.tup [.ty T1, .ty T2])) F := Step.newF w hp
      have s0 : Step O H [] O (upd H p (.tup [.ty T1, .ty T2])) [] := Step.newF w.nil hp
      exact ⟨v, p, [.ty T1, .ty T2], .type (tyD d), [.type T1, .type T2], k, rfl, upd_same, .cons (.ty T1) (.cons (.ty T2) .nil), rep_ty ht (rv.kept (s0.kept w.nil)), hk, q O _ _ [] F ⟨rfl, rfl⟩ (rs.quiet s0) s2⟩⟩⟩⟩
end
end Lin

end

section
namespace Lin
open PySem PySem.Spec PyProof.Rows L2
/-! ### the pen of the drawn numbers -/
def penM (cells : List Int) (a c : Int) : M := .lst [.lst (cells.map fun i => .val (.int i)), .val (.int a), .val (.int c)]
def PenOk (B : Int) (m : M) : Prop := ∃ (cells : List Int) (a c : Int), m = penM cells a c ∧ 0 ≤ a ∧ a ≤ B
theorem PenOk.mono {B C : Int} {m : M} (h : PenOk B m) (hc : B ≤ C) : PenOk C m := by
  obtain ⟨cells, a, c, e, h0, h1⟩ := h
  exact ⟨cells, a, c, e, h0, by omega⟩
theorem pen0 {cells : List Int} {a c : Int} : L2.atI [M.lst (cells.map fun i => M.val (.int i)), .val (.int a), .val (.int c)] 0 = some (.lst (cells.map fun i => .val (.int i))) := rfl
theorem pen1 {cells : List Int} {a c : Int} : L2.atI [M.lst (cells.map fun i => M.val (.int i)), .val (.int a), .val (.int c)] 1 = some (.val (.int a)) := rfl
theorem pen2 {cells : List Int} {a c : Int} : L2.atI [M.lst (cells.map fun i => M.val (.int i)), .val (.int a), .val (.int c)] 2 = some (.val (.int c)) := rfl
theorem ixN_of {n : Nat} {i : Int} (h0 : 0 ≤ i) (h1 : i < n) : ixN n i = some i.toNat := by
  unfold ixN
  rw [if_pos h0, if_pos (by omega)]
theorem atI_of {α : Type} {xs : List α} {i : Int} {x : α} (h0 : 0 ≤ i) (h : xs[i.toNat]? = some x) : L2.atI xs i = some x := by
  have hl : i.toNat < xs.length := (List.getElem?_eq_some_iff.mp h).1
  unfold L2.atI
  rw [ixN_of h0 (by omega)]
  exact h
theorem atI_map {α β : Type} {xs : List α} {f : α → β} {i : Int} (h0 : 0 ≤ i) (h1 : i < xs.length) (d : α) : L2.atI (xs.map f) i = some (f (xs.getD i.toNat d)) := by
  have hl : i.toNat < xs.length := by omega
  refine atI_of h0 ?_
  rw [List.getElem?_map, List.getElem?_eq_getElem hl, List.getD_eq_getElem?_getD, List.getElem?_eq_getElem hl]
  rfl
end Lin
namespace Lin
open PySem PySem.Spec PyProof.Rows L2
theorem Ex.eq {X : Cx} {b : List Stmt} {env : Sls} {out out' : Out} (h : Ex X b env out) (e : out = out' := by rfl) : Ex X b env out' := e ▸ h
theorem Ex1.eq {X : Cx} {b : Stmt} {env : Sls} {out out' : Out} (h : Ex1 X b env out) (e : out = out' := by rfl) : Ex1 X b env out' := e ▸ h
end Lin

end

section
namespace Lin
open PySem PySem.Spec PyProof.Rows L2
section
variable {X : Cx} {env env1 env2 : Sls} {a b e : Expr} {ds : List D} {pos p p2 pos2 : Pos} {n : Int}
theorem Ev.frzL (h : Ev X e env (.lst (ds.map M.val)) env1) : Ev X e env (.val (.lst ds)) env1 := h.frz.eq (by show M.val (.lst (Lin.frzL (ds.map M.val))) = _; rw [frzL_val])
/-- the ints 0 .. n - 1 -/
def rangeI (n : Nat) : List Int := (List.range n).map fun i => ((i : Nat) : Int)
theorem rangeI_len (n : Nat) : (rangeI n).length = n := by unfold rangeI; rw [List.length_map, List.length_range]
theorem mem_rangeI {n : Nat} {x : Int} (h : x ∈ rangeI n) : 0 ≤ x ∧ x < n := by
  obtain ⟨i, hi, rfl⟩ := List.mem_map.mp h
  have := List.mem_range.mp hi
  omega
theorem rgV_eq (n : Int) : rgV 0 n = (rangeI n.toNat).map V.int := by
  unfold rgV rangeI
  rw [List.map_map, Int.sub_zero]
  congr 1
  funext i
  show V.int (0 + (i : Int)) = V.int i
  rw [Int.zero_add]
theorem ev_listRg (ha : Ev X a env (.val (.int n)) env1) (h0 : 0 ≤ n) (h1 : n ≤ 16777216) (hm : X.mg "list" = none) (hr : X.mg "range" = none) (hc : X.calm = true := by rfl) (hg : Gl X "list" := by rfl) (hgr : Gl X "range" := by rfl)
    (na : starEach [.Call (.Name "range" p2) [a] [] pos2] X.env = (false, eval (.Call (.Name "range" p2) [a] [] pos2) X.env) :: starEach [] X.env := by rfl) (nb : starEach [a] X.env = (false, eval a X.env) :: starEach [] X.env := by rfl) :
    Ev X (.Call (.Name "list" p) [.Call (.Name "range" p2) [a] [] pos2] [] pos) env (.lst (((rangeI n.toNat).map D.int).map M.val)) env1 :=
  ⟨ha.1, fun O H σ F r w Q q => ⟨_, pe_listRg hc hg hm (prg_1 hgr hr pe_w nb) na, ha.2 O H σ F r w _ fun O1 H1 v Fv F1 ⟨ev, rv⟩ r1 s1 => by
    subst ev
    refine ⟨n, rv, RgOk.of_le (by decide) h1 (by decide) h0, fun p hp => ?_⟩
    rw [rgV_eq]
    have s0 : Step O1 H1 [] (fun a => O1 a ∨ a = p) (upd H1 p (.lst ((rangeI n.toNat).map V.int))) [p] := Step.new (G := []) s1.wf.nil hp
    exact q _ _ (.ref p) [p] F1 ⟨p, _, [], rfl, rfl, upd_same, repML_val _ (repL_ints _)⟩ (r1.quiet s0) (s1.trans w (s0.quiet s1.wf))⟩⟩
end
theorem cut_to {α : Type} {xs : List α} {k : Int} (h0 : 0 ≤ k) (h1 : k ≤ xs.length) : cutD xs none (some k) = xs.take k.toNat := by
  unfold cutD
  obtain ⟨j, rfl⟩ : ∃ j : Nat, k = j := ⟨k.toNat, by omega⟩
  rw [HT.sIx_none, HT.sIx_nat, List.drop_zero, Nat.sub_zero, Int.toNat_natCast, Nat.min_eq_left (by omega)]
theorem cut_from {α : Type} {xs : List α} {k : Int} (h0 : 0 ≤ k) (h1 : k ≤ xs.length) : cutD xs (some k) none = xs.drop k.toNat := by
  unfold cutD
  obtain ⟨j, rfl⟩ : ∃ j : Nat, k = j := ⟨k.toNat, by omega⟩
  rw [HT.sIx_none, HT.sIx_nat, Int.toNat_natCast, Nat.min_eq_left (by omega)]
  exact List.take_of_length_le (by rw [List.length_drop]; omega)
theorem cut_12 {xs : List Int} : (cutD xs none (some 12)).length = min 12 xs.length := by
  unfold cutD
  show ((xs.drop 0).take (HT.sIx xs.length xs.length (some ((12 : Nat) : Int)) - 0)).length = _
  rw [HT.sIx_nat, List.drop_zero, List.length_take]; omega
theorem cut_rest {xs : List Int} (h : cutD xs (some 12) (some 63) ≠ []) : 12 < xs.length := by
  refine Nat.lt_of_not_le fun z => h ?_
  unfold cutD
  show (xs.drop (HT.sIx xs.length 0 (some ((12 : Nat) : Int)))).take _ = []
  rw [HT.sIx_nat, Nat.min_eq_right z, List.drop_eq_nil_of_le (Nat.le_refl _), List.take_nil]
/-! ### data of ints -/
theorem pdL_ints : ∀ ns : List Int, plainL (ns.map D.int) = true ∧ PyData.canLayAll0 (pdL (ns.map D.int)) = true ∧ PyData.depthAll (pdL (ns.map D.int)) = 0
  | [] => ⟨rfl, by simp [pdL, PyData.canLayAll0], by simp [pdL, PyData.depthAll]⟩
  | n :: ns => by
    obtain ⟨h1, h2, h3⟩ := pdL_ints ns
    refine ⟨by simpa [plainL, plain] using h1, ?_, ?_⟩
    · simpa [pdL, pd, PyData.canLayAll0, PyData.canLay0] using h2
    · simp [pdL, pd, PyData.depthAll, PyData.depth, h3]
theorem cmp_ints (ns : List Int) : CmpD (.lst (ns.map D.int)) := by
  obtain ⟨h1, h2, h3⟩ := pdL_ints ns
  exact ⟨h1, by simp [pd, SeqAt.shaped, PyData.canLay0, PyData.depth, h2, h3]⟩
theorem cmp_intsT (ns : List Int) : CmpD (.tup (ns.map D.int)) := by
  obtain ⟨h1, h2, h3⟩ := pdL_ints ns
  exact ⟨h1, by simp [pd, SeqAt.shaped, PyData.canLay0, PyData.depth, h2, h3]⟩
theorem frz_ints (ns : List Int) : frz (.lst (ns.map fun i => M.val (.int i))) = .lst (ns.map D.int) := by
  show D.lst (frzL (ns.map fun i => M.val (.int i))) = _
  rw [frzL_eq, List.map_map]; rfl
theorem mapVI (ns : List Int) : (ns.map D.int).map M.val = ns.map fun i => M.val (.int i) := by rw [List.map_map]; rfl
theorem lstVI (ns : List Int) : M.lst ((ns.map D.int).map M.val) = .lst (ns.map fun i => M.val (.int i)) := by rw [mapVI]
/-! ### trees -/
inductive Tr where
  | leaf (n : Int) | node (l r : Tr)
def Tr.d : Tr → D
  | .leaf n => .int n
  | .node l r => .tup [l.d, r.d]
def Tr.leaves : Tr → List Int
  | .leaf n => [n]
  | .node l r => l.leaves ++ r.leaves
theorem Tr.leaves_pos : ∀ t : Tr, 0 < t.leaves.length
  | .leaf _ => Nat.one_pos
  | .node l r => by
    show 0 < (l.leaves ++ r.leaves).length
    rw [List.length_append]
    have := l.leaves_pos
    omega
/-! ### loops by a fold -/
theorem Iv.eq {X : Cx} {tg it : Expr} {env env1 : Sls} {ys zs : List D} (h : Iv X tg it env ys env1) (e : ys = zs) : Iv X tg it env zs env1 := e ▸ h
theorem forR_fold {X : Cx} {tg : Expr} {body : List Stmt} {S α : Type} (E : S → Sls) (f : α → D) (next : S → α → S) (I : List α → S → Prop)
    (step : ∀ (a : α) (as : List α) (s : S), I (a :: as) s → (∃ (ws : List Nat) (env1 : Sls), Tg X tg (f a) ws (E s) env1 ∧ Ex X body env1 (.nx (E (next s a)))) ∧ I as (next s a)) :
    ∀ (as : List α) (s : S), I as s → ForR X tg body (as.map f) (E s) (.nx (E (as.foldl next s)))
  | [], s, _ => .nil
  | a :: as, s, h => by
    obtain ⟨⟨ws, env1, t, e⟩, h2⟩ := step a as s h
    exact .nx t e (forR_fold E f next I step as (next s a) h2)
theorem enumD_map {α : Type} (f : α → D) : ∀ (k : Nat) (xs : List α), enumD k (xs.map f) = (xs.zipIdx k).map fun p => .tup [.int (p.2 : Nat), f p.1]
  | k, [] => rfl
  | k, x :: xs => by
    rw [List.zipIdx_cons, List.map_cons, List.map_cons, enumD, enumD_map f (k + 1) xs]
def whC : Stmt → Expr
  | .While c _ _ _ => c
  | _ => .Constant .none 0 ⟨0, 0, 0, 0⟩
def whB : Stmt → List Stmt
  | .While _ b _ _ => b
  | _ => []
def frT : Stmt → Expr
  | .For t _ _ _ _ => t
  | _ => .Constant .none 0 ⟨0, 0, 0, 0⟩
def frB : Stmt → List Stmt
  | .For _ _ b _ _ => b
  | _ => []
def stAt (l : List Stmt) (i : Nat) : Stmt := l.getD i (.Pass ⟨0, 0, 0, 0⟩)
theorem ints_nil : CmpD (.lst []) := cmp_ints []
theorem ints_ne (ns : List Int) : (!PyData.eqv (pd (frz (.lst (ns.map fun i => M.val (.int i))))) (pd (.lst []))) = decide (ns ≠ []) := by
  rw [frz_ints]
  cases ns with
  | nil => rfl
  | cons n ns => rfl
theorem erase_map (f : Int → M) : ∀ (ns : List Int) (j : Nat), (ns.map f).eraseIdx j = (ns.eraseIdx j).map f
  | [], j => by simp
  | n :: ns, 0 => rfl
  | n :: ns, j + 1 => by rw [List.map_cons, List.eraseIdx_cons_succ, List.eraseIdx_cons_succ, List.map_cons, erase_map f ns j]
theorem erase_perm : ∀ (ns : List Int) (j : Nat) (x : Int), ns[j]? = some x → (x :: ns.eraseIdx j).Perm ns
  | [], _, _, h => by simp at h
  | n :: ns, 0, x, h => by
    have e : n = x := by simpa using h
    subst e; exact List.Perm.refl _
  | n :: ns, j + 1, x, h => by
    have ih := erase_perm ns j x (by simpa using h)
    rw [List.eraseIdx_cons_succ]
    exact (List.Perm.swap n x _).trans (ih.cons n)
theorem erase_len {ns : List Int} {j : Nat} (h : j < ns.length) : (ns.eraseIdx j).length = ns.length - 1 := List.length_eraseIdx_of_lt h
/-- name != [] of a list of ints that the name owns -/
theorem tv_neInts {X : Cx} {env : Sls} {n : Str} {s : Sl} {ns : List Int} {p pos pos2 : Pos} (i : Nat) (hi : env[i]? = some (some s)) (hm : s.m = .lst (ns.map fun i => .val (.int i))) (hu : X.A.units + 64 < cLine) (hN : X.N[i]? = some n := by rfl) (hv : Vis X.env.scope n := by first | exact Or.inl rfl | exact Or.inr (Or.inl rfl) | exact Or.inr (Or.inr rfl))
    (hd : (n == ("__debug__" : Str)) = false := by decide) (hcd : (n == ("__classdict__" : Str)) = false := by decide) (hmk : behindInMarks .NotEq (.List [] pos2) = false := by first | exact nomark _ | rfl) : Tv X (.Compare (.Name n p) [.NotEq] [.List [] pos2] pos) env (decide (ns ≠ [])) env := by
  have hf : frz s.m = .lst (ns.map D.int) := by rw [hm, frz_ints]
  exact (tv_neO (s := s) i (ev_lstF (ds := []) ea_nil) hi (by rw [hf]; exact cmp_ints ns) ints_nil hu hN hv hd hcd hmk ⟨s, hi⟩).eq (by rw [hm]; exact ints_ne ns)
end Lin

end

section
namespace Lin
open PySem PySem.Spec PyProof.Rows L2
section
variable {X : Cx} {env env1 : Sls} {e : Expr} {pos p : Pos}
theorem ev_sortedT {ns ns0 : List Int} (ha : Ev X e env (.val (.tup (ns.map D.int))) env1) (hp : ns0.Perm ns) (hs : ns0.Pairwise (· ≤ ·)) (hm : X.mg "sorted" = none := by assumption) (hg : Gl X "sorted" := by rfl) (he : starEach [e] X.env = (false, eval e X.env) :: starEach [] X.env := by rfl) (hpl : (backTo pos (starEach [] X.env)).any (·.1) = false := by rfl) : Ev X (.Call (.Name "sorted" p) [e] [] pos) env (.lst ((ns0.map D.int).map M.val)) env1 :=
  ev_cbi (ds := [.tup (ns.map D.int)]) cr_sortTI (rf_new fun O H vs ⟨u, us, e, ⟨a, xs, hu, ta, rl⟩, hn⟩ => ⟨_, repL_ints ns0, fun Q q => ⟨a, ns, by rw [e, hu, show us = [] from hn], by rw [← RepL.ints ns rl]; exact TupAt.sq ta, fun ns' p pm pw hp' => by
    rw [perm_sorted_eq (pm.trans hp.symm) pw hs]
    exact q p hp'⟩⟩) (ea_cons ha ea_nil he) hm (by decide +kernel) hg (by decide) (by decide) he hpl
end
/-! ### the matches of a tree -/
inductive Pt where
  | side (n : Int) | mtch (k : Nat)
abbrev strSide : Str := "side"
abbrev strMatch : Str := "match"
def Pt.d : Pt → D
  | .side n => .tup [.str strSide, .int n]
  | .mtch k => .tup [.str strMatch, .int k]
abbrev Prs := List (Pt × Pt)
def prD (p : Pt × Pt) : D := .tup [p.1.d, p.2.d]
def prsM (f : Prs) : M := .lst (f.map fun p => .val (prD p))
def note : Tr → Prs → Pt × Prs
  | .leaf n, f => (.side n, f)
  | .node l r, f => (.mtch (note r (note l f).2).2.length, (note r (note l f).2).2 ++ [((note l f).1, (note r (note l f).2).1)])
theorem note_len : ∀ (t : Tr) (f : Prs), (note t f).2.length + 1 = f.length + t.leaves.length
  | .leaf n, f => rfl
  | .node l r, f => by
    have h1 := note_len l f
    have h2 := note_len r (note l f).2
    simp only [note, Tr.leaves, List.length_append, List.length_cons, List.length_nil]
    omega
def isort (l : List Int) : List Int := l.mergeSort fun a b => decide (a ≤ b)
theorem isort_perm (l : List Int) : (isort l).Perm l := List.mergeSort_perm ..
theorem isort_pw (l : List Int) : (isort l).Pairwise (· ≤ ·) := by
  have h := List.pairwise_mergeSort (le := fun a b : Int => decide (a ≤ b)) (fun a b c h1 h2 => by simp only [decide_eq_true_eq] at *; omega) (fun a b => by simp only [Bool.or_eq_true, decide_eq_true_eq]; omega) l
  exact h.imp fun h => of_decide_eq_true h
abbrev Sds := List (List Int)
def ptS (acc : Sds) : Pt → List Int
  | .side n => [n]
  | .mtch k => acc.getD k []
def sdStep (acc : Sds) (p : Pt × Pt) : Sds := acc ++ [isort (ptS acc p.1 ++ ptS acc p.2)]
def sdsOf (f : Prs) : Sds := f.foldl sdStep []
theorem sdsOf_snoc (f : Prs) (p : Pt × Pt) : sdsOf (f ++ [p]) = sdStep (sdsOf f) p := by
  unfold sdsOf
  rw [List.foldl_append]; rfl
theorem foldl_sd_len (f : Prs) : ∀ acc : Sds, (f.foldl sdStep acc).length = acc.length + f.length := by
  induction f with
  | nil => exact fun acc => rfl
  | cons p f ih =>
    intro acc
    rw [List.foldl_cons, ih]
    simp only [sdStep, List.length_append, List.length_cons, List.length_nil]
    omega
theorem sdsOf_len (f : Prs) : (sdsOf f).length = f.length := by
  unfold sdsOf
  rw [foldl_sd_len]; simp
theorem foldl_sd_pre (f : Prs) : ∀ acc : Sds, acc <+: f.foldl sdStep acc := by
  induction f with
  | nil => exact fun acc => List.prefix_rfl
  | cons p f ih => exact fun acc => (List.prefix_append ..).trans (ih _)
theorem sdsOf_pre (f g : Prs) : sdsOf f <+: sdsOf (f ++ g) := by
  unfold sdsOf
  rw [List.foldl_append]
  exact foldl_sd_pre g _
def OkPt (n : Nat) : Pt → Prop
  | .side _ => True
  | .mtch k => k < n
theorem OkPt.mono {n m : Nat} (h : n ≤ m) : ∀ {p : Pt}, OkPt n p → OkPt m p
  | .side _, _ => trivial
  | .mtch _, q => Nat.lt_of_lt_of_le q h
def OkF (f : Prs) : Prop := ∀ (i : Nat) (p : Pt × Pt), f[i]? = some p → OkPt i p.1 ∧ OkPt i p.2
theorem ptS_pre {a b : Sds} (h : a <+: b) : ∀ {p : Pt}, OkPt a.length p → ptS b p = ptS a p
  | .side _, _ => rfl
  | .mtch k, q => by
    obtain ⟨c, rfl⟩ := h
    show (a ++ c).getD k [] = a.getD k []
    have q : k < a.length := q
    rw [List.getD_eq_getElem?_getD, List.getD_eq_getElem?_getD, List.getElem?_append_left q]
/-- what the matches of a tree are -/
structure Noted (t : Tr) (f : Prs) (r : Pt × Prs) : Prop where
  pre : ∃ g : Prs, r.2 = f ++ g
  ok : OkF f → OkF r.2
  pt : OkPt r.2.length r.1
  lv : (ptS (sdsOf r.2) r.1).Perm t.leaves
  sz : ∀ i l, f.length ≤ i → (sdsOf r.2)[i]? = some l → 2 ≤ l.length ∧ l.length ≤ t.leaves.length ∧ ∀ x ∈ l, x ∈ t.leaves
theorem noted : ∀ (t : Tr) (f : Prs), Noted t f (note t f)
  | .leaf n, f => ⟨⟨[], by rw [List.append_nil]; rfl⟩, fun h => h, trivial, List.Perm.refl _, fun i l hi hl => by
      have e : i < (sdsOf f).length := (List.getElem?_eq_some_iff.mp hl).1
      rw [sdsOf_len] at e
      omega⟩
  | .node l r, f => by
    have hl := noted l f
    have hr := noted r (note l f).2
    generalize ea : note l f = a at *
    generalize eb : note r a.2 = b at *
    obtain ⟨pa, fa⟩ := a
    obtain ⟨pb, fb⟩ := b
    obtain ⟨ga, ega⟩ := hl.pre
    obtain ⟨gb, egb⟩ := hr.pre
    simp only at ega egb hr eb
    have en : note (.node l r) f = (.mtch fb.length, fb ++ [(pa, pb)]) := by
      simp only [note, ea, eb]
    rw [en]
    have pab : sdsOf fa <+: sdsOf fb := by rw [egb]; exact sdsOf_pre fa gb
    have oa : OkPt fa.length pa := hl.pt
    have ob : OkPt fb.length pb := hr.pt
    have e1 : ptS (sdsOf fb) pa = ptS (sdsOf fa) pa := ptS_pre pab (by rw [sdsOf_len]; exact oa)
    have lfa : fa.length ≤ fb.length := by rw [egb, List.length_append]; omega
    have last : sdsOf (fb ++ [(pa, pb)]) = sdsOf fb ++ [isort (ptS (sdsOf fb) pa ++ ptS (sdsOf fb) pb)] := sdsOf_snoc fb (pa, pb)
    have pml : (ptS (sdsOf fb) pa ++ ptS (sdsOf fb) pb).Perm (l.leaves ++ r.leaves) := by
      rw [e1]
      exact hl.lv.append hr.lv
    have pmi := (isort_perm (ptS (sdsOf fb) pa ++ ptS (sdsOf fb) pb)).trans pml
    refine ⟨⟨ga ++ gb ++ [(pa, pb)], by simp [egb, ega]⟩, fun h i p hp => ?_, ?_, ?_, fun i x hi hx => ?_⟩
    · have hfb := hr.ok (hl.ok h)
      by_cases hi : i < fb.length
      · rw [List.getElem?_append_left hi] at hp
        exact hfb i p hp
      · have hi2 : i < (fb ++ [(pa, pb)]).length := (List.getElem?_eq_some_iff.mp hp).1
        rw [List.length_append, List.length_cons, List.length_nil] at hi2
        have e : i = fb.length := by omega
        subst e
        rw [List.getElem?_append_right (Nat.le_refl _), Nat.sub_self] at hp
        cases hp
        exact ⟨oa.mono lfa, ob⟩
    · show fb.length < (fb ++ [(pa, pb)]).length
      rw [List.length_append]
      exact Nat.lt_succ_self _
    · show ((sdsOf (fb ++ [(pa, pb)])).getD fb.length []).Perm _
      rw [last, List.getD_eq_getElem?_getD, List.getElem?_append_right (by rw [sdsOf_len]; exact Nat.le_refl _), sdsOf_len, Nat.sub_self]
      exact pmi
    · rw [last] at hx
      have lp := l.leaves_pos
      have rp := r.leaves_pos
      simp only [Tr.leaves, List.length_append]
      by_cases hi2 : i < fb.length
      · rw [List.getElem?_append_left (by rw [sdsOf_len]; exact hi2)] at hx
        by_cases hi3 : i < fa.length
        · obtain ⟨c, ec⟩ := pab
          have hx2 : (sdsOf fa)[i]? = some x := by
            rw [← ec, List.getElem?_append_left (by rw [sdsOf_len]; exact hi3)] at hx
            exact hx
          obtain ⟨h1, h2, h3⟩ := hl.sz i x hi hx2
          exact ⟨h1, by omega, fun y hy => List.mem_append_left _ (h3 y hy)⟩
        · obtain ⟨h1, h2, h3⟩ := hr.sz i x (by show fa.length ≤ i; omega) hx
          exact ⟨h1, by omega, fun y hy => List.mem_append_right _ (h3 y hy)⟩
      · have hi4 : i < (sdsOf fb ++ [isort (ptS (sdsOf fb) pa ++ ptS (sdsOf fb) pb)]).length := (List.getElem?_eq_some_iff.mp hx).1
        rw [List.length_append, List.length_cons, List.length_nil, sdsOf_len] at hi4
        have e : i = fb.length := by omega
        subst e
        rw [List.getElem?_append_right (by rw [sdsOf_len]; exact Nat.le_refl _), sdsOf_len, Nat.sub_self] at hx
        have ex : isort (ptS (sdsOf fb) pa ++ ptS (sdsOf fb) pb) = x := by simpa using hx
        rw [← ex]
        refine ⟨?_, ?_, fun y hy => pmi.mem_iff.mp hy⟩
        · rw [pmi.length_eq, List.length_append]; omega
        · rw [pmi.length_eq, List.length_append]; exact Nat.le_refl _
def sdD (l : List Int) : D := .tup (l.map D.int)
def sdsM (acc : Sds) : M := .lst (acc.map fun l => .val (sdD l))
theorem frz_map {α : Type} (g : α → D) (xs : List α) : frz (.lst (xs.map fun x => .val (g x))) = .lst (xs.map g) := by
  show D.lst (frzL (xs.map fun x => M.val (g x))) = _
  rw [frzL_eq, List.map_map]; rfl
theorem at_map {α : Type} (g : α → D) (xs : List α) {k : Nat} (d : α) (h : k < xs.length) : L2.atI (xs.map fun x => M.val (g x)) (k : Int) = some (.val (g (xs.getD k d))) :=
  atI_map (f := fun x => M.val (g x)) (by omega) (by omega) d
theorem snoc_map {α : Type} (g : α → D) (xs : List α) (x : α) : (xs.map fun x => M.val (g x)) ++ [M.val (g x)] = (xs ++ [x]).map fun x => M.val (g x) := by rw [List.map_append]; rfl
theorem pt_at {t : Tr} {pre as : Prs} {p : Pt × Pt} (e : pre ++ p :: as = (note t []).2) : (OkPt (sdsOf pre).length p.1 ∧ OkPt (sdsOf pre).length p.2) ∧ (ptS (sdsOf pre) p.1).length + (ptS (sdsOf pre) p.2).length ≤ t.leaves.length := by
  have h := noted t []
  have hp : (note t []).2[pre.length]? = some p := by rw [← e, List.getElem?_append_right (Nat.le_refl _), Nat.sub_self]; rfl
  refine ⟨by rw [sdsOf_len]; exact h.ok (fun i p z => by simp at z) _ p hp, ?_⟩
  have e2 : sdsOf pre ++ [isort (ptS (sdsOf pre) p.1 ++ ptS (sdsOf pre) p.2)] <+: sdsOf (note t []).2 := by
    have q := sdsOf_pre (pre ++ [p]) as
    rw [sdsOf_snoc, List.append_assoc] at q
    rw [← e]
    exact q
  obtain ⟨c, ec⟩ := e2
  have hx : (sdsOf (note t []).2)[pre.length]? = some (isort (ptS (sdsOf pre) p.1 ++ ptS (sdsOf pre) p.2)) := by
    rw [← ec, List.append_assoc, List.getElem?_append_right (by rw [sdsOf_len]; exact Nat.le_refl _), sdsOf_len, Nat.sub_self]
    rfl
  have z := (h.sz _ _ (Nat.zero_le _) hx).2.1
  rw [(isort_perm _).length_eq, List.length_append] at z
  exact z
end Lin

end

section
namespace Lin
open PySem PySem.Spec PyProof.Rows L2
/-! ### zip of tuples -/
section
variable {K : PySem.W.Frag} {O : OW} {H : Hp} {ds es : List D} {a b : Addr} {xs zs : List V}
theorem walk_zipTT : Walk (RZ.ItzT K a b) (min xs.length zs.length) (fun H => SqT K H a xs ∧ SqT K H b zs) (YPair (fun i => xs[i]?) (fun i => zs[i]?)) := by
  refine ⟨fun i H hi q => ?_, fun H q => ⟨xs, zs, q.1, q.2, by omega⟩, fun i H v H' _ q y => ?_⟩
  · have h1 : i < xs.length := by omega
    have h2 : i < zs.length := by omega
    exact ⟨xs, zs, xs[i], zs[i], q.1, q.2, List.getElem?_eq_getElem h1, List.getElem?_eq_getElem h2⟩
  · obtain ⟨T, x, z, h1, h2, h3, h4, h5⟩ := y
    exact ⟨T, x, z, h1, h2, h3, h4 xs q.1, h5 zs q.2⟩
theorem wk_zipT (ha : TupAt K O H a xs) (rl : RepL K O H ds xs) (hb : TupAt K O H b zs) (rm : RepL K O H es zs) : Wk K O H (RZ.ItzT K a b) (zipD ds es) :=
  wk_of (walk_zipTT (xs := xs) (zs := zs)) (by rw [zipD_len, rl.len, rm.len]) (fun O' H' kp => ⟨(ha.kept kp).sq, (hb.kept kp).sq⟩) fun O' H' F' i d x H2 kp wf hd ⟨T, x1, y1, ex, hT, eH, hx, hy⟩ => by
    obtain ⟨e, f, he, hf, ed⟩ := zipD_get hd
    subst ex eH ed
    exact rep_pair wf.nil hT (repL_at (rl.kept kp) he hx) (repL_at (rm.kept kp) hf hy)
end
section
variable {X : Cx} {env env1 env2 : Sls} {d : D} {ds es : List D} {pos p : Pos} {e e2 tg a b : Expr} {elts : List Expr} {kk : Nat} {tpos : Pos}
theorem iv_zipT (ha : Ev X e env (.val (.tup ds)) env1) (hb : Ev X e2 env1 (.val (.tup es)) env2) (hm : X.mg "zip" = none := by assumption) (hg : Gl X "zip" := by rfl)
    (he2 : (backTo pos (starEach [e2] X.env)).any (·.1) = false := by rfl) (he' : starEach [e, e2] X.env = (false, eval e X.env) :: starEach [e2] X.env := by rfl) (he3 : starEach [e2] X.env = (false, eval e2 X.env) :: starEach [] X.env := by rfl) : Iv X (.Tuple elts kk tpos) (.Call (.Name "zip" p) [e, e2] [] pos) env (zipD ds es) env2 :=
  ⟨ha.1.trans hb.1, fun O H σ F r w R q => ⟨_, RZ.pi_zipA hg hm (pa_cons pe_w (pa_cons pe_w pa_nil he3) he') he' he2, two ha hb r w (R := fun u v H' => ∃ a b xs ys, [u, v] = [V.ref a, V.ref b] ∧ ((SqL X.K H' a xs ∧ SqL X.K H' b ys ∧ R (Itz X.K a b) H') ∨ (SqT X.K H' a xs ∧ SqT X.K H' b ys ∧ R (RZ.ItzT X.K a b) H'))) fun O1 H1 u v F1 ru rv rs s => by
    obtain ⟨a, xs, ea, ta, rl⟩ := ru
    obtain ⟨b, ys, eb, tb, rm⟩ := rv
    exact ⟨a, b, xs, ys, by rw [ea, eb], .inr ⟨TupAt.sq ta, TupAt.sq tb, q O1 H1 _ F1 (wk_zipT ta rl tb rm) rs s⟩⟩⟩⟩
end
theorem zip_self (ds : List D) : zipD ds ds = ds.map fun d => .tup [d, d] := by
  induction ds with
  | nil => rfl
  | cons d ds ih => rw [zipD, ih]; rfl
/-! ### comprehensions that leave the slots as they are -/
theorem lcR_map {X : Cx} {scope : Scope} {tg elt : Expr} {vs : List Nat} {α : Type} (f : α → D) (out : α → M) (env : Sls) : ∀ (as : List α),
    (∀ a ∈ as, ∃ env1 env2 : Sls, (InB X scope fun X' => Tg X' tg (f a) vs env env1) ∧ (InB X scope fun X' => Ev X' elt env1 (out a) env2) ∧ wipeE env2 vs = env) → LcR X scope tg elt [] vs (as.map f) env (as.map out) env
  | [], _ => .nil
  | a :: as, h => by
    obtain ⟨env1, env2, t, e, hw⟩ := h a (List.mem_cons_self ..)
    exact .yes t (fun _ _ _ _ _ => tvs_nil) e (by rw [hw]; exact lcR_map f out env as fun b hb => h b (List.mem_cons_of_mem _ hb))
theorem dcR_map {X : Cx} {scope : Scope} {tg kx vx : Expr} {vs : List Nat} {α : Type} (f : α → D) (key : α → Key) (val : α → D) (env : Sls) : ∀ (as : List α) (kvs : List (Key × D)),
    (∀ a ∈ as, ∃ env1 env2 env3 : Sls, (InB X scope fun X' => Tg X' tg (f a) vs env env1) ∧ (InB X scope fun X' => Ev X' kx env1 (.val (kD (key a))) env2) ∧ (InB X scope fun X' => Ev X' vx env2 (.val (val a)) env3) ∧ wipeE env3 vs = env) →
    DcR X scope tg kx vx [] vs (as.map f) kvs env (as.foldl (fun kvs a => putD kvs (key a) (val a)) kvs) env
  | [], kvs, _ => .nil
  | a :: as, kvs, h => by
    obtain ⟨env1, env2, env3, t, k, v, hw⟩ := h a (List.mem_cons_self ..)
    exact .yes t (fun _ _ _ _ _ => tvs_nil) k v (by rw [hw]; exact dcR_map f key val env as _ fun b hb => h b (List.mem_cons_of_mem _ hb))
theorem bare1 {env : Sls} {i : Nat} (h : env[i]? = some none) : Bare env [i] := fun j s hj hm => by
  rw [List.mem_singleton] at hm
  subst hm
  rw [h] at hj; cases hj
theorem bare2 {env : Sls} {i k : Nat} (h : env[i]? = some none) (h2 : env[k]? = some none) : Bare env [i, k] := fun j s hj hm => by
  rcases List.mem_cons.mp hm with e | hm
  · subst e; rw [h] at hj; cases hj
  · exact bare1 h2 j s hj hm
/-! ### isinstance of the built-in types -/
def kitT : List (String × String × Bool) :=
  [("NoneType", "bool", false), ("NoneType", "int", false), ("NoneType", "str", false), ("NoneType", "tuple", false), ("NoneType", "list", false), ("NoneType", "dict", false),
   ("bool", "bool", true), ("bool", "int", true), ("bool", "str", false), ("bool", "tuple", false), ("bool", "list", false), ("bool", "dict", false),
   ("int", "bool", false), ("int", "int", true), ("int", "str", false), ("int", "tuple", false), ("int", "list", false), ("int", "dict", false),
   ("str", "bool", false), ("str", "int", false), ("str", "str", true), ("str", "tuple", false), ("str", "list", false), ("str", "dict", false),
   ("tuple", "bool", false), ("tuple", "int", false), ("tuple", "str", false), ("tuple", "tuple", true), ("tuple", "list", false), ("tuple", "dict", false),
   ("list", "bool", false), ("list", "int", false), ("list", "str", false), ("list", "tuple", false), ("list", "list", true), ("list", "dict", false),
   ("dict", "bool", false), ("dict", "int", false), ("dict", "str", false), ("dict", "tuple", false), ("dict", "list", false), ("dict", "dict", true)]
def Kits (K : PySem.W.Frag) : Prop := ∀ p ∈ kitT, PySem.W.kitOne K (.type p.1) (.type p.2.1) = some p.2.2
theorem kits_all (K : PySem.W.Frag) : Kits K := by
  have z : ∀ p ∈ kitT, kitB p.1 p.2.1 = some p.2.2 := by decide +kernel
  exact fun p hp => kit_ty (z p hp)
theorem Kits.g {K : PySem.W.Frag} (h : Kits K) (t c : String) (b : Bool) (hm : (t, c, b) ∈ kitT) : PySem.W.kitOne K (.type t) (.type c) = some b := h _ hm
theorem Kits.two {K : PySem.W.Frag} {t a b : String} {p q : Bool} (h : PySem.W.kitOne K (.type t) (.type a) = some p) (k : PySem.W.kitOne K (.type t) (.type b) = some q) : PySem.W.kitAny K (.type t) [.type a, .type b] = some (p || q) := by
  unfold PySem.W.kitAny
  rw [h]
  cases p with
  | true => rfl
  | false =>
    show PySem.W.kitAny K (.type t) [.type b] = _
    unfold PySem.W.kitAny
    rw [k]
    cases q <;> rfl
/-! ### data that is compared with itself -/
mutual
def sameOk : D → Bool
  | .none => true | .bool _ => true | .int _ => true | .str s => PyData.strOk s
  | .tup ds => sameOkL ds && decide (ds.length ≤ 1000000) | .lst ds => sameOkL ds && decide (ds.length ≤ 1000000)
  | .dK _ _ => false | .dT _ _ => false | .ins _ _ _ => false | .scr _ => false | .adr _ => false | .kt _ => false | .xt _ => false | .exc _ _ _ => false
def sameOkL : List D → Bool
  | [] => true
  | d :: ds => sameOk d && sameOkL ds
end
mutual
def dep : D → Nat
  | .tup ds => depL ds + 1 | .lst ds => depL ds + 1
  | _ => 0
def depL : List D → Nat
  | [] => 0
  | d :: ds => max (dep d) (depL ds)
end
theorem sameOkL_mem : ∀ {ds : List D} {d : D}, sameOkL ds = true → d ∈ ds → sameOk d = true
  | [], _, _, h => nomatch h
  | e :: ds, d, h, hm => by
    have h := Bool.and_eq_true_iff.mp (show (sameOk e && sameOkL ds) = true from h)
    rcases List.mem_cons.mp hm with e | hm
    · subst e; exact h.1
    · exact sameOkL_mem h.2 hm
theorem depL_mem : ∀ {ds : List D} {d : D}, d ∈ ds → dep d ≤ depL ds
  | [], _, h => nomatch h
  | e :: ds, d, hm => by
    rcases List.mem_cons.mp hm with e | hm
    · subst e; exact Nat.le_max_left ..
    · exact Nat.le_trans (depL_mem hm) (Nat.le_max_right ..)
/-- False is not in a list of True -/
theorem pdL_trues (n : Nat) : ((pdL (List.replicate n (D.bool true))).any fun z => PyData.eqv z (pd (.bool false))) = false := by
  induction n with
  | zero => rfl
  | succ n ih => rw [List.replicate_succ, pdL, List.any_cons, ih]; rfl
theorem cmp_trues (n : Nat) : CmpD (.lst (List.replicate n (D.bool true))) := by
  have h : plainL (List.replicate n (D.bool true)) = true ∧ PyData.canLayAll0 (pdL (List.replicate n (D.bool true))) = true ∧ PyData.depthAll (pdL (List.replicate n (D.bool true))) = 0 := by
    induction n with
    | zero => exact ⟨rfl, by simp [pdL, PyData.canLayAll0], by simp [pdL, PyData.depthAll]⟩
    | succ n ih =>
      obtain ⟨h1, h2, h3⟩ := ih
      refine ⟨by simpa [List.replicate_succ, plainL, plain] using h1, ?_, ?_⟩
      · simpa [List.replicate_succ, pdL, pd, PyData.canLayAll0, PyData.canLay0] using h2
      · simp [List.replicate_succ, pdL, pd, PyData.depthAll, PyData.depth, h3]
  exact ⟨h.1, by simp [pd, SeqAt.shaped, PyData.canLay0, PyData.depth, h.2.1, h.2.2]⟩
theorem frzL_trues {α : Type} (as : List α) : M.lst (as.map fun _ => M.val (.bool true)) = .lst ((List.replicate as.length (D.bool true)).map M.val) := by
  congr 1
  induction as with
  | nil => rfl
  | cons a as ih => rw [List.map_cons, ih]; rfl
end Lin

end

section
namespace Lin
open PySem PySem.Spec PyProof.Rows L2
/-! ### numbers as texts -/
abbrev wd (k : Int) : Str := toString k
abbrev sp : Str := " "
theorem wd_cases {k : Int} (h0 : 0 ≤ k) (h1 : k ≤ 15) {P : Int → Prop} (h : ∀ i : Fin 16, P (i.val : Int)) : P k := by
  have := h ⟨k.toNat, by omega⟩
  simpa [Int.toNat_of_nonneg h0] using this
theorem wd_len {k : Int} (h0 : 0 ≤ k) (h1 : k ≤ 15) : 1 ≤ (wd k).length ∧ (wd k).length ≤ 2 := wd_cases h0 h1 (P := fun k => 1 ≤ (wd k).length ∧ (wd k).length ≤ 2) (by decide +kernel)
theorem wd_ok {k : Int} (h0 : 0 ≤ k) (h1 : k ≤ 15) : PyData.strOk (wd k) = true := wd_cases h0 h1 (P := fun k => PyData.strOk (wd k) = true) (by decide +kernel)
theorem wd_sp {k : Int} (h0 : 0 ≤ k) (h1 : k ≤ 15) : 32 ∉ (wd k).cps.toList := wd_cases h0 h1 (P := fun k => 32 ∉ (wd k).cps.toList) (by decide +kernel)
theorem wd_log {k : Int} (h0 : 0 ≤ k) (h1 : k ≤ 15) : k.natAbs.log2 < 1920 := wd_cases h0 h1 (P := fun k => k.natAbs.log2 < 1920) (by decide +kernel)
theorem wd_inj {j k : Int} (h0 : 0 ≤ j) (h1 : j ≤ 15) (g0 : 0 ≤ k) (g1 : k ≤ 15) (h : wd j = wd k) : j = k := by
  have z : ∀ a b : Fin 16, wd (a.val : Int) = wd (b.val : Int) → (a.val : Int) = (b.val : Int) := by decide +kernel
  have := z ⟨j.toNat, by omega⟩ ⟨k.toNat, by omega⟩ (by simpa [Int.toNat_of_nonneg h0, Int.toNat_of_nonneg g0] using h)
  simp only [Int.toNat_of_nonneg h0, Int.toNat_of_nonneg g0] at this
  exact this
abbrev digs : Str := "0123456789"
/-- the last two parts of a number's text -/
theorem wd_parts {k : Int} (h0 : 0 ≤ k) (h1 : k ≤ 15) : ∃ c : Nat, L2.atI digs.cps.toList (k % 10) = some c ∧ (if 9 < k then ("1" : Str) else ("" : Str)) ++ (⟨#[c]⟩ : Str) = wd k ∧ c < 256 := by
  have z : ∀ i : Fin 16, L2.atI digs.cps.toList ((i.val : Int) % 10) = some (48 + i.val % 10) ∧ (if 9 < (i.val : Int) then ("1" : Str) else ("" : Str)) ++ (⟨#[48 + i.val % 10]⟩ : Str) = wd (i.val : Int) := by decide +kernel
  obtain ⟨e1, e2⟩ := z ⟨k.toNat, by omega⟩
  simp only [Int.toNat_of_nonneg h0] at e1 e2
  exact ⟨48 + k.toNat % 10, e1, e2, by omega⟩
theorem str_assoc (a b c : Str) : a ++ b ++ c = a ++ (b ++ c) := by
  show (⟨a.cps ++ b.cps ++ c.cps⟩ : Str) = ⟨a.cps ++ (b.cps ++ c.cps)⟩
  rw [Array.append_assoc]
theorem str_nil (a : Str) : ("" : Str) ++ a = a := by
  show (⟨("" : Str).cps ++ a.cps⟩ : Str) = a
  have e : ("" : Str).cps = #[] := by decide +kernel
  rw [e, Array.empty_append]
theorem str_nil2 (a : Str) : a ++ ("" : Str) = a := by
  show (⟨a.cps ++ ("" : Str).cps⟩ : Str) = a
  have e : ("" : Str).cps = #[] := by decide +kernel
  rw [e, Array.append_empty]
theorem str_len (a b : Str) : (a ++ b).length = a.length + b.length := by
  show (a.cps ++ b.cps).size = _
  rw [Array.size_append]; rfl
theorem strOk_app {a b : Str} (ha : PyData.strOk a = true) (hb : PyData.strOk b = true) : PyData.strOk (a ++ b) = true := by
  show (a.cps ++ b.cps).all _ = true
  rw [Array.all_append, Bool.and_eq_true]
  exact ⟨ha, hb⟩
/-- a text grown word by word -/
def dueStep (acc : Str) (k : Int) : Str := acc ++ (if acc = ("" : Str) then ("" : Str) else sp) ++ wd k
theorem join_snoc : ∀ (ys : List Str) (y : Str), ys ≠ [] → Str.join sp (ys ++ [y]) = Str.join sp ys ++ sp ++ y
  | [], _, h => absurd rfl h
  | [x], y, _ => rfl
  | x :: z :: r, y, _ => by
    have ih := join_snoc (z :: r) y (by simp)
    show x ++ sp ++ Str.join sp ((z :: r) ++ [y]) = (x ++ sp ++ Str.join sp (z :: r)) ++ sp ++ y
    rw [ih]
    simp only [str_assoc]
theorem join_ne {ys : List Str} (h : ys ≠ []) (hp : ∀ y ∈ ys, 1 ≤ y.length) : Str.join sp ys ≠ ("" : Str) := fun e => by
  have hl : 1 ≤ (Str.join sp ys).length := by
    match ys, h with
    | [x], _ => exact hp x (List.mem_cons_self ..)
    | x :: z :: r, _ =>
      show 1 ≤ (x ++ sp ++ Str.join sp (z :: r)).length
      rw [str_len, str_len]
      have := hp x (List.mem_cons_self ..)
      omega
  rw [e] at hl
  exact absurd hl (by decide +kernel)
theorem due_join : ∀ (ks : List Int) (pre : List Int), (∀ k ∈ pre ++ ks, 0 ≤ k ∧ k ≤ 15) → ks.foldl dueStep (Str.join sp (pre.map wd)) = Str.join sp ((pre ++ ks).map wd)
  | [], pre, _ => by rw [List.append_nil]; rfl
  | k :: ks, pre, h => by
    have e : dueStep (Str.join sp (pre.map wd)) k = Str.join sp ((pre ++ [k]).map wd) := by
      by_cases hp : pre = []
      · subst hp
        show (("" : Str) ++ (if ("" : Str) = ("" : Str) then ("" : Str) else sp)) ++ wd k = wd k
        rw [if_pos rfl, str_nil, str_nil]
      · have hne : Str.join sp (pre.map wd) ≠ ("" : Str) := join_ne (fun z => hp (List.map_eq_nil_iff.mp z)) fun y hy => by
          obtain ⟨j, hj, rfl⟩ := List.mem_map.mp hy
          obtain ⟨h0, h1⟩ := h j (List.mem_append_left _ hj)
          exact (wd_len h0 h1).1
        unfold dueStep
        rw [if_neg hne, List.map_append, List.map_cons, List.map_nil, join_snoc _ _ (fun z => hp (List.map_eq_nil_iff.mp z))]
    rw [List.foldl_cons, e, due_join ks (pre ++ [k]) (by rw [List.append_assoc]; exact h), List.append_assoc]
    rfl
theorem due_all (ks : List Int) (h : ∀ k ∈ ks, 0 ≤ k ∧ k ≤ 15) : ks.foldl dueStep ("" : Str) = Str.join sp (ks.map wd) := due_join ks [] h
theorem due_split (ks : List Int) (hne : ks ≠ []) (h : ∀ k ∈ ks, 0 ≤ k ∧ k ≤ 15) : Txt.split (Str.join sp (ks.map wd)) sp = ks.map wd := by
  have z := TL.split_join (y := sp) (s := 32) (S := []) (by decide +kernel) (by decide +kernel) (parts := ks.map wd) (fun z => hne (List.map_eq_nil_iff.mp z)) fun p hp => by
    obtain ⟨k, hk, rfl⟩ := List.mem_map.mp hp
    obtain ⟨h0, h1⟩ := h k hk
    exact wd_sp h0 h1
  rw [TL.join_eq] at z
  exact z
theorem due_len (ks : List Int) (h : ∀ k ∈ ks, 0 ≤ k ∧ k ≤ 15) : (Str.join sp (ks.map wd)).length ≤ 3 * ks.length ∧ PyData.strOk (Str.join sp (ks.map wd)) = true := by
  induction ks with
  | nil => exact ⟨by decide +kernel, by decide +kernel⟩
  | cons k ks ih =>
    obtain ⟨h0, h1⟩ := h k (List.mem_cons_self ..)
    obtain ⟨i1, i2⟩ := ih fun j hj => h j (List.mem_cons_of_mem _ hj)
    have l := (wd_len h0 h1).2
    cases ks with
    | nil => exact ⟨by show (wd k).length ≤ 3 * 1; omega, wd_ok h0 h1⟩
    | cons j r =>
      refine ⟨?_, ?_⟩
      · show (wd k ++ sp ++ Str.join sp ((j :: r).map wd)).length ≤ _
        rw [str_len, str_len]
        have e : sp.length = 1 := by decide +kernel
        rw [e]
        simp only [List.length_cons] at i1 ⊢
        omega
      · show PyData.strOk (wd k ++ sp ++ Str.join sp ((j :: r).map wd)) = true
        exact strOk_app (strOk_app (wd_ok h0 h1) (by decide +kernel)) i2
theorem sum_len (ks : List Int) (h : ∀ k ∈ ks, 0 ≤ k ∧ k ≤ 15) : ((ks.map wd).map (·.length)).sum ≤ 2 * ks.length := by
  induction ks with
  | nil => simp
  | cons k ks ih =>
    obtain ⟨h0, h1⟩ := h k (List.mem_cons_self ..)
    have l := (wd_len h0 h1).2
    have := ih fun j hj => h j (List.mem_cons_of_mem _ hj)
    simp only [List.map_cons, List.sum_cons, List.length_cons] at this ⊢
    omega
/-! ### a dict by its puts -/
def lookD (kvs : List (Key × D)) (k : Key) : Option D := (kvs.find? fun kv => decide (kv.1 = k)).map (·.2)
theorem getD_look (kvs : List (Key × D)) (k : Key) : getD (kvs.map (·.1)) (kvs.map (·.2)) k = lookD kvs k := by
  unfold getD lookD
  have e : (kvs.map (·.1)).zip (kvs.map (·.2)) = kvs := by
    induction kvs with
    | nil => rfl
    | cons p r ih => rw [List.map_cons, List.map_cons, List.zip_cons_cons, ih]
  rw [e]
theorem look_map {k k' : Key} {v : D} : ∀ (kvs : List (Key × D)), lookD (kvs.map fun kv => if kv.1 = k then (kv.1, v) else kv) k' = if k' = k then (if (kvs.any fun kv => decide (kv.1 = k)) = true then some v else none) else lookD kvs k'
  | [] => by simp [lookD]
  | p :: r => by
    have ih := look_map (k := k) (k' := k') (v := v) r
    unfold lookD at ih ⊢
    by_cases h1 : p.1 = k <;> by_cases h2 : k' = k <;> by_cases h3 : p.1 = k' <;> simp_all <;> (congr 1; simp [h1])
theorem look_put (kvs : List (Key × D)) (k k' : Key) (v : D) : lookD (putD kvs k v) k' = if k' = k then some v else lookD kvs k' := by
  unfold putD
  split
  · rename_i h
    rw [look_map, if_pos h]
  · rename_i h
    unfold lookD
    rw [List.find?_append]
    by_cases e : k' = k
    · subst e
      rw [if_pos rfl]
      have hn : kvs.find? (fun kv => decide (kv.1 = k')) = none := by
        rw [List.find?_eq_none]
        intro x hx hd
        exact h (List.any_eq_true.mpr ⟨x, hx, hd⟩)
      rw [hn]
      simp
    · rw [if_neg e]
      have : ¬ k = k' := fun z => e z.symm
      simp [this]
theorem look_fold {α : Type} (key : α → Key) (val : α → D) (k : Key) (v : D) : ∀ (as : List α) (kvs : List (Key × D)), (∀ a ∈ as, key a = k → val a = v) → (lookD kvs k = some v ∨ ∃ a ∈ as, key a = k) → lookD (as.foldl (fun kvs a => putD kvs (key a) (val a)) kvs) k = some v
  | [], kvs, _, h => by
    rcases h with h | ⟨a, ha, _⟩
    · exact h
    · cases ha
  | a :: as, kvs, hv, h => by
    refine look_fold key val k v as _ (fun b hb => hv b (List.mem_cons_of_mem _ hb)) ?_
    rw [look_put]
    by_cases e : k = key a
    · rw [if_pos e, hv a (List.mem_cons_self ..) e.symm]
      exact .inl rfl
    · rw [if_neg e]
      rcases h with h | ⟨b, hb, hk⟩
      · exact .inl h
      · rcases List.mem_cons.mp hb with z | z
        · subst z; exact absurd hk.symm e
        · exact .inr ⟨b, z, hk⟩
section
variable {X : Cx} {env env1 : Sls} {e : Expr} {ks : List Key} {ds : List D}
theorem frz_dK : frz (.dK ks (ds.map M.val)) = .dK ks ds := by
  show D.dK ks (Lin.frzL (ds.map M.val)) = _
  rw [frzL_val]
theorem Ev.frzK (h : Ev X e env (.dK ks (ds.map M.val)) env1) : Ev X e env (.val (.dK ks ds)) env1 := h.frz.eq (by show M.val (.dK ks (Lin.frzL (ds.map M.val))) = _; rw [frzL_val])
end
end Lin

end

section
namespace Lin
open PySem PySem.Spec PyProof.Rows L2
section
variable {X : Cx} {env env1 env2 : Sls} {a b : Expr} {pos : Pos}
theorem ev_neS {z w : Str} (hz : PyData.strOk z = true) (hw : PyData.strOk w = true) (ha : Ev X a env (.val (.str z)) env1) (hb : Ev X b env1 (.val (.str w)) env2) (hu : X.A.units + 64 < cLine) : Ev X (.Compare a [.NotEq] [b] pos) env (.val (.bool (!decide (z = w)))) env2 := Ev.eq (ev_neD ha hb (cmp_str hz) (cmp_str hw) hu) (by rw [eqv_str])
end
/-! ### the law's own def -/
section
variable {P : Program} {w : World} {K : PySem.W.Frag} {mg : Str → Option Value} {base : Heap} {x : Str} {st : Stmt} {f : Addr} {fd : FuncData} {N ps : List Str} {k : Nat} {ds : List D} {r : M} {env0 : Sls}
theorem fnok0 (F : Fun K x x st f fd) (S : FnScope N ps (defScope st)) (hl : ds.length = ps.length) (h0 : env0 = start0 N ds)
    (body : In0 P w K mg base N x st k fun X => ∃ env', Ex X (defBody st) env0 (.rt r env')) : FnOk P w K mg base CX0 (k + 1) f fd ps (FS0 K ds r) := by
  refine F.ok S (fun vs H Q E h => ?_) (fun cdv A outer s H vs Q E hr h => ?_)
  · obtain ⟨O, _, rl, _⟩ := h
    rw [rl.len, hl]
  · obtain ⟨O, wf, rl, q⟩ := h
    obtain ⟨env', ex⟩ := body f cdv A outer s H E hr
    subst h0
    refine ex O H (L2.start N vs) [] ?_ wf _ fun O' H' σ' v Fv F' rm rs s' _ => q O' H' v Fv rm s'.dropR
    have z := repS_start (K := K) (O := O) (H := H) (N.length - ds.length) ds rl
    unfold L2.start start0
    rw [rl.len]
    exact z
theorem fnok_ex {ι : Type} {sps : ι → Sp} (h : ∀ i, FnOk P w K mg base CX0 k f fd ps (sps i)) : FnOk P w K mg base CX0 k f fd ps (fun vs H Q E => ∃ i, sps i vs H Q E) :=
  ⟨fun vs H Q E ⟨i, z⟩ => (h i).len vs H Q E z, fun A outer s H args us vs Q E hr he hb hv ⟨i, z⟩ => (h i).run A outer s H args us vs Q E hr he hb hv z⟩
/-- for every script the law gives True -/
def SpLaw (K : PySem.W.Frag) : Sp := fun vs H Q E => ∃ ns : { ns : List Int // ns.length ≤ 63 }, FS0 K [.scr ns.1] (.val (.bool true)) vs H Q E
theorem spLaw_of {n : Nat} (hn : n ≤ 63) (H : Hp) (a : Addr) (ns : List Int) (hl : ns.length ≤ n) (hS : SqL K H a (ns.map V.int)) : SpLaw K [.ref a] H (fun v _ => v = .bl true) fun _ _ _ => False := by
  refine ⟨⟨ns, Nat.le_trans hl hn⟩, fun _ => False, ⟨List.nodup_nil, (fun _ h => nomatch h), fun _ (h : False) => h.elim, fun _ _ (h : False) => h.elim⟩, ⟨_, _, rfl, ⟨a, rfl, ?_⟩, rfl⟩, fun O' H' v Fv rm s => rm.2⟩
  rcases hS with h | h
  · exact .inl ⟨fun z => z, h⟩
  · exact .inr h
theorem Df.mk {oc : Value} {od an : Option Addr} {osl : Array (Option Value)} {kV doc pm cdv ct : Value} (l : K.lookup f = some ⟨oc, od, .func (PySem.W.fnOf x x (defArgs st) (defBody st) (defScope st) .none kV doc pm an cdv ct), osl⟩) (c : PySem.W.codeIn K cdv x = true) (kp : PySem.W.keepIn K (.ref f) = true)
    (hb : ∀ (kV doc pm : Value) (an : Option Addr) (cdv ct : Value) (us : List Value), us.length = ps.length → bindArgs (PySem.W.fnOf x x (defArgs st) (defBody st) (defScope st) .none kV doc pm an cdv ct) ⟨us, []⟩ = pure (ps.zip us)) (g : mg x = some (.ref f)) : Df K mg x st ps :=
  ⟨f, _, fun_mk l c kp, (fun_mk (st := st) l c kp).binds hb, g⟩
end
theorem depL_ints (ks : List Int) : depL (ks.map D.int) = 0 := by
  induction ks with
  | nil => rfl
  | cons k ks ih => rw [List.map_cons, depL, ih]; rfl
theorem sameOkL_ints (ks : List Int) : sameOkL (ks.map D.int) = true := by
  induction ks with
  | nil => rfl
  | cons k ks ih => rw [List.map_cons, sameOkL, ih]; rfl
/-! ### pieces of a text -/
def asV : Stmt → Expr
  | .Assign _ v _ => v
  | _ => .Constant .none 0 ⟨0, 0, 0, 0⟩
def tuI : Expr → Nat → Expr
  | .Tuple es _ _, i => es.getD i (.Constant .none 0 ⟨0, 0, 0, 0⟩)
  | .List es _, i => es.getD i (.Constant .none 0 ⟨0, 0, 0, 0⟩)
  | _, _ => .Constant .none 0 ⟨0, 0, 0, 0⟩
def caI : Expr → Nat → Expr
  | .Call _ as _ _, i => as.getD i (.Constant .none 0 ⟨0, 0, 0, 0⟩)
  | _, _ => .Constant .none 0 ⟨0, 0, 0, 0⟩
def lcE : Expr → Expr
  | .ListComp e _ _ _ => e
  | _ => .Constant .none 0 ⟨0, 0, 0, 0⟩
def lcT : Expr → Expr
  | .ListComp _ (g :: _) _ _ => g.target
  | _ => .Constant .none 0 ⟨0, 0, 0, 0⟩
def lcS (d : Scope) : Expr → Scope
  | .ListComp _ _ s _ => s
  | _ => d
end Lin

end

section
namespace Lin
open PySem PySem.Spec PyProof.Rows L2

/-! ### heaps that differ in a lock alone -/
def NF : HO → Prop
  | .frz _ _ => False
  | _ => True
structure Cv (H H' : Hp) : Prop where
  rd : ∀ a U, NF U → Rd H a U → Rd H' a U
  ls : ∀ a xs, H a = some (.lst xs) → H' a = some (.lst xs)
  tu : ∀ a xs, H a = some (.tup xs) → H' a = some (.tup xs)
  is : ∀ a C dx f, H a = some (.ins C dx f) → H' a = some (.ins C dx f)
  ex : ∀ a φ, H a = some (.ext φ) → H' a = some (.ext φ)
section
variable {K : PySem.W.Frag} {O : OW} {H H' : Hp}
mutual
theorem Rep.cv (c : Cv H H') : ∀ (d : D) {v : V}, Rep K O H d v → Rep K O H' d v
  | .none, _, h => h
  | .bool _, _, h => h
  | .int _, _, h => h
  | .str _, _, h => h
  | .tup ds, _, ⟨a, xs, e, p, q⟩ => ⟨a, xs, e, p.imp (fun p => ⟨p.1, c.rd _ _ trivial p.2⟩) id, RepL.cv c ds q⟩
  | .lst ds, _, ⟨a, xs, e, p, r, q⟩ => ⟨a, xs, e, p, c.ls _ _ r, RepL.cv c ds q⟩
  | .dK ks ds, _, ⟨a, kvs, e, p, r, z, q⟩ => ⟨a, kvs, e, p, c.rd _ _ trivial r, z, RepL.cv c ds q⟩
  | .dT ks ds, _, ⟨a, kvs, e, p, r, z, q⟩ => ⟨a, kvs, e, p, c.rd _ _ trivial r, z, RepL.cv c ds q⟩
  | .ins C fs ds, _, ⟨a, dx, kvs, e, p, r, z, q⟩ => ⟨a, dx, kvs, e, p, c.is _ _ _ _ r, z, RepL.cv c ds q⟩
  | .scr ns, _, ⟨a, e, p⟩ => ⟨a, e, p.imp (fun p => ⟨p.1, c.rd _ _ trivial p.2⟩) id⟩
  | .adr _, _, h => h
  | .kt _, _, ⟨a, e, p, r⟩ => ⟨a, e, p, c.tu _ _ r⟩
  | .xt _, _, ⟨a, e, p, r⟩ => ⟨a, e, p, c.ex _ _ r⟩
  | .exc C fs ds, _, ⟨a, dx, kvs, e, p, r, z, q⟩ => ⟨a, dx, kvs, e, p, ⟨c.ex _ _ r.1, c.ex _ _ r.2⟩, z, RepL.cv c ds q⟩
theorem RepL.cv (c : Cv H H') : ∀ (ds : List D) {xs : List V}, RepL K O H ds xs → RepL K O H' ds xs
  | [], _, h => h
  | d :: ds, _, ⟨v, vs, e, p, q⟩ => ⟨v, vs, e, Rep.cv c d p, RepL.cv c ds q⟩
end
mutual
theorem RepM.cv (c : Cv H H') : ∀ (m : M) {v : V} {F : List Addr}, (∀ a o, a ∈ F → H a = some o → H' a = some o) → RepM K O H m v F → RepM K O H' m v F
  | .val d, _, _, _, ⟨e, h⟩ => ⟨e, Rep.cv c d h⟩
  | .lst ms, _, _, hf, ⟨a, xs, F', e, ef, h, r⟩ => ⟨a, xs, F', e, ef, hf a _ (ef ▸ List.mem_cons_self ..) h, RepML.cv c ms (fun a o z => hf a o (ef ▸ List.mem_cons_of_mem _ z)) r⟩
  | .dK ks ms, _, _, hf, ⟨a, kvs, F', e, ef, h, z, r⟩ => ⟨a, kvs, F', e, ef, hf a _ (ef ▸ List.mem_cons_self ..) h, z, RepML.cv c ms (fun a o z => hf a o (ef ▸ List.mem_cons_of_mem _ z)) r⟩
  | .dT ks ms, _, _, hf, ⟨a, kvs, F', e, ef, h, z, r⟩ => ⟨a, kvs, F', e, ef, hf a _ (ef ▸ List.mem_cons_self ..) h, z, RepML.cv c ms (fun a o z => hf a o (ef ▸ List.mem_cons_of_mem _ z)) r⟩
  | .ins C fs ms, _, _, hf, ⟨a, dx, kvs, F', e, ef, h, z, r⟩ => ⟨a, dx, kvs, F', e, ef, hf a _ (ef ▸ List.mem_cons_self ..) h, z, RepML.cv c ms (fun a o z => hf a o (ef ▸ List.mem_cons_of_mem _ z)) r⟩
  | .tup ms, _, _, hf, ⟨a, xs, e, p, h, r⟩ => ⟨a, xs, e, p, c.tu _ _ h, RepML.cv c ms hf r⟩
theorem RepML.cv (c : Cv H H') : ∀ (ms : List M) {xs : List V} {F : List Addr}, (∀ a o, a ∈ F → H a = some o → H' a = some o) → RepML K O H ms xs F → RepML K O H' ms xs F
  | [], _, _, _, h => h
  | m :: ms, _, _, hf, ⟨v, vs, F1, F2, e, ef, p, q⟩ => ⟨v, vs, F1, F2, e, ef, RepM.cv c m (fun a o z => hf a o (ef ▸ List.mem_append_left _ z)) p, RepML.cv c ms (fun a o z => hf a o (ef ▸ List.mem_append_right _ z)) q⟩
end
theorem RepS.cv (c : Cv H H') : ∀ (es : Sls) {σ : L2.St} {F : List Addr}, (∀ a o, a ∈ F → H a = some o → H' a = some o) → RepS K O H es σ F → RepS K O H' es σ F
  | [], _, _, _, h => h
  | none :: es, _, _, hf, ⟨o, σ', e, r⟩ => ⟨o, σ', e, RepS.cv c es hf r⟩
  | some s :: es, _, _, hf, ⟨v, σ', F1, F2, e, ef, p, q⟩ => ⟨v, σ', F1, F2, e, ef, RepM.cv c s.m (fun a o z => hf a o (ef ▸ List.mem_append_left _ z)) p, RepS.cv c es (fun a o z => hf a o (ef ▸ List.mem_append_right _ z)) q⟩
theorem cv_lock {d : Addr} {kvs : List (Key × V)} {od : Obj} (h : H d = some (.dK kvs)) : Cv H (upd H d (.frz od (.dK kvs))) := by
  refine ⟨fun a U nf r => ?_, fun a xs r => ?_, fun a xs r => ?_, fun a C dx f r => ?_, fun a φ r => ?_⟩
  · by_cases e : a = d
    · subst e
      rcases r with r | ⟨o, r⟩
      · rw [h] at r; cases r
        exact .inr ⟨od, upd_same⟩
      · rw [h] at r; cases r
    · rcases r with r | ⟨o, r⟩
      · exact .inl (by rw [upd_ne e]; exact r)
      · exact .inr ⟨o, by rw [upd_ne e]; exact r⟩
  · rw [upd_ne (fun e => by subst e; rw [h] at r; cases r)]; exact r
  · rw [upd_ne (fun e => by subst e; rw [h] at r; cases r)]; exact r
  · rw [upd_ne (fun e => by subst e; rw [h] at r; cases r)]; exact r
  · rw [upd_ne (fun e => by subst e; rw [h] at r; cases r)]; exact r
theorem cv_unlock {d : Addr} {kvs : List (Key × V)} {od : Obj} (h : H d = some (.frz od (.dK kvs))) : Cv H (upd H d (.dK kvs)) := by
  refine ⟨fun a U nf r => ?_, fun a xs r => ?_, fun a xs r => ?_, fun a C dx f r => ?_, fun a φ r => ?_⟩
  · by_cases e : a = d
    · subst e
      rcases r with r | ⟨o, r⟩
      · rw [h] at r; cases r
        exact nf.elim
      · rw [h] at r; cases r
        exact .inl upd_same
    · rcases r with r | ⟨o, r⟩
      · exact .inl (by rw [upd_ne e]; exact r)
      · exact .inr ⟨o, by rw [upd_ne e]; exact r⟩
  · rw [upd_ne (fun e => by subst e; rw [h] at r; cases r)]; exact r
  · rw [upd_ne (fun e => by subst e; rw [h] at r; cases r)]; exact r
  · rw [upd_ne (fun e => by subst e; rw [h] at r; cases r)]; exact r
  · rw [upd_ne (fun e => by subst e; rw [h] at r; cases r)]; exact r
/-- a step under a lock is a step -/
theorem Step.locked {O' : OW} {F F' : List Addr} {d : Addr} {u lk : HO} (w : Wf O H F) (hd : H d = some u) (no : ¬ O d) (s : Step O (upd H d lk) F O' H' F') : H' d = some lk ∧ Step O H F O' (upd H' d u) F' := by
  have hdF : d ∉ F := fun z => no (w.own d z)
  have e1 : H' d = some lk := s.frame d _ upd_same hdF
  refine ⟨e1, fun a o h n => ?_, fun a h => ?_, s.old, fun a h => ?_, s.wf.nd, s.wf.own, fun a h => ?_, fun a v h z => ?_⟩
  · by_cases e : a = d
    · subst e
      rw [hd] at h; cases h
      exact upd_same
    · rw [upd_ne e]
      exact s.frame a o (by rw [upd_ne e]; exact h) n
  · rcases s.nw a h with z | z
    · exact .inl z
    · by_cases e : a = d
      · subst e; rw [upd_same] at z; cases z
      · rw [upd_ne e] at z; exact .inr z
  · rcases s.fp a h with z | z
    · exact .inl z
    · by_cases e : a = d
      · subst e; rw [upd_same] at z; cases z
      · rw [upd_ne e] at z; exact .inr z
  · obtain ⟨o, z⟩ := s.wf.dom a h
    by_cases e : a = d
    · exact ⟨u, by rw [e]; exact upd_same⟩
    · exact ⟨o, by rw [upd_ne e]; exact z⟩
  · by_cases e : a = d
    · subst e
      rcases s.nw a h with q | q
      · exact absurd q no
      · rw [upd_same] at q; cases q
    · rw [upd_ne e] at z
      exact s.wf.nt a v h z
theorem Wf.lock {F : List Addr} {d : Addr} {lk : HO} (w : Wf O H F) (hn : NTp lk := by trivial) : Wf O (upd H d lk) F := ⟨w.nd, w.own, fun a h => by
  obtain ⟨o, z⟩ := w.dom a h
  by_cases e : a = d
  · exact ⟨lk, by rw [e]; exact upd_same⟩
  · exact ⟨o, by rw [upd_ne e]; exact z⟩, fun a u h z => by
  by_cases e : a = d
  · rw [e, upd_same] at z
    cases z; exact hn
  · rw [upd_ne e] at z
    exact w.nt a u h z⟩
theorem not_own {O' : OW} {F F' : List Addr} {d : Addr} {o : HO} (s : Step O H F O' H' F') (no : ¬ O d) (hd : H d = some o) : ¬ O' d := fun z => by
  rcases s.nw d z with q | q
  · exact no q
  · rw [hd] at q; cases q
end

/-! ### walks over a dict that a name has -/
section
variable {K : PySem.W.Frag} {O : OW} {H : Hp} {ds : List D} {ks : List Key} {kvs : List (Key × V)} {d : Addr} {o : Obj}
theorem keys_at {i : Nat} {k : Key} {v : V} (h : kvs.map (·.1) = ks) (e : kvs[i]? = some (k, v)) {x : D} (hx : (ks.map kD)[i]? = some x) : x = kD k := by
  rw [← h, List.map_map, List.getElem?_map, e] at hx
  exact (Option.some.inj hx).symm
theorem rep_key {k : Key} : Rep K O H (kD k) (kV k) := by cases k <;> rfl
theorem wk_keys (no : ¬ O d) (hd : H d = some (.frz o (.dK kvs))) (hk : kvs.map (·.1) = ks) : Wk K O H (Itk d o kvs) (ks.map kD) :=
  wk_of walk_keys (by rw [List.length_map, ← hk, List.length_map]) (fun O' H' kp => kp.1 d _ hd no) fun O' H' F' i x y H2 kp wf hx ⟨e, k, v, h1, h2⟩ => by
    subst e
    refine ⟨Step.refl wf.nil, ?_⟩
    rw [keys_at hk h1 hx, h2]
    exact rep_key
def itemsD : List Key → List D → List D
  | k :: ks, d :: ds => .tup [kD k, d] :: itemsD ks ds
  | _, _ => []
theorem itemsD_len : ∀ {ks : List Key} {ds : List D}, ks.length = ds.length → (itemsD ks ds).length = ks.length
  | [], _, _ => rfl
  | _ :: _, [], h => by simp at h
  | k :: ks, d :: ds, h => by rw [itemsD, List.length_cons, itemsD_len (by simpa using h), List.length_cons]
theorem itemsD_at : ∀ {ks : List Key} {ds : List D} {i : Nat} {x : D}, (itemsD ks ds)[i]? = some x → ∃ k e, ks[i]? = some k ∧ ds[i]? = some e ∧ x = .tup [kD k, e]
  | [], _, _, _, h => by simp [itemsD] at h
  | _ :: _, [], _, _, h => by simp [itemsD] at h
  | k :: ks, d :: ds, 0, x, h => by
    have q : D.tup [kD k, d] = x := by simpa [itemsD] using h
    exact ⟨k, d, rfl, rfl, q.symm⟩
  | k :: ks, d :: ds, i + 1, x, h => by
    obtain ⟨k', e, h1, h2, h3⟩ := itemsD_at (ks := ks) (ds := ds) (i := i) (x := x) (by simpa [itemsD] using h)
    exact ⟨k', e, by simpa using h1, by simpa using h2, h3⟩
theorem wk_items (no : ¬ O d) (hd : H d = some (.frz o (.dK kvs))) (hk : kvs.map (·.1) = ks) (rl : RepL K O H ds (kvs.map (·.2))) : Wk K O H (Iti d o kvs) (itemsD ks ds) :=
  wk_of walk_items (by
      have h1 := rl.len
      rw [List.length_map] at h1
      have h2 := congrArg List.length hk
      rw [List.length_map] at h2
      rw [itemsD_len (by omega)]; exact h2) (fun O' H' kp => kp.1 d _ hd no) fun O' H' F' i x y H2 kp wf hx ⟨T, a, b, ey, hT, eH, h1, h2⟩ => by
    obtain ⟨k, e, g1, g2, g3⟩ := itemsD_at hx
    subst ey eH g3
    obtain ⟨p, hp, rfl⟩ := Option.map_eq_some_iff.mp h1
    obtain ⟨p2, hp2, rfl⟩ := Option.map_eq_some_iff.mp h2
    rw [hp] at hp2; cases hp2
    have ek : p.1 = k := by
      rw [← hk, List.getElem?_map, hp] at g1
      exact Option.some.inj g1
    rw [ek]
    exact rep_pair wf.nil hT rep_key (repL_at (rl.kept kp) g2 (by rw [List.getElem?_map, hp]; rfl))
end
/-- a walk over the dict in slot i, locked -/
def LIv (X : Cx) (tg it : Expr) (env : Sls) (ys : List D) (i : Nat) (ks : List Key) (ds : List D) : Prop := ∀ (O : OW) (H : Hp) (σ : L2.St) (F : List Addr), RepS X.K O H env σ F → Wf O H F →
  ∀ (d : Addr) (o : Obj) (kvs : List (Key × V)), σ[i]? = some (some (.ref d)) → ¬ O d → H d = some (.frz o (.dK kvs)) → kvs.map (·.1) = ks → RepL X.K O H ds (kvs.map (·.2)) → ∀ R : It → Hp → Prop, (∀ J : It, Wk X.K O H J ys → R J H) → wI X tg it σ H R
section
variable {X : Cx} {env env1 env' : Sls} {ys ds : List D} {ks : List Key} {ms : List M} {pos p apos cpos : Pos} {elt tg it : Expr} {ifs : List Expr} {scope : Scope} {own : List (Str × Nat)} {n : Str} {body : List Stmt} {out : Out} {elts : List Expr} {kk : Nat} {tpos : Pos}
theorem liv_keys (i : Nat) (hN : X.N[i]? = some n := by rfl) (hv : Vis X.env.scope n := by first | exact Or.inl rfl | exact Or.inr (Or.inl rfl) | exact Or.inr (Or.inr rfl)) (hd : (n == ("__debug__" : Str)) = false := by decide) (hcd : (n == ("__classdict__" : Str)) = false := by decide) : LIv X tg (.Name n p) env (ks.map kD) i ks ds :=
  fun O H σ F r w d o kvs hs no hd' hk rl R q => ⟨_, pi_keys (pe_var hN hv hd hcd), .ref d, hs, d, o, rfl, .inl ⟨kvs, hd', q _ (wk_keys no hd' hk)⟩⟩
theorem liv_items (i : Nat) (hN : X.N[i]? = some n := by rfl) (hv : Vis X.env.scope n := by first | exact Or.inl rfl | exact Or.inr (Or.inl rfl) | exact Or.inr (Or.inr rfl)) (hd : (n == ("__debug__" : Str)) = false := by decide) (hcd : (n == ("__classdict__" : Str)) = false := by decide)
    (hbase : attributeBase (.Name n p) "items" X.env (eval (.Name n p) X.env) = eval (.Name n p) X.env := by rfl) (hline : (apos.endLine == cpos.line) = true := by rfl) : LIv X (.Tuple elts kk tpos) (.Call (.Attribute (.Name n p) "items" apos) [] [] cpos) env (itemsD ks ds) i ks ds :=
  fun O H σ F r w d o kvs hs no hd' hk rl R q => ⟨_, pi_items (pe_var hN hv hd hcd) hbase hline, .ref d, hs, d, o, kvs, rfl, hd', q _ (wk_items no hd' hk rl)⟩
theorem off_F {O : OW} {H : Hp} {F : List Addr} {d : Addr} {u : HO} (w : Wf O H F) (no : ¬ O d) : ∀ a o, a ∈ F → H a = some o → upd H d u a = some o := fun a o ha h => by
  rw [upd_ne (fun e => no (by rw [← e]; exact w.own a ha))]; exact h
theorem ev_lcD (i : Nat) (h : env[i]? = some (vl (.dK ks ds))) (hi : LIv X tg it env ys i ks ds) (hr : LcR X scope tg elt ifs (own.map (·.2)) ys env ms env') (hb : Bare env (own.map (·.2))) (ok : BlkOk X.N X.env.scope scope own) (hz : ys.length ≤ sizeLine) (hN : X.N.Nodup := by assumption)
    (hc : X.calm = true := by rfl) (hs : ∀ x, foldedSetIterable it X.env x = pure x := by intro _; rfl) : Ev X (.ListComp elt [⟨tg, it, ifs, 0⟩] scope pos) env (.lst ms) env' :=
  ⟨hr.io X.s_0 X.H_0 hb, fun O H σ F r w Q q => by
    obtain ⟨v, F1, Fi, F2, e1, ef, ⟨_, a, kvs, rfl, no, rd, hk, rl⟩, _, _⟩ := RepS.at r h
    rcases rd with rd | ⟨o, rd⟩
    · refine ⟨_, pe_lock (pe_lc hc hN pi_w ok bg_ok bts_ok be_ok hs), a, .dK kvs, rd, trivial, fun od => ?_⟩
      have c := cv_lock (od := od) rd
      have r1 := RepS.cv (K := X.K) (O := O) c env (off_F w no) r
      have w1 : Wf O (upd H a (.frz od (.dK kvs))) F := w.lock
      refine lc_semS O _ σ F (fun R q' => hi O _ σ F r1 w1 a od kvs e1 no upd_same hk (RepL.cv c ds rl) R fun J wk => q' O _ J F wk r1 (Step.refl w1)) hr hb hz w1 _ fun O' H' v Fv F' rm rs st => ?_
      obtain ⟨e2, st2⟩ := Step.locked w rd no st
      have c2 := cv_unlock e2
      have no' : ¬ O' a := not_own st no upd_same
      exact ⟨e2, q O' _ v Fv F' (RepM.cv c2 _ (fun b o hb hbo => by rw [upd_ne (fun e => no' (by rw [← e]; exact st.wf.own b (List.mem_append_left _ hb)))]; exact hbo) rm) (RepS.cv c2 _ (fun b o hb hbo => by rw [upd_ne (fun e => no' (by rw [← e]; exact st.wf.own b (List.mem_append_right _ hb)))]; exact hbo) rs) st2⟩
    · exact ⟨_, pe_lc hc hN pi_w ok bg_ok bts_ok be_ok hs, lc_semS O H σ F (fun R q' => hi O H σ F r w a o kvs e1 no rd hk rl R fun J wk => q' O H J F wk r (Step.refl w)) hr hb hz w Q q⟩⟩
/-- what is granted is granted under a lock -/
theorem Grants.lock {D : Ends} {O : OW} {H : Hp} {σ : L2.St} {F : List Addr} {d : Addr} {kvs : List (Key × V)} {od : Obj} (w : Wf O H F) (hd : H d = some (.dK kvs)) (no : ¬ O d) : ∀ {out : Out}, Grants X out D O H env σ F →
    Grants X out ⟨fun σ' H' => H' d = some (.frz od (.dK kvs)) ∧ D.nx σ' (upd H' d (.dK kvs)), fun v H' => H' d = some (.frz od (.dK kvs)) ∧ D.rt v (upd H' d (.dK kvs)), fun σ' H' => H' d = some (.frz od (.dK kvs)) ∧ D.bk σ' (upd H' d (.dK kvs)), fun σ' H' => H' d = some (.frz od (.dK kvs)) ∧ D.ct σ' (upd H' d (.dK kvs))⟩ O (upd H d (.frz od (.dK kvs))) env σ F
  | .nx _, g => fun O' H' σ' F' r s p => by
    obtain ⟨e2, s2⟩ := Step.locked w hd no s
    have no' : ¬ O' d := not_own s no upd_same
    exact ⟨e2, g O' _ σ' F' (RepS.cv (cv_unlock e2) _ (off_F s.wf no') r) s2 p⟩
  | .bk _, g => fun O' H' σ' F' r s p => by
    obtain ⟨e2, s2⟩ := Step.locked w hd no s
    have no' : ¬ O' d := not_own s no upd_same
    exact ⟨e2, g O' _ σ' F' (RepS.cv (cv_unlock e2) _ (off_F s.wf no') r) s2 p⟩
  | .ct _, g => fun O' H' σ' F' r s p => by
    obtain ⟨e2, s2⟩ := Step.locked w hd no s
    have no' : ¬ O' d := not_own s no upd_same
    exact ⟨e2, g O' _ σ' F' (RepS.cv (cv_unlock e2) _ (off_F s.wf no') r) s2 p⟩
  | .rt _ _, g => fun O' H' σ' v Fv F' rm r s p => by
    obtain ⟨e2, s2⟩ := Step.locked w hd no s
    have no' : ¬ O' d := not_own s no upd_same
    exact ⟨e2, g O' _ σ' v Fv F' (RepM.cv (cv_unlock e2) _ (fun b o hb hbo => by rw [upd_ne (fun e => no' (by rw [← e]; exact s.wf.own b (List.mem_append_left _ hb)))]; exact hbo) rm) (RepS.cv (cv_unlock e2) _ (fun b o hb hbo => by rw [upd_ne (fun e => no' (by rw [← e]; exact s.wf.own b (List.mem_append_right _ hb)))]; exact hbo) r) s2 p⟩
theorem x1_forD (i : Nat) (h : env[i]? = some (vl (.dK ks ds))) (hi : LIv X tg it env ys i ks ds) (hr : ForR X tg body ys env out) (hp : PassesOwn (model X.prog X.w) X.A X.env X.xe := by exact PassesOwn.never) (hc : X.calm = true := by rfl) (hs : ∀ x, foldedSetIterable it X.env x = pure x := by intro _; rfl) :
    Ex1 X (.For tg it body [] pos) env out := fun O H σ F r w D g => by
  obtain ⟨v, F1, Fi, F2, e1, ef, ⟨_, a, kvs, rfl, no, rd, hk, rl⟩, _, _⟩ := RepS.at r h
  rcases rd with rd | ⟨o, rd⟩
  · refine ⟨_, ps_lock (ps_for hp hc pi_w pg_w pss_w hs), a, .dK kvs, rd, trivial, fun od => ?_⟩
    have c := cv_lock (od := od) rd
    have r1 := RepS.cv (K := X.K) (O := O) c env (off_F w no) r
    have w1 : Wf O (upd H a (.frz od (.dK kvs))) F := w.lock
    exact for_semS (Io.refl env) (fun R q' => hi O _ σ F r1 w1 a od kvs e1 no upd_same hk (RepL.cv c ds rl) R fun J wk => q' O _ J F wk r1 (Step.refl w1)) hr w1 (g.lock w rd no)
  · exact ⟨_, ps_for hp hc pi_w pg_w pss_w hs, for_semS (Io.refl env) (fun R q' => hi O H σ F r w a o kvs e1 no rd hk rl R fun J wk => q' O H J F wk r (Step.refl w)) hr w g⟩
end

/-! ### a look at an owned dict: the expression sees it frozen -/
mutual
def flat : M → Bool
  | .val .none => true | .val (.bool _) => true | .val (.int _) => true | .val (.str _) => true
  | .val _ => false
  | .lst ms => flatL ms
  | .dK _ _ => false | .dT _ _ => false | .ins _ _ _ => false | .tup _ => false
def flatL : List M → Bool
  | [] => true
  | m :: ms => flat m && flatL ms
end
section
variable {K : PySem.W.Frag} {O O' : OW} {H : Hp}
mutual
theorem RepM.flat : ∀ (m : M) {v : V} {F : List Addr}, Lin.flat m = true → RepM K O H m v F → RepM K O' H m v F
  | .val .none, _, _, _, h => h
  | .val (.bool _), _, _, _, h => h
  | .val (.int _), _, _, _, h => h
  | .val (.str _), _, _, _, h => h
  | .val (.tup _), _, _, hf, _ => by cases hf
  | .val (.lst _), _, _, hf, _ => by cases hf
  | .val (.dK _ _), _, _, hf, _ => by cases hf
  | .val (.dT _ _), _, _, hf, _ => by cases hf
  | .val (.ins _ _ _), _, _, hf, _ => by cases hf
  | .val (.scr _), _, _, hf, _ => by cases hf
  | .val (.adr _), _, _, hf, _ => by cases hf
  | .val (.kt _), _, _, hf, _ => by cases hf
  | .val (.xt _), _, _, hf, _ => by cases hf
  | .val (.exc _ _ _), _, _, hf, _ => by cases hf
  | .lst ms, _, _, hf, ⟨a, xs, F', e, ef, h, r⟩ => ⟨a, xs, F', e, ef, h, RepML.flat ms hf r⟩
  | .dK _ _, _, _, hf, _ => by cases hf
  | .dT _ _, _, _, hf, _ => by cases hf
  | .ins _ _ _, _, _, hf, _ => by cases hf
  | .tup _, _, _, hf, _ => by cases hf
theorem RepML.flat : ∀ (ms : List M) {vs : List V} {F : List Addr}, Lin.flatL ms = true → RepML K O H ms vs F → RepML K O' H ms vs F
  | [], _, _, _, h => h
  | m :: ms, _, _, hf, ⟨v, vs, F1, F2, e, ef, p, q⟩ => by
    have hf := Bool.and_eq_true_iff.mp (show (Lin.flat m && Lin.flatL ms) = true from hf)
    exact ⟨v, vs, F1, F2, e, ef, RepM.flat m hf.1 p, RepML.flat ms hf.2 q⟩
end
/-- the slots that hold data alone -/
def strip : Sls → Sls
  | [] => []
  | some (.own (.val d)) :: es => vl d :: strip es
  | _ :: es => none :: strip es
theorem RepS.strip : ∀ {es : Sls} {σ : L2.St} {F : List Addr}, RepS K O H es σ F → RepS K O H (Lin.strip es) σ []
  | [], _, _, ⟨e, _⟩ => ⟨e, rfl⟩
  | none :: es, _, _, ⟨o, σ', e, r⟩ => ⟨o, σ', e, r.strip⟩
  | some (.own (.val d)) :: es, _, _, ⟨v, σ', F1, F2, e, ef, p, r⟩ => ⟨v, σ', [], [], e, rfl, ⟨rfl, p.2⟩, r.strip⟩
  | some (.own (.lst _)) :: es, _, _, ⟨v, σ', F1, F2, e, ef, p, r⟩ => ⟨some v, σ', e, r.strip⟩
  | some (.own (.dK _ _)) :: es, _, _, ⟨v, σ', F1, F2, e, ef, p, r⟩ => ⟨some v, σ', e, r.strip⟩
  | some (.own (.dT _ _)) :: es, _, _, ⟨v, σ', F1, F2, e, ef, p, r⟩ => ⟨some v, σ', e, r.strip⟩
  | some (.own (.ins _ _ _)) :: es, _, _, ⟨v, σ', F1, F2, e, ef, p, r⟩ => ⟨some v, σ', e, r.strip⟩
  | some (.own (.tup _)) :: es, _, _, ⟨v, σ', F1, F2, e, ef, p, r⟩ => ⟨some v, σ', e, r.strip⟩
  | some (.io _) :: es, _, _, ⟨v, σ', F1, F2, e, ef, p, r⟩ => ⟨some v, σ', e, r.strip⟩
theorem strip_len : ∀ es : Sls, (Lin.strip es).length = es.length
  | [] => rfl
  | none :: es => by show (Lin.strip es).length + 1 = _; rw [strip_len es]; rfl
  | some (.own (.val d)) :: es => by show (Lin.strip es).length + 1 = _; rw [strip_len es]; rfl
  | some (.own (.lst _)) :: es => by show (Lin.strip es).length + 1 = _; rw [strip_len es]; rfl
  | some (.own (.dK _ _)) :: es => by show (Lin.strip es).length + 1 = _; rw [strip_len es]; rfl
  | some (.own (.dT _ _)) :: es => by show (Lin.strip es).length + 1 = _; rw [strip_len es]; rfl
  | some (.own (.ins _ _ _)) :: es => by show (Lin.strip es).length + 1 = _; rw [strip_len es]; rfl
  | some (.own (.tup _)) :: es => by show (Lin.strip es).length + 1 = _; rw [strip_len es]; rfl
  | some (.io _) :: es => by show (Lin.strip es).length + 1 = _; rw [strip_len es]; rfl
theorem repL_vals : ∀ {ds : List D} {vs : List V} {F : List Addr}, RepML K O H (ds.map M.val) vs F → RepL K O H ds vs
  | [], _, _, ⟨h, _⟩ => h
  | d :: ds, _, _, ⟨v, vs, F1, F2, e, ef, p, q⟩ => ⟨v, vs, e, p.2, repL_vals q⟩
end
section
variable {X : Cx} {env : Sls} {e : Expr} {m : M} {ks : List Key} {ds : List D} {s : Sl}
theorem look_sem (i : Nat) (hi : env[i]? = some (some s)) (hm : s.m = .dK ks (ds.map M.val)) {O : OW} {H : Hp} {σ : L2.St} {F : List Addr} (r : RepS X.K O H env σ F) (w : Wf O H F) :
    ∃ O1 : OW, Wf O1 H [] ∧ RepS X.K O1 H ((strip env).set i (vl (.dK ks ds))) σ [] ∧ ∀ (O' : OW) (H' : Hp) (v : V) (Fv F' : List Addr), flat m = true → RepM X.K O' H' m v Fv → Step O1 H [] O' H' (Fv ++ F') →
      ∃ O2 : OW, RepM X.K O2 H' m v Fv ∧ RepS X.K O2 H' env σ F ∧ Step O H F O2 H' (Fv ++ F) := by
  obtain ⟨v, F1, Fi, F2, e1, ef, p, _, _⟩ := RepS.at r hi
  rw [hm] at p
  obtain ⟨a, kvs, F0, ev, efi, hp, hk, rl⟩ := p
  subst ev
  have inF : a ∈ F := by rw [ef, efi]; exact List.mem_append_right _ (List.mem_append_left _ (List.mem_cons_self ..))
  have less : ∀ b, (O b ∧ b ≠ a) → O b := fun b h => h.1
  refine ⟨fun b => O b ∧ b ≠ a, ⟨List.nodup_nil, (fun _ h => nomatch h), fun b h => w.dom b h.1, fun b u h => w.nt b u h.1⟩, ?_, fun O' H' v Fv F' hf rm st => ?_⟩
  · have rs : RepS X.K (fun b => O b ∧ b ≠ a) H (strip env) σ [] := RepS.keep (K := X.K) (O := O) (H := H) (fun _ _ h _ => h) (fun b h => .inl h.1) _ (fun _ _ _ h => h) r.strip
    have hl : i < (strip env).length := by rw [strip_len]; exact (List.getElem?_eq_some_iff.mp hi).1
    obtain ⟨G1, G2, Gi, eg, q1, k1⟩ := RepS.drop i (some (.ref a)) hl rs
    have z := k1 (.ref a) (.own (.val (.dK ks ds))) [] ⟨rfl, a, kvs, rfl, (fun z => z.2 rfl), .inl hp, hk, RepL.less less ds (repL_vals rl)⟩
    rw [set_same e1] at z
    have e0 : G1 = [] ∧ G2 = [] := by
      have := congrArg List.length eg
      simp only [List.length_nil, List.length_append] at this
      exact ⟨List.length_eq_zero_iff.mp (by omega), List.length_eq_zero_iff.mp (by omega)⟩
    rw [e0.1, e0.2] at z
    exact z
  · have fr : ∀ b o, H b = some o → H' b = some o := fun b o h => st.frame b o h (by simp)
    have stv := st.wf.left
    refine ⟨fun b => O b ∨ O' b, RepM.flat m hf rm, RepS.keep (K := X.K) (O := O) (H := H) (fun b o h _ => fr b o h) (fun b h => ?_) env (fun b o _ h => fr b o h) r, ⟨fun b o h _ => fr b o h, fun b h => ?_, fun b h _ => .inl h, fun b h => ?_, ?_, fun b h => ?_, fun b h => ?_, fun b u h z => ?_⟩⟩
    · rcases h with h | h
      · exact .inl h
      · rcases st.nw b h with z | z
        · exact .inl z.1
        · exact .inr z
    · rcases (show O b ∨ O' b from h) with h | h
      · exact .inl h
      · rcases st.nw b h with z | z
        · exact .inl z.1
        · exact .inr z
    · rcases List.mem_append.mp h with h | h
      · rcases st.fp b (List.mem_append_left _ h) with z | z
        · exact absurd z (by simp)
        · exact .inr z
      · exact .inl h
    · refine List.nodup_append.mpr ⟨stv.nd, w.nd, fun b hb c hc e => ?_⟩
      subst e
      rcases st.fp b (List.mem_append_left _ hb) with z | z
      · exact absurd z (by simp)
      · obtain ⟨o, q⟩ := w.dom b (w.own b hc)
        rw [z] at q; cases q
    · rcases List.mem_append.mp h with h | h
      · exact Or.inr (stv.own b h)
      · exact Or.inl (w.own b h)
    · rcases (show O b ∨ O' b from h) with h | h
      · obtain ⟨o, q⟩ := w.dom b h
        exact ⟨o, fr b o q⟩
      · exact st.wf.dom b h
    · rcases (show O b ∨ O' b from h) with h | h
      · obtain ⟨o, q⟩ := w.dom b h
        rw [fr b o q] at z
        cases z
        exact w.nt b _ h q
      · exact st.wf.nt b u h z
theorem ev_look (i : Nat) (hi : env[i]? = some (some s)) (hm : s.m = .dK ks (ds.map M.val)) {envr : Sls} (he : envr = (strip env).set i (vl (.dK ks ds))) {env2 : Sls} (h : Ev X e envr m env2) (hf : flat m = true) : Ev X e env m env := by
  subst he
  refine ⟨Io.refl _, fun O H σ F r w Q q => ?_⟩
  obtain ⟨O1, w1, r1, k⟩ := look_sem (m := m) i hi hm r w
  refine h.2 O1 H σ [] r1 w1 Q fun O' H' v Fv F' rm rs st => ?_
  obtain ⟨O2, rm2, rs2, st2⟩ := k O' H' v Fv F' hf rm st
  exact q O2 H' v Fv F rm2 rs2 st2
theorem tv_look {b : Bool} (i : Nat) (hi : env[i]? = some (some s)) (hm : s.m = .dK ks (ds.map M.val)) {envr : Sls} (he : envr = (strip env).set i (vl (.dK ks ds))) {env2 : Sls} (h : Tv X e envr b env2) : Tv X e env b env := by
  subst he
  refine ⟨Io.refl _, fun O H σ F r w Q q => ?_⟩
  obtain ⟨O1, w1, r1, k⟩ := look_sem (m := .val .none) i hi hm r w
  refine h.2 O1 H σ [] r1 w1 Q fun O' H' F' rs st => ?_
  obtain ⟨O2, rm2, rs2, st2⟩ := k O' H' .non [] F' rfl ⟨rfl, rfl⟩ st
  exact q O2 H' F rs2 st2
end
end Lin

end

section
namespace Lin
open PySem PySem.Spec PyProof.Rows L2

/-! ### dicts that a name owns -/
abbrev KD := List (Key × D)
def dkM (kvs : KD) : M := .dK (kvs.map (·.1)) ((kvs.map (·.2)).map M.val)
def dkD (kvs : KD) : D := .dK (kvs.map (·.1)) (kvs.map (·.2))
theorem frz_dkM (kvs : KD) : frz (dkM kvs) = dkD kvs := frz_dK
section
variable {X : Cx} {env env1 env2 : Sls} {a b c e f : Expr} {es : List Expr} {pos p p' pos' apos cpos : Pos} {d x y : D} {m : M} {ds : List D} {kvs : KD} {k : Key} {n : Str} {s : Sl} {K : PySem.W.Frag} {O : OW} {H : Hp}
theorem ev_newK : Ev X (.Dict [] [] pos) env (dkM []) env := ⟨Io.refl _, fun O H σ F r w Q q => ⟨_, pe_dnewK, fun p hp => by
  have s0 : Step O H [] (fun a => O a ∨ a = p) (upd H p (.dK [])) [p] := Step.new (G := []) w.nil hp
  exact q _ _ (.ref p) [p] F ⟨p, [], [], rfl, rfl, upd_same, rfl, rfl, rfl⟩ (r.quiet s0) (s0.quiet w)⟩⟩
/-- x[k] = e of an owned dict -/
theorem x1_setK (i : Nat) (he : Ev X e env (.val d) env1) (hb : Ev X b env1 (.val (kD k)) env2) (hi : env2[i]? = some (some s)) (hm : s.m = dkM kvs) (hz : kvs.length < sizeLine) (hu : X.A.units + 1 < cLine) (hse : ∃ t, env1[i]? = some (some t) := by exact ⟨_, rfl⟩) (hN : X.N[i]? = some n := by rfl) (hv : Vis X.env.scope n := by first | exact Or.inl rfl | exact Or.inr (Or.inl rfl) | exact Or.inr (Or.inr rfl))
    (hd : (n == ("__debug__" : Str)) = false := by decide) (hcd : (n == ("__classdict__" : Str)) = false := by decide) (hs : swapsWithSole [.Subscript (.Name n p) b pos'] e pos.line X.env = pure false := by rfl) (hw : swappedStores [.Subscript (.Name n p) b pos'] e X.env = pure none := by rfl)
    (hasg : ∀ v, assign (.Subscript (.Name n p) b pos') X.env v = (do let ov ← holding [v] (eval (.Name n p) X.env); let iv ← holding [v, ov] (eval b X.env); standAt pos'; holding [v, ov, iv] (setItem ov iv v); release [v, ov, iv] []) := by intro _; rfl) :
    Ex1 X (.Assign [.Subscript (.Name n p) b pos'] e pos) env (.nx (env2.set i (some (s.put (dkM (putD kvs k d)))))) := fun O H σ F r w D g =>
  ⟨_, ps_asg pe_w (pg_sub (pe_var hN hv hd hcd) pe_w (set_dict hu) hasg) hs hw, he.2 O H σ F r w _ fun O1 H1 u Fu G ⟨eu, ru⟩ r1 s1 => by
    subst eu
    obtain ⟨t, ht⟩ := hse
    obtain ⟨v, F1, Fi, F2, e1, ef, _, _, _⟩ := RepS.at r1 ht
    refine ⟨v, e1, hb.2 O1 H1 σ G r1 s1.wf _ fun O2 H2 u2 Fu2 G' ⟨eu2, ru2⟩ r2 s2 => ?_⟩
    subst eu2
    have ek := rep_kD ru2
    subst ek
    have w2 : Wf O2 H2 ([] ++ G') := s2.wf
    obtain ⟨v', Fi', e2, rm, kk⟩ := slot_upd r2 hi w2
    have ev : v' = v := by rw [e1] at e2; exact (Option.some.inj (Option.some.inj e2)).symm
    subst ev
    rw [hm] at rm
    obtain ⟨l, kv, F', el, ef', hp, hk, rl⟩ := rm
    obtain ⟨ol, nl, k2⟩ := kk l F' ef'
    have eF : F' = [] := by
      have z : ∀ (ds : List Lin.D) {vs : List V} {F : List Addr}, RepML X.K O2 H2 (ds.map M.val) vs F → F = [] := fun ds => by
        induction ds with
        | nil => exact fun h => h.2
        | cons d ds ih =>
          rintro vs F ⟨v, vs', G1, G2, _, eg, p, q⟩
          rw [eg, p.1, ih q]; rfl
      exact z _ rl
    subst eF
    have rl2 := repL_vals rl
    have hl : kv.length = kvs.length := by
      have := congrArg List.length hk
      rw [List.length_map, List.length_map] at this
      exact this
    have kf : ∀ a o, H2 a = some o → ¬ O2 a → upd H2 l (.dK (putK kv k u)) a = some o := fun a o h n => by rw [upd_ne (fun e => n (by rw [e]; exact ol))]; exact h
    obtain ⟨F2', rs2, s3, _⟩ := k2 (.dK (putK kv k u)) (dkM (putD kvs k d)) [] [] [] (by simp) ⟨l, _, [], el, rfl, upd_same, putD_keys hk, repML_val _ (RepL.keep kf (fun a h => .inl h) _ (putD_rep hk (s2.rep s1.wf ru) rl2))⟩
    exact ⟨l, _, el, .inl ⟨kv, k, hp, rfl, by omega, rfl⟩, g O2 _ σ F2' rs2 ((s1.trans w s2).trans w s3) (Pins.of (he.1.trans (hb.1.trans (Io.put hi))))⟩⟩
/-- d.get(k) -/
theorem ev_get {ks : List Key} (ha : Ev X a env (.val (.dK ks ds)) env1) (hb : Ev X b env1 (.val (kD k)) env2) (hu : X.A.units + 1 < cLine) (m1 : M1 X a "get" apos b cpos := by exact ⟨rfl, rfl, rfl, rfl⟩) : Ev X (.Call (.Attribute a "get" apos) [b] [] cpos) env (.val ((getD ks ds k).getD .none)) env2 :=
  ⟨ha.1.trans hb.1, fun O H σ F rs w Q q => ⟨_, pe_dget1 hu pe_w pe_w m1, ha.2 O H σ F rs w _ fun O1 H1 u Fu F1 ⟨eu, ru⟩ r1 s1 => by
    subst eu
    obtain ⟨a', kv, ea, no, hp, hks, rl⟩ := id ru
    refine ⟨a', ea, .inl ⟨kv, hp⟩, hb.2 O1 H1 σ F1 r1 s1.wf _ fun O2 H2 v Fv F2 ⟨ev, rv⟩ r2 s2 => ?_⟩
    subst ev
    have ek := rep_kD rv
    subst ek
    obtain ⟨a2, kv2, ea2, no2, hp2, hks2, rl2⟩ := s2.rep s1.wf ru
    rw [ea] at ea2; cases ea2
    refine ⟨valV kv2 k, .inl ⟨kv2, k, hp2, rfl, rfl⟩, ?_⟩
    rcases rep_val (k := k) hks2 rl2 with ⟨d', v', h1, h2, h3⟩ | ⟨h1, h2⟩
    · rw [h2]
      rw [h1] at q
      exact q O2 H2 v' [] F2 ⟨rfl, h3⟩ r2 (s1.trans w s2)
    · rw [h2]
      rw [h1] at q
      exact q O2 H2 .non [] F2 ⟨rfl, rfl⟩ r2 (s1.trans w s2)⟩⟩
/-- d.get(k, x) -/
theorem ev_get2 {ks : List Key} {z : D} (ha : Ev X a env (.val (.dK ks ds)) env1) (hb : Ev X b env1 (.val (kD k)) env2) (hf : Ev X f env2 (.val z) env2) (hu : X.A.units + 1 < cLine) (m2 : M2 X a "get" apos b f cpos := by exact ⟨rfl, rfl, rfl, rfl⟩) : Ev X (.Call (.Attribute a "get" apos) [b, f] [] cpos) env (.val ((getD ks ds k).getD z)) env2 :=
  ⟨ha.1.trans hb.1, fun O H σ F rs w Q q => ⟨_, pe_dget2 hu pe_w pe_w pe_w m2, ha.2 O H σ F rs w _ fun O1 H1 u Fu F1 ⟨eu, ru⟩ r1 s1 => by
    subst eu
    obtain ⟨a', kv, ea, no, hp, hks, rl⟩ := id ru
    refine ⟨a', ea, .inl ⟨kv, hp⟩, hb.2 O1 H1 σ F1 r1 s1.wf _ fun O2 H2 v Fv F2 ⟨ev, rv⟩ r2 s2 => hf.2 O2 H2 σ F2 r2 s2.wf.right _ fun O3 H3 y Fy F3 ⟨ey, ry⟩ r3 s3 => ?_⟩
    subst ev ey
    have ek := rep_kD rv
    subst ek
    obtain ⟨a2, kv2, ea2, no2, hp2, hks2, rl2⟩ := s3.rep s2.wf (s2.rep s1.wf ru)
    rw [ea] at ea2; cases ea2
    refine ⟨valV kv2 k, .inl ⟨kv2, k, hp2, rfl, rfl⟩, ?_⟩
    rcases rep_val (k := k) hks2 rl2 with ⟨d', v', h1, h2, h3⟩ | ⟨h1, h2⟩
    · rw [h2]
      rw [h1] at q
      exact q O3 H3 v' [] F3 ⟨rfl, h3⟩ r3 ((s1.trans w s2).trans w s3)
    · rw [h2]
      rw [h1] at q
      exact q O3 H3 y [] F3 ⟨rfl, ry⟩ r3 ((s1.trans w s2).trans w s3)⟩⟩
theorem repL_keys : ∀ (kv : List (Key × V)), RepL K O H ((kv.map (·.1)).map kD) (kv.map fun kv => kV kv.1)
  | [] => rfl
  | x :: kv => ⟨_, _, rfl, rep_key, repL_keys kv⟩
/-- list(d): its keys -/
theorem ev_listK {ks : List Key} (ha : Ev X e env (.val (.dK ks ds)) env1) (hm : X.mg "list" = none := by assumption) (hc : X.calm = true := by rfl) (hg : Gl X "list" := by rfl) (he : starEach [e] X.env = (false, eval e X.env) :: starEach [] X.env := by rfl) (hpl : (backTo pos (starEach [] X.env)).any (·.1) = false := by rfl) : Ev X (.Call (.Name "list" p) [e] [] pos) env (.lst ((ks.map kD).map M.val)) env1 :=
  ev_cty (ds := [.dK ks ds]) (call_listD hc) (rf_new fun O H vs ⟨u, us, e, ⟨a, kv, hu, _, hp, hk, rl⟩, hn⟩ => ⟨kv.map fun kv => kV kv.1, by subst hk; exact repL_keys kv, fun Q q => ⟨a, kv, by rw [e, hu, show us = [] from hn], hp, q⟩⟩) (ea_cons ha ea_nil he) hm (by decide +kernel) hg (by decide) (by decide) he hpl
end
end Lin

end

section
namespace Lin
open PySem PySem.Spec PyProof.Rows L2
section
variable {X : Cx} {env env1 env2 env3 : Sls} {a b c e f : Expr} {es : List Expr} {pos p p' pos' apos cpos : Pos} {d x y : D} {m : M} {ms : List M} {ds : List D} {n : Str} {s : Sl} {K : PySem.W.Frag} {O : OW} {H : Hp} {i j : Int} {k : Bool}
/-- a constant of the module -/
theorem pu_glob {t : Tok} (hm : X.mg n = some (.int i t)) (hg : Gl X n := by rfl) (hd : (n == ("__debug__" : Str)) = false := by decide) : Pu X (.Name n pos) env (.val (.int i)) := pu_const (pe_glob (v := .int i) hg hm ⟨t, rfl⟩ hd) fun _ _ _ => rfl
/-- an owned list's name as a test -/
theorem tv_truO (i : Nat) (hi : env[i]? = some (some s)) (hm : s.m = .lst ms := by rfl) (hN : X.N[i]? = some n := by rfl) (hv : Vis X.env.scope n := by first | exact Or.inl rfl | exact Or.inr (Or.inl rfl) | exact Or.inr (Or.inr rfl)) (hd : (n == ("__debug__" : Str)) = false := by decide) (hcd : (n == ("__classdict__" : Str)) = false := by decide) : Tv X (.Name n p) env (!ms.isEmpty) env :=
  ⟨Io.refl _, fun O H σ F r w Q q => ⟨_, pt_truth (pe_var hN hv hd hcd) (by intro _; rfl), by
    obtain ⟨v, F1, Fi, F2, e1, ef, rm, _, _⟩ := RepS.at r hi
    rw [hm] at rm
    obtain ⟨l, xs, F', el, _, hp, rl⟩ := rm
    subst el
    have e : (!ms.isEmpty) = !xs.isEmpty := by
      have hl := rl.len
      cases ms <;> cases xs <;> simp_all
    exact ⟨.ref l, e1, _, .inl ⟨xs, .inl (.inl hp), e⟩, q O H F r (Step.refl w)⟩⟩⟩
theorem RepML.unsnoc : ∀ {ms : List M} {xs : List V} {F : List Addr}, RepML K O H (ms ++ [m]) xs F → ∃ xs0 y F0 Fy, xs = xs0 ++ [y] ∧ F = F0 ++ Fy ∧ RepML K O H ms xs0 F0 ∧ RepM K O H m y Fy
  | [], _, _, ⟨v, vs, F1, F2, e, ef, p, q1, q2⟩ => ⟨[], v, [], F1, by rw [e, q1]; rfl, by rw [ef, q2]; simp, ⟨rfl, rfl⟩, p⟩
  | m' :: ms, _, _, ⟨v, vs, F1, F2, e, ef, p, q⟩ => by
    obtain ⟨xs0, y, F0, Fy, h1, h2, h3, h4⟩ := RepML.unsnoc q
    exact ⟨v :: xs0, y, F1 ++ F0, Fy, by rw [e, h1]; rfl, by rw [ef, h2, List.append_assoc], ⟨v, xs0, F1, F0, rfl, rfl, p, h3⟩, h4⟩
/-- x.pop() of an owned list -/
theorem ev_pop0 (i : Nat) (hi : env[i]? = some (some s)) (hm : s.m = .lst (ms ++ [m])) (hN : X.N[i]? = some n := by rfl) (hv : Vis X.env.scope n := by first | exact Or.inl rfl | exact Or.inr (Or.inl rfl) | exact Or.inr (Or.inr rfl)) (hd : (n == ("__debug__" : Str)) = false := by decide) (hcd : (n == ("__classdict__" : Str)) = false := by decide)
    (hbase : attributeBase (.Name n p) "pop" X.env (eval (.Name n p) X.env) = eval (.Name n p) X.env := by rfl) (hline : (apos.endLine == cpos.line) = true := by rfl) : Ev X (.Call (.Attribute (.Name n p) "pop" apos) [] [] cpos) env m (env.set i (some (s.put (.lst ms)))) :=
  ⟨Io.put hi, fun O H σ F r w Q q => ⟨_, pe_bm0 PySem.F.plainAttrs_list PySem.F.slot_list_pop PySem.F.type_list_pop mt_pop (pe_var hN hv hd hcd) hbase hline, by
    have w2 : Wf O H ([] ++ F) := w
    obtain ⟨v, Fi, e1, rm, kk⟩ := slot_upd r hi w2
    rw [hm] at rm
    obtain ⟨l, xs, F', el, ef, hp, rl⟩ := rm
    obtain ⟨xs0, y, F0, Fy, h1, h2, h3, h4⟩ := rl.unsnoc
    obtain ⟨ol, nl, k2⟩ := kk l F' ef
    subst h1 h2
    have n0 : l ∉ F0 := fun z => nl (by simp [z])
    obtain ⟨F2', rs2, s2, kp⟩ := k2 (.lst xs0) (.lst ms) F0 Fy [] (by simp) ⟨l, xs0, F0, el, rfl, upd_same, h3.updK n0 ol⟩
    refine ⟨v, e1, by rw [el]; exact .inl ⟨rfl, _, .inl (.inl hp)⟩, l, xs0 ++ [y], y, el, rfl, hp, by simp, ?_⟩
    rw [List.dropLast_concat]
    exact q O _ y Fy F2' (kp m y h4) rs2 s2⟩⟩
end
/-! ### extend by a tuple -/
section
variable {prog : Program} {w : World} {A : Around} {E : Value → Shared → Prop} {s : Shared}
theorem grow_by {l t : Addr} {vs ws : List Value} {nn : Nat} {P : PySem.Fin → Shared → Prop} (hl : s.heap.get? l = some { cls := .type "list", data := .seq vs.toArray nn }) (ht : IsTup s.heap t ws.toArray) (hz : vs.length + ws.length ≤ sizeLine)
    (k : P (.done (.ret .none)) { s with heap := s.heap.update l (Obj.mapSeq (· ++ ws.toArray)) }) : wpAny (model prog w) A (Builtin.List.listExtendWith (.ref l) (.ref t) .none) P E s := by
  obtain ⟨o, ho, hc, n, hd⟩ := ht
  unfold Builtin.List.listExtendWith
  refine wpAny_bind (wpAny_typeOf ⟨o, ho, hc⟩ ?_)
  have c1 : (Builtin.List.listSameRef (.ref l) (.ref t) || Value.type "tuple" == Value.type "list" || Value.type "tuple" == Value.type "tuple") = true := by simp
  rw [if_pos c1]
  refine wpAny_bind ?_
  unfold Builtin.List.listItems
  refine wpAny_bind (wpAny_seqItems ho hd (wpAny_pure (wpAny_bind (wpAny_bind (wpAny_seqItems hl rfl (wpAny_pure ?_))))))
  have c2 : ¬ (!vs.toArray.isEmpty && Builtin.List.listTooLong (vs.toArray.size + ws.toArray.size)) = true := by
    rw [notLongL (by simpa using hz), Bool.and_false]
    exact Bool.false_ne_true
  rw [if_neg c2]
  change wpAny (model prog w) A (updateSeq l (· ++ ws.toArray) >>= fun _ => ret .none) _ _ s
  exact wpAny_bind (wpAny_updateSeq hl rfl (wpAny_pure k) (by simp only [List.size_toArray]; omega) (by simp only [Array.size_append, List.size_toArray]; omega))
end
def rGrowT (K : PySem.W.Frag) : V → List V → Hp → VK → Prop := fun x vs H Q => ∃ l b xs zs, x = .ref l ∧ vs = [.ref b] ∧ H l = some (.lst xs) ∧ SqT K H b zs ∧ xs.length + zs.length ≤ sizeLine ∧ Q .non (upd H l (.lst (xs ++ zs)))
theorem mt_growT {X : Cx} : MtM X "list.extend" (rGrowT X.K) := by
  intro pins s σ H x vs v us Q I rx rv h
  obtain ⟨l, b, xs, zs, rfl, rfl, hH, hB, hz, q⟩ := h
  cases rx
  obtain ⟨u, rfl, ru⟩ := rv.one
  cases ru
  obtain ⟨z, its, nn, r, hl, e⟩ := I.lstM hH
  obtain ⟨its2, r2, ht, z2⟩ := I.tuple hB
  refine wpAny_call_entry F.slot_list_extend ⟨_, e, rfl⟩ F.entry_list_extend ?_ (F.args_list_extend_2 _ _)
  change wpAny _ _ (Builtin.List.listExtendWith (.ref l) (.ref b) .none) _ _ s
  refine grow_by e ht (by rw [← hl, ← r2.length]; exact hz) ⟨_, rfl, .non, _, I.lset (its' := its ++ its2) (t' := s.toks) hH e (by simp) (r.append r2) (by rw [List.length_append]; exact hz), rfl, q⟩
section
variable {X : Cx} {env env1 env2 env3 : Sls} {a b c e f : Expr} {es : List Expr} {pos p p' pos' apos cpos : Pos} {d x y : D} {m : M} {ms : List M} {ds : List D} {n : Str} {s : Sl} {K : PySem.W.Frag} {O : OW} {H : Hp} {i j : Int} {k : Bool}
theorem ev_growT (i : Nat) (ha : Ev X e env (.val (.tup ds)) env1) (hi : env1[i]? = some (some s)) (hm : s.m = .lst ms) (hz : ms.length + ds.length ≤ sizeLine) (hse : ∃ t ms0, env[i]? = some (some t) ∧ t.m = .lst ms0 := by exact ⟨_, _, rfl, rfl⟩) (hN : X.N[i]? = some n := by rfl) (hv : Vis X.env.scope n := by first | exact Or.inl rfl | exact Or.inr (Or.inl rfl) | exact Or.inr (Or.inr rfl))
    (hd : (n == ("__debug__" : Str)) = false := by decide) (hcd : (n == ("__classdict__" : Str)) = false := by decide)
    (hbase : attributeBase (.Name n p) "extend" X.env (eval (.Name n p) X.env) = eval (.Name n p) X.env := by rfl)
    (hfew : ((backTo cpos (starEach [e] X.env)).all (fun x => !x.1) && (backToKw cpos (keywordEach [] X.env)).all (fun x => x.1.isSome)
      && decide ([e].length + ([] : List Keyword).length + (if ([] : List Keyword).isEmpty then 0 else 1) < 30)) = true := by rfl)
    (hline : (apos.endLine == cpos.line) = true := by rfl) (hs : starEach [e] X.env = (false, eval e X.env) :: starEach [] X.env := by rfl) (hplain : (backTo cpos (starEach [] X.env)).any (·.1) = false := by rfl) :
    Ev X (.Call (.Attribute (.Name n p) "extend" apos) [e] [] cpos) env (.val .none) (env1.set i (some (s.put (.lst (ms ++ ds.map M.val))))) :=
  ⟨ha.1.trans (Io.put hi), fun O H σ F r w Q q => ⟨_, pe_bm PySem.F.plainAttrs_list PySem.F.slot_list_extend PySem.F.type_list_extend mt_growT (pe_var hN hv hd hcd) (pa_cons pe_w pa_nil hs) hbase hfew hline hs hplain, by
    obtain ⟨t, ms0, ht, hm0⟩ := hse
    obtain ⟨v, F1, Fi, F2, e1, ef, rm0, _, _⟩ := RepS.at r ht
    rw [hm0] at rm0
    obtain ⟨l0, xs0, F0, el0, _, hp0, _⟩ := rm0
    refine ⟨v, e1, by rw [el0]; exact .inl ⟨rfl, _, .inl (.inl hp0)⟩, ha.2 O H σ F r w _ fun O1 H1 u Fu G ⟨eu, ru⟩ r1 s1 => ?_⟩
    subst eu
    obtain ⟨a', zs, ea, ta, rl2⟩ := ru
    have w1 : Wf O1 H1 ([] ++ G) := s1.wf
    obtain ⟨v', Fi', e2, rm, kk⟩ := slot_upd r1 hi w1
    have ev : v' = v := by rw [e1] at e2; exact (Option.some.inj (Option.some.inj e2)).symm
    subst ev
    rw [hm] at rm
    obtain ⟨l, xs, F', el, ef', hp, rl⟩ := rm
    obtain ⟨ol, nl, k2⟩ := kk l F' ef'
    have nl1 : l ∉ F' := fun z => nl (List.mem_append_right _ z)
    have kf : ∀ a o, H1 a = some o → ¬ O1 a → upd H1 l (.lst (xs ++ zs)) a = some o := fun a o h n => by rw [upd_ne (fun e => n (by rw [e]; exact ol))]; exact h
    obtain ⟨F2', rs2, s2, _⟩ := k2 (.lst (xs ++ zs)) (.lst (ms ++ ds.map M.val)) F' [] [] (by simp) ⟨l, xs ++ zs, F', el, rfl, upd_same, by
      have z := (rl.updK (o := .lst (xs ++ zs)) nl1 ol).app (repML_val ds (RepL.keep kf (fun a h => .inl h) ds rl2))
      rw [List.append_nil] at z
      exact z⟩
    exact ⟨l, a', xs, zs, el, by rw [ea], hp, TupAt.sq ta, by rw [rl.len, rl2.len]; exact hz, q O1 _ .non [] F2' ⟨rfl, rfl⟩ rs2 (s1.trans w s2)⟩⟩⟩
/-- a <= b <= c of ints -/
theorem ev_chLE {l : Int} (ha : Ev X a env (.val (.int l)) env1) (hb : Ev X b env1 (.val (.int i)) env2) (hc : Ev X c env2 (.val (.int j)) env2) (hm : lastMarks [CmpOp.LtE, CmpOp.LtE] [b, c] = false := by with_unfolding_all rfl) : Ev X (.Compare a [.LtE, .LtE] [b, c] pos) env (.val (.bool (decide (l ≤ i) && decide (i ≤ j)))) env2 :=
  ⟨ha.1.trans hb.1, fun O H σ F rs w Q q => ⟨_, pe_chain op_le op_le pe_w pe_w pe_w hm, two ha hb rs w fun O' H' u v F' ru rv r' s' => ⟨l, i, ru, rv, decide (l ≤ i), rfl, by
    by_cases h : l ≤ i
    · rw [if_pos (decide_eq_true h)]
      refine hc.2 O' H' σ F' r' s'.wf _ fun O2 H2 z Fz F2 ⟨ez, rz⟩ r2 s2 => ?_
      subst ez
      refine ⟨i, j, rv, rz, ?_⟩
      rw [decide_eq_true h, Bool.true_and] at q
      exact q O2 H2 _ [] F2 ⟨rfl, rfl⟩ r2 (s'.trans w s2)
    · rw [if_neg (fun z => h (of_decide_eq_true z))]
      rw [decide_eq_false h, Bool.false_and] at q
      exact q O' H' _ [] F' ⟨rfl, rfl⟩ r' s'⟩⟩⟩
/-- all([..]) of truths -/
theorem repL_bools : ∀ (bs : List Bool), RepL K O H (bs.map D.bool) (bs.map V.bl)
  | [] => rfl
  | b :: bs => ⟨_, _, rfl, rfl, repL_bools bs⟩
theorem RepL.bools : ∀ (bs : List Bool) {xs : List V}, RepL K O H (bs.map D.bool) xs → xs = bs.map V.bl
  | [], _, h => h
  | b :: bs, _, ⟨v, vs, e, p, q⟩ => by rw [e, show v = V.bl b from p, RepL.bools bs q]; rfl
theorem ev_all {bs : List Bool} (ha : Ev X e env (.val (.lst (bs.map D.bool))) env1) (hm : X.mg "all" = none := by assumption) (hc : X.calm = true := by rfl) (hg : Gl X "all" := by rfl) (he : starEach [e] X.env = (false, eval e X.env) :: starEach [] X.env := by rfl) (hpl : (backTo pos (starEach [] X.env)).any (·.1) = false := by rfl) : Ev X (.Call (.Name "all" p) [e] [] pos) env (.val (.bool (bs.all id))) env1 :=
  ev_cbi (ds := [.lst (bs.map D.bool)]) (cr_all hc) (rf_val fun O H vs Q ⟨u, us, e, ⟨a, xs, hu, _, hp, rl⟩, hn⟩ q => ⟨a, bs, by rw [e, hu, show us = [] from hn], .inl (.inl (by rw [← RepL.bools bs rl]; exact hp)), q _ rfl⟩) (ea_cons ha ea_nil he) hm (by decide +kernel) hg (by decide) (by decide) he hpl
/-! in, not in, of flat items -/
def vF : D → V
  | .bool b => .bl b | .int i => .int i | .str s => .str s | _ => .non
def flatD : D → Bool
  | .none => true | .bool _ => true | .int _ => true | .str _ => true | _ => false
theorem rep_vF {v : V} : ∀ {d : D}, flatD d = true → Rep K O H d v → v = vF d ∧ flatV v = true
  | .none, _, h => by rw [show v = V.non from h]; exact ⟨rfl, rfl⟩
  | .bool b, _, h => by rw [show v = V.bl b from h]; exact ⟨rfl, rfl⟩
  | .int b, _, h => by rw [show v = V.int b from h]; exact ⟨rfl, rfl⟩
  | .str b, _, h => by rw [show v = V.str b from h]; exact ⟨rfl, rfl⟩
  | .tup _, h, _ => by cases h
  | .lst _, h, _ => by cases h
  | .dK _ _, h, _ => by cases h
  | .dT _ _, h, _ => by cases h
  | .ins _ _ _, h, _ => by cases h
  | .scr _, h, _ => by cases h
  | .adr _, h, _ => by cases h
  | .kt _, h, _ => by cases h
  | .xt _, h, _ => by cases h
  | .exc _ _ _, h, _ => by cases h
theorem repL_vF : ∀ {ds : List D} {vs : List V}, ds.all flatD = true → RepL K O H ds vs → vs = ds.map vF ∧ vs.all flatV = true
  | [], _, _, h => by rw [show _ = [] from h]; exact ⟨rfl, rfl⟩
  | d :: ds, _, hf, ⟨v, vs, e, p, q⟩ => by
    rw [List.all_cons, Bool.and_eq_true] at hf
    obtain ⟨h1, h2⟩ := rep_vF hf.1 p
    obtain ⟨h3, h4⟩ := repL_vF hf.2 q
    rw [e, List.all_cons, h2, h4, h1, h3]
    exact ⟨rfl, rfl⟩
theorem ro_inT {neg : Bool} (hx : flatD x = true) (hd : ds.all flatD = true) : RO K (rIn K neg) x (.tup ds) (.val (.bool (if neg then !inV (vF x) (ds.map vF) else inV (vF x) (ds.map vF)))) := ro_val fun O H u v Q hu ⟨a, xs, ev, ta, rl⟩ q => by
  obtain ⟨h1, h2⟩ := rep_vF hx hu
  obtain ⟨h3, h4⟩ := repL_vF hd rl
  refine ⟨a, xs, ev, .inr (TupAt.sq ta), h2, h4, ?_⟩
  rw [h1, h3]
  exact q _ rfl
theorem ro_inL {neg : Bool} (hx : flatD x = true) (hd : ds.all flatD = true) : RO K (rIn K neg) x (.lst ds) (.val (.bool (if neg then !inV (vF x) (ds.map vF) else inV (vF x) (ds.map vF)))) := ro_val fun O H u v Q hu ⟨a, xs, ev, _, hp, rl⟩ q => by
  obtain ⟨h1, h2⟩ := rep_vF hx hu
  obtain ⟨h3, h4⟩ := repL_vF hd rl
  refine ⟨a, xs, ev, .inl (.inl (.inl hp)), h2, h4, ?_⟩
  rw [h1, h3]
  exact q _ rfl
theorem ev_inT (ha : Ev X a env (.val x) env1) (hb : Ev X b env1 (.val (.tup ds)) env2) (hx : flatD x = true) (hd : ds.all flatD = true) (hm : behindInMarks .In b = false := by first | exact nomark _ | rfl) : Ev X (.Compare a [.In] [b] pos) env (.val (.bool (inV (vF x) (ds.map vF)))) env2 := ev_cmp op_in_seq ha hb (ro_inT hx hd) hm
theorem ev_inLF (ha : Ev X a env (.val x) env1) (hb : Ev X b env1 (.val (.lst ds)) env2) (hx : flatD x = true) (hd : ds.all flatD = true) (hm : behindInMarks .In b = false := by first | exact nomark _ | rfl) : Ev X (.Compare a [.In] [b] pos) env (.val (.bool (inV (vF x) (ds.map vF)))) env2 := ev_cmp op_in_seq ha hb (ro_inL hx hd) hm
theorem ev_notInLF (ha : Ev X a env (.val x) env1) (hb : Ev X b env1 (.val (.lst ds)) env2) (hx : flatD x = true) (hd : ds.all flatD = true) (hm : behindInMarks .NotIn b = false := by first | exact nomark _ | rfl) : Ev X (.Compare a [.NotIn] [b] pos) env (.val (.bool (!inV (vF x) (ds.map vF)))) env2 := ev_cmp op_notIn_seq ha hb (ro_inL hx hd) hm
theorem tv_notInT (ha : Ev X a env (.val x) env1) (hb : Ev X b env1 (.val (.tup ds)) env2) (hx : flatD x = true) (hd : ds.all flatD = true) (hm : behindInMarks .NotIn b = false := by first | exact nomark _ | rfl) : Tv X (.Compare a [.NotIn] [b] pos) env (!inV (vF x) (ds.map vF)) env2 := tv_cmp op_notIn_seq ha hb (ro_inT hx hd) hm
theorem inV_ints (k : Int) (ns : List Int) : inV (.int k) (ns.map V.int) = decide (k ∈ ns) := by
  unfold inV
  induction ns with
  | nil => rfl
  | cons n ns ih =>
    rw [List.map_cons, List.any_cons, ih]
    by_cases h : n = k
    · subst h
      rw [show decide (n ∈ n :: ns) = true from decide_eq_true (List.mem_cons_self ..)]
      show ((n == n) || _) = true
      rw [beq_self_eq_true, Bool.true_or]
    · rw [show decide (k ∈ n :: ns) = decide (k ∈ ns) from decide_eq_decide.mpr ⟨fun z => (List.mem_cons.mp z).resolve_left (fun z => h z.symm), fun z => List.mem_cons_of_mem _ z⟩]
      show ((n == k) || _) = _
      rw [beq_false_of_ne h, Bool.false_or]
/-! is not of truths, shifts -/
theorem ev_isNotB {k2 : Bool} (ha : Ev X a env (.val (.bool k)) env1) (hb : Ev X b env1 (.val (.bool k2)) env2) (hm : behindInMarks .IsNot b = false := by first | exact nomark _ | rfl) : Ev X (.Compare a [.IsNot] [b] pos) env (.val (.bool (!decide (k = k2)))) env2 := ev_cmp op_isnot_bl ha hb (ro_val fun O H u v Q hu hv q => ⟨k, k2, hu, hv, q _ rfl⟩) hm
theorem tv_isNotB {k2 : Bool} (ha : Ev X a env (.val (.bool k)) env1) (hb : Ev X b env1 (.val (.bool k2)) env2) (hm : behindInMarks .IsNot b = false := by first | exact nomark _ | rfl) : Tv X (.Compare a [.IsNot] [b] pos) env (!decide (k = k2)) env2 := tv_cmp op_isnot_bl ha hb (ro_val fun O H u v Q hu hv q => ⟨k, k2, hu, hv, q _ rfl⟩) hm
theorem ev_shl (ha : Ev X a env (.val (.int i)) env1) (hb : Ev X b env1 (.val (.int j)) env2) (hc : CPow i j) : Ev X (.BinOp a .LShift b pos) env (.val (.int (i * 2 ^ j.toNat))) env2 := ev_bin op_shl ha hb (ro_int hc fun _ _ => rfl)
end
end Lin

end

section
namespace Lin
open PySem PySem.Spec PyProof.Rows L2
/-! ### a look: all that is owned is seen frozen -/
def see : Sls → Sls
  | [] => []
  | none :: es => none :: see es
  | some s :: es => vl (frz s.m) :: see es
section
variable {K : PySem.W.Frag} {O O' : OW} {H : Hp}
theorem RepS.see (h : ∀ a, O' a → O a) : ∀ {es : Sls} {σ : L2.St} {F : List Addr}, (∀ a ∈ F, ¬ O' a) → RepS K O H es σ F → RepS K O' H (Lin.see es) σ []
  | [], _, _, _, ⟨e, _⟩ => ⟨e, rfl⟩
  | none :: es, _, _, hf, ⟨o, σ', e, r⟩ => ⟨o, σ', e, RepS.see h hf r⟩
  | some s :: es, _, _, hf, ⟨v, σ', F1, F2, e, ef, p, r⟩ => ⟨v, σ', [], [], e, rfl, ⟨rfl, RepM.frz s.m h (fun a z => hf a (ef ▸ List.mem_append_left _ z)) p⟩, RepS.see h (fun a z => hf a (ef ▸ List.mem_append_right _ z)) r⟩
end
section
variable {X : Cx} {env : Sls} {e : Expr} {m : M}
theorem see_sem {O : OW} {H : Hp} {σ : L2.St} {F : List Addr} (r : RepS X.K O H env σ F) (w : Wf O H F) :
    ∃ O1 : OW, Wf O1 H [] ∧ RepS X.K O1 H (see env) σ [] ∧ ∀ (O' : OW) (H' : Hp) (v : V) (Fv F' : List Addr), flat m = true → RepM X.K O' H' m v Fv → Step O1 H [] O' H' (Fv ++ F') →
      ∃ O2 : OW, RepM X.K O2 H' m v Fv ∧ RepS X.K O2 H' env σ F ∧ Step O H F O2 H' (Fv ++ F) := by
  refine ⟨fun b => O b ∧ b ∉ F, ⟨List.nodup_nil, (fun _ h => nomatch h), fun b h => w.dom b h.1, fun b u h => w.nt b u h.1⟩, RepS.see (fun b h => h.1) (fun a z n => n.2 z) r, fun O' H' v Fv F' hf rm st => ?_⟩
  have fr : ∀ b o, H b = some o → H' b = some o := fun b o h => st.frame b o h (by simp)
  have stv := st.wf.left
  refine ⟨fun b => O b ∨ O' b, RepM.flat m hf rm, RepS.keep (K := X.K) (O := O) (H := H) (fun b o h _ => fr b o h) (fun b h => ?_) env (fun b o _ h => fr b o h) r, ⟨fun b o h _ => fr b o h, fun b h => ?_, fun b h _ => .inl h, fun b h => ?_, ?_, fun b h => ?_, fun b h => ?_, fun b u h z => ?_⟩⟩
  · rcases h with h | h
    · exact .inl h
    · rcases st.nw b h with z | z
      · exact .inl z.1
      · exact .inr z
  · rcases (show O b ∨ O' b from h) with h | h
    · exact .inl h
    · rcases st.nw b h with z | z
      · exact .inl z.1
      · exact .inr z
  · rcases List.mem_append.mp h with h | h
    · rcases st.fp b (List.mem_append_left _ h) with z | z
      · exact absurd z (by simp)
      · exact .inr z
    · exact .inl h
  · refine List.nodup_append.mpr ⟨stv.nd, w.nd, fun b hb c hc e => ?_⟩
    subst e
    rcases st.fp b (List.mem_append_left _ hb) with z | z
    · exact absurd z (by simp)
    · obtain ⟨o, q⟩ := w.dom b (w.own b hc)
      rw [z] at q; cases q
  · rcases List.mem_append.mp h with h | h
    · exact Or.inr (stv.own b h)
    · exact Or.inl (w.own b h)
  · rcases (show O b ∨ O' b from h) with h | h
    · obtain ⟨o, q⟩ := w.dom b h
      exact ⟨o, fr b o q⟩
    · exact st.wf.dom b h
  · rcases (show O b ∨ O' b from h) with h | h
    · obtain ⟨o, q⟩ := w.dom b h
      rw [fr b o q] at z
      cases z
      exact w.nt b _ h q
    · exact st.wf.nt b u h z
theorem ev_see {envr : Sls} (he : envr = see env) {env2 : Sls} (h : Ev X e envr m env2) (hf : flat m = true) : Ev X e env m env := by
  subst he
  refine ⟨Io.refl _, fun O H σ F r w Q q => ?_⟩
  obtain ⟨O1, w1, r1, k⟩ := see_sem (m := m) r w
  refine h.2 O1 H σ [] r1 w1 Q fun O' H' v Fv F' rm rs st => ?_
  obtain ⟨O2, rm2, rs2, st2⟩ := k O' H' v Fv F' hf rm st
  exact q O2 H' v Fv F rm2 rs2 st2
theorem tv_see {b : Bool} {envr : Sls} (he : envr = see env) {env2 : Sls} (h : Tv X e envr b env2) : Tv X e env b env := by
  subst he
  refine ⟨Io.refl _, fun O H σ F r w Q q => ?_⟩
  obtain ⟨O1, w1, r1, k⟩ := see_sem (m := .val .none) r w
  refine h.2 O1 H σ [] r1 w1 Q fun O' H' F' rs st => ?_
  obtain ⟨O2, rm2, rs2, st2⟩ := k O' H' .non [] F' rfl ⟨rfl, rfl⟩ st
  exact q O2 H' F rs2 st2
end
end Lin

end

section
namespace Lin
open PySem PySem.Spec PySem.Calls PyProof.Rows PyProof.V L2
section
variable {X : Cx}
theorem call_lenR : CallR X (.builtin "len") (fun xs H Q => ∃ a kvs, xs = [V.ref a] ∧ Rd H a (.dK kvs) ∧ Q (.int kvs.length) H) := by
  intro pins s σ H xs us Q I r h
  obtain ⟨a, kvs, rfl, ha, q⟩ := h
  obtain ⟨u, rfl, ru⟩ := vals1 r
  cases ru
  exact d_len I ha fun t s' I' => ⟨.int kvs.length, H, I', ⟨t, rfl⟩, q⟩
/-- sum, max of a tuple of ints -/
def rSumT (K : PySem.W.Frag) : List V → Hp → VK → Prop := fun vs H Q => ∃ (a : Addr) (ns : List Int), vs = [V.ref a] ∧ SqT K H a (ns.map V.int) ∧ Q (.int ns.sum) H
theorem cr_sumT (hc : X.calm = true) : CallR X (.builtin "sum") (rSumT X.K) := by
  intro pins s σ H vs us Q I r h
  obtain ⟨a, ns, rfl, hs, q⟩ := h
  obtain ⟨its, rv, ht, _⟩ := I.tuple hs
  rw [Vals.ref1 r]
  have hi := rv.ints
  obtain ⟨xs, hx⟩ := hi.allInts.items
  have hn : numsOf its.toArray.toList = ns := by rw [show its.toArray.toList = its from rfl, hi.numsOf]
  have hl : s.heap.IsTuple a its.toArray := ht
  rw [hx] at hl hn
  rw [nums_intItems] at hn
  refine PySem.W.ktm_sumG (I.ok.hd hc) hl fun h' tk t' hk => ?_
  rw [preSum_eq, List.take_of_length_le (by simp), hn]
  exact ⟨.int _, H, I.kept hk, ⟨_, rfl⟩, q⟩
def rMaxT (K : PySem.W.Frag) : List V → Hp → VK → Prop := fun vs H Q => ∃ (a : Addr) (n : Int) (ns : List Int), vs = [V.ref a] ∧ SqT K H a ((n :: ns).map V.int) ∧ Q (.int (ns.foldl max n)) H
theorem dpAll_ints {K : PySem.W.Frag} {H : Hp} : ∀ ns : List Int, DpAll K H (ns.map V.int) (ns.map PyData.int)
  | [] => .nil
  | n :: ns => .cons (.int n) (dpAll_ints ns)
theorem depth_ints : ∀ ns : List Int, PyData.depthAll (ns.map PyData.int) ≤ 1
  | [] => by decide
  | n :: ns => by
    have := depth_ints ns
    show max (PyData.depth (.int n)) (PyData.depthAll (ns.map PyData.int)) ≤ 1
    exact Nat.max_le.mpr ⟨(Nat.zero_le _ : 0 ≤ 1), this⟩
theorem cr_maxT (hc : X.calm = true) (hu : X.A.units + 2 < cLine) : CallR X (.builtin "max") (rMaxT X.K) := by
  intro pins s σ H vs us Q I r h
  obtain ⟨a, n, ns, rfl, hs, q⟩ := h
  obtain ⟨its, rv, ht, _⟩ := I.tuple hs
  rw [Vals.ref1 r]
  have hl : s.heap.IsTuple a its.toArray := ht
  obtain ⟨as, hr⟩ := Dp.readsAll I _ _ its (dpAll_ints (n :: ns)) rv
  have hd := depth_ints (n :: ns)
  refine PySem.W.max_tuple_data (I.ok.hd hc) hl hr ⟨fun x hx y hy => ?_, fun x hx => ?_⟩ (by show X.A.units + 1 + PyData.depthAll ((n :: ns).map PyData.int) < cLine; omega) fun i v h' tk bs hv hr' hk => ?_
  · obtain ⟨i, _, rfl⟩ := List.mem_map.mp (show x ∈ (n :: ns).map PyData.int from hx)
    obtain ⟨j, _, rfl⟩ := List.mem_map.mp (show y ∈ (n :: ns).map PyData.int from hy)
    rfl
  · obtain ⟨i, _, rfl⟩ := List.mem_map.mp (show x ∈ (n :: ns).map PyData.int from hx)
    exact fun z => nomatch z
  · rw [PySem.W.maxD_ints] at hr'
    cases hr' with
    | int _ t => exact ⟨.int _, H, I.kept hk, ⟨_, rfl⟩, q⟩
end
end Lin

end

section
namespace Lin
open PySem PySem.Spec PySem.Calls PyProof.Rows L2
theorem repML_F {K : PySem.W.Frag} {O : OW} {H : Hp} : ∀ (ds : List D) {vs : List V} {F : List Addr}, RepML K O H (ds.map M.val) vs F → F = []
  | [], _, _, h => h.2
  | d :: ds, _, _, ⟨v, vs', G1, G2, _, eg, p, q⟩ => by rw [eg, p.1, repML_F ds q]; rfl
theorem intsM (ns : List Int) : (ns.map fun i => M.val (.int i)) = (ns.map D.int).map M.val := by rw [List.map_map]; rfl
theorem repML_ints {K : PySem.W.Frag} {O : OW} {H : Hp} {ns : List Int} {vs : List V} {F : List Addr} (h : RepML K O H (ns.map fun i => M.val (.int i)) vs F) : vs = ns.map V.int ∧ F = [] := by
  rw [intsM] at h
  exact ⟨RepL.ints ns (repL_vals h), repML_F _ h⟩
theorem ints_repML {K : PySem.W.Frag} {O : OW} {H : Hp} (ns : List Int) : RepML K O H (ns.map fun i => M.val (.int i)) (ns.map V.int) [] := by
  rw [intsM]; exact repML_val _ (repL_ints ns)
section
variable {X : Cx} {env env1 env2 env3 : Sls} {a b c e f : Expr} {es : List Expr} {pos p p' pos' apos cpos tpos : Pos} {d x y : D} {m : M} {ms : List M} {ds : List D} {n : Str} {s : Sl} {K : PySem.W.Frag} {O : OW} {H : Hp} {i j : Int} {k : Bool}
theorem ev_lenK {ks : List Key} (ha : Ev X e env (.val (.dK ks ds)) env1) (hm : X.mg "len" = none := by assumption) (hg : Gl X "len" := by rfl) (he : starEach [e] X.env = (false, eval e X.env) :: starEach [] X.env := by rfl) (hpl : (backTo pos (starEach [] X.env)).any (·.1) = false := by rfl) : Ev X (.Call (.Name "len" p) [e] [] pos) env (.val (.int ks.length)) env1 :=
  ev_cbi (ds := [.dK ks ds]) call_lenR (rf_val fun O H vs Q ⟨u, us, e, ⟨a, kv, hu, _, hp, hk, rl⟩, hn⟩ q => ⟨a, kv, by rw [e, hu, show us = [] from hn], hp, by rw [show kv.length = ks.length by rw [← hk, List.length_map]]; exact q _ rfl⟩) (ea_cons ha ea_nil he) hm PySem.boot_len hg (by decide) (by decide) he hpl
theorem ev_sumT {ns : List Int} (ha : Ev X e env (.val (.tup (ns.map D.int))) env1) (hm : X.mg "sum" = none := by assumption) (hc : X.calm = true := by rfl) (hg : Gl X "sum" := by rfl) (he : starEach [e] X.env = (false, eval e X.env) :: starEach [] X.env := by rfl) (hpl : (backTo pos (starEach [] X.env)).any (·.1) = false := by rfl) : Ev X (.Call (.Name "sum" p) [e] [] pos) env (.val (.int ns.sum)) env1 :=
  ev_cbi (ds := [.tup (ns.map D.int)]) (cr_sumT hc) (rf_val fun O H vs Q ⟨u, us, e, ⟨a, xs, hu, ta, rl⟩, hn⟩ q => ⟨a, ns, by rw [e, hu, show us = [] from hn], by rw [← RepL.ints ns rl]; exact TupAt.sq ta, q _ rfl⟩) (ea_cons ha ea_nil he) hm (by decide +kernel) hg (by decide) (by decide) he hpl
theorem ev_maxT {z : Int} {ns : List Int} (ha : Ev X e env (.val (.tup ((z :: ns).map D.int))) env1) (hu : X.A.units + 2 < cLine) (hm : X.mg "max" = none := by assumption) (hc : X.calm = true := by rfl) (hg : Gl X "max" := by rfl) (he : starEach [e] X.env = (false, eval e X.env) :: starEach [] X.env := by rfl) (hpl : (backTo pos (starEach [] X.env)).any (·.1) = false := by rfl) : Ev X (.Call (.Name "max" p) [e] [] pos) env (.val (.int (ns.foldl max z))) env1 :=
  ev_cbi (ds := [.tup ((z :: ns).map D.int)]) (cr_maxT hc hu) (rf_val fun O H vs Q ⟨u, us, e, ⟨a, xs, hu, ta, rl⟩, hn⟩ q => ⟨a, z, ns, by rw [e, hu, show us = [] from hn], by rw [← RepL.ints (z :: ns) rl]; exact TupAt.sq ta, q _ rfl⟩) (ea_cons ha ea_nil he) hm (by decide +kernel) hg (by decide) (by decide) he hpl
theorem RepL.rev : ∀ {ds : List D} {xs : List V}, RepL K O H ds xs → RepL K O H ds.reverse xs.reverse
  | [], _, h => by rw [show _ = [] from h]; rfl
  | d :: ds, _, ⟨v, vs, e, p, q⟩ => by
    rw [e, List.reverse_cons, List.reverse_cons]
    exact RepL.app (RepL.rev q) ⟨v, [], rfl, p, rfl⟩
/-- xs[::-1] of a list -/
theorem ev_revL {kk : Nat} {p1 p2 p3 : Pos} (ha : Ev X e env (.val (.lst ds)) env1) : Ev X (.Subscript e (.Slice none none (some (.UnaryOp .USub (.Constant (.int 1) kk p1) p2)) p3) pos) env (.lst (ds.reverse.map M.val)) env1 :=
  ⟨ha.1, fun O H σ F r w Q q => ⟨_, pe_revL pe_w, ha.2 O H σ F r w _ fun O1 H1 v Fv F1 ⟨ev, rv⟩ rs st => by
    subst ev
    obtain ⟨a', xs, ea, no, hp, rl⟩ := rv
    refine ⟨a', xs, ea, .inl (.inl hp), fun p hp' => ?_⟩
    have w1 : Wf O1 H1 F1 := st.wf
    have s0 : Step O1 H1 [] (fun a => O1 a ∨ a = p) (upd H1 p (.lst xs.reverse)) [p] := Step.new (G := []) w1.nil hp'
    exact q _ _ (.ref p) [p] F1 ⟨p, _, [], rfl, rfl, upd_same, repML_val _ (RepL.keep (s0.kf w1.nil) s0.nw _ rl.rev)⟩ (rs.quiet s0) (st.trans w (s0.quiet w1))⟩⟩
theorem RepL.rep {ds : List D} {xs : List V} (h : RepL K O H ds xs) : ∀ m : Nat, RepL K O H (List.replicate m ds).flatten (List.replicate m xs).flatten
  | 0 => rfl
  | m + 1 => by
    rw [List.replicate_succ, List.replicate_succ, List.flatten_cons, List.flatten_cons]
    exact h.app (RepL.rep h m)
/-- [x] * n -/
theorem ev_rep {z : Int} (ha : Ev X a env (.val (.lst ds)) env1) (hb : Ev X b env1 (.val (.int z)) env2) (h0 : 0 ≤ z) (h1 : z < 2 ^ 62) (hz : ds.length * z.toNat ≤ sizeLine) : Ev X (.BinOp a .Mult b pos) env (.lst ((List.replicate z.toNat ds).flatten.map M.val)) env2 :=
  ev_bin op_rep ha hb (fun O H w u v ⟨a, xs, eu, _, ha, ra⟩ rv Q q => ⟨a, z, xs, eu, rv, ha, by omega, by omega, by rw [ra.len]; exact hz, fun p hp => by
    have s0 : Step O H [] (fun a => O a ∨ a = p) (upd H p (.lst (List.replicate z.toNat xs).flatten)) [p] := Step.new (G := []) w hp
    exact q _ _ (.ref p) [p] ⟨p, _, [], rfl, rfl, upd_same, repML_val _ (RepL.keep (s0.kf w) s0.nw _ (ra.rep _))⟩ s0⟩)
/-- xs.remove(k) of an owned list of ints -/
theorem ev_remI (i : Nat) {z : Int} {j : Nat} {ns : List Int} (ha : Ev X e env (.val (.int z)) env) (hi : env[i]? = some (some s)) (hm : s.m = .lst (ns.map fun i => .val (.int i))) (hj : ns[j]? = some z) (hno : ∀ m : Nat, m < j → ns[m]? ≠ some z) (hN : X.N[i]? = some n := by rfl) (hv : Vis X.env.scope n := by first | exact Or.inl rfl | exact Or.inr (Or.inl rfl) | exact Or.inr (Or.inr rfl))
    (hd : (n == ("__debug__" : Str)) = false := by decide) (hcd : (n == ("__classdict__" : Str)) = false := by decide)
    (hbase : attributeBase (.Name n p) "remove" X.env (eval (.Name n p) X.env) = eval (.Name n p) X.env := by rfl)
    (hfew : ((backTo cpos (starEach [e] X.env)).all (fun x => !x.1) && (backToKw cpos (keywordEach [] X.env)).all (fun x => x.1.isSome)
      && decide ([e].length + ([] : List Keyword).length + (if ([] : List Keyword).isEmpty then 0 else 1) < 30)) = true := by rfl)
    (hline : (apos.endLine == cpos.line) = true := by rfl) (hs : starEach [e] X.env = (false, eval e X.env) :: starEach [] X.env := by rfl) (hplain : (backTo cpos (starEach [] X.env)).any (·.1) = false := by rfl) :
    Ev X (.Call (.Attribute (.Name n p) "remove" apos) [e] [] cpos) env (.val .none) (env.set i (some (s.put (.lst ((ns.eraseIdx j).map fun i => .val (.int i)))))) :=
  ⟨Io.put hi, fun O H σ F r w Q q => ⟨_, pe_bm PySem.F.plainAttrs_list PySem.F.slot_list_remove PySem.F.type_list_remove mt_remove (pe_var hN hv hd hcd) (pa_cons pe_w pa_nil hs) hbase hfew hline hs hplain, by
    obtain ⟨v, F1, Fi, F2, e1, ef, rm0, _, _⟩ := RepS.at r hi
    rw [hm] at rm0
    obtain ⟨l0, xs0, F0, el0, _, hp0, _⟩ := rm0
    refine ⟨v, e1, by rw [el0]; exact .inl ⟨rfl, _, .inl (.inl hp0)⟩, ha.2 O H σ F r w _ fun O1 H1 u Fu G ⟨eu, ru⟩ r1 s1 => ?_⟩
    subst eu
    have w1 : Wf O1 H1 ([] ++ G) := s1.wf
    obtain ⟨v', Fi', e2, rm, kk⟩ := slot_upd r1 hi w1
    have ev : v' = v := by rw [e1] at e2; exact (Option.some.inj (Option.some.inj e2)).symm
    subst ev
    rw [hm] at rm
    obtain ⟨l, xs, F', el, ef', hp, rl⟩ := rm
    obtain ⟨ex, eF⟩ := repML_ints rl
    subst ex eF
    obtain ⟨ol, nl, k2⟩ := kk l [] ef'
    obtain ⟨F2', rs2, s2, _⟩ := k2 (.lst ((ns.eraseIdx j).map V.int)) (.lst ((ns.eraseIdx j).map fun i => .val (.int i))) [] [] [] (by simp) ⟨l, _, [], el, rfl, upd_same, ints_repML _⟩
    exact ⟨l, ns, z, j, el, by rw [show u = V.int z from ru], hp, hj, hno, q O1 _ .non [] F2' ⟨rfl, rfl⟩ rs2 (s1.trans w s2)⟩⟩⟩
/-- d.pop(k) of an owned dict -/
def dropD (kvs : KD) (k : Key) : KD := kvs.filter fun kv => decide (kv.1 ≠ k)
theorem drop_keys {k : Key} : ∀ {a : List (Key × V)} {b : KD}, a.map (·.1) = b.map (·.1) → (dropK a k).map (·.1) = (dropD b k).map (·.1)
  | [], [], _ => rfl
  | [], _ :: _, h => by cases h
  | _ :: _, [], h => by cases h
  | (k1, x) :: a, (k2, y) :: b, h => by
    rw [List.map_cons, List.map_cons] at h
    injection h with h1 h2
    have ih := drop_keys (k := k) h2
    unfold dropK dropD at ih ⊢
    have h1 : k1 = k2 := h1
    subst h1
    rw [List.filter_cons, List.filter_cons]
    by_cases z : k1 = k
    · rw [if_neg (by simp [z]), if_neg (by simp [z])]; exact ih
    · rw [if_pos (by simp [z]), if_pos (by simp [z]), List.map_cons, List.map_cons, ih]
theorem drop_rep {k : Key} : ∀ {a : List (Key × V)} {b : KD}, a.map (·.1) = b.map (·.1) → RepL K O H (b.map (·.2)) (a.map (·.2)) → RepL K O H ((dropD b k).map (·.2)) ((dropK a k).map (·.2))
  | [], [], _, h => h
  | [], _ :: _, h, _ => by cases h
  | _ :: _, [], h, _ => by cases h
  | (k1, x) :: a, (k2, y) :: b, h, r => by
    rw [List.map_cons, List.map_cons] at h
    injection h with h1 h2
    obtain ⟨v, vs, e, p, q⟩ := r
    have e' : x :: a.map (·.2) = v :: vs := e
    injection e' with e1 e2
    subst e1 e2
    have ih := drop_rep (k := k) h2 q
    unfold dropK dropD at ih ⊢
    have h1 : k1 = k2 := h1
    subst h1
    rw [List.filter_cons, List.filter_cons]
    by_cases z : k1 = k
    · rw [if_neg (by simp [z]), if_neg (by simp [z])]; exact ih
    · rw [if_pos (by simp [z]), if_pos (by simp [z]), List.map_cons, List.map_cons]
      exact ⟨_, _, rfl, p, ih⟩
theorem ev_popK (i : Nat) {kvs kvs0 : KD} {k : Key} (ha : Ev X e env (.val (kD k)) env) (hi : env[i]? = some (some s)) (hm : s.m = dkM kvs) (hk : lookD kvs k = some d) (m1 : M1 X (.Name n p) "pop" apos e cpos := by exact ⟨rfl, rfl, rfl, rfl⟩) (hN : X.N[i]? = some n := by rfl) (hv : Vis X.env.scope n := by first | exact Or.inl rfl | exact Or.inr (Or.inl rfl) | exact Or.inr (Or.inr rfl))
    (hd : (n == ("__debug__" : Str)) = false := by decide) (hcd : (n == ("__classdict__" : Str)) = false := by decide) :
    Ev X (.Call (.Attribute (.Name n p) "pop" apos) [e] [] cpos) env (.val d) (env.set i (some (s.put (dkM (dropD kvs k))))) :=
  ⟨Io.put hi, fun O H σ F r w Q q => ⟨_, pe_dpop1 (pe_var hN hv hd hcd) pe_w m1, by
    obtain ⟨v, F1, Fi, F2, e1, ef, rm0, _, _⟩ := RepS.at r hi
    rw [hm] at rm0
    obtain ⟨l0, kv0, F0, el0, _, hp0, _⟩ := rm0
    refine ⟨v, e1, l0, el0, .inl ⟨kv0, .inl hp0⟩, ha.2 O H σ F r w _ fun O1 H1 u Fu G ⟨eu, ru⟩ r1 s1 => ?_⟩
    subst eu
    have w1 : Wf O1 H1 ([] ++ G) := s1.wf
    obtain ⟨v', Fi', e2, rm, kk⟩ := slot_upd r1 hi w1
    have ev : v' = v := by rw [e1] at e2; exact (Option.some.inj (Option.some.inj e2)).symm
    subst ev
    rw [hm] at rm
    obtain ⟨l, kv, F', el, ef', hp, hks, rl⟩ := rm
    have el2 : l = l0 := by rw [el0] at el; injection el with z; exact z.symm
    subst el2
    have eF := repML_F _ rl
    subst eF
    have rl2 := repL_vals rl
    obtain ⟨ol, nl, k2⟩ := kk l [] ef'
    have hks' : kv.map (·.1) = kvs.map (·.1) := hks
    rcases rep_val (k := k) hks rl2 with ⟨d', v2, h1, h2, h3⟩ | ⟨h1, h2⟩
    · have h1 : lookD kvs k = some d' := by rw [← getD_look]; exact h1
      rw [hk] at h1; cases h1
      have kf : ∀ a o, H1 a = some o → ¬ O1 a → upd H1 l (.dK (dropK kv k)) a = some o := fun a o h n => by rw [upd_ne (fun e => n (by rw [e]; exact ol))]; exact h
      obtain ⟨F2', rs2, s2, _⟩ := k2 (.dK (dropK kv k)) (dkM (dropD kvs k)) [] [] [] (by simp) ⟨l, _, [], el, rfl, upd_same, drop_keys hks', repML_val _ (RepL.keep kf (fun a h => .inl h) _ (drop_rep hks' rl2))⟩
      exact ⟨kv, k, v2, hp, rep_kD ru, h2, q O1 _ v2 [] F2' ⟨rfl, Rep.keep kf (fun a h => .inl h) _ h3⟩ rs2 (s1.trans w s2)⟩
    · have h1 : lookD kvs k = none := by rw [← getD_look]; exact h1
      rw [hk] at h1; cases h1⟩⟩
/-- xs[k] += e of an owned list of ints -/
def rGetL (K : PySem.W.Frag) : V → V → Hp → VK → Prop := fun x y H Q => ∃ p xs i v, x = .ref p ∧ y = .int i ∧ 0 ≤ i ∧ SqL K H p xs ∧ xs[i.toNat]? = some v ∧ Q v H
theorem pget_list : PGet X (rGetL X.K) := by
  intro pins s σ H x y v u Q I rx ry h
  obtain ⟨p, xs, i, z, rfl, rfl, h0, hq, he, q⟩ := h
  cases rx
  obtain ⟨t, rfl⟩ := ry
  obtain ⟨its, r, pl, hz⟩ := I.list hq
  obtain ⟨w, ew, rw'⟩ := r.get he
  have hl := r.length
  have h5 : i.toNat < xs.length := (List.getElem?_eq_some_iff.mp he).1
  have hn := line63
  exact getItem_listL pl.isList h0 (by omega) ew ⟨z, H, I, rw', q⟩
theorem x1_augI (i : Nat) {j : Nat} {z c : Int} {ns : List Int} (hb : Ev X b env (.val (.int j)) env) (he : Ev X e env (.val (.int c)) env) (hi : env[i]? = some (some s)) (hm : s.m = .lst (ns.map fun i => .val (.int i))) (hj : ns[j]? = some z) (hz : ns.length ≤ sizeLine) (hN : X.N[i]? = some n := by rfl) (hv : Vis X.env.scope n := by first | exact Or.inl rfl | exact Or.inr (Or.inl rfl) | exact Or.inr (Or.inr rfl))
    (hd : (n == ("__debug__" : Str)) = false := by decide) (hcd : (n == ("__classdict__" : Str)) = false := by decide)
    (ha : ∀ ov iv new, augStore b ov iv new = (do holding [new, ov, iv] (setItem ov iv new); release [new, ov, iv] []; pure .next) := by intros; rfl) :
    Ex1 X (.AugAssign (.Subscript (.Name n p) b tpos) .Add e pos) env (.nx (env.set i (some (s.put (.lst ((ns.set j (z + c)).map fun i => .val (.int i))))))) := fun O H σ F r w D g =>
  ⟨_, ps_augS (pe_var hN hv hd hcd) pe_w pget_list pe_w ip_add set_list ha, by
    obtain ⟨v, F1, Fi, F2, e1, ef, rm0, _, _⟩ := RepS.at r hi
    refine ⟨v, e1, hb.2 O H σ F r w _ fun O1 H1 u Fu G ⟨eu, ru⟩ r1 s1 => ?_⟩
    subst eu
    obtain ⟨v', F1', Fi', F2', e2, ef', rm, _, _⟩ := RepS.at r1 hi
    have ev : v' = v := by rw [e1] at e2; exact (Option.some.inj (Option.some.inj e2)).symm
    subst ev
    rw [hm] at rm
    obtain ⟨l, xs, F', el, eF', hp, rl⟩ := rm
    obtain ⟨ex, eF⟩ := repML_ints rl
    subst ex eF
    refine ⟨l, ns.map V.int, j, V.int z, el, ru, by omega, .inl (.inl hp), by rw [Int.toNat_natCast, List.getElem?_map, hj]; rfl, he.2 O1 H1 σ G r1 s1.wf _ fun O2 H2 u2 Fu2 G2 ⟨eu2, ru2⟩ r2 s2 => ?_⟩
    subst eu2
    have w2 : Wf O2 H2 ([] ++ G2) := s2.wf
    obtain ⟨v2, Fi2, e3, rm3, kk⟩ := slot_upd r2 hi w2
    have ev2 : v2 = v' := by rw [e1] at e3; exact (Option.some.inj (Option.some.inj e3)).symm
    subst ev2
    rw [hm] at rm3
    obtain ⟨l2, xs2, F3, el2, ef3, hp2, rl2⟩ := rm3
    obtain ⟨ex2, eF2⟩ := repML_ints rl2
    subst ex2 eF2
    obtain ⟨ol, nl, k2⟩ := kk l2 [] ef3
    obtain ⟨F4, rs4, s4, _⟩ := k2 (.lst ((ns.set j (z + c)).map V.int)) (.lst ((ns.set j (z + c)).map fun i => .val (.int i))) [] [] [] (by simp) ⟨l2, _, [], el2, rfl, upd_same, ints_repML _⟩
    have jl : j < ns.length := (List.getElem?_eq_some_iff.mp hj).1
    refine ⟨z, c, rfl, ru2, l2, ns.map V.int, j, j, el2, ru, hp2, ?_, ?_⟩
    · unfold ixN
      rw [List.length_map, if_pos (by omega), if_pos (by omega), Int.toNat_natCast]
    · rw [← List.map_set]
      exact g O2 _ σ F4 rs4 ((s1.trans w s2).trans w s4) (Pins.of (Io.put hi))⟩
end
end Lin

end

section
namespace Lin
open PySem PySem.Spec PySem.Calls PyProof.Rows L2
section
variable {X : Cx} {env env1 env2 : Sls} {a b c e : Expr} {es rest : List Expr} {pos p p' : Pos} {d x y : D} {m m' : M} {ms : List M} {ds : List D} {n : Str} {s : Sl}
/-- x, y, z = a, b, c -/
theorem x1_par3 (i j l : Nat) {x y z : Str} {m1 m2 m3 : M} {px py pz pt : Pos} {kt k2 pt2} (h : EvMs X [a, b, c] env [m1, m2, m3] env1) (hioI : ∀ m', env[i]? ≠ some (some (Sl.io m')) := by intro _ h; cases h) (hioJ : ∀ m', env[j]? ≠ some (some (Sl.io m')) := by intro _ h; cases h) (hioL : ∀ m', env[l]? ≠ some (some (Sl.io m')) := by intro _ h; cases h)
    (hiL : i < env.length := by simp) (hjL : j < env.length := by simp) (hlL : l < env.length := by simp) (hij : i ≠ j := by decide) (hil : i ≠ l := by decide) (hjl : j ≠ l := by decide) (hN : X.N.Nodup := by assumption) (hi : X.N[i]? = some x := by rfl) (hj : X.N[j]? = some y := by rfl) (hl : X.N[l]? = some z := by rfl) (hx : X.env.scope.names.lookup x = some .local := by rfl) (hy : X.env.scope.names.lookup y = some .local := by rfl) (hz : X.env.scope.names.lookup z = some .local := by rfl)
    (hc : X.calm = true := by rfl) (hw : swappedStores [.Tuple [.Name x px, .Name y py, .Name z pz] kt pt] (.Tuple [a, b, c] k2 pt2) X.env = pure (some [x, y, z]) := by rfl) (hs : swapsWithSole [.Tuple [.Name x px, .Name y py, .Name z pz] kt pt] (.Tuple [a, b, c] k2 pt2) pos.line X.env = pure false := by rfl) :
    Ex1 X (.Assign [.Tuple [.Name x px, .Name y py, .Name z pz] kt pt] (.Tuple [a, b, c] k2 pt2) pos) env (.nx (((env1.set i (some (.own m1))).set j (some (.own m2))).set l (some (.own m3)))) := fun O H σ F r w D g =>
  ⟨_, ps_par3 hc hN hi hj hl hij hil hjl hx hy hz pa_w hw hs, h.2 O H σ F r w _ fun O1 H1 vs Fm F1 ⟨u, us, Fa, Fb, ev, ef, ra, v, vs', Fc, Fd, ev2, ef2, rb, v3, vs3, Fe, Ff, ev3, ef3, rc, en, en2⟩ r1 s1 => by
    subst en ev3 ev2 ev
    subst en2 ef3 ef2 ef
    have hl : env1.length = env.length := by rw [← r1.len, r.len]
    obtain ⟨G1, G2, Gi, eg, q1, k1⟩ := RepS.drop i (some u) (by rw [hl]; exact hiL) r1
    have r2 := k1 u (.own m1) Fa ra
    obtain ⟨J1, J2, Ji, ej, q2, k2⟩ := RepS.drop j (some v) (by rw [List.length_set, hl]; exact hjL) r2
    have r3 := k2 v (.own m2) Fc rb
    obtain ⟨L1, L2, Li, el, q3, k3⟩ := RepS.drop l (some v3) (by rw [List.length_set, List.length_set, hl]; exact hlL) r3
    have r4 := k3 v3 (.own m3) Fe rc
    refine ⟨u, v, v3, rfl, g O1 H1 _ _ r4 ((s1.permR (F2 := (L1 ++ (Fe ++ L2)) ++ (Gi ++ Ji ++ Li)) (List.perm_iff_count.mpr fun a => ?_)).dropR) fun k m' z => ?_⟩
    · have e1 := congrArg (List.count a) eg
      have e2 := congrArg (List.count a) ej
      have e3 := congrArg (List.count a) el
      simp only [List.count_append, List.count_nil] at e1 e2 e3 ⊢
      omega
    · have n1 : i ≠ k := fun q => hioI m' (q ▸ z)
      have n2 : j ≠ k := fun q => hioJ m' (q ▸ z)
      have n3 : l ≠ k := fun q => hioL m' (q ▸ z)
      obtain ⟨m3, z3⟩ := h.1 k m' z
      exact ⟨⟨m3, by rw [List.getElem?_set_ne n3, List.getElem?_set_ne n2, List.getElem?_set_ne n1]; exact z3⟩, by rw [List.getElem?_set_ne n3, List.getElem?_set_ne n2, List.getElem?_set_ne n1]⟩⟩
end
/-! ### t[::-1] of a tuple -/
section
variable {prog : Program} {w : World} {A : Around} {E : Value → Shared → Prop} {s : Shared}
open HT
theorem adjust_rev (n : Nat) : Builtin.Slice.sliceAdjust none none (-1) (n : Int) = ((n : Int) - 1, -1) := by
  unfold Builtin.Slice.sliceAdjust
  simp
theorem places_rev (n : Nat) : Builtin.Slice.slicePlaces ((n : Int) - 1) (-1) (-1) = n := by
  unfold Builtin.Slice.slicePlaces
  have h1 : ¬ ((-1 : Int) > 0) := by omega
  simp only [h1, if_false]
  split
  · rw [show (- -1 : Int) = 1 by decide]; simp
  · omega
theorem sliceApplied_rev {sl : Addr} {vl vu vs : Value} {n : Nat} {Q : Int × Int × Nat → Shared → Prop} (hs : s.heap.IsSliceOf sl vl vu vs) (pl : IsPart vl none) (pu : IsPart vu none) (ps : IsPart vs (some (-1)))
    (h : Q ((n : Int) - 1, -1, n) s) : wpAny (model prog w) A (Builtin.Slice.sliceApplied (.ref sl) (pure (n : Int))) Q E s := by
  obtain ⟨os, hos, hcs, hds⟩ := id hs
  unfold Builtin.Slice.sliceApplied Builtin.Slice.sliceFields
  refine wpAny_bind (wpAny_bind (wpAny_field hos hds (x := vl) rfl (wpAny_bind (wpAny_field hos hds (x := vu) rfl (wpAny_bind (wpAny_field hos hds (x := vs) rfl (wpAny_pure ?_)))))))
  refine wpAny_bind (slicePart_ ps ?_)
  show wpAny _ _ (if ((-1 : Int) == 0) = true then _ else _) _ _ s
  rw [if_neg (by decide)]
  refine wpAny_bind (slicePart_ pl (wpAny_bind (slicePart_ pu (wpAny_bind (wpAny_pure ?_)))))
  show wpAny _ _ (match Builtin.Slice.sliceAdjust none none (-1) (n : Int) with | (lo, hi) => pure (lo, (-1 : Int), Builtin.Slice.slicePlaces lo hi (-1))) _ _ s
  rw [adjust_rev n]
  show wpAny _ _ (pure ((n : Int) - 1, (-1 : Int), Builtin.Slice.slicePlaces ((n : Int) - 1) (-1) (-1))) _ _ s
  rw [places_rev]
  exact wpAny_pure h
theorem pick_rev (xs : Array Value) : ((List.range xs.size).filterMap fun (m : Nat) => xs[(((xs.size : Int) - 1) + (m : Int) * (-1)).toNat]?).toArray = xs.toList.reverse.toArray := by
  have e : ((List.range xs.size).filterMap fun (m : Nat) => xs[(((xs.size : Int) - 1) + (m : Int) * (-1)).toNat]?) = ((List.range xs.size).map fun k => xs.size - 1 - k).filterMap (xs[·]?) := by
    rw [List.filterMap_map]
    congr 1
    funext m
    show xs[(((xs.size : Int) - 1) + (m : Int) * (-1)).toNat]? = xs[xs.size - 1 - m]?
    congr 1
    omega
  rw [e, PySem.W.krv_range, List.filterMap_reverse, PySem.W.krv_all]
theorem getItem_tuple_rev {t sl : Addr} {items : Array Value} {vl vu vs : Value} {Q : Value → Shared → Prop} (ht : IsTup s.heap t items) (hs : s.heap.IsSliceOf sl vl vu vs) (pl : IsPart vl none) (pu : IsPart vu none) (ps : IsPart vs (some (-1)))
    (h : Q (.ref s.heap.objs.size) { s with heap := s.heap.push { cls := .type "tuple", data := .seq items.toList.reverse.toArray } })
    (hsz : items.size ≤ sizeLine) : wpAny (model prog w) A (getItem (.ref t) (.ref sl)) Q E s := by
  have hnew : sizeOk (.seq items.toList.reverse.toArray) := by
    show items.toList.reverse.toArray.size ≤ sizeLine
    rw [List.size_toArray, List.length_reverse, Array.length_toList]
    exact hsz
  obtain ⟨os, hos, hcs, hds⟩ := id hs
  have hTs : s.TypeIs (.ref sl) "slice" := ⟨os, hos, hcs⟩
  unfold getItem
  try with_reducible refine wpAny_holding ?_
  first | refine wpAny_bind (wpAny_pure ?_) | skip
  refine wpAny_bind (wpAny_sequenceKey ht.typeIs (by decide) ?_)
  refine wpAny_bind (wpAny_callSpecial?_slot (name := Str.ofString "__getitem__") ht.typeIs PyProof.Rows.slot_tuple_getitem
    (wpAny_call_entry PyProof.Rows.slot_tuple_getitem ht.typeIs entry_tuple_getitem ?_ (args_tuple_getitem _ _)))
  show wpAny _ _ (Builtin.Tuple.tupleItemsOf (.ref t) >>= _) _ _ s
  refine wpAny_bind (tupleItemsOf_ ht ?_)
  refine wpAny_bind (wpAny_typeOf hTs ?_)
  rw [if_pos (by decide)]
  refine wpAny_bind (sliceApplied_rev hs pl pu ps ?_)
  have hno : ¬ ((((items.size : Int) - 1) == 0 && (-1 : Int) == 1 && items.size == items.size) = true) := by
    intro q
    rw [Bool.and_eq_true, Bool.and_eq_true] at q
    exact absurd q.1.2 (by decide)
  show wpAny _ _ (if (((items.size : Int) - 1) == 0 && (-1 : Int) == 1 && items.size == items.size) = true then _ else _) _ _ s
  rw [if_neg hno, pick_rev]
  first
    | exact wpAny_bind (m := Builtin.Tuple.tupleExact _) (wpAny_newObj_type (wpAny_pure ⟨_, rfl, wpAny_pure h⟩) hnew)
    | exact wpAny_bind (m := Builtin.Tuple.tupleExact _) (wpAny_newObj_type (wpAny_bind (wpAny_pure (wpAny_pure ⟨_, rfl, wpAny_pure h⟩))) hnew)
    | exact wpAny_bind (wpAny_bind (m := Builtin.Tuple.tupleExact _) (wpAny_newObj_type (wpAny_pure (wpAny_pure ⟨_, rfl, wpAny_pure h⟩)) hnew))
    | exact wpAny_bind (wpAny_bind (m := Builtin.Tuple.tupleExact _) (wpAny_newObj_type (wpAny_pure ⟨_, rfl, wpAny_pure h⟩) hnew))
end
section
variable {X : Cx} {env env1 : Sls} {e : Expr} {ds : List D} {pos p1 p2 p3 : Pos} {k : Nat}
def tRevT (K : PySem.W.Frag) (te : TE) : TE := fun σ H Q => te σ H fun x H1 => ∃ a xs, x = .ref a ∧ SqT K H1 a xs ∧ ∀ p, H1 p = none → Q (.ref p) (upd H1 p (.tup xs.reverse))
theorem pe_revT {te : TE} (he : PE X e te) : PE X (.Subscript e (.Slice none none (some (.UnaryOp .USub (.Constant (.int 1) k p1) p2)) p3) pos) (tRevT X.K te) := by
  refine ⟨fun pins s σ H Q I h => ?_⟩
  refine Subscript_ (thn (he.run pins s σ H _ I h) fun v s1 ⟨x, H1, I1, r1, q1⟩ => ?_)
  obtain ⟨a, xs, ex, hx, q⟩ := q1
  subst ex
  cases r1
  have hst : PO X (some (.UnaryOp .USub (.Constant (.int 1) k p1) p2)) (tPart (tUn (rU fun i => .int (-i)) (tC (.int 1)))) := po_some (pe_un un_neg pe_int)
  refine wpAny_Slice (thn (po_none.run pins s1 σ H1 (fun o H2 => o = none ∧ H2 = H1) I1 ⟨rfl, rfl⟩) fun vl s2 ⟨l, H2, I2, pl, el, e2⟩ => ?_)
  subst el e2
  refine thn (po_none.run pins s2 σ H2 (fun o H3 => o = none ∧ H3 = H2) I2 ⟨rfl, rfl⟩) fun vu s3 ⟨u, H3, I3, pu, eu, e3⟩ => ?_
  subst eu e3
  refine thn (hst.run pins s3 σ H3 (fun o H4 => o = some (-1) ∧ H4 = H3) I3 ⟨1, rfl, -1, rfl, rfl, rfl⟩) fun vs s4 ⟨o, H4, I4, ps, eo, e4⟩ => ?_
  subst eo e4
  have I5 : Inv X pins σ H4 { s4 with heap := s4.heap.push { cls := .type "slice", data := .fields #[vl, vu, vs] } } := I4.kept (t' := s4.toks) fun b ob q => Heap.get?_push_of_some _ q
  obtain ⟨its, r, ht, hz⟩ := I5.tuple hx
  have hlen := r.length
  show wpAny (model X.prog X.w) X.A (subscriptTail e (.Slice none none (some (.UnaryOp .USub (.Constant (.int 1) k p1) p2)) p3) (.ref a) (.ref s4.heap.objs.size)) (EP X pins σ Q) X.xe { s4 with heap := s4.heap.push { cls := .type "slice", data := .fields #[vl, vu, vs] } }
  refine PyProof.Rows.tail_any (ops := [.ref a, .ref s4.heap.objs.size]) ht.typeIs (PyProof.Rows.slot_tuple_getitem.lookup) ?_ (by with_unfolding_all rfl)
  refine getItem_tuple_rev ht (Heap.IsSliceOf.new _ vl vu vs) pl pu ps ?_ (by rw [List.size_toArray]; omega)
  refine ⟨.ref _, _, I5.laid (t' := s4.toks) (o := .tup xs.reverse) (fun b ob q => Heap.get?_push_of_some _ q) (Nat.le_refl _) ?_, rfl, q _ (I5.hok.fresh (Nat.le_refl _))⟩
  exact ⟨by rw [List.length_reverse]; exact hz, _, r.reverse, IsTup.new _ _⟩
theorem ev_revT (ha : Ev X e env (.val (.tup ds)) env1) : Ev X (.Subscript e (.Slice none none (some (.UnaryOp .USub (.Constant (.int 1) k p1) p2)) p3) pos) env (.val (.tup ds.reverse)) env1 :=
  ⟨ha.1, fun O H σ F r w Q q => ⟨_, pe_revT pe_w, ha.2 O H σ F r w _ fun O1 H1 v Fv F1 ⟨ev, rv⟩ rs st => by
    subst ev
    obtain ⟨a', xs, ea, ta, rl⟩ := rv
    refine ⟨a', xs, ea, TupAt.sq ta, fun p hp' => ?_⟩
    have w1 : Wf O1 H1 F1 := st.wf
    have s0 : Step O1 H1 [] O1 (upd H1 p (.tup xs.reverse)) [] := Step.newF w1.nil hp'
    refine q _ _ (.ref p) [] F1 ⟨rfl, p, _, rfl, .inl ⟨fun z => ?_, .inl upd_same⟩, RepL.keep (s0.kf w1.nil) s0.nw _ rl.rev⟩ (rs.quiet s0) (st.trans w (s0.quiet w1))
    obtain ⟨o, e⟩ := w1.dom p z
    rw [hp'] at e; cases e⟩⟩
end
end Lin

end

section
namespace PySem
open Sem (wp)
open AutoSeq1 (wpAny_loadPart')
theorem meets_enum1B {v : Value} {o : Obj} {H : Heap → Prop} (B : Begins v o H) :
    Meets (Builtin.«enumerate.__new__» ⟨[.type "enumerate", v], []⟩) (fun _ R s => H s.heap ∧
      R (.ok (.ret (.ref (s.heap.push o).objs.size))) { s with heap := (s.heap.push o).push { cls := .type "enumerate", data := .fields #[.none, .bool false, .ref s.heap.objs.size, rawInt 0, .none, .none] } }) :=
  .of_wp fun prog w A R s h => by
    obtain ⟨hp, g, d, tk, os⟩ := s; obtain ⟨h1, h⟩ := h
    have hsub := sub_enumerate
    have q1 : ∀ {A' : Around} {E : Value → Shared → Prop} {Q : Value → Shared → Prop}, Q (.ref hp.objs.size) ⟨hp.push o, g, d, tk, os⟩ → wpAny (model prog w) A' (pyIter v) Q E ⟨hp, g, d, tk, os⟩ :=
      fun q => B.iter prog w _ _ ⟨hp, g, d, tk, os⟩ _ h1 q
    wp_walk using q1
    refine wpAny_stack_any fun st => wpAny_pure ?_
    split
    · rename_i c _ _ _ _ _
      cases (c == Value.type "enumerate")
      · wp_walk using q1
        exact ⟨_, rfl, h⟩
      · wp_walk using q1
        exact ⟨_, rfl, h⟩
    · wp_walk using q1
      exact ⟨_, rfl, h⟩
section
variable {prog : Program} {w : World} {A : Around} {E : Value → Shared → Prop} {s : Shared}
theorem enum1_begins {v : Value} {o : Obj} {H : Heap → Prop} {Q : Value → Shared → Prop} (B : Begins v o H) (h1 : H s.heap)
    (h : ∀ h', IsEnum h' (s.heap.objs.size + 1) s.heap.objs.size 0 .none → h'.get? s.heap.objs.size = some o → h'.objs.size = s.heap.objs.size + 2 →
      (∀ b o, s.heap.get? b = some o → h'.get? b = some o) → Q (.ref (s.heap.objs.size + 1)) { s with heap := h' }) :
    wpAny (model prog w) A (call (.type "enumerate") [v]) Q E s := by
  refine callType_new F.called_enumerate (by decide) (F.typeCall_enumerate_1 _) (F.newCall_enumerate_1 _) (fun obj => F.args_object_init_2 obj _) F.entry_enumerate_new
    (meets_enum1B B) ⟨h1, ?_⟩
  have hz : (s.heap.push o).objs.size = s.heap.objs.size + 1 := Heap.size_push ..
  show _ ∧ _
  rw [hz]
  have he : IsEnum ((s.heap.push o).push { cls := .type "enumerate", data := .fields #[.none, .bool false, .ref s.heap.objs.size, rawInt 0, .none, .none] }) (s.heap.objs.size + 1) s.heap.objs.size 0 .none := by
    have := Heap.get?_push_size (s.heap.push o) (o := { cls := .type "enumerate", data := .fields #[.none, .bool false, .ref s.heap.objs.size, rawInt 0, .none, .none] }) rfl
    rw [hz] at this; exact this
  refine ⟨⟨_, he, rfl⟩, h _ he (Heap.get?_push_of_some _ (Heap.get?_push_size _ B.free)) (by rw [Heap.size_push, hz]) fun b o x => Heap.get?_push_of_some _ (Heap.get?_push_of_some _ x)⟩
end
end PySem
namespace Lin
open PySem PySem.Spec PySem.Calls PyProof.Rows L2
/-! ### enumerate(tuple) -/
def IteT (K : PySem.W.Frag) (a : Addr) : It :=
  ⟨fun i H => ∃ (xs : List V) (x : V), SqT K H a xs ∧ xs[i]? = some x, fun i H v H' => ∃ T x, v = .ref T ∧ H T = none ∧ H' = upd H T (.tup [.int (i : Nat), x]) ∧ ∀ xs, SqT K H a xs → xs[i]? = some x, fun i H => ∃ xs : List V, SqT K H a xs ∧ xs.length = i⟩
theorem turn_enumT {P : Program} {w : World} {K : PySem.W.Frag} {elts : List Expr} {kk : Nat} {tpos : Pos} (a e it : Addr) (hai : a ≠ it) (hae : e ≠ a) :
    Turn P w K (.Tuple elts kk tpos) (IteT K a) [e, it] e (fun i h => (∃ old, IsEnum h e it ((i : Nat) : Int) old) ∧ h.IsTupleIter it a i ∧ e ≠ it) where
  mem := by simp
  obj := fun i h st b hb => by
    obtain ⟨⟨old, he⟩, ⟨o, ho, hc, hd⟩, _⟩ := st
    have e' : b = e ∨ b = it := by simpa using hb
    rcases e' with z | z
    · rw [z]; exact ⟨_, he, fun v q => nomatch q⟩
    · rw [z]; exact ⟨o, ho, fun v q => by rw [hd] at q; cases q⟩
  keep := fun i h h' st k => let ⟨⟨old, he⟩, hi, hne⟩ := st; ⟨⟨old, k e (by simp) _ he⟩, hi.at fun o q => k it (by simp) o q, hne⟩
  item := by
    intro X hP hw hK hc i pins s σ H E I hf st hg
    subst hP hw hK
    obtain ⟨⟨old, he⟩, hit, hne⟩ := st
    obtain ⟨xs, x, hq, hx⟩ := hg
    obtain ⟨its, rv, p, hz⟩ := I.tuple hq
    obtain ⟨u, hu, ru⟩ := rv.get hx
    have hel : e < s.heap.objs.size := Heap.lt_size he
    have hil : it < s.heap.objs.size := by obtain ⟨_, q, _⟩ := hit; exact Heap.lt_size q
    have hlt : i < its.toArray.size := by
      have := (List.getElem?_eq_some_iff.mp hu).1
      simpa using this
    refine wpAny_pyNext_enum_itemD (Draws.tuple (A := X.A.in1) (I.ok.hd hc) it a hai its.toArray) he ⟨hit, p⟩ hlt hne (by simp [hne, hae]) fun x' h' tk hx' ho hit' hT hsz hk => ?_
    have ex : x' = u := by
      have q : its[i]? = some x' := by simpa using hx'
      rw [hu] at q
      exact (Option.some.inj q).symm
    subst ex
    refine ⟨_, rfl, wpAny_letOwnedTupleGo_enum (s := { s with heap := h', toks := tk + 1 }) ho fun h'' he' sb => ?_⟩
    have hT2 : h''.get? s.heap.objs.size = some { cls := .type "tuple", data := .seq #[.int i tk, x'] } := (sb.2 _ (Nat.ne_of_gt hel)).trans hT
    have new : ObjOk X.prog X.w (upd H s.heap.objs.size (.tup [.int (i : Nat), x])) h'' s.heap.objs.size (.tup [.int (i : Nat), x]) :=
      ⟨by show 2 ≤ sizeLine; decide, [.int i tk, x'], .cons ⟨_, rfl⟩ (.cons ru .nil), ⟨_, hT2, rfl, _, rfl⟩⟩
    have I1 : Inv X pins σ (upd H s.heap.objs.size (.tup [.int (i : Nat), x])) { s with heap := h'', toks := tk + 1 } :=
      I.turnedNew (ch := [e, it]) (fun b ob hb q => (sb.2 b (fun z => hb (by simp [z]))).trans (hk b ob (fun z => hb (by simp [z])) (fun z => hb (by simp [z])) q)) hf (Nat.le_refl _) new
    refine ⟨.ref s.heap.objs.size, _, I1, rfl, ⟨_, x, rfl, I.hok.fresh (Nat.le_refl _), rfl, fun ys hy => by rw [I.tuple_inj hy hq]; exact hx⟩, ⟨⟨x', ?_⟩, hit'.1.at fun o q => (sb.2 it (Ne.symm hne)).trans q, hne⟩, fun b hb => ?_⟩
    · have e1 : ((i + 1 : Nat) : Int) = (i : Int) + 1 := by omega
      rw [e1]; exact he'
    · have hb' : b < s.heap.objs.size := by
        have e' : b = e ∨ b = it := by simpa using hb
        rcases e' with z | z
        · rw [z]; exact hel
        · rw [z]; exact hil
      rw [upd_ne (Nat.ne_of_lt hb')]
      exact (hf b hb).1
  done := by
    intro X hP hw hK hc i pins s σ H E I hf st hg
    subst hP hw hK
    obtain ⟨⟨old, he⟩, hit, hne⟩ := st
    obtain ⟨xs, hq, hx⟩ := hg
    obtain ⟨its, rv, p, hz⟩ := I.tuple hq
    obtain ⟨f0, f1, f2, f3, f4, f5⟩ := hf it (by simp)
    have hl := rv.length
    have hn : i = its.toArray.size := by rw [List.size_toArray]; omega
    refine wpAny_pyNext_enum_endD (Draws.tuple (A := X.A.in1) (I.ok.hd hc) it a hai its.toArray) he (by rw [← hn]; exact ⟨hit, p⟩) fun h' eb => ⟨rfl, I.turned (t' := s.toks) (fun b o hb q => eb b o hb q) f0 f1 f3 f4 f5⟩
  self := fun A i s Q E st h => let ⟨⟨_, he⟩, _⟩ := st; wpAny_pyIter_enum he h
def iEnumT (K : PySem.W.Frag) (ta : TA) : TI := fun σ H R => ta σ H fun vs H1 => ∃ a xs, vs = [.ref a] ∧ SqT K H1 a xs ∧ R (IteT K a) H1
theorem pi_enumT {X : Cx} {e : Expr} {ta : TA} {p pos tpos : Pos} {elts : List Expr} {kk : Nat} (hg : Gl X "enumerate") (hm : X.mg "enumerate" = none) (ha : PA X [e] ta) (hs : starEach [e] X.env = [(false, eval e X.env)] := by rfl) :
    PI X (.Tuple elts kk tpos) (.Call (.Name "enumerate" p) [e] [] pos) (iEnumT X.K ta) := by
  refine ⟨fun pins s σ H R I h => ?_⟩
  refine Call_ (ld_blt I hg hm boot_enumerate (PyProof.Rows.callWith_type1 (thn (ha.run pos pins s σ H _ I h) fun us s1 ⟨vs, H1, I1, r1, q1⟩ => ?_) hs rfl))
  obtain ⟨a, xs, ex, hq, q⟩ := q1
  subst ex
  cases r1 with
  | cons r rr =>
    cases rr
    cases r
    obtain ⟨its, rv, p', hz⟩ := I1.tuple hq
    have hal : a < s1.heap.objs.size := by obtain ⟨o, ho, _⟩ := id p'; exact Heap.lt_size ho
    refine enum1_begins (begins_tuple a its.toArray) (show s1.heap.IsTuple a its.toArray from p') fun h' he hit hsz hk => wpAny_pyIter_enum he ?_
    have I2 : Inv X pins σ H1 { s1 with heap := h' } := I1.kept (t' := s1.toks) hk
    refine ⟨s1.heap.objs.size + 1, [s1.heap.objs.size + 1, s1.heap.objs.size], _, _, H1, rfl, I2, turn_enumT a (s1.heap.objs.size + 1) s1.heap.objs.size (Nat.ne_of_lt hal) (Nat.ne_of_gt (Nat.lt_succ_of_lt hal)), ⟨⟨.none, he⟩, ⟨_, hit, rfl, rfl⟩, Nat.succ_ne_self _⟩, fun b hb => ?_, q⟩
    have e' : b = s1.heap.objs.size + 1 ∨ b = s1.heap.objs.size := by simpa using hb
    have hle : s1.heap.objs.size ≤ b := by
      rcases e' with z | z
      · rw [z]; exact Nat.le_add_right _ _
      · rw [z]; exact Nat.le_refl _
    exact I1.fpOk hle (I1.hok.fresh hle)
section
variable {K : PySem.W.Frag} {O : OW} {H : Hp} {ds es : List D} {a b : Addr} {xs zs : List V}
theorem walk_enumT : Walk (IteT K a) xs.length (fun H => SqT K H a xs) (YPair (fun i => some (.int (i : Nat))) (fun i => xs[i]?)) := by
  refine ⟨fun i _ hi q => ⟨xs, xs[i], q, by simp [hi]⟩, fun _ q => ⟨xs, q, rfl⟩, fun i H v H' _ q y => ?_⟩
  obtain ⟨T, x, h1, h2, h3, h4⟩ := y
  exact ⟨T, .int (i : Nat), x, h1, h2, h3, rfl, h4 xs q⟩
theorem wk_enumT (ha : TupAt K O H a xs) (rl : RepL K O H ds xs) : Wk K O H (IteT K a) (enumD 0 ds) :=
  wk_of walk_enumT (by rw [enumD_len, rl.len]) (fun O' H' kp => (ha.kept kp).sq) fun O' H' F' i d x H2 kp wf hd ⟨T, x1, y1, ex, hT, eH, hx, hy⟩ => by
    obtain ⟨e, he, ed⟩ := enumD_get hd
    subst ex eH ed
    cases hx
    rw [Nat.zero_add]
    exact rep_pair wf.nil hT rfl (repL_at (rl.kept kp) he hy)
end
section
variable {X : Cx} {env env1 env2 : Sls} {d : D} {ds es : List D} {pos p : Pos} {e e2 tg a b : Expr} {elts : List Expr} {kk : Nat} {tpos : Pos}
theorem iv_enumT (h : Ev X e env (.val (.tup ds)) env1) (hm : X.mg "enumerate" = none := by assumption) (hg : Gl X "enumerate" := by rfl) (he : starEach [e] X.env = [(false, eval e X.env)] := by rfl) (he' : starEach [e] X.env = (false, eval e X.env) :: starEach [] X.env := by rfl) : Iv X (.Tuple elts kk tpos) (.Call (.Name "enumerate" p) [e] [] pos) env (enumD 0 ds) env1 :=
  ⟨h.1, fun O H σ F r w R q => ⟨_, pi_enumT hg hm (pa_cons pe_w pa_nil he') he, h.2 O H σ F r w _ fun O1 H1 v Fv F1 ⟨ev, rv⟩ rs s => by
    subst ev
    obtain ⟨a, xs, ea, ta, rl⟩ := rv
    exact ⟨a, xs, by rw [ea], TupAt.sq ta, q O1 H1 _ F1 (wk_enumT ta rl) rs s⟩⟩⟩
end
/-! ### zip(tuple, list) -/
def ItzM (K : PySem.W.Frag) (a b : Addr) : It :=
  ⟨fun i H => ∃ (xs ys : List V) (x y : V), SqT K H a xs ∧ SqL K H b ys ∧ xs[i]? = some x ∧ ys[i]? = some y,
    fun i H v H' => ∃ T x y, v = .ref T ∧ H T = none ∧ H' = upd H T (.tup [x, y]) ∧ (∀ xs, SqT K H a xs → xs[i]? = some x) ∧ ∀ ys, SqL K H b ys → ys[i]? = some y,
    fun i H => ∃ xs ys : List V, SqT K H a xs ∧ SqL K H b ys ∧ i ≤ xs.length ∧ i ≤ ys.length ∧ (i = xs.length ∨ i = ys.length)⟩
theorem turn_zipM {P : Program} {w : World} {K : PySem.W.Frag} {elts : List Expr} {kk : Nat} {tpos : Pos} {a b z TI TO i1 i2 : Addr} (D : ZipSep2 z TI TO i1 i2 [i1, a] [i2, b]) (ha1 : a ≠ i1) (hb2 : b ≠ i2) :
    Turn P w K (.Tuple elts kk tpos) (ItzM K a b) [z, TI, TO, i1, i2] z (fun i h => IsZip h z TI TO .none ∧ IsTupOf2 h TI (.ref i1) (.ref i2) ∧ (∃ x y, IsTupOf2 h TO x y) ∧ h.IsTupleIter i1 a i ∧ h.IsListIter i2 b i) where
  mem := by simp
  obj := fun i h st c hc => by
    obtain ⟨hz, hTI, ⟨x, y, hTO⟩, ⟨o1, e1, _, d1⟩, ⟨o2, e2, _, d2⟩⟩ := st
    have e' : c = z ∨ c = TI ∨ c = TO ∨ c = i1 ∨ c = i2 := by simpa using hc
    rcases e' with q | q | q | q | q
    · rw [q]; exact ⟨_, hz, fun v q => nomatch q⟩
    · rw [q]; exact ⟨_, hTI, fun v q => nomatch q⟩
    · rw [q]; exact ⟨_, hTO, fun v q => nomatch q⟩
    · rw [q]; exact ⟨o1, e1, fun v q => by rw [d1] at q; cases q⟩
    · rw [q]; exact ⟨o2, e2, fun v q => by rw [d2] at q; cases q⟩
  keep := fun i h h' st k => by
    obtain ⟨hz, hTI, ⟨x, y, hTO⟩, h1, h2⟩ := st
    exact ⟨k z (by simp) _ hz, k TI (by simp) _ hTI, ⟨x, y, k TO (by simp) _ hTO⟩, h1.at fun o q => k i1 (by simp) o q, h2.at fun o q => k i2 (by simp) o q⟩
  item := by
    intro X hP hw hK hc i pins s σ H E I hf st hg
    subst hP hw hK
    obtain ⟨hz, hTI, ⟨x0, y0, hTO⟩, h1, h2⟩ := st
    obtain ⟨xs, ys, x, y, hqx, hqy, hx, hy⟩ := hg
    obtain ⟨its, rv, p, _⟩ := I.tuple hqx
    obtain ⟨its2, rv2, p2, _⟩ := I.list hqy
    obtain ⟨u, hu, ru⟩ := rv.get hx
    obtain ⟨u2, hu2, ru2⟩ := rv2.get hy
    have hzl : z < s.heap.objs.size := Heap.lt_size hz
    have l1 : i < its.toArray.size := by
      have := (List.getElem?_eq_some_iff.mp hu).1
      simpa using this
    have l2 : i < its2.toArray.size := by
      have := (List.getElem?_eq_some_iff.mp hu2).1
      simpa using this
    refine wpAny_pyNext_zipD2_item D (Draws.tuple (A := X.A.in1) (I.ok.hd hc) i1 a ha1 its.toArray) (Draws.list (A := X.A.in1) (I.ok.hd hc) i2 b hb2 its2.toArray) hz hTI hTO ⟨h1, p⟩ ⟨h2, p2.isList⟩ l1 l2 fun x1 x2 h' tk q1 q2 z' TO' h1' h2' hT hsz hk => ?_
    have ex : x1 = u := by
      have q : its[i]? = some x1 := by simpa using q1
      rw [hu] at q
      exact (Option.some.inj q).symm
    have ex2 : x2 = u2 := by
      have q : its2[i]? = some x2 := by simpa using q2
      rw [hu2] at q
      exact (Option.some.inj q).symm
    subst ex ex2
    refine ⟨_, rfl, wpAny_letOwnedTupleGo_zip (s := { s with heap := h', toks := tk }) z' fun h'' z'' sb => ?_⟩
    have hT2 : h''.get? s.heap.objs.size = some { cls := .type "tuple", data := .seq #[x1, x2] } := (sb.2 _ (Nat.ne_of_gt hzl)).trans hT
    have new : ObjOk X.prog X.w (upd H s.heap.objs.size (.tup [x, y])) h'' s.heap.objs.size (.tup [x, y]) :=
      ⟨by show 2 ≤ sizeLine; decide, [x1, x2], .cons ru (.cons ru2 .nil), ⟨_, hT2, rfl, _, rfl⟩⟩
    have I1 : Inv X pins σ (upd H s.heap.objs.size (.tup [x, y])) { s with heap := h'', toks := tk } :=
      I.turnedNew (t' := tk) (ch := [z, TI, TO, i1, i2]) (fun c o hb q => (sb.2 c (fun q' => hb (by simp [q']))).trans (hk c o (fun q' => hb (by simp [q'])) (fun q' => hb (by simp [q'])) (fun q' => hb (by simp [q'])) (fun q' => hb (by simp [q'])) q)) hf (Nat.le_refl _) new
    refine ⟨.ref s.heap.objs.size, _, I1, rfl, ⟨_, x, y, rfl, I.hok.fresh (Nat.le_refl _), rfl, fun l hl => by rw [I.tuple_inj hl hqx]; exact hx, fun l hl => by rw [I.list_inj hl hqy]; exact hy⟩, ⟨z'', ?_, ⟨x1, x2, ?_⟩, ?_, ?_⟩, fun c hcm => ?_⟩
    · exact (sb.2 _ D.TIz).trans (hk _ _ D.TIz D.TITO D.TIi1 D.TIi2 hTI)
    · exact (sb.2 _ D.TOz).trans TO'
    · exact h1'.1.at fun o q => (sb.2 _ (Ne.symm D.zi1)).trans q
    · exact h2'.1.at fun o q => (sb.2 _ (Ne.symm D.zi2)).trans q
    · have hlt : c < s.heap.objs.size := by
        have e' : c = z ∨ c = TI ∨ c = TO ∨ c = i1 ∨ c = i2 := by simpa using hcm
        rcases e' with q | q | q | q | q
        · rw [q]; exact hzl
        · rw [q]; exact Heap.lt_size hTI
        · rw [q]; exact Heap.lt_size hTO
        · rw [q]; obtain ⟨_, e1, _⟩ := h1; exact Heap.lt_size e1
        · rw [q]; obtain ⟨_, e2, _⟩ := h2; exact Heap.lt_size e2
      rw [upd_ne (Nat.ne_of_lt hlt)]
      exact (hf c hcm).1
  done := by
    intro X hP hw hK hc i pins s σ H E I hf st hg
    subst hP hw hK
    obtain ⟨hz, hTI, ⟨x0, y0, hTO⟩, h1, h2⟩ := st
    obtain ⟨xs, ys, hqx, hqy, b1, b2, hend⟩ := hg
    obtain ⟨its, rv, p, _⟩ := I.tuple hqx
    obtain ⟨its2, rv2, p2, _⟩ := I.list hqy
    have l1 := rv.length
    have l2 := rv2.length
    refine wpAny_pyNext_zipD2_end D (Draws.tuple (A := X.A.in1) (I.ok.hd hc) i1 a ha1 its.toArray) (Draws.list (A := X.A.in1) (I.ok.hd hc) i2 b hb2 its2.toArray) hz hTI hTO ⟨h1, p⟩ ⟨h2, p2.isList⟩ (by rw [List.size_toArray]; omega) (by rw [List.size_toArray]; omega) (by rw [List.size_toArray, List.size_toArray]; omega) fun h' tk hk => ⟨rfl, I.turnedL (t' := tk) (ch := [z, TI, TO, i1, i2]) (fun c o hb q =>
      hk c o (fun q' => hb (by simp [q'])) (fun q' => hb (by simp [q'])) (fun q' => hb (by simp [q'])) (fun q' => hb (by simp [q'])) q) hf⟩
  self := fun A i s Q E st h => wpAny_pyIter_zip st.1 h
def iZipM (K : PySem.W.Frag) (ta : TA) : TI := fun σ H R => ta σ H fun vs H1 => ∃ a b xs ys, vs = [.ref a, .ref b] ∧ SqT K H1 a xs ∧ SqL K H1 b ys ∧ R (ItzM K a b) H1
theorem pi_zipM {X : Cx} {e e2 : Expr} {ta : TA} {p pos tpos : Pos} {elts : List Expr} {kk : Nat} (hg : Gl X "zip") (hm : X.mg "zip" = none) (ha : PA X [e, e2] ta)
    (hs : starEach [e, e2] X.env = (false, eval e X.env) :: starEach [e2] X.env := by rfl) (hpl : (backTo pos (starEach [e2] X.env)).any (·.1) = false := by rfl) :
    PI X (.Tuple elts kk tpos) (.Call (.Name "zip" p) [e, e2] [] pos) (iZipM X.K ta) := by
  refine ⟨fun pins s σ H R I h => ?_⟩
  refine Call_ (ld_blt I hg hm PyProof.Rows.boot_zip (PyProof.Rows.callWith_type1 (thn (ha.run pos pins s σ H _ I h) fun us s1 ⟨vs, H1, I1, r1, q1⟩ => ?_) hs hpl))
  obtain ⟨a, b, xs, ys, ex, hqx, hqy, q⟩ := q1
  subst ex
  cases r1 with
  | cons r rr =>
    cases rr with
    | cons r' rr =>
      cases rr
      cases r
      cases r'
      have fresh5 : ∀ c, c ∈ [s1.heap.objs.size + 4, s1.heap.objs.size + 2, s1.heap.objs.size + 3, s1.heap.objs.size, s1.heap.objs.size + 1] → FpOk X pins H1 c := fun c hcm => by
        have e' : c = s1.heap.objs.size + 4 ∨ c = s1.heap.objs.size + 2 ∨ c = s1.heap.objs.size + 3 ∨ c = s1.heap.objs.size ∨ c = s1.heap.objs.size + 1 := by simpa using hcm
        have hle : s1.heap.objs.size ≤ c := by
          rcases e' with z | z | z | z | z
          · rw [z]; exact Nat.le_add_right _ _
          · rw [z]; exact Nat.le_add_right _ _
          · rw [z]; exact Nat.le_add_right _ _
          · rw [z]; exact Nat.le_refl _
          · rw [z]; exact Nat.le_add_right _ _
        exact I1.fpOk hle (I1.hok.fresh hle)
      obtain ⟨its, rv, p1, _⟩ := I1.tuple hqx
      obtain ⟨its2, rv2, p2, _⟩ := I1.list hqy
      obtain ⟨o1, ho1, _⟩ := id p1
      have hal : a < s1.heap.objs.size := Heap.lt_size ho1
      have hbl : b < s1.heap.objs.size := p2.lt
      refine zip_begins2 (begins_tuple a its.toArray) (begins_list b its2.toArray) (show s1.heap.IsTuple a its.toArray from p1) p2.isList fun h' hz hTI hTO h1 h2 hsz hk => wpAny_pyIter_zip hz ?_
      have I2 : Inv X pins σ H1 { s1 with heap := h' } := I1.kept (t' := s1.toks) hk
      have sep : ZipSep2 (s1.heap.objs.size + 4) (s1.heap.objs.size + 2) (s1.heap.objs.size + 3) s1.heap.objs.size (s1.heap.objs.size + 1) [s1.heap.objs.size, a] [s1.heap.objs.size + 1, b] := zip_sep2 (fp1 := [a]) (fp2 := [b]) (by simpa using hal) (by simpa using hbl)
      exact ⟨s1.heap.objs.size + 4, [s1.heap.objs.size + 4, s1.heap.objs.size + 2, s1.heap.objs.size + 3, s1.heap.objs.size, s1.heap.objs.size + 1], _, _, H1, rfl, I2, turn_zipM sep (Nat.ne_of_lt hal) (Nat.ne_of_lt (Nat.lt_succ_of_lt hbl)), ⟨hz, hTI, ⟨_, _, hTO⟩, ⟨_, h1, rfl, rfl⟩, ⟨_, h2, rfl, rfl⟩⟩, fresh5, q⟩
section
variable {K : PySem.W.Frag} {O : OW} {H : Hp} {ds es : List D} {a b : Addr} {xs zs : List V}
theorem walk_zipM : Walk (ItzM K a b) (min xs.length zs.length) (fun H => SqT K H a xs ∧ SqL K H b zs) (YPair (fun i => xs[i]?) (fun i => zs[i]?)) := by
  refine ⟨fun i H hi q => ?_, fun H q => ⟨xs, zs, q.1, q.2, by omega, by omega, by omega⟩, fun i H v H' _ q y => ?_⟩
  · have h1 : i < xs.length := by omega
    have h2 : i < zs.length := by omega
    exact ⟨xs, zs, xs[i], zs[i], q.1, q.2, List.getElem?_eq_getElem h1, List.getElem?_eq_getElem h2⟩
  · obtain ⟨T, x, z, h1, h2, h3, h4, h5⟩ := y
    exact ⟨T, x, z, h1, h2, h3, h4 xs q.1, h5 zs q.2⟩
theorem wk_zipM (ha : TupAt K O H a xs) (rl : RepL K O H ds xs) (nb : ¬ O b) (hb : H b = some (.lst zs)) (rm : RepL K O H es zs) : Wk K O H (ItzM K a b) (zipD ds es) :=
  wk_of (walk_zipM (xs := xs) (zs := zs)) (by rw [zipD_len, rl.len, rm.len]) (fun O' H' kp => ⟨(ha.kept kp).sq, .inl (.inl (kp.1 b _ hb nb))⟩) fun O' H' F' i d x H2 kp wf hd ⟨T, x1, y1, ex, hT, eH, hx, hy⟩ => by
    obtain ⟨e, f, he, hf, ed⟩ := zipD_get hd
    subst ex eH ed
    exact rep_pair wf.nil hT (repL_at (rl.kept kp) he hx) (repL_at (rm.kept kp) hf hy)
end
section
variable {X : Cx} {env env1 env2 : Sls} {d : D} {ds es : List D} {pos p : Pos} {e e2 tg a b : Expr} {elts : List Expr} {kk : Nat} {tpos : Pos}
theorem iv_zipM (ha : Ev X e env (.val (.tup ds)) env1) (hb : Ev X e2 env1 (.val (.lst es)) env2) (hm : X.mg "zip" = none := by assumption) (hg : Gl X "zip" := by rfl)
    (he2 : (backTo pos (starEach [e2] X.env)).any (·.1) = false := by rfl) (he' : starEach [e, e2] X.env = (false, eval e X.env) :: starEach [e2] X.env := by rfl) (he3 : starEach [e2] X.env = (false, eval e2 X.env) :: starEach [] X.env := by rfl) : Iv X (.Tuple elts kk tpos) (.Call (.Name "zip" p) [e, e2] [] pos) env (zipD ds es) env2 :=
  ⟨ha.1.trans hb.1, fun O H σ F r w R q => ⟨_, pi_zipM hg hm (pa_cons pe_w (pa_cons pe_w pa_nil he3) he') he' he2, two ha hb r w (R := fun u v H' => ∃ a b xs ys, [u, v] = [V.ref a, V.ref b] ∧ SqT X.K H' a xs ∧ SqL X.K H' b ys ∧ R (ItzM X.K a b) H') fun O1 H1 u v F1 ru rv rs s => by
    obtain ⟨a, xs, ea, ta, rl⟩ := ru
    obtain ⟨b, ys, eb, nb, hb, rm⟩ := rv
    exact ⟨a, b, xs, ys, by rw [ea, eb], TupAt.sq ta, .inl (.inl hb), q O1 H1 _ F1 (wk_zipM ta rl nb hb rm) rs s⟩⟩⟩
end
end Lin

end

section
namespace Lin
open PySem PySem.Spec PySem.Calls PyProof.Rows L2
/-! ### results: names of matches -/
abbrev Rs := List (Nat × Int)
def resK (rs : Rs) : KD := rs.map fun p => (Sum.inl (p.1 : Int), D.int p.2)
def lookR (rs : Rs) (k : Nat) : Option Int := (rs.find? fun p => decide (p.1 = k)).map (·.2)
theorem look_res (rs : Rs) (k : Nat) : lookD (resK rs) (.inl (k : Int)) = (lookR rs k).map D.int := by
  unfold lookD lookR resK
  induction rs with
  | nil => rfl
  | cons p rs ih =>
    rw [List.map_cons, List.find?_cons, List.find?_cons]
    by_cases h : p.1 = k
    · have h1 : decide ((Sum.inl (p.1 : Int) : Key) = .inl (k : Int)) = true := by rw [h]; simp
      have h2 : decide (p.1 = k) = true := by simp [h]
      simp only [h1, h2]; rfl
    · have h1 : decide ((Sum.inl (p.1 : Int) : Key) = .inl (k : Int)) = false := decide_eq_false fun z => h (by have := Sum.inl.inj z; omega)
      have h2 : decide (p.1 = k) = false := decide_eq_false h
      simp only [h1, h2]
      exact ih
theorem get_res (rs : Rs) (k : Nat) : getD ((resK rs).map (·.1)) ((resK rs).map (·.2)) (.inl (k : Int)) = (lookR rs k).map D.int := by rw [getD_look, look_res]
theorem lookR_none {rs : Rs} {k : Nat} : lookR rs k = none ↔ k ∉ rs.map (·.1) := by
  unfold lookR
  rw [Option.map_eq_none_iff, List.find?_eq_none]
  constructor
  · intro h z
    obtain ⟨p, hp, e⟩ := List.mem_map.mp z
    exact h p hp (by simp [e])
  · intro h p hp z
    exact h (List.mem_map.mpr ⟨p, hp, of_decide_eq_true z⟩)
theorem lookR_some {rs : Rs} {k : Nat} {v : Int} (h : lookR rs k = some v) : (k, v) ∈ rs := by
  unfold lookR at h
  obtain ⟨p, hp, e⟩ := Option.map_eq_some_iff.mp h
  have h1 := List.mem_of_find?_eq_some hp
  have h2 := List.find?_some hp
  have h2 : p.1 = k := of_decide_eq_true h2
  rw [← h2, ← e]; exact h1
theorem lookR_mem : ∀ {rs : Rs} {k : Nat} {v : Int}, (rs.map (·.1)).Nodup → (k, v) ∈ rs → lookR rs k = some v
  | [], _, _, _, h => by cases h
  | p :: rs, k, v, nd, h => by
    rw [List.map_cons, List.nodup_cons] at nd
    unfold lookR
    rw [List.find?_cons]
    rcases List.mem_cons.mp h with e | h
    · subst e; simp
    · have ne : p.1 ≠ k := fun e => nd.1 (by rw [e]; exact List.mem_map.mpr ⟨(k, v), h, rfl⟩)
      simp only [decide_eq_false ne]
      exact lookR_mem nd.2 h
theorem lookR_app {rs qs : Rs} {k : Nat} : lookR (rs ++ qs) k = (lookR rs k).or (lookR qs k) := by
  unfold lookR
  rw [List.find?_append]
  cases rs.find? fun p => decide (p.1 = k) <;> simp
theorem resK_app (rs qs : Rs) : resK (rs ++ qs) = resK rs ++ resK qs := List.map_append
theorem resK_keys (rs : Rs) : (resK rs).map (·.1) = (rs.map (·.1)).map fun k => (Sum.inl (k : Int) : Key) := by unfold resK; rw [List.map_map, List.map_map]; rfl
theorem resK_len (rs : Rs) : ((resK rs).map (·.1)).length = rs.length := by rw [List.length_map]; exact List.length_map ..
theorem put_new {rs : Rs} {k : Nat} {v : Int} (h : k ∉ rs.map (·.1)) : putD (resK rs) (.inl (k : Int)) (.int v) = resK (rs ++ [(k, v)]) := by
  unfold putD
  rw [if_neg, resK_app]
  · rfl
  · intro z
    obtain ⟨q, hq, e⟩ := List.any_eq_true.mp z
    obtain ⟨p, hp, rfl⟩ := List.mem_map.mp hq
    have e : (Sum.inl (p.1 : Int) : Key) = .inl (k : Int) := of_decide_eq_true e
    exact h (List.mem_map.mpr ⟨p, hp, by have := Sum.inl.inj e; omega⟩)
theorem drop_last {rs : Rs} {k : Nat} {v : Int} (h : k ∉ rs.map (·.1)) : dropD (resK (rs ++ [(k, v)])) (.inl (k : Int)) = resK rs := by
  unfold dropD
  rw [resK_app, List.filter_append]
  have e1 : (resK rs).filter (fun kv => decide (kv.1 ≠ (Sum.inl (k : Int) : Key))) = resK rs := by
    refine List.filter_eq_self.mpr fun q hq => ?_
    obtain ⟨p, hp, rfl⟩ := List.mem_map.mp hq
    refine decide_eq_true fun e => h (List.mem_map.mpr ⟨p, hp, ?_⟩)
    have := Sum.inl.inj e; omega
  have e2 : (resK [(k, v)]).filter (fun kv => decide (kv.1 ≠ (Sum.inl (k : Int) : Key))) = [] := by simp [resK]
  rw [e1, e2, List.append_nil]
/-- the side that a part is by what is known -/
def sideW (f : Nat → Option Int) : Pt → Option Int
  | .side n => some n
  | .mtch k => f k
def oD : Option Int → D
  | none => .none
  | some n => .int n
theorem sideW_mono {f g : Nat → Option Int} (h : ∀ k v, f k = some v → g k = some v) : ∀ {p : Pt} {v : Int}, sideW f p = some v → sideW g p = some v
  | .side _, _, e => e
  | .mtch k, v, e => h k v e
/-! ### the sides of a match -/
theorem sds_at {f : Prs} (ok : OkF f) {k : Nat} {p : Pt × Pt} (h : f[k]? = some p) : (sdsOf f)[k]? = some (isort (ptS (sdsOf f) p.1 ++ ptS (sdsOf f) p.2)) := by
  have hl : k < f.length := (List.getElem?_eq_some_iff.mp h).1
  have e : f = f.take k ++ p :: f.drop (k + 1) := by
    have := (List.take_append_drop k f).symm
    rw [List.drop_eq_getElem_cons hl] at this
    rw [(List.getElem?_eq_some_iff.mp h).2] at this
    exact this
  have hp : sdsOf (f.take k) <+: sdsOf f := by
    have := sdsOf_pre (f.take k) (p :: f.drop (k + 1))
    rw [← e] at this
    exact this
  have hp2 : sdsOf (f.take k ++ [p]) <+: sdsOf f := by
    have := sdsOf_pre (f.take k ++ [p]) (f.drop (k + 1))
    rw [List.append_assoc, List.singleton_append, ← e] at this
    exact this
  have lk : (sdsOf (f.take k)).length = k := by rw [sdsOf_len, List.length_take]; omega
  obtain ⟨o1, o2⟩ := ok k p h
  rw [ptS_pre hp (p := p.1) (by rw [lk]; exact o1), ptS_pre hp (p := p.2) (by rw [lk]; exact o2)]
  rw [sdsOf_snoc] at hp2
  obtain ⟨c, ec⟩ := hp2
  rw [← ec, sdStep, List.append_assoc, List.getElem?_append_right (by omega), lk, Nat.sub_self]
  rfl
/-- results that grew from parts that were known -/
structure Grow (f : Prs) (rs : Rs) : Prop where
  nd : (rs.map (·.1)).Nodup
  ok : ∀ k v, (k, v) ∈ rs → ∃ p a b, f[k]? = some p ∧ sideW (lookR rs) p.1 = some a ∧ sideW (lookR rs) p.2 = some b ∧ (v = a ∨ v = b)
theorem Grow.nil {f : Prs} : Grow f [] := ⟨List.nodup_nil, fun _ _ h => nomatch h⟩
theorem Grow.snoc {f : Prs} {rs : Rs} (h : Grow f rs) {k : Nat} {v : Int} {p : Pt × Pt} {a b : Int} (hk : k ∉ rs.map (·.1)) (hp : f[k]? = some p) (ha : sideW (lookR rs) p.1 = some a) (hb : sideW (lookR rs) p.2 = some b) (hv : v = a ∨ v = b) : Grow f (rs ++ [(k, v)]) := by
  have mono : ∀ j w, lookR rs j = some w → lookR (rs ++ [(k, v)]) j = some w := fun j w e => by rw [lookR_app, e]; rfl
  refine ⟨?_, fun j w hj => ?_⟩
  · rw [List.map_append, List.nodup_append]
    refine ⟨h.nd, by simp, fun x hx y hy e => ?_⟩
    have e2 : y = k := by simpa using hy
    exact hk (by rw [← e2, ← e]; exact hx)
  · rcases List.mem_append.mp hj with hj | hj
    · obtain ⟨q, c, d, h1, h2, h3, h4⟩ := h.ok j w hj
      exact ⟨q, c, d, h1, sideW_mono mono h2, sideW_mono mono h3, h4⟩
    · have e : (j, w) = (k, v) := by simpa using hj
      injection e with e1 e2
      subst e1 e2
      exact ⟨p, a, b, hp, sideW_mono mono ha, sideW_mono mono hb, hv⟩
theorem Grow.lt {f : Prs} {rs : Rs} (h : Grow f rs) {k : Nat} {v : Int} (hk : (k, v) ∈ rs) : k < f.length := by
  obtain ⟨p, _, _, hp, _⟩ := h.ok k v hk
  exact (List.getElem?_eq_some_iff.mp hp).1
theorem Grow.inSds {f : Prs} (ok : OkF f) {rs : Rs} (h : Grow f rs) : ∀ (k : Nat) (v : Int), (k, v) ∈ rs → v ∈ (sdsOf f).getD k [] := by
  intro k
  induction k using Nat.strongRecOn with
  | ind k ih =>
    intro v hv
    obtain ⟨p, a, b, hp, ha, hb, hab⟩ := h.ok k v hv
    obtain ⟨o1, o2⟩ := ok k p hp
    rw [List.getD_eq_getElem?_getD, sds_at ok hp]
    refine (isort_perm _).mem_iff.mpr (List.mem_append.mpr ?_)
    have part : ∀ {q : Pt} {c : Int}, OkPt k q → sideW (lookR rs) q = some c → c ∈ ptS (sdsOf f) q := fun {q c} oq e => by
      cases q with
      | side n => have e : n = c := Option.some.inj e; rw [← e]; exact List.mem_singleton.mpr rfl
      | mtch j => exact ih j oq c (lookR_some e)
    rcases hab with rfl | rfl
    · exact .inl (part o1 ha)
    · exact .inr (part o2 hb)
/-- a match whose parts are known -/
def freeB (f : Prs) (rs : Rs) (k : Nat) : Bool := match f[k]? with
  | none => false
  | some p => (sideW (lookR rs) p.1).isSome && (sideW (lookR rs) p.2).isSome
theorem free_some {f : Prs} {rs : Rs} {k : Nat} (h : freeB f rs k = true) : ∃ p a b, f[k]? = some p ∧ sideW (lookR rs) p.1 = some a ∧ sideW (lookR rs) p.2 = some b := by
  unfold freeB at h
  split at h
  · cases h
  · rename_i p e
    rw [Bool.and_eq_true, Option.isSome_iff_exists, Option.isSome_iff_exists] at h
    obtain ⟨⟨a, ha⟩, ⟨b, hb⟩⟩ := h
    exact ⟨p, a, b, e, ha, hb⟩
theorem free_ex {f : Prs} (ok : OkF f) {rs : Rs} : ∀ (k : Nat) (rest : List Nat), k ∈ rest → (∀ j, j < f.length → j ∈ rest ∨ j ∈ rs.map (·.1)) → (∀ j ∈ rest, j < f.length) → ∃ j ∈ rest, freeB f rs j = true := by
  intro k
  induction k using Nat.strongRecOn with
  | ind k ih =>
    intro rest hk hall hlt
    by_cases hb : freeB f rs k = true
    · exact ⟨k, hk, hb⟩
    · have hl := hlt k hk
      have hp : f[k]? = some f[k] := List.getElem?_eq_getElem hl
      obtain ⟨o1, o2⟩ := ok k f[k] hp
      have part : ∀ q : Pt, OkPt k q → sideW (lookR rs) q = none → ∃ j, j < k ∧ j ∈ rest := fun q oq e => by
        cases q with
        | side n => cases e
        | mtch j =>
          have oq : j < k := oq
          have e : lookR rs j = none := e
          rcases hall j (by omega) with z | z
          · exact ⟨j, oq, z⟩
          · exact absurd z (lookR_none.mp e)
      have hx : sideW (lookR rs) f[k].1 = none ∨ sideW (lookR rs) f[k].2 = none := by
        unfold freeB at hb
        rw [hp] at hb
        cases h1 : sideW (lookR rs) f[k].1 with
        | none => exact .inl rfl
        | some a =>
          cases h2 : sideW (lookR rs) f[k].2 with
          | none => exact .inr rfl
          | some b => exact absurd (by simp [h1, h2]) hb
      obtain ⟨j, hj, hjr⟩ := hx.elim (part _ o1) (part _ o2)
      exact ih j hj rest hjr hall hlt
end Lin

end

section
namespace Lin
open PySem PySem.Spec PySem.Calls PyProof.Rows L2
/-! ### endings -/
def sideE (e : List Int) : Pt → Int
  | .side n => n
  | .mtch k => e.getD k 0
structure EndOk (f : Prs) (e : List Int) : Prop where
  len : e.length = f.length
  ok : ∀ k p, f[k]? = some p → e.getD k 0 = sideE e p.1 ∨ e.getD k 0 = sideE e p.2
def Agree (rs : Rs) (e : List Int) : Prop := ∀ k v, lookR rs k = some v → e.getD k 0 = v
/-- the ending that full results are -/
def endOf (rs : Rs) (n : Nat) : List Int := (List.range n).map fun k => (lookR rs k).getD 0
theorem endOf_len (rs : Rs) (n : Nat) : (endOf rs n).length = n := by unfold endOf; rw [List.length_map, List.length_range]
theorem endOf_at {rs : Rs} {n k : Nat} (h : k < n) : (endOf rs n).getD k 0 = (lookR rs k).getD 0 := by
  unfold endOf
  rw [List.getD_eq_getElem?_getD, List.getElem?_map, List.getElem?_range h]; rfl
theorem Grow.agree {f : Prs} {rs qs : Rs} (h : Grow f (rs ++ qs)) : Agree rs (endOf (rs ++ qs) f.length) := fun k v e => by
  have e2 : lookR (rs ++ qs) k = some v := by rw [lookR_app, e]; rfl
  rw [endOf_at (h.lt (lookR_some e2)), e2]; rfl
theorem Grow.endOk {f : Prs} {rs : Rs} (h : Grow f rs) (hall : ∀ j, j < f.length → j ∈ rs.map (·.1)) : EndOk f (endOf rs f.length) := by
  refine ⟨endOf_len _ _, fun k p hp => ?_⟩
  have hk : k < f.length := (List.getElem?_eq_some_iff.mp hp).1
  have hs : ∃ v, lookR rs k = some v := by
    cases e : lookR rs k with
    | none => exact absurd (hall k hk) (lookR_none.mp e)
    | some v => exact ⟨v, rfl⟩
  obtain ⟨v, hv⟩ := hs
  obtain ⟨q, a, b, hq, ha, hb, hab⟩ := h.ok k v (lookR_some hv)
  rw [hp] at hq
  cases hq
  have part : ∀ {q : Pt} {c : Int}, sideW (lookR rs) q = some c → sideE (endOf rs f.length) q = c := fun {q c} e => by
    cases q with
    | side n => exact Option.some.inj e
    | mtch j =>
      have e : lookR rs j = some c := e
      show (endOf rs f.length).getD j 0 = c
      rw [endOf_at (h.lt (lookR_some e)), e]; rfl
  rw [endOf_at hk, hv, part ha, part hb]
  exact hab
/-! ### points -/
structure PoolS where
  t : Tr
  pts : List Int
  bonus : Int
  sheets : List (List Int)
def PoolS.d (p : PoolS) : D := .tup [p.t.d, .tup (p.pts.map D.int), .int p.bonus, .tup (p.sheets.map sdD)]
abbrev PoolS.f (p : PoolS) : Prs := (note p.t []).2
/-- what the right name for a match brings -/
def brought (f : Prs) (pts : List Int) (bonus : Int) (e : List Int) (k : Nat) : Int :=
  pts.getD k 0 + if e.getD k 0 > sideE e (f.getD k (.side 0, .side 0)).1 + sideE e (f.getD k (.side 0, .side 0)).2 - e.getD k 0 then bonus else 0
def term (f : Prs) (pts : List Int) (bonus : Int) (e s : List Int) (k : Nat) : Int := if s.getD k 0 = e.getD k 0 then brought f pts bonus e k else 0
/-- the points of a sheet behind the first m matches -/
def sc (f : Prs) (pts : List Int) (bonus : Int) (e s : List Int) : Nat → Int
  | 0 => 0
  | m + 1 => sc f pts bonus e s m + term f pts bonus e s m
def scoresF (f : Prs) (pts : List Int) (bonus : Int) (sheets : List (List Int)) (e : List Int) : List Int := sheets.map fun s => sc f pts bonus e s f.length
theorem scoresF_rev (f : Prs) (pts : List Int) (bonus : Int) (sheets : List (List Int)) (e : List Int) : scoresF f pts bonus sheets.reverse e = (scoresF f pts bonus sheets e).reverse := by unfold scoresF; rw [List.map_reverse]
theorem sc_twice (f : Prs) (pts : List Int) (bonus : Int) (e s : List Int) : ∀ m, m ≤ pts.length → sc f (pts.map fun x => x / 2 * 2) (bonus / 2 * 2) e s m = 2 * sc f (pts.map fun x => x / 2) (bonus / 2) e s m
  | 0, _ => rfl
  | m + 1, h => by
    show sc _ _ _ e s m + term _ _ _ e s m = 2 * (sc _ _ _ e s m + term _ _ _ e s m)
    rw [sc_twice f pts bonus e s m (by omega)]
    have hb : brought f (pts.map fun x => x / 2 * 2) (bonus / 2 * 2) e m = 2 * brought f (pts.map fun x => x / 2) (bonus / 2) e m := by
      unfold brought
      have g1 : (pts.map fun x => x / 2 * 2).getD m 0 = 2 * (pts.map fun x => x / 2).getD m 0 := by
        rw [List.getD_eq_getElem?_getD, List.getD_eq_getElem?_getD, List.getElem?_map, List.getElem?_map]
        cases pts[m]? with
        | none => rfl
        | some x => show x / 2 * 2 = 2 * (x / 2); omega
      rw [g1]
      split
      · omega
      · omega
    unfold term
    split
    · rw [hb]; omega
    · omega
theorem scoresF_twice (f : Prs) (pts : List Int) (bonus : Int) (sheets : List (List Int)) (e : List Int) (h : f.length ≤ pts.length) : scoresF f (pts.map fun x => x / 2 * 2) (bonus / 2 * 2) sheets e = (scoresF f (pts.map fun x => x / 2) (bonus / 2) sheets e).map fun x => 2 * x := by
  unfold scoresF
  rw [List.map_map]
  exact List.map_congr_left fun s _ => sc_twice f pts bonus e s _ h
theorem brought_pos {f : Prs} {pts : List Int} {bonus : Int} {e : List Int} (hp : ∀ x ∈ pts, 0 ≤ x) (hb : 0 ≤ bonus) (k : Nat) : pts.getD k 0 ≤ brought f pts bonus e k ∧ 0 ≤ brought f pts bonus e k := by
  have h0 : 0 ≤ pts.getD k 0 := by
    rw [List.getD_eq_getElem?_getD]
    cases h : pts[k]? with
    | none => exact Int.le_refl _
    | some x => exact hp x (List.mem_of_getElem? h)
  unfold brought
  split <;> omega
theorem sc_self_max {f : Prs} {pts : List Int} {bonus : Int} {e : List Int} (hp : ∀ x ∈ pts, 0 ≤ x) (hb : 0 ≤ bonus) (s : List Int) : ∀ m, sc f pts bonus e s m ≤ sc f pts bonus e e m
  | 0 => Int.le_refl _
  | m + 1 => by
    have ih := sc_self_max (f := f) (e := e) hp hb s m
    have h := (brought_pos (f := f) (e := e) hp hb m).2
    show sc _ _ _ e s m + term _ _ _ e s m ≤ sc _ _ _ e e m + term _ _ _ e e m
    have h1 : term f pts bonus e e m = brought f pts bonus e m := by unfold term; rw [if_pos rfl]
    have h2 : term f pts bonus e s m ≤ brought f pts bonus e m := by
      unfold term
      split
      · exact Int.le_refl _
      · exact h
    rw [h1]; omega
theorem sc_self_sum {f : Prs} {pts : List Int} {bonus : Int} {e : List Int} (hp : ∀ x ∈ pts, 0 ≤ x) (hb : 0 ≤ bonus) : ∀ m, (pts.take m).sum ≤ sc f pts bonus e e m
  | 0 => by simp [sc]
  | m + 1 => by
    have ih := sc_self_sum (f := f) (e := e) hp hb m
    have h := (brought_pos (f := f) (e := e) hp hb m).1
    have h1 : term f pts bonus e e m = brought f pts bonus e m := by unfold term; rw [if_pos rfl]
    show _ ≤ sc _ _ _ e e m + term _ _ _ e e m
    rw [h1, List.take_add_one, List.sum_append]
    have h2 : (pts[m]?.toList).sum = pts.getD m 0 := by
      rw [List.getD_eq_getElem?_getD]
      cases pts[m]? with
      | none => rfl
      | some x => simp
    rw [h2]; omega
theorem foldl_max : ∀ (xs : List Int) (a : Int), (∀ x ∈ xs, x ≤ a) → xs.foldl max a = a
  | [], a, _ => rfl
  | x :: xs, a, h => by
    rw [List.foldl_cons, show max a x = a by have := h x (List.mem_cons_self ..); omega]
    exact foldl_max xs a fun y hy => h y (List.mem_cons_of_mem _ hy)
end Lin

end

section
namespace Lin
open PySem PySem.Spec PySem.Calls PyProof.Rows L2
theorem rangeD_map : ∀ (lo : Int) (n : Nat), rangeD lo n = (List.range n).map fun k => D.int (lo + (k : Nat))
  | lo, 0 => rfl
  | lo, n + 1 => by
    rw [rangeD, rangeD_map (lo + 1) n, List.range_succ_eq_map, List.map_cons, List.map_map]
    congr 1
    · show D.int lo = D.int (lo + ((0 : Nat) : Int)); simp
    · apply List.map_congr_left
      intro k _
      show D.int (lo + 1 + (k : Nat)) = D.int (lo + ((k + 1 : Nat) : Int))
      congr 1; omega
theorem rangeD0 (n : Nat) : rangeD 0 n = (List.range n).map fun k => D.int (k : Nat) := by
  rw [rangeD_map]
  apply List.map_congr_left
  intro k _
  rw [Int.zero_add]
theorem oD_some (n : Int) : oD (some n) = .int n := rfl
/-- sheets as they are drawn -/
structure Known (sds : Sds) (n : Nat) (rs : Rs) : Prop where
  keys : rs.map (·.1) = List.range n
  ins : ∀ k v, (k, v) ∈ rs → v ∈ sds.getD k []
theorem Known.nil {sds : Sds} : Known sds 0 [] := ⟨rfl, fun _ _ h => nomatch h⟩
theorem Known.look {sds : Sds} {n : Nat} {rs : Rs} (h : Known sds n rs) {k : Nat} (hk : k < n) : ∃ a, lookR rs k = some a ∧ a ∈ sds.getD k [] := by
  cases e : lookR rs k with
  | none => exact absurd (lookR_none.mp e) (by rw [h.keys]; simpa using hk)
  | some a => exact ⟨a, rfl, h.ins k a (lookR_some e)⟩
theorem Known.side {sds : Sds} {n : Nat} {rs : Rs} (h : Known sds n rs) : ∀ {p : Pt}, OkPt n p → ∃ a, sideW (lookR rs) p = some a ∧ a ∈ ptS sds p
  | .side a, _ => ⟨a, rfl, List.mem_singleton.mpr rfl⟩
  | .mtch k, hk => h.look hk
theorem Known.new {sds : Sds} {n : Nat} {rs : Rs} (h : Known sds n rs) : n ∉ rs.map (·.1) := by rw [h.keys]; simp
theorem Known.snoc {sds : Sds} {n : Nat} {rs : Rs} (h : Known sds n rs) {v : Int} (hv : v ∈ sds.getD n []) : Known sds (n + 1) (rs ++ [(n, v)]) := by
  refine ⟨by rw [List.map_append, h.keys, List.range_succ]; rfl, fun k w hk => ?_⟩
  rcases List.mem_append.mp hk with hk | hk
  · exact h.ins k w hk
  · have e : (k, w) = (n, v) := by simpa using hk
    injection e with e1 e2
    subst e1 e2
    exact hv
/-- a sheet, or an ending: a side of each match -/
def SheetOk (sds : Sds) (s : List Int) : Prop := s.length = sds.length ∧ ∀ k, k < sds.length → s.getD k 0 ∈ sds.getD k []
theorem Known.sheet {sds : Sds} {rs : Rs} (h : Known sds sds.length rs) : SheetOk sds (endOf rs sds.length) :=
  ⟨endOf_len _ _, fun k hk => by
    obtain ⟨a, ha, hm⟩ := h.look hk
    rw [endOf_at hk, ha]
    exact hm⟩
/-- the sides of a match are its parts' -/
theorem part_in {f : Prs} (ok : OkF f) {k : Nat} {p : Pt × Pt} (hp : f[k]? = some p) {v : Int} (h : v ∈ ptS (sdsOf f) p.1 ∨ v ∈ ptS (sdsOf f) p.2) : v ∈ (sdsOf f).getD k [] := by
  rw [List.getD_eq_getElem?_getD, sds_at ok hp]
  exact (isort_perm _).mem_iff.mpr (List.mem_append.mpr h)
def prsT (k : Nat) (f : Prs) : List D := (f.zipIdx k).map fun p => D.tup [.int (p.2 : Nat), prD p.1]
theorem prsT_cons (k : Nat) (p : Pt × Pt) (f : Prs) : prsT k (p :: f) = .tup [.int (k : Nat), prD p] :: prsT (k + 1) f := rfl
theorem prsT_enum (f : Prs) : enumD 0 (f.map prD) = prsT 0 f := enumD_map prD 0 f
end Lin

end

section
namespace Lin
open PySem PySem.Spec PySem.Calls PyProof.Rows L2
section
variable {X : Cx} {env env1 env2 : Sls} {a b c e : Expr} {es rest : List Expr} {pos p p' : Pos} {d : D} {m m' : M} {ms : List M} {ds : List D} {n : Str} {s : Sl}
/-- x, y = a, b where a name is seen by a comprehension -/
theorem x1_parC (i j : Nat) {x y : Str} {m1 m2 : M} {px py pt : Pos} {kt k2 pt2} (h : EvMs X [a, b] env [m1, m2] env1) (hioI : ∀ m', env[i]? ≠ some (some (Sl.io m')) := by intro _ h; cases h) (hioJ : ∀ m', env[j]? ≠ some (some (Sl.io m')) := by intro _ h; cases h)
    (hiL : i < env.length := by simp) (hjL : j < env.length := by simp) (hN : X.N.Nodup := by assumption) (hi : X.N[i]? = some x := by rfl) (hj : X.N[j]? = some y := by rfl) (hx : Loc X.env.scope x := by first | exact Or.inl rfl | exact Or.inr rfl) (hy : Loc X.env.scope y := by first | exact Or.inl rfl | exact Or.inr rfl)
    (fx : X.fn x = true ∨ X.env.scope.names.lookup x = some .local := by first | exact .inl rfl | exact .inr rfl) (fy : X.fn y = true ∨ X.env.scope.names.lookup y = some .local := by first | exact .inl rfl | exact .inr rfl)
    (hc : X.calm = true := by rfl) (hw : swappedStores [.Tuple [.Name x px, .Name y py] kt pt] (.Tuple [a, b] k2 pt2) X.env = pure none := by rfl) (hs : swapsWithSole [.Tuple [.Name x px, .Name y py] kt pt] (.Tuple [a, b] k2 pt2) pos.line X.env = pure false := by rfl)
    (h1 : (assignEach [.Tuple [.Name x px, .Name y py] kt pt] X.env).map (·.2) = [assign (.Tuple [.Name x px, .Name y py] kt pt) X.env] := by rfl)
    (hs1 : (assignEach [.Name x px, .Name y py] X.env).map (·.2) = assign (.Name x px) X.env :: (assignEach [.Name y py] X.env).map (·.2) := by rfl) (hs2 : (assignEach [.Name y py] X.env).map (·.2) = assign (.Name y py) X.env :: (assignEach [] X.env).map (·.2) := by rfl)
    (hn : (assignEach [.Name x px, .Name y py] X.env).length = 2 := by rfl) (hst : (assignEach [.Name x px, .Name y py] X.env).findIdx? (·.1) = none := by rfl) :
    Ex1 X (.Assign [.Tuple [.Name x px, .Name y py] kt pt] (.Tuple [a, b] k2 pt2) pos) env (.nx ((env1.set i (some (.own m1))).set j (some (.own m2)))) := fun O H σ F r w D g =>
  ⟨_, ps_asg (pe_tup pa_w) (pg_tup hc (pgs_cons (pg_name hN hi hx fx) (pgs_cons (pg_name hN hj hy fy) pgs_nil hs2) hs1) hn hst) hs hw h1, h.2 O H σ F r w _ fun O1 H1 vs Fm F1 rml r1 s1 => by
    have hvl : vs.length = 2 := rml.len
    refine ⟨by rw [hvl]; decide, fun p hp => ?_⟩
    have s0 : Step O1 H1 [] O1 (upd H1 p (.tup vs)) [] := Step.newF s1.wf.nil hp
    have rml := s0.repML s1.wf.nil (fun _ _ => by simp) rml
    have r1 := r1.quiet s0
    have s1 := s1.trans w (s0.quiet s1.wf)
    obtain ⟨u, us, Fa, Fb, ev, ef, ra, v, vs', Fc, Fd, ev2, ef2, rb, en, en2⟩ := rml
    subst en ev2 ev
    subst en2 ef2 ef
    have hl : env1.length = env.length := by rw [← r1.len, r.len]
    obtain ⟨G1, G2, Gi, eg, q1, k1⟩ := RepS.drop i (some u) (by rw [hl]; exact hiL) r1
    have r2 := k1 u (.own m1) Fa ra
    obtain ⟨J1, J2, Ji, ej, q2, k2⟩ := RepS.drop j (some v) (by rw [List.length_set, hl]; exact hjL) r2
    have r3 := k2 v (.own m2) Fc rb
    refine ⟨p, [u, v], rfl, .inl (.inl upd_same), rfl, u, [v], rfl, v, [], rfl, rfl, g O1 _ _ _ r3 ((s1.permR (F2 := (J1 ++ (Fc ++ J2)) ++ (Gi ++ Ji)) (List.perm_iff_count.mpr fun a => ?_)).dropR) fun l m' z => ?_⟩
    · have e1 := congrArg (List.count a) eg
      have e2 := congrArg (List.count a) ej
      simp only [List.count_append, List.count_nil] at e1 e2 ⊢
      omega
    · have n1 : i ≠ l := fun q => hioI m' (q ▸ z)
      have n2 : j ≠ l := fun q => hioJ m' (q ▸ z)
      obtain ⟨m3, z3⟩ := h.1 l m' z
      exact ⟨⟨m3, by rw [List.getElem?_set_ne n2, List.getElem?_set_ne n1]; exact z3⟩, by rw [List.getElem?_set_ne n2, List.getElem?_set_ne n1]⟩⟩
/-- x, y, z = a, b, c where a name is seen by a comprehension -/
theorem x1_parC3 (i j l : Nat) {x y z : Str} {m1 m2 m3 : M} {px py pz pt : Pos} {kt k2 pt2} (h : EvMs X [a, b, c] env [m1, m2, m3] env1) (hioI : ∀ m', env[i]? ≠ some (some (Sl.io m')) := by intro _ h; cases h) (hioJ : ∀ m', env[j]? ≠ some (some (Sl.io m')) := by intro _ h; cases h) (hioL : ∀ m', env[l]? ≠ some (some (Sl.io m')) := by intro _ h; cases h)
    (hiL : i < env.length := by simp) (hjL : j < env.length := by simp) (hlL : l < env.length := by simp) (hN : X.N.Nodup := by assumption) (hi : X.N[i]? = some x := by rfl) (hj : X.N[j]? = some y := by rfl) (hl : X.N[l]? = some z := by rfl) (hx : Loc X.env.scope x := by first | exact Or.inl rfl | exact Or.inr rfl) (hy : Loc X.env.scope y := by first | exact Or.inl rfl | exact Or.inr rfl) (hz : Loc X.env.scope z := by first | exact Or.inl rfl | exact Or.inr rfl)
    (fx : X.fn x = true ∨ X.env.scope.names.lookup x = some .local := by first | exact .inl rfl | exact .inr rfl) (fy : X.fn y = true ∨ X.env.scope.names.lookup y = some .local := by first | exact .inl rfl | exact .inr rfl) (fz : X.fn z = true ∨ X.env.scope.names.lookup z = some .local := by first | exact .inl rfl | exact .inr rfl)
    (hc : X.calm = true := by rfl) (hw : swappedStores [.Tuple [.Name x px, .Name y py, .Name z pz] kt pt] (.Tuple [a, b, c] k2 pt2) X.env = pure none := by rfl) (hs : swapsWithSole [.Tuple [.Name x px, .Name y py, .Name z pz] kt pt] (.Tuple [a, b, c] k2 pt2) pos.line X.env = pure false := by rfl)
    (h1 : (assignEach [.Tuple [.Name x px, .Name y py, .Name z pz] kt pt] X.env).map (·.2) = [assign (.Tuple [.Name x px, .Name y py, .Name z pz] kt pt) X.env] := by rfl)
    (hs1 : (assignEach [.Name x px, .Name y py, .Name z pz] X.env).map (·.2) = assign (.Name x px) X.env :: (assignEach [.Name y py, .Name z pz] X.env).map (·.2) := by rfl) (hs2 : (assignEach [.Name y py, .Name z pz] X.env).map (·.2) = assign (.Name y py) X.env :: (assignEach [.Name z pz] X.env).map (·.2) := by rfl) (hs3 : (assignEach [.Name z pz] X.env).map (·.2) = assign (.Name z pz) X.env :: (assignEach [] X.env).map (·.2) := by rfl)
    (hn : (assignEach [.Name x px, .Name y py, .Name z pz] X.env).length = 3 := by rfl) (hst : (assignEach [.Name x px, .Name y py, .Name z pz] X.env).findIdx? (·.1) = none := by rfl) :
    Ex1 X (.Assign [.Tuple [.Name x px, .Name y py, .Name z pz] kt pt] (.Tuple [a, b, c] k2 pt2) pos) env (.nx (((env1.set i (some (.own m1))).set j (some (.own m2))).set l (some (.own m3)))) := fun O H σ F r w D g =>
  ⟨_, ps_asg (pe_tup pa_w) (pg_tup hc (pgs_cons (pg_name hN hi hx fx) (pgs_cons (pg_name hN hj hy fy) (pgs_cons (pg_name hN hl hz fz) pgs_nil hs3) hs2) hs1) hn hst) hs hw h1, h.2 O H σ F r w _ fun O1 H1 vs Fm F1 rml r1 s1 => by
    have hvl : vs.length = 3 := rml.len
    refine ⟨by rw [hvl]; decide, fun p hp => ?_⟩
    have s0 : Step O1 H1 [] O1 (upd H1 p (.tup vs)) [] := Step.newF s1.wf.nil hp
    have rml := s0.repML s1.wf.nil (fun _ _ => by simp) rml
    have r1 := r1.quiet s0
    have s1 := s1.trans w (s0.quiet s1.wf)
    obtain ⟨u, us, Fa, Fb, ev, ef, ra, v, vs', Fc, Fd, ev2, ef2, rb, v3, vs3, Fe, Ff, ev3, ef3, rc, en, en2⟩ := rml
    subst en ev3 ev2 ev
    subst en2 ef3 ef2 ef
    have hl : env1.length = env.length := by rw [← r1.len, r.len]
    obtain ⟨G1, G2, Gi, eg, q1, k1⟩ := RepS.drop i (some u) (by rw [hl]; exact hiL) r1
    have r2 := k1 u (.own m1) Fa ra
    obtain ⟨J1, J2, Ji, ej, q2, k2⟩ := RepS.drop j (some v) (by rw [List.length_set, hl]; exact hjL) r2
    have r3 := k2 v (.own m2) Fc rb
    obtain ⟨L1, L2, Li, el, q3, k3⟩ := RepS.drop l (some v3) (by rw [List.length_set, List.length_set, hl]; exact hlL) r3
    have r4 := k3 v3 (.own m3) Fe rc
    refine ⟨p, [u, v, v3], rfl, .inl (.inl upd_same), rfl, u, [v, v3], rfl, v, [v3], rfl, v3, [], rfl, rfl, g O1 _ _ _ r4 ((s1.permR (F2 := (L1 ++ (Fe ++ L2)) ++ (Gi ++ Ji ++ Li)) (List.perm_iff_count.mpr fun a => ?_)).dropR) fun k m' z => ?_⟩
    · have e1 := congrArg (List.count a) eg
      have e2 := congrArg (List.count a) ej
      have e3 := congrArg (List.count a) el
      simp only [List.count_append, List.count_nil] at e1 e2 e3 ⊢
      omega
    · have n1 : i ≠ k := fun q => hioI m' (q ▸ z)
      have n2 : j ≠ k := fun q => hioJ m' (q ▸ z)
      have n3 : l ≠ k := fun q => hioL m' (q ▸ z)
      obtain ⟨m3, z3⟩ := h.1 k m' z
      exact ⟨⟨m3, by rw [List.getElem?_set_ne n3, List.getElem?_set_ne n2, List.getElem?_set_ne n1]; exact z3⟩, by rw [List.getElem?_set_ne n3, List.getElem?_set_ne n2, List.getElem?_set_ne n1]⟩⟩
end
end Lin

end

section
namespace Lin
open PySem PySem.Spec PySem.Calls PyProof.Rows L2
section
variable {X : Cx} {env env1 env2 : Sls} {a b c e : Expr} {pos p p' : Pos}
/-- all([.. for ..]) of truths alone -/
theorem ev_allT {α : Type} {as : List α} (ha : Ev X e env (.lst (as.map fun _ => M.val (.bool true))) env1) (hm : X.mg "all" = none := by assumption) (hc : X.calm = true := by rfl) (hg : Gl X "all" := by rfl) (he : starEach [e] X.env = (false, eval e X.env) :: starEach [] X.env := by rfl) (hpl : (backTo pos (starEach [] X.env)).any (·.1) = false := by rfl) : Ev X (.Call (.Name "all" p) [e] [] pos) env (.val (.bool true)) env1 := by
  have h2 : Ev X e env (.val (.lst ((List.replicate as.length true).map D.bool))) env1 := (Ev.frzL (ds := (List.replicate as.length true).map D.bool) (ha.eq (by rw [frzL_trues as, List.map_replicate, List.map_replicate, List.map_replicate])))
  exact (ev_all h2 hm hc hg he hpl).eq (by rw [show (List.replicate as.length true).all id = true by induction as.length with
    | zero => rfl
    | succ n ih => rw [List.replicate_succ, List.all_cons, ih]; rfl])
end
section
variable {X : Cx} {env env1 env2 : Sls} {a b c : Expr} {pos : Pos} {i j : Int}
theorem tv_chLE {l : Int} (ha : Ev X a env (.val (.int l)) env1) (hb : Ev X b env1 (.val (.int i)) env2) (hc : Ev X c env2 (.val (.int j)) env2) (hm : lastMarks [CmpOp.LtE, CmpOp.LtE] [b, c] = false := by with_unfolding_all rfl) : Tv X (.Compare a [.LtE, .LtE] [b, c] pos) env (decide (l ≤ i) && decide (i ≤ j)) env2 :=
  ⟨ha.1.trans hb.1, fun O H σ F rs w Q q => ⟨_, pt_chain op_le op_le pe_w pe_w pe_w hm, two ha hb rs w fun O' H' u v F' ru rv r' s' => ⟨l, i, ru, rv, decide (l ≤ i), rfl, by
    by_cases h : l ≤ i
    · rw [if_pos (decide_eq_true h)]
      refine hc.2 O' H' σ F' r' s'.wf _ fun O2 H2 z Fz F2 ⟨ez, rz⟩ r2 s2 => ?_
      subst ez
      refine ⟨i, j, rv, rz, decide (i ≤ j), rfl, ?_⟩
      rw [decide_eq_true h, Bool.true_and] at q
      exact q O2 H2 F2 r2 (s'.trans w s2)
    · rw [if_neg (fun z => h (of_decide_eq_true z))]
      rw [decide_eq_false h, Bool.false_and] at q
      exact ⟨false, rfl, q O' H' F' r' s'⟩⟩⟩⟩
end
theorem zipD_map {α β : Type} (f : α → D) (g : β → D) : ∀ (xs : List α) (ys : List β), zipD (xs.map f) (ys.map g) = (xs.zip ys).map fun p => .tup [f p.1, g p.2]
  | [], ys => by cases ys <;> rfl
  | x :: xs, [] => rfl
  | x :: xs, y :: ys => by rw [List.map_cons, List.map_cons, zipD, List.zip_cons_cons, List.map_cons, zipD_map f g xs ys]
theorem itemsD_res : ∀ rs : Rs, itemsD ((resK rs).map (·.1)) ((resK rs).map (·.2)) = rs.map fun p => .tup [.int (p.1 : Nat), .int p.2]
  | [] => rfl
  | p :: rs => by
    show D.tup [kD (.inl (p.1 : Int)), .int p.2] :: itemsD ((resK rs).map (·.1)) ((resK rs).map (·.2)) = _
    rw [itemsD_res rs]; rfl
theorem keysD_res (rs : Rs) : ((resK rs).map (·.1)).map kD = rs.map fun p => D.int (p.1 : Nat) := by
  rw [resK_keys, List.map_map, List.map_map]; rfl
theorem SheetOk.zip {sds : Sds} {s : List Int} (h : SheetOk sds s) {p : Int × List Int} (hp : p ∈ s.zip sds) : p.1 ∈ p.2 := by
  obtain ⟨i, hi, e⟩ := List.getElem_of_mem hp
  rw [List.length_zip] at hi
  rw [List.getElem_zip] at e
  have h2 := h.2 i (by omega)
  rw [List.getD_eq_getElem?_getD, List.getD_eq_getElem?_getD, List.getElem?_eq_getElem (by omega), List.getElem?_eq_getElem (by omega)] at h2
  rw [← e]
  exact h2
theorem vF_ints (l : List Int) : (l.map D.int).map vF = l.map V.int := by rw [List.map_map]; rfl
theorem flat_ints (l : List Int) : (l.map D.int).all flatD = true := by
  induction l with
  | nil => rfl
  | cons k l ih => rw [List.map_cons, List.all_cons, ih]; rfl
theorem nodup_lt : ∀ (n : Nat) (l : List Nat), l.Nodup → (∀ x ∈ l, x < n) → l.length ≤ n
  | 0, l, _, h => by
    cases l with
    | nil => exact Nat.le_refl _
    | cons a r => exact absurd (h a (List.mem_cons_self ..)) (Nat.not_lt_zero _)
  | n + 1, l, nd, h => by
    by_cases hn : n ∈ l
    · have z := nodup_lt n (l.erase n) (nd.erase n) fun x hx => by
        have h1 := h x (List.mem_of_mem_erase hx)
        have h2 : x ≠ n := fun e => by rw [e] at hx; exact (nd.not_mem_erase) hx
        omega
      rw [List.length_erase_of_mem hn] at z
      omega
    · have z := nodup_lt n l nd fun x hx => by
        have h1 := h x hx
        have h2 : x ≠ n := fun e => hn (e ▸ hx)
        omega
      omega
theorem Grow.len {f : Prs} {rs : Rs} (g : Grow f rs) : rs.length ≤ f.length := by
  have q := nodup_lt f.length (rs.map (·.1)) g.nd fun k hk => by
    obtain ⟨p, hp, rfl⟩ := List.mem_map.mp hk
    exact g.lt (k := p.1) (v := p.2) hp
  rw [List.length_map] at q
  exact q
end Lin

end

section
namespace Lin
open PySem PySem.Spec PySem.Calls PyProof.Rows L2
/-- the first j by g, the rest by f -/
def mix {α : Type} (xs : List α) (f g : α → Int) (j : Nat) : List Int := (xs.take j).map g ++ (xs.drop j).map f
theorem mix_len {α : Type} (xs : List α) (f g : α → Int) (j : Nat) : (mix xs f g j).length = xs.length := by
  unfold mix
  rw [List.length_append, List.length_map, List.length_map, List.length_take, List.length_drop]; omega
theorem mix_zero {α : Type} (xs : List α) (f g : α → Int) : mix xs f g 0 = xs.map f := rfl
theorem mix_all {α : Type} (xs : List α) (f g : α → Int) : mix xs f g xs.length = xs.map g := by simp [mix]
theorem drop_at {α : Type} {xs : List α} {j : Nat} {s : α} (h : xs[j]? = some s) : xs.drop j = s :: xs.drop (j + 1) := by
  obtain ⟨h1, h2⟩ := List.getElem?_eq_some_iff.mp h
  rw [List.drop_eq_getElem_cons h1, h2]
theorem mix_at {α : Type} {xs : List α} {j : Nat} {s : α} (h : xs[j]? = some s) (f g : α → Int) : (mix xs f g j)[j]? = some (f s) := by
  have hj := (List.getElem?_eq_some_iff.mp h).1
  unfold mix
  rw [drop_at h, List.getElem?_append_right (by rw [List.length_map, List.length_take]; omega), List.length_map, List.length_take, Nat.min_eq_left (by omega), Nat.sub_self]
  rfl
theorem mix_set {α : Type} {xs : List α} {j : Nat} {s : α} (h : xs[j]? = some s) (f g : α → Int) : (mix xs f g j).set j (g s) = mix xs f g (j + 1) := by
  have hj := (List.getElem?_eq_some_iff.mp h).1
  unfold mix
  rw [drop_at h, List.set_append_right _ _ (by rw [List.length_map, List.length_take]; omega), List.length_map, List.length_take, Nat.min_eq_left (by omega), Nat.sub_self, List.take_add_one, h]
  simp
theorem mix_same {α : Type} {xs : List α} {j : Nat} {s : α} (h : xs[j]? = some s) (f g : α → Int) (e : g s = f s) : mix xs f g (j + 1) = mix xs f g j := by
  rw [← mix_set h f g, e]
  refine List.ext_getElem? fun i => ?_
  by_cases hi : i = j
  · subst hi
    have := mix_at h f g
    rw [List.getElem?_set_self (List.getElem?_eq_some_iff.mp this).1, this]
  · rw [List.getElem?_set_ne (Ne.symm hi)]
theorem foldl_count {α : Type} : ∀ (xs : List α) (n : Nat), xs.foldl (fun j _ => j + 1) n = n + xs.length
  | [], n => rfl
  | x :: xs, n => by rw [List.foldl_cons, foldl_count xs, List.length_cons]; omega
end Lin

end

section
namespace Lin
open PySem PySem.Spec PySem.Calls PyProof.Rows L2
section
variable {X : Cx} {env env1 env2 env' envr : Sls} {ys ds : List D} {ms : List M} {pos p : Pos} {elt tg it a b : Expr} {ifs : List Expr} {scope : Scope} {own : List (Str × Nat)} {n : Str} {x : D}
/-- name = [a comprehension] that looks at owned things -/
theorem x1_setLcS (i : Nat) {n : Str} {pos' spos : Pos} (he : envr = see env) (hi : Iv X tg it envr ys env1) (hr : LcR X scope tg elt ifs (own.map (·.2)) ys env1 ms env') (hf : flat (.lst ms) = true) (hb : Bare env1 (own.map (·.2))) (ok : BlkOk X.N X.env.scope scope own) (hz : ys.length ≤ sizeLine) (hio : ∀ m', env[i]? ≠ some (some (Sl.io m')) := by intro _ h; cases h) (hil : i < env.length := by simp) (hN : X.N.Nodup := by assumption) (hn : X.N[i]? = some n := by rfl)
    (hx : X.env.scope.names.lookup n = some .local := by rfl) (hsw : swapsWith (.ListComp elt [⟨tg, it, ifs, 0⟩] scope pos) (some (.Name n pos')) spos.line X.env = pure true := by rfl) (hc : X.calm = true := by rfl) (hs : ∀ x, foldedSetIterable it X.env x = pure x := by intro _; rfl) :
    Ex1 X (.Assign [.Name n pos'] (.ListComp elt [⟨tg, it, ifs, 0⟩] scope pos) spos) env (.nx (env.set i (some (.own (.lst ms))))) := fun O H σ F r w D g => by
  subst he
  obtain ⟨O1, w1, r1, k0⟩ := see_sem (m := .lst ms) r w
  exact ⟨_, ps_setLc hc hN hn hx hsw pi_w ok bg_ok bts_ok be_ok hs, lc_sem hi hr hb hz O1 H σ [] r1 w1 _ fun O' H' v Fv F' rm rs s => by
    obtain ⟨O2, rm2, rs2, st2⟩ := k0 O' H' v Fv F' hf rm s
    obtain ⟨F1, F2, Fi, ef, _, k⟩ := RepS.drop i (some v) hil rs2
    subst ef
    refine g O2 H' _ (F1 ++ (Fv ++ F2)) (k v (.own (.lst ms)) Fv rm2) ((st2.permR perm_drop).dropR) fun j m' z => ?_
    have hne : i ≠ j := fun q => hio m' (q ▸ z)
    exact ⟨⟨m', by rw [List.getElem?_set_ne hne]; exact z⟩, List.getElem?_set_ne hne⟩⟩
theorem tv_notInLF (ha : Ev X a env (.val x) env1) (hb : Ev X b env1 (.val (.lst ds)) env2) (hx : flatD x = true) (hd : ds.all flatD = true) (hm : behindInMarks .NotIn b = false := by first | exact nomark _ | rfl) : Tv X (.Compare a [.NotIn] [b] pos) env (!inV (vF x) (ds.map vF)) env2 := tv_cmp op_notIn_seq ha hb (ro_inL hx hd) hm
/-- a comprehension with a condition -/
theorem lcR_filter {vs : List Nat} {α : Type} (f : α → D) (out : α → M) (cond : α → Bool) (env : Sls) : ∀ (as : List α),
    (∀ a ∈ as, ∃ env1 env2 env3 : Sls, (InB X scope fun X' => Tg X' tg (f a) vs env env1) ∧ (InB X scope fun X' => Tvs X' ifs env1 (cond a) env2) ∧ (InB X scope fun X' => Ev X' elt env2 (out a) env3) ∧ wipeE env3 vs = env ∧ wipeE env2 vs = env) → LcR X scope tg elt ifs vs (as.map f) env ((as.filter cond).map out) env
  | [], _ => .nil
  | a :: as, h => by
    obtain ⟨env1, env2, env3, t, c, e, hw, hw2⟩ := h a (List.mem_cons_self ..)
    have ih := lcR_filter f out cond env as fun b hb => h b (List.mem_cons_of_mem _ hb)
    rw [List.filter_cons]
    by_cases z : cond a = true
    · rw [if_pos z]
      exact .yes t (by rw [z] at c; exact c) e (by rw [hw]; exact ih)
    · rw [if_neg z]
      exact .no t (by rw [Bool.eq_false_iff.mpr z] at c; exact c) (by rw [hw2]; exact ih)
end
theorem pd_self (ns : List Int) : PyData.eqv (pd (.lst (ns.map D.int))) (pd (.lst (ns.map D.int))) = true := by
  simp only [pd]
  induction ns with
  | nil => rfl
  | cons n ns ih =>
    show (decide (n = n) && PyData.eqv (pd (.lst (ns.map D.int))) (pd (.lst (ns.map D.int)))) = true
    rw [decide_eq_true rfl, Bool.true_and]
    exact ih
theorem pd_selfT (ns : List Int) : PyData.eqv (pd (.tup (ns.map D.int))) (pd (.tup (ns.map D.int))) = true := by
  simp only [pd]
  induction ns with
  | nil => rfl
  | cons n ns ih =>
    show (decide (n = n) && PyData.eqv (pd (.tup (ns.map D.int))) (pd (.tup (ns.map D.int)))) = true
    rw [decide_eq_true rfl, Bool.true_and]
    exact ih
theorem flat_mapI {α : Type} (g : α → Int) (xs : List α) : flat (.lst (xs.map fun x => .val (.int (g x)))) = true := by
  show flatL _ = true
  induction xs with
  | nil => rfl
  | cons x xs ih => show (true && flatL (xs.map fun x => M.val (.int (g x)))) = true; rw [ih]; rfl
theorem frz_mapI {α : Type} (g : α → Int) (xs : List α) : frz (.lst (xs.map fun x => .val (.int (g x)))) = .lst ((xs.map g).map D.int) := by
  show D.lst (frzL _) = _
  rw [frzL_eq, List.map_map, List.map_map]; rfl
theorem freeB_in (f : Prs) (rs : Rs) (k : Nat) (p : Pt × Pt) (h : f[k]? = some p) : (!inV (vF .none) ([oD (sideW (lookR rs) p.1), oD (sideW (lookR rs) p.2)].map vF)) = freeB f rs k := by
  unfold freeB
  rw [h]
  show (!inV .non [vF (oD (sideW (lookR rs) p.1)), vF (oD (sideW (lookR rs) p.2))]) = ((sideW (lookR rs) p.1).isSome && (sideW (lookR rs) p.2).isSome)
  cases sideW (lookR rs) p.1 <;> cases sideW (lookR rs) p.2 <;> rfl
/-- the last step of the law's growing -/
structure GrowSt (f : Prs) (rs : Rs) (rest : List Nat) : Prop where
  g : Grow f rs
  nd : rest.Nodup
  lt : ∀ k ∈ rest, k < f.length
  all : ∀ k, k < f.length → k ∈ rest ∨ k ∈ rs.map (·.1)
  no : ∀ k ∈ rest, k ∉ rs.map (·.1)
  len : rs.length + rest.length = f.length
theorem GrowSt.start (f : Prs) : GrowSt f [] (List.range f.length) :=
  ⟨Grow.nil, List.nodup_range, fun k h => List.mem_range.mp h, fun k h => .inl (List.mem_range.mpr h), fun k _ => by simp, by simp⟩
theorem GrowSt.step {f : Prs} {rs : Rs} {rest : List Nat} (h : GrowSt f rs rest) {k j : Nat} {v a b : Int} {p : Pt × Pt} (hj : rest[j]? = some k) (hp : f[k]? = some p) (ha : sideW (lookR rs) p.1 = some a) (hb : sideW (lookR rs) p.2 = some b) (hv : v = a ∨ v = b) : GrowSt f (rs ++ [(k, v)]) (rest.eraseIdx j) := by
  have hk : k ∈ rest := List.mem_of_getElem? hj
  have hjl := (List.getElem?_eq_some_iff.mp hj).1
  have sub : ∀ x ∈ rest.eraseIdx j, x ∈ rest := fun x hx => List.mem_of_mem_eraseIdx hx
  have pm : (k :: rest.eraseIdx j).Perm rest := by
    have : rest = rest.take j ++ k :: rest.drop (j + 1) := by rw [← drop_at hj, List.take_append_drop]
    rw [List.eraseIdx_eq_take_drop_succ]
    exact (List.perm_middle.symm).trans (this ▸ List.Perm.refl _)
  have nd2 : (k :: rest.eraseIdx j).Nodup := pm.nodup_iff.mpr h.nd
  refine ⟨h.g.snoc (h.no k hk) hp ha hb hv, (List.nodup_cons.mp nd2).2, fun x hx => h.lt x (sub x hx), fun x hx => ?_, fun x hx => ?_, ?_⟩
  · rw [List.map_append, List.mem_append]
    rcases h.all x hx with z | z
    · rcases List.mem_cons.mp (pm.mem_iff.mpr z) with e | e
      · exact .inr (.inr (by rw [e]; simp))
      · exact .inl e
    · exact .inr (.inl z)
  · rw [List.map_append, List.mem_append]
    rintro (z | z)
    · exact h.no x (sub x hx) z
    · have e : x = k := by simpa using z
      rw [e] at hx
      exact (List.nodup_cons.mp nd2).1 hx
  · rw [List.length_append, List.length_singleton, List.length_eraseIdx_of_lt hjl]
    have := h.len
    omega
theorem first_at {xs : List Nat} (nd : xs.Nodup) {j k : Nat} (h : xs[j]? = some k) : ∀ m, m < j → xs[m]? ≠ some k := fun m hm e => by
  obtain ⟨h1, h2⟩ := List.getElem?_eq_some_iff.mp h
  obtain ⟨h3, h4⟩ := List.getElem?_eq_some_iff.mp e
  exact List.pairwise_iff_getElem.mp nd m j h3 h1 hm (by rw [h4, h2])
theorem rev_range {α : Type} (xs : List α) (d : α) : ((List.range xs.length).reverse.map fun k => xs.getD k d) = xs.reverse := by
  rw [List.map_reverse]
  congr 1
  refine List.ext_getElem? fun i => ?_
  rw [List.getElem?_map]
  by_cases h : i < xs.length
  · rw [List.getElem?_range h, Option.map_some, List.getD_eq_getElem?_getD, List.getElem?_eq_getElem h]; rfl
  · rw [List.getElem?_eq_none (by rw [List.length_range]; omega), List.getElem?_eq_none (by omega)]; rfl
theorem erase_mapG {α β : Type} (f : α → β) : ∀ (xs : List α) (j : Nat), (xs.map f).eraseIdx j = (xs.eraseIdx j).map f
  | [], j => by simp
  | x :: xs, 0 => rfl
  | x :: xs, j + 1 => by rw [List.map_cons, List.eraseIdx_cons_succ, List.eraseIdx_cons_succ, List.map_cons, erase_mapG f xs j]
end Lin

end

section
namespace Lin
open PySem PySem.Spec PySem.Calls PyProof.Rows L2
def noIo : Sls → Bool
  | [] => true
  | some (.io _) :: _ => false
  | _ :: es => noIo es
theorem noIo_head {o : Option Sl} {es : Sls} (h : noIo (o :: es) = true) : (∀ m, o ≠ some (.io m)) ∧ noIo es = true := by
  rcases o with _ | (m | m)
  · exact ⟨(fun m e => by cases e), h⟩
  · exact ⟨(fun m e => by cases e), h⟩
  · cases h
theorem Ex.fgtL {X : Cx} {body : List Stmt} {env : Sls} : ∀ (xs pre : Sls), noIo xs = true → Ex X body env (.nx (pre ++ xs)) → Ex X body env (.nx (pre ++ xs.map fun _ => none))
  | [], pre, _, h => h
  | o :: xs, pre, hx, h => by
    obtain ⟨h1, h2⟩ := noIo_head hx
    have e1 : (pre ++ o :: xs)[pre.length]? = some o := by rw [List.getElem?_append_right (Nat.le_refl _), Nat.sub_self]; rfl
    have z := Ex.fgt pre.length h (fun m' e => by rw [e1] at e; exact h1 m' (Option.some.inj e)) (by rw [List.length_append, List.length_cons]; omega)
    have e2 : (pre ++ o :: xs).set pre.length none = (pre ++ [none]) ++ xs := by
      rw [List.set_append_right _ _ (Nat.le_refl _), Nat.sub_self, List.append_assoc]; rfl
    rw [e2] at z
    have z2 := Ex.fgtL xs (pre ++ [none]) h2 z
    rw [List.append_assoc] at z2
    exact z2
theorem foldl_dropLast {α β : Type} : ∀ (as : List α) (s : List β), s.length ≤ as.length → as.foldl (fun s _ => s.dropLast) s = []
  | [], s, h => List.length_eq_zero_iff.mp (Nat.le_zero.mp h)
  | a :: as, s, h => by
    rw [List.foldl_cons]
    exact foldl_dropLast as s.dropLast (by rw [List.length_dropLast]; simp only [List.length_cons] at h; omega)
theorem cut_take {α : Type} (xs : List α) (k : Nat) : cutD xs none (some (k : Int)) = xs.take k := by
  unfold cutD
  rw [HT.sIx_none, HT.sIx_nat, List.drop_zero, Nat.sub_zero]
  by_cases h : k ≤ xs.length
  · rw [Nat.min_eq_left h]
  · rw [Nat.min_eq_right (by omega), List.take_of_length_le (Nat.le_refl _), List.take_of_length_le (by omega)]
end Lin

end

section
namespace Lin
open PySem PySem.Spec PyProof.Rows L2
/-! ### the law's def at the top alone: there the guards are known -/
/-- what the law's def promises where it is called from the top -/
def TopOk (P : Program) (w : World) (K : PySem.W.Frag) (mg : Str → Option Value) (base : Heap) (fa : Addr) : Prop :=
  ∀ (t : Shared) (G : Hp) (x : Addr) (ns : List Int), ns.length ≤ 63 → Env0 P w K mg base callerA [] t G → SqL K G x (ns.map V.int) →
    codeAny (model P w) callerA (.call (.ref fa) ⟨[.ref x], []⟩) (CR CX0 [] P w G t (fun v _ => v = .bl true) (fun _ _ _ => False)) t
theorem top_core {P : Program} {w : World} {K : PySem.W.Frag} {mg mb : Str → Option Value} {fa x : Addr} {t : Shared} {vs : List Value} {ns : List Int} {G : Hp} (kin : K.In t.heap) (n1 : t.heap.Ns mainGlobals mg) (n2 : t.heap.Ns builtinsNs mb) (n3 : ∀ y : Str, y ≠ "__name__" → mb y = bootBuiltins y) (n4 : t.heap.NoLimit) (ge : t.gens = #[])
    (hx : t.heap.get? x = some { cls := .type "list", data := .seq vs.toArray }) (hl : ns.length ≤ 63) (F : ∀ base : Heap, K.In base → base.Ns mainGlobals mg → TopOk P w K mg base fa)
    (only : Only G) (sq : SqL K G x (ns.map V.int)) (ok : HOk P w G t.heap) (at1 : ∀ b, G b ≠ none → b = x) (at2 : G x ≠ none → K.lookup x = none) :
    codeAny (model P w) callerA (.call (.ref fa) ⟨[.ref x], []⟩) (fun r t' => r = .ok (.ret (.bool true)) ∧ OldK t.heap t'.heap ∧ t'.os = t.os ∧ AllBare t'.gens) t := by
  have free : ∀ {b : Addr} {o : Obj} {es : Array DictEntry} {ep : Nat}, t.heap.get? b = some o → o.data = .dict es ep → G b = none := by
    intro b o es ep g dd
    by_cases hb : G b = none
    · exact hb
    · have bx := at1 b hb
      rw [bx, hx] at g
      rw [← Option.some.inj g] at dd
      cases dd
  have ns' : ∀ {b : Addr} {m : Str → Option Value}, t.heap.Ns b m → (hidT t.heap G).Ns b m := by
    rintro b m ⟨o, es, ep, g, dd, rest⟩
    exact ⟨o, es, ep, hidT_get g (free g dd), dd, rest⟩
  have kin' : K.In (hidT t.heap G) := by
    intro b o lk
    refine hidT_get (kin b o lk) ?_
    by_cases hb : G b = none
    · exact hb
    · have bx := at1 b hb
      rw [bx] at lk hb
      rw [at2 hb] at lk
      cases lk
  obtain ⟨mc, c1, c2⟩ := n4
  have md : Mod K mg (hidT t.heap G) := ⟨kin', ns' n1, ⟨mb, ns' n2, n3⟩, mc, ns' c1, c2⟩
  have env : Env0 P w K mg (hidT t.heap G) callerA [] t G :=
    { frames := rfl, mod := md, bs := fun b o e => of_hidT e, bsz := Nat.le_of_eq (hidT_size _ _), funs := trivial, frf := (fun b hb => nomatch (show b ∈ ([] : List Addr) from hb)), hok := ok, bare := .of_eq ge }
  refine codeAny_mono (F _ kin' (ns' n1) t G x ns hl env sq) ?_
  rintro (er | fl) t' post
  · exact post.elim
  · cases fl with
    | next => exact post.elim
    | brk => exact post.elim
    | cont => exact post.elim
    | ret u =>
      obtain ⟨v, G', os, bare, un, ok', rv, q⟩ := post
      have q : v = .bl true := q
      subst q
      have eu : u = Value.bool true := rv
      refine ⟨by rw [eu], OldK.of_keep fun b o g => ?_, os, bare⟩
      by_cases hb : G b = none
      · exact un.keep b o g hb (fun z => by cases z) (by simp)
      · obtain ⟨ob, xs, z⟩ := (only b).resolve_left hb
        have k1 := (ok b _ z).1
        have k2 := (ok' b _ (un.frzs b ob _ z)).1
        rw [g] at k1
        rw [k2, Option.some.inj k1]
theorem top_call {P : Program} {w : World} {K : PySem.W.Frag} {mg mb : Str → Option Value} {fa x : Addr} {t : Shared} {vs : List Value} {ns : List Int} (kin : K.In t.heap) (n1 : t.heap.Ns mainGlobals mg) (n2 : t.heap.Ns builtinsNs mb) (n3 : ∀ y : Str, y ≠ "__name__" → mb y = bootBuiltins y) (n4 : t.heap.NoLimit) (ge : t.gens = #[])
    (hx : t.heap.get? x = some { cls := .type "list", data := .seq vs.toArray }) (hi : IntsAre vs ns) (hl : ns.length ≤ 63) (F : ∀ base : Heap, K.In base → base.Ns mainGlobals mg → TopOk P w K mg base fa) :
    codeAny (model P w) callerA (.call (.ref fa) ⟨[.ref x], []⟩) (fun r t' => r = .ok (.ret (.bool true)) ∧ OldK t.heap t'.heap ∧ t'.os = t.os ∧ AllBare t'.gens) t := by
  have rel := vals_ints hi
  have long := hi.length
  have sl := sizeLine_eq
  by_cases own : ∃ o, K.lookup x = some o
  · obtain ⟨o, lk⟩ := own
    have g := kin x o lk
    rw [hx] at g
    have eo := Option.some.inj g
    subst eo
    have nothing : ∀ (b : Addr) (u : HO), (none : Option HO) = some u → False := fun b u z => nomatch z
    exact top_core (G := fun _ => none) kin n1 n2 n3 n4 ge hx hl F (fun _ => Or.inl rfl) (Or.inr ⟨_, vs.toArray, _, lk, rfl, rfl, rfl, (by rw [List.size_toArray, long]; omega), (by simpa using rel)⟩)
      (fun b u z => (nothing b u z).elim) (fun b z => (z rfl).elim) (fun z => (z rfl).elim)
  · have lk : K.lookup x = none := by
      cases e : K.lookup x with
      | none => rfl
      | some o => exact (own ⟨o, e⟩).elim
    let G : Hp := fun b => if b = x then some (.frz { cls := .type "list", data := .seq vs.toArray } (.lst (ns.map V.int))) else none
    have gx : G x = some (.frz { cls := .type "list", data := .seq vs.toArray } (.lst (ns.map V.int))) := if_pos rfl
    have gn : ∀ b, b ≠ x → G b = none := fun b n => if_neg n
    refine top_core (G := G) kin n1 n2 n3 n4 ge hx hl F (fun b => ?_) (Or.inl (Or.inr ⟨_, gx⟩)) (fun b u z => ?_) (fun b z => ?_) fun _ => lk
    · by_cases e : b = x
      · exact Or.inr ⟨_, _, e ▸ gx⟩
      · exact Or.inl (gn b e)
    · by_cases e : b = x
      · subst e
        rw [gx] at z
        have eu := Option.some.inj z
        subst eu
        exact ⟨hx, (by rw [List.length_map]; omega), vs, _, rel, hx⟩
      · rw [gn b e] at z
        cases z
    · by_cases e : b = x
      · exact e
      · exact absurd (gn b e) z
theorem walk_top {l : PySem.W.OpenLaw} {q : Program} {loose : List Str} {XP : (Str → Option Value) → Heap → Prop} {YP : World → Heap → Prop} {d : DefRec} {K : Params → PySem.W.Frag} (hn : l.most = some 63) (hdf : d.params.defaults = [])
    (hY : ∀ (w : World) (h : Heap), YP w h → (K w.params).In h)
    (F : ∀ (w : World) (mg : Str → Option Value) (fa : Addr) (h : Heap), (K w.params).In h → h.Ns mainGlobals mg → mg d.name = some (.ref fa) → ∀ base : Heap, (K w.params).In base → base.Ns mainGlobals mg → TopOk l.prog w (K w.params) mg base fa) :
    PySem.W.WalkO q loose XP YP l.row.toRowW d [] (fun f vs => PySem.call f vs) := by
  refine Att.attach_callB (n := 63) hn hdf ?_
  intro w t0 t mg mb fa o pm cd dc x vs ns gr y _ _ _ named lst are short _ ge
  exact top_call (hY w _ y) gr.T.g gr.T.b gr.T.builtins gr.T.nolimit ge lst are short (F w mg fa _ (hY w _ y) gr.T.g named)
end Lin

end

section
namespace Lin
open PySem PySem.Spec PyProof.Rows L2
/-- what is asked of the body of the law's def, called from the top -/
abbrev Top0 (P : Program) (w : World) (K : PySem.W.Frag) (mg : Str → Option Value) (base : Heap) (N : List Str) (st : Stmt) (Goal : Cx → Prop) : Prop :=
  ∀ (f : Addr) (cdv : Value) (s : Shared) (H : Hp) (E : XK), Goal (cxOf CX0 P w K mg base N "law" (defScope st) f cdv callerA [] s H E).nox
theorem top_of {P : Program} {w : World} {K : PySem.W.Frag} {mg : Str → Option Value} {base : Heap} {fa : Addr} {fd : FuncData} {st : Stmt} {N : List Str} (law : Fun K "law" "law" st fa fd) (S : FnScope N ["script"] (defScope st)) (bind : ∀ (s : Shared) (u : Value), BindsTo s fd ⟨[u], []⟩ [("script", u)])
    (body : ∀ ns : List Int, ns.length ≤ 63 → Top0 P w K mg base N st fun X => ∃ env', Ex X (defBody st) (start0 N [.scr ns]) (.rt (.val (.bool true)) env')) : TopOk P w K mg base fa := by
  intro t G x ns short e0 sq
  obtain ⟨oc, od, kV, dc, pm, an, cdv, ct, osl, rfl, lk, code⟩ := law.ex
  have kin : K.In t.heap := e0.mod.kin.keeps fun b o g => (e0.bs b o g).1
  have nolim : t.heap.NoLimit := e0.mod.nolimit.keeps fun b o g => (e0.bs b o g).1
  have room : Room 31 callerA := ⟨rfl, by decide, by decide⟩
  have kinds : ∀ y ∈ [(("script" : Str), Value.ref x)], (defScope st).names.lookup y.1 = some .local ∨ ((defScope st).names.lookup y.1 = some .cell ∧ ((cellsFrom (t.heap.objs.size + 1) (defScope st).names []).lookup y.1).isSome = true) := by
    intro y hy
    have ey : y.1 = ("script" : Str) := by rw [List.mem_singleton.mp hy]
    rw [ey]
    exact (S.par "script" (List.mem_singleton.mpr rfl)).imp id fun z => ⟨z, PySem.W.cellsFrom_some _ _ _ (.inl z)⟩
  refine codeAny_call_function room.depth (kin _ _ lk) rfl S.co S.gen rfl (PySem.W.codeRec_of kin code) (bind t (.ref x) _ _ _ _ ?_)
  refine wpAny_newFunctionEnv_cells S.kind kinds fun env he s1 y => ?_
  subst he
  refine ⟨nolim.keeps y.toInCall.keep, codeAny_func ?_⟩
  obtain ⟨env', ex⟩ := body ns short fa cdv t G fun _ _ _ => False
  have scr : RepL K (fun _ => False) G [.scr ns] [.ref x] := ⟨_, _, rfl, ⟨x, rfl, sq.imp (fun z => ⟨(fun q => q), z⟩) id⟩, rfl⟩
  have slots : RepS K (fun _ => False) G (start0 N [.scr ns]) (start N [.ref x]) [] := repS_start (K := K) (O := fun _ => False) (H := G) (N.length - 1) [.scr ns] scr
  have none0 : Wf (fun _ => False) G [] := ⟨List.nodup_nil, (fun _ z => nomatch z), fun _ (z : False) => z.elim, fun _ _ (z : False) => z.elim⟩
  obtain ⟨tt, reads, goes⟩ := ex (fun _ => False) G (start N [.ref x]) [] slots none0 ⟨fun _ _ => V.non = .bl true, fun v _ => v = .bl true, fun _ _ => False, fun _ _ => False⟩ fun O' H' σ' v Fv F' rm rs s' _ => rm.2
  have inv : Inv (cxOf CX0 P w K mg base N "law" (defScope st) fa cdv callerA [] t G fun _ _ _ => False) [] (start N [.ref x]) G s1 := inv_start S room.hd e0 rfl (.cons rfl .nil) y
  refine wpAny_mono (reads.nox.run [] s1 _ G _ inv goes) (fun fl s' post => ?_) fun e s' post => post
  cases fl with
  | ret u =>
    obtain ⟨v, σ', H', J, rv, q⟩ := post
    exact ⟨v, H', J.os, J.bare, J.base, J.hok, rv, q⟩
  | next =>
    obtain ⟨σ', H', J, q⟩ := post
    exact ⟨.non, H', J.os, J.bare, J.base, J.hok, rfl, q⟩
  | brk => obtain ⟨_, _, _, q⟩ := post; exact q.elim
  | cont => obtain ⟨_, _, _, q⟩ := post; exact q.elim
end Lin

end

section
namespace Lin
open PySem PySem.Spec PyProof.Rows L2
/-! ### repr of data without dicts, where the guards are known -/
structure Shw (d : PyData) (A : Around) : Prop where
  sh : d.showable = true
  nd : d.hasDict = false
  un : A.units + (d.depth + 1) < cLine
  sz : d.shown.length ≤ sizeLine
def rReprD (X : Cx) : List V → Hp → VK → Prop := fun vs H Q => ∃ (v : V) (d : PyData), vs = [v] ∧ Dp X.K H v d ∧ Shw d X.A ∧ Q (.str d.shown) H
theorem cr_reprD {X : Cx} (hg : X.A.guards = some []) : CallR X (.builtin "repr") (rReprD X) := by
  intro pins s σ H vs us Q I r h
  obtain ⟨v, d, rfl, dp, sw, q⟩ := h
  obtain ⟨u, rfl, ru⟩ := vals1 r
  cases dp with
  | non =>
    cases ru
    exact PySem.P.repr_of_none ⟨.str _, H, I.tok _, ⟨_, rfl⟩, q⟩
  | bl b =>
    cases ru
    exact PySem.P.repr_of_bool ⟨.str _, H, I.tok _, ⟨_, rfl⟩, q⟩
  | int i =>
    obtain ⟨t, rfl⟩ := ru
    exact PySem.P.repr_of_int (of_decide_eq_true sw.sh) ⟨.str _, H, I.tok _, ⟨_, rfl⟩, q⟩
  | str x =>
    obtain ⟨t, rfl⟩ := ru
    exact PySem.P.repr_of_str ⟨.str _, H, I.tok _, ⟨_, rfl⟩, q⟩ sw.sz
  | lst hs ha =>
    cases ru
    obtain ⟨as, rd⟩ := Dp.reads I _ _ _ (Dp.lst hs ha) rfl
    exact repr_of_reads' rd sw.sh (fun z => by rw [sw.nd] at z; cases z) hg sw.un (fun _ _ e => e) (fun h' u tk hk => ⟨.str _, H, I.kept hk, ⟨_, rfl⟩, q⟩) sw.sz
  | tup hs ha =>
    cases ru
    obtain ⟨as, rd⟩ := Dp.reads I _ _ _ (Dp.tup hs ha) rfl
    exact repr_of_reads' rd sw.sh (fun z => by rw [sw.nd] at z; cases z) hg sw.un (fun _ _ e => e) (fun h' u tk hk => ⟨.str _, H, I.kept hk, ⟨_, rfl⟩, q⟩) sw.sz
section
variable {X : Cx} {env env1 env2 : Sls} {a b e : Expr} {d x y : D} {pos p : Pos}
theorem ev_reprD (hg : X.A.guards = some []) (ha : Ev X e env (.val d) env1) (hp : plain d = true) (sw : Shw (pd d) X.A) (hm : X.mg "repr" = none := by assumption) (hgl : Gl X "repr" := by rfl) (he : starEach [e] X.env = (false, eval e X.env) :: starEach [] X.env := by rfl) (hpl : (backTo pos (starEach [] X.env)).any (·.1) = false := by rfl) : Ev X (.Call (.Name "repr" p) [e] [] pos) env (.val (.str (pd d).shown)) env1 :=
  ev_cbi (ds := [d]) (cr_reprD hg) (rf_val fun O H vs Q ⟨u, us, e, hu, hn⟩ q => ⟨u, pd d, by rw [e, show us = [] from hn], hu.dp d hp, sw, q _ rfl⟩) (ea_cons ha ea_nil he) hm (by decide +kernel) hgl (by decide) (by decide) he hpl
theorem tv_neStr {z w : Str} (ha : Ev X a env (.val (.str z)) env1) (hb : Ev X b env1 (.val (.str w)) env2) (hm : behindInMarks .NotEq b = false := by first | exact nomark _ | rfl) : Tv X (.Compare a [.NotEq] [b] pos) env (!decide (z = w)) env2 := tv_cmp op_ne ha hb (ro_val fun O H u v Q hu hv q => by
  subst hu
  subst hv
  refine ⟨rfl, ?_⟩
  have e : decide (V.str z = V.str w) = decide (z = w) := decide_eq_decide.mpr ⟨fun h => V.str.inj h, fun h => by rw [h]⟩
  rw [e]
  exact q _ rfl) hm
end
end Lin

end

section
namespace Lin
open PySem PySem.Spec PyProof.Rows L2
/-! ### repr of data with dicts: a dict is not the table of modules -/
mutual
inductive Shs (h : Heap) : Value → PyData → Prop
  | none : Shs h .none .none
  | bool (b : Bool) : Shs h (.bool b) (.bool b)
  | int (i : Int) (t : Tok) : i.natAbs.log2 < 1920 → Shs h (.int i t) (.int i)
  | str (x : Str) (t : Tok) : Shs h (.str x t) (.str x)
  | list {a : Addr} {o : Obj} {vs : Array Value} {n : Nat} {xs : List PyData} (g : h.get? a = some o) (c : o.cls = .type "list") (d : o.data = .seq vs n) (r : ShsAll h vs.toList xs) : Shs h (.ref a) (.list xs)
  | tuple {a : Addr} {o : Obj} {vs : Array Value} {n : Nat} {xs : List PyData} (g : h.get? a = some o) (c : o.cls = .type "tuple") (d : o.data = .seq vs n) (r : ShsAll h vs.toList xs) : Shs h (.ref a) (.tuple xs)
  | dict {a : Addr} {o : Obj} {es : Array DictEntry} {n : Nat} {kvs : List (PyData × PyData)} (g : h.get? a = some o) (c : o.cls = .type "dict") (d : o.data = .dict es n) (m : (a == sysModules) = false)
      (r : ShsAll h (es.toList.map fun e => e.key) (kvs.map fun p => p.1)) (q : ShsAll h (es.toList.map fun e => e.val) (kvs.map fun p => p.2)) : Shs h (.ref a) (.dict kvs)
inductive ShsAll (h : Heap) : List Value → List PyData → Prop
  | nil : ShsAll h [] []
  | cons {v : Value} {vs : List Value} {d : PyData} {ds : List PyData} : Shs h v d → ShsAll h vs ds → ShsAll h (v :: vs) (d :: ds)
end
section
variable {prog : Program} {w : World} {h : Heap}
mutual
theorem Shs.rd : ∀ {v : Value} {d : PyData}, Shs h v d → ∃ as, Reads h v d as
  | _, _, .none => ⟨_, .none⟩
  | _, _, .bool b => ⟨_, .bool b⟩
  | _, _, .int i t _ => ⟨_, .int i t⟩
  | _, _, .str x t => ⟨_, .str x t⟩
  | _, _, .list g c d r => let ⟨_, q⟩ := ShsAll.rd r; ⟨_, .list g c d q⟩
  | _, _, .tuple g c d r => let ⟨_, q⟩ := ShsAll.rd r; ⟨_, .tuple g c d q⟩
  | _, _, .dict g c d _ r q => let ⟨_, x⟩ := ShsAll.rd r; let ⟨_, y⟩ := ShsAll.rd q; ⟨_, .dict g c d x y⟩
theorem ShsAll.rd : ∀ {vs : List Value} {ds : List PyData}, ShsAll h vs ds → ∃ as, ReadsAll h vs ds as
  | _, _, .nil => ⟨_, .nil⟩
  | _, _, .cons r q => let ⟨_, x⟩ := Shs.rd r; let ⟨_, y⟩ := ShsAll.rd q; ⟨_, .cons x y⟩
end
/-- what a value's repr is, and which places are read for it -/
def RkOf (prog : Program) (w : World) (h : Heap) (v : Value) (d : PyData) : Prop := ∃ bs, ReadAtMost h d.depth bs ∧ ReprK prog w bs h d.depth v d.shown
def RkAll (prog : Program) (w : World) (h : Heap) (vs : List Value) (ds : List PyData) : Prop := ∃ bs, ReadAtMost h (PyData.depthAll ds) bs ∧ ReprAllK prog w bs h (PyData.depthAll ds) vs (PyData.shownAll ds)
theorem rk_pair {vs us : List Value} {kvs : List (PyData × PyData)} (r1 : RkAll prog w h vs (kvs.map fun p => p.1)) (r2 : RkAll prog w h us (kvs.map fun p => p.2)) :
    ∃ bs, ReadAtMost h (PyData.depthKv kvs) bs ∧ ReprAllK prog w bs h (PyData.depthKv kvs) vs (PyData.shownAll (kvs.map fun p => p.1)) ∧ ReprAllK prog w bs h (PyData.depthKv kvs) us (PyData.shownAll (kvs.map fun p => p.2)) := by
  obtain ⟨b1, m1, k1⟩ := r1
  obtain ⟨b2, m2, k2⟩ := r2
  exact ⟨b1 ++ b2, (m1.mono (PyData.depthAll_keys_le kvs)).append (m2.mono (PyData.depthAll_vals_le kvs)), k1.more_le (fun b z => List.mem_append.mpr (.inl z)) (PyData.depthAll_keys_le kvs), k2.more_le (fun b z => List.mem_append.mpr (.inr z)) (PyData.depthAll_vals_le kvs)⟩
mutual
theorem Shs.rk : ∀ {v : Value} {d : PyData}, Shs h v d → d.shown.length ≤ sizeLine → RkOf prog w h v d
  | _, _, .none, _ => ⟨[], (fun _ z => nomatch z), by rw [show PyData.shown .none = "None" by simp only [PyData.shown]]; exact .of_is ReprIs.none _ _ _⟩
  | _, _, .bool b, _ => ⟨[], (fun _ z => nomatch z), by unfold PyData.shown; exact .of_is (ReprIs.bool b) _ _ _⟩
  | _, _, .int i t l, _ => ⟨[], (fun _ z => nomatch z), by unfold PyData.shown; exact .of_is (ReprIs.int t l) _ _ _⟩
  | _, _, .str x t, z => ⟨[], (fun _ z => nomatch z), by unfold PyData.shown at z ⊢; exact .of_is (ReprIs.str x t z) _ _ _⟩
  | _, _, .list (a := a) (vs := vs) (xs := xs) g c d r, z => by
    have z1 : (listText (PyData.shownAll xs)).length ≤ sizeLine := by unfold PyData.shown at z; exact z
    obtain ⟨bs, m, k⟩ := ShsAll.rk r fun t e => Nat.le_trans (listText_mem_le e) z1
    obtain ⟨as, rr⟩ := ShsAll.rd r
    have me := Reads.list g c d rr
    have deep : (PyData.list xs).depth = PyData.depthAll xs + 1 := by simp only [PyData.depth]
    have out : a ∉ bs := not_mem_of_deeper me (by omega) m
    refine ⟨a :: bs, ReadAtMost.cons me (by omega) m, ?_⟩
    rw [deep]
    unfold PyData.shown
    obtain ⟨l⟩ := vs
    cases l with
    | nil =>
      cases (show ShsAll h [] xs from r)
      unfold PyData.shownAll
      rw [listText_nil]
      exact ReprK.listEmpty g c d
    | cons x l => exact ReprK.list g c d out (k.length_eq.trans (by simp)) fun i y e => k.item i y (by simpa using e)
  | _, _, .tuple (a := a) (xs := xs) g c d r, z => by
    have z1 : (tupleText (PyData.shownAll xs)).length ≤ sizeLine := by unfold PyData.shown at z; exact z
    obtain ⟨bs, m, k⟩ := ShsAll.rk r fun t e => Nat.le_trans (tupleText_mem_le e) z1
    obtain ⟨as, rr⟩ := ShsAll.rd r
    have me := Reads.tuple g c d rr
    have deep : (PyData.tuple xs).depth = PyData.depthAll xs + 1 := by simp only [PyData.depth]
    have out : a ∉ bs := not_mem_of_deeper me (by omega) m
    refine ⟨a :: bs, ReadAtMost.cons me (by omega) m, ?_⟩
    rw [deep]
    unfold PyData.shown
    exact ReprK.tuple g c d out k
  | _, _, .dict (a := a) (es := es) (kvs := kvs) g c d lo r q, z => by
    have z1 : (dictText (PyData.shownKv kvs)).length ≤ sizeLine := by unfold PyData.shown at z; exact z
    have k1 := ShsAll.rk r fun t e => let ⟨p, hp, hl⟩ := PyData.shownKv_key_le kvs t e; Nat.le_trans hl (Nat.le_trans (dictText_mem_le hp) z1)
    have k2 := ShsAll.rk q fun t e => let ⟨p, hp, hl⟩ := PyData.shownKv_val_le kvs t e; Nat.le_trans hl (Nat.le_trans (dictText_mem_le hp) z1)
    obtain ⟨bs, m, ka, kb⟩ := rk_pair k1 k2
    obtain ⟨as1, rr1⟩ := ShsAll.rd r
    obtain ⟨as2, rr2⟩ := ShsAll.rd q
    have me := Reads.dict g c d rr1 rr2
    have deep : (PyData.dict kvs).depth = PyData.depthKv kvs + 1 := by simp only [PyData.depth]
    have out : a ∉ bs := not_mem_of_deeper me (by omega) m
    refine ⟨a :: bs, ReadAtMost.cons me (by omega) m, ?_⟩
    rw [deep]
    unfold PyData.shown
    rw [PyData.shownKv_eq]
    exact ReprK.dict g c d lo out (ReprEntriesK.of_two es.toList _ _ ka kb)
theorem ShsAll.rk : ∀ {vs : List Value} {ds : List PyData}, ShsAll h vs ds → (∀ t ∈ PyData.shownAll ds, t.length ≤ sizeLine) → RkAll prog w h vs ds
  | _, _, .nil, _ => ⟨[], (fun _ z => nomatch z), by unfold PyData.shownAll; exact .nil⟩
  | _, _, .cons (d := d) (ds := ds) r q, z => by
    obtain ⟨b1, m1, k1⟩ := Shs.rk r (z _ (by unfold PyData.shownAll; exact List.mem_cons_self ..))
    obtain ⟨b2, m2, k2⟩ := ShsAll.rk q fun t e => z t (by unfold PyData.shownAll; exact List.mem_cons_of_mem _ e)
    have deep : PyData.depthAll (d :: ds) = max d.depth (PyData.depthAll ds) := by simp only [PyData.depthAll]
    refine ⟨b1 ++ b2, ?_, ?_⟩
    · rw [deep]
      exact (m1.mono (Nat.le_max_left _ _)).append (m2.mono (Nat.le_max_right _ _))
    · rw [deep]
      unfold PyData.shownAll
      exact .cons ((k1.more fun b e => List.mem_append.mpr (.inl e)).level_le (Nat.le_max_left _ _)) (k2.more_le (fun b e => List.mem_append.mpr (.inr e)) (Nat.le_max_right _ _))
end
variable {A : Around} {E : Value → Shared → Prop} {s : Shared} {Q : Value → Shared → Prop}
theorem Shs.call {v : Value} {d : PyData} (sh : Shs s.heap v d) (z : d.shown.length ≤ sizeLine) (hg : A.guards = some []) (hu : A.units + (d.depth + 1) < cLine)
    (q : ∀ h' u tk, (∀ b o, s.heap.get? b = some o → h'.get? b = some o) → Q (.str d.shown u) { s with heap := h', toks := tk }) : wpAny (model prog w) A (call (.builtin "repr") [v]) Q E s := by
  cases sh with
  | none => exact PySem.P.repr_of_none (by have := q s.heap s.toks (s.toks + 1) (fun _ _ e => e); unfold PyData.shown at this; exact this)
  | bool b => exact PySem.P.repr_of_bool (by have := q s.heap s.toks (s.toks + 1) (fun _ _ e => e); unfold PyData.shown at this; exact this)
  | int i t l => exact PySem.P.repr_of_int l (by have := q s.heap s.toks (s.toks + 1) (fun _ _ e => e); unfold PyData.shown at this; exact this)
  | str x t => exact PySem.P.repr_of_str (by have := q s.heap s.toks (s.toks + 1) (fun _ _ e => e); unfold PyData.shown at this; exact this) (by unfold PyData.shown at z; exact z)
  | @list a o vs n xs g c d r =>
    have z1 : (listText (PyData.shownAll xs)).length ≤ sizeLine := by unfold PyData.shown at z; exact z
    obtain ⟨bs, m, k⟩ := ShsAll.rk (prog := prog) (w := w) r fun t e => Nat.le_trans (listText_mem_le e) z1
    obtain ⟨as, rr⟩ := ShsAll.rd r
    have deep : (PyData.list xs).depth = PyData.depthAll xs + 1 := by simp only [PyData.depth]
    have out : a ∉ bs := not_mem_of_deeper (Reads.list g c d rr) (by omega) m
    refine call_repr_slot (by omega) ⟨o, g, c⟩ F.slot_list_repr.toG ?_
    unfold PyData.shown at q
    obtain ⟨l⟩ := vs
    cases l with
    | nil =>
      cases (show ShsAll s.heap [] xs from r)
      unfold PyData.shownAll at q
      rw [listText_nil] at q
      exact call_list_repr_empty ⟨o, g, c⟩ g d ⟨_, _, rfl, q _ _ _ fun _ _ e => e⟩
    | cons x l => exact call_list_reprK g c d out (k.length_eq.trans (by simp)) (fun i y e => k.item i y (by simpa using e)) (show A.in1.guards = some [] from hg) (fun b _ => Clear.nil b) (by show A.units + 1 + _ < cLine; omega) (fun _ _ e => e) (fun h' u tk hk => ⟨_, _, rfl, q h' u tk hk⟩) z1
  | @tuple a o vs n xs g c d r =>
    have z1 : (tupleText (PyData.shownAll xs)).length ≤ sizeLine := by unfold PyData.shown at z; exact z
    obtain ⟨bs, m, k⟩ := ShsAll.rk (prog := prog) (w := w) r fun t e => Nat.le_trans (tupleText_mem_le e) z1
    obtain ⟨as, rr⟩ := ShsAll.rd r
    have deep : (PyData.tuple xs).depth = PyData.depthAll xs + 1 := by simp only [PyData.depth]
    have out : a ∉ bs := not_mem_of_deeper (Reads.tuple g c d rr) (by omega) m
    refine call_repr_slot (by omega) ⟨o, g, c⟩ F.slot_tuple_repr ?_
    unfold PyData.shown at q
    exact call_tuple_reprK g c d out k (show A.in1.guards = some [] from hg) (fun b _ => Clear.nil b) (by show A.units + 1 + _ < cLine; omega) (fun _ _ e => e) (fun h' u tk hk => ⟨_, _, rfl, q h' u tk hk⟩) z1
  | @dict a o es n kvs g c d lo r rq =>
    have z1 : (dictText (PyData.shownKv kvs)).length ≤ sizeLine := by unfold PyData.shown at z; exact z
    have k1 := ShsAll.rk (prog := prog) (w := w) r fun t e => let ⟨p, hp, hl⟩ := PyData.shownKv_key_le kvs t e; Nat.le_trans hl (Nat.le_trans (dictText_mem_le hp) z1)
    have k2 := ShsAll.rk (prog := prog) (w := w) rq fun t e => let ⟨p, hp, hl⟩ := PyData.shownKv_val_le kvs t e; Nat.le_trans hl (Nat.le_trans (dictText_mem_le hp) z1)
    obtain ⟨bs, m, ka, kb⟩ := rk_pair k1 k2
    obtain ⟨as1, rr1⟩ := ShsAll.rd r
    obtain ⟨as2, rr2⟩ := ShsAll.rd rq
    have deep : (PyData.dict kvs).depth = PyData.depthKv kvs + 1 := by simp only [PyData.depth]
    have out : a ∉ bs := not_mem_of_deeper (Reads.dict g c d rr1 rr2) (by omega) m
    refine call_repr_slot (by omega) ⟨o, g, c⟩ F.slot_dict_repr ?_
    unfold PyData.shown at q
    rw [PyData.shownKv_eq] at q z1
    exact call_dict_reprK g c d lo out (ReprEntriesK.of_two es.toList _ _ ka kb) (show A.in1.guards = some [] from hg) (fun b _ => Clear.nil b) (by show A.units + 1 + _ < cLine; omega) (fun _ _ e => e) (fun h' u tk hk => ⟨_, _, rfl, q h' u tk hk⟩) z1
end
end Lin

end

section
namespace Lin
open PySem PySem.Spec PyProof.Rows L2
/-! ### data as a law draws it, also odd: its worth, its repr -/
def keyP : Key → PyData
  | .inl i => .int i
  | .inr x => .str x
def shwI (i : Int) : Bool := decide (i.natAbs < 10 ^ 38)
def shwS (s : Str) : Bool := PyData.strOk s && s.cps.toList.all fun c => decide (c < 16 ^ 8)
def shwKey : Key → Bool
  | .inl i => shwI i
  | .inr x => shwS x
mutual
def pk : D → PyData
  | .none => .none | .bool b => .bool b | .int i => .int i | .str s => .str s
  | .tup ds => .tuple (pkL ds) | .lst ds => .list (pkL ds)
  | .dK ks ds => .dict ((ks.map keyP).zip (pkL ds))
  | .dT _ _ => .none | .ins _ _ _ => .none | .scr _ => .none | .adr _ => .none | .kt _ => .none | .xt _ => .none | .exc _ _ _ => .none
def pkL : List D → List PyData
  | [] => []
  | d :: ds => pk d :: pkL ds
end
mutual
def shw : D → Bool
  | .none => true | .bool _ => true | .int i => shwI i | .str s => shwS s
  | .tup ds => shwL ds | .lst ds => shwL ds
  | .dK ks ds => ks.all shwKey && decide (ks.length = ds.length) && shwL ds
  | .dT _ _ => false | .ins _ _ _ => false | .scr _ => false | .adr _ => false | .kt _ => false | .xt _ => false | .exc _ _ _ => false
def shwL : List D → Bool
  | [] => true
  | d :: ds => shw d && shwL ds
end
theorem pkL_len : ∀ ds : List D, (pkL ds).length = ds.length
  | [] => rfl
  | d :: ds => by
    show (pkL ds).length + 1 = ds.length + 1
    rw [pkL_len ds]
theorem shwI_log {i : Int} (h : shwI i = true) : i.natAbs.log2 < 1920 := by
  have h : i.natAbs < 10 ^ 38 := of_decide_eq_true h
  by_cases z : i.natAbs = 0
  · rw [z]; decide
  · exact (Nat.log2_lt z).mpr (Nat.lt_of_lt_of_le h (by decide +kernel))
theorem shwI_len {i : Int} (h : shwI i = true) : (PyData.shown (.int i)).length ≤ 40 := by
  have h : i.natAbs < 10 ^ 38 := of_decide_eq_true h
  have z := int_text_length_le10 (k := 38) (by decide) h
  have z : (PySem.Str.ofString (toString i)).length ≤ 38 + 1 := by rw [PySem.ofString_length]; exact z
  have e : (PyData.shown (.int i)).length = (PySem.Str.ofString (toString i)).length := by unfold PyData.shown; rfl
  omega
theorem short_key {k : Key} (h : shwKey k = true) : PyData.leavesShort 40 (keyP k) = true := by
  cases k with
  | inl i => exact decide_eq_true (shwI_len h)
  | inr x => exact (Bool.and_eq_true_iff.mp h).2
theorem short_kv : ∀ {ks : List Key} {ps : List PyData}, ks.all shwKey = true → PyData.leavesShortAll 40 ps = true → PyData.leavesShortKv 40 ((ks.map keyP).zip ps) = true
  | [], _, _, _ => rfl
  | _ :: _, [], _, _ => rfl
  | k :: ks, p :: ps, h, g => by
    rw [List.all_cons, Bool.and_eq_true] at h
    have g := Bool.and_eq_true_iff.mp (show (PyData.leavesShort 40 p && PyData.leavesShortAll 40 ps) = true from g)
    show (PyData.leavesShort 40 (keyP k) && PyData.leavesShort 40 p && PyData.leavesShortKv 40 ((ks.map keyP).zip ps)) = true
    rw [short_key h.1, g.1, short_kv h.2 g.2]
    rfl
mutual
theorem short_pk : ∀ {d : D}, shw d = true → PyData.leavesShort 40 (pk d) = true
  | .none, _ => rfl
  | .bool _, _ => rfl
  | .int i, h => decide_eq_true (shwI_len h)
  | .str s, h => (Bool.and_eq_true_iff.mp (show (PyData.strOk s && _) = true from h)).2
  | .tup ds, h => short_pkL (show shwL ds = true from h)
  | .lst ds, h => short_pkL (show shwL ds = true from h)
  | .dK ks ds, h => by
    have h := Bool.and_eq_true_iff.mp (show (ks.all shwKey && decide (ks.length = ds.length) && shwL ds) = true from h)
    have g := Bool.and_eq_true_iff.mp h.1
    exact short_kv g.1 (short_pkL h.2)
theorem short_pkL : ∀ {ds : List D}, shwL ds = true → PyData.leavesShortAll 40 (pkL ds) = true
  | [], _ => rfl
  | d :: ds, h => by
    have h := Bool.and_eq_true_iff.mp (show (shw d && shwL ds) = true from h)
    show (PyData.leavesShort 40 (pk d) && PyData.leavesShortAll 40 (pkL ds)) = true
    rw [short_pk h.1, short_pkL h.2]
    rfl
end
theorem shown_fit {d : D} (h : shw d = true) (w : (pk d).weight ≤ 300000) : (pk d).shown.length ≤ sizeLine := by
  have z := PyData.shown_le 40 (by decide) (pk d) (short_pk h)
  rw [sizeLine_eq]
  omega
section
variable {X : Cx} {pins : List (Addr × Obj)} {σ : L2.St} {H : Hp} {s : Shared} {O : OW}
theorem kv_shs {h : Heap} {P : Program} {w : World} : ∀ {kvs : List (Key × V)} {vs : List (Key × Value)} {es : List DictEntry} {ds : List D}, KV kvs vs → Pairs (mixKind P w) es vs → (kvs.map (·.1)).all shwKey = true → RepL X.K O H ds (kvs.map (·.2)) →
      (∀ d ∈ ds, ∀ (v : V) (u : Value), Rep X.K O H d v → RelV v u → Shs h u (pk d)) → ShsAll h (es.map fun e => e.key) ((kvs.map (·.1)).map keyP) ∧ ShsAll h (es.map fun e => e.val) (pkL ds)
  | [], _, _, ds, .nil, .nil, _, rl, _ => by
    rw [show ds = [] by cases ds with | nil => rfl | cons d ds => obtain ⟨_, _, e, _⟩ := rl; cases e]
    exact ⟨.nil, .nil⟩
  | (k, v) :: kvs, (k2, u) :: vs, e :: es, ds, .cons r rs, .cons p q ps, hk, rl, F => by
    cases ds with
    | nil => cases (show (v :: kvs.map (·.2)) = [] from rl)
    | cons d ds =>
      obtain ⟨v', vs', ev, rd, rl⟩ := rl
      injection ev with e1 e2
      subst e1
      subst e2
      rw [List.map_cons, List.all_cons, Bool.and_eq_true] at hk
      obtain ⟨i1, i2⟩ := kv_shs rs ps hk.2 rl fun d z => F d (List.mem_cons_of_mem _ z)
      obtain ⟨r1, r2⟩ := r
      dsimp only at r1 r2 p q
      subst r1
      refine ⟨.cons ?_ i1, .cons (show Shs h e.val (pk d) by rw [q]; exact F d (List.mem_cons_self ..) _ _ rd r2) i2⟩
      show Shs h e.key (keyP k)
      rcases keyIs_shape (show keyIs k e.key = true from p) with ⟨i, t, ek, ev⟩ | ⟨x, t, ek, ev⟩
      · rw [ev, ek]
        rw [ek] at hk
        exact .int i t (shwI_log hk.1)
      · rw [ev, ek]
        exact .str x t
theorem shwL_mem : ∀ {ds : List D} {d : D}, shwL ds = true → d ∈ ds → shw d = true
  | d :: ds, x, h, m => by
    have h := Bool.and_eq_true_iff.mp (show (shw d && shwL ds) = true from h)
    rcases List.mem_cons.mp m with e | m
    · rw [e]; exact h.1
    · exact shwL_mem h.2 m
theorem list_shs {h : Heap} : ∀ {ds : List D} {xs : List V} {us : List Value}, (∀ d ∈ ds, ∀ (v : V) (u : Value), Rep X.K O H d v → RelV v u → Shs h u (pk d)) → RepL X.K O H ds xs → Vals xs us → ShsAll h us (pkL ds)
  | [], _, _, _, rl, r => by
    rw [show _ = [] from rl] at r
    cases r
    exact .nil
  | d :: ds, _, _, F, ⟨v, vs, e, rd, rl⟩, r => by
    rw [e] at r
    cases r with
    | cons r1 r2 => exact .cons (F d (List.mem_cons_self ..) v _ rd r1) (list_shs (fun d m => F d (List.mem_cons_of_mem _ m)) rl r2)
theorem zip_fst {ks : List Key} {ds : List D} (h : ks.length = ds.length) : ((ks.map keyP).zip (pkL ds)).map (fun p => p.1) = ks.map keyP := List.map_fst_zip (by rw [List.length_map, pkL_len, h]; exact Nat.le_refl _)
theorem zip_snd {ks : List Key} {ds : List D} (h : ks.length = ds.length) : ((ks.map keyP).zip (pkL ds)).map (fun p => p.2) = pkL ds := List.map_snd_zip (by rw [List.length_map, pkL_len, h]; exact Nat.le_refl _)
theorem Rep.shs (I : Inv X pins σ H s) (d : D) (v : V) (u : Value) (hd : shw d = true) (rd : Rep X.K O H d v) (r : RelV v u) : Shs s.heap u (pk d) := by
  match d, hd, rd with
  | .none, _, rd =>
    rw [show v = .non from rd] at r
    cases r
    exact .none
  | .bool b, _, rd =>
    rw [show v = .bl b from rd] at r
    cases r
    exact .bool b
  | .int i, hd, rd =>
    rw [show v = .int i from rd] at r
    obtain ⟨t, rfl⟩ := r
    exact .int i t (shwI_log hd)
  | .str x, _, rd =>
    rw [show v = .str x from rd] at r
    obtain ⟨t, rfl⟩ := r
    exact .str x t
  | .tup ds, hd, ⟨a, xs, e, ta, rl⟩ =>
    rw [e] at r
    cases r
    obtain ⟨its, rv, ⟨o, ho, hc, n, hx⟩, _⟩ := I.tuple (TupAt.sq ta)
    exact .tuple ho hc hx (list_shs (fun x m v u => Rep.shs I x v u (shwL_mem (show shwL ds = true from hd) m)) rl rv)
  | .lst ds, hd, ⟨a, xs, e, no, ha, rl⟩ =>
    rw [e] at r
    cases r
    obtain ⟨its, rv, ⟨o, n, ho, hc, _, hx⟩, _⟩ := I.list (.inl (.inl ha))
    exact .list ho hc hx (list_shs (fun x m v u => Rep.shs I x v u (shwL_mem (show shwL ds = true from hd) m)) rl rv)
  | .dK ks ds, hd, ⟨a, kvs, e, no, ha, ek, rl⟩ =>
    rw [e] at r
    cases r
    have hd := Bool.and_eq_true_iff.mp (show (ks.all shwKey && decide (ks.length = ds.length) && shwL ds) = true from hd)
    have hk := Bool.and_eq_true_iff.mp hd.1
    have hl := of_decide_eq_true hk.2
    obtain ⟨_, lo, vs, rel, o, es, ep, ho, ex, hx, _, ps, _⟩ := dk_rd I.hok ha
    have all : ∀ d ∈ ds, shw d = true := fun d m => shwL_mem hd.2 m
    have both := kv_shs (h := s.heap) rel ps (by rw [ek]; exact hk.1) rl (fun x m v u => Rep.shs I x v u (all x m))
    rw [ek] at both
    exact .dict ho ex.1 hx lo (by rw [zip_fst hl]; exact both.1) (by rw [zip_snd hl]; exact both.2)
termination_by sizeOf d
decreasing_by all_goals (simp_wf; have := List.sizeOf_lt_of_mem m; omega)
end
/-- repr by values -/
def rRepr (X : Cx) : List V → Hp → VK → Prop := fun vs H Q => ∃ (O : OW) (v : V) (d : D), vs = [v] ∧ Rep X.K O H d v ∧ shw d = true ∧ (pk d).weight ≤ 300000 ∧ X.A.units + ((pk d).depth + 1) < cLine ∧ Q (.str (pk d).shown) H
theorem cr_repr {X : Cx} (hg : X.A.guards = some []) : CallR X (.builtin "repr") (rRepr X) := by
  intro pins s σ H vs us Q I r h
  obtain ⟨O, v, d, rfl, rd, sd, wd, un, q⟩ := h
  obtain ⟨u, rfl, ru⟩ := vals1 r
  exact Shs.call (Rep.shs I d v u sd rd ru) (shown_fit sd wd) hg un fun h' u tk hk => ⟨.str _, H, I.kept hk, ⟨_, rfl⟩, q⟩
section
variable {X : Cx} {env env1 env2 : Sls} {a b e : Expr} {d x y : D} {pos p : Pos}
theorem ev_repr (hg : X.A.guards = some []) (ha : Ev X e env (.val d) env1) (sd : shw d = true) (wd : (pk d).weight ≤ 300000) (un : X.A.units + ((pk d).depth + 1) < cLine) (hm : X.mg "repr" = none := by assumption) (hgl : Gl X "repr" := by rfl) (he : starEach [e] X.env = (false, eval e X.env) :: starEach [] X.env := by rfl) (hpl : (backTo pos (starEach [] X.env)).any (·.1) = false := by rfl) : Ev X (.Call (.Name "repr" p) [e] [] pos) env (.val (.str (pk d).shown)) env1 :=
  ev_cbi (ds := [d]) (cr_repr hg) (rf_val fun O H vs Q ⟨u, us, e, hu, hn⟩ q => ⟨O, u, d, by rw [e, show us = [] from hn], hu, sd, wd, un, q _ rfl⟩) (ea_cons ha ea_nil he) hm (by decide +kernel) hgl (by decide) (by decide) he hpl
/-- a tuple == () -/
def rEqNil (K : PySem.W.Frag) : R2 := fun x y H Q => ∃ (a b : Addr) (xs : List V), x = .ref a ∧ y = .ref b ∧ SqT K H a xs ∧ SqT K H b [] ∧ Q (.bl xs.isEmpty) H
theorem op_eqNil (hu : X.A.units < cLine) : OpR X (compareOp .Eq) (rEqNil X.K) := by
  intro pins s σ H x y v u Q I rx ry h
  obtain ⟨a, b, xs, rfl, rfl, ha, hb, q⟩ := h
  cases rx
  cases ry
  obtain ⟨its, rv, ta, _⟩ := I.tuple ha
  obtain ⟨jts, rw', tb, _⟩ := I.tuple hb
  cases rw'
  refine SeqAt.eq_tupleAt (e := fun _ => true) ta tb hu (fun j _ h2 => absurd h2 (by simp)) ⟨.bl xs.isEmpty, H, I, ?_, q⟩
  have e : ((List.range (min its.toArray.size ([] : List Value).toArray.size)).all (fun _ => true) && its.toArray.size == ([] : List Value).toArray.size) = xs.isEmpty := by
    rw [show min its.toArray.size ([] : List Value).toArray.size = 0 by simp]
    cases rv <;> simp
  rw [e]
  rfl
theorem tv_eqNil {ds : List D} (ha : Ev X a env (.val (.tup ds)) env1) (hb : Ev X b env1 (.val (.tup [])) env2) (hu : X.A.units < cLine) (hm : behindInMarks .Eq b = false := by first | exact nomark _ | rfl) : Tv X (.Compare a [.Eq] [b] pos) env ds.isEmpty env2 :=
  tv_cmp (op_eqNil hu) ha hb (ro_val fun O H u v Q ⟨a, xs, eu, ta, rl⟩ ⟨b, zs, ev, tb, rz⟩ q => ⟨a, b, xs, eu, ev, TupAt.sq ta, by rw [show zs = [] from rz] at tb; exact TupAt.sq tb, by
    have e : xs.isEmpty = ds.isEmpty := by
      cases ds with
      | nil => rw [show xs = [] from rl]; rfl
      | cons d ds => obtain ⟨_, _, e, _⟩ := rl; rw [e]; rfl
    rw [e]
    exact q _ rfl⟩) hm
end
end Lin

end

section
namespace Lin
open PySem PySem.Spec PyProof.Rows L2
/-! ### {k: e} -/
section
variable {X : Cx} {env env1 env2 : Sls} {a b e : Expr} {d x y : D} {pos p : Pos} {k : Key}
theorem ev_disp1 (hk : Ev X a env (.val (kD k)) env1) (hv : Ev X b env1 (.val d) env2) : Ev X (.Dict [some a] [b] pos) env (dkM [(k, d)]) env2 :=
  ⟨hk.1.trans hv.1, fun O H σ F r w Q q => ⟨_, pe_disp (pps_cons pe_w pe_w pps_nil) rfl rfl (by simp) (by simp), fun p hp => by
    have s0 : Step O H [] (fun b => O b ∨ b = p) (upd H p (.dK [])) [p] := Step.new (G := []) w.nil hp
    have sq := s0.quiet w
    have wq : Wf (fun b => O b ∨ b = p) (upd H p (.dK [])) ([p] ++ F) := sq.wf
    refine hk.2 _ _ σ F (r.quiet s0) wq.right _ fun O2 H2 u Fu F2 ⟨eu, ru⟩ r2 s2 => ?_
    subst eu
    have ek := rep_kD ru
    subst ek
    refine hv.2 O2 H2 σ F2 r2 s2.wf _ fun O3 H3 v Fv F3 ⟨ev, rv⟩ r3 s3 => ?_
    subst ev
    have st := s2.trans wq.right s3
    have wp : Wf (fun b => O b ∨ b = p) (upd H p (.dK [])) (F ++ [p]) := wq.perm List.perm_append_comm
    have stp := Step.beside wp st
    have out : p ∉ F := fun z => wq.apart (List.mem_singleton.mpr rfl) z
    have hp3 : H3 p = some (.dK []) := st.frame p _ upd_same out
    have own : O3 p := stp.wf.own p (by simp)
    have swr : Step O3 H3 (F3 ++ [p]) O3 (upd H3 p (.dK [(k, v)])) (F3 ++ [p]) := Step.write stp.wf (by simp)
    have kf : ∀ a o, H3 a = some o → ¬ O3 a → upd H3 p (.dK [(k, v)]) a = some o := fun a o h n => by rw [upd_ne (fun e => n (by rw [e]; exact own))]; exact h
    refine ⟨hp3, [(k, v)], rfl, by simp, ?_⟩
    refine q O3 _ (.ref p) [p] F3 ⟨p, [(k, v)], [], rfl, rfl, upd_same, rfl, repML_val [d] ⟨v, [], rfl, Rep.keep kf (fun a h => .inl h) d rv, rfl⟩⟩
      (RepS.keep kf (fun a h => .inl h) env2 (fun a o m h => by rw [upd_ne (fun e => by subst e; exact stp.wf.apart m (by simp))]; exact h) r3) ?_
    exact (((sq.permR List.perm_append_comm).trans w stp).trans w swr).permR List.perm_append_comm⟩⟩
end
/-! ### kinds of data -/
def kI : D → Bool
  | .int _ => true | .bool _ => true | _ => false
def kB : D → Bool
  | .bool _ => true | _ => false
def kT : D → Bool
  | .tup _ => true | _ => false
def kL : D → Bool
  | .lst _ => true | .scr _ => true | _ => false
def kS : D → Bool
  | .str _ => true | _ => false
def kDi : D → Bool
  | .dK _ _ => true | .dT _ _ => true | _ => false
def isI : D → Bool
  | .int _ => true | _ => false
section
variable {K : PySem.W.Frag}
theorem kit_I (ki : Kits K) {d : D} (h : tyOk d = true) : PySem.W.kitOne K (.type (tyD d)) (.type "int") = some (kI d) := by
  cases d with
  | none => exact ki.g "NoneType" "int" false (by decide)
  | bool b => exact ki.g "bool" "int" true (by decide)
  | int i => exact ki.g "int" "int" true (by decide)
  | str s => exact ki.g "str" "int" false (by decide)
  | tup ds => exact ki.g "tuple" "int" false (by decide)
  | lst ds => exact ki.g "list" "int" false (by decide)
  | dK ks ds => exact ki.g "dict" "int" false (by decide)
  | scr ns => exact ki.g "list" "int" false (by decide)
  | dT ks ds => cases h
  | ins a b c => cases h
  | adr a => cases h
  | kt k => cases h
  | xt k => cases h
  | exc a b c => cases h
theorem kit_B (ki : Kits K) {d : D} (h : tyOk d = true) : PySem.W.kitOne K (.type (tyD d)) (.type "bool") = some (kB d) := by
  cases d with
  | none => exact ki.g "NoneType" "bool" false (by decide)
  | bool b => exact ki.g "bool" "bool" true (by decide)
  | int i => exact ki.g "int" "bool" false (by decide)
  | str s => exact ki.g "str" "bool" false (by decide)
  | tup ds => exact ki.g "tuple" "bool" false (by decide)
  | lst ds => exact ki.g "list" "bool" false (by decide)
  | dK ks ds => exact ki.g "dict" "bool" false (by decide)
  | scr ns => exact ki.g "list" "bool" false (by decide)
  | dT ks ds => cases h
  | ins a b c => cases h
  | adr a => cases h
  | kt k => cases h
  | xt k => cases h
  | exc a b c => cases h
theorem kit_T (ki : Kits K) {d : D} (h : tyOk d = true) : PySem.W.kitOne K (.type (tyD d)) (.type "tuple") = some (kT d) := by
  cases d with
  | none => exact ki.g "NoneType" "tuple" false (by decide)
  | bool b => exact ki.g "bool" "tuple" false (by decide)
  | int i => exact ki.g "int" "tuple" false (by decide)
  | str s => exact ki.g "str" "tuple" false (by decide)
  | tup ds => exact ki.g "tuple" "tuple" true (by decide)
  | lst ds => exact ki.g "list" "tuple" false (by decide)
  | dK ks ds => exact ki.g "dict" "tuple" false (by decide)
  | scr ns => exact ki.g "list" "tuple" false (by decide)
  | dT ks ds => cases h
  | ins a b c => cases h
  | adr a => cases h
  | kt k => cases h
  | xt k => cases h
  | exc a b c => cases h
theorem kit_L (ki : Kits K) {d : D} (h : tyOk d = true) : PySem.W.kitOne K (.type (tyD d)) (.type "list") = some (kL d) := by
  cases d with
  | none => exact ki.g "NoneType" "list" false (by decide)
  | bool b => exact ki.g "bool" "list" false (by decide)
  | int i => exact ki.g "int" "list" false (by decide)
  | str s => exact ki.g "str" "list" false (by decide)
  | tup ds => exact ki.g "tuple" "list" false (by decide)
  | lst ds => exact ki.g "list" "list" true (by decide)
  | dK ks ds => exact ki.g "dict" "list" false (by decide)
  | scr ns => exact ki.g "list" "list" true (by decide)
  | dT ks ds => cases h
  | ins a b c => cases h
  | adr a => cases h
  | kt k => cases h
  | xt k => cases h
  | exc a b c => cases h
theorem kit_S (ki : Kits K) {d : D} (h : tyOk d = true) : PySem.W.kitOne K (.type (tyD d)) (.type "str") = some (kS d) := by
  cases d with
  | none => exact ki.g "NoneType" "str" false (by decide)
  | bool b => exact ki.g "bool" "str" false (by decide)
  | int i => exact ki.g "int" "str" false (by decide)
  | str s => exact ki.g "str" "str" true (by decide)
  | tup ds => exact ki.g "tuple" "str" false (by decide)
  | lst ds => exact ki.g "list" "str" false (by decide)
  | dK ks ds => exact ki.g "dict" "str" false (by decide)
  | scr ns => exact ki.g "list" "str" false (by decide)
  | dT ks ds => cases h
  | ins a b c => cases h
  | adr a => cases h
  | kt k => cases h
  | xt k => cases h
  | exc a b c => cases h
theorem kit_D (ki : Kits K) {d : D} (h : tyOk d = true) : PySem.W.kitOne K (.type (tyD d)) (.type "dict") = some (kDi d) := by
  cases d with
  | none => exact ki.g "NoneType" "dict" false (by decide)
  | bool b => exact ki.g "bool" "dict" false (by decide)
  | int i => exact ki.g "int" "dict" false (by decide)
  | str s => exact ki.g "str" "dict" false (by decide)
  | tup ds => exact ki.g "tuple" "dict" false (by decide)
  | lst ds => exact ki.g "list" "dict" false (by decide)
  | dK ks ds => exact ki.g "dict" "dict" true (by decide)
  | scr ns => exact ki.g "list" "dict" false (by decide)
  | dT ks ds => cases h
  | ins a b c => cases h
  | adr a => cases h
  | kt k => cases h
  | xt k => cases h
  | exc a b c => cases h
theorem isI_eq (d : D) : (kI d && !kB d) = isI d := by cases d <;> rfl
theorem shw_ty {d : D} (h : shw d = true) : tyOk d = true := by
  cases d <;> first | rfl | exact nomatch h
end
/-! ### worth and depth -/
abbrev wD (d : D) : Nat := (pk d).weight
abbrev wL (ds : List D) : Nat := PyData.weightAll (pkL ds)
abbrev dD (d : D) : Nat := (pk d).depth
abbrev dL (ds : List D) : Nat := PyData.depthAll (pkL ds)
theorem wD_tup (ds : List D) : wD (.tup ds) = wL ds := by show PyData.weight (.tuple (pkL ds)) = _; simp only [PyData.weight]
theorem wD_lst (ds : List D) : wD (.lst ds) = wL ds := by show PyData.weight (.list (pkL ds)) = _; simp only [PyData.weight]
theorem dD_tup (ds : List D) : dD (.tup ds) = dL ds + 1 := by show PyData.depth (.tuple (pkL ds)) = _; simp only [PyData.depth]
theorem dD_lst (ds : List D) : dD (.lst ds) = dL ds + 1 := by show PyData.depth (.list (pkL ds)) = _; simp only [PyData.depth]
theorem wL_cons (d : D) (ds : List D) : wL (d :: ds) = wD d + 1 + wL ds := by show PyData.weightAll (pk d :: pkL ds) = _; simp only [PyData.weightAll]
theorem dL_cons (d : D) (ds : List D) : dL (d :: ds) = max (dD d) (dL ds) := by show PyData.depthAll (pk d :: pkL ds) = _; simp only [PyData.depthAll]
theorem wL_nil : wL [] = 0 := rfl
theorem dL_nil : dL [] = 0 := rfl
theorem shwL_all (ds : List D) : shwL ds = true ↔ ∀ d ∈ ds, shw d = true := by
  induction ds with
  | nil => exact ⟨fun _ d h => absurd h (List.not_mem_nil), fun _ => rfl⟩
  | cons d ds ih =>
    rw [show shwL (d :: ds) = (shw d && shwL ds) from rfl, Bool.and_eq_true, ih]
    exact (List.forall_mem_cons (p := fun x => shw x = true)).symm
theorem dL_le (ds : List D) (n : Nat) : dL ds ≤ n ↔ ∀ d ∈ ds, dD d ≤ n := by
  induction ds with
  | nil => exact ⟨fun _ d h => absurd h (List.not_mem_nil), fun _ => Nat.zero_le _⟩
  | cons d ds ih =>
    rw [dL_cons, Nat.max_le, ih]
    exact (List.forall_mem_cons (p := fun x => dD x ≤ n)).symm
theorem wL_app (a b : List D) : wL (a ++ b) = wL a + wL b := by
  induction a with
  | nil => rw [List.nil_append, wL_nil]; omega
  | cons d a ih => rw [List.cons_append, wL_cons, wL_cons, ih]; omega
theorem wL_rev (a : List D) : wL a.reverse = wL a := by
  induction a with
  | nil => rfl
  | cons d a ih => rw [List.reverse_cons, wL_app, wL_cons, wL_cons, ih, wL_nil]; omega
theorem wL_at {ds : List D} {k : Nat} {x : D} (h : ds[k]? = some x) : wL (ds.take k) + (wD x + 1) + wL (ds.drop (k + 1)) = wL ds := by
  have e : ds = ds.take k ++ x :: ds.drop (k + 1) := by
    obtain ⟨hk, rfl⟩ := List.getElem?_eq_some_iff.mp h
    rw [← List.drop_eq_getElem_cons hk, List.take_append_drop]
  conv => rhs; rw [e]
  rw [wL_app, wL_cons]
  omega
theorem wL_take (ds : List D) (k : Nat) : wL (ds.take k) ≤ wL ds := by
  have e := wL_app (ds.take k) (ds.drop k)
  rw [List.take_append_drop] at e
  omega
theorem wL_drop (ds : List D) (k : Nat) : wL (ds.drop k) ≤ wL ds := by
  have e := wL_app (ds.take k) (ds.drop k)
  rw [List.take_append_drop] at e
  omega
theorem wL_len (ds : List D) : ds.length ≤ wL ds := by
  induction ds with
  | nil => exact Nat.zero_le _
  | cons d ds ih => rw [wL_cons, List.length_cons]; omega
theorem wL_mem {ds : List D} {d : D} (h : d ∈ ds) : wD d + 1 ≤ wL ds := by
  obtain ⟨k, e⟩ := List.getElem?_of_mem h
  have := wL_at e
  omega
/-- a value as laws draw it: of bounded worth and depth -/
structure Vok (n m : Nat) (d : D) : Prop where
  sh : shw d = true
  wt : wD d ≤ n
  dp : dD d ≤ m
theorem Vok.mono {n m n' m' : Nat} {d : D} (v : Vok n m d) (hn : n ≤ n') (hm : m ≤ m') : Vok n' m' d := ⟨v.sh, Nat.le_trans v.wt hn, Nat.le_trans v.dp hm⟩
/-- a tuple of parts -/
theorem Vok.tup {n m : Nat} {ds : List D} (hs : ∀ d ∈ ds, shw d = true) (hw : wL ds ≤ n) (hd : ∀ d ∈ ds, dD d ≤ m) : Vok n (m + 1) (.tup ds) :=
  ⟨(shwL_all ds).mpr hs, by rw [wD_tup]; exact hw, by rw [dD_tup]; have := (dL_le ds m).mpr hd; omega⟩
theorem Vok.lst {n m : Nat} {ds : List D} (hs : ∀ d ∈ ds, shw d = true) (hw : wL ds ≤ n) (hd : ∀ d ∈ ds, dD d ≤ m) : Vok n (m + 1) (.lst ds) :=
  ⟨(shwL_all ds).mpr hs, by rw [wD_lst]; exact hw, by rw [dD_lst]; have := (dL_le ds m).mpr hd; omega⟩
theorem Vok.mem {n m : Nat} {ds : List D} {x : D} (v : Vok n m (.tup ds)) (h : x ∈ ds) : Vok (n - 1) (m - 1) x := by
  have w := v.wt
  rw [wD_tup] at w
  have d := v.dp
  rw [dD_tup] at d
  have wx := wL_mem h
  have dx := (dL_le ds (dL ds)).mp (Nat.le_refl _) x h
  exact ⟨shwL_mem v.sh h, by omega, by omega⟩
/-! ### trees among data -/
def joinO : Option (List Int) → Option (List Int) → Option (List Int)
  | some a, some b => some (a ++ b)
  | _, _ => none
/-- what one part after the other of a stack comes to; f tells the leaves of an int -/
def leavesW (f : Int → Option (List Int)) : Nat → D → Option (List Int)
  | 0, _ => none
  | n + 1, d => match d with
    | .int i => f i
    | .tup [a, b] => joinO (leavesW f n a) (leavesW f n b)
    | _ => none
mutual
def cn : D → Nat
  | .tup ds => 1 + cnL ds
  | _ => 1
def cnL : List D → Nat
  | [] => 0
  | d :: ds => cn d + cnL ds
end
theorem cn_pos (d : D) : 0 < cn d := by
  cases d <;> simp only [cn] <;> omega
theorem cnL_app (a b : List D) : cnL (a ++ b) = cnL a + cnL b := by
  induction a with
  | nil => rw [List.nil_append]; simp only [cnL]; omega
  | cons d a ih => rw [List.cons_append]; simp only [cnL]; rw [ih]; omega
theorem cn_tup (ds : List D) : cn (.tup ds) = 1 + cnL ds := rfl
theorem cn_two (a b : D) : cn (.tup [a, b]) = 1 + (cn a + (cn b + 0)) := rfl
/-- more fuel than needed changes nothing -/
theorem leavesW_more (f : Int → Option (List Int)) : ∀ (n : Nat) (d : D), cn d ≤ n → leavesW f n d = leavesW f (cn d) d
  | 0, d, h => absurd (cn_pos d) (by omega)
  | n + 1, d, h => by
    have key : ∀ m : Nat, cn d ≤ m + 1 → m ≤ n → leavesW f (m + 1) d = leavesW f (n + 1) d := by
      intro m hm hmn
      cases d with
      | tup ds =>
        match ds with
        | [] => rfl
        | [a] => rfl
        | [a, b] =>
          rw [cn_two] at hm
          show joinO (leavesW f m a) (leavesW f m b) = joinO (leavesW f n a) (leavesW f n b)
          rw [leavesW_more f n a (by omega), leavesW_more f n b (by omega)]
          by_cases e : m = n
          · subst e
            rw [leavesW_more f m a (by omega), leavesW_more f m b (by omega)]
          · rw [leavesW_more f m a (by omega), leavesW_more f m b (by omega)]
        | a :: b :: c :: r => rfl
      | _ => rfl
    obtain ⟨m, e⟩ : ∃ m, cn d = m + 1 := ⟨cn d - 1, by have := cn_pos d; omega⟩
    rw [e]
    exact (key m (by omega) (by omega)).symm
def lvD (f : Int → Option (List Int)) (d : D) : Option (List Int) := leavesW f (cn d) d
theorem lvD_int (f : Int → Option (List Int)) (i : Int) : lvD f (.int i) = f i := rfl
theorem lvD_two (f : Int → Option (List Int)) (a b : D) : lvD f (.tup [a, b]) = joinO (lvD f a) (lvD f b) := by
  unfold lvD
  rw [cn_two, show 1 + (cn a + (cn b + 0)) = (cn a + cn b) + 1 by omega]
  show joinO (leavesW f (cn a + cn b) a) (leavesW f (cn a + cn b) b) = _
  rw [leavesW_more f _ a (by omega), leavesW_more f _ b (by omega)]
/-- whether a value is neither an int nor a pair -/
def noTr : D → Bool
  | .int _ => false
  | .tup ds => !decide (ds.length = 2)
  | _ => true
theorem lvD_no (f : Int → Option (List Int)) {d : D} (h : noTr d = true) : lvD f d = none := by
  unfold lvD
  obtain ⟨m, e⟩ : ∃ m, cn d = m + 1 := ⟨cn d - 1, by have := cn_pos d; omega⟩
  rw [e]
  cases d with
  | tup ds =>
    match ds, h with
    | [], _ => rfl
    | [a], _ => rfl
    | [a, b], h => cases h
    | a :: b :: c :: r, _ => rfl
  | int i => cases h
  | _ => rfl
def lvL (f : Int → Option (List Int)) : List D → Option (List Int)
  | [] => some []
  | d :: ds => joinO (lvD f d) (lvL f ds)
theorem joinO_assoc (a b c : Option (List Int)) : joinO (joinO a b) c = joinO a (joinO b c) := by
  cases a <;> cases b <;> cases c <;> first | rfl | (show some _ = some _; rw [List.append_assoc])
theorem joinO_nil (a : Option (List Int)) : joinO a (some []) = a := by
  cases a with
  | none => rfl
  | some l => show some (l ++ []) = _; rw [List.append_nil]
theorem joinO_none (a : Option (List Int)) : joinO a none = none := by cases a <;> rfl
theorem nil_joinO (a : Option (List Int)) : joinO (some []) a = a := by cases a <;> rfl
theorem lvL_app (f : Int → Option (List Int)) : ∀ a b : List D, lvL f (a ++ b) = joinO (lvL f a) (lvL f b)
  | [], b => by
    show lvL f b = joinO (some []) (lvL f b)
    rw [nil_joinO]
  | d :: a, b => by
    show joinO (lvD f d) (lvL f (a ++ b)) = joinO (joinO (lvD f d) (lvL f a)) (lvL f b)
    rw [lvL_app f a b, joinO_assoc]
theorem lvL_one (f : Int → Option (List Int)) (d : D) : lvL f [d] = lvD f d := joinO_nil _
/-- the ints of a tree, the ones from 0 to 15 -/
def anyI (i : Int) : Option (List Int) := some [i]
def fewI (i : Int) : Option (List Int) := if 0 ≤ i ∧ i ≤ 15 then some [i] else none
def goodL (l : List Int) : Bool := decide (2 ≤ l.length) && decide (l.length ≤ 16) && l.isPerm (rangeI l.length)
theorem goodL_perm {a b : List Int} (h : a.Perm b) : goodL a = goodL b := by
  have e : a.length = b.length := h.length_eq
  have q : a.isPerm (rangeI a.length) = b.isPerm (rangeI b.length) := by
    rw [e, Bool.eq_iff_iff, List.isPerm_iff, List.isPerm_iff]
    exact ⟨fun z => h.symm.trans z, fun z => h.trans z⟩
  unfold goodL
  rw [q, e]
def goodO : Option (List Int) → Bool
  | none => false
  | some l => goodL l
def resL (s : List Int) (ws : List D) : Bool := goodO (joinO (some s) (lvL anyI ws))
theorem resL_int (s : List Int) (ws : List D) (k : Int) : resL s (ws ++ [.int k]) = resL (s ++ [k]) ws := by
  unfold resL
  rw [lvL_app, lvL_one, lvD_int]
  cases lvL anyI ws with
  | none => rfl
  | some l =>
    show goodL (s ++ (l ++ [k])) = goodL (s ++ [k] ++ l)
    refine goodL_perm ?_
    rw [List.append_assoc]
    exact List.Perm.append_left s List.perm_append_comm
theorem resL_two (s : List Int) (ws : List D) (a b : D) : resL s (ws ++ [.tup [a, b]]) = resL s (ws ++ [a, b]) := by
  unfold resL
  rw [lvL_app, lvL_one, lvD_two, lvL_app]
  show _ = goodO (joinO (some s) (joinO (lvL anyI ws) (joinO (lvD anyI a) (joinO (lvD anyI b) (some [])))))
  rw [joinO_nil]
theorem resL_no (s : List Int) (ws : List D) {d : D} (h : noTr d = true) : resL s (ws ++ [d]) = false := by
  unfold resL
  rw [lvL_app, lvL_one, lvD_no _ h, joinO_none, joinO_none]
  rfl
theorem resL_nil (s : List Int) : resL s [] = goodL s := by
  show goodO (some (s ++ [])) = _
  rw [List.append_nil]
  rfl
theorem resL_many (s : List Int) (ws : List D) (h : 16 < s.length) : resL s ws = false := by
  unfold resL
  cases lvL anyI ws with
  | none => rfl
  | some l =>
    show goodL (s ++ l) = false
    unfold goodL
    rw [decide_eq_false (show ¬ (s ++ l).length ≤ 16 by rw [List.length_append]; omega), Bool.and_false, Bool.false_and]
theorem fewI_any : ∀ (n : Nat) (d : D) (l : List Int), leavesW fewI n d = some l → leavesW anyI n d = some l ∧ ∀ i ∈ l, 0 ≤ i ∧ i ≤ 15
  | 0, _, _, h => nomatch h
  | n + 1, d, l, h => by
    match d, h with
    | .int i, h =>
      by_cases e : 0 ≤ i ∧ i ≤ 15
      · have h : fewI i = some l := h
        unfold fewI at h
        rw [if_pos e] at h
        have h := Option.some.inj h
        subst h
        exact ⟨rfl, fun j hj => by rw [List.mem_singleton.mp hj]; exact e⟩
      · have h : fewI i = some l := h
        unfold fewI at h
        rw [if_neg e] at h
        cases h
    | .tup [a, b], h =>
      have h : joinO (leavesW fewI n a) (leavesW fewI n b) = some l := h
      cases ea : leavesW fewI n a with
      | none => rw [ea] at h; cases h
      | some la =>
        cases eb : leavesW fewI n b with
        | none => rw [ea, eb] at h; cases h
        | some lb =>
          rw [ea, eb] at h
          have h : some (la ++ lb) = some l := h
          have h := Option.some.inj h
          subst h
          obtain ⟨p1, p2⟩ := fewI_any n a la ea
          obtain ⟨q1, q2⟩ := fewI_any n b lb eb
          refine ⟨?_, fun i hi => (List.mem_append.mp hi).elim (p2 i) (q2 i)⟩
          show joinO (leavesW anyI n a) (leavesW anyI n b) = _
          rw [p1, q1]
          rfl
    | .tup [], h => cases h
    | .tup [_], h => cases h
    | .tup (_ :: _ :: _ :: _), h => cases h
    | .none, h => cases h
    | .bool _, h => cases h
    | .str _, h => cases h
    | .lst _, h => cases h
    | .dK _ _, h => cases h
    | .dT _ _, h => cases h
    | .ins _ _ _, h => cases h
    | .scr _, h => cases h
    | .adr _, h => cases h
    | .kt _, h => cases h
    | .xt _, h => cases h
    | .exc _ _ _, h => cases h
theorem any_few : ∀ (n : Nat) (d : D) (l : List Int), leavesW anyI n d = some l → (∀ i ∈ l, 0 ≤ i ∧ i ≤ 15) → leavesW fewI n d = some l
  | 0, _, _, h, _ => nomatch h
  | n + 1, d, l, h, hl => by
    match d, h with
    | .int i, h =>
      have h := Option.some.inj (show some [i] = some l from h)
      subst h
      show fewI i = _
      unfold fewI
      rw [if_pos (hl i (List.mem_singleton.mpr rfl))]
    | .tup [a, b], h =>
      have h : joinO (leavesW anyI n a) (leavesW anyI n b) = some l := h
      cases ea : leavesW anyI n a with
      | none => rw [ea] at h; cases h
      | some la =>
        cases eb : leavesW anyI n b with
        | none => rw [ea, eb] at h; cases h
        | some lb =>
          rw [ea, eb] at h
          have h : some (la ++ lb) = some l := h
          have h := Option.some.inj h
          subst h
          show joinO (leavesW fewI n a) (leavesW fewI n b) = _
          rw [any_few n a la ea fun i hi => hl i (List.mem_append_left _ hi), any_few n b lb eb fun i hi => hl i (List.mem_append_right _ hi)]
          rfl
    | .tup [], h => cases h
    | .tup [_], h => cases h
    | .tup (_ :: _ :: _ :: _), h => cases h
    | .none, h => cases h
    | .bool _, h => cases h
    | .str _, h => cases h
    | .lst _, h => cases h
    | .dK _ _, h => cases h
    | .dT _ _, h => cases h
    | .ins _ _ _, h => cases h
    | .scr _, h => cases h
    | .adr _, h => cases h
    | .kt _, h => cases h
    | .xt _, h => cases h
    | .exc _ _ _, h => cases h
/-- a tree, by all ints or by those from 0 to 15 -/
def treeB (d : D) : Bool := goodO (lvD fewI d)
theorem resL_tree (d : D) : resL [] [d] = treeB d := by
  unfold resL treeB
  rw [lvL_one, nil_joinO]
  cases e : lvD fewI d with
  | some l =>
    have z := (fewI_any _ d l e).1
    rw [show lvD anyI d = some l from z]
  | none =>
    cases e2 : lvD anyI d with
    | none => rfl
    | some l =>
      show goodL l = false
      by_cases g : goodL l = true
      · exfalso
        unfold goodL at g
        rw [Bool.and_eq_true, Bool.and_eq_true] at g
        have pm := List.isPerm_iff.mp g.2
        have h16 := of_decide_eq_true g.1.2
        have z := any_few _ d l e2 fun i hi => by
          have m := mem_rangeI (pm.mem_iff.mp hi)
          omega
        rw [show lvD fewI d = some l from z] at e
        cases e
      · exact Bool.eq_false_iff.mpr g
/-- the law's way: sorted == list(range(..)), more than one -/
theorem goodL_few {l : List Int} (h : ∀ i ∈ l, 0 ≤ i ∧ i ≤ 15) : goodL l = (decide (1 < l.length) && l.isPerm (rangeI l.length)) := by
  unfold goodL
  by_cases p : l.isPerm (rangeI l.length) = true
  · have pm := List.isPerm_iff.mp p
    have h16 : l.length ≤ 16 := by
      by_cases z : l.length ≤ 16
      · exact z
      · exfalso
        have m : ((l.length - 1 : Nat) : Int) ∈ rangeI l.length := List.mem_map.mpr ⟨l.length - 1, List.mem_range.mpr (by omega), rfl⟩
        have := h _ (pm.mem_iff.mpr m)
        omega
    rw [p, decide_eq_true h16, Bool.and_true, Bool.and_true, Bool.and_true]
    exact decide_eq_decide.mpr (by omega)
  · rw [Bool.eq_false_iff.mpr p, Bool.and_false, Bool.and_false]
/-- ints compared as lists -/
theorem eqv_ints (a b : List Int) : PyData.eqv (pd (.lst (a.map D.int))) (pd (.lst (b.map D.int))) = decide (a = b) := by
  simp only [pd]
  induction a generalizing b with
  | nil => cases b <;> rfl
  | cons x a ih =>
    cases b with
    | nil => rfl
    | cons y b =>
      show ((x == y) && PyData.eqv (.list (pdL (a.map D.int))) (.list (pdL (b.map D.int)))) = _
      rw [ih b]
      by_cases e : x = y
      · subst e
        rw [show (x == x) = true from beq_self_eq_true x, Bool.true_and]
        exact decide_eq_decide.mpr ⟨fun h => by rw [h], fun h => (List.cons.inj h).2⟩
      · rw [show (x == y) = false from beq_eq_false_iff_ne.mpr e, Bool.false_and, decide_eq_false (fun h => e (List.cons.inj h).1)]
theorem rangeI_sorted (n : Nat) : (rangeI n).Pairwise (· ≤ ·) := by
  unfold rangeI
  exact List.pairwise_map.mpr ((List.pairwise_lt_range (n := n)).imp fun h => by omega)
theorem sort_range {l : List Int} : ∃ s : List Int, s.Perm l ∧ s.Pairwise (· ≤ ·) ∧ decide (s = rangeI l.length) = l.isPerm (rangeI l.length) := by
  have pm := List.mergeSort_perm l (fun a b => decide (a ≤ b))
  have sd : (l.mergeSort (fun a b => decide (a ≤ b))).Pairwise (· ≤ ·) := by
    have z := List.pairwise_mergeSort (le := fun a b : Int => decide (a ≤ b)) (fun a b c h1 h2 => decide_eq_true (Int.le_trans (of_decide_eq_true h1) (of_decide_eq_true h2)))
      (fun a b => by rw [Bool.or_eq_true, decide_eq_true_eq, decide_eq_true_eq]; exact Int.le_total a b) l
    exact z.imp fun h => of_decide_eq_true h
  refine ⟨_, pm, sd, ?_⟩
  rw [Bool.eq_iff_iff, decide_eq_true_eq, List.isPerm_iff]
  refine ⟨fun e => by rw [← e]; exact pm.symm, fun p => ?_⟩
  exact (pm.trans p).eq_of_pairwise (fun a b _ _ h1 h2 => Int.le_antisymm h1 h2) sd (rangeI_sorted _)
end Lin

end

section
namespace Lin
open PySem PySem.Spec PyProof.Rows L2
section
variable {X : Cx} {env env1 env2 : Sls} {a b e : Expr} {d x y : D} {pos p apos cpos : Pos} {k : Key} {n : Str} {s : Sl} {ms : List M}
/-- x.clear() of an owned list -/
theorem ev_clear (i : Nat) (hi : env[i]? = some (some s)) (hm : s.m = .lst ms) (hN : X.N[i]? = some n := by rfl) (hv : Vis X.env.scope n := by first | exact Or.inl rfl | exact Or.inr (Or.inl rfl) | exact Or.inr (Or.inr rfl)) (hd : (n == ("__debug__" : Str)) = false := by decide) (hcd : (n == ("__classdict__" : Str)) = false := by decide)
    (hbase : attributeBase (.Name n p) "clear" X.env (eval (.Name n p) X.env) = eval (.Name n p) X.env := by rfl) (hline : (apos.endLine == cpos.line) = true := by rfl) : Ev X (.Call (.Attribute (.Name n p) "clear" apos) [] [] cpos) env (.val .none) (env.set i (some (s.put (.lst [])))) :=
  ⟨Io.put hi, fun O H σ F r w Q q => ⟨_, pe_bm0 PySem.F.plainAttrs_list PySem.F.slot_list_clear PySem.F.type_list_clear mt_clear (pe_var hN hv hd hcd) hbase hline, by
    have w2 : Wf O H ([] ++ F) := w
    obtain ⟨v, Fi, e1, rm, kk⟩ := slot_upd r hi w2
    rw [hm] at rm
    obtain ⟨l, xs, F', el, ef, hp, rl⟩ := rm
    obtain ⟨ol, nl, k2⟩ := kk l F' ef
    obtain ⟨F2', rs2, s2, _⟩ := k2 (.lst []) (.lst []) [] [] F' (by simp) ⟨l, [], [], el, rfl, upd_same, rfl, rfl⟩
    exact ⟨v, e1, by rw [el]; exact .inl ⟨rfl, _, .inl (.inl hp)⟩, l, xs, el, rfl, hp, q O _ .non [] F2' ⟨rfl, rfl⟩ rs2 s2⟩⟩⟩
end
theorem d_kind (d : D) : (∃ k, d = .int k) ∨ (∃ a b, d = .tup [a, b]) ∨ (∃ ds, d = .tup ds ∧ ds.length ≠ 2) ∨ (kT d = false ∧ isI d = false) := by
  cases d with
  | int k => exact .inl ⟨k, rfl⟩
  | tup ds =>
    match ds with
    | [] => exact .inr (.inr (.inl ⟨_, rfl, by simp⟩))
    | [a] => exact .inr (.inr (.inl ⟨_, rfl, by simp⟩))
    | [a, b] => exact .inr (.inl ⟨a, b, rfl⟩)
    | a :: b :: c :: r => exact .inr (.inr (.inl ⟨_, rfl, by simp⟩))
  | _ => exact .inr (.inr (.inr ⟨rfl, rfl⟩))
theorem noTr_tup {ds : List D} (h : ds.length ≠ 2) : noTr (.tup ds) = true := by
  show (!decide (ds.length = 2)) = true
  rw [decide_eq_false h]
  rfl
theorem noTr_other {d : D} (h : kT d = false) (g : isI d = false) : noTr d = true := by
  cases d <;> first | rfl | (cases h; done) | (cases g; done)
theorem noTr_tup2 {d : D} (h : noTr d = true) (g : kT d = true) : ∃ ds, d = .tup ds ∧ ds.length ≠ 2 := by
  cases d with
  | tup ds => exact ⟨ds, rfl, fun e => by rw [show noTr (.tup ds) = !decide (ds.length = 2) from rfl, decide_eq_true e] at h; cases h⟩
  | _ => cases g
/-- a list of ints or nothing -/
def optM : Option (List Int) → M
  | none => .val .none
  | some l => .lst (l.map fun i => .val (.int i))
def optD : Option (List Int) → D
  | none => .none
  | some l => .lst (l.map D.int)
theorem frz_opt (o : Option (List Int)) : frz (optM o) = optD o := by
  cases o with
  | none => rfl
  | some l => exact frz_ints l
theorem non_opt (o : Option (List Int)) : isNon (optD o) = o.isNone := by cases o <;> rfl
/-- an int within bounds -/
def btw (lo hi : Int) : D → Bool
  | .int i => decide (lo ≤ i) && decide (i ≤ hi)
  | _ => false
theorem btw_few (d : D) : btw 0 15 d = true → ∃ i, d = .int i ∧ fewI i = some [i] := by
  intro h
  cases d with
  | int i =>
    have h := Bool.and_eq_true_iff.mp (show (decide (0 ≤ i) && decide (i ≤ 15)) = true from h)
    exact ⟨i, rfl, if_pos ⟨of_decide_eq_true h.1, of_decide_eq_true h.2⟩⟩
  | _ => cases h
theorem btw_not {i : Int} (h : btw 0 15 (.int i) = false) : fewI i = none := by
  refine if_neg fun z => ?_
  have e : btw 0 15 (.int i) = true := by
    show (decide (0 ≤ i) && decide (i ≤ 15)) = true
    rw [decide_eq_true z.1, decide_eq_true z.2]
    rfl
  rw [e] at h
  cases h
theorem cnL_len : ∀ ds : List D, ds.length ≤ cnL ds
  | [] => Nat.zero_le _
  | d :: ds => by
    have := cnL_len ds
    have := cn_pos d
    simp only [cnL, List.length_cons]
    omega
mutual
theorem cn_le : ∀ d : D, cn d ≤ wD d + 1
  | .tup ds => by
    have := cnL_le ds
    rw [wD_tup, cn_tup]
    omega
  | .none => by show 1 ≤ _; omega
  | .bool _ => by show 1 ≤ _; omega
  | .int _ => by show 1 ≤ _; omega
  | .str _ => by show 1 ≤ _; omega
  | .lst _ => by show 1 ≤ _; omega
  | .dK _ _ => by show 1 ≤ _; omega
  | .dT _ _ => by show 1 ≤ _; omega
  | .ins _ _ _ => by show 1 ≤ _; omega
  | .scr _ => by show 1 ≤ _; omega
  | .adr _ => by show 1 ≤ _; omega
  | .kt _ => by show 1 ≤ _; omega
  | .xt _ => by show 1 ≤ _; omega
  | .exc _ _ _ => by show 1 ≤ _; omega
theorem cnL_le : ∀ ds : List D, cnL ds ≤ wL ds
  | [] => Nat.zero_le _
  | d :: ds => by
    have := cn_le d
    have := cnL_le ds
    rw [wL_cons]
    show cn d + cnL ds ≤ _
    omega
end
theorem lv_len : ∀ (n : Nat) (d : D) (l : List Int), leavesW fewI n d = some l → l.length ≤ cn d
  | 0, _, _, h => nomatch h
  | n + 1, d, l, h => by
    rcases d_kind d with ⟨k, rfl⟩ | ⟨a, b, rfl⟩ | ⟨ds, rfl, hl⟩ | ⟨k1, k2⟩
    · have z := (fewI_any (n + 1) (.int k) l h).1
      have z : some [k] = some l := z
      rw [← Option.some.inj z]
      exact Nat.le_refl 1
    · have h : joinO (leavesW fewI n a) (leavesW fewI n b) = some l := h
      cases ea : leavesW fewI n a with
      | none => rw [ea] at h; cases h
      | some la =>
        cases eb : leavesW fewI n b with
        | none => rw [ea, eb] at h; cases h
        | some lb =>
          rw [ea, eb] at h
          have h : some (la ++ lb) = some l := h
          rw [← Option.some.inj h, List.length_append, cn_two]
          have := lv_len n a la ea
          have := lv_len n b lb eb
          omega
    · match ds, hl, h with
      | [], _, h => cases h
      | [_], _, h => cases h
      | [_, _], hl, _ => exact absurd rfl hl
      | _ :: _ :: _ :: _, _, h => cases h
    · cases d <;> first | (cases h; done) | (cases k1; done) | (cases k2; done)
theorem lvD_len {d : D} {l : List Int} (h : lvD fewI d = some l) : l.length ≤ cn d := lv_len _ d l h
theorem lvD_few {d : D} {l : List Int} (h : lvD fewI d = some l) : ∀ i ∈ l, 0 ≤ i ∧ i ≤ 15 := (fewI_any _ d l h).2
end Lin

end

section
namespace Lin
open PySem PySem.Spec PyProof.Rows L2
/-! ### values bent: parts replaced, left out, put in, turned -/
section
variable {wt n C : Nat} {ds : List D} {x y : D} {k : Nat}
/-- a tuple of parts of a drawn one -/
theorem Vok.of {es : List D} (hd : Vok wt n (.tup ds)) (hm : ∀ z ∈ es, z ∈ ds) (hw : wL es ≤ 2 * wL ds + C) : Vok (2 * wt + C) (n + 2) (.tup es) := by
  have w := hd.wt
  have d := hd.dp
  rw [wD_tup] at w
  rw [dD_tup] at d
  have s := (shwL_all ds).mp hd.sh
  have dd := (dL_le ds (n - 1)).mp (by omega)
  refine (Vok.tup (n := 2 * wt + C) (m := n + 1) (fun z hz => s z (hm z hz)) (by omega) fun z hz => ?_)
  have := dd z (hm z hz)
  omega
theorem Vok.asL (hd : Vok wt n (.tup ds)) : Vok (2 * wt + C) (n + 2) (.lst ds) := by
  have w := hd.wt
  have d := hd.dp
  rw [wD_tup] at w
  rw [dD_tup] at d
  exact ⟨hd.sh, by rw [wD_lst]; omega, by rw [dD_lst]; omega⟩
theorem Vok.out (hd : Vok wt n (.tup ds)) : Vok (2 * wt + C) (n + 2) (.tup (ds.take k ++ ds.drop (k + 1))) :=
  hd.of (fun z hz => (List.mem_append.mp hz).elim List.mem_of_mem_take List.mem_of_mem_drop) (by
    have a := wL_take ds k
    have b := wL_drop ds (k + 1)
    rw [wL_app]
    omega)
theorem Vok.dup (hd : Vok wt n (.tup ds)) (hx : ds[k]? = some x) : Vok (2 * wt + C) (n + 2) (.tup (ds.take k ++ [x] ++ ds.drop k)) :=
  hd.of (fun z hz => by
    simp only [List.mem_append, List.mem_cons, List.not_mem_nil, or_false] at hz
    rcases hz with (hz | hz) | hz
    · exact List.mem_of_mem_take hz
    · rw [hz]; exact List.mem_of_getElem? hx
    · exact List.mem_of_mem_drop hz) (by
    have e := wL_app (ds.take k) (ds.drop k)
    rw [List.take_append_drop] at e
    have m := wL_mem (List.mem_of_getElem? hx)
    rw [wL_app, wL_app, wL_cons, wL_nil]
    omega)
theorem Vok.rev (hd : Vok wt n (.tup ds)) : Vok (2 * wt + C) (n + 2) (.tup ds.reverse) :=
  hd.of (fun z hz => List.mem_reverse.mp hz) (by rw [wL_rev]; omega)
theorem Vok.more (hd : Vok wt n (.tup ds)) (j : Nat) : Vok (2 * wt + C) (n + 2) (.tup (ds ++ ds.take j)) :=
  hd.of (fun z hz => (List.mem_append.mp hz).elim id List.mem_of_mem_take) (by
    have a := wL_take ds j
    rw [wL_app]
    omega)
theorem Vok.part (hd : Vok wt n (.tup ds)) (hx : ds[k]? = some x) (vy : Vok (2 * wD x + C) (n + 1) y) : Vok (2 * wt + C) (n + 2) (.tup (ds.take k ++ [y] ++ ds.drop (k + 1))) := by
  have w := hd.wt
  have d := hd.dp
  rw [wD_tup] at w
  rw [dD_tup] at d
  have s := (shwL_all ds).mp hd.sh
  have dd := (dL_le ds (n - 1)).mp (by omega)
  have wx := wL_at hx
  have wy := vy.wt
  have cases3 : ∀ z ∈ ds.take k ++ [y] ++ ds.drop (k + 1), z ∈ ds ∨ z = y := fun z hz => by
    simp only [List.mem_append, List.mem_cons, List.not_mem_nil, or_false] at hz
    rcases hz with (hz | hz) | hz
    · exact .inl (List.mem_of_mem_take hz)
    · exact .inr hz
    · exact .inl (List.mem_of_mem_drop hz)
  refine Vok.tup (n := 2 * wt + C) (m := n + 1) (fun z hz => ?_) (by rw [wL_app, wL_app, wL_cons, wL_nil]; omega) (fun z hz => ?_)
  · rcases cases3 z hz with q | q
    · exact s z q
    · rw [q]; exact vy.sh
  · rcases cases3 z hz with q | q
    · have := dd z q
      omega
    · rw [q]; exact vy.dp
/-- a part stands no deeper than its tuple less one -/
theorem Vok.at (hd : Vok wt n (.tup ds)) (hx : ds[k]? = some x) : Vok (wD x) (n - 1) x ∧ 1 ≤ n ∧ wD x + 1 ≤ wt ∧ ds.length ≤ wt := by
  have w := hd.wt
  have d := hd.dp
  rw [wD_tup] at w
  rw [dD_tup] at d
  have m := List.mem_of_getElem? hx
  have wm := wL_mem m
  have wl := wL_len ds
  exact ⟨⟨(shwL_all ds).mp hd.sh x m, Nat.le_refl _, (dL_le ds (n - 1)).mp (by omega) x m⟩, by omega, by omega, by omega⟩
end
end Lin

end

section
namespace Lin
open PySem PySem.Spec PyProof.Rows L2
theorem top_room (N : List Str) (x : Str) (sc : Scope) (s : Shared) (f : Addr) (cdv : Value) : Room 60 (callerA.deeper (envOfC x sc s.heap.objs.size f cdv)) := Room.deeper (k := 60) ⟨rfl, by decide, by decide⟩ _
/-- what holds of calls anywhere holds at the top -/
theorem In0.top {P : Program} {w : World} {K : PySem.W.Frag} {mg : Str → Option Value} {base : Heap} {N : List Str} {st : Stmt} {k : Nat} {Goal : Cx → Prop} (h : In0 P w K mg base N "law" st k Goal) (hk : k ≤ 60) : Top0 P w K mg base N st Goal :=
  fun f cdv s H E => h f cdv callerA [] s H E ((top_room N "law" (defScope st) s f cdv).mono hk)
theorem sameL_all {ds : List D} (h : ∀ d ∈ ds, sameOk d = true) : sameOkL ds = true := by
  induction ds with
  | nil => rfl
  | cons d ds ih =>
    show (sameOk d && sameOkL ds) = true
    rw [h d (List.mem_cons_self ..), ih fun x hx => h x (List.mem_cons_of_mem _ hx)]
    rfl
theorem same_lst {ds : List D} (h : ∀ d ∈ ds, sameOk d = true) (hl : ds.length ≤ 1000000) : sameOk (.lst ds) = true := by
  show (sameOkL ds && decide (ds.length ≤ 1000000)) = true
  rw [sameL_all h, decide_eq_true hl]
  rfl
theorem same_tup {ds : List D} (h : ∀ d ∈ ds, sameOk d = true) (hl : ds.length ≤ 1000000) : sameOk (.tup ds) = true := same_lst h hl
theorem depL_le {ds : List D} {n : Nat} (h : ∀ d ∈ ds, dep d ≤ n) : depL ds ≤ n := by
  induction ds with
  | nil => exact Nat.zero_le _
  | cons d ds ih =>
    show max (dep d) (depL ds) ≤ n
    exact Nat.max_le.mpr ⟨h d (List.mem_cons_self ..), ih fun x hx => h x (List.mem_cons_of_mem _ hx)⟩
theorem pt_same (p : Pt) : sameOk p.d = true ∧ dep p.d = 1 := by
  cases p with
  | side n => exact ⟨same_tup (fun x hx => by
      simp only [List.mem_cons, List.not_mem_nil, or_false] at hx
      rcases hx with rfl | rfl
      · exact (by decide +kernel : sameOk (.str strSide) = true)
      · rfl) (by simp), rfl⟩
  | mtch k => exact ⟨same_tup (fun x hx => by
      simp only [List.mem_cons, List.not_mem_nil, or_false] at hx
      rcases hx with rfl | rfl
      · exact (by decide +kernel : sameOk (.str strMatch) = true)
      · rfl) (by simp), rfl⟩
theorem prs_same (f : Prs) (hl : f.length ≤ 1000000) : sameOk (.lst (f.map prD)) = true ∧ dep (.lst (f.map prD)) ≤ 3 := by
  refine ⟨same_lst (fun d hd => ?_) (by rw [List.length_map]; exact hl), ?_⟩
  · obtain ⟨p, _, rfl⟩ := List.mem_map.mp hd
    exact same_tup (fun x hx => by
      simp only [List.mem_cons, List.not_mem_nil, or_false] at hx
      rcases hx with rfl | rfl
      · exact (pt_same _).1
      · exact (pt_same _).1) (by simp)
  · have z : depL (f.map prD) ≤ 2 := depL_le fun d hd => by
      obtain ⟨p, _, rfl⟩ := List.mem_map.mp hd
      show max (dep p.1.d) (max (dep p.2.d) 0) + 1 ≤ 2
      rw [(pt_same p.1).2, (pt_same p.2).2]
      decide
    show depL (f.map prD) + 1 ≤ 3
    omega
theorem sds_same (f : Sds) (hl : f.length ≤ 1000000) (hs : ∀ l ∈ f, l.length ≤ 1000000) : sameOk (.lst (f.map sdD)) = true ∧ dep (.lst (f.map sdD)) ≤ 2 := by
  refine ⟨same_lst (fun d hd => ?_) (by rw [List.length_map]; exact hl), ?_⟩
  · obtain ⟨l, m, rfl⟩ := List.mem_map.mp hd
    exact same_tup (fun x hx => by obtain ⟨i, _, rfl⟩ := List.mem_map.mp hx; rfl) (by rw [List.length_map]; exact hs l m)
  · have z : depL (f.map sdD) ≤ 1 := depL_le fun d hd => by
      obtain ⟨p, _, rfl⟩ := List.mem_map.mp hd
      show depL (p.map D.int) + 1 ≤ 1
      rw [depL_ints]
      decide
    show depL (f.map sdD) + 1 ≤ 2
    omega
theorem int_ok {i : Int} (h0 : 0 ≤ i) (h1 : i ≤ 1000) : Vok 10 0 (.int i) := by
  refine ⟨decide_eq_true (Nat.lt_of_le_of_lt (show i.natAbs ≤ 1000 by omega) (by decide +kernel)), ?_, Nat.le_refl 0⟩
  show (if i == 0 then 0 else i.natAbs.log2 + 1) ≤ 10
  split
  · omega
  · rename_i z
    have : i.natAbs ≠ 0 := fun e => z (by simp; omega)
    have := (Nat.log2_lt this (k := 10)).mpr (by omega)
    omega
theorem tr_wt : ∀ t : Tr, (∀ x ∈ t.leaves, 0 ≤ x ∧ x ≤ 1000) → shw t.d = true ∧ wD t.d + 2 ≤ 12 * t.leaves.length ∧ dD t.d + 1 ≤ t.leaves.length
  | .leaf n, h => by
    obtain ⟨a, b⟩ := h n (List.mem_singleton.mpr rfl)
    have z := int_ok a b
    have w := z.wt
    exact ⟨z.sh, by show wD (.int n) + 2 ≤ 12 * 1; omega, by show 0 + 1 ≤ 1; omega⟩
  | .node l r, h => by
    obtain ⟨s1, w1, d1⟩ := tr_wt l fun x hx => h x (List.mem_append_left _ hx)
    obtain ⟨s2, w2, d2⟩ := tr_wt r fun x hx => h x (List.mem_append_right _ hx)
    have e : (Tr.node l r).leaves.length = l.leaves.length + r.leaves.length := List.length_append ..
    rw [e]
    refine ⟨?_, ?_, ?_⟩
    · show (shw l.d && (shw r.d && true)) = true
      rw [s1, s2]
      rfl
    · show wD (.tup [l.d, r.d]) + 2 ≤ _
      rw [wD_tup, wL_cons, wL_cons, wL_nil]
      omega
    · show dD (.tup [l.d, r.d]) + 1 ≤ _
      rw [dD_tup, dL_cons, dL_cons, dL_nil]
      omega
theorem tr_ok (t : Tr) (h : ∀ x ∈ t.leaves, 0 ≤ x ∧ x ≤ 1000) : Vok (12 * t.leaves.length) t.leaves.length t.d := by
  obtain ⟨a, b, c⟩ := tr_wt t h
  exact ⟨a, by omega, by omega⟩
def biR : Expr → Expr
  | .BinOp _ _ b _ => b
  | _ => .Constant .none 0 ⟨0, 0, 0, 0⟩
def ifS : Stmt → List Stmt
  | .If _ s _ _ => s
  | _ => []
end Lin

end

section
namespace Lin
open PySem PySem.Spec PySem.Calls PyProof.Rows L2
/-! ### any value as an ending -/
def resOk (rs : Rs) (k : Nat) (v : Int) : Bool := match lookR rs k with
  | none => true
  | some x => decide (v = x)
def stepB (rs : Rs) (e : List Int) (k : Nat) (p : Pt × Pt) : Bool := decide (e.getD k 0 ∈ [sideE e p.1, sideE e p.2]) && resOk rs k (e.getD k 0)
def endB (f : Prs) (rs : Rs) (e : List Int) : Bool := (f.zipIdx 0).all fun p => stepB rs e p.2 p.1
def iv : D → Int
  | .int i => i
  | _ => 0
def endD (f : Prs) (rs : Rs) : D → Bool
  | .tup ds => decide (ds.length = f.length) && ds.all isI && endB f rs (ds.map iv)
  | _ => false
theorem ints_of {ds : List D} (h : ds.all isI = true) : ds = (ds.map iv).map D.int := by
  induction ds with
  | nil => rfl
  | cons d ds ih =>
    rw [List.all_cons, Bool.and_eq_true] at h
    rw [List.map_cons, List.map_cons, ← ih h.2]
    cases d with
    | int i => rfl
    | _ => exact nomatch h.1
theorem isI_ints (e : List Int) : (e.map D.int).all isI = true := by
  induction e with
  | nil => rfl
  | cons x e ih => exact ih
theorem iv_ints (e : List Int) : (e.map D.int).map iv = e := by
  rw [List.map_map]
  exact List.map_id' e
theorem endB_iff {f : Prs} {rs : Rs} {e : List Int} (hl : e.length = f.length) : endB f rs e = true ↔ EndOk f e ∧ ∀ k v, k < f.length → lookR rs k = some v → e.getD k 0 = v := by
  unfold endB
  rw [List.all_eq_true]
  constructor
  · intro h
    have at1 : ∀ k p, f[k]? = some p → stepB rs e k p = true := fun k p hp => h (p, k) (List.mem_zipIdx_iff_getElem?.mpr hp)
    refine ⟨⟨hl, fun k p hp => ?_⟩, fun k v hk hv => ?_⟩
    · have z := (Bool.and_eq_true_iff.mp (at1 k p hp)).1
      have z := of_decide_eq_true z
      simpa using z
    · have z := (Bool.and_eq_true_iff.mp (at1 k _ (List.getElem?_eq_getElem hk))).2
      unfold resOk at z
      rw [hv] at z
      exact of_decide_eq_true z
  · rintro ⟨h1, h2⟩ ⟨p, k⟩ hm
    have hp : f[k]? = some p := List.mem_zipIdx_iff_getElem?.mp hm
    have hk : k < f.length := (List.getElem?_eq_some_iff.mp hp).1
    show (decide (e.getD k 0 ∈ [sideE e p.1, sideE e p.2]) && resOk rs k (e.getD k 0)) = true
    rw [Bool.and_eq_true]
    refine ⟨decide_eq_true (by simpa using h1.ok k p hp), ?_⟩
    unfold resOk
    cases hv : lookR rs k with
    | none => rfl
    | some v => exact decide_eq_true (h2 k v hk hv)
/-- an ending's names are sides of their matches -/
theorem end_in {f : Prs} (ok : OkF f) {e : List Int} (h : ∀ k p, f[k]? = some p → e.getD k 0 = sideE e p.1 ∨ e.getD k 0 = sideE e p.2) : ∀ (k : Nat), k < f.length → e.getD k 0 ∈ (sdsOf f).getD k [] := by
  intro k
  induction k using Nat.strongRecOn with
  | ind k ih =>
    intro hk
    have hp : f[k]? = some f[k] := List.getElem?_eq_getElem hk
    obtain ⟨o1, o2⟩ := ok k _ hp
    have part : ∀ q : Pt, OkPt k q → sideE e q ∈ ptS (sdsOf f) q := fun q oq => by
      cases q with
      | side n => exact List.mem_singleton.mpr rfl
      | mtch j =>
        have oq : j < k := oq
        exact ih j oq (by omega)
    refine part_in ok hp ?_
    rcases h k _ hp with e1 | e1
    · rw [e1]; exact .inl (part _ o1)
    · rw [e1]; exact .inr (part _ o2)
/-- the sides of a match are apart -/
theorem noted_nd : ∀ (t : Tr) (f : Prs), t.leaves.Nodup → ∀ i x, f.length ≤ i → (sdsOf (note t f).2)[i]? = some x → x.Nodup
  | .leaf n, f, _, i, x, hi, hx => by
    have e : i < (sdsOf f).length := (List.getElem?_eq_some_iff.mp hx).1
    rw [sdsOf_len] at e
    omega
  | .node l r, f, hn, i, x, hi, hx => by
    have hn : (l.leaves ++ r.leaves).Nodup := hn
    have nl : l.leaves.Nodup := (List.nodup_append.mp hn).1
    have nr : r.leaves.Nodup := (List.nodup_append.mp hn).2.1
    have al := noted_nd l f nl
    have ar := noted_nd r (note l f).2 nr
    have hl := noted l f
    have hr := noted r (note l f).2
    generalize ea : note l f = a at *
    generalize eb : note r a.2 = b at *
    obtain ⟨pa, fa⟩ := a
    obtain ⟨pb, fb⟩ := b
    obtain ⟨gb, egb⟩ := hr.pre
    simp only at egb hr eb al ar
    have en : note (.node l r) f = (.mtch fb.length, fb ++ [(pa, pb)]) := by simp only [note, ea, eb]
    rw [en] at hx
    have pab : sdsOf fa <+: sdsOf fb := by rw [egb]; exact sdsOf_pre fa gb
    have oa : OkPt fa.length pa := hl.pt
    have e1 : ptS (sdsOf fb) pa = ptS (sdsOf fa) pa := ptS_pre pab (by rw [sdsOf_len]; exact oa)
    have last : sdsOf (fb ++ [(pa, pb)]) = sdsOf fb ++ [isort (ptS (sdsOf fb) pa ++ ptS (sdsOf fb) pb)] := sdsOf_snoc fb (pa, pb)
    have pml : (ptS (sdsOf fb) pa ++ ptS (sdsOf fb) pb).Perm (l.leaves ++ r.leaves) := by
      rw [e1]
      exact hl.lv.append hr.lv
    rw [last] at hx
    by_cases hi2 : i < fb.length
    · rw [List.getElem?_append_left (by rw [sdsOf_len]; exact hi2)] at hx
      by_cases hi3 : i < fa.length
      · obtain ⟨c, ec⟩ := pab
        rw [← ec, List.getElem?_append_left (by rw [sdsOf_len]; exact hi3)] at hx
        exact al i x hi hx
      · exact ar i x (by show fa.length ≤ i; omega) hx
    · have hi4 : i < (sdsOf fb ++ [isort (ptS (sdsOf fb) pa ++ ptS (sdsOf fb) pb)]).length := (List.getElem?_eq_some_iff.mp hx).1
      rw [List.length_append, List.length_cons, List.length_nil, sdsOf_len] at hi4
      have e : i = fb.length := by omega
      subst e
      rw [List.getElem?_append_right (by rw [sdsOf_len]; exact Nat.le_refl _), sdsOf_len, Nat.sub_self] at hx
      have ex : isort (ptS (sdsOf fb) pa ++ ptS (sdsOf fb) pb) = x := by simpa using hx
      rw [← ex]
      exact ((isort_perm _).trans pml).nodup_iff.mpr hn
theorem parts_apart {t : Tr} (hn : t.leaves.Nodup) {k : Nat} {p : Pt × Pt} (hp : (note t []).2[k]? = some p) {a b : Int} (ha : a ∈ ptS (sdsOf (note t []).2) p.1) (hb : b ∈ ptS (sdsOf (note t []).2) p.2) : a ≠ b := by
  have okf : OkF (note t []).2 := (noted t []).ok fun i p z => by simp at z
  have z := noted_nd t [] hn k _ (Nat.zero_le _) (sds_at okf hp)
  have z := (isort_perm _).nodup_iff.mp z
  exact fun e => (List.nodup_append.mp z).2.2 a ha b hb e
theorem rangeI_nodup (n : Nat) : (rangeI n).Nodup := by
  unfold rangeI
  exact List.pairwise_map.mpr ((List.pairwise_lt_range (n := n)).imp fun h => by omega)
/-! ### all endings, grown match by match -/
def growE (rs : Rs) (k : Nat) (p : Pt × Pt) (e : List Int) : List (List Int) := ([sideE e p.1, sideE e p.2].filter fun s => resOk rs k s).map fun s => e ++ [s]
def allE (rs : Rs) (f : Prs) : List (List Int) := (f.zipIdx 0).foldl (fun es p => es.flatMap (growE rs p.2 p.1)) [[]]
/-- what is grown so far -/
structure Part (f : Prs) (rs : Rs) (n : Nat) (e : List Int) : Prop where
  len : e.length = n
  ins : ∀ k, k < n → e.getD k 0 ∈ (sdsOf f).getD k []
  ag : ∀ k v, k < n → lookR rs k = some v → e.getD k 0 = v
theorem Part.side {f : Prs} {rs : Rs} {n : Nat} {e : List Int} (h : Part f rs n e) : ∀ {q : Pt}, OkPt n q → sideE e q ∈ ptS (sdsOf f) q
  | .side _, _ => List.mem_singleton.mpr rfl
  | .mtch j, o => h.ins j o
theorem Part.snoc {f : Prs} {rs : Rs} {n : Nat} {e : List Int} (h : Part f rs n e) {v : Int} (hv : v ∈ (sdsOf f).getD n []) (hr : resOk rs n v = true) : Part f rs (n + 1) (e ++ [v]) := by
  have old : ∀ k, k < n → (e ++ [v]).getD k 0 = e.getD k 0 := fun k hk => by rw [List.getD_eq_getElem?_getD, List.getD_eq_getElem?_getD, List.getElem?_append_left (by rw [h.len]; exact hk)]
  have new : (e ++ [v]).getD n 0 = v := by rw [List.getD_eq_getElem?_getD, List.getElem?_append_right (by rw [h.len]; exact Nat.le_refl _), h.len, Nat.sub_self]; rfl
  refine ⟨by rw [List.length_append, h.len]; rfl, fun k hk => ?_, fun k x hk hx => ?_⟩
  · by_cases e1 : k < n
    · rw [old k e1]; exact h.ins k e1
    · have e2 : k = n := by omega
      subst e2
      rw [new]; exact hv
  · by_cases e1 : k < n
    · rw [old k e1]; exact h.ag k x e1 hx
    · have e2 : k = n := by omega
      subst e2
      rw [new]
      unfold resOk at hr
      rw [hx] at hr
      exact of_decide_eq_true hr
theorem grow_one {t : Tr} (hn : t.leaves.Nodup) {rs : Rs} (g : Grow (note t []).2 rs) {k : Nat} {p : Pt × Pt} (hp : (note t []).2[k]? = some p) {e : List Int} (h : Part (note t []).2 rs k e) :
    (growE rs k p e).length = (if (lookR rs k).isSome then 1 else 2) ∧ ∀ x ∈ growE rs k p e, Part (note t []).2 rs (k + 1) x := by
  have okf : OkF (note t []).2 := (noted t []).ok fun i p z => by simp at z
  obtain ⟨o1, o2⟩ := okf k p hp
  have a1 := h.side o1
  have a2 := h.side o2
  have ne := parts_apart hn hp a1 a2
  refine ⟨?_, fun x hx => ?_⟩
  · unfold growE
    rw [List.length_map]
    cases hv : lookR rs k with
    | none =>
      have r : ∀ v, resOk rs k v = true := fun v => by unfold resOk; rw [hv]
      simp [r]
    | some v =>
      have r : ∀ s, resOk rs k s = decide (s = v) := fun s => by unfold resOk; rw [hv]
      obtain ⟨q, a, b, hq, ha, hb, hab⟩ := g.ok k v (lookR_some hv)
      rw [hp] at hq
      cases hq
      have part : ∀ {q : Pt} {c : Int}, OkPt k q → sideW (lookR rs) q = some c → sideE e q = c := fun {q c} oq e1 => by
        cases q with
        | side n => exact Option.some.inj e1
        | mtch j => exact h.ag j c oq e1
      have ea := part o1 ha
      have eb := part o2 hb
      rw [ea, eb] at ne ⊢
      rcases hab with rfl | rfl
      · simp [r, Ne.symm ne]
      · simp [r, ne]
  · unfold growE at hx
    obtain ⟨s, hs, rfl⟩ := List.mem_map.mp hx
    obtain ⟨hs, hr⟩ := List.mem_filter.mp hs
    refine h.snoc (part_in okf hp ?_) hr
    simp only [List.mem_cons, List.not_mem_nil, or_false] at hs
    rcases hs with rfl | rfl
    · exact .inl a1
    · exact .inr a2
/-- how many matches below n have a name -/
def named (rs : Rs) : Nat → Nat
  | 0 => 0
  | n + 1 => named rs n + if (lookR rs n).isSome then 1 else 0
theorem named_le (rs : Rs) : ∀ n, named rs n ≤ n
  | 0 => Nat.le_refl _
  | n + 1 => by
    have := named_le rs n
    show named rs n + _ ≤ n + 1
    split <;> omega
theorem flat_len {α β : Type} (g : α → List β) (c : Nat) : ∀ (as : List α), (∀ a ∈ as, (g a).length = c) → (as.flatMap g).length = as.length * c
  | [], _ => by simp
  | a :: as, h => by
    rw [List.flatMap_cons, List.length_append, h a (List.mem_cons_self ..), flat_len g c as fun x hx => h x (List.mem_cons_of_mem _ hx), List.length_cons, Nat.add_mul, Nat.one_mul, Nat.add_comm]
theorem all_grown {t : Tr} (hn : t.leaves.Nodup) {rs : Rs} (g : Grow (note t []).2 rs) : ∀ (as pre : Prs) (es : List (List Int)), pre ++ as = (note t []).2 → (∀ e ∈ es, Part (note t []).2 rs pre.length e) → es.length = 2 ^ (pre.length - named rs pre.length) →
    ((as.zipIdx pre.length).foldl (fun es p => es.flatMap (growE rs p.2 p.1)) es).length = 2 ^ ((note t []).2.length - named rs (note t []).2.length)
  | [], pre, es, e, _, hl => by
    rw [List.append_nil] at e
    rw [← e]
    exact hl
  | p :: as, pre, es, e, hp, hl => by
    have hat : (note t []).2[pre.length]? = some p := by rw [← e, List.getElem?_append_right (Nat.le_refl _), Nat.sub_self]; rfl
    have z := all_grown hn g as (pre ++ [p]) (es.flatMap (growE rs pre.length p)) (by rw [List.append_assoc]; exact e) (fun x hx => by
      obtain ⟨y, hy, hx⟩ := List.mem_flatMap.mp hx
      rw [List.length_append]
      exact (grow_one hn g hat (hp y hy)).2 x hx) (by
      rw [flat_len _ _ es fun y hy => (grow_one hn g hat (hp y hy)).1, hl, List.length_append]
      have nl := named_le rs pre.length
      show _ = 2 ^ (pre.length + 1 - (named rs pre.length + if (lookR rs pre.length).isSome then 1 else 0))
      split
      · rw [Nat.mul_one]; congr 1; omega
      · rw [← Nat.pow_succ]; congr 1; omega)
    rw [List.length_append] at z
    exact z
theorem named_all : ∀ (n : Nat) (rs : Rs), (rs.map (·.1)).Nodup → (∀ k ∈ rs.map (·.1), k < n) → named rs n = rs.length
  | 0, rs, _, h => by
    cases rs with
    | nil => rfl
    | cons p rs => exact absurd (h p.1 (by simp)) (Nat.not_lt_zero _)
  | n + 1, rs, nd, h => by
    -- the names below n
    have cnt : ∀ (m : Nat) (qs : Rs), (qs.map (·.1)).Nodup → named qs m = (qs.filter fun p => decide (p.1 < m)).length := by
      intro m
      induction m with
      | zero =>
        intro qs _
        rw [List.filter_eq_nil_iff.mpr fun p _ => by simp]
        rfl
      | succ m ih =>
        intro qs nq
        show named qs m + _ = _
        rw [ih qs nq]
        clear ih h nd
        induction qs with
        | nil => rfl
        | cons q qs iq =>
          rw [List.map_cons, List.nodup_cons] at nq
          have z := iq nq.2
          have lk : lookR (q :: qs) m = if q.1 = m then some q.2 else lookR qs m := by
            unfold lookR
            rw [List.find?_cons]
            by_cases e : q.1 = m
            · simp [e]
            · simp [e]
          rw [lk]
          by_cases e : q.1 = m
          · have no : lookR qs m = none := lookR_none.mpr (by rw [← e]; exact nq.1)
            rw [no] at z
            rw [if_pos e, List.filter_cons_of_neg (by simp [e]), List.filter_cons_of_pos (by simp [e]), List.length_cons, ← z]
            simp
          · rw [if_neg e]
            by_cases l : q.1 < m
            · rw [List.filter_cons_of_pos (by simp [l]), List.filter_cons_of_pos (by simp; omega), List.length_cons, List.length_cons]
              omega
            · rw [List.filter_cons_of_neg (by simp [l]), List.filter_cons_of_neg (by simp; omega)]
              exact z
    rw [cnt _ rs nd, List.filter_eq_self.mpr]
    intro p hp
    exact decide_eq_true (h p.1 (List.mem_map.mpr ⟨p, hp, rfl⟩))
theorem allE_len {t : Tr} (hn : t.leaves.Nodup) {rs : Rs} (g : Grow (note t []).2 rs) : (allE rs (note t []).2).length = 2 ^ ((note t []).2.length - rs.length) := by
  have z := all_grown hn g (note t []).2 [] [[]] rfl (fun e he => by rw [List.mem_singleton.mp he]; exact ⟨rfl, fun k hk => absurd hk (Nat.not_lt_zero _), fun k v hk => absurd hk (Nat.not_lt_zero _)⟩) rfl
  rw [named_all _ rs g.nd fun k hk => by
    obtain ⟨p, hp, rfl⟩ := List.mem_map.mp hk
    exact g.lt (k := p.1) (v := p.2) hp] at z
  exact z
def ifC : Stmt → Expr
  | .If c _ _ _ => c
  | _ => .Constant .none 0 ⟨0, 0, 0, 0⟩
def boI : Expr → Nat → Expr
  | .BoolOp _ es _, i => es.getD i (.Constant .none 0 ⟨0, 0, 0, 0⟩)
  | _, _ => .Constant .none 0 ⟨0, 0, 0, 0⟩
def unI : Expr → Expr
  | .UnaryOp _ e _ => e
  | _ => .Constant .none 0 ⟨0, 0, 0, 0⟩
theorem lcR_mapD {X : Cx} {scope : Scope} {tg elt : Expr} {vs : List Nat} (out : D → M) (env : Sls) : ∀ (as : List D),
    (∀ a ∈ as, ∃ env1 env2 : Sls, (InB X scope fun X' => Tg X' tg a vs env env1) ∧ (InB X scope fun X' => Ev X' elt env1 (out a) env2) ∧ wipeE env2 vs = env) → LcR X scope tg elt [] vs as env (as.map out) env
  | [], _ => .nil
  | a :: as, h => by
    obtain ⟨env1, env2, t, e, hw⟩ := h a (List.mem_cons_self ..)
    exact .yes t (fun _ _ _ _ _ => tvs_nil) e (by rw [hw]; exact lcR_mapD out env as fun b hb => h b (List.mem_cons_of_mem _ hb))
end Lin

end

section
namespace Lin
open PySem PySem.Spec PySem.Calls PyProof.Rows L2
section
variable {X : Cx} {env env1 env2 : Sls} {a b e : Expr} {d x y : D} {pos p apos cpos : Pos} {k : Key} {n : Str} {s : Sl} {K : PySem.W.Frag} {O : OW} {H : Hp}
theorem rep_items {H' : Hp} (w : Wf O H []) (kp : ∀ b o, H b = some o → H' b = some o) : ∀ {ts : List Addr} {kvs : List (Key × V)} {ks : List Key} {ds : List D}, (∀ t ∈ ts, H t = none) → Paired (fun (t : Addr) (q : Key × V) => H' t = some (.tup [kV q.1, q.2])) ts kvs → kvs.map (·.1) = ks → RepL K O H ds (kvs.map (·.2)) →
    RepL K O H' (itemsD ks ds) (ts.map V.ref)
  | [], [], ks, ds, _, .nil, hk, rl => by
    rw [← show [] = ks from hk, show ds = [] by cases ds with | nil => rfl | cons d ds => obtain ⟨_, _, e, _⟩ := rl; cases e]
    rfl
  | t :: ts, q :: kvs, ks, ds, hn, .cons h t2, hk, rl => by
    cases ds with
    | nil => cases (show (_ :: _) = [] from rl)
    | cons d ds =>
      obtain ⟨v, vs, e, rd, rl⟩ := rl
      injection e with e1 e2
      subst e1
      subst e2
      rw [← hk]
      have no : ¬ O t := fun z => by
        obtain ⟨o, q⟩ := w.dom t z
        rw [hn t (List.mem_cons_self ..)] at q
        cases q
      exact ⟨.ref t, _, rfl, ⟨t, [kV q.1, q.2], rfl, .inl ⟨no, .inl h⟩, kV q.1, [q.2], rfl, rep_key, q.2, [], rfl, Rep.keep (fun a o z _ => kp a o z) (fun a z => .inl z) d rd, rfl⟩, rep_items w kp (fun t ht => hn t (List.mem_cons_of_mem _ ht)) t2 rfl rl⟩
/-- list(x.items()) of an owned dict -/
theorem ev_itemsO (i : Nat) {kvs : KD} (hi : env[i]? = some (some s)) (hm : s.m = dkM kvs) (hml : X.mg "list" = none := by assumption) (hc : X.calm = true := by rfl) (hg : Gl X "list" := by rfl) (hN : X.N[i]? = some n := by rfl) (hv : Vis X.env.scope n := by first | exact Or.inl rfl | exact Or.inr (Or.inl rfl) | exact Or.inr (Or.inr rfl)) (hd : (n == ("__debug__" : Str)) = false := by decide) (hcd : (n == ("__classdict__" : Str)) = false := by decide)
    (hbase : attributeBase (.Name n p) "items" X.env (eval (.Name n p) X.env) = eval (.Name n p) X.env := by rfl) (hline : (apos.endLine == cpos.line) = true := by rfl)
    (hs : starEach [.Call (.Attribute (.Name n p) "items" apos) [] [] cpos] X.env = (false, eval (.Call (.Attribute (.Name n p) "items" apos) [] [] cpos) X.env) :: starEach [] X.env := by rfl) {p2 : Pos} :
    Ev X (.Call (.Name "list" p2) [.Call (.Attribute (.Name n p) "items" apos) [] [] cpos] [] pos) env (.val (.lst (itemsD (kvs.map (·.1)) (kvs.map (·.2))))) env :=
  ⟨Io.refl _, fun O H σ F r w Q q => ⟨_, LiI.pe_listItems hc (pe_var hN hv hd hcd) hg hml (by decide +kernel) hbase hline hs, by
    obtain ⟨v, F1, Fi, F2, e1, ef, rm, _, _⟩ := RepS.at r hi
    rw [hm] at rm
    obtain ⟨a, kv, F', ea, efi, ha, hk, rl⟩ := rm
    refine ⟨v, e1, a, kv, ea, ha, fun H' p ts kp hp hts hpt hH hpr => ?_⟩
    have no : ¬ O p := fun z => by
      obtain ⟨o, q⟩ := w.dom p z
      rw [hp] at q
      cases q
    have st : Step O H F O H' F := ⟨fun a o h _ => kp a o h, fun a h => .inl h, fun a h _ => h, fun a h => .inl h, ⟨w.nd, w.own, fun a h => let ⟨o, q⟩ := w.dom a h; ⟨o, kp a o q⟩, w.keepN kp⟩⟩
    exact q O H' (.ref p) [] F ⟨rfl, p, ts.map V.ref, rfl, no, hH, rep_items w.nil kp hts hpr hk (repL_vals rl)⟩ (RepS.keep (fun a o h _ => kp a o h) (fun a h => .inl h) env (fun a o _ h => kp a o h) r) st⟩⟩
theorem merge_app : ∀ (more acc : List (Key × V)), ((acc ++ more).map (·.1)).Nodup → mergeK acc more = acc ++ more
  | [], acc, _ => by rw [List.append_nil]; rfl
  | q :: more, acc, h => by
    have nk : (acc.any fun kv => decide (kv.1 = q.1)) = false := by
      rw [List.any_eq_false]
      intro kv hkv z
      have z := of_decide_eq_true z
      rw [List.map_append, List.nodup_append] at h
      exact h.2.2 kv.1 (List.mem_map.mpr ⟨kv, hkv, rfl⟩) q.1 (by simp) z
    have e : putK acc q.1 q.2 = acc ++ [q] := by
      unfold putK
      rw [if_neg (by rw [nk]; exact Bool.false_ne_true)]
    show mergeK (putK acc q.1 q.2) more = _
    rw [e, merge_app more (acc ++ [q]) (by rw [List.append_assoc]; exact h), List.append_assoc]
    rfl
theorem pairs_rep : ∀ {kvs : KD} {xs : List V}, RepL K O H (kvs.map fun q => D.tup [kD q.1, q.2]) xs → ∃ (ps : List Addr) (kv : List (Key × V)), xs = ps.map V.ref ∧ Paired (fun p kv => SqT K H p [kV kv.1, kv.2]) ps kv ∧ kv.map (·.1) = kvs.map (·.1) ∧ RepL K O H (kvs.map (·.2)) (kv.map (·.2))
  | [], xs, h => ⟨[], [], h, .nil, rfl, rfl⟩
  | q :: kvs, xs, ⟨v, vs, e, ⟨a, zs, ev, ta, z1, zr, e1, r1, z2, zr2, e2, r2, e3⟩, rl⟩ => by
    obtain ⟨ps, kv, e4, pr, hk, rk⟩ := pairs_rep rl
    have ek := rep_kD r1
    have e3 : zr2 = [] := e3
    subst e3
    subst e2
    subst e1
    subst ek
    exact ⟨a :: ps, (q.1, z2) :: kv, by rw [e, ev, e4]; rfl, .cons (TupAt.sq ta) pr, by rw [List.map_cons, List.map_cons, hk], ⟨z2, _, rfl, r2, rk⟩⟩
/-- dict(xs) of pairs with keys apart -/
theorem ev_dictP {kvs : KD} (ha : Ev X e env (.val (.lst (kvs.map fun q => D.tup [kD q.1, q.2]))) env1) (nd : (kvs.map (·.1)).Nodup) (hm : X.mg "dict" = none := by assumption) (hc : X.calm = true := by rfl) (hg : Gl X "dict" := by rfl) (he : starEach [e] X.env = (false, eval e X.env) :: starEach [] X.env := by rfl) (hpl : (backTo pos (starEach [] X.env)).any (·.1) = false := by rfl) :
    Ev X (.Call (.Name "dict" p) [e] [] pos) env (dkM kvs) env1 :=
  ev_cty (ds := [.lst (kvs.map fun q => D.tup [kD q.1, q.2])]) (call_dictP hc) (fun O H w vs ⟨u, us, e1, ⟨a, xs, eu, no, ha, rl⟩, hn⟩ Q q => by
    obtain ⟨ps, kv, ex, pr, hk, rk⟩ := pairs_rep rl
    refine ⟨a, ps, kv, by rw [e1, eu, show us = [] from hn], .inl (.inl (by rw [← ex]; exact ha)), pr, fun p hp => ?_⟩
    have s0 : Step O H [] (fun b => O b ∨ b = p) (upd H p (.dK kv)) [p] := Step.new (G := []) w hp
    rw [merge_app kv [] (by rw [List.nil_append, hk]; exact nd), List.nil_append]
    exact q _ _ (.ref p) [p] ⟨p, kv, [], rfl, rfl, upd_same, hk, repML_val _ (RepL.keep (s0.kf w) s0.nw _ rk)⟩ s0) (ea_cons ha ea_nil he) hm (by decide +kernel) hg (by decide) (by decide) he hpl
end
theorem items_kd (kvs : KD) : itemsD (kvs.map (·.1)) (kvs.map (·.2)) = kvs.map fun q => D.tup [kD q.1, q.2] := by
  induction kvs with
  | nil => rfl
  | cons q kvs ih => rw [List.map_cons, List.map_cons, itemsD, ih]; rfl
section
variable {X : Cx} {env env1 env2 env3 : Sls} {a b f : Expr} {ds : List D} {k : Key} {pos apos cpos : Pos}
/-- d.get(k, x), where x changes what is owned -/
theorem ev_get3 {ks : List Key} {z : D} (ha : Ev X a env (.val (.dK ks ds)) env1) (hb : Ev X b env1 (.val (kD k)) env2) (hf : Ev X f env2 (.val z) env3) (hu : X.A.units + 1 < cLine) (m2 : M2 X a "get" apos b f cpos := by exact ⟨rfl, rfl, rfl, rfl⟩) : Ev X (.Call (.Attribute a "get" apos) [b, f] [] cpos) env (.val ((getD ks ds k).getD z)) env3 :=
  ⟨(ha.1.trans hb.1).trans hf.1, fun O H σ F rs w Q q => ⟨_, pe_dget2 hu pe_w pe_w pe_w m2, ha.2 O H σ F rs w _ fun O1 H1 u Fu F1 ⟨eu, ru⟩ r1 s1 => by
    subst eu
    obtain ⟨a', kv, ea, no, hp, hks, rl⟩ := id ru
    refine ⟨a', ea, .inl ⟨kv, hp⟩, hb.2 O1 H1 σ F1 r1 s1.wf _ fun O2 H2 v Fv F2 ⟨ev, rv⟩ r2 s2 => hf.2 O2 H2 σ F2 r2 s2.wf.right _ fun O3 H3 y Fy F3 ⟨ey, ry⟩ r3 s3 => ?_⟩
    subst ev ey
    have ek := rep_kD rv
    subst ek
    obtain ⟨a2, kv2, ea2, no2, hp2, hks2, rl2⟩ := s3.rep s2.wf (s2.rep s1.wf ru)
    rw [ea] at ea2
    cases ea2
    refine ⟨valV kv2 k, .inl ⟨kv2, k, hp2, rfl, rfl⟩, ?_⟩
    have st := (s1.trans w s2).trans w s3
    rcases rep_val (k := k) hks2 rl2 with ⟨d', v', h1, h2, h3⟩ | ⟨h1, h2⟩
    · rw [h2]
      rw [h1] at q
      exact q O3 H3 v' [] F3 ⟨rfl, h3⟩ r3 st
    · rw [h2]
      rw [h1] at q
      exact q O3 H3 y [] F3 ⟨rfl, ry⟩ r3 st⟩⟩
end
theorem resK_nd {rs : Rs} (h : (rs.map (·.1)).Nodup) : ((resK rs).map (·.1)).Nodup := by
  rw [resK_keys]
  refine List.pairwise_map.mpr (List.pairwise_map.mpr ((List.pairwise_map.mp h).imp ?_))
  intro a b hab z
  exact hab (Int.ofNat.inj (Sum.inl.inj z))
end Lin

end

section
namespace Lin
open PySem PySem.Spec PySem.Calls PyProof.Rows L2
/-- a law's look at a part: p[1] if p[0] == "side" else x[p[1]] -/
theorem part_ev {X : Cx} {env : Sls} {ds : List D} {i j : Nat} {x : Str} (e : List Int) (q : Pt) (hq : env[i]? = some (vl q.d)) (hx : env[j]? = some (vl (.tup ds))) (hk : ∀ k, q = .mtch k → L2.atI ds (k : Int) = some (.int (e.getD k 0))) (hu : X.A.units + 64 < cLine) {p1 p2 p3 p4 p5 p6 p7 p8 p9 p10 : Pos} {n1 n2 n3 : Nat} {pn : Str}
    (hN : X.N[i]? = some pn) (hN2 : X.N[j]? = some x) (hv : Vis X.env.scope pn) (hv2 : Vis X.env.scope x) (hd : (pn == ("__debug__" : Str)) = false) (hcd : (pn == ("__classdict__" : Str)) = false) (hd2 : (x == ("__debug__" : Str)) = false) (hcd2 : (x == ("__classdict__" : Str)) = false)
    {p11 p12 p13 p14 : Pos} : Ev X (.IfExp (.Compare (.Subscript (.Name pn p1) (.Constant (.int 0) n1 p2) p3) [.Eq] [.Constant (.str "side") n2 p4] p5) (.Subscript (.Name pn p6) (.Constant (.int 1) n3 p7) p8) (.Subscript (.Name x p9) (.Subscript (.Name pn p10) (.Constant (.int 1) n3 p11) p12) p13) p14) env (.val (.int (sideE e q))) env := by
  cases q with
  | side n => exact ev_ifT ((tv_eqS (by decide +kernel) (by decide +kernel) (ev_ixT (ds := [.str strSide, .int n]) (ev_name i hq hN hv hd hcd) ev_int rfl) ev_str hu).eq (by decide)) (ev_ixT (ds := [.str strSide, .int n]) (ev_name i hq hN hv hd hcd) ev_int rfl)
  | mtch k => exact ev_ifF ((tv_eqS (by decide +kernel) (by decide +kernel) (ev_ixT (ds := [.str strMatch, .int (k : Int)]) (ev_name i hq hN hv hd hcd) ev_int rfl) ev_str hu).eq (by decide)) (ev_ixT (ds := ds) (ev_name j hx hN2 hv2 hd2 hcd2) (ev_ixT (ds := [.str strMatch, .int (k : Int)]) (ev_name i hq hN hv hd hcd) ev_int rfl) (hk k rfl))
def cmR : Expr → Expr
  | .Compare _ _ (b :: _) _ => b
  | _ => .Constant .none 0 ⟨0, 0, 0, 0⟩
end Lin

end

section
namespace Lin
open PySem PySem.Spec PySem.Calls PyProof.Rows L2
theorem vok_ints {e : List Int} (h : ∀ x ∈ e, 0 ≤ x ∧ x ≤ 1000) : Vok (11 * e.length) 1 (sdD e) := by
  have w : wL (e.map D.int) ≤ 11 * e.length := by
    induction e with
    | nil => exact Nat.le_refl 0
    | cons x e ih =>
      have := ih fun y hy => h y (List.mem_cons_of_mem _ hy)
      obtain ⟨a, b⟩ := h x (List.mem_cons_self ..)
      have := (int_ok a b).wt
      rw [List.map_cons, wL_cons, List.length_cons]
      omega
  refine Vok.tup (m := 0) (fun z hz => ?_) w (fun z hz => ?_)
  · obtain ⟨x, hx, rfl⟩ := List.mem_map.mp hz
    obtain ⟨a, b⟩ := h x hx
    exact (int_ok a b).sh
  · obtain ⟨x, hx, rfl⟩ := List.mem_map.mp hz
    exact Nat.le_refl 0
def resP (rs : Rs) : List (PyData × PyData) := (((resK rs).map (·.1)).map keyP).zip (pkL ((resK rs).map (·.2)))
theorem res_kv {rs : Rs} (h : ∀ p ∈ rs, p.1 ≤ 1000 ∧ 0 ≤ p.2 ∧ p.2 ≤ 1000) : PyData.weightKv (resP rs) ≤ 22 * rs.length ∧ PyData.depthKv (resP rs) = 0 ∧ ((resK rs).map (·.1)).all shwKey = true ∧ shwL ((resK rs).map (·.2)) = true := by
  induction rs with
  | nil => exact ⟨Nat.le_refl 0, by simp [resK, resP, PyData.depthKv], rfl, rfl⟩
  | cons p rs ih =>
    obtain ⟨i1, i2, i3, i4⟩ := ih fun q hq => h q (List.mem_cons_of_mem _ hq)
    obtain ⟨a, b, c⟩ := h p (List.mem_cons_self ..)
    have k1 := int_ok (i := (p.1 : Int)) (by omega) (by omega)
    have k2 := int_ok b c
    have w1 : (PyData.int (p.1 : Int)).weight ≤ 10 := k1.wt
    have w2 : (PyData.int p.2).weight ≤ 10 := k2.wt
    refine ⟨?_, ?_, ?_, ?_⟩
    · show PyData.weightKv ((.int (p.1 : Int), .int p.2) :: resP rs) ≤ _
      simp only [PyData.weightKv]
      rw [List.length_cons]
      have := i1
      simp only [PyData.weight] at w1 w2 ⊢
      omega
    · show PyData.depthKv ((.int (p.1 : Int), .int p.2) :: resP rs) = 0
      simp only [PyData.depthKv, PyData.depth]
      rw [i2]
      rfl
    · show (shwI (p.1 : Int) && ((resK rs).map (·.1)).all shwKey) = true
      rw [i3, show shwI (p.1 : Int) = true from k1.sh]
      rfl
    · show (shwI p.2 && shwL ((resK rs).map (·.2))) = true
      rw [i4, show shwI p.2 = true from k2.sh]
      rfl
theorem vok_res {rs : Rs} (h : ∀ p ∈ rs, p.1 ≤ 1000 ∧ 0 ≤ p.2 ∧ p.2 ≤ 1000) : Vok (22 * rs.length) 1 (dkD (resK rs)) := by
  obtain ⟨a, b, c, d⟩ := res_kv h
  refine ⟨?_, ?_, ?_⟩
  · show (((resK rs).map (·.1)).all shwKey && decide (((resK rs).map (·.1)).length = ((resK rs).map (·.2)).length) && shwL ((resK rs).map (·.2))) = true
    rw [c, d, decide_eq_true (by rw [List.length_map, List.length_map])]
    rfl
  · show PyData.weight (.dict (resP rs)) ≤ _
    simp only [PyData.weight]
    exact a
  · show PyData.depth (.dict (resP rs)) ≤ 1
    simp only [PyData.depth]
    omega
theorem Vok.two {n m : Nat} {x y : D} (a : Vok n m x) (b : Vok n m y) : Vok (2 * n + 2) (m + 1) (.tup [x, y]) := by
  have h1 := a.wt
  have h2 := b.wt
  refine Vok.tup (fun z hz => ?_) (by rw [wL_cons, wL_cons, wL_nil]; omega) (fun z hz => ?_)
  · simp only [List.mem_cons, List.not_mem_nil, or_false] at hz
    rcases hz with rfl | rfl
    · exact a.sh
    · exact b.sh
  · simp only [List.mem_cons, List.not_mem_nil, or_false] at hz
    rcases hz with rfl | rfl
    · exact a.dp
    · exact b.dp
theorem vok_sheets {ss : List (List Int)} {c : Nat} (h : ∀ s ∈ ss, s.length ≤ c ∧ ∀ x ∈ s, 0 ≤ x ∧ x ≤ 1000) : Vok ((11 * c + 1) * ss.length) 2 (.tup (ss.map sdD)) := by
  have w : wL (ss.map sdD) ≤ (11 * c + 1) * ss.length := by
    induction ss with
    | nil => exact Nat.zero_le _
    | cons s ss ih =>
      have i := ih fun y hy => h y (List.mem_cons_of_mem _ hy)
      obtain ⟨a, b⟩ := h s (List.mem_cons_self ..)
      have v := (vok_ints b).wt
      have e : 11 * s.length ≤ 11 * c := Nat.mul_le_mul_left _ a
      rw [List.map_cons, wL_cons, List.length_cons, Nat.mul_add, Nat.mul_one]
      omega
  refine Vok.tup (m := 1) (fun z hz => ?_) w (fun z hz => ?_)
  · obtain ⟨s, hs, rfl⟩ := List.mem_map.mp hz
    exact (vok_ints (h s hs).2).sh
  · obtain ⟨s, hs, rfl⟩ := List.mem_map.mp hz
    exact (vok_ints (h s hs).2).dp
theorem cut_mem {ds : List D} {l u : Option Int} {x : D} (h : x ∈ cutD ds l u) : x ∈ ds := List.mem_of_mem_drop (List.mem_of_mem_take h)
theorem cut_wt (ds : List D) (l u : Option Int) : wL (cutD ds l u) ≤ wL ds := Nat.le_trans (wL_take _ _) (wL_drop _ _)
theorem cut_len (ds : List D) (l u : Option Int) : (cutD ds l u).length ≤ ds.length := by
  unfold cutD
  rw [List.length_take, List.length_drop]
  omega
end Lin

end

section
namespace Lin
open PySem PySem.Spec PySem.Calls PyProof.Rows L2
/-! sorted(set(t)) of a tuple of ints -/
/-- fewer than 64 of them are distinct -/
def FewI (ns : List Int) : Prop := ns.length ≤ 4000 ∧ ∀ L : List Int, L.Nodup → (∀ k ∈ L, k ∈ ns) → L.length < 64
theorem FewI.ofRange {ns : List Int} {n : Nat} (hl : ns.length ≤ 4000) (hn : n < 64) (h : ∀ k ∈ ns, 0 ≤ k ∧ k < n) : FewI ns := ⟨hl, fun L nd hk => by
  have q := nodup_lt n (L.map Int.toNat) (by
    refine List.pairwise_map.mpr (List.Pairwise.imp_of_mem (R := fun a b => a ≠ b) (fun {a b} ha hb ne e => ?_) nd)
    have := h a (hk a ha)
    have := h b (hk b hb)
    exact ne (by omega)) fun k hk2 => by
    obtain ⟨a, ha, rfl⟩ := List.mem_map.mp hk2
    have := h a (hk a ha)
    omega
  rw [List.length_map] at q
  omega⟩
def tSortSet (K : PySem.W.Frag) (ta : TE) : TE := fun σ H Q => ta σ H fun x H1 => ∃ (l : Addr) (ns : List Int), x = .ref l ∧ SqT K H1 l (ns.map V.int) ∧ FewI ns ∧
  ∀ (ms : List Int) (p : Addr), ms.Pairwise (· < ·) → (∀ k : Int, k ∈ ms ↔ k ∈ ns) → H1 p = none → Q (.ref p) (upd H1 p (.lst (ms.map V.int)))
theorem pe_sortSet {X : Cx} {a : Expr} {ta : TE} {p p2 q pos : Pos} (hc : X.calm = true) (hg : Gl X "sorted") (hm : X.mg "sorted" = none) (hg2 : Gl X "set") (hm2 : X.mg "set" = none) (ha : PE X a ta)
    (na : starEach [a] X.env = (false, eval a X.env) :: starEach [] X.env := by rfl) : PE X (.Call (.Name "sorted" p) [.Call (.Name "set" p2) [a] [] q] [] pos) (tSortSet X.K ta) := by
  refine ⟨fun pins s σ H Q I h => ?_⟩
  refine Call_ (ld_blt I hg hm boot_sorted ?_)
  refine PyProof.Rows.callWith_builtin1 (PyProof.Rows.args_cons ?_ rfl) rfl rfl
  refine Call_ (ld_blt I hg2 hm2 PyProof.Rows.boot_set ?_)
  refine PyProof.Rows.callWith_type1 (PyProof.Rows.args_cons (thn (ha.run pins s σ H _ I h) fun v s1 ⟨x, H1, I1, r1, q1⟩ => PyProof.Rows.args_nil ?_) na) na rfl
  obtain ⟨l, ns, rfl, hq, h1, q1⟩ := q1
  cases r1
  obtain ⟨its, rv, pt, hz⟩ := I1.tuple hq
  have hi : IntsAre its.toArray.toList ns := ints_of_vals rv
  have hd := I1.ok.hd hc
  refine call_set_tupI ns hd (show s1.heap.IsTuple l its.toArray from pt) hi (by unfold scanBound; have := h1.1; omega) fun h' tk c R1 hcn k => ?_
  have hcl : c < 64 := by
    obtain ⟨o, es, ep, t, ho, hex, hdt, g, nd, hm3, hb, hf, hn, hr, hl2⟩ := R1
    have q := h1.2 _ nd fun k hk => by
      have z := (hm3 k).mpr hk
      rw [decide_eq_true_eq] at z
      exact z
    rw [List.length_map, Array.length_toList] at q
    omega
  refine PyProof.Rows.args_nil ?_
  have I2 : Inv X pins σ H1 { s1 with heap := h', toks := tk } := I1.kept fun b o e => k b o e
  refine sorted_set (s := { s1 with heap := h', toks := tk }) R1 (I2.ok.hd hc) hcl fun s' p out c2 ms k2 g o hp hgp hi2 hs hmm hl => ?_
  have hlen : (ms.map V.int).length ≤ sizeLine := by rw [List.length_map, hl, sizeLine_eq]; omega
  have hn : H1 p = none := I2.hok.fresh hp
  generalize hs2 : ({ s1 with heap := h', toks := tk } : Shared) = s2 at *
  have J : Inv X pins σ (upd H1 p (.lst (ms.map V.int))) { s2 with heap := s'.heap, gens := s'.gens, drawn := s'.drawn, toks := s'.toks } :=
    I2.call (ch := []) (Un.laid k2 hp hn) (I2.hok.laid k2 hp ⟨hlen, out.toList, c2, vals_of_ints hi2, hgp⟩) (by rw [g]; exact I2.bare) (fun _ z => nomatch z)
  have e : s' = { s2 with heap := s'.heap, gens := s'.gens, drawn := s'.drawn, toks := s'.toks } := by
    cases s'
    cases s2
    cases o
    rfl
  rw [e]
  exact ⟨.ref p, _, J, rfl, q1 ms p hs (fun k => (hmm k).trans (by rw [decide_eq_true_eq])) hn⟩
theorem rise_eq : ∀ {a b : List Int}, a.Pairwise (· < ·) → b.Pairwise (· < ·) → (∀ k, k ∈ a ↔ k ∈ b) → a = b
  | [], [], _, _, _ => rfl
  | [], y :: b, _, _, h => absurd ((h y).mpr (List.mem_cons_self ..)) (List.not_mem_nil)
  | x :: a, [], _, _, h => absurd ((h x).mp (List.mem_cons_self ..)) (List.not_mem_nil)
  | x :: a, y :: b, ha, hb, h => by
    obtain ⟨a1, a2⟩ := List.pairwise_cons.mp ha
    obtain ⟨b1, b2⟩ := List.pairwise_cons.mp hb
    have e : x = y := by
      rcases List.mem_cons.mp ((h x).mp (List.mem_cons_self ..)) with z | z
      · exact z
      · rcases List.mem_cons.mp ((h y).mpr (List.mem_cons_self ..)) with z2 | z2
        · exact z2.symm
        · have p := b1 x z
          have q := a1 y z2
          omega
    subst e
    rw [rise_eq a2 b2 fun k => ⟨fun hk => ?_, fun hk => ?_⟩]
    · rcases List.mem_cons.mp ((h k).mp (List.mem_cons_of_mem _ hk)) with z | z
      · have := a1 k hk
        omega
      · exact z
    · rcases List.mem_cons.mp ((h k).mpr (List.mem_cons_of_mem _ hk)) with z | z
      · have := b1 k hk
        omega
      · exact z
/-- sorted(set(t)): rs is the rising list of t's members -/
theorem ev_sortSet {X : Cx} {e : Expr} {env env1 : Sls} {p p2 q pos : Pos} {ns rs : List Int} (ha : Ev X e env (.val (.tup (ns.map D.int))) env1) (h64 : FewI ns) (hr : rs.Pairwise (· < ·)) (hmem : ∀ k, k ∈ rs ↔ k ∈ ns)
    (hc : X.calm = true := by rfl) (hm : X.mg "sorted" = none := by assumption) (hm2 : X.mg "set" = none := by assumption) (hg : Gl X "sorted" := by rfl) (hg2 : Gl X "set" := by rfl) (na : starEach [e] X.env = (false, eval e X.env) :: starEach [] X.env := by rfl) :
    Ev X (.Call (.Name "sorted" p) [.Call (.Name "set" p2) [e] [] q] [] pos) env (.lst ((rs.map D.int).map M.val)) env1 :=
  ⟨ha.1, fun O H σ F r w Q qq => ⟨_, pe_sortSet hc hg hm hg2 hm2 pe_w na, ha.2 O H σ F r w _ fun O1 H1 v Fv F1 ⟨ev, rv⟩ r1 s1 => by
    subst ev
    have hr2 : RF X.K (fun vs H1 Q => ∃ (l : Addr) (ns : List Int), vs = [.ref l] ∧ SqT X.K H1 l (ns.map V.int) ∧ FewI ns ∧ ∀ (ms : List Int) (p : Addr), ms.Pairwise (· < ·) → (∀ k : Int, k ∈ ms ↔ k ∈ ns) → H1 p = none → Q (.ref p) (upd H1 p (.lst (ms.map V.int)))) [.tup (ns.map D.int)] (.lst ((rs.map D.int).map M.val)) :=
      rf_new fun O H vs ⟨u, us, e, ⟨a, xs, hu, hp, rl⟩, hn⟩ => ⟨_, repL_ints rs, fun Q q => ⟨a, ns, by rw [e, hu, show us = [] from hn], TupAt.sq (by rw [← RepL.ints ns rl]; exact hp), h64, fun ms p hm hk hp' => by
        rw [rise_eq hm hr fun k => (hk k).trans (hmem k).symm]
        exact q p hp'⟩⟩
    obtain ⟨l, ns2, e1, h1, h2, h3⟩ := hr2 O1 H1 s1.wf.nil [v] ⟨v, [], rfl, rv, rfl⟩ Q fun O2 H2 z Fz rz s2 => qq O2 H2 z Fz F1 rz (r1.quiet s2) (s1.trans w (s2.quiet s1.wf))
    exact ⟨l, ns2, List.cons.inj e1 |>.1, h1, h2, h3⟩⟩⟩
end Lin

end

section
namespace Lin
open PySem PySem.Spec PySem.Calls PyProof.Rows L2
theorem repA_of {K : PySem.W.Frag} {O : OW} {H : Hp} {σ : L2.St} : ∀ (ds : List D) {vs : List V}, RepL K O H ds vs → RepA K O H σ (ds.map AK.v) vs
  | [], _, h => h
  | d :: ds, _, ⟨u, us, e, p, q⟩ => ⟨u, us, e, p, repA_of ds q⟩
/-- *t as the last of a display -/
theorem ea_starL {X : Cx} {e : Expr} {p : Pos} {env env1 : Sls} {ds : List D} (ha : Ev X e env (.val (.tup ds)) env1) (hs : starEach [.Starred e p] X.env = (true, eval e X.env) :: starEach [] X.env := by rfl) : EvAs X [.Starred e p] env (ds.map AK.v) env1 :=
  ⟨ha.1, fun O H σ F r w Q q => ⟨_, StX.pa_star pe_w pa_nil hs, ha.2 O H σ F r w _ fun O1 H1 v Fv F1 ⟨ev, rv⟩ r1 s1 => by
    subst ev
    obtain ⟨a, xs, ea, ta, rl⟩ := rv
    refine ⟨a, xs, ea, .inl (TupAt.sq ta), ?_⟩
    show Q (xs ++ []) H1
    rw [List.append_nil]
    exact q O1 H1 xs F1 (repA_of ds rl) r1 s1⟩⟩
/-! teams and questions, over any data -/
def risB (es : List Int) : Bool := (es.zip (es.drop 1)).all fun p => decide (p.1 < p.2)
theorem risB_cons (a b : Int) (es : List Int) : risB (a :: b :: es) = (decide (a < b) && risB (b :: es)) := by
  unfold risB
  cases es <;> rfl
theorem risB_iff : ∀ es : List Int, risB es = true ↔ es.Pairwise (· < ·)
  | [] => ⟨fun _ => .nil, fun _ => rfl⟩
  | [a] => ⟨fun _ => .cons (fun _ h => nomatch h) .nil, fun _ => rfl⟩
  | a :: b :: es => by
    rw [risB_cons, Bool.and_eq_true_iff, decide_eq_true_eq, risB_iff (b :: es), List.pairwise_cons (l := b :: es)]
    constructor
    · rintro ⟨h, g⟩
      refine ⟨fun x hx => ?_, g⟩
      rcases List.mem_cons.mp hx with rfl | hx
      · exact h
      · have := (List.pairwise_cons.mp g).1 x hx
        omega
    · rintro ⟨h, g⟩
      exact ⟨h b (List.mem_cons_self ..), g⟩
theorem ris_len {es : List Int} {n : Nat} (h : es.Pairwise (· < ·)) (hb : ∀ x ∈ es, 0 ≤ x ∧ x < n) : es.length ≤ n := by
  have q := nodup_lt n (es.map Int.toNat) (List.pairwise_map.mpr (List.Pairwise.imp_of_mem (R := (· < ·)) (fun {a b} ha hb' hab => by
    have := hb a ha
    have := hb b hb'
    omega) h)) fun k hk => by
      obtain ⟨a, ha, rfl⟩ := List.mem_map.mp hk
      have := hb a ha
      omega
  rw [List.length_map] at q
  exact q
def teamD (n : Nat) : D → Bool
  | .tup ds => !ds.isEmpty && ds.all (btw 0 (n - 1)) && risB (ds.map iv)
  | _ => false
theorem btw_iv {lo hi : Int} {d : D} (h : btw lo hi d = true) : d = .int (iv d) ∧ lo ≤ iv d ∧ iv d ≤ hi := by
  cases d with
  | int i =>
    obtain ⟨a, b⟩ := Bool.and_eq_true_iff.mp h
    exact ⟨rfl, of_decide_eq_true a, of_decide_eq_true b⟩
  | _ => cases h
theorem btw_all {lo hi : Int} {ds : List D} (h : ds.all (btw lo hi) = true) : ds = (ds.map iv).map D.int ∧ ∀ x ∈ ds.map iv, lo ≤ x ∧ x ≤ hi := by
  have h := List.all_eq_true.mp h
  refine ⟨?_, fun x hx => ?_⟩
  · rw [List.map_map]
    conv => lhs; rw [← List.map_id ds]
    exact List.map_congr_left fun d hd => (btw_iv (h d hd)).1
  · obtain ⟨d, hd, rfl⟩ := List.mem_map.mp hx
    exact (btw_iv (h d hd)).2
def rtV : Stmt → Expr
  | .Return (some e) _ => e
  | _ => .Constant .none 0 ⟨0, 0, 0, 0⟩
def questD (n : Nat) : D → Bool
  | .tup [t, .tup rs, m] => teamD n t && decide (rs.length ≤ 4) && rs.all (teamD n) && btw (-200) 200 m
  | _ => false
theorem inV_bools (bs : List Bool) : inV (vF (.bool false)) ((bs.map D.bool).map vF) = !bs.all id := by
  unfold inV
  induction bs with
  | nil => rfl
  | cons b bs ih =>
    rw [List.map_cons, List.map_cons, List.any_cons, List.all_cons, ih]
    cases b <;> rfl
theorem flat_bools (bs : List Bool) : (bs.map D.bool).all flatD = true := by
  induction bs with
  | nil => rfl
  | cons b bs ih => rw [List.map_cons, List.all_cons, ih]; rfl
/-- False in [truths] -/
theorem ev_inFalse {X : Cx} {a b : Expr} {env env1 env2 : Sls} {pos : Pos} {bs : List Bool} (ha : Ev X a env (.val (.bool false)) env1) (hb : Ev X b env1 (.val (.lst (bs.map D.bool))) env2) (hm : behindInMarks .In b = false := by first | exact nomark _ | rfl) : Ev X (.Compare a [.In] [b] pos) env (.val (.bool (!bs.all id))) env2 :=
  (ev_inLF ha hb rfl (flat_bools bs) hm).eq (by rw [inV_bools])
theorem tv_inFalse {X : Cx} {a b : Expr} {env env1 env2 : Sls} {pos : Pos} {bs : List Bool} (ha : Ev X a env (.val (.bool false)) env1) (hb : Ev X b env1 (.val (.lst (bs.map D.bool))) env2) (hm : behindInMarks .In b = false := by first | exact nomark _ | rfl) : Tv X (.Compare a [.In] [b] pos) env (!bs.all id) env2 :=
  (show Tv X (.Compare a [.In] [b] pos) env (inV (vF (.bool false)) ((bs.map D.bool).map vF)) env2 from tv_cmp op_in_seq ha hb (ro_inL rfl (flat_bools bs)) hm).eq (inV_bools bs)
/-- the members below n, rising -/
def riseR (n : Nat) (es : List Int) : List Int := (rangeI n).filter fun k => decide (k ∈ es)
theorem rangeI_lt (n : Nat) : (rangeI n).Pairwise (· < ·) := by
  unfold rangeI
  rw [List.pairwise_map]
  exact List.Pairwise.imp (fun {a b} h => by omega) List.pairwise_lt_range
theorem riseR_pw (n : Nat) (es : List Int) : (riseR n es).Pairwise (· < ·) := (rangeI_lt n).filter _
theorem riseR_mem {n : Nat} {es : List Int} (h : ∀ x ∈ es, 0 ≤ x ∧ x < n) (k : Int) : k ∈ riseR n es ↔ k ∈ es := by
  unfold riseR
  rw [List.mem_filter, decide_eq_true_eq]
  refine ⟨fun z => z.2, fun z => ⟨?_, z⟩⟩
  have := h k z
  unfold rangeI
  exact List.mem_map.mpr ⟨k.toNat, List.mem_range.mpr (by omega), by omega⟩
theorem riseR_eq {n : Nat} {es : List Int} (h : ∀ x ∈ es, 0 ≤ x ∧ x < n) : decide (es = riseR n es) = risB es := by
  rw [Bool.eq_iff_iff, decide_eq_true_eq, risB_iff]
  refine ⟨fun e => by rw [e]; exact riseR_pw n es, fun p => rise_eq p (riseR_pw n es) fun k => (riseR_mem h k).symm⟩
end Lin

end

section
namespace Lin
open PySem PySem.Spec PySem.Calls PyProof.Rows L2
section
variable {X : Cx} {env env1 env2 : Sls} {d : D} {ds es : List D} {pos p : Pos} {e e2 a b : Expr}
/-- sum of a list of ints -/
theorem ev_sumL {ns : List Int} (ha : Ev X e env (.val (.lst (ns.map D.int))) env1) (hm : X.mg "sum" = none := by assumption) (hc : X.calm = true := by rfl) (hg : Gl X "sum" := by rfl) (he : starEach [e] X.env = (false, eval e X.env) :: starEach [] X.env := by rfl) (hpl : (backTo pos (starEach [] X.env)).any (·.1) = false := by rfl) : Ev X (.Call (.Name "sum" p) [e] [] pos) env (.val (.int ns.sum)) env1 :=
  ev_cbi (ds := [.lst (ns.map D.int)]) (cr_sum hc) (rf_val fun O H vs Q ⟨u, us, e, ⟨a, xs, hu, _, ta, rl⟩, hn⟩ q => ⟨a, ns, by rw [e, hu, show us = [] from hn], .inl (.inl (by rw [← RepL.ints ns rl]; exact ta)), q _ rfl⟩) (ea_cons ha ea_nil he) hm (by decide +kernel) hg (by decide) (by decide) he hpl
/-- min of a tuple of ints -/
def rMinT (K : PySem.W.Frag) : List V → Hp → VK → Prop := fun vs H Q => ∃ (a : Addr) (n : Int) (ns : List Int), vs = [V.ref a] ∧ SqT K H a ((n :: ns).map V.int) ∧ Q (.int (ns.foldl min n)) H
theorem cr_minT (hc : X.calm = true) (hu : X.A.units + 2 < cLine) : CallR X (.builtin "min") (rMinT X.K) := by
  intro pins s σ H vs us Q I r h
  obtain ⟨a, n, ns, rfl, hs, q⟩ := h
  obtain ⟨its, rv, ht, _⟩ := I.tuple hs
  rw [Vals.ref1 r]
  have hl : s.heap.IsTuple a its.toArray := ht
  obtain ⟨as, hr⟩ := Dp.readsAll I _ _ its (dpAll_ints (n :: ns)) rv
  have hd := depth_ints (n :: ns)
  refine PySem.W.min_tuple_data (I.ok.hd hc) hl hr ⟨fun x hx y hy => ?_, fun x hx => ?_⟩ (by show X.A.units + 1 + PyData.depthAll ((n :: ns).map PyData.int) < cLine; omega) fun i v h' tk bs hv hr' hk => ?_
  · obtain ⟨i, _, rfl⟩ := List.mem_map.mp (show x ∈ (n :: ns).map PyData.int from hx)
    obtain ⟨j, _, rfl⟩ := List.mem_map.mp (show y ∈ (n :: ns).map PyData.int from hy)
    rfl
  · obtain ⟨i, _, rfl⟩ := List.mem_map.mp (show x ∈ (n :: ns).map PyData.int from hx)
    exact fun z => nomatch z
  · rw [PySem.W.minD_ints] at hr'
    cases hr' with
    | int _ t => exact ⟨.int _, H, I.kept hk, ⟨_, rfl⟩, q⟩
theorem ev_minT {z : Int} {ns : List Int} (ha : Ev X e env (.val (.tup ((z :: ns).map D.int))) env1) (hu : X.A.units + 2 < cLine) (hm : X.mg "min" = none := by assumption) (hc : X.calm = true := by rfl) (hg : Gl X "min" := by rfl) (he : starEach [e] X.env = (false, eval e X.env) :: starEach [] X.env := by rfl) (hpl : (backTo pos (starEach [] X.env)).any (·.1) = false := by rfl) : Ev X (.Call (.Name "min" p) [e] [] pos) env (.val (.int (ns.foldl min z))) env1 :=
  ev_cbi (ds := [.tup ((z :: ns).map D.int)]) (cr_minT hc hu) (rf_val fun O H vs Q ⟨u, us, e, ⟨a, xs, hu, ta, rl⟩, hn⟩ q => ⟨a, z, ns, by rw [e, hu, show us = [] from hn], by rw [← RepL.ints (z :: ns) rl]; exact TupAt.sq ta, q _ rfl⟩) (ea_cons ha ea_nil he) hm (by decide +kernel) hg (by decide) (by decide) he hpl
/-- max(i, j), min(i, j) -/
theorem ev_max2 {i j : Int} (ha : Ev X e env (.val (.int i)) env1) (hb : Ev X e2 env1 (.val (.int j)) env2) (hm : X.mg "max" = none := by assumption) (hc : X.calm = true := by rfl) (hg : Gl X "max" := by rfl) (he : starEach [e, e2] X.env = (false, eval e X.env) :: starEach [e2] X.env := by rfl) (he2 : starEach [e2] X.env = (false, eval e2 X.env) :: starEach [] X.env := by rfl) (hpl : (backTo pos (starEach [e2] X.env)).any (·.1) = false := by rfl) : Ev X (.Call (.Name "max" p) [e, e2] [] pos) env (.val (.int (if j > i then j else i))) env2 :=
  ev_cbi (ds := [.int i, .int j]) (call_max2 hc) (rf_val fun O H vs Q ⟨u, us, e, hu, u2, us2, e2, hu2, hn⟩ q => ⟨i, j, by rw [e, e2, show u = V.int i from hu, show u2 = V.int j from hu2, show us2 = [] from hn], q _ rfl⟩) (ea_cons ha (ea_cons hb ea_nil he2) he) hm (by decide +kernel) hg (by decide) (by decide) he hpl
theorem ev_min2 {i j : Int} (ha : Ev X e env (.val (.int i)) env1) (hb : Ev X e2 env1 (.val (.int j)) env2) (hm : X.mg "min" = none := by assumption) (hc : X.calm = true := by rfl) (hg : Gl X "min" := by rfl) (he : starEach [e, e2] X.env = (false, eval e X.env) :: starEach [e2] X.env := by rfl) (he2 : starEach [e2] X.env = (false, eval e2 X.env) :: starEach [] X.env := by rfl) (hpl : (backTo pos (starEach [e2] X.env)).any (·.1) = false := by rfl) : Ev X (.Call (.Name "min" p) [e, e2] [] pos) env (.val (.int (if j < i then j else i))) env2 :=
  ev_cbi (ds := [.int i, .int j]) (call_min2 hc) (rf_val fun O H vs Q ⟨u, us, e, hu, u2, us2, e2, hu2, hn⟩ q => ⟨i, j, by rw [e, e2, show u = V.int i from hu, show u2 = V.int j from hu2, show us2 = [] from hn], q _ rfl⟩) (ea_cons ha (ea_cons hb ea_nil he2) he) hm (by decide +kernel) hg (by decide) (by decide) he hpl
/-- t * n, n two or more -/
theorem ev_repT {z : Int} (ha : Ev X a env (.val (.tup ds)) env1) (hb : Ev X b env1 (.val (.int z)) env2) (h0 : 2 ≤ z) (h1 : z ≤ 1000) (hne : ds ≠ []) (hz : ds.length ≤ 1000) : Ev X (.BinOp a .Mult b pos) env (.val (.tup (List.replicate z.toNat ds).flatten)) env2 :=
  ev_bin op_repT ha hb (fun O H w u v ⟨a, xs, eu, ta, ra⟩ rv Q q => ⟨a, z, xs, eu, rv, TupAt.sq ta, (fun e => by
      subst e
      exact hne (List.length_eq_zero_iff.mp (by rw [← ra.len]; rfl))), h0, h1, by rw [ra.len]; exact hz, fun p hp => by
    have s0 : Step O H [] O (upd H p (.tup (List.replicate z.toNat xs).flatten)) [] := Step.newF w hp
    refine q _ _ (.ref p) [] ⟨rfl, p, _, rfl, .inl ⟨fun z => ?_, .inl upd_same⟩, RepL.keep (s0.kf w) s0.nw _ (ra.rep _)⟩ s0
    obtain ⟨o, e⟩ := w.dom p z
    rw [hp] at e; cases e⟩)
end
/-! questions drawn -/
structure QuS where
  team : List Int
  rivals : List (List Int)
  margin : Int
def QuS.d (q : QuS) : D := .tup [sdD q.team, .tup (q.rivals.map sdD), .int q.margin]
/-- the points of a team -/
def tsum (ps : List Int) (es : List Int) : Int := (es.map fun k => ps.getD k.toNat 0).sum
def leadF (ps : List Int) (q : QuS) : List Int := q.rivals.map fun r => tsum ps q.team - tsum ps r
def reachB (ps : List Int) (q : QuS) : Bool := (leadF ps q).all fun x => decide (q.margin ≤ x)
structure TeamOk (n : Nat) (es : List Int) : Prop where
  ne : es ≠ []
  ris : es.Pairwise (· < ·)
  b : ∀ x ∈ es, 0 ≤ x ∧ x < n
theorem TeamOk.len {n : Nat} {es : List Int} (h : TeamOk n es) : es.length ≤ n := ris_len h.ris h.b
structure QuOk (n : Nat) (q : QuS) : Prop where
  t : TeamOk n q.team
  rl : q.rivals.length ≤ 4
  r : ∀ r ∈ q.rivals, TeamOk n r
  m : -200 ≤ q.margin ∧ q.margin ≤ 200
end Lin

end

section
namespace Lin
open PySem PySem.Spec PySem.Calls PyProof.Rows L2
/-! each of all endings is one -/
structure PartE (f : Prs) (rs : Rs) (n : Nat) (e : List Int) : Prop where
  len : e.length = n
  ok : ∀ k p, k < n → f[k]? = some p → e.getD k 0 = sideE e p.1 ∨ e.getD k 0 = sideE e p.2
  ag : ∀ k v, k < n → lookR rs k = some v → e.getD k 0 = v
theorem getD_app {e : List Int} {v : Int} {k : Nat} (h : k < e.length) : (e ++ [v]).getD k 0 = e.getD k 0 := by rw [List.getD_eq_getElem?_getD, List.getD_eq_getElem?_getD, List.getElem?_append_left h]
theorem sideE_app {e : List Int} {v : Int} : ∀ {q : Pt}, OkPt e.length q → sideE (e ++ [v]) q = sideE e q
  | .side _, _ => rfl
  | .mtch _, h => getD_app h
theorem PartE.snoc {f : Prs} (okf : OkF f) {rs : Rs} {n : Nat} {e : List Int} (h : PartE f rs n e) {p : Pt × Pt} (hp : f[n]? = some p) {v : Int} (hv : v = sideE e p.1 ∨ v = sideE e p.2) (hr : resOk rs n v = true) : PartE f rs (n + 1) (e ++ [v]) := by
  have new : (e ++ [v]).getD n 0 = v := by rw [List.getD_eq_getElem?_getD, List.getElem?_append_right (by rw [h.len]; exact Nat.le_refl _), h.len, Nat.sub_self]; rfl
  refine ⟨by rw [List.length_append, h.len]; rfl, fun k q hk hq => ?_, fun k x hk hx => ?_⟩
  · obtain ⟨o1, o2⟩ := okf k q hq
    have k1 : k ≤ e.length := by rw [h.len]; omega
    rw [sideE_app (o1.mono k1), sideE_app (o2.mono k1)]
    by_cases e1 : k < n
    · rw [getD_app (by rw [h.len]; exact e1)]
      exact h.ok k q e1 hq
    · obtain rfl : k = n := by omega
      rw [hp] at hq
      cases hq
      rw [new]
      exact hv
  · by_cases e1 : k < n
    · rw [getD_app (by rw [h.len]; exact e1)]
      exact h.ag k x e1 hx
    · obtain rfl : k = n := by omega
      rw [new]
      unfold resOk at hr
      rw [hx] at hr
      exact of_decide_eq_true hr
theorem all_partE {f : Prs} (okf : OkF f) {rs : Rs} : ∀ (as pre : Prs) (es : List (List Int)), pre ++ as = f → (∀ e ∈ es, PartE f rs pre.length e) →
    ∀ e ∈ (as.zipIdx pre.length).foldl (fun es p => es.flatMap (growE rs p.2 p.1)) es, PartE f rs f.length e
  | [], pre, es, e, h => by
    rw [List.append_nil] at e
    subst e
    exact h
  | p :: as, pre, es, e, h => by
    have hat : f[pre.length]? = some p := by rw [← e, List.getElem?_append_right (Nat.le_refl _), Nat.sub_self]; rfl
    have z := all_partE okf (rs := rs) as (pre ++ [p]) (es.flatMap (growE rs pre.length p)) (by rw [List.append_assoc]; exact e) (fun x hx => by
      obtain ⟨y, hy, hx⟩ := List.mem_flatMap.mp hx
      unfold growE at hx
      obtain ⟨s, hs, rfl⟩ := List.mem_map.mp hx
      obtain ⟨hs, hr⟩ := List.mem_filter.mp hs
      rw [List.length_append]
      refine (h y hy).snoc okf hat ?_ hr
      simpa using hs)
    rw [List.length_append] at z
    exact z
theorem allE_end {f : Prs} (okf : OkF f) {rs : Rs} {e : List Int} (h : e ∈ allE rs f) : EndOk f e ∧ ∀ k v, k < f.length → lookR rs k = some v → e.getD k 0 = v := by
  have z := all_partE okf (rs := rs) f [] [[]] rfl (fun e he => by rw [List.mem_singleton.mp he]; exact ⟨rfl, fun k p hk => absurd hk (Nat.not_lt_zero _), fun k v hk => absurd hk (Nat.not_lt_zero _)⟩) e h
  exact ⟨⟨z.len, fun k p hp => z.ok k p (List.getElem?_eq_some_iff.mp hp).1 hp⟩, z.ag⟩
theorem iv_map (e : List Int) : (e.map D.int).map iv = e := iv_ints e
/-- an ending is one for the recognizers -/
theorem endD_of {f : Prs} {rs : Rs} {e : List Int} (h : EndOk f e) (ag : ∀ k v, k < f.length → lookR rs k = some v → e.getD k 0 = v) : endD f rs (sdD e) = true := by
  show (decide ((e.map D.int).length = f.length) && (e.map D.int).all isI && endB f rs ((e.map D.int).map iv)) = true
  rw [iv_ints, List.length_map, decide_eq_true h.len, isI_ints, (endB_iff h.len).mpr ⟨h, ag⟩]
  rfl
theorem endD_lst {f : Prs} {rs : Rs} (ds : List D) : endD f rs (.lst ds) = false := rfl
/-- what the recognizers take for an ending -/
theorem endD_is {f : Prs} {rs : Rs} {d : D} (h : endD f rs d = true) : ∃ e : List Int, d = sdD e ∧ EndOk f e ∧ ∀ k v, k < f.length → lookR rs k = some v → e.getD k 0 = v := by
  obtain ⟨ds, rfl⟩ : ∃ ds, d = .tup ds := by cases d <;> first | exact ⟨_, rfl⟩ | (cases h; done)
  have h2 : (decide (ds.length = f.length) && ds.all isI && endB f rs (ds.map iv)) = true := h
  rw [Bool.and_eq_true_iff, Bool.and_eq_true_iff, decide_eq_true_eq] at h2
  obtain ⟨⟨z1, z2⟩, z3⟩ := h2
  have z4 := (endB_iff (by rw [List.length_map, z1])).mp z3
  exact ⟨ds.map iv, congrArg D.tup (ints_of z2), z4⟩
theorem pdL_sds : ∀ L : List (List Int), plainL (L.map sdD) = true ∧ PyData.canLayAll0 (pdL (L.map sdD)) = true ∧ PyData.depthAll (pdL (L.map sdD)) ≤ 1
  | [] => ⟨rfl, by simp [pdL, PyData.canLayAll0], by simp [pdL, PyData.depthAll]⟩
  | e :: L => by
    obtain ⟨h1, h2, h3⟩ := pdL_sds L
    obtain ⟨g1, g2, g3⟩ := pdL_ints e
    refine ⟨?_, ?_, ?_⟩
    · show (plainL (e.map D.int) && plainL (L.map sdD)) = true
      rw [g1, h1]; rfl
    · simp only [List.map_cons, sdD, pdL, pd, PyData.canLayAll0, PyData.canLay0, g2, Bool.true_and]
      exact h2
    · simp only [List.map_cons, sdD, pdL, pd, PyData.depthAll, PyData.depth, g3]
      exact Nat.max_le.mpr ⟨by decide, h3⟩
theorem cmp_sds (L : List (List Int)) : CmpD (.lst (L.map sdD)) := by
  obtain ⟨h1, h2, h3⟩ := pdL_sds L
  refine ⟨h1, ?_⟩
  simp only [pd, SeqAt.shaped, PyData.canLay0, PyData.depth, h2, Bool.true_and]
  exact decide_eq_true (by omega)
theorem eqv_sds_nil (L : List (List Int)) : PyData.eqv (pd (.lst (L.map sdD))) (pd (.lst ([].map D.int))) = L.isEmpty := by
  cases L with
  | nil => rfl
  | cons e L => simp [pd, pdL, PyData.eqv, PyData.eqvAll]
end Lin

end

section
namespace Lin
open PySem PySem.Spec PySem.Calls PyProof.Rows L2
/-! the tree that a value is, where it is one -/
def trW : Nat → D → Tr
  | 0, _ => .leaf 0
  | n + 1, d => match d with
    | .int i => .leaf i
    | .tup [a, b] => .node (trW n a) (trW n b)
    | _ => .leaf 0
def trOf (d : D) : Tr := trW (cn d) d
theorem trW_of : ∀ (n : Nat) (d : D) (l : List Int), leavesW fewI n d = some l → (trW n d).d = d ∧ (trW n d).leaves = l
  | 0, _, _, h => nomatch h
  | n + 1, d, l, h => by
    match d, h with
    | .int i, h =>
      have h2 : fewI i = some l := h
      unfold fewI at h2
      split at h2
      · cases h2; exact ⟨rfl, rfl⟩
      · cases h2
    | .tup [a, b], h =>
      have h2 : joinO (leavesW fewI n a) (leavesW fewI n b) = some l := h
      cases ha : leavesW fewI n a with
      | none => rw [ha] at h2; cases h2
      | some la =>
        cases hb : leavesW fewI n b with
        | none => rw [ha, hb] at h2; cases h2
        | some lb =>
          rw [ha, hb] at h2
          obtain ⟨a1, a2⟩ := trW_of n a la ha
          obtain ⟨b1, b2⟩ := trW_of n b lb hb
          have e : l = la ++ lb := (Option.some.inj h2).symm
          refine ⟨?_, ?_⟩
          · show D.tup [(trW n a).d, (trW n b).d] = _
            rw [a1, b1]
          · show (trW n a).leaves ++ (trW n b).leaves = _
            rw [a2, b2, e]
    | .tup [], h => exact nomatch h
    | .tup [_], h => exact nomatch h
    | .tup (_ :: _ :: _ :: _), h => exact nomatch h
    | .none, h => exact nomatch h
    | .bool _, h => exact nomatch h
    | .str _, h => exact nomatch h
    | .lst _, h => exact nomatch h
    | .dK _ _, h => exact nomatch h
    | .dT _ _, h => exact nomatch h
    | .ins _ _ _, h => exact nomatch h
    | .scr _, h => exact nomatch h
    | .adr _, h => exact nomatch h
    | .kt _, h => exact nomatch h
    | .xt _, h => exact nomatch h
    | .exc _ _ _, h => exact nomatch h
theorem treeB_tr {d : D} (h : treeB d = true) : (trOf d).d = d ∧ 2 ≤ (trOf d).leaves.length ∧ (trOf d).leaves.length ≤ 16 ∧ (trOf d).leaves.Perm (rangeI (trOf d).leaves.length) := by
  unfold treeB at h
  cases e : lvD fewI d with
  | none => rw [e] at h; cases h
  | some l =>
    rw [e] at h
    have h2 : goodL l = true := h
    obtain ⟨a, b⟩ := trW_of (cn d) d l e
    unfold goodL at h2
    rw [Bool.and_eq_true_iff, Bool.and_eq_true_iff, decide_eq_true_eq, decide_eq_true_eq] at h2
    obtain ⟨⟨g1, g2⟩, g3⟩ := h2
    refine ⟨a, ?_, ?_, ?_⟩
    · show 2 ≤ (trW (cn d) d).leaves.length; rw [b]; exact g1
    · show (trW (cn d) d).leaves.length ≤ 16; rw [b]; exact g2
    · show (trW (cn d) d).leaves.Perm (rangeI (trW (cn d) d).leaves.length)
      rw [b]
      exact List.isPerm_iff.mp g3
/-! pools, over any data -/
def ptsD (n : Nat) : D → Bool
  | .tup ds => decide (ds.length = n) && ds.all (btw 0 20)
  | _ => false
def sheetD (sds : Sds) : D → Bool
  | .tup ds => decide (ds.length = sds.length) && (ds.zip sds).all fun p => isI p.1 && decide (iv p.1 ∈ p.2)
  | _ => false
def sheetsD (sds : Sds) : D → Bool
  | .tup ss => (decide (1 ≤ (ss.length : Int)) && decide ((ss.length : Int) ≤ 5)) && ss.all (sheetD sds)
  | _ => false
end Lin

end

section
namespace Lin
open PySem PySem.Spec PySem.Calls PyProof.Rows L2
/-! one number put in another's place -/
def swp (a b n : Int) : Int := if n = a then b else n
mutual
def ren (a b : Int) : D → D
  | .tup ds => .tup (renL a b ds)
  | .int n => .int (swp a b n)
  | .none => .none | .bool k => .bool k | .str s => .str s | .lst ds => .lst ds | .dK ks ds => .dK ks ds | .dT ks ds => .dT ks ds | .ins x y z => .ins x y z | .scr ns => .scr ns | .adr a => .adr a | .kt k => .kt k | .xt φ => .xt φ | .exc x y z => .exc x y z
def renL (a b : Int) : List D → List D
  | [] => []
  | d :: ds => ren a b d :: renL a b ds
end
theorem renL_map (a b : Int) : ∀ ds : List D, renL a b ds = ds.map (ren a b)
  | [] => by simp only [renL, List.map_nil]
  | d :: ds => by simp only [renL, List.map_cons, renL_map a b ds]
theorem ren_tup (a b : Int) (ds : List D) : ren a b (.tup ds) = .tup (ds.map (ren a b)) := by simp only [ren, renL_map]
theorem ren_int (a b n : Int) : ren a b (.int n) = .int (swp a b n) := by simp only [ren]
/-! only tuples and ints -/
mutual
def tiOk : D → Bool
  | .tup ds => tiOkL ds
  | .int _ => true
  | .none => false | .bool _ => false | .str _ => false | .lst _ => false | .dK _ _ => false | .dT _ _ => false | .ins _ _ _ => false | .scr _ => false | .adr _ => false | .kt _ => false | .xt _ => false | .exc _ _ _ => false
def tiOkL : List D → Bool
  | [] => true
  | d :: ds => tiOk d && tiOkL ds
end
theorem tiOkL_all : ∀ ds : List D, tiOkL ds = true ↔ ∀ d ∈ ds, tiOk d = true
  | [] => by simp [tiOkL]
  | d :: ds => by
    rw [tiOkL, Bool.and_eq_true_iff, tiOkL_all ds]
    simp
theorem tiOk_tup (ds : List D) : tiOk (.tup ds) = true ↔ ∀ d ∈ ds, tiOk d = true := by
  rw [tiOk]
  exact tiOkL_all ds
theorem tiOk_int (n : Int) : tiOk (.int n) = true := by rw [tiOk]
def Tr.ren (a b : Int) : Tr → Tr
  | .leaf n => .leaf (swp a b n)
  | .node l r => .node (l.ren a b) (r.ren a b)
theorem ren_tr (a b : Int) : ∀ t : Tr, Lin.ren a b t.d = (t.ren a b).d
  | .leaf n => ren_int a b n
  | .node l r => by
    show Lin.ren a b (.tup [l.d, r.d]) = D.tup [(l.ren a b).d, (r.ren a b).d]
    rw [ren_tup, List.map_cons, List.map_cons, List.map_nil, ren_tr a b l, ren_tr a b r]
theorem ren_leaves (a b : Int) : ∀ t : Tr, (t.ren a b).leaves = t.leaves.map (swp a b)
  | .leaf n => rfl
  | .node l r => by
    show (l.ren a b).leaves ++ (r.ren a b).leaves = (l.leaves ++ r.leaves).map _
    rw [ren_leaves a b l, ren_leaves a b r, List.map_append]
theorem ti_tr : ∀ t : Tr, tiOk t.d = true
  | .leaf n => tiOk_int n
  | .node l r => (tiOk_tup _).mpr fun d hd => by
    simp only [List.mem_cons, List.not_mem_nil, or_false] at hd
    rcases hd with rfl | rfl
    · exact ti_tr l
    · exact ti_tr r
theorem ti_ints (e : List Int) : tiOk (sdD e) = true := (tiOk_tup _).mpr fun d hd => by
  obtain ⟨i, _, rfl⟩ := List.mem_map.mp hd
  exact tiOk_int i
theorem ren_ints (a b : Int) (e : List Int) : ren a b (sdD e) = sdD (e.map (swp a b)) := by
  show ren a b (.tup (e.map D.int)) = .tup ((e.map (swp a b)).map D.int)
  rw [ren_tup, List.map_map, List.map_map]
  exact congrArg D.tup (List.map_congr_left fun i _ => ren_int a b i)
theorem ren_sheets (a b : Int) (ss : List (List Int)) : ren a b (.tup (ss.map sdD)) = .tup ((ss.map fun e => e.map (swp a b)).map sdD) := by
  rw [ren_tup, List.map_map, List.map_map]
  exact congrArg D.tup (List.map_congr_left fun e _ => ren_ints a b e)
theorem ti_sheets (ss : List (List Int)) : tiOk (.tup (ss.map sdD)) = true := (tiOk_tup _).mpr fun d hd => by
  obtain ⟨e, _, rfl⟩ := List.mem_map.mp hd
  exact ti_ints e
/-! values that are no trees -/
theorem lvD_tr : ∀ t : Tr, (∀ x ∈ t.leaves, 0 ≤ x ∧ x ≤ 15) → lvD fewI t.d = some t.leaves
  | .leaf n, h => by
    have := h n (by simp [Tr.leaves])
    show fewI n = some [n]
    unfold fewI
    rw [if_pos this]
  | .node l r, h => by
    show lvD fewI (.tup [l.d, r.d]) = some (l.leaves ++ r.leaves)
    rw [lvD_two, lvD_tr l (fun x hx => h x (List.mem_append_left _ hx)), lvD_tr r (fun x hx => h x (List.mem_append_right _ hx))]
    rfl
theorem lvD_big : ∀ t : Tr, (∃ x ∈ t.leaves, ¬(0 ≤ x ∧ x ≤ 15)) → lvD fewI t.d = none
  | .leaf n, h => by
    obtain ⟨x, hx, hb⟩ := h
    have e : x = n := by simpa [Tr.leaves] using hx
    subst e
    show fewI x = none
    unfold fewI
    rw [if_neg hb]
  | .node l r, h => by
    obtain ⟨x, hx, hb⟩ := h
    show lvD fewI (.tup [l.d, r.d]) = none
    rw [lvD_two]
    rcases List.mem_append.mp hx with hx | hx
    · rw [lvD_big l ⟨x, hx, hb⟩]; rfl
    · rw [lvD_big r ⟨x, hx, hb⟩]
      cases lvD fewI l.d <;> rfl
theorem treeB_of (t : Tr) : treeB t.d = (goodL t.leaves) := by
  unfold treeB
  by_cases h : ∀ x ∈ t.leaves, 0 ≤ x ∧ x ≤ 15
  · rw [lvD_tr t h]; rfl
  · have h2 : ∃ x ∈ t.leaves, ¬(0 ≤ x ∧ x ≤ 15) := by
      refine Classical.byContradiction fun z => h fun x hx => ?_
      exact Classical.byContradiction fun q => z ⟨x, hx, q⟩
    rw [lvD_big t h2]
    obtain ⟨x, hx, hb⟩ := h2
    show false = _
    refine (Bool.eq_false_iff.mpr fun z => ?_).symm
    unfold goodL at z
    rw [Bool.and_eq_true_iff, Bool.and_eq_true_iff, decide_eq_true_eq, decide_eq_true_eq] at z
    obtain ⟨⟨z1, z2⟩, z3⟩ := z
    have := mem_rangeI ((List.isPerm_iff.mp z3).mem_iff.mp hx)
    exact hb (by omega)
end Lin

end

section
namespace Lin
open PySem PySem.Spec PySem.Calls PyProof.Rows L2
theorem Tr.d_inj : ∀ {t u : Tr}, t.d = u.d → t = u
  | .leaf n, .leaf m, h => by
    have h2 : D.int n = D.int m := h
    cases h2; rfl
  | .leaf n, .node l r, h => nomatch (show D.int n = D.tup [l.d, r.d] from h)
  | .node l r, .leaf n, h => nomatch (show D.tup [l.d, r.d] = D.int n from h)
  | .node l r, .node l2 r2, h => by
    have h2 : D.tup [l.d, r.d] = D.tup [l2.d, r2.d] := h
    injection h2 with h3
    injection h3 with h4 h5
    injection h5 with h6 _
    rw [Tr.d_inj h4, Tr.d_inj h6]
theorem trOf_tr {t : Tr} (h : treeB t.d = true) : trOf t.d = t := Tr.d_inj (treeB_tr h).1
/-- sides renamed to what is none of them, or away, are no tree -/
theorem tree_ren_out {t : Tr} {a b : Int} (ha : a ∈ t.leaves) (hb : ¬(0 ≤ b ∧ b < t.leaves.length)) : treeB (t.ren a b).d = false := by
  rw [treeB_of]
  refine Bool.eq_false_iff.mpr fun z => ?_
  unfold goodL at z
  rw [Bool.and_eq_true_iff] at z
  have hm : b ∈ (t.ren a b).leaves := by
    rw [ren_leaves]
    exact List.mem_map.mpr ⟨a, ha, if_pos rfl⟩
  have := mem_rangeI ((List.isPerm_iff.mp z.2).mem_iff.mp hm)
  rw [ren_leaves, List.length_map] at this
  exact hb this
theorem tree_ren_in {t : Tr} {a b : Int} (ha : 0 ≤ a ∧ a < t.leaves.length) (hab : a ≠ b) : treeB (t.ren a b).d = false := by
  rw [treeB_of]
  refine Bool.eq_false_iff.mpr fun z => ?_
  unfold goodL at z
  rw [Bool.and_eq_true_iff] at z
  have hm : a ∈ rangeI (t.ren a b).leaves.length := by
    rw [ren_leaves, List.length_map]
    unfold rangeI
    exact List.mem_map.mpr ⟨a.toNat, List.mem_range.mpr (by omega), by omega⟩
  have h2 := (List.isPerm_iff.mp z.2).mem_iff.mpr hm
  rw [ren_leaves] at h2
  obtain ⟨x, _, hx⟩ := List.mem_map.mp h2
  unfold swp at hx
  split at hx
  · exact hab hx.symm
  · rename_i e; exact e hx
/-- one side more -/
theorem goodL_more {l : List Int} (h : l.Perm (rangeI l.length)) (h0 : 1 ≤ l.length) : goodL (l ++ [(l.length : Int)]) = decide (l.length < 16) := by
  have p : (l ++ [(l.length : Int)]).Perm (rangeI (l.length + 1)) := by
    have e : rangeI (l.length + 1) = rangeI l.length ++ [(l.length : Int)] := by
      unfold rangeI
      rw [List.range_succ, List.map_append]; rfl
    rw [e]
    exact h.append_right _
  unfold goodL
  rw [List.length_append]
  show (decide (2 ≤ l.length + 1) && decide (l.length + 1 ≤ 16) && (l ++ [(l.length : Int)]).isPerm (rangeI (l.length + 1))) = _
  rw [List.isPerm_iff.mpr p, Bool.and_true, decide_eq_true (by omega), Bool.true_and]
  exact decide_eq_decide.mpr (by omega)
theorem sds_more (t : Tr) (x : Int) : sdsOf (note (.node t (.leaf x)) []).2 = sdStep (sdsOf (note t []).2) ((note t []).1, .side x) := by
  show sdsOf ((note t []).2 ++ [((note t []).1, Pt.side x)]) = _
  exact sdsOf_snoc _ _
theorem zip_more {α β : Type} : ∀ (a : List α) (b : List β) (x : α) (y : β), a.length = b.length → (a ++ [x]).zip (b ++ [y]) = a.zip b ++ [(x, y)]
  | [], [], x, y, _ => rfl
  | [], _ :: _, _, _, h => nomatch h
  | _ :: _, [], _, _, h => nomatch h
  | a :: as, b :: bs, x, y, h => by
    rw [List.cons_append, List.cons_append, List.zip_cons_cons, List.zip_cons_cons, List.cons_append, zip_more as bs x y (Nat.succ.inj h)]
theorem sheetD_true {sds : Sds} {s : List Int} (hl : s.length = sds.length) (h : ∀ p ∈ s.zip sds, p.1 ∈ p.2) : sheetD sds (sdD s) = true := by
  show (decide ((s.map D.int).length = sds.length) && ((s.map D.int).zip sds).all fun p => isI p.1 && decide (iv p.1 ∈ p.2)) = true
  rw [List.length_map, decide_eq_true hl, Bool.true_and, List.all_eq_true]
  intro p hp
  rw [List.zip_map_left] at hp
  obtain ⟨q, hq, rfl⟩ := List.mem_map.mp hp
  show (true && decide (q.1 ∈ q.2)) = true
  rw [Bool.true_and]
  exact decide_eq_true (h q hq)
end Lin

end

section
set_option maxHeartbeats 4000000
namespace PySem
open Sem (wp)
open PySem.W (KdxG)
/-! list(enumerate(xs)): each pair stays alive in the new list -/
namespace F
theorem enum_no_len : typeLookup (.type "enumerate") "__len__" = pure none := by rw [typeLookup_type, builtinLookup_eq_fast]; kernel_rfl
theorem enum_no_hint : typeLookup (.type "enumerate") "__length_hint__" = pure none := by rw [typeLookup_type, builtinLookup_eq_fast]; kernel_rfl
end F
section
variable {prog : Program} {w : World} {A : Around} {E : Value → Shared → Prop} {s : Shared}
theorem enumerate_next_itemH {e it T : Addr} {fp : List Addr} {n i : Nat} {P : Nat → Value → Prop} {St : Nat → Heap → Prop} {old : Value} {f : Bool} {oT : Obj} {Q : Value → Shared → Prop}
    (D : Draws prog w A it fp n P St) (he : IsEnumHeld s.heap e it i old T f) (hT : s.heap.get? T = some oT) (hTe : T ≠ e) (hTi : T ≠ it) (hst : St i s.heap) (hlt : i < n) (hne : e ≠ it) (hef : e ∉ fp)
    (hQ : ∀ x h' tk, P i x → IsEnumHeld h' e it ((i : Int) + 1) old T true → St (i + 1) h' →
      h'.get? s.heap.objs.size = some { cls := .type "tuple", data := .seq #[.int i tk, x] } → h'.objs.size = s.heap.objs.size + 1 →
      (∀ b o, b ≠ e → b ≠ it → s.heap.get? b = some o → h'.get? b = some o) → Q (.ref s.heap.objs.size) { s with heap := h', toks := tk + 1 }) :
    wpAny (model prog w) A (Builtin.«enumerate.__next__» ⟨[.ref e], []⟩) (fun fin s' => ∃ v, fin = .done (.ret v) ∧ Q v s') E s := by
  obtain ⟨hp, g, d, tk₀, os⟩ := s
  show wpAny _ _ (field (.ref e) 2 >>= _) _ _ _
  refine wpAny_bind (wpAny_field he rfl (x := .ref it) rfl ?_)
  refine wpAny_bind (D.item i _ _ _ hlt hst fun x h₁ tk hPx hit₁ hs₁ => ?_)
  replace hs₁ : Heap.SameBut it hp h₁ := hs₁
  have he₁ : IsEnumHeld h₁ e it i old T f := (hs₁.2 e hne).trans he
  show wpAny _ _ (field (.ref e) 3 >>= _) _ _ ⟨h₁, g, d, tk, os⟩
  refine wpAny_bind (wpAny_field he₁ rfl (x := rawInt i) rfl ?_)
  show wpAny _ _ (field (.ref e) 4 >>= _) _ _ ⟨h₁, g, d, tk, os⟩
  refine wpAny_bind (wpAny_field he₁ rfl (x := .none) rfl ?_)
  show wpAny _ _ (mkInt i >>= _) _ _ ⟨h₁, g, d, tk, os⟩
  refine wpAny_bind (wpAny_mkInt ?_)
  show wpAny _ _ (setField (.ref e) 3 (rawInt ((i : Int) + 1)) >>= _) _ _ ⟨h₁, g, d, tk + 1, os⟩
  refine wpAny_bind (wpAny_setField_rec he₁ (by simp) fun h₂ he₂ hs₂ => ?_)
  replace hs₂ : Heap.SameBut e h₁ h₂ := hs₂
  replace he₂ : IsEnumHeld h₂ e it ((i : Int) + 1) old T f := he₂
  show wpAny _ _ (setField (.ref e) 4 .none >>= _) _ _ ⟨h₂, g, d, tk + 1, os⟩
  refine wpAny_bind (wpAny_setField_rec he₂ (by simp) fun h₃ he₃ hs₃ => ?_)
  replace hs₃ : Heap.SameBut e h₂ h₃ := hs₃
  replace he₃ : IsEnumHeld h₃ e it ((i : Int) + 1) old T f := he₃
  show wpAny _ _ (newTuple [.int i tk, x] >>= _) _ _ ⟨h₃, g, d, tk + 1, os⟩
  refine wpAny_bind (wpAny_newTuple ?_)
  have he₄ : IsEnumHeld (h₃.push { cls := .type "tuple", data := .seq #[.int i tk, x] }) e it ((i : Int) + 1) old T f := Heap.get?_push_of_some _ he₃
  generalize hh₄ : h₃.push { cls := .type "tuple", data := .seq #[.int i tk, x] } = h₄ at he₄
  have hsz : h₃.objs.size = hp.objs.size := by rw [hs₃.1, hs₂.1, hs₁.1]
  have hel : e < hp.objs.size := Heap.lt_size he
  have ht₄ : h₄.get? hp.objs.size = some { cls := .type "tuple", data := .seq #[.int i tk, x] } := by rw [← hh₄, ← hsz]; exact Heap.get?_push_size _ rfl
  have hz₄ : h₄.objs.size = hp.objs.size + 1 := by rw [← hh₄, Heap.size_push, hsz]
  have hk₄ : ∀ b o, b ≠ e → b ≠ it → hp.get? b = some o → h₄.get? b = some o := fun b o hbe hbi hb => by
    rw [← hh₄]; exact Heap.get?_push_of_some _ (hs₃.extBut b o hbe (hs₂.extBut b o hbe (hs₁.extBut b o hbi hb)))
  have hit₄ : St (i + 1) h₄ := D.frame _ _ _ hit₁ fun b hb o y => by
    have hbe : b ≠ e := fun q => hef (q ▸ hb)
    rw [← hh₄]; exact Heap.get?_push_of_some _ (hs₃.extBut b o hbe (hs₂.extBut b o hbe y))
  show wpAny _ _ (Builtin.SmallTypes.ownedTupleIsFree (.ref e) >>= _) _ _ ⟨h₄, g, d, tk + 1, os⟩
  rw [hsz]
  clear hh₄ he₃ hs₃ he₂ hs₂ he₁ hs₁ hit₁ hsz h₃ h₂ h₁
  refine wpAny_bind (wpAny_tupleHeld_enum (s := ⟨h₄, g, d, tk + 1, os⟩) he₄ (hk₄ T oT hTe hTi hT) fun h₅ he₅ hs₅ => ?_)
  replace hs₅ : Heap.SameBut e h₄ h₅ := hs₅
  simp only [Bool.false_eq_true, if_false]
  refine wpAny_pure ⟨_, rfl, hQ x h₅ tk hPx he₅ (D.frame _ _ _ hit₄ fun b hb o y => hs₅.extBut b o (fun q => hef (q ▸ hb)) y) (hs₅.extBut _ _ (Nat.ne_of_gt hel) ht₄) ?_ fun b o hbe hbi hb => hs₅.extBut b o hbe (hk₄ b o hbe hbi hb)⟩
  show h₅.objs.size = hp.objs.size + 1
  rw [hs₅.1, hz₄]
/-- how an enumerate stands whose pairs are kept -/
def EnSt (h : Heap) (e it S : Addr) (i : Nat) : Prop :=
  (∃ old, IsEnum h e it i old) ∨ ∃ old T f oT, IsEnumHeld h e it i old T f ∧ h.get? T = some oT ∧ T ≠ e ∧ T ≠ it ∧ T ≠ S
theorem EnSt.keep {h h' : Heap} {e it S : Addr} {i : Nat} (x : EnSt h e it S i) (hk : ∀ b o, b ≠ S → h.get? b = some o → h'.get? b = some o) (hI : e ≠ S) : EnSt h' e it S i := by
  rcases x with ⟨old, q⟩ | ⟨old, T, f, oT, q, hT, h1, h2, h3⟩
  · exact .inl ⟨old, hk _ _ hI q⟩
  · exact .inr ⟨old, T, f, oT, hk _ _ hI q, hk _ _ h3 hT, h1, h2, h3⟩
theorem en_item {e it S : Addr} {fp : List Addr} {n i : Nat} {P : Nat → Value → Prop} {St : Nat → Heap → Prop} {Q : Option Value → Shared → Prop} (D : Draws prog w A.in1 it fp n P St) (hst : EnSt s.heap e it S i) (hS : S < s.heap.objs.size) (hd : St i s.heap) (hlt : i < n) (hne : e ≠ it) (hef : e ∉ fp)
    (hQ : ∀ x h' tk, P i x → EnSt h' e it S (i + 1) → St (i + 1) h' → h'.get? s.heap.objs.size = some { cls := .type "tuple", data := .seq #[.int i tk, x] } → h'.objs.size = s.heap.objs.size + 1 →
      (∀ b o, b ≠ e → b ≠ it → s.heap.get? b = some o → h'.get? b = some o) → Q (some (.ref s.heap.objs.size)) { s with heap := h', toks := tk + 1 }) : wpAny (model prog w) A (pyNext (.ref e)) Q E s := by
  have e1 : ((i + 1 : Nat) : Int) = (i : Int) + 1 := by omega
  have hil : it < s.heap.objs.size := let ⟨_, q⟩ := D.live i _ hd; Heap.lt_size q
  rcases hst with ⟨old, q⟩ | ⟨old, T, f, oT, q, hT, h1, h2, h3⟩
  · have hel : e < s.heap.objs.size := Heap.lt_size q
    exact wpAny_pyNext_enum_itemD D q hd hlt hne hef fun x h' tk hP ho hs' ht hz hk => hQ x h' tk hP (.inr ⟨x, _, false, _, by rw [e1]; exact ho, ht, Nat.ne_of_gt hel, Nat.ne_of_gt hil, Nat.ne_of_gt hS⟩) hs' ht hz hk
  · have hTy : s.TypeIs (.ref e) "enumerate" := ⟨_, q, rfl⟩
    unfold pyNext
    exact wpAny_bind (wpAny_attempt (wpAny_callSpecial?_slot (name := Str.ofString "__next__") hTy F.slot_enumerate_next
      (wpAny_call_entry F.slot_enumerate_next hTy F.entry_enumerate_next
        (enumerate_next_itemH D q hT h1 h2 hd hlt hne hef fun x h' tk hP ho hs' ht hz hk => wpAny_pure (hQ x h' tk hP (.inr ⟨old, T, true, oT, by rw [e1]; exact ho, hk T oT h1 h2 hT, h1, h2, h3⟩) hs' ht hz hk)) (F.args_enumerate_next_1 _))))
theorem en_done {e it S : Addr} {fp : List Addr} {n : Nat} {P : Nat → Value → Prop} {St : Nat → Heap → Prop} {Q : Option Value → Shared → Prop} (D : Draws prog w A.in1 it fp n P St) (hst : EnSt s.heap e it S n) (hd : St n s.heap)
    (hQ : ∀ h', Heap.ExtBut it s.heap h' → Q none { s with heap := h' }) : wpAny (model prog w) A (pyNext (.ref e)) Q E s := by
  have fin : ∀ {fs : Array Value}, s.heap.get? e = some { cls := .type "enumerate", dict := none, data := .fields fs, slots := #[] } → fs[2]? = some (.ref it) → wpAny (model prog w) A (pyNext (.ref e)) Q E s := fun {fs} he h2 => by
    have hTy : s.TypeIs (.ref e) "enumerate" := ⟨_, he, rfl⟩
    unfold pyNext
    refine wpAny_bind (wpAny_attempt (wpAny_callSpecial?_slot (name := Str.ofString "__next__") hTy F.slot_enumerate_next
      (wpAny_call_entry F.slot_enumerate_next hTy F.entry_enumerate_next ?_ (F.args_enumerate_next_1 _))))
    show wpAny _ _ (field (.ref e) 2 >>= _) _ _ _
    refine wpAny_bind (wpAny_field he rfl (x := .ref it) h2 ?_)
    refine wpAny_bind (D.done _ _ _ hd fun h' x he' hx' => ?_)
    obtain ⟨o, ho, hc⟩ := hx'
    refine wpAny_bind (wpAny_isInstance (T := "StopIteration") (b := true) ⟨o, ho, hc⟩ isSubtype_stop ?_)
    exact wpAny_pure (hQ _ he')
  rcases hst with ⟨old, q⟩ | ⟨old, T, f, oT, q, hT, h1, h2, h3⟩
  · exact fin q rfl
  · exact fin q rfl
structure EnG (P : Nat → Value → Prop) (lo : Addr) (h : Heap) (as : List Addr) : Prop where
  rise : as.Pairwise (· < ·)
  above : ∀ a ∈ as, lo < a
  pairs : ∀ (j : Nat) (a : Addr), as[j]? = some a → ∃ t x, P j x ∧ h.get? a = some { cls := .type "tuple", data := .seq #[.int (j : Nat) t, x] }
theorem EnG.there {P : Nat → Value → Prop} {lo : Addr} {h : Heap} {as : List Addr} (g : EnG P lo h as) {a : Addr} (ha : a ∈ as) : a < h.objs.size := by
  obtain ⟨j, hj⟩ := List.mem_iff_getElem?.mp ha
  obtain ⟨_, _, _, e⟩ := g.pairs j a hj
  exact Heap.lt_size e
end
section
variable {prog : Program} {w : World} {A : Around} {s : Shared} {R : Result → Shared → Prop} {it : Addr} {fp : List Addr} {n : Nat} {P : Nat → Value → Prop} {St : Nat → Heap → Prop}
theorem en_loop {S e lo : Addr} (hD : Draws prog w A.in1.in1 it fp n P St) (hSf : S ∉ fp) (hSe : S ≠ e) (hif : it ∈ fp) (hne : e ≠ it) (hef : e ∉ fp) (hn : n ≤ sizeLine) (res : Value) {h₁ : Heap} (hel : e ≤ lo) (hil : it ≤ lo) (hSlo : S ≤ lo)
    (hR : ∀ h' tk acc c as, (∀ b o, b ≠ S → b ≠ e → b ≠ it → h₁.get? b = some o → h'.get? b = some o) → h'.get? S = some { cls := .type "list", dict := none, data := .seq acc c, slots := #[] } → as.length = n → EnG P lo h' as →
      acc.toList = as.map Value.ref → R (.ok (.ret res)) { s with heap := h', toks := tk }) :
    ∀ (k i : Nat) (h : Heap) (tk c : Nat) (acc : Array Value) (as : List Addr), n - i = k → i ≤ n → EnSt h e it S i → St i h → (∀ b o, b ≠ S → b ≠ e → b ≠ it → h₁.get? b = some o → h.get? b = some o) →
      h.get? S = some { cls := .type "list", dict := none, data := .seq acc c, slots := #[] } → acc.toList = as.map Value.ref → as.length = i → EnG P lo h as → lo < h.objs.size →
      codeAny (model prog w) A (.builtin "list.extend.loop" ⟨[.ref S, .ref e, res], []⟩) R { s with heap := h, toks := tk } := by
  have hSi : S ≠ it := fun q => hSf (q ▸ hif)
  intro k
  induction k with
  | zero =>
    intro i h tk c acc as hk hi hst hd hkeep hS hacc hal hG hlo
    have hin : i = n := by omega
    subst hin
    refine codeAny_builtin PySem.F.entry_extend_loop ?_
    rw [Around.under_plainId PySem.F.plain_extend_loop _]
    show wpAny _ A.in1 (pyNext (.ref e) >>= _) _ _ _
    refine wpAny_bind (en_done (s := { s with heap := h, toks := tk }) (A := A.in1) hD hst hd fun h' he => ?_)
    refine wpAny_pure (hR h' tk acc c as (fun b o h1 h2 h3 q => he b o h3 (hkeep b o h1 h2 h3 q)) (he S _ hSi hS) hal ⟨hG.rise, hG.above, fun j a hj => ?_⟩ hacc)
    obtain ⟨t, x, q1, q2⟩ := hG.pairs j a hj
    have hb := hG.above a (List.mem_of_getElem? hj)
    exact ⟨t, x, q1, he a _ (Nat.ne_of_gt (Nat.lt_of_le_of_lt hil hb)) q2⟩
  | succ k ih =>
    intro i h tk c acc as hk hi hst hd hkeep hS hacc hal hG hlo
    have hlt : i < n := by omega
    have hsz : acc.size = i := by rw [← Array.length_toList, hacc, List.length_map, hal]
    refine codeAny_builtin PySem.F.entry_extend_loop ?_
    rw [Around.under_plainId PySem.F.plain_extend_loop _]
    show wpAny _ A.in1 (pyNext (.ref e) >>= _) _ _ _
    refine wpAny_bind (en_item (s := { s with heap := h, toks := tk }) (S := S) hD hst (Heap.lt_size hS) hd hlt hne hef fun x h' tk' hP hst' hd' ht hz hkp => ?_)
    dsimp only at ht hz hkp ⊢
    have hS' := hkp S _ hSe hSi hS
    have up : ∀ b o, b ≠ S → h'.get? b = some o → (h'.update S (Obj.mapSeq (·.push (Value.ref h.objs.size)))).get? b = some o := fun b o hb q => (Heap.get?_update_other _ _ (Ne.symm hb)).trans q
    have hSl : S < h.objs.size := Heap.lt_size hS
    show wpAny _ A.in1 (updateSeq S (·.push (Value.ref h.objs.size)) >>= _) _ _ _
    refine wpAny_bind ?_
    refine wpAny_updateSeq hS' rfl (wpAny_pure ⟨plainId_quiet PySem.F.plain_extend_loop _, ih (i + 1) _ (tk' + 1) _ (acc.push (Value.ref h.objs.size)) (as ++ [h.objs.size]) (by omega) hlt (hst'.keep up (Ne.symm hSe)) (hD.frame _ _ _ hd' fun b hb o q => up b o (fun z => hSf (z ▸ hb)) q)
      (fun b o h1 h2 h3 q => up b o h1 (hkp b o h2 h3 (hkeep b o h1 h2 h3 q))) (Heap.get?_update_self _ hS' rfl) (by rw [Array.toList_push, hacc, List.map_append]; rfl) (by rw [List.length_append, hal]; rfl) ⟨?_, ?_, ?_⟩ ?_⟩) (by rw [hsz]; omega) (by show (acc.push (Value.ref h.objs.size)).size ≤ sizeLine + 1; rw [Array.size_push, hsz]; omega)
    · refine List.pairwise_append.mpr ⟨hG.rise, List.pairwise_singleton _ _, fun a ha b hb => ?_⟩
      rw [List.mem_singleton.mp hb]
      exact hG.there ha
    · intro a ha
      rcases List.mem_append.mp ha with ha | ha
      · exact hG.above a ha
      · rw [List.mem_singleton.mp ha]; exact hlo
    · intro j b hj
      rcases Nat.lt_trichotomy j as.length with h1 | h1 | h1
      · rw [List.getElem?_append_left h1] at hj
        obtain ⟨t', x', e1, e3⟩ := hG.pairs j b hj
        have hb := hG.above b (List.mem_of_getElem? hj)
        exact ⟨t', x', e1, up b _ (Nat.ne_of_gt (Nat.lt_of_le_of_lt hSlo hb)) (hkp b _ (Nat.ne_of_gt (Nat.lt_of_le_of_lt hel hb)) (Nat.ne_of_gt (Nat.lt_of_le_of_lt hil hb)) e3)⟩
      · subst h1
        have hb : h.objs.size = b := by simpa using hj
        subst hb
        exact ⟨tk', x, by rw [hal]; exact hP, by rw [hal]; exact up _ _ (Nat.ne_of_gt hSl) ht⟩
      · have hnone : (as ++ [h.objs.size])[j]? = none := List.getElem?_eq_none (by rw [List.length_append, List.length_singleton]; omega)
        rw [hnone] at hj; cases hj
    · have q : (h'.update S (Obj.mapSeq (·.push (Value.ref h.objs.size)))).get? h.objs.size = _ := up _ _ (Nat.ne_of_gt hSl) ht
      exact Nat.lt_trans hlo (Heap.lt_size q)
theorem en_extend {S e : Addr} {old : Value} (hD : Draws prog w A.in1.in1 it fp n P St) (he : IsEnum s.heap e it 0 old) (hd : St 0 s.heap) (hSf : S ∉ fp) (hSe : S ≠ e) (hif : it ∈ fp) (hne : e ≠ it) (hef : e ∉ fp) (hn : n ≤ sizeLine) (res : Value) (c₀ : Nat)
    (hel : e ≤ S) (hil : it ≤ S) (hS : s.heap.get? S = some { cls := .type "list", data := .seq #[] c₀ })
    (hR : ∀ h' tk acc c as, (∀ b o, b ≠ S → b ≠ e → b ≠ it → s.heap.get? b = some o → h'.get? b = some o) → h'.get? S = some { cls := .type "list", dict := none, data := .seq acc c, slots := #[] } → as.length = n → EnG P S h' as →
      acc.toList = as.map Value.ref → R (.ok (.ret res)) { s with heap := h', toks := tk }) :
    wpAny (model prog w) A.in1 (Builtin.List.listExtendWith (.ref S) (.ref e) res)
      (fun fin s' => match fin with | .done f => R (.ok f) s' | .again c' => c'.quiet = true ∧ codeAny (model prog w) A c' R s') (fun e s' => R (.error e) s') s := by
  have hT : s.TypeIs (.ref e) "enumerate" := ⟨_, he, rfl⟩
  unfold Builtin.List.listExtendWith
  refine wpAny_bind (wpAny_typeOf hT ?_)
  have h1 : Builtin.List.listSameRef (.ref S) (.ref e) = false := by simp [Builtin.List.listSameRef, hSe]
  have h2 : (Value.type "enumerate" == Value.type "list") = false := by decide
  have h3 : (Value.type "enumerate" == Value.type "tuple") = false := by decide
  simp only [h1, h2, h3, Bool.or_false, Bool.false_eq_true, if_false]
  refine wpAny_bind (wpAny_pyIter_enum he ?_)
  refine wpAny_bind (wpAny_holding ?_)
  unfold Builtin.List.listLengthHint
  refine wpAny_bind (wpAny_specialOf hT F.enum_no_len ?_)
  show wpAny _ A.in1 (specialOf (Value.ref e) (Str.ofString "__length_hint__") >>= _) _ _ _
  refine wpAny_bind (wpAny_specialOf hT F.enum_no_hint ?_)
  refine wpAny_pure ?_
  show wpAny _ A.in1 (rule "list.extend.makes-room" >>= fun _ => Builtin.List.listTouch (.ref S) >>= fun _ =>
    again (.builtin "list.extend.loop" ⟨[.ref S, .ref e, res], []⟩)) _ _ _
  refine wpAny_bind (wpAny_rule ?_)
  refine wpAny_bind ?_
  show wpAny _ A.in1 (updateSeq S (·.push .none) >>= fun _ => updateSeq S (·.pop)) _ _ _
  refine wpAny_bind (wpAny_updateSeq hS rfl ?_)
  have hS₂ := Heap.get?_update_self (Obj.mapSeq (·.push Value.none)) hS rfl
  refine wpAny_updateSeq (hz := by seq_fits) hS₂ rfl ?_
  have hS₃ := Heap.get?_update_self (Obj.mapSeq (·.pop)) hS₂ rfl
  have oth : ∀ b o, b ≠ S → s.heap.get? b = some o → ((s.heap.update S (Obj.mapSeq (·.push Value.none))).update S (Obj.mapSeq (·.pop))).get? b = some o :=
    fun b o hb q => (Heap.get?_update_other _ _ (Ne.symm hb)).trans ((Heap.get?_update_other _ _ (Ne.symm hb)).trans q)
  refine wpAny_pure ⟨plainId_quiet F.plain_extend_loop _, ?_⟩
  exact en_loop (s := s) (h₁ := s.heap) (lo := S) hD hSf hSe hif hne hef hn res hel hil (Nat.le_refl _) (fun h' tk acc c as hk hS' hl hG hacc => hR h' tk acc c as hk hS' hl hG hacc)
    n 0 _ _ _ #[] [] (Nat.sub_zero _) (Nat.zero_le _) (.inl ⟨old, oth e _ (Ne.symm hSe) he⟩) (hD.frame _ _ _ hd fun b hb o q => oth b o (fun z => hSf (z ▸ hb)) q) (fun b o hb _ _ q => oth b o hb q) hS₃ rfl rfl
    ⟨List.Pairwise.nil, (fun _ ha => nomatch ha), (fun j a hj => by simp at hj)⟩ (Heap.lt_size hS₃)
theorem en_init {S e : Addr} {old : Value} (hD : Draws prog w A.in1.in1 it fp n P St) (he : IsEnum s.heap e it 0 old) (hd : St 0 s.heap) (hSf : S ∉ fp) (hSe : S ≠ e) (hif : it ∈ fp) (hne : e ≠ it) (hef : e ∉ fp) (hn : n ≤ sizeLine)
    (hel : e ≤ S) (hil : it ≤ S) (hS : s.heap.get? S = some { cls := .type "list", data := .seq #[] })
    (hR : ∀ h' tk acc c as, (∀ b o, b ≠ S → b ≠ e → b ≠ it → s.heap.get? b = some o → h'.get? b = some o) → h'.get? S = some { cls := .type "list", dict := none, data := .seq acc c, slots := #[] } → as.length = n → EnG P S h' as →
      acc.toList = as.map Value.ref → R (.ok (.ret .none)) { s with heap := h', toks := tk }) :
    wpAny (model prog w) A.in1 (Builtin.«list.__init__» ⟨[.ref S, .ref e], []⟩)
      (fun fin s' => match fin with | .done f => R (.ok f) s' | .again c' => c'.quiet = true ∧ codeAny (model prog w) A c' R s') (fun e s' => R (.error e) s') s := by
  show wpAny _ A.in1 (do let old ← Builtin.List.listItems (.ref S); Builtin.List.listUpdate (.ref S) (fun _ => #[]); letGo old.toList.reverse; Builtin.List.listExtendWith (.ref S) (.ref e) .none) _ _ s
  refine wpAny_bind ?_
  unfold Builtin.List.listItems
  refine wpAny_bind (wpAny_seqItems hS rfl (wpAny_pure ?_))
  show wpAny _ A.in1 (updateSeq S (fun _ => #[]) >>= fun _ => letGo (#[] : Array Value).toList.reverse >>= fun _ => Builtin.List.listExtendWith (.ref S) (.ref e) .none) _ _ s
  refine wpAny_bind (wpAny_updateSeq hS rfl ?_)
  have hS₂ := Heap.get?_update_self (Obj.mapSeq (fun _ => (#[] : Array Value))) hS rfl
  have oth : ∀ b o, b ≠ S → s.heap.get? b = some o → (s.heap.update S (Obj.mapSeq (fun _ => (#[] : Array Value)))).get? b = some o :=
    fun b o hb q => (Heap.get?_update_other _ _ (Ne.symm hb)).trans q
  refine wpAny_bind (wpAny_letGo ?_)
  refine en_extend hD (oth e _ (Ne.symm hSe) he) (hD.frame _ _ _ hd fun b hb o q => oth b o (fun z => hSf (z ▸ hb)) q) hSf hSe hif hne hef hn .none _ hel hil hS₂ fun h' tk acc c as hk hS' hl hG hacc => ?_
  exact hR h' tk acc c as (fun b o h1 h2 h3 q => hk b o h1 h2 h3 (oth b o h1 q)) hS' hl hG hacc
end
section
variable {prog : Program} {w : World} {A : Around} {E : Value → Shared → Prop} {s : Shared} {it : Addr} {fp : List Addr} {n : Nat} {P : Nat → Value → Prop} {St : Nat → Heap → Prop}
/-- list(e) of an enumerate -/
theorem call_list_enum {e : Addr} {old : Value} {Q : Value → Shared → Prop} (hD : Draws prog w A.in1.in1.in1 it fp n P St) (he : IsEnum s.heap e it 0 old) (hd : St 0 s.heap) (hfp : ∀ b ∈ fp, b < s.heap.objs.size) (hif : it ∈ fp) (hne : e ≠ it) (hef : e ∉ fp) (hn : n ≤ sizeLine)
    (hQ : ∀ h' tk acc c as, (∀ b o, b ≠ e → b ≠ it → s.heap.get? b = some o → h'.get? b = some o) → h'.get? s.heap.objs.size = some { cls := .type "list", dict := none, data := .seq acc c, slots := #[] } → as.length = n → EnG P s.heap.objs.size h' as →
      acc.toList = as.map Value.ref → Q (.ref s.heap.objs.size) { s with heap := h', toks := tk }) :
    wpAny (model prog w) A (call (.type "list") [.ref e]) Q E s := by
  refine callType_codes (Q₁ := fun obj s₁ => obj = .ref s.heap.objs.size ∧ s₁ = { s with heap := s.heap.push { cls := .type "list", data := .seq #[] } }) F.called_list (F.typeCall_list_1 _) F.entry_list_init
    (code_list_new _ ⟨rfl, rfl⟩) fun obj s₁ h₁ => ?_
  obtain ⟨rfl, rfl⟩ := h₁
  have hS : (s.heap.push { cls := .type "list", data := .seq #[] }).get? s.heap.objs.size = some { cls := .type "list", data := .seq #[] } := Heap.get?_push_size _ rfl
  have hel : e < s.heap.objs.size := Heap.lt_size he
  have hil := hfp it hif
  refine ⟨⟨_, hS, rfl⟩, F.args_list_init_2 _ _, en_init (A := A.in1) hD (Heap.get?_push_of_some _ he) (hD.frame _ _ _ hd fun b _ o q => Heap.get?_push_of_some _ q) (fun z => Nat.lt_irrefl _ (hfp _ z)) (Nat.ne_of_gt hel) hif hne hef hn (Nat.le_of_lt hel) (Nat.le_of_lt hil) hS fun h' tk acc c as hk hS' hl hG hacc => ?_⟩
  exact ⟨rfl, hQ h' tk acc c as (fun b o h2 h3 q => hk b o (Nat.ne_of_lt (Heap.lt_size q)) h2 h3 (Heap.get?_push_of_some _ q)) hS' hl hG hacc⟩
end
end PySem

end

section
namespace Lin
open PySem PySem.Spec PySem.Calls PyProof.Rows L2
/-- numbered values -/
def enK : Nat → List V → List (Key × V)
  | _, [] => []
  | i, x :: xs => (.inl (i : Int), x) :: enK (i + 1) xs
def enU : Nat → List Value → List (Key × Value)
  | _, [] => []
  | i, x :: xs => (.inl (i : Int), x) :: enU (i + 1) xs
theorem enK_kv : ∀ (i : Nat) {xs : List V} {us : List Value}, Vals xs us → KV (enK i xs) (enU i us)
  | _, _, _, .nil => .nil
  | i, _, _, .cons r t => .cons ⟨rfl, r⟩ (enK_kv (i + 1) t)
theorem enK_len : ∀ (i : Nat) (xs : List V), (enK i xs).length = xs.length
  | _, [] => rfl
  | i, x :: xs => congrArg (· + 1) (enK_len (i + 1) xs)
theorem enU_len : ∀ (i : Nat) (xs : List Value), (enU i xs).length = xs.length
  | _, [] => rfl
  | i, x :: xs => congrArg (· + 1) (enU_len (i + 1) xs)
theorem enU_at : ∀ (i : Nat) (us : List Value) (j : Nat) (x : Value), us[j]? = some x → (enU i us)[j]? = some (.inl ((i + j : Nat) : Int), x)
  | _, [], _, _, h => by simp at h
  | i, u :: us, 0, x, h => by
    have e : u = x := by simpa using h
    subst e; rfl
  | i, u :: us, j + 1, x, h => by
    have := enU_at (i + 1) us j x (by simpa using h)
    show (enU (i + 1) us)[j]? = _
    rw [this, show i + 1 + j = i + (j + 1) by omega]
section
variable {X : Cx} {pins : List (Addr × Obj)} {σ : L2.St} {H : Hp} {s : Shared}
/-- new pairs in a new list, all of them behind what there was -/
theorem laid_pairs {h' : Heap} {tk : Nat} {kvs : List (Key × V)} {vs : List (Key × Value)} {acc : Array Value} {c : Nat} {as : List Addr} {S : Addr} (I : Inv X pins σ H s) (hz : kvs.length ≤ sizeLine) (kv : KV kvs vs) (hlo : s.heap.objs.size ≤ S)
    (hk : ∀ b o, s.heap.get? b = some o → h'.get? b = some o) (hS : h'.get? S = some { cls := .type "list", dict := none, data := .seq acc c, slots := #[] }) (hl : as.length = vs.length) (hG : PySem.W.KdxG (mixKind X.prog X.w) vs S h' as) (hacc : acc.toList = as.map Value.ref) :
    ∃ H' : Hp, (∀ b o, H b = some o → H' b = some o) ∧ H S = none ∧ (∀ t ∈ as, H t = none) ∧ S ∉ as ∧ H' S = some (.lst (as.map V.ref)) ∧ Paired (fun (t : Addr) (q : Key × V) => H' t = some (.tup [kV q.1, q.2])) as kvs ∧ Inv X pins σ H' { s with heap := h', toks := tk } := by
  have lk : kvs.length = vs.length := Paired.length kv
  have out : S ∉ as := fun z => Nat.lt_irrefl _ (hG.above _ z)
  have nd : as.Nodup := List.Pairwise.imp (fun {a b} (h : a < b) => Nat.ne_of_lt h) hG.rise
  have fresh : ∀ t ∈ as, H t = none := fun t ht => I.hok.fresh (Nat.le_trans hlo (Nat.le_of_lt (hG.above t ht)))
  have freshS : H S = none := I.hok.fresh hlo
  generalize eG : LiI.putT (upd H S (.lst (as.map V.ref))) as kvs = G
  have there : Paired (fun (t : Addr) (q : Key × V) => G t = some (.tup [kV q.1, q.2])) as kvs := by rw [← eG]; exact LiI.putT_at as kvs _ (by omega) nd
  have same : ∀ b, b ∉ as → b ≠ S → G b = H b := fun b h1 h2 => by rw [← eG, LiI.putT_off as kvs _ h1, upd_ne h2]
  have atS : G S = some (.lst (as.map V.ref)) := by rw [← eG, LiI.putT_off as kvs _ out, upd_same]
  have old : ∀ b o, s.heap.get? b = some o → b ∉ as ∧ b ≠ S := fun b o e =>
    have lt := Nat.lt_of_lt_of_le (Heap.lt_size e) hlo
    ⟨fun z => Nat.lt_asymm lt (hG.above b z), Nat.ne_of_lt lt⟩
  have kp : ∀ b u, H b = some u → G b = some u := fun b u e => by
    rw [same b (fun z => by rw [fresh b z] at e; cases e) (fun z => by rw [z, freshS] at e; cases e)]; exact e
  refine ⟨G, kp, freshS, fresh, out, atS, there, I.call' (ch := []) rfl ⟨fun b o q _ _ _ => hk b o q, fun b o q _ _ _ => ⟨o.slots, hk b o q⟩, fun b o q n _ => ?_, fun b o q _ => ⟨o, hk b o q⟩, fun b xs q => kp b _ q, fun b o u q => kp b _ q, fun b ps q => ⟨#[], by rw [kp b _ q]; simp⟩⟩ (fun b u q => ?_) I.bare fun b z => by simp at z⟩
  · obtain ⟨z1, z2⟩ := old b o q
    rw [same b z1 z2]; exact n
  · by_cases hb : b ∈ as
    · obtain ⟨j, pr, e1, e2, e3⟩ := LiI.paired_ix there hb
      rw [e3] at q
      cases q
      obtain ⟨key, k, x, f1, f2, f3⟩ := hG.pairs j b e1
      obtain ⟨qv, g1, g2, g3⟩ := LiI.paired_get kv e2
      rw [f1] at g1
      cases g1
      have rk : RelV (kV pr.1) key := by rw [g2]; exact relV_key (show keyIs k key = true from f2)
      exact ⟨show 2 ≤ sizeLine by decide, [key, x], .cons rk (.cons g3 .nil), ⟨_, f3, rfl, _, rfl⟩⟩
    · by_cases hb2 : b = S
      · subst hb2
        rw [atS] at q
        cases q
        exact ⟨by rw [List.length_map]; omega, acc.toList, c, by rw [hacc]; exact LiI.vals_refs as, by rw [Array.toArray_toList]; exact hS⟩
      · rw [same b hb hb2] at q
        exact (I.hok b u q).stay (fun d v _ y => hk d v y) (fun d y => kp d _ y) fun d xs y => kp d _ y
end
def rListEn (K : PySem.W.Frag) : List V → Hp → VK → Prop := fun vs H Q => ∃ (a : Addr) (xs : List V), vs = [.ref a] ∧ (SqL K H a xs ∨ SqT K H a xs) ∧
  ∀ (H' : Hp) (p : Addr) (ts : List Addr), (∀ b o, H b = some o → H' b = some o) → H p = none → (∀ t ∈ ts, H t = none) → p ∉ ts → H' p = some (.lst (ts.map V.ref)) → Paired (fun (t : Addr) (q : Key × V) => H' t = some (.tup [kV q.1, q.2])) ts (enK 0 xs) → Q (.ref p) H'
section
variable {X : Cx} {e : Expr} {ta : TA} {p p2 pos pos2 : Pos}
theorem en_pairs {P : Program} {w : World} {K : List Value} {lo : Addr} {h : Heap} {as : List Addr} (g : EnG (fun i v => K.toArray[i]? = some v) lo h as) : PySem.W.KdxG (mixKind P w) (enU 0 K) lo h as := ⟨g.rise, g.above, fun j a hj => by
  obtain ⟨t, x, h1, h2⟩ := g.pairs j a hj
  refine ⟨.int (j : Nat) t, .inl (j : Int), x, ?_, ?_, h2⟩
  · have := enU_at 0 K j x (by simpa using h1)
    rw [Nat.zero_add] at this
    exact this
  · show keyIs (.inl (j : Int)) (.int (j : Nat) t) = true
    show Value.isInt (j : Int) (.int (j : Nat) t) = true
    simp [Value.isInt]⟩
theorem pe_listEn (hc : X.calm = true) (ha : PA X [e] ta) (hg : Gl X "list") (hm : X.mg "list" = none) (hge : Gl X "enumerate") (hme : X.mg "enumerate" = none) (hs : starEach [.Call (.Name "enumerate" p2) [e] [] pos2] X.env = (false, eval (.Call (.Name "enumerate" p2) [e] [] pos2) X.env) :: starEach [] X.env := by rfl) (hs2 : starEach [e] X.env = [(false, eval e X.env)] := by rfl) :
    PE X (.Call (.Name "list" p) [.Call (.Name "enumerate" p2) [e] [] pos2] [] pos) (fun σ H Q => ta σ H fun vs H1 => rListEn X.K vs H1 Q) := by
  refine ⟨fun pins s σ H Q I h => ?_⟩
  refine wpAny_Call_Name_kw (ld_blt I hg hm (show bootBuiltins "list" = some (.type "list") by decide +kernel) ?_)
  refine PyProof.Rows.callWith_type1 ?_ hs rfl
  rw [hs]
  show wpAny _ _ (spliced ((false, eval (.Call (.Name "enumerate" p2) [e] [] pos2) X.env) :: backTo pos (starEach [] X.env))) _ _ s
  refine Calls.spliced_cons ?_
  refine wpAny_Call_Name_kw (ld_blt I hge hme boot_enumerate ?_)
  refine PyProof.Rows.callWith_type1 (thn (ha.run pos2 pins s σ H _ I h) fun us s1 ⟨vs, H1, I1, r1, q1⟩ => ?_) hs2 rfl
  obtain ⟨a, xs, rfl, hq, q⟩ := q1
  cases r1 with
  | cons r rr =>
  cases rr
  cases r
  have hd := I1.ok.hd hc
  have fin : ∀ (its : List Value) (h' : Heap) (it : Addr) (St : Nat → Heap → Prop), Vals xs its → its.length ≤ sizeLine → a ≠ it → a ≠ s1.heap.objs.size + 1 → it = s1.heap.objs.size → (∀ A' : Around, A'.handled = none → Draws X.prog X.w A' it [it, a] its.length (fun i v => its.toArray[i]? = some v) St) → IsEnum h' (s1.heap.objs.size + 1) it 0 .none → St 0 h' →
      h'.objs.size = s1.heap.objs.size + 2 → (∀ b o, s1.heap.get? b = some o → h'.get? b = some o) → a < s1.heap.objs.size → wpAny (model X.prog X.w) X.A (spliced (backTo pos (starEach [] X.env))) (fun vs s₂ => wpAny (model X.prog X.w) X.A (call (.type "list") (.ref (s1.heap.objs.size + 1) :: vs)) (EP X pins σ Q) X.xe s₂) X.xe { s1 with heap := h' } := by
    intro its h' it St rv hz hai hae eit D he hst hsz hk hal
    refine Calls.spliced_nil ?_
    have ne : s1.heap.objs.size + 1 ≠ it := by rw [eit]; exact Nat.succ_ne_self _
    refine call_list_enum (D X.A.in1.in1.in1 hd) he hst (fun b hb => ?_) (by simp) ne (by simp [ne, Ne.symm hae]) hz fun h2 tk acc c as hk2 hS hl hG hacc => ?_
    · show b < h'.objs.size
      have e' : b = it ∨ b = a := by simpa using hb
      rw [hsz]
      rcases e' with z | z
      · rw [z, eit]; exact Nat.lt_of_lt_of_le (Nat.lt_succ_self _) (Nat.le_succ _)
      · rw [z]; exact Nat.lt_of_lt_of_le hal (Nat.le_add_right _ 2)
    · have kv := enK_kv 0 rv
      obtain ⟨H', k1, k2, k3, k4, k5, k6, J⟩ := laid_pairs (tk := tk) I1 (by rw [enK_len, rv.length]; exact hz) kv (by show s1.heap.objs.size ≤ h'.objs.size; rw [hsz]; exact Nat.le_add_right _ _) (fun b o e => hk2 b o (Nat.ne_of_lt (Nat.lt_succ_of_lt (Heap.lt_size e))) (by rw [eit]; exact Nat.ne_of_lt (Heap.lt_size e)) (hk b o e)) hS (by rw [enU_len]; exact hl) (en_pairs hG) hacc
      exact ⟨.ref _, H', J, rfl, q H' _ as k1 k2 k3 k4 k5 k6⟩
  rcases hq with hq | hq
  · obtain ⟨its, rv, ⟨o, n, ho, hcl, hdn, hx⟩, hz⟩ := I1.list hq
    have hal : a < s1.heap.objs.size := Heap.lt_size ho
    have isl : s1.heap.IsList a its.toArray := ⟨o, ho, hcl, n, hx⟩
    refine enum1_begins (begins_list a its.toArray) isl fun h' he hit hsz hk => ?_
    exact fin its h' s1.heap.objs.size (fun i h => h.IsListIter s1.heap.objs.size a i ∧ h.IsList a its.toArray) rv (by rw [← rv.length]; exact hz) (Nat.ne_of_lt hal) (Nat.ne_of_lt (Nat.lt_succ_of_lt hal)) rfl (fun A' hh => Draws.list hh _ a (Nat.ne_of_lt hal) its.toArray) he ⟨⟨_, hit, rfl, rfl⟩, isl.at fun o e => hk a o e⟩ hsz hk hal
  · obtain ⟨its, rv, p', hz⟩ := I1.tuple hq
    have hal : a < s1.heap.objs.size := by obtain ⟨o, ho, _⟩ := id p'; exact Heap.lt_size ho
    have ist : s1.heap.IsTuple a its.toArray := p'
    refine enum1_begins (begins_tuple a its.toArray) ist fun h' he hit hsz hk => ?_
    exact fin its h' s1.heap.objs.size (fun i h => h.IsTupleIter s1.heap.objs.size a i ∧ h.IsTuple a its.toArray) rv (by rw [← rv.length]; exact hz) (Nat.ne_of_lt hal) (Nat.ne_of_lt (Nat.lt_succ_of_lt hal)) rfl (fun A' hh => Draws.tuple hh _ a (Nat.ne_of_lt hal) its.toArray) he ⟨⟨_, hit, rfl, rfl⟩, ist.at fun o e => hk a o e⟩ hsz hk hal
end
/-- numbered data -/
def enD : Nat → List D → KD
  | _, [] => []
  | i, d :: ds => (.inl (i : Int), d) :: enD (i + 1) ds
theorem enD_len : ∀ (i : Nat) (ds : List D), (enD i ds).length = ds.length
  | _, [] => rfl
  | i, d :: ds => congrArg (· + 1) (enD_len (i + 1) ds)
theorem enD_snd : ∀ (i : Nat) (ds : List D), (enD i ds).map (·.2) = ds
  | _, [] => rfl
  | i, d :: ds => congrArg (d :: ·) (enD_snd (i + 1) ds)
theorem enK_snd : ∀ (i : Nat) (xs : List V), (enK i xs).map (·.2) = xs
  | _, [] => rfl
  | i, x :: xs => congrArg (x :: ·) (enK_snd (i + 1) xs)
theorem en_keys : ∀ (i : Nat) {ds : List D} {xs : List V}, ds.length = xs.length → (enK i xs).map (·.1) = (enD i ds).map (·.1)
  | _, [], [], _ => rfl
  | _, [], _ :: _, h => nomatch h
  | _, _ :: _, [], h => nomatch h
  | i, d :: ds, x :: xs, h => congrArg (Sum.inl (i : Int) :: ·) (en_keys (i + 1) (Nat.succ.inj h))
theorem enD_ge : ∀ (i : Nat) (ds : List D) (k : Key), k ∈ (enD i ds).map (·.1) → ∃ j : Nat, k = .inl (j : Int) ∧ i ≤ j
  | _, [], _, h => nomatch h
  | i, d :: ds, k, h => by
    rcases List.mem_cons.mp h with e | h
    · exact ⟨i, e, Nat.le_refl _⟩
    · obtain ⟨j, e, hj⟩ := enD_ge (i + 1) ds k h
      exact ⟨j, e, by omega⟩
theorem enD_nd : ∀ (i : Nat) (ds : List D), ((enD i ds).map (·.1)).Nodup
  | _, [] => List.nodup_nil
  | i, d :: ds => List.nodup_cons.mpr ⟨fun z => by
      obtain ⟨j, e, hj⟩ := enD_ge (i + 1) ds _ z
      have := Int.ofNat.inj (Sum.inl.inj e)
      omega, enD_nd (i + 1) ds⟩
section
variable {X : Cx} {env env1 : Sls} {e : Expr} {ds : List D} {p p2 pos pos2 : Pos}
theorem ev_listEn0 {d : D} (hd : ∀ (K : PySem.W.Frag) (O : OW) (H : Hp) (v : V), Rep K O H d v → ∃ a xs, v = .ref a ∧ (SqL K H a xs ∨ SqT K H a xs) ∧ RepL K O H ds xs) (ha : Ev X e env (.val d) env1) (hm : X.mg "list" = none := by assumption) (hme : X.mg "enumerate" = none := by assumption) (hc : X.calm = true := by rfl) (hg : Gl X "list" := by rfl) (hge : Gl X "enumerate" := by rfl)
    (hs : starEach [.Call (.Name "enumerate" p2) [e] [] pos2] X.env = (false, eval (.Call (.Name "enumerate" p2) [e] [] pos2) X.env) :: starEach [] X.env := by rfl) (hs2 : starEach [e] X.env = [(false, eval e X.env)] := by rfl) :
    Ev X (.Call (.Name "list" p) [.Call (.Name "enumerate" p2) [e] [] pos2] [] pos) env (.val (.lst ((enD 0 ds).map fun q => .tup [kD q.1, q.2]))) env1 :=
  ⟨ha.1, fun O H σ F r w Q q => ⟨_, pe_listEn hc (pa_cons pe_w pa_nil hs2) hg hm hge hme hs hs2, ha.2 O H σ F r w _ fun O1 H1 u Fu F1 ⟨eu, ru⟩ r1 s1 => by
    subst eu
    obtain ⟨a, xs, rfl, hq, rl⟩ := hd _ _ _ _ ru
    refine ⟨a, xs, rfl, hq, fun H' p ts kp hp hts hpt hH hpr => ?_⟩
    have no : ¬ O1 p := fun z => by
      obtain ⟨o, q⟩ := s1.wf.dom p z
      rw [hp] at q
      cases q
    have st : Step O1 H1 F1 O1 H' F1 := ⟨fun a o h _ => kp a o h, fun a h => .inl h, fun a h _ => h, fun a h => .inl h, ⟨s1.wf.nd, s1.wf.own, fun a h => let ⟨o, q⟩ := s1.wf.dom a h; ⟨o, kp a o q⟩, s1.wf.keepN kp⟩⟩
    have z := rep_items (K := X.K) s1.wf.nil kp (ks := (enD 0 ds).map (·.1)) (ds := (enD 0 ds).map (·.2)) hts hpr (en_keys 0 rl.len.symm) (by rw [enD_snd, enK_snd]; exact rl)
    rw [items_kd] at z
    exact q O1 H' (.ref p) [] F1 ⟨rfl, p, ts.map V.ref, rfl, no, hH, z⟩ (RepS.keep (fun a o h _ => kp a o h) (fun a h => .inl h) env1 (fun a o _ h => kp a o h) r1) (s1.trans w st)⟩⟩
theorem ev_listEnL (ha : Ev X e env (.val (.lst ds)) env1) (hm : X.mg "list" = none := by assumption) (hme : X.mg "enumerate" = none := by assumption) (hc : X.calm = true := by rfl) (hg : Gl X "list" := by rfl) (hge : Gl X "enumerate" := by rfl)
    (hs : starEach [.Call (.Name "enumerate" p2) [e] [] pos2] X.env = (false, eval (.Call (.Name "enumerate" p2) [e] [] pos2) X.env) :: starEach [] X.env := by rfl) (hs2 : starEach [e] X.env = [(false, eval e X.env)] := by rfl) :
    Ev X (.Call (.Name "list" p) [.Call (.Name "enumerate" p2) [e] [] pos2] [] pos) env (.val (.lst ((enD 0 ds).map fun q => .tup [kD q.1, q.2]))) env1 :=
  ev_listEn0 (d := .lst ds) (fun K O H v ⟨a, xs, e, no, hp, rl⟩ => ⟨a, xs, e, .inl (.inl (.inl hp)), rl⟩) ha hm hme hc hg hge hs hs2
theorem ev_listEnT (ha : Ev X e env (.val (.tup ds)) env1) (hm : X.mg "list" = none := by assumption) (hme : X.mg "enumerate" = none := by assumption) (hc : X.calm = true := by rfl) (hg : Gl X "list" := by rfl) (hge : Gl X "enumerate" := by rfl)
    (hs : starEach [.Call (.Name "enumerate" p2) [e] [] pos2] X.env = (false, eval (.Call (.Name "enumerate" p2) [e] [] pos2) X.env) :: starEach [] X.env := by rfl) (hs2 : starEach [e] X.env = [(false, eval e X.env)] := by rfl) :
    Ev X (.Call (.Name "list" p) [.Call (.Name "enumerate" p2) [e] [] pos2] [] pos) env (.val (.lst ((enD 0 ds).map fun q => .tup [kD q.1, q.2]))) env1 :=
  ev_listEn0 (d := .tup ds) (fun K O H v ⟨a, xs, e, ta, rl⟩ => ⟨a, xs, e, .inr (TupAt.sq ta), rl⟩) ha hm hme hc hg hge hs hs2
end
end Lin

end

section
namespace Lin
open PySem PySem.Spec PySem.Calls PyProof.Rows L2
/-! the matches of a tree, part by part -/
def shP (n : Nat) : Pt → Pt
  | .side x => .side x
  | .mtch k => .mtch (k + n)
def shQ (n : Nat) (p : Pt × Pt) : Pt × Pt := (shP n p.1, shP n p.2)
theorem shP_add (a b : Nat) (p : Pt) : shP a (shP b p) = shP (b + a) p := by
  cases p with
  | side n => rfl
  | mtch k => show Pt.mtch (k + b + a) = .mtch (k + (b + a)); rw [Nat.add_assoc]
theorem shQ_add (a b : Nat) (p : Pt × Pt) : shQ a (shQ b p) = shQ (b + a) p := by
  show (shP a (shP b p.1), shP a (shP b p.2)) = _
  rw [shP_add, shP_add]; rfl
theorem shP_zero (p : Pt) : shP 0 p = p := by cases p <;> rfl
theorem shQ_zero (p : Pt × Pt) : shQ 0 p = p := by
  show (shP 0 p.1, shP 0 p.2) = p
  rw [shP_zero, shP_zero]
theorem note_sh : ∀ (t : Tr) (f : Prs), note t f = (shP f.length (note t []).1, f ++ (note t []).2.map (shQ f.length))
  | .leaf n, f => by show (Pt.side n, f) = (Pt.side n, f ++ []); rw [List.append_nil]
  | .node l r, f => by
    have e1 := note_sh l f
    have e2 := note_sh r (note l f).2
    have e3 := note_sh r (note l []).2
    simp only [note]
    rw [e2, e1, e3]
    simp only [List.length_append, List.length_map, List.map_append, List.map_cons, List.map_nil, List.map_map]
    refine Prod.ext ?_ ?_
    · show Pt.mtch _ = shP f.length (.mtch _)
      simp only [shP]
      congr 1
      omega
    · show f ++ List.map (shQ f.length) (note l []).2 ++ List.map (shQ (f.length + (note l []).2.length)) (note r []).2 ++ _ = _
      rw [List.append_assoc, List.append_assoc, List.append_assoc]
      congr 2
      have : (shQ f.length ∘ shQ (note l []).2.length) = shQ (f.length + (note l []).2.length) := by
        funext p
        show shQ f.length (shQ _ p) = _
        rw [shQ_add, Nat.add_comm]
      rw [this]
      congr 2
      show (shP f.length (note l []).1, shP (f.length + (note l []).2.length) (note r []).1) = shQ f.length ((note l []).1, shP (note l []).2.length (note r []).1)
      show _ = (shP f.length (note l []).1, shP f.length (shP (note l []).2.length (note r []).1))
      rw [shP_add, Nat.add_comm]
theorem mtch_node (l r : Tr) : (note (.node l r) []).2 = (note l []).2 ++ (note r []).2.map (shQ (note l []).2.length) ++ [((note l []).1, shP (note l []).2.length (note r []).1)] := by
  simp only [note]
  rw [note_sh r (note l []).2]
theorem ptop_node (l r : Tr) : (note (.node l r) []).1 = .mtch ((note (.node l r) []).2.length - 1) := by
  simp only [note]
  rw [List.length_append]
  rfl
/-! lists of pairs of parts, compared -/
theorem pd_pt (p : Pt) : plain p.d = true ∧ PyData.canLay0 (pd p.d) = true ∧ PyData.depth (pd p.d) ≤ 1 := by
  cases p with
  | side n => exact ⟨rfl, by simp [Pt.d, pd, pdL, PyData.canLay0, PyData.canLayAll0]; decide +kernel, by simp [Pt.d, pd, pdL, PyData.depth, PyData.depthAll]⟩
  | mtch n => exact ⟨rfl, by simp [Pt.d, pd, pdL, PyData.canLay0, PyData.canLayAll0]; decide +kernel, by simp [Pt.d, pd, pdL, PyData.depth, PyData.depthAll]⟩
theorem pdL_prs : ∀ f : Prs, plainL (f.map prD) = true ∧ PyData.canLayAll0 (pdL (f.map prD)) = true ∧ PyData.depthAll (pdL (f.map prD)) ≤ 2
  | [] => ⟨rfl, by simp [pdL, PyData.canLayAll0], by simp [pdL, PyData.depthAll]⟩
  | p :: f => by
    obtain ⟨h1, h2, h3⟩ := pdL_prs f
    obtain ⟨a1, a2, a3⟩ := pd_pt p.1
    obtain ⟨b1, b2, b3⟩ := pd_pt p.2
    refine ⟨?_, ?_, ?_⟩
    · show ((plain p.1.d && (plain p.2.d && true)) && plainL (f.map prD)) = true
      rw [a1, b1, h1]; rfl
    · simp only [List.map_cons, prD, pdL, pd, PyData.canLayAll0, PyData.canLay0, a2, b2, Bool.true_and]
      exact h2
    · simp only [List.map_cons, prD, pdL, pd, PyData.depthAll, PyData.depth]
      omega
theorem cmp_prs (f : Prs) : CmpD (.lst (f.map prD)) := by
  obtain ⟨h1, h2, h3⟩ := pdL_prs f
  refine ⟨h1, ?_⟩
  simp only [pd, SeqAt.shaped, PyData.canLay0, PyData.depth, h2, Bool.true_and]
  exact decide_eq_true (by omega)
theorem eqv_prs_nil (f : Prs) : PyData.eqv (pd (.lst (f.map prD))) (pd (.lst [])) = f.isEmpty := by
  cases f with
  | nil => rfl
  | cons e L => simp [pd, pdL, PyData.eqv, PyData.eqvAll]
end Lin

end

section
namespace Lin
open PySem PySem.Spec PySem.Calls PyProof.Rows L2
/-! looks whose answer is new, but for what nobody can change -/
mutual
def immD : D → Bool
  | .none => true | .bool _ => true | .int _ => true | .str _ => true
  | .tup ds => immDL ds
  | .lst _ => false | .dK _ _ => false | .dT _ _ => false | .ins _ _ _ => false | .scr _ => false | .adr _ => false | .kt _ => true | .xt _ => false | .exc _ _ _ => false
def immDL : List D → Bool
  | [] => true
  | d :: ds => immD d && immDL ds
end
mutual
def immM : M → Bool
  | .val d => immD d
  | .lst ms => immML ms
  | .dK _ ms => immML ms
  | .dT _ ms => immML ms
  | .ins _ _ ms => immML ms
  | .tup ms => immML ms
def immML : List M → Bool
  | [] => true
  | m :: ms => immM m && immML ms
end
theorem immDL_all : ∀ ds : List D, immDL ds = true ↔ ∀ d ∈ ds, immD d = true
  | [] => by simp [immDL]
  | d :: ds => by
    rw [immDL, Bool.and_eq_true_iff, immDL_all ds]
    simp
theorem immML_all : ∀ ds : List M, immML ds = true ↔ ∀ d ∈ ds, immM d = true
  | [] => by simp [immML]
  | d :: ds => by
    rw [immML, Bool.and_eq_true_iff, immML_all ds]
    simp
def NTu : HO → Prop
  | .lst _ => True
  | .dK _ => True
  | .dT _ => True
  | .ins _ _ _ => True
  | _ => False
section
variable {K : PySem.W.Frag} {O O2 : OW} {H : Hp}
mutual
theorem RepM.nt : ∀ (m : M) {v : V} {F : List Addr}, RepM K O H m v F → ∀ a ∈ F, ∃ o, H a = some o ∧ NTu o
  | .val d, _, _, ⟨e, _⟩, a, h => by rw [e] at h; cases h
  | .lst ms, _, _, ⟨b, xs, F', e, ef, hb, r⟩, a, h => by
    rw [ef] at h
    rcases List.mem_cons.mp h with q | q
    · rw [q]; exact ⟨_, hb, trivial⟩
    · exact RepML.nt ms r a q
  | .dK ks ms, _, _, ⟨b, xs, F', e, ef, hb, z, r⟩, a, h => by
    rw [ef] at h
    rcases List.mem_cons.mp h with q | q
    · rw [q]; exact ⟨_, hb, trivial⟩
    · exact RepML.nt ms r a q
  | .dT ks ms, _, _, ⟨b, xs, F', e, ef, hb, z, r⟩, a, h => by
    rw [ef] at h
    rcases List.mem_cons.mp h with q | q
    · rw [q]; exact ⟨_, hb, trivial⟩
    · exact RepML.nt ms r a q
  | .ins C ks ms, _, _, ⟨b, dx, xs, F', e, ef, hb, z, r⟩, a, h => by
    rw [ef] at h
    rcases List.mem_cons.mp h with q | q
    · rw [q]; exact ⟨_, hb, trivial⟩
    · exact RepML.nt ms r a q
  | .tup ms, _, _, ⟨b, xs, e, no, hb, r⟩, a, h => RepML.nt ms r a h
theorem RepML.nt : ∀ (ms : List M) {vs : List V} {F : List Addr}, RepML K O H ms vs F → ∀ a ∈ F, ∃ o, H a = some o ∧ NTu o
  | [], _, _, ⟨_, e⟩, a, h => by rw [e] at h; cases h
  | m :: ms, _, _, ⟨v, vs, F1, F2, e, ef, r, rl⟩, a, h => by
    rw [ef] at h
    rcases List.mem_append.mp h with q | q
    · exact RepM.nt m r a q
    · exact RepML.nt ms rl a q
end
theorem RepS.nt : ∀ {es : Sls} {σ : L2.St} {F : List Addr}, RepS K O H es σ F → ∀ a ∈ F, ∃ o, H a = some o ∧ NTu o
  | [], _, _, ⟨_, e⟩, a, h => by rw [e] at h; cases h
  | none :: es, _, _, ⟨_, _, _, r⟩, a, h => RepS.nt r a h
  | some s :: es, _, _, ⟨v, σ', F1, F2, e, ef, p, r⟩, a, h => by
    rw [ef] at h
    rcases List.mem_append.mp h with q | q
    · exact RepM.nt s.m p a q
    · exact RepS.nt r a q
theorem nt_tup {a : Addr} {o : HO} {xs : List V} (h : H a = some o) (n : NTu o) (r : Rd H a (.tup xs)) : False := by
  rcases r with r | ⟨_, r⟩
  · rw [h] at r; cases r; exact n
  · rw [h] at r; cases r; exact n
mutual
theorem Rep.imm (hO : ∀ a xs, ¬ O a → Rd H a (.tup xs) → ¬ O2 a) : ∀ (d : D) {v : V}, immD d = true → Rep K O H d v → Rep K O2 H d v
  | .none, _, _, h => h
  | .bool _, _, _, h => h
  | .int _, _, _, h => h
  | .str _, _, _, h => h
  | .tup ds, _, hd, ⟨a, xs, e, p, q⟩ => ⟨a, xs, e, p.imp (fun p => ⟨hO a xs p.1 p.2, p.2⟩) id, RepL.imm hO ds hd q⟩
  | .lst _, _, hd, _ => nomatch hd
  | .dK _ _, _, hd, _ => nomatch hd
  | .dT _ _, _, hd, _ => nomatch hd
  | .ins _ _ _, _, hd, _ => nomatch hd
  | .scr _, _, hd, _ => nomatch hd
  | .adr _, _, hd, _ => nomatch hd
  | .kt k, _, _, ⟨a, e, p, r⟩ => ⟨a, e, hO a _ p (.inl r), r⟩
  | .xt _, _, hd, _ => nomatch hd
  | .exc _ _ _, _, hd, _ => nomatch hd
theorem RepL.imm (hO : ∀ a xs, ¬ O a → Rd H a (.tup xs) → ¬ O2 a) : ∀ (ds : List D) {vs : List V}, immDL ds = true → RepL K O H ds vs → RepL K O2 H ds vs
  | [], _, _, h => h
  | d :: ds, _, hd, ⟨v, vs, e, p, q⟩ => by
    have hd := Bool.and_eq_true_iff.mp (show (immD d && immDL ds) = true from hd)
    exact ⟨v, vs, e, Rep.imm hO d hd.1 p, RepL.imm hO ds hd.2 q⟩
end
mutual
theorem RepM.imm (hO : ∀ a xs, ¬ O a → Rd H a (.tup xs) → ¬ O2 a) : ∀ (m : M) {v : V} {F : List Addr}, immM m = true → RepM K O H m v F → RepM K O2 H m v F
  | .val d, _, _, hd, ⟨e, h⟩ => ⟨e, Rep.imm hO d hd h⟩
  | .lst ms, _, _, hd, ⟨a, xs, F', e, ef, h, r⟩ => ⟨a, xs, F', e, ef, h, RepML.imm hO ms hd r⟩
  | .dK ks ms, _, _, hd, ⟨a, kvs, F', e, ef, h, z, r⟩ => ⟨a, kvs, F', e, ef, h, z, RepML.imm hO ms hd r⟩
  | .dT ks ms, _, _, hd, ⟨a, kvs, F', e, ef, h, z, r⟩ => ⟨a, kvs, F', e, ef, h, z, RepML.imm hO ms hd r⟩
  | .ins C ks ms, _, _, hd, ⟨a, dx, kvs, F', e, ef, h, z, r⟩ => ⟨a, dx, kvs, F', e, ef, h, z, RepML.imm hO ms hd r⟩
  | .tup ms, _, _, hd, ⟨a, xs, e, p, h, r⟩ => ⟨a, xs, e, hO a xs p (.inl h), h, RepML.imm hO ms hd r⟩
theorem RepML.imm (hO : ∀ a xs, ¬ O a → Rd H a (.tup xs) → ¬ O2 a) : ∀ (ms : List M) {vs : List V} {F : List Addr}, immML ms = true → RepML K O H ms vs F → RepML K O2 H ms vs F
  | [], _, _, _, h => h
  | m :: ms, _, _, hd, ⟨v, vs, F1, F2, e, ef, p, q⟩ => by
    have hd := Bool.and_eq_true_iff.mp (show (immM m && immML ms) = true from hd)
    exact ⟨v, vs, F1, F2, e, ef, RepM.imm hO m hd.1 p, RepML.imm hO ms hd.2 q⟩
end
end
section
variable {X : Cx} {env : Sls} {e : Expr} {m : M}
theorem see_semI {O : OW} {H : Hp} {σ : L2.St} {F : List Addr} (r : RepS X.K O H env σ F) (w : Wf O H F) :
    ∃ O1 : OW, Wf O1 H [] ∧ RepS X.K O1 H (see env) σ [] ∧ ∀ (O' : OW) (H' : Hp) (v : V) (Fv F' : List Addr), immM m = true → RepM X.K O' H' m v Fv → Step O1 H [] O' H' (Fv ++ F') →
      ∃ O2 : OW, RepM X.K O2 H' m v Fv ∧ RepS X.K O2 H' env σ F ∧ Step O H F O2 H' (Fv ++ F) := by
  refine ⟨fun b => O b ∧ b ∉ F, ⟨List.nodup_nil, (fun _ h => nomatch h), fun b h => w.dom b h.1, fun b u h => w.nt b u h.1⟩, RepS.see (fun b h => h.1) (fun a z n => n.2 z) r, fun O' H' v Fv F' hf rm st => ?_⟩
  have fr : ∀ b o, H b = some o → H' b = some o := fun b o h => st.frame b o h (by simp)
  have stv := st.wf.left
  have step : Step O H F (fun b => O b ∨ O' b) H' (Fv ++ F) := by
    refine ⟨fun b o h _ => fr b o h, fun b h => ?_, fun b h _ => .inl h, fun b h => ?_, ?_, fun b h => ?_, fun b h => ?_, fun b u h z => ?_⟩
    · rcases (show O b ∨ O' b from h) with h | h
      · exact .inl h
      · exact (st.nw b h).imp (fun z => z.1) id
    · rcases List.mem_append.mp h with h | h
      · rcases st.fp b (List.mem_append_left _ h) with z | z
        · exact absurd z (by simp)
        · exact .inr z
      · exact .inl h
    · refine List.nodup_append.mpr ⟨stv.nd, w.nd, fun b hb c hc e => ?_⟩
      subst e
      rcases st.fp b (List.mem_append_left _ hb) with z | z
      · exact absurd z (by simp)
      · obtain ⟨o, q⟩ := w.dom b (w.own b hc)
        rw [z] at q; cases q
    · rcases List.mem_append.mp h with h | h
      · exact Or.inr (stv.own b h)
      · exact Or.inl (w.own b h)
    · rcases (show O b ∨ O' b from h) with h | h
      · obtain ⟨o, q⟩ := w.dom b h
        exact ⟨o, fr b o q⟩
      · exact st.wf.dom b h
    · rcases (show O b ∨ O' b from h) with h | h
      · obtain ⟨o, q⟩ := w.dom b h
        rw [fr b o q] at z
        cases z
        exact w.nt b _ h q
      · exact st.wf.nt b u h z
  refine ⟨fun b => O b ∨ O' b, RepM.imm (fun a xs no rd => ?_) m hf rm, RepS.keep (K := X.K) (O := O) (H := H) (fun b o h _ => fr b o h) step.nw env (fun b o _ h => fr b o h) r, step⟩
  rintro (oa | oa)
  · by_cases haF : a ∈ F
    · obtain ⟨o, h1, h2⟩ := r.nt a haF
      exact nt_tup (fr a o h1) h2 rd
    · exact no (st.old a ⟨oa, haF⟩ (by simp))
  · exact no oa
/-- what is owned is seen frozen; the answer holds nothing of it -/
theorem ev_seeM {envr : Sls} (he : envr = see env) {env2 : Sls} (h : Ev X e envr m env2) (hf : immM m = true) : Ev X e env m env := by
  subst he
  refine ⟨Io.refl _, fun O H σ F r w Q q => ?_⟩
  obtain ⟨O1, w1, r1, k⟩ := see_semI (m := m) r w
  refine h.2 O1 H σ [] r1 w1 Q fun O' H' v Fv F' rm rs st => ?_
  obtain ⟨O2, rm2, rs2, st2⟩ := k O' H' v Fv F' hf rm st
  exact q O2 H' v Fv F rm2 rs2 st2
end
theorem immD_ints (e : List Int) : immD (sdD e) = true := (immDL_all _).mpr fun d hd => by
  obtain ⟨i, _, rfl⟩ := List.mem_map.mp hd
  rfl
theorem immM_dk {kvs : KD} (h : ∀ q ∈ kvs, immD q.2 = true) : immM (dkM kvs) = true := (immML_all _).mpr fun m hm => by
  obtain ⟨d, hd, rfl⟩ := List.mem_map.mp hm
  obtain ⟨q, hq, rfl⟩ := List.mem_map.mp hd
  exact h q hq
/-! numbered sides -/
def numR : Nat → List Int → Rs
  | _, [] => []
  | k, w :: ws => (k, w) :: numR (k + 1) ws
theorem enD_num : ∀ (k : Nat) (ws : List Int), enD k (ws.map D.int) = resK (numR k ws)
  | _, [] => rfl
  | k, w :: ws => by
    show (Sum.inl (k : Int), D.int w) :: enD (k + 1) (ws.map D.int) = (Sum.inl (k : Int), D.int w) :: resK (numR (k + 1) ws)
    rw [enD_num (k + 1) ws]
theorem look_num : ∀ (k : Nat) (ws : List Int) (j : Nat), lookR (numR k ws) (k + j) = ws[j]?
  | _, [], _ => rfl
  | k, w :: ws, 0 => by
    unfold lookR numR
    rw [List.find?_cons, Nat.add_zero, decide_eq_true rfl]; rfl
  | k, w :: ws, j + 1 => by
    unfold lookR numR
    rw [List.find?_cons, decide_eq_false (by show ¬ k = k + (j + 1); omega)]
    have := look_num (k + 1) ws j
    unfold lookR at this
    rw [show k + (j + 1) = k + 1 + j by omega, this]
    rfl
theorem look_num0 (ws : List Int) (j : Nat) : lookR (numR 0 ws) j = ws[j]? := by
  have := look_num 0 ws j
  rwa [Nat.zero_add] at this
theorem sideW_num {ws : List Int} : ∀ {p : Pt}, OkPt ws.length p → sideW (lookR (numR 0 ws)) p = some (sideE ws p)
  | .side _, _ => rfl
  | .mtch k, h => by
    have h : k < ws.length := h
    show lookR (numR 0 ws) k = some (ws.getD k 0)
    rw [look_num0, List.getD_eq_getElem?_getD, List.getElem?_eq_getElem h]; rfl
theorem imm_res (rs : Rs) : immM (dkM (resK rs)) = true := immM_dk fun q hq => by
  obtain ⟨p, _, rfl⟩ := List.mem_map.mp hq
  rfl
section
variable {X : Cx} {env env1 : Sls} {e : Expr} {p p2 p3 pos pos2 pos3 : Pos}
/-- dict(list(enumerate(xs))) of a tuple, of a list -/
theorem ev_dictEnT {ws : List Int} (ha : Ev X e env (.val (sdD ws)) env1) (hd : X.mg "dict" = none := by assumption) (hm : X.mg "list" = none := by assumption) (hme : X.mg "enumerate" = none := by assumption) (hc : X.calm = true := by rfl) (hg : Gl X "list" := by rfl) (hge : Gl X "enumerate" := by rfl) (hgd : Gl X "dict" := by rfl)
    (hs : starEach [.Call (.Name "enumerate" p2) [e] [] pos2] X.env = (false, eval (.Call (.Name "enumerate" p2) [e] [] pos2) X.env) :: starEach [] X.env := by rfl) (hs2 : starEach [e] X.env = [(false, eval e X.env)] := by rfl)
    (hs3 : starEach [.Call (.Name "list" p) [.Call (.Name "enumerate" p2) [e] [] pos2] [] pos] X.env = (false, eval (.Call (.Name "list" p) [.Call (.Name "enumerate" p2) [e] [] pos2] [] pos) X.env) :: starEach [] X.env := by rfl) (hpl : (backTo pos3 (starEach [] X.env)).any (·.1) = false := by rfl) :
    Ev X (.Call (.Name "dict" p3) [.Call (.Name "list" p) [.Call (.Name "enumerate" p2) [e] [] pos2] [] pos] [] pos3) env (dkM (resK (numR 0 ws))) env1 := by
  have z := ev_dictP (p := p3) (pos := pos3) (kvs := enD 0 (ws.map D.int)) (ev_listEnT (ds := ws.map D.int) ha hm hme hc hg hge hs hs2) (enD_nd 0 _) hd hc hgd hs3 hpl
  rw [enD_num] at z
  exact z
theorem ev_dictEnL {ws : List Int} (ha : Ev X e env (.val (.lst (ws.map D.int))) env1) (hd : X.mg "dict" = none := by assumption) (hm : X.mg "list" = none := by assumption) (hme : X.mg "enumerate" = none := by assumption) (hc : X.calm = true := by rfl) (hg : Gl X "list" := by rfl) (hge : Gl X "enumerate" := by rfl) (hgd : Gl X "dict" := by rfl)
    (hs : starEach [.Call (.Name "enumerate" p2) [e] [] pos2] X.env = (false, eval (.Call (.Name "enumerate" p2) [e] [] pos2) X.env) :: starEach [] X.env := by rfl) (hs2 : starEach [e] X.env = [(false, eval e X.env)] := by rfl)
    (hs3 : starEach [.Call (.Name "list" p) [.Call (.Name "enumerate" p2) [e] [] pos2] [] pos] X.env = (false, eval (.Call (.Name "list" p) [.Call (.Name "enumerate" p2) [e] [] pos2] [] pos) X.env) :: starEach [] X.env := by rfl) (hpl : (backTo pos3 (starEach [] X.env)).any (·.1) = false := by rfl) :
    Ev X (.Call (.Name "dict" p3) [.Call (.Name "list" p) [.Call (.Name "enumerate" p2) [e] [] pos2] [] pos] [] pos3) env (dkM (resK (numR 0 ws))) env1 := by
  have z := ev_dictP (p := p3) (pos := pos3) (kvs := enD 0 (ws.map D.int)) (ev_listEnL (ds := ws.map D.int) ha hm hme hc hg hge hs hs2) (enD_nd 0 _) hd hc hgd hs3 hpl
  rw [enD_num] at z
  exact z
end
end Lin

end

section
set_option maxHeartbeats 4000000
namespace PySem
open PySem.Spec PySem.Calls PyProof.Rows L2
/-! set() of a list of ints -/
abbrev emptySet (u : Bool) : Obj := { cls := .type "set", dict := none, data := .set #[] 0 (.fresh 0 0 u) }
abbrev setLed (w : World) : Bool := !w.params.followText "set-order"
section
variable {P : Program} {w : World} {A : Around} {E : Value → Shared → Prop} {s : Shared}
theorem call_set_lstI {l : Addr} {vs : Array Value} (ns : List Int) {Q : Value → Shared → Prop} (calm : A.handled = none) (hl : s.heap.IsList l vs) (hi : IntsAre vs.toList ns) (hb : ns.length + 1 < scanBound)
    (q : ∀ (g : Heap) (tk c : Nat), SetR w g s.heap.objs.size (fun j => decide (j ∈ ns)) c → c ≤ ns.length → (∀ b o, s.heap.get? b = some o → g.get? b = some o) → Q (.ref s.heap.objs.size) { s with heap := g, toks := tk }) :
    wpAny (model P w) A (call (.type "set") [.ref l]) Q E s := by
  have hz : vs.size = ns.length := by have z := IntsAre.length hi; rwa [Array.length_toList] at z
  obtain ⟨cc, tl, mro⟩ := F.called_set.mro
  have made := F.called_set.made
  have sub := F.called_set.sub
  refine wpAny_call (codeAny_of_tree ?_)
  show wpAny _ _ (callAny (.type "set") _) _ _ _
  refine wpAny_pure ⟨Code.quiet_builtin _ (by decide +kernel), codeAny_builtin F.entry_type_call ?_⟩
  rw [Around.under_plain (weight_type_call_type "set" [.ref l] []) rfl]
  have nt := F.called_set.notType
  have cr := F.called_set.canCreate
  have tc := F.typeCall_set_1 (.ref l)
  repeat (any_goals (first | assumption | wp_step))
  refine codeAny_mono (code_set_led1 (.ref l) (E := E) (Q₁ := fun r s1 => r = .ref s.heap.objs.size ∧ s1 = { s with heap := s.heap.push (emptySet (setLed w)) }) ⟨rfl, rfl⟩) fun r s1 hr => ?_
  rcases r with e | fl
  · exact hr
  cases fl with
  | ret obj =>
    obtain ⟨rfl, rfl⟩ := hr
    have at0 : (s.heap.push (emptySet (setLed w))).get? s.heap.objs.size = some (emptySet (setLed w)) := Heap.get?_push_size _ rfl
    have ty : Shared.TypeIs { s with heap := s.heap.push (emptySet (setLed w)) } (.ref s.heap.objs.size) "set" := ⟨_, at0, rfl⟩
    have li := F.called_set.init.lookup
    have bi := F.called_set.init.bind (.ref s.heap.objs.size)
    repeat (any_goals (first | assumption | wp_step))
    refine codeAny_mono (codeAny_call_builtin (R := wants (fun r t => r = .none ∧ ∃ g tk c, t = { s with heap := g, toks := tk } ∧ SetR w g s.heap.objs.size (fun j => decide (j ∈ ns)) c ∧ c ≤ ns.length ∧ (∀ b o, s.heap.get? b = some o → g.get? b = some o)) E) F.called_set.init.plain F.entry_set_init (check_set_init_1 ty ?_)) fun r2 s2 h2 => ?_
    · obtain ⟨ol, gl, cl, nl, dl⟩ := hl
      obtain ⟨ocls, odict, odata, oslots⟩ := ol
      simp only at cl dl
      subst cl
      subst dl
      have gl2 : (s.heap.push (emptySet (setLed w))).get? l = some { cls := .type "list", dict := odict, data := .seq vs nl, slots := oslots } := Heap.get?_push_of_some _ gl
      have hsls := F.sub_list_set
      have hslf := F.sub_list_frozenset
      have hne : (Value.type "list" == Value.type "dict") = false := by decide
      have il : (s.heap.push (emptySet (setLed w))).IsList l vs := ⟨_, gl2, rfl, nl, rfl⟩
      unfold Builtin.«set.__init__» noKeywords Builtin.Frozenset.updateFrom
      generalize hPI : pyIter = PI
      wp_walk
      subst hPI
      refine wpAny_pyIter_list il ?_
      refine wpAny_bind (wpAny_runValue ?_)
      have ll : l < s.heap.objs.size := Heap.lt_size gl
      have calm3 : A.in1.in1.in1.handled = none := by simp [calm]
      have sz1 : (s.heap.push (emptySet (setLed w))).objs.size = s.heap.objs.size + 1 := Heap.size_push ..
      have n1 : l ≠ (s.heap.push (emptySet (setLed w))).objs.size := fun z => by have z : (l : Nat) = _ := z; rw [sz1] at z; exact absurd ll (by rw [z]; exact Nat.not_lt.mpr (Nat.le_succ _))
      have nS : s.heap.objs.size ∉ [(s.heap.push (emptySet (setLed w))).objs.size, l] := by
        simp only [List.mem_cons, List.not_mem_nil, or_false, not_or]
        exact ⟨fun z => by rw [sz1] at z; exact Nat.ne_of_lt (Nat.lt_succ_self _) z, fun z => Nat.ne_of_gt ll z⟩
      have vals : ∀ (i : Nat) (v : Value), vs[i]? = some v → ∃ k t, ns[i]? = some k ∧ v = .int k t := fun i v hv => by
        have lt : i < ns.length := hz ▸ (Array.getElem?_eq_some_iff.mp hv).1
        obtain ⟨t, e⟩ := IntsAre.int_at hi i v (by rw [Array.getElem?_toList]; exact hv)
        refine ⟨ns[i], t, List.getElem?_eq_getElem lt, e.trans ?_⟩
        rw [List.getD_eq_getElem?_getD, List.getElem?_eq_getElem lt]
        rfl
      refine set_update_ints ((Walks.list calm3 _ l n1 vs).toS) s.heap.objs.size nS ns hz hb vals (vs.size - 0) 0 _ (by omega) (Nat.zero_le _) ⟨⟨_, Heap.get?_push_size _ rfl, rfl, rfl⟩, (il.push _)⟩ ?_ ?_
      · exact ⟨0, Nat.le_refl 0, setR_new_at (Heap.get?_push_of_some _ at0)⟩
      · intro s' c' mv hc hS
        obtain ⟨g, g2, d', tk', os'⟩ := s'
        have e1 : g2 = s.gens := mv.gens
        have e2 : d' = s.drawn := mv.drawn
        have e3 : os' = s.os := mv.os
        subst e1 e2 e3
        rw [hz] at hc
        show wpAny _ _ _ _ _ _
        refine wpAny_pure ?_
        show wpAny _ _ (ret Value.none) _ _ _
        refine wpAny_pure ⟨rfl, g, tk', c', rfl, hS, hc, fun b o e => ?_⟩
        have lt : b < s.heap.objs.size := Heap.lt_size e
        refine mv.heap b o ?_ (Heap.get?_push_of_some _ (Heap.get?_push_of_some _ e))
        simp only [List.mem_cons, List.not_mem_nil, or_false, not_or]
        exact ⟨fun z => Nat.ne_of_lt lt z, fun z => by rw [sz1] at z; exact Nat.ne_of_lt (Nat.lt_succ_of_lt lt) z⟩
    · rcases r2 with e | fl2
      · exact h2
      cases fl2 with
      | ret r =>
        obtain ⟨rfl, g, tk, c, rfl, hS, hc, hk⟩ := h2
        repeat (any_goals (first | assumption | wp_step))
        exact q _ _ _ hS hc hk
      | _ => exact h2.elim
  | _ => exact hr.elim
end
end PySem
namespace Lin
open PySem PySem.Spec PySem.Calls PyProof.Rows L2
/-! sorted(set(xs)) of a list of ints, False not in truths -/
def tSortSetL (K : PySem.W.Frag) (ta : TE) : TE := fun σ H Q => ta σ H fun x H1 => ∃ (l : Addr) (ns : List Int), x = .ref l ∧ SqL K H1 l (ns.map V.int) ∧ FewI ns ∧
  ∀ (ms : List Int) (p : Addr), ms.Pairwise (· < ·) → (∀ k : Int, k ∈ ms ↔ k ∈ ns) → H1 p = none → Q (.ref p) (upd H1 p (.lst (ms.map V.int)))
theorem pe_sortSetL {X : Cx} {a : Expr} {ta : TE} {p p2 q pos : Pos} (hc : X.calm = true) (hg : Gl X "sorted") (hm : X.mg "sorted" = none) (hg2 : Gl X "set") (hm2 : X.mg "set" = none) (ha : PE X a ta)
    (na : starEach [a] X.env = (false, eval a X.env) :: starEach [] X.env := by rfl) : PE X (.Call (.Name "sorted" p) [.Call (.Name "set" p2) [a] [] q] [] pos) (tSortSetL X.K ta) := by
  refine ⟨fun pins s σ H Q I h => ?_⟩
  refine Call_ (ld_blt I hg hm boot_sorted ?_)
  refine PyProof.Rows.callWith_builtin1 (PyProof.Rows.args_cons ?_ rfl) rfl rfl
  refine Call_ (ld_blt I hg2 hm2 PyProof.Rows.boot_set ?_)
  refine PyProof.Rows.callWith_type1 (PyProof.Rows.args_cons (thn (ha.run pins s σ H _ I h) fun v s1 ⟨x, H1, I1, r1, q1⟩ => PyProof.Rows.args_nil ?_) na) na rfl
  obtain ⟨l, ns, rfl, hq, h1, q1⟩ := q1
  cases r1
  obtain ⟨its, rv, pt, hz⟩ := I1.list hq
  have hi : IntsAre its.toArray.toList ns := ints_of_vals rv
  have hd := I1.ok.hd hc
  refine call_set_lstI ns hd pt.isList hi (by unfold scanBound; have := h1.1; omega) fun h' tk c R1 hcn k => ?_
  have hcl : c < 64 := by
    obtain ⟨o, es, ep, t, ho, hex, hdt, g, nd, hm3, hb, hf, hn, hr, hl2⟩ := R1
    have q := h1.2 _ nd fun k hk => by
      have z := (hm3 k).mpr hk
      rw [decide_eq_true_eq] at z
      exact z
    rw [List.length_map, Array.length_toList] at q
    omega
  refine PyProof.Rows.args_nil ?_
  have I2 : Inv X pins σ H1 { s1 with heap := h', toks := tk } := I1.kept fun b o e => k b o e
  refine sorted_set (s := { s1 with heap := h', toks := tk }) R1 (I2.ok.hd hc) hcl fun s' p out c2 ms k2 g o hp hgp hi2 hs hmm hl => ?_
  have hlen : (ms.map V.int).length ≤ sizeLine := by rw [List.length_map, hl, sizeLine_eq]; omega
  have hn : H1 p = none := I2.hok.fresh hp
  generalize hs2 : ({ s1 with heap := h', toks := tk } : Shared) = s2 at *
  have J : Inv X pins σ (upd H1 p (.lst (ms.map V.int))) { s2 with heap := s'.heap, gens := s'.gens, drawn := s'.drawn, toks := s'.toks } :=
    I2.call (ch := []) (Un.laid k2 hp hn) (I2.hok.laid k2 hp ⟨hlen, out.toList, c2, vals_of_ints hi2, hgp⟩) (by rw [g]; exact I2.bare) (fun _ z => nomatch z)
  have e : s' = { s2 with heap := s'.heap, gens := s'.gens, drawn := s'.drawn, toks := s'.toks } := by
    cases s'
    cases s2
    cases o
    rfl
  rw [e]
  exact ⟨.ref p, _, J, rfl, q1 ms p hs (fun k => (hmm k).trans (by rw [decide_eq_true_eq])) hn⟩
theorem ev_sortSetL {X : Cx} {e : Expr} {env env1 : Sls} {p p2 q pos : Pos} {ns rs : List Int} (ha : Ev X e env (.val (.lst (ns.map D.int))) env1) (h64 : FewI ns) (hr : rs.Pairwise (· < ·)) (hmem : ∀ k, k ∈ rs ↔ k ∈ ns)
    (hc : X.calm = true := by rfl) (hm : X.mg "sorted" = none := by assumption) (hm2 : X.mg "set" = none := by assumption) (hg : Gl X "sorted" := by rfl) (hg2 : Gl X "set" := by rfl) (na : starEach [e] X.env = (false, eval e X.env) :: starEach [] X.env := by rfl) :
    Ev X (.Call (.Name "sorted" p) [.Call (.Name "set" p2) [e] [] q] [] pos) env (.lst ((rs.map D.int).map M.val)) env1 :=
  ⟨ha.1, fun O H σ F r w Q qq => ⟨_, pe_sortSetL hc hg hm hg2 hm2 pe_w na, ha.2 O H σ F r w _ fun O1 H1 v Fv F1 ⟨ev, rv⟩ r1 s1 => by
    subst ev
    have hr2 : RF X.K (fun vs H1 Q => ∃ (l : Addr) (ns : List Int), vs = [.ref l] ∧ SqL X.K H1 l (ns.map V.int) ∧ FewI ns ∧ ∀ (ms : List Int) (p : Addr), ms.Pairwise (· < ·) → (∀ k : Int, k ∈ ms ↔ k ∈ ns) → H1 p = none → Q (.ref p) (upd H1 p (.lst (ms.map V.int)))) [.lst (ns.map D.int)] (.lst ((rs.map D.int).map M.val)) :=
      rf_new fun O H vs ⟨u, us, e, ⟨a, xs, hu, _, hp, rl⟩, hn⟩ => ⟨_, repL_ints rs, fun Q q => ⟨a, ns, by rw [e, hu, show us = [] from hn], .inl (.inl (by rw [← RepL.ints ns rl]; exact hp)), h64, fun ms p hm hk hp' => by
        rw [rise_eq hm hr fun k => (hk k).trans (hmem k).symm]
        exact q p hp'⟩⟩
    obtain ⟨l, ns2, e1, h1, h2, h3⟩ := hr2 O1 H1 s1.wf.nil [v] ⟨v, [], rfl, rv, rfl⟩ Q fun O2 H2 z Fz rz s2 => qq O2 H2 z Fz F1 rz (r1.quiet s2) (s1.trans w (s2.quiet s1.wf))
    exact ⟨l, ns2, List.cons.inj e1 |>.1, h1, h2, h3⟩⟩⟩
theorem notIn_bools (bs : List Bool) : (!inV (vF (.bool false)) ((bs.map D.bool).map vF)) = bs.all id := by rw [inV_bools, Bool.not_not]
/-- False not in [truths] -/
theorem ev_notInFalse {X : Cx} {a b : Expr} {env env1 env2 : Sls} {pos : Pos} {bs : List Bool} (ha : Ev X a env (.val (.bool false)) env1) (hb : Ev X b env1 (.val (.lst (bs.map D.bool))) env2) (hm : behindInMarks .NotIn b = false := by first | exact nomark _ | rfl) : Ev X (.Compare a [.NotIn] [b] pos) env (.val (.bool (bs.all id))) env2 :=
  (ev_notInLF ha hb rfl (flat_bools bs) hm).eq (by rw [notIn_bools])
end Lin

end

section
namespace Lin
open PySem PySem.Spec PySem.Calls PyProof.Rows L2
/-! tuples of ints, any depth up to 60: compared -/
mutual
theorem ti_pd : ∀ d : D, tiOk d = true → plain d = true ∧ PyData.canLay0 (pd d) = true ∧ pd d = pk d
  | .int i, _ => ⟨rfl, by simp [pd, PyData.canLay0], by simp [pd, pk]⟩
  | .tup ds, h => by
    obtain ⟨a, b, c⟩ := ti_pdL ds (by rw [tiOk] at h; exact h)
    exact ⟨a, by simp only [pd, PyData.canLay0]; exact b, by rw [pd, pk, c]⟩
  | .none, h => by rw [tiOk] at h; cases h
  | .bool _, h => by rw [tiOk] at h; cases h
  | .str _, h => by rw [tiOk] at h; cases h
  | .lst _, h => by rw [tiOk] at h; cases h
  | .dK _ _, h => by rw [tiOk] at h; cases h
  | .dT _ _, h => by rw [tiOk] at h; cases h
  | .ins _ _ _, h => by rw [tiOk] at h; cases h
  | .scr _, h => by rw [tiOk] at h; cases h
  | .adr _, h => by rw [tiOk] at h; cases h
  | .kt _, h => by rw [tiOk] at h; cases h
  | .xt _, h => by rw [tiOk] at h; cases h
  | .exc _ _ _, h => by rw [tiOk] at h; cases h
theorem ti_pdL : ∀ ds : List D, tiOkL ds = true → plainL ds = true ∧ PyData.canLayAll0 (pdL ds) = true ∧ pdL ds = pkL ds
  | [], _ => ⟨rfl, by simp [pdL, PyData.canLayAll0], by simp [pdL, pkL]⟩
  | d :: ds, h => by
    rw [tiOkL, Bool.and_eq_true] at h
    obtain ⟨a, b, c⟩ := ti_pd d h.1
    obtain ⟨a2, b2, c2⟩ := ti_pdL ds h.2
    refine ⟨?_, ?_, ?_⟩
    · show (plain d && plainL ds) = true
      rw [a, a2]; rfl
    · simp only [pdL, PyData.canLayAll0]
      rw [b, b2]; rfl
    · rw [pdL, pkL, c, c2]
end
theorem cmp_ti {d : D} (h : tiOk d = true) (hd : dD d ≤ 60) : CmpD d := by
  obtain ⟨a, b, c⟩ := ti_pd d h
  have e : (pd d).depth = dD d := by rw [c]
  exact ⟨a, by show (PyData.canLay0 (pd d) && decide ((pd d).depth ≤ 64)) = true; rw [b, decide_eq_true (by omega)]; rfl⟩
theorem cmp_tiL {ds : List D} (h : ∀ d ∈ ds, tiOk d = true) (hd : ∀ d ∈ ds, dD d ≤ 60) : CmpD (.lst ds) := by
  obtain ⟨a, b, c⟩ := ti_pdL ds ((tiOkL_all ds).mpr h)
  have e : PyData.depthAll (pdL ds) ≤ 60 := by rw [c]; exact (dL_le ds 60).mpr hd
  refine ⟨a, ?_⟩
  simp only [pd, SeqAt.shaped, PyData.canLay0, PyData.depth, b, Bool.true_and]
  exact decide_eq_true (by omega)
theorem eqv_lnil (ds : List D) : PyData.eqv (pd (.lst ds)) (pd (.lst [])) = ds.isEmpty := by
  cases ds with
  | nil => rfl
  | cons e L => simp [pd, pdL, PyData.eqv, PyData.eqvAll]
/-! parts of pools are tuples of ints -/
theorem ti_pts {n : Nat} {d : D} (h : ptsD n d = true) : tiOk d = true ∧ ∃ e : List Int, d = sdD e ∧ e.length = n ∧ ∀ x ∈ e, 0 ≤ x ∧ x ≤ 20 := by
  match d, h with
  | .tup ds, h =>
    have h : (decide (ds.length = n) && ds.all (btw 0 20)) = true := h
    rw [Bool.and_eq_true, decide_eq_true_eq] at h
    obtain ⟨e1, e2⟩ := btw_all h.2
    rw [e1]
    exact ⟨ti_ints _, ds.map iv, rfl, by rw [List.length_map]; exact h.1, e2⟩
theorem ti_sheet {sds : Sds} {d : D} (h : sheetD sds d = true) : ∃ e : List Int, d = sdD e ∧ e.length = sds.length := by
  match d, h with
  | .tup ds, h =>
    have h : (decide (ds.length = sds.length) && (ds.zip sds).all fun p => isI p.1 && decide (iv p.1 ∈ p.2)) = true := h
    rw [Bool.and_eq_true, decide_eq_true_eq] at h
    have hI : ds.all isI = true := List.all_eq_true.mpr fun x hx => by
      obtain ⟨j, hj, e⟩ := List.getElem_of_mem hx
      have hz : j < (ds.zip sds).length := by rw [List.length_zip, h.1, Nat.min_self, ← h.1]; exact hj
      have z := List.all_eq_true.mp h.2 ((ds.zip sds)[j]) (List.getElem_mem hz)
      rw [List.getElem_zip, Bool.and_eq_true] at z
      rw [← e]
      exact z.1
    exact ⟨ds.map iv, congrArg D.tup (ints_of hI), by rw [List.length_map]; exact h.1⟩
theorem shs_of {n : Nat} : ∀ ds : List D, (∀ x ∈ ds, ∃ e : List Int, x = sdD e ∧ e.length = n) → ∃ ss : List (List Int), ds = ss.map sdD ∧ ∀ s ∈ ss, s.length = n
  | [], _ => ⟨[], rfl, fun _ h => nomatch h⟩
  | d :: ds, z => by
    obtain ⟨ss, e, hs⟩ := shs_of ds fun x hx => z x (List.mem_cons_of_mem _ hx)
    obtain ⟨e1, e2, e3⟩ := z d (List.mem_cons_self ..)
    exact ⟨e1 :: ss, by rw [e2, e]; rfl, fun s h => (List.mem_cons.mp h).elim (fun q => q ▸ e3) (hs s)⟩
theorem ti_shs {sds : Sds} {d : D} (h : sheetsD sds d = true) : ∃ ss : List (List Int), d = .tup (ss.map sdD) ∧ 1 ≤ ss.length ∧ ss.length ≤ 5 ∧ ∀ s ∈ ss, s.length = sds.length := by
  match d, h with
  | .tup ds, h =>
    have h : ((decide (1 ≤ (ds.length : Int)) && decide ((ds.length : Int) ≤ 5)) && ds.all (sheetD sds)) = true := h
    rw [Bool.and_eq_true, Bool.and_eq_true, decide_eq_true_eq, decide_eq_true_eq] at h
    have z : ∀ x ∈ ds, ∃ e : List Int, x = sdD e ∧ e.length = sds.length := fun x hx => ti_sheet (List.all_eq_true.mp h.2 x hx)
    have ex := shs_of ds z
    obtain ⟨ss, e, hs⟩ := ex
    rw [e, List.length_map] at h
    exact ⟨ss, by rw [e], by omega, by omega, hs⟩
theorem ti_team {n : Nat} {d : D} (h : teamD n d = true) : tiOk d = true := by
  match d, h with
  | .tup ds, h =>
    have h : (!ds.isEmpty && ds.all (btw 0 (n - 1)) && risB (ds.map iv)) = true := h
    rw [Bool.and_eq_true, Bool.and_eq_true] at h
    obtain ⟨e1, e2⟩ := btw_all h.1.2
    rw [e1]
    exact ti_ints _
theorem ti_quest {n : Nat} {d : D} (h : questD n d = true) : tiOk d = true := by
  unfold questD at h
  split at h
  · rename_i t rs m
    rw [Bool.and_eq_true, Bool.and_eq_true, Bool.and_eq_true] at h
    obtain ⟨⟨⟨h1, _⟩, h3⟩, h4⟩ := h
    refine (tiOk_tup _).mpr fun x hx => ?_
    simp only [List.mem_cons, List.not_mem_nil, or_false] at hx
    rcases hx with rfl | rfl | rfl
    · exact ti_team h1
    · exact (tiOk_tup _).mpr fun y hy => ti_team (List.all_eq_true.mp h3 y hy)
    · cases x <;> first | exact tiOk_int _ | (cases h4; done)
  · cases h
end Lin

end

section
namespace Lin
open PySem PySem.Spec PySem.Calls PyProof.Rows L2
/-! instances: fields of frozen ones, methods called on them, instances made -/
/-- a field's thing -/
def fldD : List Str → List D → Str → Option D
  | f :: fs, d :: ds, g => if g == f then some d else fldD fs ds g
  | _, _, _ => none
theorem fld_rep {K : PySem.W.Frag} {O : OW} {H : Hp} {f : Str} {d : D} : ∀ {kvs : List (Str × V)} {fs : List Str} {ds : List D}, kvs.map (·.1) = fs → RepL K O H ds (kvs.map (·.2)) → fldD fs ds f = some d → ∃ v, kvs.lookup f = some v ∧ Rep K O H d v
  | [], _, _, e, _, h => by
    subst e
    cases h
  | (g, x) :: kvs, fs, [], e, _, h => by
    subst e
    cases h
  | (g, x) :: kvs, fs, d0 :: ds, e, ⟨v, vs, ev, rd, rl⟩, h => by
    subst e
    obtain ⟨e1, e2⟩ := List.cons.inj (show x :: kvs.map (·.2) = v :: vs from ev)
    subst e1 e2
    have h : (if f == g then some d0 else fldD (kvs.map (·.1)) ds f) = some d := h
    rw [List.lookup_cons]
    cases q : f == g with
    | true =>
      rw [q, if_pos rfl] at h
      cases h
      exact ⟨x, rfl, rd⟩
    | false =>
      rw [q, if_neg (by decide)] at h
      exact fld_rep rfl rl h
theorem fld_none {f : Str} : ∀ {kvs : List (Str × V)} {fs : List Str}, kvs.map (·.1) = fs → f ∉ fs → kvs.lookup f = none
  | [], _, _, _ => rfl
  | (g, x) :: kvs, _, e, h => by
    subst e
    rw [List.lookup_cons]
    cases q : f == g with
    | true => exact absurd (by rw [eq_of_beq q]; exact List.mem_cons_self ..) h
    | false => exact fld_none rfl fun z => h (List.mem_cons_of_mem _ z)
/-- a class of the program, its instances' fields -/
structure Cl (K : PySem.W.Frag) (C : Addr) (fs : List Str) : Prop where
  c : Cls K C
  n : ∀ f ∈ fs, NoAttr K C f
theorem fld_mem {f : Str} {d : D} : ∀ {fs : List Str} {ds : List D}, fldD fs ds f = some d → f ∈ fs
  | [], ds, h => by cases ds <;> cases h
  | g :: fs, [], h => by cases h
  | g :: fs, d0 :: ds, h => by
    have h : (if f == g then some d0 else fldD fs ds f) = some d := h
    cases q : f == g with
    | true => rw [eq_of_beq q]; exact List.mem_cons_self ..
    | false => rw [q, if_neg (by decide)] at h; exact List.mem_cons_of_mem _ (fld_mem h)
section
variable {X : Cx} {env env1 env2 : Sls} {a b c e o : Expr} {es : List Expr} {pos p apos : Pos} {d : D} {m m' r : M} {C : Addr} {fs all : List Str} {xs ds : List D} {f : Str} {n j k : Nat}
/-- o.f of a frozen instance -/
theorem ev_fld (cl : Cl X.K C all) (he : Ev X e env (.val (.ins C fs xs)) env1) (hf : fldD fs xs f = some d := by rfl) (hall : f ∈ all := by simp) (hb : attributeBase e f X.env (eval e X.env) = eval e X.env := by rfl) : Ev X (.Attribute e f pos) env (.val d) env1 :=
  ⟨he.1, fun O H σ F rs w Q q => ⟨_, pe_fld pe_w hb, he.2 O H σ F rs w _ fun O1 H1 u Fu F1 ⟨eu, ru⟩ r1 s1 => by
    subst eu
    obtain ⟨a', dx, kvs, ea, no, hp, hk, rl⟩ := ru
    obtain ⟨v, lk, rv⟩ := fld_rep hk rl hf
    exact ⟨a', C, dx, kvs, v, ea, hp, cl.c, cl.n _ hall, lk, q O1 H1 v [] F1 ⟨rfl, rv⟩ r1 s1⟩⟩⟩
/-- a method of a class -/
def MFn (P : Program) (w : World) (K : PySem.W.Frag) (mg : Str → Option Value) (base : Heap) (C : Addr) (x : Str) (n k : Nat) (sp : Sp) : Prop :=
  ∃ (g : Addr) (fd : FuncData) (ps : List Str), ps.length = n ∧ FnOk P w K mg base CX0 k g fd ps sp ∧ Meth K C x g ∧ Binds K fd ps []
/-- o.m(..) of a frozen instance -/
theorem ev_meth {pl : Sem Bool} (cl : Cl X.K C all) (G : MFn X.prog X.w X.K X.mg X.base C f j k (FS0 X.K (.ins C fs xs :: ds) r)) (hr : Room k X.A) (ho : Ev X o env (.val (.ins C fs xs)) env1) (ha : EvAs X (e :: es) env1 (ds.map AK.v) env2) (hm : f ∉ fs := by decide +kernel)
    (hst : starEach (e :: es) X.env = (false, eval e X.env) :: starEach es X.env := by rfl) (hpl : (backTo pos (starEach es X.env)).any (·.1) = false := by rfl)
    (ht : eval (.Call (.Attribute o f apos) (e :: es) [] pos) X.env = (do
      let ov ← eval o X.env
      standAt apos.atName
      let (g, first) ← holding [ov] (getMethod ov f pl)
      callWith pos g first (backTo pos (starEach (e :: es) X.env)) (backToKw pos (keywordEach [] X.env))) := by rfl) :
    Ev X (.Call (.Attribute o f apos) (e :: es) [] pos) env r env2 := by
  obtain ⟨g, fd, ps, _, G, hme, hb⟩ := G
  refine ⟨ho.1.trans ha.1, fun O H σ F rs w Q q => ⟨_, pe_meth pe_w cl.c hme G hr hb .nil pass0 pa_w hst hpl ht, ho.2 O H σ F rs w _ fun O1 H1 u Fu F1 ⟨eu, ru⟩ r1 s1 => ?_⟩⟩
  subst eu
  obtain ⟨a', dx, kvs, ea, no, hp, hk, rl⟩ := id ru
  refine ⟨a', dx, kvs, ea, hp, fld_none hk hm, ha.2 O1 H1 σ F1 r1 s1.wf _ fun O2 H2 vs F2 ra r2 s2 => ?_⟩
  show FS0 X.K (.ins C fs xs :: ds) r (u :: (vs ++ [])) H2 Q _
  rw [List.append_nil]
  exact ⟨O2, s2.wf.nil, ⟨u, vs, rfl, s2.rep s1.wf ru, repL_of ds ra⟩, fun O3 H3 v Fv rv s3 => q O3 H3 v Fv F2 rv (r2.quiet s3) ((s1.trans w s2).trans w (s3.quiet s2.wf))⟩
/-- a class that is made by __init__ -/
def KFn (P : Program) (w : World) (K : PySem.W.Frag) (mg : Str → Option Value) (base : Heap) (C : Addr) (x : Str) (n k : Nat) (sp : Sp) : Prop :=
  ∃ (g : Addr) (fd : FuncData) (ps : List Str), ps.length = n ∧ FnOk P w K mg base CX0 k g fd ps sp ∧ Mk K C g ∧ Binds K fd ps [] ∧ mg x = some (.ref C)
/-- C(..) -/
theorem ev_make (G : KFn X.prog X.w X.K X.mg X.base C f j k (FS1 X.K [] (.ins C [] []) ds (.val .none) m')) (hr : Room (k + 1) X.A) (ha : EvAs X (e :: es) env (ds.map AK.v) env1) (hg : Gl X f := by rfl)
    (hdb : (f == ("__debug__" : Str)) = false := by decide) (he : starEach (e :: es) X.env = (false, eval e X.env) :: starEach es X.env := by rfl) (hpl : (backTo pos (starEach es X.env)).any (·.1) = false := by rfl) :
    Ev X (.Call (.Name f p) (e :: es) [] pos) env m' env1 := by
  obtain ⟨g, fd, ps, _, G, mk, hb, hm⟩ := G
  refine ⟨ha.1, fun O H σ F rs w Q q => ⟨_, pe_make mk G hr hg hm hb .nil pass0 pa_w hdb he hpl, ha.2 O H σ F rs w _ fun O1 H1 vs F1 ra r1 s1 x dx hx hdx ne => ?_⟩⟩
  have w1 := s1.wf
  have old : ∀ b o, H1 b = some o → upd (upd H1 dx (.own x)) x (.ins C dx []) b = some o := fun b o h => by
    rw [upd_ne (fun z => by rw [z, hx] at h; cases h), upd_ne (fun z => by rw [z, hdx] at h; cases h)]; exact h
  have st : Step O1 H1 [] (fun b => O1 b ∨ b = x) (upd (upd H1 dx (.own x)) x (.ins C dx [])) [x] := by
    refine ⟨fun b o h _ => old b o h, fun b h => ?_, fun b h _ => .inl h, fun b h => ?_, List.nodup_cons.mpr ⟨List.not_mem_nil, List.nodup_nil⟩, fun b h => ?_, fun b h => ?_, fun b u h z => ?_⟩
    · rcases (show O1 b ∨ b = x from h) with h | h
      · exact .inl h
      · exact .inr (h ▸ hx)
    · rw [List.mem_singleton.mp h]; exact .inr hx
    · exact .inr (List.mem_singleton.mp h)
    · rcases (show O1 b ∨ b = x from h) with h | h
      · obtain ⟨o, z⟩ := w1.dom b h
        exact ⟨o, old b o z⟩
      · exact ⟨.ins C dx [], by rw [h, upd_same]⟩
    · rcases (show O1 b ∨ b = x from h) with h | h
      · obtain ⟨o, e⟩ := w1.dom b h
        rw [old b o e] at z
        cases z
        exact w1.nt b _ h e
      · rw [h, upd_same] at z
        cases z
        trivial
  show FS1 X.K [] (.ins C [] []) ds (.val .none) m' (.ref x :: (vs ++ [])) _ _ _
  rw [List.append_nil]
  refine ⟨fun b => O1 b ∨ b = x, .ref x, [x], [], vs, st.wf, ⟨x, dx, [], [], rfl, rfl, upd_same, rfl, rfl, rfl⟩, rfl, rfl, RepL.keep (st.kf w1.nil) st.nw ds (repL_of ds ra), fun O2 H2 v Fv F2 ⟨ev, rv⟩ rm s2 => ⟨rv, ?_⟩⟩
  subst ev
  have s3 : Step O1 H1 [] O2 H2 F2 := st.trans w1.nil s2
  exact q O2 H2 (.ref x) F2 F1 rm (r1.quiet s3) (s1.trans w (s3.quiet w1))
end
section
variable {P : Program} {w : World} {K : PySem.W.Frag} {mg : Str → Option Value} {base : Heap} {x qual : Str} {st : Stmt} {f C : Addr} {fd : FuncData} {N ps : List Str} {k : Nat} {pre post ds : List D} {r m m' : M} {env0 : Sls}
/-- a def's promise, at its address -/
theorem fx0 (F : Fun K x qual st f fd) (S : FnScope N ps (defScope st)) (hl : ds.length = ps.length) (h0 : env0 = start0 N ds)
    (body : ∀ (cdv : Value) (A : Around) (outer : List Env) (s : Shared) (H : Hp) (E : XK), Room k (A.deeper (envOfC qual (defScope st) s.heap.objs.size f cdv)) →
      ∃ env', Ex (cxOf CX0 P w K mg base N qual (defScope st) f cdv A outer s H E).nox (defBody st) env0 (.rt r env')) : FnOk P w K mg base CX0 (k + 1) f fd ps (FS0 K ds r) := by
  refine F.ok S (fun vs H Q E h => ?_) (fun cdv A outer s H vs Q E hr h => ?_)
  · obtain ⟨O, _, rl, _⟩ := h
    rw [rl.len, hl]
  · obtain ⟨O, wf, rl, q⟩ := h
    obtain ⟨env', ex⟩ := body cdv A outer s H E hr
    subst h0
    refine ex O H (L2.start N vs) [] ?_ wf _ fun O' H' σ' v Fv F' rm rs s' _ => q O' H' v Fv rm s'.dropR
    have z := repS_start (K := K) (O := O) (H := H) (N.length - ds.length) ds rl
    unfold L2.start start0
    rw [rl.len]
    exact z
/-- a def to which one argument is lent and that ends without return -/
theorem fx1n (F : Fun K x qual st f fd) (S : FnScope N ps (defScope st)) (hl : pre.length + post.length + 1 = ps.length) (h0 : env0 = start1 N pre m post)
    (body : ∀ (cdv : Value) (A : Around) (outer : List Env) (s : Shared) (H : Hp) (E : XK), Room k (A.deeper (envOfC qual (defScope st) s.heap.objs.size f cdv)) →
      ∃ env', Ex (cxOf CX0 P w K mg base N qual (defScope st) f cdv A outer s H E).nox (defBody st) env0 (.nx env') ∧ env'[pre.length]? = some (some (Sl.io m'))) : FnOk P w K mg base CX0 (k + 1) f fd ps (FS1 K pre m post (.val .none) m') := by
  refine F.ok S (fun vs H Q E h => ?_) (fun cdv A outer s H vs Q E hr h => ?_)
  · obtain ⟨O, u0, F0, v1, v2, _, _, e, a1, a2, _⟩ := h
    rw [e, List.length_append, List.length_cons, a1.len, a2.len, ← hl]; omega
  · obtain ⟨O, u0, F0, v1, v2, wf, rm, e, a1, a2, q⟩ := h
    obtain ⟨env', ex, he'⟩ := body cdv A outer s H E hr
    subst h0
    have hst : L2.start N vs = v1.map some ++ some u0 :: (v2.map some ++ List.replicate (N.length - (pre.length + post.length + 1)) none) := by
      unfold L2.start
      rw [e, List.length_append, List.length_cons, a1.len, a2.len, List.map_append, List.map_cons, List.append_assoc, List.cons_append, show pre.length + (post.length + 1) = pre.length + post.length + 1 by omega]
    have rs0 := repS_start1 (K := K) rm (repS_start (K := K) (O := O) (H := H) (N.length - (pre.length + post.length + 1)) post a2) pre a1
    rw [← hst] at rs0
    refine ex O H (L2.start N vs) F0 rs0 wf _ fun O' H' σ' F' rs s' pn => ?_
    have hin : (start1 N pre m post)[pre.length]? = some (some (Sl.io m)) := by
      unfold start1
      rw [List.getElem?_append_right (by rw [List.length_map]; exact Nat.le_refl _), List.length_map, Nat.sub_self]; rfl
    obtain ⟨_, hp⟩ := pn _ m hin
    obtain ⟨u, G1, Gi, G2, e1, ef, rmi, _, _⟩ := RepS.at rs he'
    subst ef
    have hu : (L2.start N vs)[pre.length]? = some (some u0) := by
      rw [hst, List.getElem?_append_right (by rw [List.length_map, a1.len]; exact Nat.le_refl _), List.length_map, a1.len, Nat.sub_self]; rfl
    have e2 : u = u0 := by
      rw [hp, hu] at e1
      exact (Option.some.inj (Option.some.inj e1)).symm
    subst e2
    exact q O' H' .non [] Gi ⟨rfl, rfl⟩ rmi ((s'.permR (List.perm_iff_count.mpr fun a => by simp only [List.count_append, List.count_nil]; omega : (G1 ++ (Gi ++ G2)).Perm (([] ++ Gi) ++ (G1 ++ G2)))).dropR)
/-- a method's text -/
def Dm (K : PySem.W.Frag) (C : Addr) (x qual : Str) (st : Stmt) (ps : List Str) : Prop := ∃ (g : Addr) (fd : FuncData), Fun K x qual st g fd ∧ Binds K fd ps [] ∧ Meth K C x g
/-- a class's text of __init__ -/
def Dk (K : PySem.W.Frag) (mg : Str → Option Value) (C : Addr) (x qual : Str) (st : Stmt) (ps : List Str) : Prop := ∃ (g : Addr) (fd : FuncData), Fun K "__init__" qual st g fd ∧ Binds K fd ps [] ∧ Mk K C g ∧ mg x = some (.ref C)
theorem fm0 (h : Dm K C x qual st ps) (S : FnScope N ps (defScope st)) (hl : ds.length = ps.length) (h0 : env0 = start0 N ds)
    (body : In0 P w K mg base N qual st k fun X => ∃ env', Ex X (defBody st) env0 (.rt r env')) : MFn P w K mg base C x ps.length (k + 1) (FS0 K ds r) := by
  obtain ⟨g, fd, F, b, hm⟩ := h
  exact ⟨g, fd, ps, rfl, fx0 F S hl h0 (body g), hm, b⟩
theorem fk1 (h : Dk K mg C x qual st ps) (S : FnScope N ps (defScope st)) (hl : ds.length + 1 = ps.length) (h0 : env0 = start1 N [] (.ins C [] []) ds)
    (body : In0 P w K mg base N qual st k fun X => ∃ env', Ex X (defBody st) env0 (.nx env') ∧ env'[0]? = some (some (Sl.io m'))) : KFn P w K mg base C x ps.length (k + 1) (FS1 K [] (.ins C [] []) ds (.val .none) m') := by
  obtain ⟨g, fd, F, b, mk, hm⟩ := h
  exact ⟨g, fd, ps, rfl, fx1n (pre := []) F S (by simpa using hl) h0 (body g), mk, b, hm⟩
end
end Lin

end

section
namespace Lin
open PySem PySem.Spec PySem.Calls PyProof.Rows L2
/-! an owned instance: fields stored, read, lists in it filled -/
def fldM : List Str → List M → Str → Option M
  | f :: fs, m :: ms, g => if g == f then some m else fldM fs ms g
  | _, _, _ => none
def setM : List Str → List M → Str → M → List M
  | f :: fs, m :: ms, g, m2 => if g == f then m2 :: ms else m :: setM fs ms g m2
  | _, ms, _, _ => ms
/-- a place anywhere in a slot's thing is written -/
theorem slot_in {K : PySem.W.Frag} {O : OW} {H : Hp} {env : Sls} {σ : L2.St} {F Fx : List Addr} {i : Nat} {s : Sl} (rs : RepS K O H env σ F) (hi : env[i]? = some (some s)) (w : Wf O H (Fx ++ F)) :
    ∃ (v : V) (Fi : List Addr), σ[i]? = some (some v) ∧ RepM K O H s.m v Fi ∧ (Fx ++ Fi).Nodup ∧ (∀ l ∈ Fi, O l) ∧ ∀ l ∈ Fi,
      ∀ (o' : HO) (m' : M) (Fn Fo G : List Addr), (Fx ++ Fi).Perm (Fn ++ (Fo ++ G)) → RepM K O (upd H l o') m' v Fn → (hn : NTp o' := by trivial) →
        ∃ F2, RepS K O (upd H l o') (env.set i (some (s.put m'))) σ F2 ∧ Step O H (Fx ++ F) O (upd H l o') (Fo ++ F2) := by
  obtain ⟨v, G1, Gi, G2, e1, ef, rm, _, kk⟩ := RepS.at rs hi
  subst ef
  have nd := w.nd
  have pm0 : (Fx ++ (G1 ++ (Gi ++ G2))).Perm ((Fx ++ Gi) ++ (G1 ++ G2)) := List.perm_iff_count.mpr fun a => by simp only [List.count_append]; omega
  have nd2 := pm0.nodup_iff.mp nd
  refine ⟨v, Gi, e1, rm, (List.nodup_append.mp nd2).1, fun l hl => w.own l (pm0.mem_iff.mpr (List.mem_append_left _ (List.mem_append_right _ hl))), fun l hl o' m' Fn Fo G pm rm' hn => ?_⟩
  have lin : l ∈ Fx ++ (G1 ++ (Gi ++ G2)) := pm0.mem_iff.mpr (List.mem_append_left _ (List.mem_append_right _ hl))
  have lo : O l := w.own l lin
  have ln : l ∉ G1 ++ G2 := fun z => (List.nodup_append.mp nd2).2.2 l (List.mem_append_right _ hl) l z rfl
  have kf : ∀ a o, H a = some o → ¬ O a → upd H l o' a = some o := fun a o h n => by
    rw [upd_ne (fun e => n (by rw [e]; exact lo))]; exact h
  have rs3 := kk O (upd H l o') kf (fun a h => .inl h) (fun a o ha h => by rw [upd_ne (fun e => ln (by rw [← e]; exact ha))]; exact h) v (s.put m') Fn (by rw [Sl.put_m]; exact rm')
  rw [set_same e1] at rs3
  have s3 : Step O H (Fx ++ (G1 ++ (Gi ++ G2))) O (upd H l o') (Fx ++ (G1 ++ (Gi ++ G2))) := Step.write w lin hn
  refine ⟨G1 ++ (Fn ++ G2), rs3, (s3.permR (F2 := (Fo ++ (G1 ++ (Fn ++ G2))) ++ G) (List.perm_iff_count.mpr fun a => ?_)).dropR⟩
  have := List.perm_iff_count.mp pm a
  simp only [List.count_append] at this ⊢
  omega
/-- a field's thing, and another one in its place -/
theorem fldM_at {K : PySem.W.Frag} {O : OW} {H : Hp} {g : Str} {m0 : M} : ∀ {kvs : List (Str × V)} {fs : List Str} {ms : List M} {F : List Addr}, kvs.map (·.1) = fs → RepML K O H ms (kvs.map (·.2)) F → fldM fs ms g = some m0 →
    ∃ (v : V) (F1 Fb F2 : List Addr), kvs.lookup g = some v ∧ F = F1 ++ (Fb ++ F2) ∧ RepM K O H m0 v Fb ∧
      ∀ (H2 : Hp) (m2 : M) (Fb2 : List Addr), (∀ (ms' : List M) (xs : List V) (F' : List Addr), (∀ a ∈ F', a ∈ F1 ++ F2) → RepML K O H ms' xs F' → RepML K O H2 ms' xs F') → RepM K O H2 m2 v Fb2 → RepML K O H2 (setM fs ms g m2) (kvs.map (·.2)) (F1 ++ (Fb2 ++ F2))
  | [], _, _, _, e, _, h => by
    subst e
    cases h
  | (f, x) :: kvs, _, [], _, e, _, h => by
    subst e
    cases h
  | (f, x) :: kvs, _, m :: ms, F, e, ⟨v, vs, Fa, Fr, ev, ef, rm, rl⟩, h => by
    subst e ef
    obtain ⟨e1, e2⟩ := List.cons.inj (show x :: kvs.map (·.2) = v :: vs from ev)
    subst e1 e2
    have h : (if g == f then some m else fldM (kvs.map (·.1)) ms g) = some m0 := h
    cases q : g == f with
    | true =>
      rw [q, if_pos rfl] at h
      cases h
      refine ⟨x, [], Fa, Fr, by rw [List.lookup_cons, q], rfl, rm, fun H2 m2 Fb2 tr r2 => ?_⟩
      show RepML K O H2 (if g == f then m2 :: ms else _) _ _
      rw [q, if_pos rfl]
      exact ⟨x, _, Fb2, Fr, rfl, rfl, r2, tr ms _ Fr (fun a z => z) rl⟩
    | false =>
      rw [q, if_neg (by decide)] at h
      obtain ⟨w, F1, Fb, F2, lk, eF, rb, put⟩ := fldM_at rfl rl h
      subst eF
      refine ⟨w, Fa ++ F1, Fb, F2, by rw [List.lookup_cons, q]; exact lk, (List.append_assoc ..).symm, rb, fun H2 m2 Fb2 tr r2 => ?_⟩
      have z := put H2 m2 Fb2 (fun ms' xs F' hF => tr ms' xs F' fun a ha => by
        have := hF a ha
        rw [List.append_assoc]
        exact List.mem_append_right _ this) r2
      obtain ⟨y, ys, A, B, e1, e2, ry, en, en2⟩ := tr [m] [x] (Fa ++ []) (fun a ha => by
        rw [List.append_nil] at ha
        rw [List.append_assoc]
        exact List.mem_append_left _ ha) ⟨x, [], Fa, [], rfl, rfl, rm, rfl, rfl⟩
      obtain ⟨e3, _⟩ := List.cons.inj e1
      subst e3 en2
      rw [List.append_nil, List.append_nil] at e2
      subst e2
      show RepML K O H2 (if g == f then _ else m :: setM _ ms g m2) _ _
      rw [q, if_neg (by decide)]
      exact ⟨x, _, Fa, F1 ++ (Fb2 ++ F2), rfl, List.append_assoc .., ry, z⟩
theorem putF_new {f : Str} {v : V} : ∀ {kvs : List (Str × V)}, f ∉ kvs.map (·.1) → putF f v kvs = kvs ++ [(f, v)]
  | [], _ => rfl
  | (g, x) :: kvs, h => by
    show (if g = f then _ else (g, x) :: putF f v kvs) = _
    rw [if_neg (fun e => h (by rw [← e]; exact List.mem_cons_self ..)), putF_new fun z => h (List.mem_cons_of_mem _ z)]
    rfl
section
variable {X : Cx} {env env1 env2 envr : Sls} {a b c e o : Expr} {es : List Expr} {pos p p' p2 apos cpos : Pos} {d : D} {m m' r : M} {C : Addr} {fs all : List Str} {ms gs : List M} {f g n : Str} {s : Sl}
/-- self.f = e, the field new -/
theorem x1_setF (i : Nat) (cl : Cl X.K C all) (he : Ev X e env m' env1) (hi : env1[i]? = some (some s)) (hm : s.m = .ins C fs ms) (hf : f ∉ fs := by decide +kernel) (hall : f ∈ all := by simp) (hz : fs.length < 1000 := by decide) (hN : X.N[i]? = some n := by rfl) (hv : Vis X.env.scope n := by first | exact Or.inl rfl | exact Or.inr (Or.inl rfl) | exact Or.inr (Or.inr rfl))
    (hd : (n == ("__debug__" : Str)) = false := by decide) (hcd : (n == ("__classdict__" : Str)) = false := by decide) (hs : swapsWith e (some (.Attribute (.Name n p) f p')) pos.line X.env = pure false := by rfl) :
    Ex1 X (.Assign [.Attribute (.Name n p) f p'] e pos) env (.nx (env1.set i (some (s.put (.ins C (fs ++ [f]) (ms ++ [m'])))))) := fun O H σ F r w D g =>
  ⟨_, ps_fld (pe_var hN hv hd hcd) pe_w hs, he.2 O H σ F r w _ fun O1 H1 y Fv F1 rv r1 s1 => by
    obtain ⟨v, Fi, e1, rm, nd, own, kk⟩ := slot_in r1 hi s1.wf
    rw [hm] at rm
    obtain ⟨a, dx, kvs, F', ea, ef, ha, hk, rl⟩ := rm
    subst ef
    have oa := own a (List.mem_cons_self ..)
    have nd2 := List.nodup_append.mp nd
    have n1 : a ∉ F' := (List.nodup_cons.mp nd2.2.1).1
    have n2 : a ∉ Fv := fun z => nd2.2.2 a z a (List.mem_cons_self ..) rfl
    have hk2 : f ∉ kvs.map (·.1) := by rw [hk]; exact hf
    have hl : kvs.length < 1000 := by
      have := congrArg List.length hk
      rw [List.length_map] at this
      omega
    obtain ⟨F2, rs2, s2⟩ := kk a (List.mem_cons_self ..) (.ins C dx (putF f y kvs)) (.ins C (fs ++ [f]) (ms ++ [m'])) (a :: (F' ++ Fv)) [] [] (List.perm_iff_count.mpr fun x => by simp only [List.count_append, List.count_cons, List.count_nil]; omega)
      ⟨a, dx, putF f y kvs, F' ++ Fv, ea, rfl, upd_same, by rw [putF_new hk2, List.map_append, hk]; rfl, by rw [putF_new hk2, List.map_append]; exact (rl.updK n1 oa).snoc (rv.updK n2 oa)⟩
    exact ⟨v, e1, a, C, dx, kvs, ea, ha, cl.c, cl.n _ hall, hl, g O1 _ σ F2 rs2 (s1.trans w s2) (Pins.of (he.1.trans (Io.put hi)))⟩⟩
/-- self.f, what stands there frozen -/
theorem ev_fldO (i : Nat) (cl : Cl X.K C all) (hi : env[i]? = some (some s)) (hm : s.m = .ins C fs ms) (hg : fldM fs ms f = some (.val d) := by rfl) (hall : f ∈ all := by simp) (hN : X.N[i]? = some n := by rfl) (hv : Vis X.env.scope n := by first | exact Or.inl rfl | exact Or.inr (Or.inl rfl) | exact Or.inr (Or.inr rfl))
    (hd : (n == ("__debug__" : Str)) = false := by decide) (hcd : (n == ("__classdict__" : Str)) = false := by decide) (hb : attributeBase (.Name n p) f X.env (eval (.Name n p) X.env) = eval (.Name n p) X.env := by rfl) : Ev X (.Attribute (.Name n p) f pos) env (.val d) env :=
  ⟨Io.refl _, fun O H σ F r w Q q => ⟨_, pe_fld (pe_var hN hv hd hcd) hb, by
    obtain ⟨v, G1, Gi, G2, e1, ef, rm, _, _⟩ := RepS.at r hi
    rw [hm] at rm
    obtain ⟨a, dx, kvs, F', ea, efi, ha, hk, rl⟩ := rm
    obtain ⟨u, F1, Fb, F2, lk, eF, rb, _⟩ := fldM_at hk rl hg
    obtain ⟨_, rd⟩ := rb
    exact ⟨v, e1, a, C, dx, kvs, u, ea, ha, cl.c, cl.n _ hall, lk, q O H u [] F ⟨rfl, rd⟩ r (Step.refl w)⟩⟩⟩
/-- self.g.append(e), e told by a look -/
theorem ev_appF (i : Nat) (cl : Cl X.K C all) (h : EvMs X [e] envr [m'] env2) (he : envr = see env) (hf : immM m' = true) (hi : env[i]? = some (some s)) (hm : s.m = .ins C fs ms) (hg : fldM fs ms g = some (.lst gs)) (hz : gs.length < sizeLine) (hall : g ∈ all := by simp) (hN : X.N[i]? = some n := by rfl) (hv : Vis X.env.scope n := by first | exact Or.inl rfl | exact Or.inr (Or.inl rfl) | exact Or.inr (Or.inr rfl))
    (hd : (n == ("__debug__" : Str)) = false := by decide) (hcd : (n == ("__classdict__" : Str)) = false := by decide) (hb : attributeBase (.Name n p) g X.env (eval (.Name n p) X.env) = eval (.Name n p) X.env := by rfl)
    (hbase : attributeBase (.Attribute (.Name n p) g p2) "append" X.env (eval (.Attribute (.Name n p) g p2) X.env) = eval (.Attribute (.Name n p) g p2) X.env := by rfl)
    (hfew : ((backTo cpos (starEach [e] X.env)).all (fun x => !x.1) && (backToKw cpos (keywordEach [] X.env)).all (fun x => x.1.isSome)
      && decide ([e].length + ([] : List Keyword).length + (if ([] : List Keyword).isEmpty then 0 else 1) < 30)) = true := by rfl)
    (hline : (apos.endLine == cpos.line) = true := by rfl) (hs : starEach [e] X.env = (false, eval e X.env) :: starEach [] X.env := by rfl) (hplain : (backTo cpos (starEach [] X.env)).any (·.1) = false := by rfl) :
    Ev X (.Call (.Attribute (.Attribute (.Name n p) g p2) "append" apos) [e] [] cpos) env (.val .none) (env.set i (some (s.put (.ins C fs (setM fs ms g (.lst (gs ++ [m']))))))) :=
  ⟨Io.put hi, fun O H σ F r w Q q => ⟨_, pe_bm PySem.F.plainAttrs_list PySem.F.slot_list_append PySem.F.type_list_append mt_append (pe_fld (pe_var hN hv hd hcd) hb) pa_w hbase hfew hline hs hplain, by
    subst he
    obtain ⟨v, G1, Gi, G2, e1, ef, rm0, _, _⟩ := RepS.at r hi
    rw [hm] at rm0
    obtain ⟨a, dx, kvs, F', ea, efi, ha, hk, rl⟩ := rm0
    obtain ⟨vb, F1, Fb, F2, lk, eF, rb, _⟩ := fldM_at hk rl hg
    obtain ⟨b, xs, Fg, eb, efb, hbl, rg⟩ := rb
    subst eb
    refine ⟨v, e1, a, C, dx, kvs, .ref b, ea, ha, cl.c, cl.n _ hall, lk, .inl ⟨rfl, _, .inl (.inl hbl)⟩, ?_⟩
    obtain ⟨O1, w1, r1, k⟩ := see_semI (m := m') r w
    refine h.2 O1 H σ [] r1 w1 _ fun O' H' vs Fm G rml r2 st => ?_
    obtain ⟨y, ys, Fa, Fc, ev, efm, ra, en, en2⟩ := rml
    subst en ev
    subst en2 efm
    rw [List.append_nil] at st
    obtain ⟨O2, ra2, rs2, st2⟩ := k O' H' y Fa G hf ra st
    have ha2 : H' a = some (.ins C dx kvs) := st.frame a _ ha (by simp)
    have hb2 : H' b = some (.lst xs) := st.frame b _ hbl (by simp)
    obtain ⟨v', Fi, e2, rm, nd, own, kk⟩ := slot_in rs2 hi st2.wf
    have ev2 : v' = v := by rw [e1] at e2; exact (Option.some.inj (Option.some.inj e2)).symm
    subst ev2
    rw [hm] at rm
    obtain ⟨a', dx', kvs', F'', ea', efi', ha', hk', rl'⟩ := rm
    have eaa : a' = a := by rw [ea] at ea'; exact (V.ref.inj ea').symm
    subst eaa
    rw [ha2] at ha'
    cases ha'
    subst efi'
    obtain ⟨vb', F1', Fb', F2', lk', eF', rb', put⟩ := fldM_at hk' rl' hg
    rw [lk] at lk'
    cases lk'
    obtain ⟨b', xs', Fg', eb', efb', hbl', rg'⟩ := rb'
    have ebb : b' = b := (V.ref.inj eb').symm
    subst ebb
    rw [hb2] at hbl'
    cases hbl'
    subst efb' eF'
    have bin : b' ∈ a' :: (F1' ++ (b' :: Fg' ++ F2')) := List.mem_cons_of_mem _ (List.mem_append_right _ (List.mem_append_left _ (List.mem_cons_self ..)))
    have ob := own b' bin
    have pm : (Fa ++ (a' :: (F1' ++ (b' :: Fg' ++ F2')))).Perm (b' :: (Fa ++ (a' :: (F1' ++ (Fg' ++ F2'))))) := List.perm_iff_count.mpr fun x => by simp only [List.count_append, List.count_cons]; omega
    have nb : b' ∉ Fa ++ (a' :: (F1' ++ (Fg' ++ F2'))) := (List.nodup_cons.mp (pm.nodup_iff.mp nd)).1
    have nba : b' ∉ Fa := fun z => nb (List.mem_append_left _ z)
    have nbF : ∀ x, x ∈ F1' ++ F2' → b' ≠ x := fun x hx z => nb (List.mem_append_right _ (List.mem_cons_of_mem _ (by
      rw [z]
      rcases List.mem_append.mp hx with h | h
      · exact List.mem_append_left _ h
      · exact List.mem_append_right _ (List.mem_append_right _ h))))
    have nbg : b' ∉ Fg' := fun z => nb (List.mem_append_right _ (List.mem_cons_of_mem _ (List.mem_append_right _ (List.mem_append_left _ z))))
    have nab : a' ≠ b' := fun z => nb (List.mem_append_right _ (by rw [z]; exact List.mem_cons_self ..))
    obtain ⟨F2n, rsn, sn⟩ := kk b' bin (.lst (xs ++ [y])) (.ins C fs (setM fs ms g (.lst (gs ++ [m'])))) (a' :: (F1' ++ ((b' :: (Fg' ++ Fa)) ++ F2'))) [] [] (List.perm_iff_count.mpr fun x => by simp only [List.count_append, List.count_cons, List.count_nil]; omega)
      ⟨a', dx, kvs, _, ea, rfl, by rw [upd_ne nab]; exact ha2, hk', put _ _ (b' :: (Fg' ++ Fa)) (fun ms' xs F' hF r => r.updK (fun z => nbF b' (hF b' z) rfl) ob) ⟨b', xs ++ [y], Fg' ++ Fa, rfl, rfl, upd_same, (rg'.updK nbg ob).snoc (ra2.updK nba ob)⟩⟩
    exact ⟨b', xs, y, rfl, rfl, hb2, by rw [rg'.len]; exact hz, q O2 _ .non [] F2n ⟨rfl, rfl⟩ rsn (st2.trans w sn)⟩⟩⟩
end
end Lin

end

section
namespace Lin
open PySem PySem.Spec PySem.Calls PyProof.Rows L2
/-! extend by a list -/
section
variable {X : Cx} {env env1 env2 env3 : Sls} {a b c e f : Expr} {es : List Expr} {pos p p' pos' apos cpos : Pos} {d x y : D} {m : M} {ms : List M} {ds : List D} {n : Str} {s : Sl} {K : PySem.W.Frag} {O : OW} {H : Hp} {i j : Int} {k : Bool}
theorem ev_growL (i : Nat) (ha : Ev X e env (.val (.lst ds)) env1) (hi : env1[i]? = some (some s)) (hm : s.m = .lst ms) (hz : ms.length + ds.length ≤ sizeLine) (hse : ∃ t ms0, env[i]? = some (some t) ∧ t.m = .lst ms0 := by exact ⟨_, _, rfl, rfl⟩) (hN : X.N[i]? = some n := by rfl) (hv : Vis X.env.scope n := by first | exact Or.inl rfl | exact Or.inr (Or.inl rfl) | exact Or.inr (Or.inr rfl))
    (hd : (n == ("__debug__" : Str)) = false := by decide) (hcd : (n == ("__classdict__" : Str)) = false := by decide)
    (hbase : attributeBase (.Name n p) "extend" X.env (eval (.Name n p) X.env) = eval (.Name n p) X.env := by rfl)
    (hfew : ((backTo cpos (starEach [e] X.env)).all (fun x => !x.1) && (backToKw cpos (keywordEach [] X.env)).all (fun x => x.1.isSome)
      && decide ([e].length + ([] : List Keyword).length + (if ([] : List Keyword).isEmpty then 0 else 1) < 30)) = true := by rfl)
    (hline : (apos.endLine == cpos.line) = true := by rfl) (hs : starEach [e] X.env = (false, eval e X.env) :: starEach [] X.env := by rfl) (hplain : (backTo cpos (starEach [] X.env)).any (·.1) = false := by rfl) :
    Ev X (.Call (.Attribute (.Name n p) "extend" apos) [e] [] cpos) env (.val .none) (env1.set i (some (s.put (.lst (ms ++ ds.map M.val))))) :=
  ⟨ha.1.trans (Io.put hi), fun O H σ F r w Q q => ⟨_, pe_bm PySem.F.plainAttrs_list PySem.F.slot_list_extend PySem.F.type_list_extend mt_extend (pe_var hN hv hd hcd) (pa_cons pe_w pa_nil hs) hbase hfew hline hs hplain, by
    obtain ⟨t, ms0, ht, hm0⟩ := hse
    obtain ⟨v, F1, Fi, F2, e1, ef, rm0, _, _⟩ := RepS.at r ht
    rw [hm0] at rm0
    obtain ⟨l0, xs0, F0, el0, _, hp0, _⟩ := rm0
    refine ⟨v, e1, by rw [el0]; exact .inl ⟨rfl, _, .inl (.inl hp0)⟩, ha.2 O H σ F r w _ fun O1 H1 u Fu G ⟨eu, ru⟩ r1 s1 => ?_⟩
    subst eu
    obtain ⟨a', zs, ea, no, ta, rl2⟩ := ru
    have w1 : Wf O1 H1 ([] ++ G) := s1.wf
    obtain ⟨v', Fi', e2, rm, kk⟩ := slot_upd r1 hi w1
    have ev : v' = v := by rw [e1] at e2; exact (Option.some.inj (Option.some.inj e2)).symm
    subst ev
    rw [hm] at rm
    obtain ⟨l, xs, F', el, ef', hp, rl⟩ := rm
    obtain ⟨ol, nl, k2⟩ := kk l F' ef'
    have nl1 : l ∉ F' := fun z => nl (List.mem_append_right _ z)
    have kf : ∀ a o, H1 a = some o → ¬ O1 a → upd H1 l (.lst (xs ++ zs)) a = some o := fun a o h n => by rw [upd_ne (fun e => n (by rw [e]; exact ol))]; exact h
    obtain ⟨F2', rs2, s2, _⟩ := k2 (.lst (xs ++ zs)) (.lst (ms ++ ds.map M.val)) F' [] [] (by simp) ⟨l, xs ++ zs, F', el, rfl, upd_same, by
      have z := (rl.updK (o := .lst (xs ++ zs)) nl1 ol).app (repML_val ds (RepL.keep kf (fun a h => .inl h) ds rl2))
      rw [List.append_nil] at z
      exact z⟩
    exact ⟨l, a', xs, zs, el, by rw [ea], hp, ta, by rw [rl.len, rl2.len]; exact hz, q O1 _ .non [] F2' ⟨rfl, rfl⟩ rs2 (s1.trans w s2)⟩⟩⟩
end
end Lin

end

section
namespace L2
open PySem PySem.Spec PyProof.Rows
/-! t * n of a tuple, n any small number -/
theorem tupMul_same (l : Addr) (xs : Array Value) (n : Nat) (dd : Option Addr) (sl : Array (Option Value)) (k : Int) (u : Tok) (c0 : (decide (k < -(2 ^ 63)) || decide (k ≥ 2 ^ 63)) = false) (c1 : (xs.isEmpty || k == 1) = true) :
    Meets (Builtin.«tuple.__mul__» ⟨[.ref l, .int k u], []⟩) (fun _ R s => s.heap.get? l = some { cls := .type "tuple", dict := dd, data := .seq xs n, slots := sl } ∧ R (.ok (.ret (Value.ref l))) s) :=
  .of_wp fun prog w A R s h => by
    obtain ⟨hp, g, d, tk, os⟩ := s
    obtain ⟨hl, h⟩ := h
    have f1 := AutoSeq1.idx_int
    wp_walk using wpAny_loadPart' hl
    refine wpAny_ite_false (decide_eq_false (by rw [c0]; exact Bool.false_ne_true)) ?_
    wp_walk using wpAny_loadPart' hl
    exact ⟨_, rfl, h⟩
theorem tupMul_none (l : Addr) (xs : Array Value) (n : Nat) (dd : Option Addr) (sl : Array (Option Value)) (k : Int) (u : Tok) (c0 : (decide (k < -(2 ^ 63)) || decide (k ≥ 2 ^ 63)) = false) (c1 : (xs.isEmpty || k == 1) = false) (c2 : (decide (k ≤ 0) || xs.isEmpty) = true) :
    Meets (Builtin.«tuple.__mul__» ⟨[.ref l, .int k u], []⟩) (fun _ R s => s.heap.get? l = some { cls := .type "tuple", dict := dd, data := .seq xs n, slots := sl } ∧
      R (.ok (.ret (Value.ref s.heap.objs.size))) { s with heap := s.heap.push { cls := Value.type "tuple", data := Data.seq #[] }, toks := s.toks }) :=
  .of_wp fun prog w A R s h => by
    obtain ⟨hp, g, d, tk, os⟩ := s
    obtain ⟨hl, h⟩ := h
    have f1 := AutoSeq1.idx_int
    wp_walk using wpAny_loadPart' hl
    refine wpAny_ite_false (decide_eq_false (by rw [c0]; exact Bool.false_ne_true)) ?_
    wp_walk using wpAny_loadPart' hl
    exact ⟨_, rfl, h⟩
def rRepA (K : PySem.W.Frag) : R2 := fun x y H Q => ∃ l k xs, x = .ref l ∧ y = .int k ∧ SqT K H l xs ∧ xs ≠ [] ∧ 0 ≤ k ∧ k ≤ 1000 ∧ xs.length ≤ 1000 ∧ (k = 1 → Q (.ref l) H) ∧ (k ≠ 1 → ∀ p, H p = none → Q (.ref p) (upd H p (.tup (List.replicate k.toNat xs).flatten)))
theorem op_repA {X : Cx} : OpR X (binaryOp .Mult) (rRepA X.K) := by
  intro pins s σ H x y v u Q I rx ry h
  obtain ⟨l, k, xs, rfl, rfl, hT, hne, h1, h2, hz, q1, q2⟩ := h
  by_cases hk : 2 ≤ k
  · exact op_repT pins s σ H _ _ v u Q I rx ry ⟨l, k, xs, rfl, rfl, hT, hne, hk, h2, hz, q2 (by omega)⟩
  cases rx
  obtain ⟨t, rfl⟩ := ry
  obtain ⟨its, r, ⟨⟨cls, dd, data, sl⟩, ho, hc, n, hd⟩, hs⟩ := I.tuple hT
  simp only at hc hd
  subst hc hd
  have hle : its.length = xs.length := r.length.symm
  have hi : its.toArray.isEmpty = false := by
    cases its with
    | nil => exact absurd (List.eq_nil_of_length_eq_zero hle.symm) hne
    | cons a b => rfl
  have c0 : (decide (k < -(2 ^ 63)) || decide (k ≥ 2 ^ 63)) = false := by
    rw [decide_eq_false (by omega), decide_eq_false (by omega)] <;> rfl
  rcases (show k = 1 ∨ k = 0 by omega) with rfl | rfl
  · refine wpAny_binaryOp_repeat_ref (T := "tuple") (U := "int") (by decide) ⟨_, ho, rfl⟩ (fun s' => typeIs_int s' 1 t) noFill_tuple_mul F.fills_int_mul F.slot_int_rmul repeat_tuple F.slot_int_index.lookup
      (call_meets F.slot_int_rmul (typeIs_int s 1 t) F.entry_int_rmul (F.args_int_rmul_2 _ _) (int_rmul_tuple 1 t l its.toArray n dd sl)
        ⟨ho, rfl, ⟨_, ho, rfl⟩, call_meets F.slot_tuple_mul ⟨_, ho, rfl⟩ F.entry_tuple_mul (F.args_tuple_mul_2 _ _) (tupMul_same l its.toArray n dd sl 1 t c0 (by simp)) ⟨ho, ?_⟩⟩)
    exact ⟨.ref l, H, I, rfl, q1 rfl⟩
  · refine wpAny_binaryOp_repeat_ref (T := "tuple") (U := "int") (by decide) ⟨_, ho, rfl⟩ (fun s' => typeIs_int s' 0 t) noFill_tuple_mul F.fills_int_mul F.slot_int_rmul repeat_tuple F.slot_int_index.lookup
      (call_meets F.slot_int_rmul (typeIs_int s 0 t) F.entry_int_rmul (F.args_int_rmul_2 _ _) (int_rmul_tuple 0 t l its.toArray n dd sl)
        ⟨ho, rfl, ⟨_, ho, rfl⟩, call_meets F.slot_tuple_mul ⟨_, ho, rfl⟩ F.entry_tuple_mul (F.args_tuple_mul_2 _ _) (tupMul_none l its.toArray n dd sl 0 t c0 (by rw [hi]; rfl) (by rw [hi]; rfl)) ⟨ho, ?_⟩⟩)
    refine ⟨.ref s.heap.objs.size, _, I.laid (t' := s.toks) (o := .tup (List.replicate (0 : Int).toNat xs).flatten) (fun b ob q => Heap.get?_push_of_some _ q) (Nat.le_refl _) ?_, rfl, q2 (by decide) _ (I.hok.fresh (Nat.le_refl _))⟩
    exact ⟨Nat.zero_le _, [], .nil, IsTup.new _ _⟩
end L2
namespace Lin
open PySem PySem.Spec PySem.Calls PyProof.Rows L2
section
variable {X : Cx} {env env1 env2 envr : Sls} {a b c e o : Expr} {es : List Expr} {pos p p' p2 apos cpos : Pos} {d x : D} {m m' r : M} {C : Addr} {fs all : List Str} {ms gs : List M} {ds : List D} {f g n : Str} {s : Sl}
/-- t * n, n from 0 on -/
theorem ev_repA {z : Int} (ha : Ev X a env (.val (.tup ds)) env1) (hb : Ev X b env1 (.val (.int z)) env2) (h0 : 0 ≤ z) (h1 : z ≤ 1000) (hne : ds ≠ []) (hz : ds.length ≤ 1000) : Ev X (.BinOp a .Mult b pos) env (.val (.tup (List.replicate z.toNat ds).flatten)) env2 := by
  by_cases h2 : 2 ≤ z
  · exact ev_repT ha hb h2 h1 hne hz
  refine ev_bin op_repA ha hb (fun O H w u v ru rv Q q => ?_)
  obtain ⟨a', xs, eu, ta, ra⟩ := id ru
  refine ⟨a', z, xs, eu, rv, TupAt.sq ta, (fun e => by
    subst e
    exact hne (List.length_eq_zero_iff.mp (by rw [← ra.len]; rfl))), h0, h1, by rw [ra.len]; exact hz, fun e1 => ?_, fun e1 p hp => ?_⟩
  · subst e1
    refine q O H (.ref a') [] ⟨rfl, a', xs, rfl, ta, ?_⟩ (Step.refl w)
    show RepL X.K O H (List.replicate 1 ds).flatten xs
    rw [List.replicate_one, List.flatten_cons, List.flatten_nil, List.append_nil]
    exact ra
  · have e0 : z = 0 := by omega
    subst e0
    have s0 : Step O H [] O (upd H p (.tup [])) [] := Step.newF w hp
    refine q O _ (.ref p) [] ⟨rfl, p, [], rfl, .inl ⟨fun z => ?_, .inl upd_same⟩, rfl⟩ s0
    obtain ⟨o, e⟩ := w.dom p z
    rw [hp] at e; cases e
/-- a frozen list as a test -/
theorem tv_lstD (he : Ev X e env (.val (.lst ds)) env1) (ht : ∀ whole, isTrue e X.env whole = (do let v ← whole; standAt e.pos; holding [v] (truthy v)) := by intro _; rfl) : Tv X e env (!ds.isEmpty) env1 :=
  ⟨he.1, fun O H σ F r w Q q => ⟨_, pt_truth pe_w ht, he.2 O H σ F r w _ fun O1 H1 u Fu F1 ⟨eu, ru⟩ r1 s1 => by
    subst eu
    obtain ⟨l, xs, el, no, hp, rl⟩ := ru
    subst el
    have e : (!ds.isEmpty) = !xs.isEmpty := by
      have hl := rl.len
      cases ds <;> cases xs <;> simp_all
    exact ⟨_, .inl ⟨xs, .inl (.inl hp), e⟩, q O1 H1 F1 r1 s1⟩⟩⟩
theorem tv_inLF (ha : Ev X a env (.val x) env1) (hb : Ev X b env1 (.val (.lst ds)) env2) (hx : flatD x = true) (hd : ds.all flatD = true) (hm : behindInMarks .In b = false := by first | exact nomark _ | rfl) : Tv X (.Compare a [.In] [b] pos) env (inV (vF x) (ds.map vF)) env2 := tv_cmp op_in_seq ha hb (ro_inL hx hd) hm
end
end Lin

end

section
namespace Lin
open PySem PySem.Spec PySem.Calls PyProof.Rows L2
/-! self.g.append(e), e told without self -/
theorem app_core {K : PySem.W.Frag} {O : OW} {H : Hp} {env : Sls} {σ : L2.St} {F Fa : List Addr} {i : Nat} {s : Sl} {C dx : Addr} {fs : List Str} {ms gs : List M} {g : Str} {m' : M} {y : V} {a b : Addr} {kvs : List (Str × V)} {xs : List V}
    (rs : RepS K O H env σ F) (hi : env[i]? = some (some s)) (w : Wf O H (Fa ++ F)) (hm : s.m = .ins C fs ms) (hg : fldM fs ms g = some (.lst gs)) (e1 : σ[i]? = some (some (.ref a))) (ha2 : H a = some (.ins C dx kvs)) (lk : kvs.lookup g = some (.ref b)) (hb2 : H b = some (.lst xs)) (ra2 : RepM K O H m' y Fa) :
    xs.length = gs.length ∧ ∃ F2, RepS K O (upd H b (.lst (xs ++ [y]))) (env.set i (some (s.put (.ins C fs (setM fs ms g (.lst (gs ++ [m']))))))) σ F2 ∧ Step O H (Fa ++ F) O (upd H b (.lst (xs ++ [y]))) F2 := by
  obtain ⟨v', Fi, e2, rm, nd, own, kk⟩ := slot_in rs hi w
  have ev2 : v' = .ref a := by rw [e1] at e2; exact (Option.some.inj (Option.some.inj e2)).symm
  subst ev2
  rw [hm] at rm
  obtain ⟨a', dx', kvs', F'', ea', efi', ha', hk', rl'⟩ := rm
  have eaa : a' = a := (V.ref.inj ea').symm
  subst eaa
  rw [ha2] at ha'
  cases ha'
  subst efi'
  obtain ⟨vb', F1', Fb', F2', lk', eF', rb', put⟩ := fldM_at hk' rl' hg
  rw [lk] at lk'
  cases lk'
  obtain ⟨b', xs', Fg', eb', efb', hbl', rg'⟩ := rb'
  have ebb : b' = b := (V.ref.inj eb').symm
  subst ebb
  rw [hb2] at hbl'
  cases hbl'
  subst efb' eF'
  have bin : b' ∈ a' :: (F1' ++ (b' :: Fg' ++ F2')) := List.mem_cons_of_mem _ (List.mem_append_right _ (List.mem_append_left _ (List.mem_cons_self ..)))
  have ob := own b' bin
  have pm : (Fa ++ (a' :: (F1' ++ (b' :: Fg' ++ F2')))).Perm (b' :: (Fa ++ (a' :: (F1' ++ (Fg' ++ F2'))))) := List.perm_iff_count.mpr fun x => by simp only [List.count_append, List.count_cons]; omega
  have nb : b' ∉ Fa ++ (a' :: (F1' ++ (Fg' ++ F2'))) := (List.nodup_cons.mp (pm.nodup_iff.mp nd)).1
  have nba : b' ∉ Fa := fun z => nb (List.mem_append_left _ z)
  have nbF : ∀ x, x ∈ F1' ++ F2' → b' ≠ x := fun x hx z => nb (List.mem_append_right _ (List.mem_cons_of_mem _ (by
    rw [z]
    rcases List.mem_append.mp hx with h | h
    · exact List.mem_append_left _ h
    · exact List.mem_append_right _ (List.mem_append_right _ h))))
  have nbg : b' ∉ Fg' := fun z => nb (List.mem_append_right _ (List.mem_cons_of_mem _ (List.mem_append_right _ (List.mem_append_left _ z))))
  have nab : a' ≠ b' := fun z => nb (List.mem_append_right _ (by rw [z]; exact List.mem_cons_self ..))
  obtain ⟨F2n, rsn, sn⟩ := kk b' bin (.lst (xs ++ [y])) (.ins C fs (setM fs ms g (.lst (gs ++ [m'])))) (a' :: (F1' ++ ((b' :: (Fg' ++ Fa)) ++ F2'))) [] [] (List.perm_iff_count.mpr fun x => by simp only [List.count_append, List.count_cons, List.count_nil]; omega)
    ⟨a', dx, kvs, _, rfl, rfl, by rw [upd_ne nab]; exact ha2, hk', put _ _ (b' :: (Fg' ++ Fa)) (fun ms' xs F' hF r => r.updK (fun z => nbF b' (hF b' z) rfl) ob) ⟨b', xs ++ [y], Fg' ++ Fa, rfl, rfl, upd_same, (rg'.updK nbg ob).snoc (ra2.updK nba ob)⟩⟩
  exact ⟨rg'.len, F2n, rsn, sn⟩
section
variable {X : Cx} {env env1 env2 envr : Sls} {a b c e o : Expr} {es : List Expr} {pos p p' p2 apos cpos : Pos} {d : D} {m m' r : M} {C : Addr} {fs all : List Str} {ms gs : List M} {f g n : Str} {s : Sl}
theorem ev_appE (i : Nat) (cl : Cl X.K C all) (h : EvMs X [e] (env.set i none) [m'] env2) (hi : env[i]? = some (some s)) (hm : s.m = .ins C fs ms) (hg : fldM fs ms g = some (.lst gs)) (hz : gs.length < sizeLine) (hlen : i < env2.length := by simp) (hall : g ∈ all := by simp) (hN : X.N[i]? = some n := by rfl) (hv : Vis X.env.scope n := by first | exact Or.inl rfl | exact Or.inr (Or.inl rfl) | exact Or.inr (Or.inr rfl))
    (hd : (n == ("__debug__" : Str)) = false := by decide) (hcd : (n == ("__classdict__" : Str)) = false := by decide) (hb : attributeBase (.Name n p) g X.env (eval (.Name n p) X.env) = eval (.Name n p) X.env := by rfl)
    (hbase : attributeBase (.Attribute (.Name n p) g p2) "append" X.env (eval (.Attribute (.Name n p) g p2) X.env) = eval (.Attribute (.Name n p) g p2) X.env := by rfl)
    (hfew : ((backTo cpos (starEach [e] X.env)).all (fun x => !x.1) && (backToKw cpos (keywordEach [] X.env)).all (fun x => x.1.isSome)
      && decide ([e].length + ([] : List Keyword).length + (if ([] : List Keyword).isEmpty then 0 else 1) < 30)) = true := by rfl)
    (hline : (apos.endLine == cpos.line) = true := by rfl) (hs : starEach [e] X.env = (false, eval e X.env) :: starEach [] X.env := by rfl) (hplain : (backTo cpos (starEach [] X.env)).any (·.1) = false := by rfl) :
    Ev X (.Call (.Attribute (.Attribute (.Name n p) g p2) "append" apos) [e] [] cpos) env (.val .none) (env2.set i (some (s.put (.ins C fs (setM fs ms g (.lst (gs ++ [m']))))))) := by
  refine ⟨fun j mj z => ?_, fun O H σ F r w Q q => ⟨_, pe_bm PySem.F.plainAttrs_list PySem.F.slot_list_append PySem.F.type_list_append mt_append (pe_fld (pe_var hN hv hd hcd) hb) pa_w hbase hfew hline hs hplain, ?_⟩⟩
  · by_cases q : i = j
    · subst q
      rw [hi] at z
      cases z
      exact ⟨.ins C fs (setM fs ms g (.lst (gs ++ [m']))), by rw [List.getElem?_set_self hlen]; rfl⟩
    · obtain ⟨m2, z2⟩ := h.1 j mj (by rw [List.getElem?_set_ne q]; exact z)
      exact ⟨m2, by rw [List.getElem?_set_ne q]; exact z2⟩
  · obtain ⟨v, G1, Gi, G2, e1, ef, rm0, r0, _⟩ := RepS.at r hi
    subst ef
    have rm1 := rm0
    rw [hm] at rm0
    obtain ⟨a, dx, kvs, F', ea, efi, ha, hk, rl⟩ := rm0
    obtain ⟨vb, F1, Fb, F2, lk, eF, rb, _⟩ := fldM_at hk rl hg
    obtain ⟨b, xs, Fg, eb, efb, hbl, rg⟩ := rb
    subst eb ea
    refine ⟨.ref a, e1, a, C, dx, kvs, .ref b, rfl, ha, cl.c, cl.n _ hall, lk, .inl ⟨rfl, _, .inl (.inl hbl)⟩, ?_⟩
    have pm0 : (G1 ++ (Gi ++ G2)).Perm ((G1 ++ G2) ++ Gi) := List.perm_iff_count.mpr fun x => by simp only [List.count_append]; omega
    have w0 := w.perm pm0
    have nd := List.nodup_append.mp w0.nd
    have nin : ∀ x ∈ Gi, x ∉ G1 ++ G2 := fun x hx z => nd.2.2 x z x hx rfl
    refine h.2 O H σ (G1 ++ G2) r0 w0.left _ fun O' H' vs Fm G rml rs st => ?_
    obtain ⟨y, ys, Fa, Fc, ev, efm, ra, en, en2⟩ := rml
    subst en ev
    subst en2 efm
    rw [List.append_nil] at st
    have fr : ∀ x o, x ∈ Gi → H x = some o → H' x = some o := fun x o hx hh => st.frame x o hh (nin x hx)
    have rmi : RepM X.K O' H' s.m (.ref a) Gi := RepM.keep (fun x o hh no => st.frame x o hh fun z => no (w0.left.own x z)) st.nw s.m (fun x o hx hh => fr x o hx hh) rm1
    have sb : Step O H (G1 ++ (Gi ++ G2)) O' H' ((Fa ++ G) ++ Gi) := (st.beside w0).permL pm0.symm
    have hl2 : i < env2.length := hlen
    obtain ⟨D1, D2, Di, ed, _, k⟩ := RepS.drop i (some (.ref a)) hl2 rs
    subst ed
    have rs3 := k (.ref a) s Gi rmi
    rw [set_same e1] at rs3
    have s3 : Step O H (G1 ++ (Gi ++ G2)) O' H' (Fa ++ (D1 ++ (Gi ++ D2))) := (sb.permR (F2 := (Fa ++ (D1 ++ (Gi ++ D2))) ++ Di) (List.perm_iff_count.mpr fun x => by simp only [List.count_append]; omega)).dropR
    have ain : a ∈ Gi := by rw [efi]; exact List.mem_cons_self ..
    have bin : b ∈ Gi := by rw [efi, eF, efb]; exact List.mem_cons_of_mem _ (List.mem_append_right _ (List.mem_append_left _ (List.mem_cons_self ..)))
    obtain ⟨hlx, F2n, rsn, sn⟩ := app_core rs3 (i := i) (s := s) (by rw [List.getElem?_set_self hl2]) s3.wf hm hg e1 (fr a _ ain ha) lk (fr b _ bin hbl) ra
    rw [List.set_set] at rsn
    exact ⟨b, xs, y, rfl, rfl, fr b _ bin hbl, by rw [hlx]; exact hz, q O' _ .non [] F2n ⟨rfl, rfl⟩ rsn (s3.trans w sn)⟩
end
end Lin

end

section
namespace Lin
open PySem PySem.Spec PyProof.Rows L2

/-! ### dict comprehensions of owned things -/
theorem putK_new {kvs : List (Key × V)} {k : Key} {v : V} (h : k ∉ kvs.map (·.1)) : putK kvs k v = kvs ++ [(k, v)] := by
  unfold putK
  rw [if_neg]
  intro z
  obtain ⟨x, hx, e⟩ := List.any_eq_true.mp z
  exact h (List.mem_map.mpr ⟨x, hx, of_decide_eq_true e⟩)
inductive DcM (X : Cx) (scope : Scope) (tg kx vx : Expr) (ifs : List Expr) (vs : List Nat) : List D → List Key → Sls → List (Key × M) → Sls → Prop
  | nil {seen : List Key} {env : Sls} : DcM X scope tg kx vx ifs vs [] seen env [] env
  | yes {d : D} {k : Key} {m : M} {ds : List D} {seen : List Key} {kvs : List (Key × M)} {env env1 env2 env3 env4 env' : Sls} : (InB X scope fun X' => Tg X' tg d vs env env1) → (InB X scope fun X' => Tvs X' ifs env1 true env2) → (InB X scope fun X' => Ev X' kx env2 (.val (kD k)) env3) → (InB X scope fun X' => Ev X' vx env3 m env4) → k ∉ seen →
      DcM X scope tg kx vx ifs vs ds (seen ++ [k]) (wipeE env4 vs) kvs env' → DcM X scope tg kx vx ifs vs (d :: ds) seen env ((k, m) :: kvs) env'
  | no {d : D} {ds : List D} {seen : List Key} {kvs : List (Key × M)} {env env1 env2 env' : Sls} : (InB X scope fun X' => Tg X' tg d vs env env1) → (InB X scope fun X' => Tvs X' ifs env1 false env2) → DcM X scope tg kx vx ifs vs ds seen (wipeE env2 vs) kvs env' → DcM X scope tg kx vx ifs vs (d :: ds) seen env kvs env'
section
variable {X : Cx} {env env1 env' : Sls} {ys : List D} {kvs : List (Key × M)} {pos : Pos} {kx vx tg it : Expr} {ifs : List Expr} {scope : Scope} {own : List (Str × Nat)}
theorem DcM.io {vs : List Nat} {seen : List Key} (s0 : Shared) (H0 : Hp) (h : DcM X scope tg kx vx ifs vs ys seen env kvs env') : Bare env vs → Io env env' := by
  induction h with
  | nil => exact fun _ => Io.refl _
  | yes h1 h2 h3 h4 _ _ ih => exact fun b => (io_wipe b ((((h1 s0 H0 0 [] []).1.trans (h2 s0 H0 0 [] []).1).trans (h3 s0 H0 0 [] []).1).trans (h4 s0 H0 0 [] []).1)).trans (ih (bare_wipe _ _))
  | no h1 h2 _ ih => exact fun b => (io_wipe b ((h1 s0 H0 0 [] []).1.trans (h2 s0 H0 0 [] []).1)).trans (ih (bare_wipe _ _))
theorem dcm_semS (O : OW) (H : Hp) (σ : L2.St) (F : List Addr) (hS : ∀ R : It → Hp → Prop, (∀ (O1 : OW) (H1 : Hp) (J : It) (F1 : List Addr), Wk X.K O1 H1 J ys → RepS X.K O1 H1 env1 σ F1 → Step O H F O1 H1 F1 → R J H1) → wI X tg it σ H R)
    (hr : DcM X scope tg kx vx ifs (own.map (·.2)) ys [] env1 kvs env') (hb : Bare env1 (own.map (·.2))) (hz : ys.length ≤ sizeLine) (w : Wf O H F) (Q : VK)
    (q : ∀ (O' : OW) (H' : Hp) (v : V) (Fv F' : List Addr), RepM X.K O' H' (.dK (kvs.map (·.1)) (kvs.map (·.2))) v Fv → RepS X.K O' H' env' σ F' → Step O H F O' H' (Fv ++ F') → Q v H') : tDc (wI X tg it) (bG X scope tg) (bTs X scope ifs) (bE X scope kx) (bE X scope vx) (own.map (·.2)) σ H Q := by
  refine hS _ fun O1 H1 J F1 wk r1 s1 D hD => ?_
  generalize hvs : own.map (·.2) = vs at *
  let St (i : Nat) (H' : Hp) : Prop := ∃ (env2 : Sls) (O2 : OW) (F2 Fa : List Addr) (acc : List (Key × V)) (k1 k2 : List (Key × M)), kvs = k1 ++ k2 ∧ k1.length ≤ i ∧ DcM X scope tg kx vx ifs vs (ys.drop i) (k1.map (·.1)) env2 k2 env' ∧ Bare env2 vs ∧ RepS X.K O2 H' env2 (wipe σ vs) F2 ∧ H' D = some (.dK acc) ∧ acc.map (·.1) = k1.map (·.1) ∧ RepML X.K O2 H' (k1.map (·.2)) (acc.map (·.2)) Fa ∧ Kept O1 H1 O2 H' ∧ Step O H F O2 H' ((D :: Fa) ++ F2)
  refine ⟨fun i m H' => m = ys.length - i ∧ i ≤ ys.length ∧ St i H', ⟨ys.length, rfl, Nat.zero_le _, ?_⟩, ?_⟩
  · have s0 : Step O1 H1 [] (fun a => O1 a ∨ a = D) (upd H1 D (.dK [])) [D] := Step.new (G := []) s1.wf.nil hD
    refine ⟨env1, _, F1, [], [], [], kvs, rfl, Nat.le_refl _, hr, hb, (RepS.quiet s0 r1).loose (wipe_length σ vs) (fun i s z => wipe_get (hb i s z)), upd_same, rfl, ⟨rfl, rfl⟩, s0.kept s1.wf.nil, s1.trans w (s0.quiet s1.wf)⟩
  rintro i m H' ⟨rfl, hle, env2, O2, F2, Fa, acc, k1, k2, ems, hml, lr, bare, rs, hDa, hks, rml, kp, st⟩
  have wf := st.wf
  obtain ⟨sp, go⟩ := wk O2 H' _ kp wf
  rcases Nat.lt_or_ge i ys.length with hlt | hge
  · have hd : ys[i]? = some ys[i] := List.getElem?_eq_getElem hlt
    obtain ⟨g1, yl⟩ := go i _ hd
    have ed : ys.drop i = ys[i] :: ys.drop (i + 1) := List.drop_eq_getElem_cons hlt
    rw [ed] at lr
    generalize ys[i] = d at *
    generalize hds : ys.drop (i + 1) = ds at *
    refine .inr ⟨g1, St (i + 1), fun H2 z => ⟨ys.length - (i + 1), by omega, rfl, hlt, z⟩, fun x H2 y => ?_⟩
    obtain ⟨s2, rx⟩ := yl x H2 y
    have st2 : Step O H F O2 H2 ((D :: Fa) ++ F2) := st.trans w (s2.quiet wf)
    have wf2 := st2.wf
    have wfF : Wf O2 H2 F2 := wf2.right
    have rs2 : RepS X.K O2 H2 env2 (wipe σ vs) F2 := rs.quiet s2
    have hD2 : H2 D = some (.dK acc) := s2.frame D _ hDa (by simp)
    have rml2 : RepML X.K O2 H2 (k1.map (·.2)) (acc.map (·.2)) Fa := s2.repML wf.nil (fun _ _ => by simp) rml
    have kp2 : Kept O1 H1 O2 H2 := kp.trans (s2.kept wf.nil)
    have dF : D ∉ F2 := fun z => wf2.apart (List.mem_cons_self ..) z
    have dA : D ∉ Fa := fun z => (List.nodup_cons.mp (List.nodup_append.mp wf2.nd).1).1 z
    have aF : ∀ a ∈ Fa, a ∉ F2 := fun a h z => wf2.apart (List.mem_cons_of_mem _ h) z
    have pmF : ((D :: Fa) ++ F2).Perm (F2 ++ (D :: Fa)) := List.perm_append_comm
    have wip : ∀ σ3, SameBut vs (wipe σ vs) σ3 → wipe σ3 vs = wipe σ vs := fun σ3 b => by
      rw [wipe_ext b.1 b.2, wipe_wipe]
    cases lr with
    | @yes _ k m _ _ _ _ env1' env2' env3' env4' _ h1 h2 h3 h4 hk hn =>
      intro s0 H0 C0 cl0 fp0
      refine (h1 s0 H0 C0 cl0 fp0).2 O2 H2 (wipe σ vs) F2 x rx rs2 wfF _ fun σ3 F3 r3 s3 p3 b3 => ⟨wip σ3 b3, fun s0 H0 C0 cl0 fp0 => ?_⟩
      refine (h2 s0 H0 C0 cl0 fp0).2 O2 H2 σ3 F3 r3 s3.wf _ fun O4 H4 F4 r4 s4 => ?_
      rw [if_pos rfl]
      intro s0 H0 C0 cl0 fp0
      refine (h3 s0 H0 C0 cl0 fp0).2 O4 H4 σ3 F4 r4 s4.wf _ fun O5 H5 u Fu F5 ⟨eu, ru⟩ r5 s5 => ?_
      subst eu
      intro s0 H0 C0 cl0 fp0
      refine (h4 s0 H0 C0 cl0 fp0).2 O5 H5 σ3 F5 r5 s5.wf _ fun O6 H6 z Fv F6 rz r6 s6 => ?_
      have s25 : Step O2 H2 F2 O6 H6 (Fv ++ F6) := ((s3.trans wfF s4).trans wfF s5).trans wfF s6
      have sB := (s25.beside (wf2.perm pmF)).permL pmF.symm
      have hD6 : H6 D = some (.dK acc) := s25.frame D _ hD2 dF
      have rml6 : RepML X.K O6 H6 (k1.map (·.2)) (acc.map (·.2)) Fa := s25.repML wfF aF rml2
      obtain ⟨F7, G, pm7, r7⟩ := RepS.wipeN r6 vs
      rw [wip σ3 b3] at r7
      have wf6 := sB.wf
      have dIn : D ∈ (Fv ++ F6) ++ (D :: Fa) := List.mem_append_right _ (List.mem_cons_self ..)
      have oD : O6 D := wf6.own D dIn
      have dV : D ∉ Fv ++ F6 := fun z => wf6.apart z (List.mem_cons_self ..)
      have hnew : putK acc k z = acc ++ [(k, z)] := putK_new (by rw [hks]; exact hk)
      have sW : Step O6 H6 ((Fv ++ F6) ++ (D :: Fa)) O6 (upd H6 D (.dK (acc ++ [(k, z)]))) ((Fv ++ F6) ++ (D :: Fa)) := Step.write wf6 dIn
      have kf : ∀ a o, H6 a = some o → ¬ O6 a → upd H6 D (.dK (acc ++ [(k, z)])) a = some o := fun a o h n => by
        rw [upd_ne (fun e => n (by rw [e]; exact oD))]; exact h
      have ku : ∀ a o, a ≠ D → H6 a = some o → upd H6 D (.dK (acc ++ [(k, z)])) a = some o := fun a o n h => by rw [upd_ne n]; exact h
      have rml7 : RepML X.K O6 (upd H6 D (.dK (acc ++ [(k, z)]))) ((k1 ++ [(k, m)]).map (·.2)) ((acc ++ [(k, z)]).map (·.2)) (Fa ++ Fv) := by
        rw [List.map_append, List.map_append]
        exact RepML.keep kf (fun a h => .inl h) _ (fun a o ha h => ku a o (fun e => by
          subst e
          rcases List.mem_append.mp ha with z | z
          · exact dA z
          · exact dV (List.mem_append_left _ z)) h) (rml6.snoc rz)
      have r8 : RepS X.K O6 (upd H6 D (.dK (acc ++ [(k, z)]))) (wipeE _ vs) (wipe σ vs) F7 :=
        RepS.keep kf (fun a h => .inl h) _ (fun a o ha h => ku a o (fun e => by
          subst e
          exact dV (List.mem_append_right _ (pm7.mem_iff.mpr (List.mem_append_left _ ha)))) h) r7
      have s7 : Step O2 H2 ((D :: Fa) ++ F2) O6 (upd H6 D (.dK (acc ++ [(k, z)]))) ((D :: (Fa ++ Fv)) ++ F7) :=
        ((sB.trans wf2 sW).permR (F2 := ((D :: (Fa ++ Fv)) ++ F7) ++ G) (List.perm_iff_count.mpr fun a => by
          have := List.perm_iff_count.mp pm7 a
          simp only [List.count_append, List.count_cons] at this ⊢
          omega)).dropR
      have ek := rep_kD ru
      refine ⟨acc, k, ek, hD6, ?_, ?_⟩
      · have e := congrArg List.length hks
        rw [List.length_map, List.length_map] at e
        omega
      · rw [hnew]
        exact ⟨_, O6, F7, Fa ++ Fv, acc ++ [(k, z)], k1 ++ [(k, m)], _, by rw [ems, List.append_assoc]; rfl, by rw [List.length_append]; simp; omega, by rw [hds, List.map_append]; exact hn, bare_wipe _ _, r8, upd_same, by rw [List.map_append, List.map_append, hks]; rfl, rml7, kp2.trans (s7.kept wf2), st2.trans w s7⟩
    | no h1 h2 hn =>
      intro s0 H0 C0 cl0 fp0
      refine (h1 s0 H0 C0 cl0 fp0).2 O2 H2 (wipe σ vs) F2 x rx rs2 wfF _ fun σ3 F3 r3 s3 p3 b3 => ⟨wip σ3 b3, fun s0 H0 C0 cl0 fp0 => ?_⟩
      refine (h2 s0 H0 C0 cl0 fp0).2 O2 H2 σ3 F3 r3 s3.wf _ fun O4 H4 F4 r4 s4 => ?_
      rw [if_neg Bool.false_ne_true]
      have s24 : Step O2 H2 F2 O4 H4 F4 := s3.trans wfF s4
      have sB := (s24.beside (wf2.perm pmF)).permL pmF.symm
      have hD5 : H4 D = some (.dK acc) := s24.frame D _ hD2 dF
      have rml5 : RepML X.K O4 H4 (k1.map (·.2)) (acc.map (·.2)) Fa := s24.repML wfF aF rml2
      obtain ⟨F6, G, pm6, r6⟩ := RepS.wipeN r4 vs
      rw [wip σ3 b3] at r6
      have s6 : Step O2 H2 ((D :: Fa) ++ F2) O4 H4 ((D :: Fa) ++ F6) :=
        (sB.permR (F2 := ((D :: Fa) ++ F6) ++ G) (List.perm_iff_count.mpr fun a => by
          have := List.perm_iff_count.mp pm6 a
          simp only [List.count_append, List.count_cons] at this ⊢
          omega)).dropR
      exact ⟨_, O4, F6, Fa, acc, k1, k2, ems, by omega, by rw [hds]; exact hn, bare_wipe _ _, r6, hD5, hks, rml5, kp2.trans (s6.kept wf2), st2.trans w s6⟩
  · have ei : i = ys.length := by omega
    subst ei
    rw [List.drop_eq_nil_of_le (Nat.le_refl _)] at lr
    refine .inl ⟨sp, ?_⟩
    cases lr
    rw [List.append_nil] at ems
    subst ems
    exact q O2 H' (.ref D) (D :: Fa) F2 ⟨D, acc, Fa, rfl, rfl, hDa, hks, rml⟩ (rs.loose (wipe_length σ vs).symm fun i s z => (wipe_get (bare i s z)).symm) st
theorem dcm_sem (hi : Iv X tg it env ys env1) (hr : DcM X scope tg kx vx ifs (own.map (·.2)) ys [] env1 kvs env') (hb : Bare env1 (own.map (·.2))) (hz : ys.length ≤ sizeLine) (O : OW) (H : Hp) (σ : L2.St) (F : List Addr) (r : RepS X.K O H env σ F) (w : Wf O H F) (Q : VK)
    (q : ∀ (O' : OW) (H' : Hp) (v : V) (Fv F' : List Addr), RepM X.K O' H' (.dK (kvs.map (·.1)) (kvs.map (·.2))) v Fv → RepS X.K O' H' env' σ F' → Step O H F O' H' (Fv ++ F') → Q v H') : tDc (wI X tg it) (bG X scope tg) (bTs X scope ifs) (bE X scope kx) (bE X scope vx) (own.map (·.2)) σ H Q :=
  dcm_semS O H σ F (hi.2 O H σ F r w) hr hb hz w Q q
theorem ev_dcm (hi : Iv X tg it env ys env1) (hr : DcM X scope tg kx vx ifs (own.map (·.2)) ys [] env1 kvs env') (hb : Bare env1 (own.map (·.2))) (ok : BlkOk X.N X.env.scope scope own) (hz : ys.length ≤ sizeLine) (hN : X.N.Nodup := by assumption)
    (hc : X.calm = true := by rfl) (hs : ∀ x, foldedSetIterable it X.env x = pure x := by intro _; rfl) : Ev X (.DictComp kx vx [⟨tg, it, ifs, 0⟩] scope pos) env (.dK (kvs.map (·.1)) (kvs.map (·.2))) env' :=
  ⟨hi.1.trans (hr.io X.s_0 X.H_0 hb), fun O H σ F r w Q q => ⟨_, pe_dc hc hN pi_w ok bg_ok bts_ok be_ok be_ok hs, dcm_sem hi hr hb hz O H σ F r w Q q⟩⟩
/-- name = {a dict comprehension}, the name a local -/
theorem x1_setDcM (i : Nat) {n : Str} {pos' spos : Pos} (hi : Iv X tg it env ys env1) (hr : DcM X scope tg kx vx ifs (own.map (·.2)) ys [] env1 kvs env') (hb : Bare env1 (own.map (·.2))) (ok : BlkOk X.N X.env.scope scope own) (hz : ys.length ≤ sizeLine) (hio : ∀ m', env[i]? ≠ some (some (Sl.io m')) := by intro _ h; cases h) (hil : i < env.length := by simp) (hN : X.N.Nodup := by assumption) (hn : X.N[i]? = some n := by rfl)
    (hx : X.env.scope.names.lookup n = some .local := by rfl) (hsw : swapsWith (.DictComp kx vx [⟨tg, it, ifs, 0⟩] scope pos) (some (.Name n pos')) spos.line X.env = pure true := by rfl) (hc : X.calm = true := by rfl) (hs : ∀ x, foldedSetIterable it X.env x = pure x := by intro _; rfl) :
    Ex1 X (.Assign [.Name n pos'] (.DictComp kx vx [⟨tg, it, ifs, 0⟩] scope pos) spos) env (.nx (env'.set i (some (.own (.dK (kvs.map (·.1)) (kvs.map (·.2))))))) := fun O H σ F r w D g =>
  ⟨_, ps_setDc hc hN hn hx hsw pi_w ok bg_ok bts_ok be_ok be_ok hs, dcm_sem hi hr hb hz O H σ F r w _ fun O' H' v Fv F' rm rs s => by
    have hl : i < env'.length := by rw [← rs.len, r.len]; exact hil
    obtain ⟨F1, F2, Fi, ef, _, k⟩ := RepS.drop i (some v) hl rs
    subst ef
    refine g O' H' _ (F1 ++ (Fv ++ F2)) (k v (.own _) Fv rm) ((s.permR perm_drop).dropR) fun j m' z => ?_
    have hne : i ≠ j := fun q => hio m' (q ▸ z)
    obtain ⟨m2, z2⟩ := (hi.1.trans (hr.io X.s_0 X.H_0 hb)) j m' z
    exact ⟨⟨m2, by rw [List.getElem?_set_ne hne]; exact z2⟩, List.getElem?_set_ne hne⟩⟩
end
end Lin

end

section
namespace Lin
open PySem PySem.Spec PyProof.Rows L2
/-! row = d[k], a part of an owned dict: the dict waits while the row is worked on -/
theorem RepML.cut {K : PySem.W.Frag} {O : OW} {H : Hp} : ∀ {ms : List M} {vs : List V} {F : List Addr} {j : Nat} {m : M}, RepML K O H ms vs F → ms[j]? = some m →
    ∃ v F1 Fj F2, vs[j]? = some v ∧ F = F1 ++ (Fj ++ F2) ∧ RepM K O H m v Fj ∧
      ∀ (O2 : OW) (H2 : Hp), (∀ a o, H a = some o → ¬ O a → H2 a = some o) → (∀ a, O2 a → O a ∨ H a = none) → (∀ a o, a ∈ F1 ++ F2 → H a = some o → H2 a = some o) → ∀ (m' : M) (Fj' : List Addr), RepM K O2 H2 m' v Fj' → RepML K O2 H2 (ms.set j m') vs (F1 ++ (Fj' ++ F2))
  | [], _, _, _, _, _, h => by simp at h
  | x :: ms, _, _, 0, m, ⟨v, vs, F1, F2, e, ef, p, q⟩, h => by
    have h : x = m := Option.some.inj h
    subst h e ef
    exact ⟨v, [], F1, F2, rfl, rfl, p, fun O2 H2 k n f m' Fj' r => ⟨v, vs, Fj', F2, rfl, rfl, r, RepML.keep k n ms (fun a o z => f a o (List.mem_append_right _ z)) q⟩⟩
  | x :: ms, _, _, j + 1, m, ⟨v, vs, F1, F2, e, ef, p, q⟩, h => by
    subst e ef
    obtain ⟨u, G1, Gj, G2, hu, eg, rj, put⟩ := RepML.cut q (show ms[j]? = some m from h)
    subst eg
    refine ⟨u, F1 ++ G1, Gj, G2, hu, by simp only [List.append_assoc], rj, fun O2 H2 k n f m' Fj' r => ⟨v, vs, F1, G1 ++ (Fj' ++ G2), rfl, by simp only [List.append_assoc], RepM.keep k n x (fun a o z => f a o (List.mem_append_left _ (List.mem_append_left _ z))) p, put O2 H2 k n (fun a o z => f a o ?_) m' Fj' r⟩⟩
    rcases List.mem_append.mp z with z | z
    · exact List.mem_append_left _ (List.mem_append_right _ z)
    · exact List.mem_append_right _ z
theorem valV_at {k : Key} : ∀ {kvs : List (Key × V)} {j : Nat} {u : V}, (kvs.map (·.1)).Nodup → (kvs.map (·.1))[j]? = some k → (kvs.map (·.2))[j]? = some u → valV kvs k = some u
  | [], _, _, _, h, _ => by simp at h
  | p :: kvs, 0, u, _, h, g => by
    have h : p.1 = k := Option.some.inj h
    have g : p.2 = u := Option.some.inj g
    rw [valV_pos h, g]
  | p :: kvs, j + 1, u, nd, h, g => by
    have nd := List.nodup_cons.mp (show (p.1 :: kvs.map (·.1)).Nodup from nd)
    have h : (kvs.map (·.1))[j]? = some k := h
    rw [valV_neg fun e => nd.1 (by rw [e]; exact List.mem_of_getElem? h)]
    exact valV_at nd.2 h g
theorem setAt_same {α : Type} : ∀ {l : List α} {i : Nat} {a : α}, l[i]? = some a → l.set i a = l
  | [], _, _, h => by simp at h
  | x :: l, 0, a, h => by rw [show x = a from Option.some.inj h]; rfl
  | x :: l, i + 1, a, h => by rw [List.set_cons_succ, setAt_same (show l[i]? = some a from h)]
section
variable {X : Cx} {env env3 : Sls} {b : Expr} {pos pos' p pos2 : Pos} {rest : List Stmt} {k : Key} {ks : List Key} {ms : List M} {m m' : M} {n nr : Str}
theorem ex_hole (i r j : Nat) (hi : env[i]? = some (some (.own (.dK ks ms)))) (hj : ms[j]? = some m) (hk : ks[j]? = some k) (nd : ks.Nodup) (hb : Pu X b env (.val (kD k))) (env2 : Addr → Sls)
    (body : ∀ a, Ex X rest ((env.set i (some (.io (.val (.adr a))))).set r (some (.io m))) (.nx (env2 a))) (h2 : ∀ a, (env2 a)[r]? = some (some (.io m'))) (h3 : ∀ a, ((env2 a).set r none).set i (some (.own (.dK ks (ms.set j m')))) = env3) (hu : X.A.units + 1 < cLine) (hne : i ≠ r := by decide) (hl : r < env.length := by simp) (hro : ∀ m', env[r]? ≠ some (some (Sl.io m')) := by intro _ h; cases h)
    (hN : X.N[i]? = some n := by rfl) (hv : Vis X.env.scope n := by first | exact Or.inl rfl | exact Or.inr (Or.inl rfl) | exact Or.inr (Or.inr rfl)) (hd : (n == ("__debug__" : Str)) = false := by decide) (hcd : (n == ("__classdict__" : Str)) = false := by decide) (hsl : NoSl b := by exact fun _ _ => rfl)
    (hn : X.N.Nodup := by assumption) (hNr : X.N[r]? = some nr := by rfl) (hx : Loc X.env.scope nr := by first | exact Or.inl rfl | exact Or.inr rfl) (hsw : swapsWith (.Subscript (.Name n p) b pos2) (some (.Name nr pos')) pos.line X.env = pure false := by rfl) (hf : X.fn nr = true ∨ X.env.scope.names.lookup nr = some .local := by first | exact .inl rfl | exact .inr rfl) :
    Ex X (.Assign [.Name nr pos'] (.Subscript (.Name n p) b pos2) pos :: rest) env (.nx env3) := fun O H σ F rs w D g => by
  obtain ⟨v, G1, Gi, G2, e1, ef, rm, _, kk⟩ := RepS.at rs hi
  obtain ⟨a, kvs, F', ev, efi, ha, hks, rl⟩ := rm
  subst ev efi ef
  obtain ⟨u, Fa, Fj, Fb, hvj, eF, rj, put⟩ := RepML.cut rl hj
  subst eF
  refine ⟨_, pss_cons ps_w pss_w, ⟨_, ps_set hn hNr hx (pe_dget hu (pe_var hN hv hd hcd) pe_w hsl) hsw hf, ⟨.ref a, e1, hb O H σ _ rs w _ fun y Fy ⟨_, ry⟩ => ⟨a, u, rfl, .inl ⟨kvs, k, .inl ha, rep_kD ry, (valV_at (by rw [hks]; exact nd) (by rw [hks]; exact hk) hvj).symm⟩, ?_⟩⟩⟩⟩
  have r1 := kk O H (fun _ _ h _ => h) (fun _ h => .inl h) (fun _ _ _ h => h) (.ref a) (.io (.val (.adr a))) [] ⟨rfl, rfl⟩
  rw [setAt_same e1] at r1
  have hls : r < σ.length := by rw [rs.len]; exact hl
  obtain ⟨F1, F2, Fi, ef, _, kr⟩ := RepS.drop r (some u) (by rw [List.length_set]; exact hl) r1
  have rB := kr u (.io m) Fj rj
  have cnt : ∀ x, (G1 ++ ([] ++ G2)).count x = (F1 ++ (Fi ++ F2)).count x := fun x => by rw [ef]
  have pm : (G1 ++ ((a :: (Fa ++ (Fj ++ Fb))) ++ G2)).Perm ((F1 ++ (Fj ++ F2)) ++ (Fi ++ (a :: (Fa ++ Fb)))) := List.perm_iff_count.mpr fun x => by
    have := cnt x
    simp only [List.count_append, List.count_cons, List.count_nil] at this ⊢
    omega
  have wB := w.perm pm
  have nin : ∀ x, x ∈ Fi ++ (a :: (Fa ++ Fb)) → x ∉ F1 ++ (Fj ++ F2) := fun x hx z => (List.nodup_append.mp wB.nd).2.2 x z x hx rfl
  refine body a O H (σ.set r (some u)) _ rB wB.left D fun O' H' σ' F' r' s p => ?_
  have p1 := (p i (.val (.adr a)) (by rw [List.getElem?_set_ne (Ne.symm hne)]; exact List.getElem?_set_self (by obtain ⟨h, _⟩ := List.getElem?_eq_some_iff.mp hi; exact h))).2
  have p2 := (p r m (List.getElem?_set_self (by rw [List.length_set]; exact hl))).2
  rw [List.getElem?_set_ne (Ne.symm hne), e1] at p1
  rw [List.getElem?_set_self hls] at p2
  obtain ⟨v2, P1, Fj', P2, e2, ef2, rm', rs', _⟩ := RepS.at r' (h2 a)
  have ev2 : v2 = u := by rw [p2] at e2; exact (Option.some.inj (Option.some.inj e2)).symm
  subst ev2 ef2
  have hl2 : i < ((env2 a).set r none).length := by
    rw [List.length_set]
    rw [← r'.len]
    exact (List.getElem?_eq_some_iff.mp p1).1
  obtain ⟨Q1, Q2, Qi, ef3, _, k3⟩ := RepS.drop i (some (.ref a)) hl2 rs'
  have aR : a ∈ Fi ++ (a :: (Fa ++ Fb)) := List.mem_append_right _ (List.mem_cons_self ..)
  have r3 := k3 (.ref a) (.own (.dK ks (ms.set j m'))) (a :: (Fa ++ (Fj' ++ Fb))) ⟨a, kvs, _, rfl, rfl, s.frame a _ ha (nin a aR), hks, put O' H' (s.kf wB.left) s.nw (fun x o hx hh => s.frame x o hh (nin x (List.mem_append_right _ (List.mem_cons_of_mem _ hx)))) m' Fj' rm'⟩
  rw [setAt_same p1, h3 a] at r3
  have cnt3 : ∀ x, (P1 ++ P2).count x = (Q1 ++ (Qi ++ Q2)).count x := fun x => by rw [ef3]
  have sB := (s.beside wB).permL pm.symm
  refine g O' H' σ' _ r3 ((sB.permR (F2 := (Q1 ++ ((a :: (Fa ++ (Fj' ++ Fb))) ++ Q2)) ++ (Qi ++ Fi)) (List.perm_iff_count.mpr fun x => by
    have := cnt3 x
    simp only [List.count_append, List.count_cons] at this ⊢
    omega)).dropR) fun j' m2 z => ?_
  have n1 : i ≠ j' := fun q => by rw [← q, hi] at z; cases z
  have n2 : r ≠ j' := fun q => hro m2 (by rw [q]; exact z)
  obtain ⟨⟨m3, z3⟩, z4⟩ := p j' m2 (by rw [List.getElem?_set_ne n2, List.getElem?_set_ne n1]; exact z)
  rw [List.getElem?_set_ne n2] at z4
  exact ⟨⟨m3, by rw [← h3 a, List.getElem?_set_ne n1, List.getElem?_set_ne n2]; exact z3⟩, z4⟩
end
end Lin

end

section
set_option maxHeartbeats 4000000
/-! sorted of tuples of ints, as many each, by all their ints -/
namespace TL
open PySem PyProof.Rows Srt SrtO
def lexL : List Int → List Int → Bool
  | x :: xs, y :: ys => if x = y then lexL xs ys else decide (x < y)
  | [], _ :: _ => true
  | _, [] => false
theorem lex_cons (x y : Int) (xs ys : List Int) : lexL (x :: xs) (y :: ys) = if x = y then lexL xs ys else decide (x < y) := by rw [lexL]
theorem lex_nil : lexL [] [] = false := by rw [lexL]
theorem lex_no (xs : List Int) : lexL xs [] = false := by cases xs <;> rw [lexL]
theorem lex_yes (x : Int) (xs : List Int) : lexL [] (x :: xs) = true := by rw [lexL]
theorem lex_asym : ∀ a b : List Int, lexL a b = true → lexL b a = false
  | [], b, _ => lex_no b
  | x :: a, [], h => by rw [lex_no] at h; cases h
  | x :: a, y :: b, h => by
    rw [lex_cons] at h ⊢
    by_cases e : x = y
    · rw [if_pos e] at h
      rw [if_pos e.symm]
      exact lex_asym a b h
    · rw [if_neg e] at h
      rw [if_neg fun z => e z.symm]
      have := of_decide_eq_true h
      exact decide_eq_false (by omega)
theorem lex_tr : ∀ x y z : List Int, lexL y x = false → lexL z y = false → lexL z x = false
  | [], _, z, _, _ => lex_no z
  | a :: x, [], z, h, _ => by rw [lex_yes] at h; cases h
  | a :: x, b :: y, [], _, h => by rw [lex_yes] at h; cases h
  | a :: x, b :: y, c :: z, h1, h2 => by
    rw [lex_cons] at h1 h2 ⊢
    by_cases e1 : b = a
    · rw [if_pos e1] at h1
      by_cases e2 : c = b
      · rw [if_pos e2] at h2
        rw [if_pos (e2.trans e1)]
        exact lex_tr x y z h1 h2
      · rw [if_neg e2] at h2
        rw [if_neg fun q => e2 (by rw [q, e1])]
        have := of_decide_eq_false h2
        exact decide_eq_false (by omega)
    · rw [if_neg e1] at h1
      have q1 := of_decide_eq_false h1
      by_cases e2 : c = b
      · rw [if_neg fun q => e1 (by rw [← e2, q])]
        exact decide_eq_false (by omega)
      · rw [if_neg e2] at h2
        have q2 := of_decide_eq_false h2
        rw [if_neg (by omega)]
        exact decide_eq_false (by omega)
theorem swo_lexL {α : Type} (k : α → List Int) : Swo fun v u => lexL (k v) (k u) := ⟨fun x y h => lex_asym _ _ h, fun x y z h1 h2 => lex_tr _ _ _ h1 h2⟩
theorem lex_tot : ∀ a b : List Int, lexL a b = false → lexL b a = false → a = b
  | [], [], _, _ => rfl
  | [], y :: b, h, _ => by rw [lex_yes] at h; cases h
  | x :: a, [], _, h => by rw [lex_yes] at h; cases h
  | x :: a, y :: b, h1, h2 => by
    rw [lex_cons] at h1 h2
    by_cases e : x = y
    · rw [if_pos e] at h1
      rw [if_pos e.symm] at h2
      rw [e, lex_tot a b h1 h2]
    · rw [if_neg e] at h1
      rw [if_neg fun z => e z.symm] at h2
      have := of_decide_eq_false h1
      have := of_decide_eq_false h2
      omega
section
variable {prog : Program} {w : World} {A : Around} {E : Value → Shared → Prop} {s : Shared} {Q : Bool → Shared → Prop}
theorem lex_intsL {b : Bool} {xs ys : List Value} {ns ms : List Int} (i : Nat) (hx : IntsAre xs ns) (hy : IntsAre ys ms) (hl : ns.length = ms.length)
    (h : Q (lexL ns ms) s) : PySem.W.KatLex prog w A b false Q (xs.zip ys) i s := by
  induction hx generalizing ys ms i with
  | nil =>
    cases hy with
    | nil =>
      rw [lex_nil] at h
      exact PySem.W.kat_nil h
    | cons q u hy => simp at hl
  | @cons p t xs ns hx ih =>
    cases hy with
    | nil => simp at hl
    | @cons q u ys ms hy =>
      have hl' : ns.length = ms.length := by simpa using hl
      show PySem.W.KatLex prog w A b false Q ((Value.int p t, Value.int q u) :: xs.zip ys) i s
      refine PySem.W.kat_cons (wpAny_eqBool_int ?_)
      rw [lex_cons] at h
      by_cases e : p = q
      · subst e
        rw [beq_self_eq_true]
        rw [if_pos rfl] at h
        refine PySem.W.kat_yes ?_
        first
          | exact ih (i + 1) hy hl' h
          | exact ih _ _ (i + 1) hy hl' h
      · rw [show (p == q) = false from beq_eq_false_iff_ne.mpr e]
        rw [if_neg e] at h
        exact PySem.W.kat_no (TS.oneLt_ints _ h)
end
def TupsL (h : Heap) (d : Nat) (vs : List Value) : Prop := ∀ v, v ∈ vs → ∃ ns, TS.TupInts h v ns ∧ ns.length = d
theorem TupsL.keeps {h h' : Heap} {d : Nat} {vs : List Value} (x : TupsL h d vs) (k : ∀ b o, h.get? b = some o → o.cls = .type "tuple" → h'.get? b = some o) : TupsL h' d vs := fun v hv =>
  let ⟨ns, t, r⟩ := x v hv; ⟨ns, t.keeps k, r⟩
theorem firstsL {h : Heap} {d : Nat} (hd : 1 ≤ d) : ∀ vs : List Value, TupsL h d vs → ∃ fs, PySem.W.KatTups h vs fs ∧ fs.length = vs.length ∧ ∀ f, f ∈ fs → ∃ n t, f = Value.int n t
  | [], _ => ⟨[], PySem.W.KatTups.nil, rfl, fun f hf => by simp at hf⟩
  | v :: vs, x => by
    obtain ⟨fs, k, hl, hi⟩ := firstsL hd vs fun u hu => x u (List.mem_cons_of_mem _ hu)
    obtain ⟨ns, ⟨a, xs, rfl, ⟨o, ho, hc, n, hdt⟩, i⟩, hn⟩ := x v (List.mem_cons_self ..)
    obtain ⟨y, ys, e⟩ : ∃ y ys, xs.toList = y :: ys := by
      cases q : xs.toList with
      | nil =>
        rw [q] at i
        have l := i.length
        rw [List.length_nil, hn] at l
        omega
      | cons y ys => exact ⟨y, ys, rfl⟩
    obtain ⟨m, t, hy⟩ := i.all y (by rw [e]; exact List.mem_cons_self ..)
    refine ⟨y :: fs, PySem.W.KatTups.cons ho hc hdt ?_ k, by simp [hl], ?_⟩
    · have z := congrArg (fun l : List Value => l[0]?) e
      simpa using z
    · intro f hf
      rcases List.mem_cons.mp hf with rfl | hf
      · exact ⟨m, t, hy⟩
      · exact hi f hf
section
variable {prog : Program} {w : World} {A : Around} {E : Value → Shared → Prop} {s : Shared}
theorem cmpL {vs : List Value} {d : Nat} {k : Value → List Int} (x : TupsL s.heap d vs) (hk : ∀ v ∈ vs, ∀ ns, TS.TupInts s.heap v ns → k v = ns) : Cmp prog w A s (tuples' true) (fun p => p.1 ∈ vs) (lt2 fun v u => lexL (k v) (k u)) := by
  intro p q hm hm'
  obtain ⟨ns, tp, lp⟩ := x _ hm
  obtain ⟨ms, tq, lq⟩ := x _ hm'
  have ep := hk _ hm _ tp
  have eq2 := hk _ hm' _ tq
  show wpAny (model prog w) A (keyLt' (tuples' true) p.1 q.1) (fun r s' => s' = s ∧ r = lexL (k p.1) (k q.1)) (fun _ _ => False) s
  rw [ep, eq2]
  obtain ⟨a, xs, e1, ⟨o, ho, hc, n, hdt⟩, i⟩ := tp
  obtain ⟨a', ys, e2, ⟨o', ho', hc', n', hdt'⟩, i'⟩ := tq
  rw [e1, e2]
  refine PySem.W.kat_lt ho hdt ho' hdt' ?_
  have sz : decide (xs.size < ys.size) = false := by
    have l1 := i.length
    have l2 := i'.length
    rw [Array.length_toList] at l1 l2
    exact decide_eq_false (by omega)
  rw [sz]
  exact lex_intsL 0 i i' (by omega) ⟨rfl, rfl⟩
theorem sortableL {a : Addr} {vs : List Value} {d : Nat} {k : Value → List Int} (h0 : 0 < vs.length) (hd : 1 ≤ d) (x : TupsL s.heap d vs) (hk : ∀ v ∈ vs, ∀ ns, TS.TupInts s.heap v ns → k v = ns) (ha : ∀ o, s.heap.get? a = some o → o.cls ≠ .type "tuple") : SortableO prog w A s a vs fun v u => lexL (k v) (k u) := by
  intro h' keep
  have kp : ∀ b o, s.heap.get? b = some o → o.cls = .type "tuple" → h'.get? b = some o := fun b o e c => keep b o (fun z => by subst z; exact ha o e c) e
  have x' : TupsL h' d vs := x.keeps kp
  have hk' : ∀ v ∈ vs, ∀ ns, TS.TupInts h' v ns → k v = ns := fun v hv ns t => by
    obtain ⟨ms, t0, _⟩ := x v hv
    rw [hk v hv ms t0, ← (t0.keeps kp).ints, t.ints]
  obtain ⟨fs, h1, h2, h3⟩ := firstsL hd vs x'
  refine ⟨tuples' true, fun Q E hq => ?_, cmpL x' hk'⟩
  refine PySem.W.kat_kind (T := .type "int") h1 (by omega) (fun f hm => ?_) (by rfl) ?_
  · obtain ⟨x, t, rfl⟩ := h3 f hm
    exact PySem.W.Looks.now
  · have e : (Value.type "int" != Value.type "tuple") = true := by first | decide +kernel | rfl | decide
    rw [e]
    exact hq
end
end TL

end

section
set_option maxHeartbeats 4000000
namespace L2
open PySem PySem.Spec PyProof.Rows
/-- ascending, or with reverse=True descending -/
def OrdL (b : Bool) (L : List (List Int)) : Prop := if b then L.Pairwise (fun x y => TL.lexL x y = false) else L.Pairwise (fun x y => TL.lexL y x = false)
def ksInts (k : List Key) : List Int := k.map fun x => match x with
  | .inl i => i
  | .inr _ => 0
/-- sorted(d, reverse=b), d a dict whose keys are tuples of as many ints each -/
def rSortDT (b : Bool) : List V → List V → Hp → VK → Prop := fun vs zs H Q => ∃ (a : Addr) (kvs : List (List Key × V)) (d : Nat), vs = [V.ref a] ∧ zs = [.bl b] ∧ Rd H a (.dT kvs) ∧ (∀ p ∈ kvs, ∃ ns : List Int, p.1 = ns.map Sum.inl ∧ ns.length = d) ∧ (d = 0 → kvs.length < 2) ∧
  ∀ (L : List (Addr × List Int)) (p : Addr), (∀ q ∈ L, H q.1 = some (.tup (q.2.map V.int))) → (L.map (·.2)).Perm (kvs.map fun p => ksInts p.1) → OrdL b (L.map (·.2)) → H p = none → Q (.ref p) (upd H p (.lst (L.map fun q => V.ref q.1)))
theorem ksInts_map (ns : List Int) : ksInts (ns.map Sum.inl) = ns := by
  unfold ksInts
  rw [List.map_map]
  exact List.map_id _
section
variable {X : Cx}
def adrOf : Value → Addr
  | .ref a => a
  | _ => 0
theorem KT.at {H : Hp} {kvs : List (List Key × V)} {xs : List (List Key × Addr × Value)} (r : KT H kvs xs) : kvs.map (·.1) = xs.map (·.1) ∧ ∀ x ∈ xs, H x.2.1 = some (.tup (x.1.map kV)) := by
  induction r with
  | nil => exact ⟨rfl, fun x h => by cases h⟩
  | @cons p q ps qs h t ih =>
    refine ⟨by rw [List.map_cons, List.map_cons, h.1, ih.1], fun x hx => ?_⟩
    rcases List.mem_cons.mp hx with e | hx
    · rw [e, ← h.1]; exact h.2.1
    · exact ih.2 x hx
theorem cr_sortDT {b : Bool} (hc : X.calm = true) : CallRK X (.builtin "sorted") [Str.ofString "reverse"] (rSortDT b) := by
  intro pins s σ H vs zs us ws Q I r rz h
  obtain ⟨a, kvs, d, rfl, rfl, hd, hks, h0, q⟩ := h
  obtain rfl := Vals.ref1 r
  obtain ⟨w1, rfl, e1⟩ := vals1 rz
  obtain rfl : w1 = Value.bool b := e1
  obtain ⟨z, hs, ks, pr, o, es, ep, ho, hx, hdt, he, hn⟩ := (show ObjOk X.prog X.w H s.heap a (.dT kvs) from hd.ok I.hok)
  have l1 : es.size = ks.length := size_of_entries he
  have l2 : kvs.length = ks.length := Paired.length pr
  obtain ⟨kk, kh⟩ := KT.at pr
  show wpAny (model X.prog X.w) X.A (call (.builtin "sorted") [.ref a] [(Str.ofString "reverse", .bool b)]) _ _ _
  refine call_function_entry_kw PyProof.Rows.kind_sorted PyProof.Rows.plain_sorted PyProof.Rows.entry_sorted (PyProof.Rows.args_sorted_rev _ _) ?_
  unfold Builtin.«sorted»
  refine wpAny_bind (m := checkCount "sorted" 1 1 _) (wpAny_pure ?_)
  refine wpAny_bind (PySem.W.kdu_collect (A := X.A.in1) (kdl_raw hs hx hdt) (I.ok.hd hc) ho (by omega) fun h' tk acc hk it => ?_)
  have ea : acc.toList = ks.map fun x => Value.ref x.2.1 := by
    have hl : acc.toList.length = ks.length := by rw [Array.length_toList, it.1]; exact l1
    apply List.ext_getElem?
    intro j
    rw [List.getElem?_map]
    cases hj : acc.toList[j]? with
    | none =>
      have h1 := List.getElem?_eq_none_iff.mp hj
      rw [List.getElem?_eq_none (by omega)]
      all_goals rfl
    | some v =>
      obtain ⟨en, hen, hv⟩ := it.2 j v (by rw [← Array.getElem?_toList]; exact hj)
      have qe := entry_at he j
      rw [hen] at qe
      cases hb : ks[j]? with
      | none =>
        rw [hb] at qe
        exact nomatch (show some en = none from qe)
      | some b =>
        rw [hb] at qe
        have e2 : en = entryOfKey (tupleKind (mixKind X.prog X.w)) b := Option.some.inj qe
        rw [hv, e2]
        all_goals rfl
  have I1 : Inv X pins σ H { s with heap := h', toks := tk } := I.kept hk
  have hlen : acc.toList.length = ks.length := by rw [ea, List.length_map]
  have hzz : acc.toList.length ≤ sizeLine := by omega
  refine wpAny_bind (wpAny_newList ?_ hzz)
  have hoL : (h'.push (seqObj "list" acc.toList.toArray 0)).get? h'.objs.size = some (seqObj "list" acc.toList.toArray 0) := Heap.get?_push_size _ rfl
  show wpAny _ _ _ _ _ { s with heap := h'.push (seqObj "list" acc.toList.toArray 0), toks := tk }
  have tu : ∀ v ∈ acc.toList, ∃ x ∈ ks, v = Value.ref x.2.1 ∧ ∃ ns : List Int, x.1 = ns.map Sum.inl ∧ ns.length = d ∧ H x.2.1 = some (.tup (ns.map V.int)) ∧ TS.TupInts h' v ns := fun v hv => by
    rw [ea] at hv
    obtain ⟨x, hx, rfl⟩ := List.mem_map.mp hv
    have hm : x.1 ∈ kvs.map (·.1) := by rw [kk]; exact List.mem_map_of_mem hx
    obtain ⟨p, hp, e⟩ := List.mem_map.mp hm
    obtain ⟨ns, e3, e4⟩ := hks p hp
    have e5 : x.1 = ns.map Sum.inl := by rw [← e]; exact e3
    have e6 : H x.2.1 = some (.tup (ns.map V.int)) := by
      rw [kh x hx, e5, List.map_map]
      rfl
    exact ⟨x, hx, rfl, ns, e5, e4, e6, tupI_raw I1 (.inl (.inl e6))⟩
  refine wpAny_bind (wpAny_holding (PyProof.Rows.wpAny_call_entry_kw PyProof.Rows.slot_list_sort ⟨_, hoL, rfl⟩ PyProof.Rows.entry_list_sort ?_ (PyProof.Rows.args_list_sort_rev _ _)))
  refine SrtR.list_sort_ordR (s := { s with heap := h'.push (seqObj "list" acc.toList.toArray 0), toks := tk }) (TL.swo_lexL (TS.intsOf h')) hoL hzz (fun h2 => ?_) fun out hso hsb => ⟨_, rfl, ?_⟩
  · refine TL.sortableL (d := d) (by omega) ?_ (fun v hv => ?_) (fun v hv ns t => ?_) fun o e => ?_
    · rcases Nat.eq_zero_or_pos d with z | z
      · have := h0 z
        omega
      · exact z
    · obtain ⟨x, hx, rfl, ns, e5, e4, e6, t⟩ := tu v hv
      exact ⟨ns, t.keeps fun b o e _ => Heap.get?_push_of_some _ e, e4⟩
    · obtain ⟨x, hx, rfl, ms, e5, e4, e6, t2⟩ := tu v hv
      have t3 : TS.TupInts (h'.push (seqObj "list" acc.toList.toArray 0)) (.ref x.2.1) ms := t2.keeps fun b o e _ => Heap.get?_push_of_some _ e
      rw [t2.ints, ← t.ints, ← t3.ints]
    · have e' : some o = some (seqObj "list" acc.toList.toArray 0) := e.symm.trans hoL
      cases e'
      intro c
      exact absurd (Value.type.inj c) (by decide)
  · obtain ⟨e', he'⟩ := PyProof.Rows.sortedHeap_at (vs := acc.toList) (out := if b = true then out.toArray.reverse else out.toArray) hoL
    have e0 : (if b = true then out.toArray.reverse else out.toArray) = (if b = true then out.reverse else out).toArray := by
      cases b with
      | true => simp
      | false => rfl
    have pm : (if b = true then out.reverse else out).Perm acc.toList := by
      have p := hsb.perm
      cases b with
      | true => exact (List.reverse_perm _).trans (p.trans (List.reverse_perm _))
      | false => exact p
    generalize hO : (if b = true then out.reverse else out) = out' at *
    have oin : ∀ v ∈ out', v ∈ acc.toList := fun v hv => pm.mem_iff.mp hv
    have er : out'.map (fun v => Value.ref (adrOf v)) = out' := by
      rw [List.map_congr_left (g := id) fun v hv => by
        obtain ⟨x, _, rfl, _⟩ := tu v (oin v hv)
        rfl]
      exact List.map_id _
    have hlo : (out'.map fun v => V.ref (adrOf v)).length ≤ sizeLine := by rw [List.length_map, pm.length_eq]; exact hzz
    have hv : Vals (out'.map fun v => V.ref (adrOf v)) out' := by
      have z := vals_refs (out'.map adrOf)
      rw [List.map_map, List.map_map] at z
      have z2 : Vals (out'.map fun v => V.ref (adrOf v)) (out'.map fun v => Value.ref (adrOf v)) := z
      rw [er] at z2
      exact z2
    refine wpAny_pure ⟨_, rfl, .ref h'.objs.size, upd H h'.objs.size (.lst (out'.map fun v => V.ref (adrOf v))), I1.laid (t' := tk) (fun b u e => ?_) (Nat.le_refl _)
      (show ObjOk X.prog X.w _ _ _ (.lst (out'.map fun v => V.ref (adrOf v))) from ⟨hlo, out', e', hv, by rw [← e0]; exact he'⟩), rfl, ?_⟩
    · have hb : b < h'.objs.size := Heap.lt_size e
      rw [PyProof.Rows.sortedHeap_old (Nat.ne_of_lt hb) (by rw [size_push']; exact Nat.lt_succ_of_lt hb)]
      exact Heap.get?_push_of_some _ e
    · have q := q (out'.map fun v => (adrOf v, TS.intsOf h' v)) h'.objs.size (fun x hx => ?_) ?_ ?_ (I1.hok.fresh (Nat.le_refl _))
      · rw [List.map_map] at q
        exact q
      · obtain ⟨v, hv, rfl⟩ := List.mem_map.mp hx
        obtain ⟨x, _, rfl, ns, _, _, e6, t⟩ := tu v (oin v hv)
        show H x.2.1 = some (.tup ((TS.intsOf h' (.ref x.2.1)).map V.int))
        rw [t.ints]
        exact e6
      · rw [List.map_map]
        have e3 : acc.toList.map ((fun x : Addr × List Int => x.2) ∘ fun v => (adrOf v, TS.intsOf h' v)) = kvs.map fun p => ksInts p.1 := by
          have e4 : (kvs.map fun p => ksInts p.1) = (kvs.map (·.1)).map ksInts := by rw [List.map_map]; rfl
          rw [e4, kk, ea, List.map_map, List.map_map]
          refine List.map_congr_left fun x hx => ?_
          obtain ⟨y, hy, ev, ns, e5, _, _, t⟩ := tu (.ref x.2.1) (by rw [ea]; exact List.mem_map_of_mem hx)
          show TS.intsOf h' (.ref x.2.1) = ksInts x.1
          have ex : H x.2.1 = some (.tup (x.1.map kV)) := kh x hx
          have hm : x.1 ∈ kvs.map (·.1) := by rw [kk]; exact List.mem_map_of_mem hx
          obtain ⟨p, hp, e⟩ := List.mem_map.mp hm
          obtain ⟨ms, e7, _⟩ := hks p hp
          have e8 : x.1 = ms.map Sum.inl := by rw [← e]; exact e7
          have t2 : TS.TupInts h' (.ref x.2.1) ms := tupI_raw I1 (.inl (.inl (by rw [ex, e8, List.map_map]; rfl)))
          rw [t2.ints, e8, ksInts_map]
        rw [← e3]
        exact pm.map _
      · rw [List.map_map]
        unfold OrdL
        have so : (out.map (TS.intsOf h')).Pairwise fun x y => TL.lexL y x = false := List.pairwise_map.mpr hso
        cases b with
        | true =>
          have hO : out.reverse = out' := hO
          rw [if_pos rfl, ← hO]
          show (List.map (TS.intsOf h') out.reverse).Pairwise _
          rw [List.map_reverse]
          exact List.pairwise_reverse.mpr so
        | false =>
          have hO : out = out' := hO
          rw [if_neg Bool.false_ne_true, ← hO]
          exact so
end
end L2

end

section
namespace Lin
open PySem PySem.Spec PySem.Calls PyProof.Rows L2
/-! dicts with tuple keys, and tuples that can be keys -/
def putG {κ : Type} [DecidableEq κ] (kvs : List (κ × D)) (k : κ) (v : D) : List (κ × D) :=
  if (kvs.any fun kv => decide (kv.1 = k)) = true then kvs.map (fun kv => if kv.1 = k then (kv.1, v) else kv) else kvs ++ [(k, v)]
theorem any_keysG {κ : Type} [DecidableEq κ] {k : κ} {α β : Type} : ∀ {a : List (κ × α)} {b : List (κ × β)}, a.map (·.1) = b.map (·.1) → (a.any fun kv => decide (kv.1 = k)) = (b.any fun kv => decide (kv.1 = k))
  | [], [], _ => rfl
  | [], _ :: _, h => by simp at h
  | _ :: _, [], h => by simp at h
  | x :: a, y :: b, h => by
    have h := List.cons.inj (show x.1 :: a.map (·.1) = y.1 :: b.map (·.1) from h)
    rw [List.any_cons, List.any_cons, any_keysG h.2, h.1]
section
variable {κ : Type} [DecidableEq κ] {K : PySem.W.Frag} {O : OW} {H : Hp}
theorem putG_keys {k : κ} {d : D} {v : V} {a : List (κ × V)} {b : List (κ × D)} (h : a.map (·.1) = b.map (·.1)) : (putK a k v).map (·.1) = (putG b k d).map (·.1) := by
  unfold putK putG
  rw [any_keysG h]
  split
  · rw [List.map_map, List.map_map]
    have e1 : ((fun kv : κ × V => kv.1) ∘ fun kv => if kv.1 = k then (kv.1, v) else kv) = fun kv => kv.1 := by
      funext kv; show (if kv.1 = k then (kv.1, v) else kv).1 = kv.1; split <;> rfl
    have e2 : ((fun kv : κ × D => kv.1) ∘ fun kv => if kv.1 = k then (kv.1, d) else kv) = fun kv => kv.1 := by
      funext kv; show (if kv.1 = k then (kv.1, d) else kv).1 = kv.1; split <;> rfl
    rw [e1, e2, h]
  · rw [List.map_append, List.map_append, h]; rfl
theorem repL_putG {k : κ} {d : D} {v : V} (rd : Rep K O H d v) : ∀ {a : List (κ × V)} {b : List (κ × D)}, a.map (·.1) = b.map (·.1) → RepL K O H (b.map (·.2)) (a.map (·.2)) →
    RepL K O H ((b.map (fun kv => if kv.1 = k then (kv.1, d) else kv)).map (·.2)) ((a.map (fun kv => if kv.1 = k then (kv.1, v) else kv)).map (·.2))
  | [], [], _, r => r
  | [], _ :: _, h, _ => by simp at h
  | _ :: _, [], h, _ => by simp at h
  | x :: a, y :: b, h, ⟨w, ws, e, p, q⟩ => by
    have h := List.cons.inj (show x.1 :: a.map (·.1) = y.1 :: b.map (·.1) from h)
    obtain ⟨e1, e2⟩ := List.cons.inj (show x.2 :: a.map (·.2) = w :: ws from e)
    subst e1 e2
    have ih := repL_putG (k := k) rd h.2 q
    refine ⟨(if x.1 = k then (x.1, v) else x).2, _, rfl, ?_, ih⟩
    show Rep K O H (if y.1 = k then (y.1, d) else y).2 (if x.1 = k then (x.1, v) else x).2
    rw [h.1]
    by_cases z : y.1 = k
    · rw [if_pos z, if_pos z]; exact rd
    · rw [if_neg z, if_neg z]; exact p
theorem putG_rep {k : κ} {d : D} {v : V} {a : List (κ × V)} {b : List (κ × D)} (h : a.map (·.1) = b.map (·.1)) (rd : Rep K O H d v) (r : RepL K O H (b.map (·.2)) (a.map (·.2))) : RepL K O H ((putG b k d).map (·.2)) ((putK a k v).map (·.2)) := by
  unfold putK putG
  rw [any_keysG h]
  split
  · exact repL_putG rd h r
  · rw [List.map_append, List.map_append]
    exact r.app ⟨v, [], rfl, rd, rfl⟩
end
theorem putG_len {κ : Type} [DecidableEq κ] {k : κ} {d : D} {b : List (κ × D)} : (putG b k d).length ≤ b.length + 1 := by
  unfold putG
  split
  · rw [List.length_map]; omega
  · rw [List.length_append]; exact Nat.le_refl _
abbrev TD := List (List Key × D)
def dtM (kvs : TD) : M := .dT (kvs.map (·.1)) ((kvs.map (·.2)).map M.val)
section
variable {X : Cx} {env env1 env2 : Sls} {a b c e f : Expr} {es : List Expr} {pos p p' pos' apos cpos : Pos} {d x y : D} {m : M} {ds : List D} {kvs : TD} {k : List Key} {n : Str} {s : Sl} {K : PySem.W.Frag} {O : OW} {H : Hp}
theorem ev_newT : Ev X (.Dict [] [] pos) env (dtM []) env := ⟨Io.refl _, fun O H σ F r w Q q => ⟨_, pe_dnewT, fun p hp => by
  have s0 : Step O H [] (fun a => O a ∨ a = p) (upd H p (.dT [])) [p] := Step.new (G := []) w.nil hp
  exact q _ _ (.ref p) [p] F ⟨p, [], [], rfl, rfl, upd_same, rfl, rfl, rfl⟩ (r.quiet s0) (s0.quiet w)⟩⟩
theorem repL_kV : ∀ k : List Key, RepL K O H (k.map kD) (k.map kV)
  | [] => rfl
  | x :: k => ⟨_, _, rfl, by cases x <;> rfl, repL_kV k⟩
/-- a key is a tuple like others -/
theorem Rep.ktup {v : V} (h : Rep K O H (.kt k) v) : Rep K O H (.tup (k.map kD)) v := by
  obtain ⟨a, e, p, r⟩ := h
  exact ⟨a, _, e, .inl ⟨p, .inl r⟩, repL_kV k⟩
theorem Ev.kt (h : Ev X e env (.val (.kt k)) env1) : Ev X e env (.val (.tup (k.map kD))) env1 :=
  ⟨h.1, fun O H σ F r w Q q => h.2 O H σ F r w Q fun O' H' v Fv F' ⟨ef, rv⟩ rs st => q O' H' v Fv F' ⟨ef, Rep.ktup rv⟩ rs st⟩
/-- tuple(list): a tuple that can be a key -/
theorem ev_tupK (ha : Ev X e env (.val (.lst (k.map kD))) env1) (hm : X.mg "tuple" = none := by assumption) (hg : Gl X "tuple" := by rfl) (he : starEach [e] X.env = (false, eval e X.env) :: starEach [] X.env := by rfl) (hpl : (backTo pos (starEach [] X.env)).any (·.1) = false := by rfl) : Ev X (.Call (.Name "tuple" p) [e] [] pos) env (.val (.kt k)) env1 :=
  ev_cty (ds := [.lst (k.map kD)]) call_tuple_of (fun O H w vs rl Q q => by
    obtain ⟨u, us, e, ⟨a, xs, hu, no, hp, rl⟩, hn⟩ := rl
    have ex : xs = k.map kV := by
      have z : ∀ (k : List Key) {xs : List V}, RepL X.K O H (k.map kD) xs → xs = k.map kV := fun k => by
        induction k with
        | nil => exact fun h => h
        | cons y k ih =>
          rintro xs ⟨v, vs, e, r, q⟩
          rw [e, rep_kD r, ih q]
          rfl
      exact z k rl
    refine ⟨a, xs, by rw [e, hu, show us = [] from hn], .inl ⟨.inl (.inl hp), fun l hl => ?_⟩⟩
    have hno : ¬ O l := fun z => by
      obtain ⟨o, ho⟩ := w.dom l z
      rw [hl] at ho; cases ho
    refine q O (upd H l (.tup xs)) (.ref l) [] ⟨rfl, l, rfl, hno, by rw [← ex]; exact upd_same⟩ ⟨fun b o h _ => by rw [upd_ne (fun z => by rw [z, hl] at h; cases h)]; exact h, fun b h => .inl h, fun b h _ => h, fun b h => (nomatch h), ⟨List.nodup_nil, fun b h => (nomatch h), fun b h => ?_, fun b u h z => ?_⟩⟩
    · obtain ⟨o, ho⟩ := w.dom b h
      exact ⟨o, by rw [upd_ne (fun z => by rw [z, hl] at ho; cases ho)]; exact ho⟩
    · obtain ⟨o, ho⟩ := w.dom b h
      rw [upd_ne (fun z => by rw [z, hl] at ho; cases ho)] at z
      exact w.nt b u h z) (ea_cons ha ea_nil he) hm (by decide +kernel) hg (by decide) (by decide) he hpl
/-- x[k] = e of an owned dict -/
theorem x1_setT (i : Nat) (he : Ev X e env (.val d) env1) (hb : Ev X b env1 (.val (.kt k)) env2) (hi : env2[i]? = some (some s)) (hm : s.m = dtM kvs) (hz : kvs.length < sizeLine) (hu : X.A.units + 1 < cLine) (hse : ∃ t, env1[i]? = some (some t) := by exact ⟨_, rfl⟩) (hN : X.N[i]? = some n := by rfl) (hv : Vis X.env.scope n := by first | exact Or.inl rfl | exact Or.inr (Or.inl rfl) | exact Or.inr (Or.inr rfl))
    (hd : (n == ("__debug__" : Str)) = false := by decide) (hcd : (n == ("__classdict__" : Str)) = false := by decide) (hs : swapsWithSole [.Subscript (.Name n p) b pos'] e pos.line X.env = pure false := by rfl) (hw : swappedStores [.Subscript (.Name n p) b pos'] e X.env = pure none := by rfl)
    (hasg : ∀ v, assign (.Subscript (.Name n p) b pos') X.env v = (do let ov ← holding [v] (eval (.Name n p) X.env); let iv ← holding [v, ov] (eval b X.env); standAt pos'; holding [v, ov, iv] (setItem ov iv v); release [v, ov, iv] []) := by intro _; rfl) :
    Ex1 X (.Assign [.Subscript (.Name n p) b pos'] e pos) env (.nx (env2.set i (some (s.put (dtM (putG kvs k d)))))) := fun O H σ F r w D g =>
  ⟨_, ps_asg pe_w (pg_sub (pe_var hN hv hd hcd) pe_w (set_dict hu) hasg) hs hw, he.2 O H σ F r w _ fun O1 H1 u Fu G ⟨eu, ru⟩ r1 s1 => by
    subst eu
    obtain ⟨t, ht⟩ := hse
    obtain ⟨v, F1, Fi, F2, e1, ef, _, _, _⟩ := RepS.at r1 ht
    refine ⟨v, e1, hb.2 O1 H1 σ G r1 s1.wf _ fun O2 H2 u2 Fu2 G' ⟨eu2, ru2⟩ r2 s2 => ?_⟩
    subst eu2
    obtain ⟨kb, ek, _, kh⟩ := ru2
    subst ek
    have w2 : Wf O2 H2 ([] ++ G') := s2.wf
    obtain ⟨v', Fi', e2, rm, kk⟩ := slot_upd r2 hi w2
    have ev : v' = v := by rw [e1] at e2; exact (Option.some.inj (Option.some.inj e2)).symm
    subst ev
    rw [hm] at rm
    obtain ⟨l, kv, F', el, ef', hp, hk, rl⟩ := rm
    obtain ⟨ol, nl, k2⟩ := kk l F' ef'
    have eF : F' = [] := by
      have z : ∀ (ds : List Lin.D) {vs : List V} {F : List Addr}, RepML X.K O2 H2 (ds.map M.val) vs F → F = [] := fun ds => by
        induction ds with
        | nil => exact fun h => h.2
        | cons d ds ih =>
          rintro vs F ⟨v, vs', G1, G2, _, eg, p, q⟩
          rw [eg, p.1, ih q]; rfl
      exact z _ rl
    subst eF
    have rl2 := repL_vals rl
    have hl : kv.length = kvs.length := by
      have := congrArg List.length hk
      rw [List.length_map, List.length_map] at this
      exact this
    have kf : ∀ a o, H2 a = some o → ¬ O2 a → upd H2 l (.dT (putK kv k u)) a = some o := fun a o h n => by rw [upd_ne (fun e => n (by rw [e]; exact ol))]; exact h
    obtain ⟨F2', rs2, s3, _⟩ := k2 (.dT (putK kv k u)) (dtM (putG kvs k d)) [] [] [] (by simp) ⟨l, _, [], el, rfl, upd_same, putG_keys hk, repML_val _ (RepL.keep kf (fun a h => .inl h) _ (putG_rep hk (s2.rep s1.wf ru) rl2))⟩
    exact ⟨l, _, el, .inr ⟨kv, k, kb, hp, rfl, kh, by omega, rfl⟩, g O2 _ σ F2' rs2 ((s1.trans w s2).trans w s3) (Pins.of (he.1.trans (hb.1.trans (Io.put hi))))⟩⟩
end
end Lin

end

section
namespace Lin
open PySem PySem.Spec PySem.Calls PyProof.Rows L2
/-! sorted(d, reverse=True) of a dict whose keys are tuples of ints, by values -/
def ktI (l : List Int) : D := .kt (l.map Sum.inl)
abbrev Desc (L : List (List Int)) : Prop := L.Pairwise fun x y => TL.lexL x y = false
theorem desc_eq {a b : List (List Int)} (p : a.Perm b) (ha : Desc a) (hb : Desc b) : a = b := p.eq_of_pairwise (fun x y _ _ h1 h2 => TL.lex_tot x y h1 h2) ha hb
theorem ktI_rep {K : PySem.W.Frag} {O : OW} {H : Hp} : ∀ L : List (Addr × List Int), (∀ q ∈ L, ¬ O q.1 ∧ H q.1 = some (.tup (q.2.map V.int))) → RepL K O H ((L.map (·.2)).map ktI) (L.map fun q => V.ref q.1)
  | [], _ => rfl
  | q :: L, h => ⟨_, _, rfl, ⟨q.1, rfl, (h q (List.mem_cons_self ..)).1, by rw [(h q (List.mem_cons_self ..)).2, List.map_map]; rfl⟩, ktI_rep L fun x hx => h x (List.mem_cons_of_mem _ hx)⟩
section
variable {X : Cx} {env env1 env2 : Sls} {e e2 : Expr} {pos p kpos : Pos} {ds : List D} {n : Str} {nm : Option Str}
theorem ev_sortDT {ls L0 : List (List Int)} {dim : Nat} (ha : Ev X e env (.val (.dT (ls.map fun l => l.map Sum.inl) ds)) env1) (hb : Ev X e2 env1 (.val (.bool true)) env2) (hd : ∀ l ∈ ls, l.length = dim) (h0 : dim = 0 → ls.length < 2) (hp : L0.Perm ls) (hs : Desc L0)
    (hc : X.calm = true := by rfl) (hm : X.mg "sorted" = none := by assumption) (hg : Gl X "sorted" := by rfl) (he : starEach [e] X.env = (false, eval e X.env) :: starEach [] X.env := by rfl)
    (hbt : backTo pos (starEach [e] X.env) = (false, eval e X.env) :: backTo pos (starEach [] X.env) := by rfl) (hpl : (backTo pos (starEach [e] X.env)).any (·.1) = false := by rfl)
    (hall : (backToKw pos (keywordEach [⟨nm, e2, kpos⟩] X.env)).all (·.1.isSome) = true := by rfl) (hnone : (backToKw pos (keywordEach [⟨nm, e2, kpos⟩] X.env)).any (·.1.isNone) = false := by rfl) (hks : (backToKw pos (keywordEach [⟨nm, e2, kpos⟩] X.env)).filterMap (·.1) = [Str.ofString "reverse"] := by rfl) :
    Ev X (.Call (.Name "sorted" p) [e] [⟨nm, e2, kpos⟩] pos) env (.lst ((L0.map ktI).map M.val)) env2 := by
  have ha2 : EvAs X [e] env [AK.v (.dT (ls.map fun l => l.map Sum.inl) ds)] env1 := ea_cons ha ea_nil he
  refine ⟨ha2.1.trans hb.1, fun O H σ F rs w Q q => ⟨_, pe_callBK (cr_sortDT (b := true) hc) hg hm (by decide +kernel) pa_w (pk_cons pe_w pk_nil) (by decide) (by decide) hbt hpl hall hnone hks, ha2.2 O H σ F rs w _ fun O1 H1 vs F1 ra r1 s1 => hb.2 O1 H1 σ F1 r1 s1.wf _ fun O2 H2 z Fz F2 ⟨ez, rz⟩ r2 s2 => ?_⟩⟩
  subst ez
  obtain ⟨u, us, eu, ru, eus⟩ := repL_of [.dT (ls.map fun l => l.map Sum.inl) ds] ra
  obtain ⟨a, kvs, ea, no, hd2, hks2, rl⟩ := s2.rep s1.wf ru
  have w2 : Wf O2 H2 F2 := s2.wf
  have mem : ∀ p ∈ kvs, ∃ ns ∈ ls, p.1 = ns.map Sum.inl := fun p hp => by
    have z : p.1 ∈ kvs.map (·.1) := List.mem_map_of_mem hp
    rw [hks2] at z
    obtain ⟨ns, hn, e⟩ := List.mem_map.mp z
    exact ⟨ns, hn, e.symm⟩
  have hl : kvs.length = ls.length := by
    have := congrArg List.length hks2
    rw [List.length_map, List.length_map] at this
    exact this
  show rSortDT true vs [z] H2 Q
  refine ⟨a, kvs, dim, by rw [eu, ea, show us = [] from eus], by rw [show z = V.bl true from rz], hd2, fun p hp => ?_, fun h => by rw [hl]; exact h0 h, fun L p hL hpm ho hpn => ?_⟩
  · obtain ⟨ns, hn, e⟩ := mem p hp
    exact ⟨ns, e, hd ns hn⟩
  have ek : (kvs.map fun p => ksInts p.1) = ls := by
    have e4 : (kvs.map fun p => ksInts p.1) = (kvs.map (·.1)).map ksInts := by rw [List.map_map]; rfl
    rw [e4, hks2, List.map_map]
    have e5 : (ksInts ∘ fun l : List Int => (l.map Sum.inl : List Key)) = id := by
      funext l
      exact ksInts_map l
    rw [e5, List.map_id]
  rw [ek] at hpm
  have ho : Desc (L.map (·.2)) := by
    unfold OrdL at ho
    rw [if_pos rfl] at ho
    exact ho
  have eL : L.map (·.2) = L0 := desc_eq (hpm.trans hp.symm) ho hs
  have s0 : Step O2 H2 [] (fun a => O2 a ∨ a = p) (upd H2 p (.lst (L.map fun q => V.ref q.1))) [p] := Step.new (G := []) w2.nil hpn
  refine q _ _ (.ref p) [p] F2 ⟨p, _, [], rfl, rfl, upd_same, repML_val _ ?_⟩ (r2.quiet s0) ((s1.trans w s2).trans w (s0.quiet w2))
  rw [← eL]
  refine ktI_rep L fun x hx => ?_
  have hx2 := hL x hx
  have ne : x.1 ≠ p := fun z => by rw [z, hpn] at hx2; cases hx2
  refine ⟨fun z => ?_, by rw [upd_ne ne]; exact hx2⟩
  rcases z with z | z
  · exact (w2.nt _ _ z hx2).elim
  · exact ne z
end
end Lin

end

section
namespace Lin
open PySem PySem.Spec PyProof.Rows L2
/-! list comprehensions with two clauses -/
def bI (X : Cx) (scope : Scope) (tg it : Expr) : TI := fun σ H R => InB X scope fun X' => wI X' tg it σ H R
theorem bi_ok {X : Cx} {scope : Scope} {tg it : Expr} (s : Shared) (H : Hp) (C : Addr) (cl : List (Str × Addr)) (fp : List Addr) : PI (X.blk s H scope (compEnvC scope cl C X.env) fp) tg it (bI X scope tg it) := ⟨fun pins s' σ H' R I h => pi_w.run pins s' σ H' R I (h s H C cl fp)⟩
inductive Lc2R (X : Cx) (scope : Scope) (tg tg1 it1 elt : Expr) (ifs ifs1 : List Expr) (vs vs1 : List Nat) : List D → Sls → List M → Sls → Prop
  | nil {env : Sls} : Lc2R X scope tg tg1 it1 elt ifs ifs1 vs vs1 [] env [] env
  | yes {d : D} {ds ds1 : List D} {env env1 env2 env3 env4 env' : Sls} {ms1 ms : List M} : (InB X scope fun X' => Tg X' tg d vs env env1) → (InB X scope fun X' => Tvs X' ifs env1 true env2) → (InB X scope fun X' => Iv X' tg1 it1 env2 ds1 env3) → Bare env3 vs1 → LcR X scope tg1 elt ifs1 vs1 ds1 env3 ms1 env4 → Lc2R X scope tg tg1 it1 elt ifs ifs1 vs vs1 ds (wipeE env4 vs) ms env' → Lc2R X scope tg tg1 it1 elt ifs ifs1 vs vs1 (d :: ds) env (ms1 ++ ms) env'
section
variable {X : Cx} {env env1 env3 env4 env' : Sls} {ys : List D} {ms : List M} {pos : Pos} {elt tg it tg1 it1 : Expr} {ifs ifs1 : List Expr} {scope : Scope} {own : List (Str × Nat)}
theorem Lc2R.io {vs vs1 : List Nat} (s0 : Shared) (H0 : Hp) (h : Lc2R X scope tg tg1 it1 elt ifs ifs1 vs vs1 ys env ms env') : Bare env vs → Io env env' := by
  induction h with
  | nil => exact fun _ => Io.refl _
  | yes h1 h2 h3 hb h4 _ ih => exact fun b => (io_wipe b ((((h1 s0 H0 0 [] []).1.trans (h2 s0 H0 0 [] []).1).trans (h3 s0 H0 0 [] []).1).trans (h4.io s0 H0 hb))).trans (ih (bare_wipe _ _))
theorem lc_inner {O O5 : OW} {H H5 : Hp} {F F5 Fa0 : List Addr} {ds1 : List D} {D : Addr} {σ : L2.St} {J : It} {ms0 msI : List M} {acc0 : List V} {vs1 : List Nat} {Nx : Hp → Prop} (w : Wf O H F)
    (wk : Wk X.K O5 H5 J ds1) (lr0 : LcR X scope tg1 elt ifs1 vs1 ds1 env3 msI env4) (hb : Bare env3 vs1) (hD5 : H5 D = some (.lst acc0)) (ra : RepML X.K O5 H5 ms0 acc0 Fa0) (rs0 : RepS X.K O5 H5 env3 σ F5) (st0 : Step O H F O5 H5 ((D :: Fa0) ++ F5)) (hz : ms0.length + msI.length ≤ sizeLine)
    (hNx : ∀ (O6 : OW) (H6 : Hp) (acc : List V) (Fa F6 : List Addr), RepS X.K O6 H6 env4 σ F6 → H6 D = some (.lst acc) → RepML X.K O6 H6 (ms0 ++ msI) acc Fa → Kept O5 H5 O6 H6 → Step O H F O6 H6 ((D :: Fa) ++ F6) → Nx H6) :
    ∃ W : Nat → Nat → Hp → Prop, (∃ m, W 0 m H5) ∧ ∀ i m H', W i m H' → (J.stop i H' ∧ Nx H') ∨ (J.go i H' ∧ ∃ Nx1 : Hp → Prop, (∀ H', Nx1 H' → ∃ m', m' < m ∧ W (i + 1) m' H') ∧ ∀ x H2, J.yld i H' x H2 → bG X scope tg1 x (wipe σ vs1) H2 fun σ3 H3 => wipe σ3 vs1 = wipe σ vs1 ∧ bTs X scope ifs1 σ3 H3 fun b H4 =>
      if b = true then bE X scope elt σ3 H4 fun y H7 => ∃ acc, H7 D = some (.lst acc) ∧ acc.length < sizeLine ∧ Nx1 (upd H7 D (.lst (acc ++ [y]))) else Nx1 H4) := by
  let St (i : Nat) (H' : Hp) : Prop := ∃ (env2 : Sls) (O2 : OW) (F2 Fa : List Addr) (acc : List V) (ms1 ms2 : List M), ms0 ++ msI = ms1 ++ ms2 ∧ LcR X scope tg1 elt ifs1 vs1 (ds1.drop i) env2 ms2 env4 ∧ Bare env2 vs1 ∧ RepS X.K O2 H' env2 (wipe σ vs1) F2 ∧ H' D = some (.lst acc) ∧ RepML X.K O2 H' ms1 acc Fa ∧ Kept O5 H5 O2 H' ∧ Step O H F O2 H' ((D :: Fa) ++ F2)
  refine ⟨fun i m H' => m = ds1.length - i ∧ i ≤ ds1.length ∧ St i H', ⟨ds1.length, rfl, Nat.zero_le _, ?_⟩, ?_⟩
  · exact ⟨env3, O5, F5, Fa0, acc0, ms0, msI, rfl, lr0, hb, rs0.loose (wipe_length σ vs1) (fun i s z => wipe_get (hb i s z)), hD5, ra, Kept.refl, st0⟩
  rintro i m H' ⟨rfl, hle, env2, O2, F2, Fa, acc, ms1, ms2, ems, lr, bare, rs, hDa, rml, kp, st⟩
  have wf := st.wf
  have hlen : ms1.length + ms2.length ≤ sizeLine := by
    have := congrArg List.length ems
    rw [List.length_append, List.length_append] at this
    omega
  obtain ⟨sp, go⟩ := wk O2 H' _ kp wf
  rcases Nat.lt_or_ge i ds1.length with hlt | hge
  · have hd : ds1[i]? = some ds1[i] := List.getElem?_eq_getElem hlt
    obtain ⟨g1, yl⟩ := go i _ hd
    have ed : ds1.drop i = ds1[i] :: ds1.drop (i + 1) := List.drop_eq_getElem_cons hlt
    rw [ed] at lr
    generalize ds1[i] = d at *
    generalize hds : ds1.drop (i + 1) = ds at *
    refine .inr ⟨g1, St (i + 1), fun H2 z => ⟨ds1.length - (i + 1), by omega, rfl, hlt, z⟩, fun x H2 y => ?_⟩
    obtain ⟨s2, rx⟩ := yl x H2 y
    have st2 : Step O H F O2 H2 ((D :: Fa) ++ F2) := st.trans w (s2.quiet wf)
    have wf2 := st2.wf
    have wfF : Wf O2 H2 F2 := wf2.right
    have rs2 : RepS X.K O2 H2 env2 (wipe σ vs1) F2 := rs.quiet s2
    have hD2 : H2 D = some (.lst acc) := s2.frame D _ hDa (by simp)
    have rml2 : RepML X.K O2 H2 ms1 acc Fa := s2.repML wf.nil (fun _ _ => by simp) rml
    have kp2 : Kept O5 H5 O2 H2 := kp.trans (s2.kept wf.nil)
    have dF : D ∉ F2 := fun z => wf2.apart (List.mem_cons_self ..) z
    have dA : D ∉ Fa := fun z => (List.nodup_cons.mp (List.nodup_append.mp wf2.nd).1).1 z
    have aF : ∀ a ∈ Fa, a ∉ F2 := fun a h z => wf2.apart (List.mem_cons_of_mem _ h) z
    have pmF : ((D :: Fa) ++ F2).Perm (F2 ++ (D :: Fa)) := List.perm_append_comm
    have wip : ∀ σ3, SameBut vs1 (wipe σ vs1) σ3 → wipe σ3 vs1 = wipe σ vs1 := fun σ3 b => by
      rw [wipe_ext b.1 b.2, wipe_wipe]
    cases lr with
    | yes h1 h2 h3 hn =>
      intro s0 H0 C0 cl0 fp0
      refine (h1 s0 H0 C0 cl0 fp0).2 O2 H2 (wipe σ vs1) F2 x rx rs2 wfF _ fun σ3 F3 r3 s3 p3 b3 => ⟨wip σ3 b3, fun s0 H0 C0 cl0 fp0 => ?_⟩
      refine (h2 s0 H0 C0 cl0 fp0).2 O2 H2 σ3 F3 r3 s3.wf _ fun O4 H4 F4 r4 s4 => ?_
      rw [if_pos rfl]
      intro s0 H0 C0 cl0 fp0
      refine (h3 s0 H0 C0 cl0 fp0).2 O4 H4 σ3 F4 r4 s4.wf _ fun O5 H5 v Fv F5 rv r5 s5 => ?_
      have s25 : Step O2 H2 F2 O5 H5 (Fv ++ F5) := (s3.trans wfF s4).trans wfF s5
      have sB := (s25.beside (wf2.perm pmF)).permL pmF.symm
      have hD5 : H5 D = some (.lst acc) := s25.frame D _ hD2 dF
      have rml5 : RepML X.K O5 H5 ms1 acc Fa := s25.repML wfF aF rml2
      obtain ⟨F6, G, pm6, r6⟩ := RepS.wipeN r5 vs1
      rw [wip σ3 b3] at r6
      have wf5 := sB.wf
      have dIn : D ∈ (Fv ++ F5) ++ (D :: Fa) := List.mem_append_right _ (List.mem_cons_self ..)
      have oD : O5 D := wf5.own D dIn
      have dV : D ∉ Fv ++ F5 := fun z => wf5.apart z (List.mem_cons_self ..)
      have sW : Step O5 H5 ((Fv ++ F5) ++ (D :: Fa)) O5 (upd H5 D (.lst (acc ++ [v]))) ((Fv ++ F5) ++ (D :: Fa)) := Step.write wf5 dIn
      have kf : ∀ a o, H5 a = some o → ¬ O5 a → upd H5 D (.lst (acc ++ [v])) a = some o := fun a o h n => by
        rw [upd_ne (fun e => n (by rw [e]; exact oD))]; exact h
      have ku : ∀ a o, a ≠ D → H5 a = some o → upd H5 D (.lst (acc ++ [v])) a = some o := fun a o n h => by rw [upd_ne n]; exact h
      have rml6 : RepML X.K O5 (upd H5 D (.lst (acc ++ [v]))) (ms1 ++ [_]) (acc ++ [v]) (Fa ++ Fv) :=
        RepML.keep kf (fun a h => .inl h) _ (fun a o ha h => ku a o (fun e => by
          subst e
          rcases List.mem_append.mp ha with z | z
          · exact dA z
          · exact dV (List.mem_append_left _ z)) h) (rml5.snoc rv)
      have r7 : RepS X.K O5 (upd H5 D (.lst (acc ++ [v]))) (wipeE _ vs1) (wipe σ vs1) F6 :=
        RepS.keep kf (fun a h => .inl h) _ (fun a o ha h => ku a o (fun e => by
          subst e
          exact dV (List.mem_append_right _ (pm6.mem_iff.mpr (List.mem_append_left _ ha)))) h) r6
      have s6 : Step O2 H2 ((D :: Fa) ++ F2) O5 (upd H5 D (.lst (acc ++ [v]))) ((D :: (Fa ++ Fv)) ++ F6) :=
        ((sB.trans wf2 sW).permR (F2 := ((D :: (Fa ++ Fv)) ++ F6) ++ G) (List.perm_iff_count.mpr fun a => by
          have := List.perm_iff_count.mp pm6 a
          simp only [List.count_append, List.count_cons] at this ⊢
          omega)).dropR
      refine ⟨acc, hD5, by rw [rml5.len]; simp only [List.length_cons] at hlen; omega, ?_⟩
      exact ⟨_, O5, F6, Fa ++ Fv, acc ++ [v], ms1 ++ [_], _, by rw [ems, List.append_assoc]; rfl, by rw [hds]; exact hn, bare_wipe _ _, r7, upd_same, rml6, kp2.trans (s6.kept wf2), st2.trans w s6⟩
    | no h1 h2 hn =>
      intro s0 H0 C0 cl0 fp0
      refine (h1 s0 H0 C0 cl0 fp0).2 O2 H2 (wipe σ vs1) F2 x rx rs2 wfF _ fun σ3 F3 r3 s3 p3 b3 => ⟨wip σ3 b3, fun s0 H0 C0 cl0 fp0 => ?_⟩
      refine (h2 s0 H0 C0 cl0 fp0).2 O2 H2 σ3 F3 r3 s3.wf _ fun O4 H4 F4 r4 s4 => ?_
      rw [if_neg Bool.false_ne_true]
      have s24 : Step O2 H2 F2 O4 H4 F4 := s3.trans wfF s4
      have sB := (s24.beside (wf2.perm pmF)).permL pmF.symm
      have hD5 : H4 D = some (.lst acc) := s24.frame D _ hD2 dF
      have rml5 : RepML X.K O4 H4 ms1 acc Fa := s24.repML wfF aF rml2
      obtain ⟨F6, G, pm6, r6⟩ := RepS.wipeN r4 vs1
      rw [wip σ3 b3] at r6
      have s6 : Step O2 H2 ((D :: Fa) ++ F2) O4 H4 ((D :: Fa) ++ F6) :=
        (sB.permR (F2 := ((D :: Fa) ++ F6) ++ G) (List.perm_iff_count.mpr fun a => by
          have := List.perm_iff_count.mp pm6 a
          simp only [List.count_append, List.count_cons] at this ⊢
          omega)).dropR
      exact ⟨_, O4, F6, Fa, acc, ms1, ms2, ems, by rw [hds]; exact hn, bare_wipe _ _, r6, hD5, rml5, kp2.trans (s6.kept wf2), st2.trans w s6⟩
  · have ei : i = ds1.length := by omega
    subst ei
    rw [List.drop_eq_nil_of_le (Nat.le_refl _)] at lr
    refine .inl ⟨sp, ?_⟩
    cases lr
    rw [List.append_nil] at ems
    rw [← ems] at rml
    exact hNx O2 H' acc Fa F2 (rs.loose (wipe_length σ vs1).symm fun i s z => (wipe_get (bare i s z)).symm) hDa rml kp st
theorem lc2_sem {vs1 : List Nat} (hi : Iv X tg it env ys env1) (hr : Lc2R X scope tg tg1 it1 elt ifs ifs1 (own.map (·.2)) vs1 ys env1 ms env') (hb : Bare env1 (own.map (·.2))) (hz : ms.length ≤ sizeLine) (O : OW) (H : Hp) (σ : L2.St) (F : List Addr) (r : RepS X.K O H env σ F) (w : Wf O H F) (Q : VK)
    (q : ∀ (O' : OW) (H' : Hp) (v : V) (Fv F' : List Addr), RepM X.K O' H' (.lst ms) v Fv → RepS X.K O' H' env' σ F' → Step O H F O' H' (Fv ++ F') → Q v H') : tLc2 (wI X tg it) (bG X scope tg) (bTs X scope ifs) (bI X scope tg1 it1) (bG X scope tg1) (bTs X scope ifs1) (bE X scope elt) (own.map (·.2)) vs1 σ H Q := by
  refine hi.2 O H σ F r w _ fun O1 H1 J F1 wk r1 s1 D hD => ?_
  generalize hvs : own.map (·.2) = vs at *
  let St (i : Nat) (H' : Hp) : Prop := ∃ (env2 : Sls) (O2 : OW) (F2 Fa : List Addr) (acc : List V) (ms1 ms2 : List M), ms = ms1 ++ ms2 ∧ Lc2R X scope tg tg1 it1 elt ifs ifs1 vs vs1 (ys.drop i) env2 ms2 env' ∧ Bare env2 vs ∧ RepS X.K O2 H' env2 (wipe σ vs) F2 ∧ H' D = some (.lst acc) ∧ RepML X.K O2 H' ms1 acc Fa ∧ Kept O1 H1 O2 H' ∧ Step O H F O2 H' ((D :: Fa) ++ F2)
  refine ⟨fun i m H' => m = ys.length - i ∧ i ≤ ys.length ∧ St i H', ⟨ys.length, rfl, Nat.zero_le _, ?_⟩, ?_⟩
  · have s0 : Step O1 H1 [] (fun a => O1 a ∨ a = D) (upd H1 D (.lst [])) [D] := Step.new (G := []) s1.wf.nil hD
    refine ⟨env1, _, F1, [], [], [], ms, rfl, hr, hb, (RepS.quiet s0 r1).loose (wipe_length σ vs) (fun i s z => wipe_get (hb i s z)), upd_same, ⟨rfl, rfl⟩, s0.kept s1.wf.nil, s1.trans w (s0.quiet s1.wf)⟩
  rintro i m H' ⟨rfl, hle, env2, O2, F2, Fa, acc, ms1, ms2, ems, lr, bare, rs, hDa, rml, kp, st⟩
  have wf := st.wf
  obtain ⟨sp, go⟩ := wk O2 H' _ kp wf
  rcases Nat.lt_or_ge i ys.length with hlt | hge
  · have hd : ys[i]? = some ys[i] := List.getElem?_eq_getElem hlt
    obtain ⟨g1, yl⟩ := go i _ hd
    have ed : ys.drop i = ys[i] :: ys.drop (i + 1) := List.drop_eq_getElem_cons hlt
    rw [ed] at lr
    generalize ys[i] = d at *
    generalize hds : ys.drop (i + 1) = ds at *
    refine .inr ⟨g1, St (i + 1), fun H2 z => ⟨ys.length - (i + 1), by omega, rfl, hlt, z⟩, fun x H2 y => ?_⟩
    obtain ⟨s2, rx⟩ := yl x H2 y
    have st2 : Step O H F O2 H2 ((D :: Fa) ++ F2) := st.trans w (s2.quiet wf)
    have wf2 := st2.wf
    have wfF : Wf O2 H2 F2 := wf2.right
    have rs2 : RepS X.K O2 H2 env2 (wipe σ vs) F2 := rs.quiet s2
    have hD2 : H2 D = some (.lst acc) := s2.frame D _ hDa (by simp)
    have rml2 : RepML X.K O2 H2 ms1 acc Fa := s2.repML wf.nil (fun _ _ => by simp) rml
    have kp2 : Kept O1 H1 O2 H2 := kp.trans (s2.kept wf.nil)
    have dF : D ∉ F2 := fun z => wf2.apart (List.mem_cons_self ..) z
    have dA : D ∉ Fa := fun z => (List.nodup_cons.mp (List.nodup_append.mp wf2.nd).1).1 z
    have aF : ∀ a ∈ Fa, a ∉ F2 := fun a h z => wf2.apart (List.mem_cons_of_mem _ h) z
    have pmF : ((D :: Fa) ++ F2).Perm (F2 ++ (D :: Fa)) := List.perm_append_comm
    have wip : ∀ σ3, SameBut vs (wipe σ vs) σ3 → wipe σ3 vs = wipe σ vs := fun σ3 b => by
      rw [wipe_ext b.1 b.2, wipe_wipe]
    cases lr with
    | @yes _ _ ds1 _ _ _ env3 env4 _ msI msR h1 h2 h3 hb3 h4 hn =>
      intro s0 H0 C0 cl0 fp0
      refine (h1 s0 H0 C0 cl0 fp0).2 O2 H2 (wipe σ vs) F2 x rx rs2 wfF _ fun σ3 F3 r3 s3 p3 b3 => ⟨wip σ3 b3, fun s0 H0 C0 cl0 fp0 => ?_⟩
      refine (h2 s0 H0 C0 cl0 fp0).2 O2 H2 σ3 F3 r3 s3.wf _ fun O4 H4 F4 r4 s4 => ?_
      rw [if_pos rfl]
      intro s0 H0 C0 cl0 fp0
      refine (h3 s0 H0 C0 cl0 fp0).2 O4 H4 σ3 F4 r4 s4.wf _ fun O5 H5 J1 F5 wk5 r5 s5 => ?_
      have s25 : Step O2 H2 F2 O5 H5 F5 := (s3.trans wfF s4).trans wfF s5
      have sB : Step O2 H2 ((D :: Fa) ++ F2) O5 H5 ((D :: Fa) ++ F5) := ((s25.beside (wf2.perm pmF)).permL pmF.symm).permR List.perm_append_comm
      have hD5 : H5 D = some (.lst acc) := s25.frame D _ hD2 dF
      have rml5 : RepML X.K O5 H5 ms1 acc Fa := s25.repML wfF aF rml2
      have st5 : Step O H F O5 H5 ((D :: Fa) ++ F5) := st2.trans w sB
      have hlen : ms1.length + msI.length ≤ sizeLine := by
        have := congrArg List.length ems
        rw [List.length_append, List.length_append] at this
        omega
      refine lc_inner w wk5 h4 hb3 hD5 rml5 r5 st5 hlen fun O6 H6 acc6 Fa6 F6 r6 hD6 rml6 kp6 st6 => ?_
      obtain ⟨F7, G, pm7, r7⟩ := RepS.wipeN r6 vs
      rw [wip σ3 b3] at r7
      have st7 : Step O H F O6 H6 ((D :: Fa6) ++ F7) := (st6.permR (F2 := ((D :: Fa6) ++ F7) ++ G) (List.perm_iff_count.mpr fun a => by
          have := List.perm_iff_count.mp pm7 a
          simp only [List.count_append, List.count_cons] at this ⊢
          omega)).dropR
      exact ⟨_, O6, F7, Fa6, acc6, ms1 ++ msI, msR, by rw [ems, List.append_assoc], by rw [hds]; exact hn, bare_wipe _ _, r7, hD6, rml6, (kp2.trans (sB.kept wf2)).trans kp6, st7⟩
  · have ei : i = ys.length := by omega
    subst ei
    rw [List.drop_eq_nil_of_le (Nat.le_refl _)] at lr
    refine .inl ⟨sp, ?_⟩
    cases lr
    rw [List.append_nil] at ems
    subst ems
    refine q O2 H' (.ref D) (D :: Fa) F2 ⟨D, acc, Fa, rfl, rfl, hDa, rml⟩ (rs.loose (wipe_length σ vs).symm fun i s z => (wipe_get (bare i s z)).symm) st
theorem ev_lc2 {vs1 : List Nat} (hi : Iv X tg it env ys env1) (hr : Lc2R X scope tg tg1 it1 elt ifs ifs1 (own.map (·.2)) vs1 ys env1 ms env') (hb : Bare env1 (own.map (·.2))) (ok : BlkOk X.N X.env.scope scope own) (hz : ms.length ≤ sizeLine) (hv : ∀ i ∈ vs1, i ∈ own.map (·.2) := by decide) (hN : X.N.Nodup := by assumption)
    (hc : X.calm = true := by rfl) (hs : ∀ x, foldedSetIterable it X.env x = pure x := by intro _; rfl) (hs1 : ∀ env x, foldedSetIterable it1 env x = pure x := by intro _ _; rfl) : Ev X (.ListComp elt [⟨tg, it, ifs, 0⟩, ⟨tg1, it1, ifs1, 0⟩] scope pos) env (.lst ms) env' :=
  ⟨hi.1.trans (hr.io X.s_0 X.H_0 hb), fun O H σ F r w Q q => ⟨_, pe_lc2 hc hN pi_w ok hv bg_ok bts_ok bi_ok bg_ok bts_ok be_ok hs hs1, lc2_sem hi hr hb hz O H σ F r w Q q⟩⟩
end
end Lin

end

section
namespace Lin
open PySem PySem.Spec PySem.Calls PyProof.Rows L2
/-! max of lists: of ints, and of pairs ((x,), s) -/
def prX (p : Int × Int) : D := .tup [.tup [.int p.1], .int p.2]
def prY (p : Int × Int) : PyData := .tuple [.tuple [.int p.1], .int p.2]
theorem pd_prX : ∀ ps : List (Int × Int), plainL (ps.map prX) = true ∧ pdL (ps.map prX) = ps.map prY
  | [] => ⟨rfl, rfl⟩
  | p :: ps => by
    obtain ⟨a, b⟩ := pd_prX ps
    refine ⟨?_, ?_⟩
    · show (plain (prX p) && plainL (ps.map prX)) = true
      rw [a]; rfl
    · show pd (prX p) :: pdL (ps.map prX) = _
      rw [b]; rfl
def prLt (p q : Int × Int) : Bool := decide (p.1 < q.1 ∨ (p.1 = q.1 ∧ p.2 < q.2))
theorem lt_prY (p q : Int × Int) : PySem.W.dataLt (prY p) (prY q) = prLt p q := by
  unfold prY prLt
  rw [PySem.W.dataLt_pair (by simp [PySem.W.alike, PySem.W.alikeAll]) (by simp [PySem.W.alike]), PySem.W.dataLt_int]
  have e1 : PyData.eqv (.tuple [.int p.1]) (.tuple [.int q.1]) = decide (p.1 = q.1) := by simp [PyData.eqv, PyData.eqvAll]; rw [Bool.eq_iff_iff]; simp
  have e2 : PySem.W.dataLt (.tuple [.int p.1]) (.tuple [.int q.1]) = decide (p.1 < q.1) := by
    rw [PySem.W.dataLt_tuple, PySem.W.dataLt_cons (by simp [PySem.W.alike]), PySem.W.dataLt_int]
    have e : PyProof.Rows.lexLt itemOrd (PySem.W.keyToksAll []) (PySem.W.keyToksAll []) = false := PyProof.Rows.lex_irrefl _
    rw [e]
    have e3 : PyData.eqv (.int p.1) (.int q.1) = decide (p.1 = q.1) := by simp [PyData.eqv]; rw [Bool.eq_iff_iff]; simp
    rw [e3]
    by_cases h : p.1 = q.1
    · rw [if_pos (decide_eq_true h)]
      exact (decide_eq_false (by omega)).symm
    · rw [if_neg (by simpa using h)]
  have e4 : PyData.eqv (.int p.2) (.int q.2) = decide (p.2 = q.2) := by simp [PyData.eqv]; rw [Bool.eq_iff_iff]; simp
  rw [e1, e2, e4]
  by_cases h : p.1 = q.1
  · rw [if_pos (decide_eq_true h)]
    by_cases h2 : p.2 = q.2
    · rw [if_pos (decide_eq_true h2)]
      exact (decide_eq_false (by omega)).symm
    · rw [if_neg (by simpa using h2)]
      by_cases h3 : p.2 < q.2
      · rw [decide_eq_true h3]; exact (decide_eq_true (.inr ⟨h, h3⟩)).symm
      · rw [decide_eq_false h3]; exact (decide_eq_false (by omega)).symm
  · rw [if_neg (by simpa using h)]
    by_cases h3 : p.1 < q.1
    · rw [decide_eq_true h3]; exact (decide_eq_true (.inl h3)).symm
    · rw [decide_eq_false h3]; exact (decide_eq_false (by omega)).symm
def bestPr (x : Int × Int) (ps : List (Int × Int)) : Int × Int := ps.foldl (fun a y => if prLt a y then y else a) x
theorem max_prY (x : Int × Int) (ps : List (Int × Int)) : PySem.W.maxD (prY x) (ps.map prY) = prY (bestPr x ps) := by
  unfold PySem.W.maxD bestPr
  induction ps generalizing x with
  | nil => rfl
  | cons p ps ih =>
    rw [List.map_cons, List.foldl_cons, List.foldl_cons, lt_prY]
    cases prLt x p with
    | true => exact ih p
    | false => exact ih x
theorem best_mem : ∀ (ps : List (Int × Int)) (x : Int × Int), bestPr x ps = x ∨ bestPr x ps ∈ ps
  | [], x => .inl rfl
  | p :: ps, x => by
    unfold bestPr
    rw [List.foldl_cons]
    split
    · exact .inr ((best_mem ps p).elim (fun e => by rw [show List.foldl _ p ps = bestPr p ps from rfl, e]; exact List.mem_cons_self ..) fun e => List.mem_cons_of_mem _ e)
    · exact (best_mem ps x).imp id fun e => List.mem_cons_of_mem _ e
theorem best_le : ∀ (ps : List (Int × Int)) (x : Int × Int), x.1 ≤ (bestPr x ps).1 ∧ ∀ p ∈ ps, p.1 ≤ (bestPr x ps).1
  | [], x => ⟨Int.le_refl _, fun _ h => nomatch h⟩
  | p :: ps, x => by
    unfold bestPr
    rw [List.foldl_cons]
    have i := best_le ps (if prLt x p = true then p else x)
    have e : x.1 ≤ (if prLt x p = true then p else x).1 ∧ p.1 ≤ (if prLt x p = true then p else x).1 := by
      cases q : prLt x p with
      | true =>
        have := of_decide_eq_true q
        exact ⟨by show x.1 ≤ p.1; omega, Int.le_refl _⟩
      | false =>
        have := of_decide_eq_false q
        exact ⟨Int.le_refl _, by show p.1 ≤ x.1; omega⟩
    refine ⟨Int.le_trans e.1 i.1, fun q hq => ?_⟩
    rcases List.mem_cons.mp hq with rfl | hq
    · exact Int.le_trans e.2 i.1
    · exact i.2 q hq
def rMaxP (K : PySem.W.Frag) : List V → Hp → VK → Prop := fun vs H Q => ∃ (a : Addr) (xs : List V) (x : Int × Int) (ps : List (Int × Int)), vs = [V.ref a] ∧ SqL K H a xs ∧ DpAll K H xs ((x :: ps).map prY) ∧ ∀ (i : Nat) (v : V), xs[i]? = some v → (x :: ps)[i]? = some (bestPr x ps) → Q v H
theorem depth_prY : ∀ ps : List (Int × Int), PyData.depthAll (ps.map prY) ≤ 2
  | [] => by decide
  | p :: ps => by
    have := depth_prY ps
    show max (PyData.depth (prY p)) (PyData.depthAll (ps.map prY)) ≤ 2
    exact Nat.max_le.mpr ⟨by simp [prY, PyData.depth, PyData.depthAll], this⟩
theorem prY_inj {p q : Int × Int} (h : prY p = prY q) : p = q := by
  unfold prY at h
  have h := List.cons.inj (PyData.tuple.inj h)
  have h1 := List.cons.inj (PyData.tuple.inj h.1)
  have h2 := List.cons.inj h.2
  exact Prod.ext (PyData.int.inj h1.1) (PyData.int.inj h2.1)
section
variable {X : Cx} {env env1 env2 : Sls} {e : Expr} {pos p : Pos}
theorem cr_maxP (hc : X.calm = true) (hu : X.A.units + 3 < cLine) : CallR X (.builtin "max") (rMaxP X.K) := by
  intro pins s σ H vs us Q I r h
  obtain ⟨a, xs, x, ps, rfl, hs, hd, q⟩ := h
  obtain ⟨its, rv, hl, _⟩ := I.list hs
  rw [Vals.ref1 r]
  obtain ⟨as, hr⟩ := Dp.readsAll I _ _ its hd rv
  have dp := depth_prY (x :: ps)
  refine PySem.W.max_list_data (I.ok.hd hc) hl.isList hr ⟨fun y hy z hz => ?_, fun y hy => ?_⟩ (by show X.A.units + 1 + PyData.depthAll ((x :: ps).map prY) < cLine; omega) fun i v h' tk bs hv hr' hk => ?_
  · obtain ⟨i, _, rfl⟩ := List.mem_map.mp (show y ∈ (x :: ps).map prY from hy)
    obtain ⟨j, _, rfl⟩ := List.mem_map.mp (show z ∈ (x :: ps).map prY from hz)
    simp [prY, PySem.W.alike, PySem.W.alikeAll]
  · obtain ⟨i, _, rfl⟩ := List.mem_map.mp (show y ∈ (x :: ps).map prY from hy)
    exact fun z => nomatch z
  · obtain ⟨cs, r2, hi, _, _⟩ := PySem.W.readsAll_atA hr i v hv
    have hi2 : i < (x :: ps).length := by
      have : i < ((x :: ps).map prY).length := hi
      rwa [List.length_map] at this
    have eg : (prY x :: ps.map prY).getD i .none = prY ((x :: ps)[i]) := by
      show ((x :: ps).map prY).getD i .none = _
      rw [List.getD_eq_getElem?_getD, List.getElem?_map, List.getElem?_eq_getElem hi2]; rfl
    rw [show ((x :: ps).map prY) = prY x :: ps.map prY from rfl, eg] at r2
    have r3 : Reads h' v (prY (bestPr x ps)) bs := by rw [← max_prY]; exact hr'
    have u := PySem.W.alike_unique (prY (bestPr x ps)) (prY ((x :: ps)[i])) v _ _ (by simp [prY, PySem.W.alike, PySem.W.alikeAll]) r3 (PySem.W.reads_keeps hk r2)
    have ix : i < xs.length := by
      rw [rv.length]
      rw [List.getElem?_toArray] at hv
      exact (List.getElem?_eq_some_iff.mp hv).1
    obtain ⟨w, hw, rw1⟩ := Vals.get rv (List.getElem?_eq_getElem ix)
    have ew : v = w := by
      rw [List.getElem?_toArray, hw] at hv
      exact (Option.some.inj hv).symm
    subst ew
    exact ⟨_, H, I.kept hk, rw1, q i _ (List.getElem?_eq_getElem ix) (by rw [List.getElem?_eq_getElem hi2, prY_inj u])⟩
/-- max of a list of pairs -/
theorem ev_maxP {x : Int × Int} {ps : List (Int × Int)} (ha : Ev X e env (.val (.lst ((x :: ps).map prX))) env1) (hu : X.A.units + 3 < cLine) (hm : X.mg "max" = none := by assumption) (hc : X.calm = true := by rfl) (hg : Gl X "max" := by rfl) (he : starEach [e] X.env = (false, eval e X.env) :: starEach [] X.env := by rfl) (hpl : (backTo pos (starEach [] X.env)).any (·.1) = false := by rfl) : Ev X (.Call (.Name "max" p) [e] [] pos) env (.val (prX (bestPr x ps))) env1 :=
  ev_cbi (ds := [.lst ((x :: ps).map prX)]) (cr_maxP hc hu) (rf_val fun O H vs Q ⟨u, us, e, ⟨a, xs, hu, no, hp, rl⟩, hn⟩ q => ⟨a, xs, x, ps, by rw [e, hu, show us = [] from hn], .inl (.inl hp), by rw [← (pd_prX (x :: ps)).2]; exact RepL.dp _ (pd_prX (x :: ps)).1 rl, fun i v hv hi => by
    obtain ⟨z, hz, rz⟩ := RepL.get rl (show ((x :: ps).map prX)[i]? = some (prX (bestPr x ps)) by rw [List.getElem?_map, hi]; rfl)
    rw [hv] at hz
    cases hz
    exact q _ rz⟩) (ea_cons ha ea_nil he) hm (by decide +kernel) hg (by decide) (by decide) he hpl
/-- max of a list of ints -/
theorem ev_maxLI {m : Int} {ns : List Int} (ha : Ev X e env (.val (.lst (ns.map D.int))) env1) (h1 : m ∈ ns) (h2 : ∀ y ∈ ns, y ≤ m) (hm : X.mg "max" = none := by assumption) (hc : X.calm = true := by rfl) (hg : Gl X "max" := by rfl) (he : starEach [e] X.env = (false, eval e X.env) :: starEach [] X.env := by rfl) (hpl : (backTo pos (starEach [] X.env)).any (·.1) = false := by rfl) : Ev X (.Call (.Name "max" p) [e] [] pos) env (.val (.int m)) env1 :=
  ev_cbi (ds := [.lst (ns.map D.int)]) (cr_max hc) (rf_val fun O H vs Q ⟨u, us, e, ⟨a, xs, hu, no, hp, rl⟩, hn⟩ q => ⟨a, ns, by rw [e, hu, show us = [] from hn], by rw [← RepL.ints ns rl]; exact .inl (.inl hp), List.length_pos_of_mem h1, fun y hy hz => by
    have e : y = m := Int.le_antisymm (h2 y hy) (hz m h1)
    rw [e]
    exact q _ rfl⟩) (ea_cons ha ea_nil he) hm (by decide +kernel) hg (by decide) (by decide) he hpl
end
end Lin

end

section
namespace Lin
open PySem PySem.Spec PySem.Calls PyProof.Rows L2
/-! dict comprehensions over a frozen dict; two clauses, over a frozen list of dicts and over each of these -/
section
variable {X : Cx} {env env1 env' : Sls} {ys ds : List D} {ks : List Key} {ms : List M} {kvs : List (Key × M)} {pos p : Pos} {elt kx vx tg it : Expr} {ifs : List Expr} {scope : Scope} {own : List (Str × Nat)} {n : Str}
theorem ev_dcD (i : Nat) (h : env[i]? = some (vl (.dK ks ds))) (hi : LIv X tg it env ys i ks ds) (hr : DcM X scope tg kx vx ifs (own.map (·.2)) ys [] env kvs env') (hb : Bare env (own.map (·.2))) (ok : BlkOk X.N X.env.scope scope own) (hz : ys.length ≤ sizeLine) (hN : X.N.Nodup := by assumption)
    (hc : X.calm = true := by rfl) (hs : ∀ x, foldedSetIterable it X.env x = pure x := by intro _; rfl) : Ev X (.DictComp kx vx [⟨tg, it, ifs, 0⟩] scope pos) env (.dK (kvs.map (·.1)) (kvs.map (·.2))) env' :=
  ⟨hr.io X.s_0 X.H_0 hb, fun O H σ F r w Q q => by
    obtain ⟨v, F1, Fi, F2, e1, ef, ⟨_, a, kvs0, rfl, no, rd, hk, rl⟩, _, _⟩ := RepS.at r h
    rcases rd with rd | ⟨o, rd⟩
    · refine ⟨_, pe_lock (pe_dc hc hN pi_w ok bg_ok bts_ok be_ok be_ok hs), a, .dK kvs0, rd, trivial, fun od => ?_⟩
      have c := cv_lock (od := od) rd
      have r1 := RepS.cv (K := X.K) (O := O) c env (off_F w no) r
      have w1 : Wf O (upd H a (.frz od (.dK kvs0))) F := w.lock
      refine dcm_semS O _ σ F (fun R q' => hi O _ σ F r1 w1 a od kvs0 e1 no upd_same hk (RepL.cv c ds rl) R fun J wk => q' O _ J F wk r1 (Step.refl w1)) hr hb hz w1 _ fun O' H' v Fv F' rm rs st => ?_
      obtain ⟨e2, st2⟩ := Step.locked w rd no st
      have c2 := cv_unlock e2
      have no' : ¬ O' a := not_own st no upd_same
      exact ⟨e2, q O' _ v Fv F' (RepM.cv c2 _ (fun b o hb hbo => by rw [upd_ne (fun e => no' (by rw [← e]; exact st.wf.own b (List.mem_append_left _ hb)))]; exact hbo) rm) (RepS.cv c2 _ (fun b o hb hbo => by rw [upd_ne (fun e => no' (by rw [← e]; exact st.wf.own b (List.mem_append_right _ hb)))]; exact hbo) rs) st2⟩
    · exact ⟨_, pe_dc hc hN pi_w ok bg_ok bts_ok be_ok be_ok hs, dcm_semS O H σ F (fun R q' => hi O H σ F r w a o kvs0 e1 no rd hk rl R fun J wk => q' O H J F wk r (Step.refl w)) hr hb hz w Q q⟩⟩
end
/-! all dicts of a list locked -/
def tLk (t : TE) : Nat → TE
  | 0 => t
  | n + 1 => fun σ H Q => tLk t n σ H Q ∨ tLockE (tLk t n) σ H Q
theorem pe_lk {X : Cx} {e : Expr} {t : TE} (h : PE X e t) : ∀ n, PE X e (tLk t n)
  | 0 => h
  | n + 1 => ⟨fun pins s σ H Q I hw => by
    rcases hw with hw | hw
    · exact (pe_lk h n).run pins s σ H Q I hw
    · exact (pe_lock (pe_lk h n)).run pins s σ H Q I hw⟩
structure Lk (O : OW) (H H' : Hp) : Prop where
  c : Cv H H'
  fz : ∀ a o U, H a = some (.frz o U) → H' a = some (.frz o U)
theorem lock_all {K : PySem.W.Frag} {O : OW} {σ : L2.St} {F : List Addr} {env env' : Sls} {m : M} {t : TE} : ∀ (L : List (Addr × List (Key × V))) (H : Hp), RepS K O H env σ F → Wf O H F → (∀ p ∈ L, Rd H p.1 (.dK p.2) ∧ ¬ O p.1) →
    (∀ H', Lk O H H' → (∀ p ∈ L, ∃ o, H' p.1 = some (.frz o (.dK p.2))) → Wf O H' F → RepS K O H' env σ F → ∀ Q' : VK, (∀ (O2 : OW) (H2 : Hp) (v : V) (Fv F2 : List Addr), RepM K O2 H2 m v Fv → RepS K O2 H2 env' σ F2 → Step O H' F O2 H2 (Fv ++ F2) → Q' v H2) → t σ H' Q') →
    ∀ Q : VK, (∀ (O2 : OW) (H2 : Hp) (v : V) (Fv F2 : List Addr), RepM K O2 H2 m v Fv → RepS K O2 H2 env' σ F2 → Step O H F O2 H2 (Fv ++ F2) → Q v H2) → tLk t L.length σ H Q
  | [], H, r, w, _, body, Q, q => body H ⟨⟨fun _ _ _ h => h, fun _ _ h => h, fun _ _ h => h, fun _ _ _ _ h => h, fun _ _ h => h⟩, fun _ _ _ h => h⟩ (fun _ h => nomatch h) w r Q q
  | p :: L, H, r, w, hl, body, Q, q => by
    obtain ⟨rd, no⟩ := hl p (List.mem_cons_self ..)
    rcases rd with rd | ⟨o, rd⟩
    · refine .inr ⟨p.1, .dK p.2, rd, trivial, fun od => ?_⟩
      have c := cv_lock (od := od) rd
      have fz : ∀ a o U, H a = some (.frz o U) → upd H p.1 (.frz od (.dK p.2)) a = some (.frz o U) := fun a o U h => by
        rw [upd_ne (fun e => by rw [e, rd] at h; cases h)]; exact h
      refine lock_all L _ (RepS.cv (K := K) (O := O) c env (off_F w no) r) w.lock (fun x hx => ⟨c.rd _ _ trivial (hl x (List.mem_cons_of_mem _ hx)).1, (hl x (List.mem_cons_of_mem _ hx)).2⟩) (fun H' lk lks w' r' Q' q' => body H' ⟨⟨fun a U nf h => lk.c.rd a U nf (c.rd a U nf h), fun a xs h => lk.c.ls a xs (c.ls a xs h), fun a xs h => lk.c.tu a xs (c.tu a xs h), fun a C dx f h => lk.c.is a C dx f (c.is a C dx f h), fun a φ h => lk.c.ex a φ (c.ex a φ h)⟩, fun a o U h => lk.fz a o U (fz a o U h)⟩ (fun x hx => by
        rcases List.mem_cons.mp hx with rfl | hx
        · exact ⟨od, lk.fz _ _ _ upd_same⟩
        · exact lks x hx) w' r' Q' q') _ fun O2 H2 v Fv F2 rm rs st => ?_
      obtain ⟨e2, st2⟩ := Step.locked w rd no st
      have c2 := cv_unlock e2
      have no' : ¬ O2 p.1 := not_own st no upd_same
      exact ⟨e2, q O2 _ v Fv F2 (RepM.cv c2 _ (fun b o hb hbo => by rw [upd_ne (fun e => no' (by rw [← e]; exact st.wf.own b (List.mem_append_left _ hb)))]; exact hbo) rm) (RepS.cv c2 _ (fun b o hb hbo => by rw [upd_ne (fun e => no' (by rw [← e]; exact st.wf.own b (List.mem_append_right _ hb)))]; exact hbo) rs) st2⟩
    · refine .inl (lock_all L H r w (fun x hx => hl x (List.mem_cons_of_mem _ hx)) (fun H' lk lks w' r' Q' q' => body H' lk (fun x hx => ?_) w' r' Q' q') Q q)
      rcases List.mem_cons.mp hx with rfl | hx
      · exact ⟨o, lk.fz _ _ _ rd⟩
      · exact lks x hx
/-- the same value, told in another way -/
theorem RepS.reval {K : PySem.W.Frag} {O : OW} {H : Hp} {es : Sls} {σ : L2.St} {F : List Addr} {i : Nat} {d1 d2 : D} (r : RepS K O H es σ F) (h : es[i]? = some (vl d1)) (c : ∀ v, Rep K O H d1 v → Rep K O H d2 v) : RepS K O H (es.set i (vl d2)) σ F := by
  obtain ⟨v, F1, Fi, F2, e1, ef, ⟨efi, rm⟩, _, kk⟩ := RepS.at r h
  subst efi ef
  have z := kk O H (fun _ _ h _ => h) (fun _ h => .inl h) (fun _ _ _ h => h) v (.own (.val d2)) [] ⟨rfl, c v rm⟩
  rw [setAt_same e1] at z
  exact z
def rD (r : List Key × List D) : D := .dK r.1 r.2
theorem rows_of {K : PySem.W.Frag} {O : OW} {H : Hp} : ∀ (rows : List (List Key × List D)) {xs : List V}, RepL K O H (rows.map rD) xs → ∃ L : List (Addr × List (Key × V)), L.length = rows.length ∧ xs = L.map (fun p => V.ref p.1) ∧ (∀ p ∈ L, Rd H p.1 (.dK p.2) ∧ ¬ O p.1) ∧ ∀ (j : Nat) (r : List Key × List D), rows[j]? = some r → ∃ p, L[j]? = some p ∧ p.2.map (·.1) = r.1 ∧ RepL K O H r.2 (p.2.map (·.2))
  | [], xs, h => ⟨[], rfl, h, (fun _ z => nomatch z), fun j r z => by simp at z⟩
  | r :: rows, xs, ⟨v, vs, e, ⟨a, kvs, ev, no, rd, hk, rl⟩, rest⟩ => by
    obtain ⟨L, h1, h2, h3, h4⟩ := rows_of rows rest
    subst e ev h2
    refine ⟨(a, kvs) :: L, by rw [List.length_cons, List.length_cons, h1], rfl, fun p hp => ?_, fun j q hj => ?_⟩
    · rcases List.mem_cons.mp hp with rfl | hp
      · exact ⟨rd, no⟩
      · exact h3 p hp
    · cases j with
      | zero =>
        have hj : r = q := Option.some.inj hj
        subst hj
        exact ⟨(a, kvs), rfl, hk, rl⟩
      | succ j => exact h4 j q hj
theorem adrs_rep {K : PySem.W.Frag} {O : OW} {H : Hp} : ∀ (L : List (Addr × List (Key × V))), RepL K O H (L.map fun p => D.adr p.1) (L.map fun p => V.ref p.1)
  | [] => rfl
  | p :: L => ⟨_, _, rfl, rfl, adrs_rep L⟩
inductive Lc2D (X : Cx) (scope : Scope) (it1 tg1 elt : Expr) (ifs1 : List Expr) (vs vs1 : List Nat) (i : Nat) : List (List Key × List D) → Sls → List M → Sls → Prop
  | nil {env : Sls} : Lc2D X scope it1 tg1 elt ifs1 vs vs1 i [] env [] env
  | yes {ks : List Key} {ds : List D} {rows : List (List Key × List D)} {env env4 env' : Sls} {ms1 ms : List M} : (InB X scope fun X' => LIv X' tg1 it1 (env.set i (vl (.dK ks ds))) (ks.map kD) i ks ds) → Bare (env.set i (vl (.dK ks ds))) vs1 →
      LcR X scope tg1 elt ifs1 vs1 (ks.map kD) (env.set i (vl (.dK ks ds))) ms1 env4 → Io env (wipeE env4 vs) → Lc2D X scope it1 tg1 elt ifs1 vs vs1 i rows (wipeE env4 vs) ms env' → Lc2D X scope it1 tg1 elt ifs1 vs vs1 i ((ks, ds) :: rows) env (ms1 ++ ms) env'
section
variable {X : Cx} {env env' : Sls} {rows : List (List Key × List D)} {ms : List M} {pos p px : Pos} {elt it1 tg1 : Expr} {ifs1 : List Expr} {scope : Scope} {own : List (Str × Nat)} {n x : Str}
theorem Lc2D.io {vs vs1 : List Nat} {i : Nat} (h : Lc2D X scope it1 tg1 elt ifs1 vs vs1 i rows env ms env') : Io env env' := by
  induction h with
  | nil => exact Io.refl _
  | yes _ _ _ h _ ih => exact h.trans ih
theorem lc2d_sem {vs1 : List Nat} {i v : Nat} {L : List (Addr × List (Key × V))} {a0 : Addr} {O : OW} {H : Hp} {σ : L2.St} {F : List Addr} (hv : σ[v]? = some (some (.ref a0))) (hN : X.N[v]? = some n) (hvis : Vis X.env.scope n) (hd : (n == ("__debug__" : Str)) = false) (hcd : (n == ("__classdict__" : Str)) = false)
    (ha : H a0 = some (.lst (L.map fun p => V.ref p.1))) (no0 : ¬ O a0) (lks : ∀ p ∈ L, ∃ o, H p.1 = some (.frz o (.dK p.2)) ∧ ¬ O p.1) (hL : ∀ (j : Nat) (r : List Key × List D), rows[j]? = some r → ∃ p, L[j]? = some p ∧ p.2.map (·.1) = r.1 ∧ RepL X.K O H r.2 (p.2.map (·.2))) (hl : L.length = rows.length)
    (hx : InB X scope fun X' => ∀ (d : D) (en : Sls), en.length = env.length → (∀ m', en[i]? ≠ some (some (Sl.io m'))) → Tg X' (.Name x px) d (own.map (·.2)) en (en.set i (vl d))) (hio : ∀ m', env[i]? ≠ some (some (Sl.io m'))) (hi : i < env.length) (hiv : i ∈ own.map (·.2))
    (hr : Lc2D X scope it1 tg1 elt ifs1 (own.map (·.2)) vs1 i rows env ms env') (hb : Bare env (own.map (·.2))) (hz : ms.length ≤ sizeLine) (r : RepS X.K O H env σ F) (w : Wf O H F) (Q : VK)
    (q : ∀ (O' : OW) (H' : Hp) (v : V) (Fv F' : List Addr), RepM X.K O' H' (.lst ms) v Fv → RepS X.K O' H' env' σ F' → Step O H F O' H' (Fv ++ F') → Q v H') : tLc2 (wI X (.Name x px) (.Name n p)) (bG X scope (.Name x px)) (bTs X scope []) (bI X scope tg1 it1) (bG X scope tg1) (bTs X scope ifs1) (bE X scope elt) (own.map (·.2)) vs1 σ H Q := by
  have wk : Wk X.K O H (Itl X.K a0) (L.map fun p => D.adr p.1) := wk_list no0 ha (adrs_rep L)
  refine ⟨_, pi_list (pe_var hN hvis hd hcd), .ref a0, hv, a0, rfl, ⟨_, .inl (.inl ha)⟩, ?_⟩
  intro Da hDa0
  generalize hvs : own.map (·.2) = vs at *
  let St (j : Nat) (H' : Hp) : Prop := ∃ (env2 : Sls) (O2 : OW) (F2 Fa : List Addr) (acc : List V) (ms1 ms2 : List M), ms = ms1 ++ ms2 ∧ Lc2D X scope it1 tg1 elt ifs1 vs vs1 i (rows.drop j) env2 ms2 env' ∧ env2.length = env.length ∧ Bare env2 vs ∧ RepS X.K O2 H' env2 (wipe σ vs) F2 ∧ H' Da = some (.lst acc) ∧ RepML X.K O2 H' ms1 acc Fa ∧ Kept O H O2 H' ∧ Step O H F O2 H' ((Da :: Fa) ++ F2)
  refine ⟨fun j m H' => m = rows.length - j ∧ j ≤ rows.length ∧ St j H', ⟨rows.length, rfl, Nat.zero_le _, ?_⟩, ?_⟩
  · have s0 : Step O H [] (fun a => O a ∨ a = Da) (upd H Da (.lst [])) [Da] := Step.new (G := []) w.nil hDa0
    refine ⟨env, _, F, [], [], [], ms, rfl, hr, rfl, hb, (RepS.quiet s0 r).loose (wipe_length σ vs) (fun i s z => wipe_get (hb i s z)), upd_same, ⟨rfl, rfl⟩, s0.kept w.nil, s0.quiet w⟩
  rintro j m H' ⟨rfl, hle, env2, O2, F2, Fa, acc, ms1, ms2, ems, lr, el2, bare, rs, hDa, rml, kp, st⟩
  have wf := st.wf
  obtain ⟨sp, go⟩ := wk O2 H' _ kp wf
  rw [List.length_map, hl] at sp
  rcases Nat.lt_or_ge j rows.length with hlt | hge
  · obtain ⟨pr, hp, hks, hrl⟩ := hL j rows[j] (List.getElem?_eq_getElem hlt)
    obtain ⟨o, ho, nop⟩ := lks pr (List.mem_of_getElem? hp)
    obtain ⟨g1, yl⟩ := go j (.adr pr.1) (by rw [List.getElem?_map, hp]; rfl)
    have ed : rows.drop j = rows[j] :: rows.drop (j + 1) := List.drop_eq_getElem_cons hlt
    rw [ed] at lr
    generalize rows[j] = rw0 at *
    obtain ⟨ks, ds⟩ := rw0
    generalize hds : rows.drop (j + 1) = rest at *
    refine .inr ⟨g1, St (j + 1), fun H2 z => ⟨rows.length - (j + 1), by omega, rfl, hlt, z⟩, fun y H2 hy => ?_⟩
    obtain ⟨s2, rx⟩ := yl y H2 hy
    have st2 : Step O H F O2 H2 ((Da :: Fa) ++ F2) := st.trans w (s2.quiet wf)
    have wf2 := st2.wf
    have wfF : Wf O2 H2 F2 := wf2.right
    have rs2 : RepS X.K O2 H2 env2 (wipe σ vs) F2 := rs.quiet s2
    have hD2 : H2 Da = some (.lst acc) := s2.frame Da _ hDa (by simp)
    have rml2 : RepML X.K O2 H2 ms1 acc Fa := s2.repML wf.nil (fun _ _ => by simp) rml
    have kp2 : Kept O H O2 H2 := kp.trans (s2.kept wf.nil)
    have dF : Da ∉ F2 := fun z => wf2.apart (List.mem_cons_self ..) z
    have aF : ∀ a ∈ Fa, a ∉ F2 := fun a h z => wf2.apart (List.mem_cons_of_mem _ h) z
    have pmF : ((Da :: Fa) ++ F2).Perm (F2 ++ (Da :: Fa)) := List.perm_append_comm
    have wip : ∀ σ3, SameBut vs (wipe σ vs) σ3 → wipe σ3 vs = wipe σ vs := fun σ3 b => by
      rw [wipe_ext b.1 b.2, wipe_wipe]
    have ne2 : ∀ m', env2[i]? ≠ some (some (Sl.io m')) := fun m' z => bare i _ z hiv
    cases lr with
    | @yes _ _ _ _ env4 _ msI msR h3 hb3 h4 _ hn =>
      intro s0 H0 C0 cl0 fp0
      refine (hx s0 H0 C0 cl0 fp0 (.adr pr.1) env2 el2 ne2).2 O2 H2 (wipe σ vs) F2 y rx rs2 wfF _ fun σ3 F3 r3 s3 p3 b3 => ⟨wip σ3 b3, fun s0 H0 C0 cl0 fp0 => ?_⟩
      refine ⟨_, pts_nil, ?_⟩
      have lem : ∀ (P Q : Prop), P → (if true = true then P else Q) := fun P Q h => h
      refine lem _ (St (j + 1) H2) ?_
      intro s0 H0 C0 cl0 fp0
      have s23 : Step O2 H2 F2 O2 H2 F3 := s3
      have sB : Step O2 H2 ((Da :: Fa) ++ F2) O2 H2 ((Da :: Fa) ++ F3) := ((s23.beside (wf2.perm pmF)).permL pmF.symm).permR List.perm_append_comm
      have st5 : Step O H F O2 H2 ((Da :: Fa) ++ F3) := st2.trans w sB
      have hil : i < env2.length := by rw [el2]; exact hi
      have fz : H2 pr.1 = some (.frz o (.dK pr.2)) := kp2.1 _ _ ho nop
      have no2 : ¬ O2 pr.1 := fun z => by
        rcases kp2.2 _ z with z | z
        · exact nop z
        · rw [ho] at z; cases z
      have rlk : RepL X.K O2 H2 ds (pr.2.map (·.2)) := hrl.kept kp2
      have at3 : (env2.set i (vl (.adr pr.1)))[i]? = some (vl (.adr pr.1)) := List.getElem?_set_self hil
      obtain ⟨u3, _, _, _, e3, _, ⟨_, (ru3 : u3 = V.ref pr.1)⟩, _, _⟩ := RepS.at r3 at3
      subst ru3
      have r5 := r3.reval (d2 := .dK ks ds) at3 fun v hv => ⟨pr.1, pr.2, hv, no2, .inr ⟨o, fz⟩, hks, rlk⟩
      rw [List.set_set] at r5
      have hlen : ms1.length + msI.length ≤ sizeLine := by
        have := congrArg List.length ems
        rw [List.length_append, List.length_append] at this
        omega
      refine h3 s0 H0 C0 cl0 fp0 O2 H2 σ3 F3 r5 st5.wf.right pr.1 o pr.2 e3 no2 fz hks rlk _ fun J1 wk5 => ?_
      refine lc_inner w wk5 h4 hb3 hD2 rml2 r5 st5 hlen fun O6 H6 acc6 Fa6 F6 r6 hD6 rml6 kp6 st6 => ?_
      obtain ⟨F7, G, pm7, r7⟩ := RepS.wipeN r6 vs
      rw [wip σ3 b3] at r7
      have st7 : Step O H F O6 H6 ((Da :: Fa6) ++ F7) := (st6.permR (F2 := ((Da :: Fa6) ++ F7) ++ G) (List.perm_iff_count.mpr fun a => by
          have := List.perm_iff_count.mp pm7 a
          simp only [List.count_append, List.count_cons] at this ⊢
          omega)).dropR
      refine ⟨_, O6, F7, Fa6, acc6, ms1 ++ msI, msR, by rw [ems, List.append_assoc], by rw [hds]; exact hn, ?_, bare_wipe _ _, r7, hD6, rml6, kp2.trans kp6, st7⟩
      rw [r7.len.symm, wipe_length, ← r.len]
  · have ei : j = rows.length := by omega
    subst ei
    rw [List.drop_eq_nil_of_le (Nat.le_refl _)] at lr
    refine .inl ⟨sp, ?_⟩
    cases lr
    rw [List.append_nil] at ems
    subst ems
    refine q O2 H' (.ref Da) (Da :: Fa) F2 ⟨Da, acc, Fa, rfl, rfl, hDa, rml⟩ (rs.loose (wipe_length σ vs).symm fun i s z => (wipe_get (bare i s z)).symm) st
/-- [elt for x in n for .. in x]: n a frozen list of dicts -/
theorem ev_lc2D (v i : Nat) {vs1 : List Nat} (h : env[v]? = some (vl (.lst (rows.map rD)))) (hr : Lc2D X scope it1 tg1 elt ifs1 (own.map (·.2)) vs1 i rows env ms env') (hb : Bare env (own.map (·.2))) (ok : BlkOk X.N X.env.scope scope own) (hz : ms.length ≤ sizeLine)
    (hx : InB X scope fun X' => ∀ (d : D) (en : Sls), en.length = env.length → (∀ m', en[i]? ≠ some (some (Sl.io m'))) → Tg X' (.Name x px) d (own.map (·.2)) en (en.set i (vl d))) (hi : i < env.length) (hiv : i ∈ own.map (·.2) := by decide) (hvs : ∀ i ∈ vs1, i ∈ own.map (·.2) := by decide)
    (hNv : X.N[v]? = some n := by rfl) (hvis : Vis X.env.scope n := by first | exact Or.inl rfl | exact Or.inr (Or.inl rfl) | exact Or.inr (Or.inr rfl)) (hd : (n == ("__debug__" : Str)) = false := by decide) (hcd : (n == ("__classdict__" : Str)) = false := by decide) (hN : X.N.Nodup := by assumption)
    (hc : X.calm = true := by rfl) (hs : ∀ x, foldedSetIterable (.Name n p) X.env x = pure x := by intro _; rfl) (hs1 : ∀ env x, foldedSetIterable it1 env x = pure x := by intro _ _; rfl) : Ev X (.ListComp elt [⟨.Name x px, .Name n p, [], 0⟩, ⟨tg1, it1, ifs1, 0⟩] scope pos) env (.lst ms) env' :=
  ⟨hr.io, fun O H σ F r w Q q => by
    obtain ⟨u, F1, Fi, F2, e1, ef, ⟨_, a0, xs, rfl, no0, ha0, rl⟩, _, _⟩ := RepS.at r h
    obtain ⟨L, hl, exs, h3, h4⟩ := rows_of rows rl
    subst exs
    refine ⟨_, pe_lk (pe_lc2 hc hN pi_w ok hvs bg_ok bts_ok bi_ok bg_ok bts_ok be_ok hs hs1) L.length, lock_all L H r w h3 (fun H' lk lks w' r' Q' q' => ?_) Q q⟩
    exact lc2d_sem e1 hNv hvis hd hcd (lk.c.ls _ _ ha0) no0 (fun p hp => by
      obtain ⟨o, ho⟩ := lks p hp
      exact ⟨o, ho, (h3 p hp).2⟩) (fun j rr hj => by
      obtain ⟨p, hp, h5, h6⟩ := h4 j rr hj
      exact ⟨p, hp, h5, RepL.cv lk.c _ h6⟩) hl hx (fun m' z => hb i _ z hiv) hi hiv hr hb hz r' w' Q' q'⟩
end
end Lin

end

section
namespace Lin
open PySem PySem.Spec PyProof.Rows L2
/-! two names are lent: the first argument and the last -/
def FS2 (K : PySem.W.Frag) (m1 : M) (mid : List D) (m2 : M) (r : M) (m1' m2' : M) : Sp := fun vs H Q _ => ∃ (O : OW) (u1 u2 : V) (F1 F2 : List Addr) (vs1 : List V), Wf O H (F1 ++ F2) ∧ RepM K O H m1 u1 F1 ∧ RepM K O H m2 u2 F2 ∧ vs = u1 :: (vs1 ++ [u2]) ∧ RepL K O H mid vs1 ∧
  ∀ (O' : OW) (H' : Hp) (v : V) (Fv G1 G2 : List Addr), RepM K O' H' r v Fv → RepM K O' H' m1' u1 G1 → RepM K O' H' m2' u2 G2 → Step O H (F1 ++ F2) O' H' (Fv ++ (G1 ++ G2)) → Q v H'
theorem repA_last {K : PySem.W.Frag} {O : OW} {H : Hp} {σ : L2.St} {j : Nat} {u2 : V} (h2 : σ[j]? = some (some u2)) : ∀ (mid : List D) {vs : List V}, RepA K O H σ (mid.map AK.v ++ [AK.lend j]) vs → ∃ vs1, vs = vs1 ++ [u2] ∧ RepL K O H mid vs1
  | [], _, ⟨u, us, e, p, q⟩ => by
    have e1 : u = u2 := by rw [h2] at p; exact (Option.some.inj (Option.some.inj p)).symm
    have e2 : us = [] := q
    subst e1 e2
    exact ⟨[], e, rfl⟩
  | d :: mid, _, ⟨u, us, e, p, q⟩ => by
    obtain ⟨v1, e2, a⟩ := repA_last h2 mid q
    exact ⟨u :: v1, by rw [e, e2]; rfl, ⟨u, v1, rfl, p, a⟩⟩
section
variable {X : Cx} {env env1 env2 : Sls} {e : Expr} {es : List Expr} {pos p : Pos} {n : Str} {k l i j : Nat} {r m1 m2 m1' m2' : M} {s1 s2 : Sl}
/-- a call to which two names are lent -/
theorem ev_call2 {mid : List D} (G : Fn X.prog X.w X.K X.mg X.base n l k (FS2 X.K m1 mid m2 r m1' m2')) (hr : Room k X.A) (ha : EvAs X (e :: es) env (AK.lend i :: (mid.map AK.v ++ [AK.lend j])) env1) (hi : env1[i]? = some (some s1)) (hj : env1[j]? = some (some s2)) (hsm1 : s1.m = m1 := by rfl) (hsm2 : s2.m = m2 := by rfl) (hij : i ≠ j := by decide) (hg : Gl X n := by rfl)
    (hdb : (n == ("__debug__" : Str)) = false := by decide) (he : starEach (e :: es) X.env = (false, eval e X.env) :: starEach es X.env := by rfl) (hpl : (backTo pos (starEach es X.env)).any (·.1) = false := by rfl) :
    Ev X (.Call (.Name n p) (e :: es) [] pos) env r ((env1.set i (some (s1.put m1'))).set j (some (s2.put m2'))) := by
  obtain ⟨f, fd, ps, _, G, hm, hk, hb⟩ := G
  subst hsm1 hsm2
  have hj1 : (env1.set i (some (s1.put m1')))[j]? = some (some s2) := by rw [List.getElem?_set_ne hij]; exact hj
  refine ⟨(ha.1.trans (Io.put hi)).trans (Io.put hj1), fun O H σ F rs w Q q => ⟨_, pe_call G hr hg hm hk hb .nil pass0 pa_w hdb he hpl, ha.2 O H σ F rs w _ fun O1 H1 vs F1 ra r1 st1 => ?_⟩⟩
  show FS2 X.K s1.m mid s2.m r m1' m2' (vs ++ []) H1 Q _
  rw [List.append_nil]
  obtain ⟨u1, G1, Gi, G2, e1, ef, rm1, rn, _⟩ := RepS.at r1 hi
  subst ef
  have hj2 : (env1.set i none)[j]? = some (some s2) := by rw [List.getElem?_set_ne hij]; exact hj
  obtain ⟨u2, P1, Pj, P2, e2, ef2, rm2, _, kk⟩ := RepS.at rn hj2
  obtain ⟨u, us, ev, eu, ra2⟩ := ra
  have eu1 : u = u1 := by rw [e1] at eu; exact (Option.some.inj (Option.some.inj eu)).symm
  subst eu1
  obtain ⟨vs1, evs, rl⟩ := repA_last e2 mid ra2
  have cnt : ∀ a, (G1 ++ G2).count a = (P1 ++ (Pj ++ P2)).count a := fun a => by rw [ef2]
  have pm : ((Gi ++ Pj) ++ (P1 ++ P2)).Perm (G1 ++ (Gi ++ G2)) := List.perm_iff_count.mpr fun a => by
    have := cnt a
    simp only [List.count_append] at this ⊢; omega
  have wf := st1.wf.perm pm.symm
  refine ⟨O1, u, u2, Gi, Pj, vs1, wf.left, rm1, rm2, by rw [ev, evs], rl, fun O2 H2 z Fz K1 K2 rz rk1 rk2 st2 => ?_⟩
  have rs2 := kk O2 H2 (st2.kf wf.left) st2.nw (fun a o ha h => st2.frame a o h fun q => wf.apart q ha) u2 (s2.put m2') K2 (by rw [Sl.put_m]; exact rk2)
  rw [set_same e2] at rs2
  have hil : i < ((env1.set i none).set j (some (s2.put m2'))).length := by
    rw [List.length_set, List.length_set]
    exact (List.getElem?_eq_some_iff.mp hi).1
  obtain ⟨Q1, Q2, Qi, ef3, _, kd⟩ := RepS.drop i (some u) hil rs2
  have rs3 := kd u (s1.put m1') K1 (by rw [Sl.put_m]; exact rk1)
  rw [set_same e1] at rs3
  have ee : ((env1.set i none).set j (some (s2.put m2'))).set i (some (s1.put m1')) = (env1.set i (some (s1.put m1'))).set j (some (s2.put m2')) := by
    rw [List.set_comm _ _ (Ne.symm hij), List.set_set]
  rw [ee] at rs3
  have cnt3 : ∀ a, (P1 ++ (K2 ++ P2)).count a = (Q1 ++ (Qi ++ Q2)).count a := fun a => by rw [ef3]
  refine q O2 H2 z Fz _ rz rs3 (st1.trans w ((((st2.beside wf).permL pm).permR (F2 := (Fz ++ (Q1 ++ (K1 ++ Q2))) ++ Qi) (List.perm_iff_count.mpr fun a => by
    have := cnt3 a
    simp only [List.count_append] at this ⊢; omega)).dropR))
end
section
variable {P : Program} {w : World} {K : PySem.W.Frag} {mg : Str → Option Value} {base : Heap} {x qual : Str} {st : Stmt} {N ps : List Str} {k : Nat} {mid : List D} {m1 m2 m1' m2' : M} {env0 : Sls}
def start2 (N : List Str) (m1 : M) (mid : List D) (m2 : M) : Sls := some (Sl.io m1) :: (mid.map vl ++ some (Sl.io m2) :: List.replicate (N.length - (mid.length + 2)) none)
/-- a def to which two arguments are lent, that returns nothing -/
theorem fd2n (h : Df K mg x st ps) (S : FnScope N ps (defScope st)) (hl : mid.length + 2 = ps.length) (h0 : env0 = start2 N m1 mid m2)
    (body : In0 P w K mg base N x st k fun X => ∃ env', Ex X (defBody st) env0 (.nx env') ∧ env'[0]? = some (some (Sl.io m1')) ∧ env'[mid.length + 1]? = some (some (Sl.io m2'))) : Fn P w K mg base x ps.length (k + 1) (FS2 K m1 mid m2 (.val .none) m1' m2') := by
  obtain ⟨f, fd, F, b, g⟩ := h
  refine ⟨f, fd, ps, rfl, F.ok S (fun vs H Q E h => ?_) (fun cdv A outer s H vs Q E hr h => ?_), g, F.kp, b⟩
  · obtain ⟨O, u1, u2, F1, F2, v1, _, _, _, e, a1, _⟩ := h
    rw [e, List.length_cons, List.length_append, a1.len, ← hl]; rfl
  · obtain ⟨O, u1, u2, F1, F2, v1, wf, rm1, rm2, e, a1, q⟩ := h
    obtain ⟨env', ex, he1, he2⟩ := body f cdv A outer s H E hr
    subst h0
    have hst : L2.start N vs = some u1 :: (v1.map some ++ some u2 :: List.replicate (N.length - (mid.length + 2)) none) := by
      unfold L2.start
      rw [e, List.length_cons, List.length_append, a1.len, List.map_cons, List.map_append, List.cons_append, List.append_assoc]
      rfl
    have rs0 : RepS K O H (start2 N m1 mid m2) (L2.start N vs) (F1 ++ F2) := by
      rw [hst]
      exact ⟨u1, _, F1, F2, rfl, rfl, rm1, repS_start1 rm2 (repS_none _) mid a1⟩
    refine ex O H (L2.start N vs) _ rs0 wf _ fun O' H' σ' F' rs s' pn => ?_
    have hin1 : (start2 N m1 mid m2)[0]? = some (some (Sl.io m1)) := rfl
    have hin2 : (start2 N m1 mid m2)[mid.length + 1]? = some (some (Sl.io m2)) := by
      unfold start2
      rw [List.getElem?_cons_succ, List.getElem?_append_right (by rw [List.length_map]; exact Nat.le_refl _), List.length_map, Nat.sub_self]; rfl
    obtain ⟨_, hp1⟩ := pn _ m1 hin1
    obtain ⟨_, hp2⟩ := pn _ m2 hin2
    obtain ⟨y1, G1, Gi, G2, e1, ef, rmi, rn, _⟩ := RepS.at rs he1
    subst ef
    have he2' : (env'.set 0 none)[mid.length + 1]? = some (some (Sl.io m2')) := by rw [List.getElem?_set_ne (by omega)]; exact he2
    obtain ⟨y2, P1, Pj, P2, e2, ef2, rmj, _, _⟩ := RepS.at rn he2'
    have hu1 : (L2.start N vs)[0]? = some (some u1) := by rw [hst]; rfl
    have hu2 : (L2.start N vs)[mid.length + 1]? = some (some u2) := by
      rw [hst, List.getElem?_cons_succ, List.getElem?_append_right (by rw [List.length_map, a1.len]; exact Nat.le_refl _), List.length_map, a1.len, Nat.sub_self]; rfl
    have q1 : y1 = u1 := by
      rw [hp1, hu1] at e1
      exact (Option.some.inj (Option.some.inj e1)).symm
    have q2 : y2 = u2 := by
      rw [hp2, hu2] at e2
      exact (Option.some.inj (Option.some.inj e2)).symm
    subst q1 q2
    have cnt : ∀ a, (G1 ++ G2).count a = (P1 ++ (Pj ++ P2)).count a := fun a => by rw [ef2]
    exact q O' H' .non [] Gi Pj ⟨rfl, rfl⟩ rmi rmj ((s'.permR (F2 := ([] ++ (Gi ++ Pj)) ++ (P1 ++ P2)) (List.perm_iff_count.mpr fun a => by
      have := cnt a
      simp only [List.count_append, List.count_nil] at this ⊢; omega)).dropR)
end
end Lin

end

section
set_option maxHeartbeats 4000000
namespace L2
open PySem PySem.Spec PyProof.Rows
/-- max(d): its keys, whole numbers -/
def rMaxK : List V → Hp → VK → Prop := fun vs H Q => ∃ (a : Addr) (kvs : List (Key × V)) (ns : List Int), vs = [V.ref a] ∧ Rd H a (.dK kvs) ∧ kvs.map (·.1) = ns.map Sum.inl ∧ 0 < ns.length ∧ ∀ m, m ∈ ns → (∀ y, y ∈ ns → y ≤ m) → Q (.int m) H
theorem cr_maxK {X : Cx} (hc : X.calm = true) : CallR X (.builtin "max") rMaxK := by
  intro pins s σ H xs us Q I r h
  obtain ⟨a, kvs, ns, rfl, hd, hks, hne, q⟩ := h
  rw [Vals.ref1 r]
  obtain ⟨z, lo, vs, rel, dd⟩ := dk_rd I.hok hd
  obtain ⟨ep, hat⟩ := dd.dictAt
  have hkeys : vs.map (·.1) = ns.map Sum.inl := rel.keys.symm.trans hks
  have hl : vs.length = ns.length := by
    have e := congrArg List.length hkeys
    rw [List.length_map, List.length_map] at e
    exact e
  refine call_max_walk ?_
  refine wpAny_pyIter_dict lo hat ?_
  have ha : a < s.heap.objs.size := by
    obtain ⟨o, es, ho, _⟩ := hat
    exact Heap.lt_size ho
  refine ⟨s.heap.objs.size, [s.heap.objs.size, a], [s.heap.objs.size], vs.length, fun i v => ∃ t, v = .int (ns.getD i 0) t, _, fun i j => decide (ns.getD i 0 > ns.getD j 0), rfl,
    (show Walks X.prog X.w X.A.in1 s.heap.objs.size [s.heap.objs.size, a] [s.heap.objs.size] vs.length (fun i v => ∃ t, v = .int (ns.getD i 0) t) (fun i h => h.IsKeyIter s.heap.objs.size a i vs.length ep ∧ h.DictAt (mixKind X.prog X.w) a vs ep) from
      let W := Walks.dictKeys (prog := X.prog) (w := X.w) (knd := mixKind X.prog X.w) (A := X.A.in1) (I.ok.hd hc) s.heap.objs.size a (Nat.ne_of_lt ha) vs ep
      { sub := W.sub, frame := W.frame, done := W.done, self := W.self,
        item := fun i s' Q' E' hi st hQ => W.item i s' Q' E' hi st fun v h' t hv st' k => hQ v h' t (by
          obtain ⟨k0, x, hx, hk⟩ := hv
          have e1 : (vs.map (·.1))[i]? = some k0 := by rw [List.getElem?_map, hx]; rfl
          rw [hkeys, List.getElem?_map] at e1
          cases e2 : ns[i]? with
          | none => rw [e2] at e1; cases e1
          | some y =>
            rw [e2] at e1
            have e1 : Sum.inl y = k0 := Option.some.inj e1
            subst e1
            have e3 : ns.getD i 0 = y := by rw [List.getD_eq_getElem?_getD, e2]; rfl
            rw [e3]
            rcases keyIs_shape (show keyIs (Sum.inl y) v = true from hk) with ⟨i', t', ek, ev⟩ | ⟨z', t', ek, ev⟩
            · cases ek
              exact ⟨t', ev⟩
            · cases ek) st' k }), ⟨⟨_, Heap.get?_push_size _ rfl, rfl, rfl⟩, hat.at' fun o e => Heap.get?_push_of_some _ e⟩, fun b hb => ?_, by omega, CmpOf.ints_gt (fun i => ns.getD i 0) (fun i v z => z), fun v h' tk hv' hk => ?_⟩
  · show b < (s.heap.push _).objs.size
    rw [size_push']
    rcases List.mem_cons.mp hb with z | z
    · rw [z]
      exact Nat.lt_succ_self _
    · rw [List.mem_singleton.mp z]
      exact Nat.lt_succ_of_lt ha
  · obtain ⟨t, rfl⟩ := hv'
    obtain ⟨m1', m2'⟩ := argBest_gt (fun i => ns.getD i 0) (vs.length - 1)
    have m1 : argBest (fun i j => decide (ns.getD i 0 > ns.getD j 0)) (vs.length - 1) ≤ vs.length - 1 := m1'
    have m2 : ∀ j, j ≤ vs.length - 1 → ns.getD j 0 ≤ ns.getD (argBest (fun i j => decide (ns.getD i 0 > ns.getD j 0)) (vs.length - 1)) 0 := m2'
    have hk2 : ∀ b o, s.heap.get? b = some o → h'.get? b = some o := fun b o e => hk b o (fun z => by rw [List.mem_singleton.mp z] at e; exact absurd (Heap.lt_size e) (Nat.lt_irrefl _)) (Heap.get?_push_of_some _ e)
    refine ⟨.int _, H, I.kept (t' := tk) hk2, ⟨t, rfl⟩, q _ (PySem.getD_mem (by omega)) fun y hy => ?_⟩
    obtain ⟨j, hj, e⟩ := List.mem_iff_getElem.mp hy
    have z := m2 j (by omega)
    have e3 : ns.getD j 0 = y := by rw [List.getD_eq_getElem?_getD, List.getElem?_eq_getElem hj, ← e] <;> rfl
    rw [e3] at z
    exact z
end L2

end

section
namespace Lin
open PySem PySem.Spec PyProof.Rows L2
/-! max(d), sorted(d): a dict whose keys are whole numbers -/
section
variable {X : Cx} {env env1 : Sls} {e : Expr} {pos p : Pos} {ds : List D}
theorem ev_maxK {m : Int} {ns : List Int} (ha : Ev X e env (.val (.dK (ns.map Sum.inl) ds)) env1) (h1 : m ∈ ns) (h2 : ∀ y ∈ ns, y ≤ m) (hm : X.mg "max" = none := by assumption) (hc : X.calm = true := by rfl) (hg : Gl X "max" := by rfl) (he : starEach [e] X.env = (false, eval e X.env) :: starEach [] X.env := by rfl) (hpl : (backTo pos (starEach [] X.env)).any (·.1) = false := by rfl) : Ev X (.Call (.Name "max" p) [e] [] pos) env (.val (.int m)) env1 :=
  ev_cbi (ds := [.dK (ns.map Sum.inl) ds]) (cr_maxK hc) (rf_val fun O H vs Q ⟨u, us, e, ⟨a, kvs, hu, _, rd, hk, _⟩, hn⟩ q => ⟨a, kvs, ns, by rw [e, hu, show us = [] from hn], rd, hk, List.length_pos_of_mem h1, fun y hy hz => by
    have e : y = m := Int.le_antisymm (h2 y hy) (hz m h1)
    rw [e]
    exact q _ rfl⟩) (ea_cons ha ea_nil he) hm (by decide +kernel) hg (by decide) (by decide) he hpl
theorem ev_sortDI {ns ns0 : List Int} (ha : Ev X e env (.val (.dK (ns.map Sum.inl) ds)) env1) (h64 : ns.length < 64) (hp : ns0.Perm ns) (hs : ns0.Pairwise (· ≤ ·)) (hm : X.mg "sorted" = none := by assumption) (hc : X.calm = true := by rfl) (hg : Gl X "sorted" := by rfl) (he : starEach [e] X.env = (false, eval e X.env) :: starEach [] X.env := by rfl) (hpl : (backTo pos (starEach [] X.env)).any (·.1) = false := by rfl) : Ev X (.Call (.Name "sorted" p) [e] [] pos) env (.lst ((ns0.map D.int).map M.val)) env1 :=
  ev_cbi (ds := [.dK (ns.map Sum.inl) ds]) (call_sortedDI hc) (rf_new fun O H vs ⟨u, us, e, ⟨a, kvs, hu, _, rd, hk, _⟩, hn⟩ => ⟨_, repL_ints ns0, fun Q q => ⟨a, kvs, ns, by rw [e, hu, show us = [] from hn], rd, hk, h64, fun ns' p pm pw hp' => by
    rw [perm_sorted_eq (pm.trans hp.symm) pw hs]
    exact q p hp'⟩⟩) (ea_cons ha ea_nil he) hm (by decide +kernel) hg (by decide) (by decide) he hpl
end
end Lin

end

section
namespace Lin
open PySem PySem.Spec PyProof.Rows L2
/-! for x in xs, xs an owned list whose items are owned: each item is worked on in its turn -/
section
variable {X : Cx} {env : Sls} {ms : List M} {pos p p2 : Pos} {body : List Stmt} {nc nr : Str}
theorem mixO_at {f : M → M} {ms : List M} {i : Nat} (hi : i < ms.length) : ((ms.take i).map f ++ ms.drop i)[i]? = some ms[i] := by
  rw [List.getElem?_append_right (by rw [List.length_map, List.length_take]; omega), List.length_map, List.length_take, Nat.min_eq_left (Nat.le_of_lt hi), Nat.sub_self, List.getElem?_drop, Nat.add_zero, List.getElem?_eq_getElem hi]
theorem mixO_set {f : M → M} {ms : List M} {i : Nat} (hi : i < ms.length) : ((ms.take i).map f ++ ms.drop i).set i (f ms[i]) = (ms.take (i + 1)).map f ++ ms.drop (i + 1) := by
  rw [List.set_append_right _ _ (by rw [List.length_map, List.length_take]; omega), List.length_map, List.length_take, Nat.min_eq_left (Nat.le_of_lt hi), Nat.sub_self, List.drop_eq_getElem_cons hi, List.set_cons_zero, List.take_add_one, List.getElem?_eq_getElem hi, List.map_append, List.append_assoc]
  rfl
theorem x1_forO (f : M → M) (c r : Nat) (hi : env[c]? = some (some (.own (.lst ms)))) (hr0 : env[r]? = some none)
    (step : ∀ (a : Addr), ∀ m ∈ ms, ∃ env2, Ex X body ((env.set c (some (.io (.val (.adr a))))).set r (some (.io m))) (.nx env2) ∧ env2[r]? = some (some (.io (f m))) ∧ env2.set r none = env.set c (some (.io (.val (.adr a)))))
    (hne : c ≠ r := by decide) (hp : PassesOwn (model X.prog X.w) X.A X.env X.xe := by exact PassesOwn.never) (hc : X.calm = true := by rfl) (hs : ∀ x, foldedSetIterable (.Name nc p2) X.env x = pure x := by intro _; rfl)
    (hN : X.N[c]? = some nc := by rfl) (hv : Vis X.env.scope nc := by first | exact Or.inl rfl | exact Or.inr (Or.inl rfl) | exact Or.inr (Or.inr rfl)) (hd : (nc == ("__debug__" : Str)) = false := by decide) (hcd : (nc == ("__classdict__" : Str)) = false := by decide)
    (hn : X.N.Nodup := by assumption) (hNr : X.N[r]? = some nr := by rfl) (hx : Loc X.env.scope nr := by first | exact Or.inl rfl | exact Or.inr rfl) (hf : X.fn nr = true ∨ X.env.scope.names.lookup nr = some .local := by first | exact .inl rfl | exact .inr rfl) :
    Ex1 X (.For (.Name nr p) (.Name nc p2) body [] pos) env (.nx (env.set c (some (.own (.lst (ms.map f)))))) := fun O H σ F rs w D g => by
  obtain ⟨v, G1, Gi, G2, e1, ef, rm, _, kk⟩ := RepS.at rs hi
  obtain ⟨a, xs, F', ev, efi, ha, rl⟩ := rm
  subst ev efi ef
  have hml : ms.length = xs.length := rl.len.symm
  have r1 := kk O H (fun _ _ h _ => h) (fun _ h => .inl h) (fun _ _ _ h => h) (.ref a) (.io (.val (.adr a))) [] ⟨rfl, rfl⟩
  rw [setAt_same e1] at r1
  have pm0 : (G1 ++ ((a :: F') ++ G2)).Perm ((a :: F') ++ (G1 ++ ([] ++ G2))) := List.perm_iff_count.mpr fun x => by
    simp only [List.count_append, List.count_cons, List.count_nil]; omega
  have stepA := step a
  generalize hE : env.set c (some (.io (.val (.adr a)))) = E0 at *
  have hEc : E0[c]? = some (some (.io (.val (.adr a)))) := by rw [← hE]; exact List.getElem?_set_self (List.getElem?_eq_some_iff.mp hi).1
  have hEr : E0[r]? = some none := by rw [← hE, List.getElem?_set_ne hne]; exact hr0
  have hrl : r < E0.length := (List.getElem?_eq_some_iff.mp hEr).1
  refine ⟨_, ps_for hp hc (pi_list (pe_var hN hv hd hcd)) (pg_name hn hNr hx hf) pss_w hs, .ref a, e1, a, rfl, ⟨_, .inl (.inl ha)⟩, ?_⟩
  let St (i : Nat) (σ' : L2.St) (H' : Hp) : Prop := ∃ (O' : OW) (Fe F1 : List Addr), RepS X.K O' H' E0 σ' F1 ∧ H' a = some (.lst xs) ∧ RepML X.K O' H' ((ms.take i).map f ++ ms.drop i) xs Fe ∧ Step O H (G1 ++ ((a :: F') ++ G2)) O' H' ((a :: Fe) ++ F1) ∧ Pins E0 σ E0 σ'
  refine ⟨fun i m σ' H' => m = ms.length - i ∧ i ≤ ms.length ∧ St i σ' H', ⟨ms.length, rfl, Nat.zero_le _, O, F', G1 ++ ([] ++ G2), r1, ha, rl, (Step.refl (w.perm pm0)).permL pm0.symm, Pins.refl⟩, ?_⟩
  rintro i m σ' H' ⟨rfl, hle, O', Fe, F1, r2, ha2, rl2, st, pn⟩
  have sq : SqL X.K H' a xs := .inl (.inl ha2)
  rcases Nat.lt_or_ge i ms.length with hlt | hge
  · refine .inr ⟨walk_list.goes i H' (by rw [← hml]; exact hlt) sq, St (i + 1), fun σ2 H2 z => ⟨ms.length - (i + 1), by omega, rfl, hlt, z⟩, fun x H2 y => ?_⟩
    obtain ⟨eH, hx2⟩ := walk_list.yields i H' x H2 (by rw [← hml]; exact hlt) sq y
    subst eH
    obtain ⟨u, A1, Aj, A2, hvj, eF, rj, put⟩ := RepML.cut rl2 (mixO_at hlt)
    have eu : u = x := by rw [hvj] at hx2; exact Option.some.inj hx2
    subst eu eF
    obtain ⟨B1, B2, Bi, ef, _, kr⟩ := RepS.drop r (some u) hrl r2
    have rB := kr u (.io ms[i]) Aj rj
    subst ef
    obtain ⟨env2, ex, h2, h3⟩ := stepA ms[i] (List.getElem_mem hlt)
    have pm : ((a :: (A1 ++ (Aj ++ A2))) ++ (B1 ++ (Bi ++ B2))).Perm ((B1 ++ (Aj ++ B2)) ++ ((a :: (A1 ++ A2)) ++ Bi)) := List.perm_iff_count.mpr fun x => by
      simp only [List.count_append, List.count_cons]
      omega
    have wB := st.wf.perm pm
    have nin : ∀ x, x ∈ (a :: (A1 ++ A2)) ++ Bi → x ∉ B1 ++ (Aj ++ B2) := fun x hx z => (List.nodup_append.mp wB.nd).2.2 x z x hx rfl
    refine ex O' H2 (σ'.set r (some u)) _ rB wB.left _ fun O4 H4 σ4 F4 r4 s4 p4 => ?_
    have hls : r < σ'.length := by rw [r2.len]; exact hrl
    have p2 := (p4 r ms[i] (List.getElem?_set_self hrl)).2
    rw [List.getElem?_set_self hls] at p2
    obtain ⟨v2, P1, Fj', P2, e2, ef2, rm', rs', _⟩ := RepS.at r4 h2
    have ev2 : v2 = u := by rw [p2] at e2; exact (Option.some.inj (Option.some.inj e2)).symm
    subst ev2 ef2
    rw [h3] at rs'
    have rl4 := put O4 H4 (s4.kf wB.left) s4.nw (fun x o hx hh => s4.frame x o hh (nin x (List.mem_append_left _ (List.mem_cons_of_mem _ hx)))) (f ms[i]) Fj' rm'
    rw [mixO_set hlt] at rl4
    have sB := (s4.beside wB).permL pm.symm
    refine ⟨O4, A1 ++ (Fj' ++ A2), P1 ++ P2, rs', s4.frame a _ ha2 (nin a (List.mem_append_left _ (List.mem_cons_self ..))), rl4, st.trans w ((sB.permR (F2 := ((a :: (A1 ++ (Fj' ++ A2))) ++ (P1 ++ P2)) ++ Bi) (List.perm_iff_count.mpr fun x => by
      simp only [List.count_append, List.count_cons]
      omega)).dropR), fun j m2 z => ?_⟩
    have nj : r ≠ j := fun q => by rw [← q, hEr] at z; cases z
    obtain ⟨_, z4⟩ := p4 j m2 (by rw [List.getElem?_set_ne nj]; exact z)
    rw [List.getElem?_set_ne nj] at z4
    exact ⟨⟨m2, z⟩, by rw [z4]; exact (pn j m2 z).2⟩
  · have ei : i = ms.length := by omega
    subst ei
    refine .inl ⟨by rw [hml]; exact walk_list.stops H' sq, ?_⟩
    rw [List.take_length, List.drop_length, List.append_nil] at rl2
    have hcl : c < E0.length := (List.getElem?_eq_some_iff.mp hEc).1
    obtain ⟨Q1, Q2, Qi, ef3, _, k3⟩ := RepS.drop c (some (.ref a)) hcl r2
    have p1 := (pn c _ hEc).2
    rw [e1] at p1
    have r3 := k3 (.ref a) (.own (.lst (ms.map f))) (a :: Fe) ⟨a, xs, Fe, rfl, rfl, ha2, rl2⟩
    rw [setAt_same p1, ← hE, List.set_set] at r3
    subst ef3
    refine g O' H' σ' _ r3 ((st.permR (F2 := (Q1 ++ ((a :: Fe) ++ Q2)) ++ Qi) (List.perm_iff_count.mpr fun x => by
      simp only [List.count_append, List.count_cons]
      omega)).dropR) fun j m2 z => ?_
    have n1 : c ≠ j := fun q => by rw [← q, hi] at z; cases z
    have z2 : E0[j]? = some (some (.io m2)) := by rw [← hE, List.getElem?_set_ne n1]; exact z
    exact ⟨⟨m2, by rw [List.getElem?_set_ne n1]; exact z⟩, (pn j m2 z2).2⟩
end
end Lin

end

section
namespace Lin
open PySem PySem.Spec PyProof.Rows L2
/-! for k in d: d[k].append(None), d a lent dict of lists -/
section
variable {X : Cx} {env : Sls} {ks : List Key} {ls : List (List M)} {pos p p2 p3 p4 p5 apos cpos epos npos : Pos} {nr ns : Str} {j0 : Nat}
theorem lock_ne {H : Hp} {a b : Addr} {u : HO} (h : b ≠ a) : upd H a u b = H b := upd_ne h
theorem upd_back {H : Hp} {a : Addr} {u v : HO} (h : H a = some v) : upd (upd H a u) a v = H := by
  funext b
  by_cases e : b = a
  · subst e; rw [upd_same, h]
  · rw [upd_ne e, upd_ne e]
theorem upd_comm {H : Hp} {a b : Addr} {u v : HO} (h : b ≠ a) : upd (upd H a u) b v = upd (upd H b v) a u := by
  funext x
  by_cases e : x = b
  · subst e; rw [upd_same, upd_ne h, upd_same]
  · by_cases e2 : x = a
    · subst e2; rw [upd_ne e, upd_same, upd_same]
    · rw [upd_ne e, upd_ne e2, upd_ne e2, upd_ne e]
abbrev addN (l : List M) : M := .lst (l ++ [.val .none])
theorem x1_forApp (r s : Nat) (hi : env[r]? = some (some (.io (.dK ks (ls.map M.lst))))) (hs0 : env[s]? = some none) (nd : ks.Nodup) (hz : ∀ l ∈ ls, l.length < sizeLine) (hu : X.A.units + 1 < cLine)
    (hne : r ≠ s := by decide) (hp : PassesOwn (model X.prog X.w) X.A X.env X.xe := by exact PassesOwn.never) (hc : X.calm = true := by rfl) (hs : ∀ x, foldedSetIterable (.Name nr p2) X.env x = pure x := by intro _; rfl)
    (hN : X.N[r]? = some nr := by rfl) (hv : Vis X.env.scope nr := by first | exact Or.inl rfl | exact Or.inr (Or.inl rfl) | exact Or.inr (Or.inr rfl)) (hd : (nr == ("__debug__" : Str)) = false := by decide) (hcd : (nr == ("__classdict__" : Str)) = false := by decide)
    (hvs : Vis X.env.scope ns := by first | exact Or.inl rfl | exact Or.inr (Or.inl rfl) | exact Or.inr (Or.inr rfl)) (hds : (ns == ("__debug__" : Str)) = false := by decide) (hcds : (ns == ("__classdict__" : Str)) = false := by decide)
    (hn : X.N.Nodup := by assumption) (hNs : X.N[s]? = some ns := by rfl) (hx : Loc X.env.scope ns := by first | exact Or.inl rfl | exact Or.inr rfl) (hf : X.fn ns = true ∨ X.env.scope.names.lookup ns = some .local := by first | exact .inl rfl | exact .inr rfl)
    (hsl : NoSl (.Name ns p4) := by exact fun _ _ => rfl)
    (hbase : attributeBase (.Subscript (.Name nr p3) (.Name ns p4) p5) "append" X.env (eval (.Subscript (.Name nr p3) (.Name ns p4) p5) X.env) = eval (.Subscript (.Name nr p3) (.Name ns p4) p5) X.env := by rfl)
    (hfew : ((backTo cpos (starEach [.Constant .none j0 npos] X.env)).all (fun x => !x.1) && (backToKw cpos (keywordEach [] X.env)).all (fun x => x.1.isSome)
      && decide ([Expr.Constant .none j0 npos].length + ([] : List Keyword).length + (if ([] : List Keyword).isEmpty then 0 else 1) < 30)) = true := by rfl)
    (hline : (apos.endLine == cpos.line) = true := by rfl) (hst : starEach [.Constant .none j0 npos] X.env = (false, eval (.Constant .none j0 npos) X.env) :: starEach [] X.env := by rfl) (hplain : (backTo cpos (starEach [] X.env)).any (·.1) = false := by rfl)
    (hsw : swapsWith (.Call (.Attribute (.Subscript (.Name nr p3) (.Name ns p4) p5) "append" apos) [.Constant .none j0 npos] [] cpos) none epos.line X.env = pure false := by rfl) :
    Ex1 X (.For (.Name ns p) (.Name nr p2) [.Expr (.Call (.Attribute (.Subscript (.Name nr p3) (.Name ns p4) p5) "append" apos) [.Constant .none j0 npos] [] cpos) epos] [] pos) env (.nx (env.set r (some (.io (.dK ks (ls.map addN)))))) := fun O H σ F rs w D g => by
  obtain ⟨v, G1, Gi, G2, e1, ef, rm, rn, _⟩ := RepS.at rs hi
  obtain ⟨a, kvs, F', ev, efi, ha, hks, rl⟩ := rm
  subst ev efi ef
  have hll : ls.length = kvs.length := by
    have := rl.len
    rw [List.length_map, List.length_map] at this
    exact this.symm
  have hkl : ks.length = kvs.length := by rw [← hks, List.length_map]
  have ndk : (kvs.map (·.1)).Nodup := by rw [hks]; exact nd
  have pm0 : (G1 ++ ((a :: F') ++ G2)).Perm ((a :: F') ++ (G1 ++ G2)) := List.perm_iff_count.mpr fun x => by
    simp only [List.count_append, List.count_cons]; omega
  generalize hE : env.set r none = E0 at *
  have hEs : E0[s]? = some none := by rw [← hE, List.getElem?_set_ne hne]; exact hs0
  have hsl2 : s < E0.length := (List.getElem?_eq_some_iff.mp hEs).1
  refine ⟨_, ps_lock (ps_for hp hc (pi_keys (pe_var hN hv hd hcd)) (pg_name hn hNs hx hf) (pss_one (ps_expr (pe_bm PySem.F.plainAttrs_list PySem.F.slot_list_append PySem.F.type_list_append mt_append (pe_dget hu (pe_var hN hv hd hcd) (pe_var hNs hvs hds hcds) hsl) (pa_cons pe_non pa_nil hst) hbase hfew hline hst hplain) hsw)) hs), a, .dK kvs, ha, trivial, fun od => ?_⟩
  refine ⟨.ref a, e1, a, od, rfl, .inl ⟨kvs, upd_same, ?_⟩⟩
  let St (i : Nat) (σ' : L2.St) (H' : Hp) : Prop := ∃ (O' : OW) (Hu : Hp) (Fe F1 : List Addr), H' = upd Hu a (.frz od (.dK kvs)) ∧ RepS X.K O' Hu E0 σ' F1 ∧ Hu a = some (.dK kvs) ∧ RepML X.K O' Hu ((ls.take i).map addN ++ (ls.drop i).map M.lst) (kvs.map (·.2)) Fe ∧ Step O H (G1 ++ ((a :: F') ++ G2)) O' Hu ((a :: Fe) ++ F1) ∧ σ'.length = σ.length ∧ ∀ j, j ≠ s → σ'[j]? = σ[j]?
  refine ⟨fun i m σ' H' => m = ls.length - i ∧ i ≤ ls.length ∧ St i σ' H', ⟨ls.length, rfl, Nat.zero_le _, O, H, F', G1 ++ G2, rfl, rn, ha, rl, (Step.refl (w.perm pm0)).permL pm0.symm, rfl, fun _ _ => rfl⟩, ?_⟩
  rintro i m σ' H' ⟨rfl, hle, O', Hu, Fe, F1, rfl, r2, ha2, rl2, st, sl, pn⟩
  have lk : upd Hu a (HO.frz od (.dK kvs)) a = some (.frz od (.dK kvs)) := upd_same
  rcases Nat.lt_or_ge i ls.length with hlt | hge
  · refine .inr ⟨walk_keys.goes i _ (by omega) lk, St (i + 1), fun σ2 H2 z => ⟨ls.length - (i + 1), by omega, rfl, hlt, z⟩, fun x H2 y => ?_⟩
    obtain ⟨eH, k, vv, hkv, ex⟩ := walk_keys.yields i _ x H2 (by omega) lk y
    subst eH ex
    have hm : ((ls.take i).map addN ++ (ls.drop i).map M.lst)[i]? = some (M.lst ls[i]) := by
      rw [List.getElem?_append_right (by rw [List.length_map, List.length_take]; omega), List.length_map, List.length_take, Nat.min_eq_left (Nat.le_of_lt hlt), Nat.sub_self, List.getElem?_map, List.getElem?_drop, Nat.add_zero, List.getElem?_eq_getElem hlt]; rfl
    have hms : ((ls.take i).map addN ++ (ls.drop i).map M.lst).set i (addN ls[i]) = (ls.take (i + 1)).map addN ++ (ls.drop (i + 1)).map M.lst := by
      rw [List.set_append_right _ _ (by rw [List.length_map, List.length_take]; omega), List.length_map, List.length_take, Nat.min_eq_left (Nat.le_of_lt hlt), Nat.sub_self, List.drop_eq_getElem_cons hlt, List.map_cons, List.set_cons_zero, List.take_add_one, List.getElem?_eq_getElem hlt, List.map_append, List.append_assoc]
      rfl
    obtain ⟨u, A1, Aj, A2, hvj, eF, rj, put⟩ := RepML.cut rl2 hm
    obtain ⟨b, xs, Fb, eu, eAj, hb, rb⟩ := rj
    subst eu eAj eF
    have wf := st.wf
    have bin : b ∈ (a :: (A1 ++ ((b :: Fb) ++ A2))) ++ F1 := List.mem_append_left _ (List.mem_cons_of_mem _ (List.mem_append_right _ (List.mem_append_left _ (List.mem_cons_self ..))))
    have ndF := wf.nd
    have cnt : ∀ x, ((a :: (A1 ++ ((b :: Fb) ++ A2))) ++ F1).count x = (b :: ((a :: (A1 ++ (Fb ++ A2))) ++ F1)).count x := fun x => by
      simp only [List.count_append, List.count_cons]; omega
    have pmb : ((a :: (A1 ++ ((b :: Fb) ++ A2))) ++ F1).Perm (b :: ((a :: (A1 ++ (Fb ++ A2))) ++ F1)) := List.perm_iff_count.mpr cnt
    have nb := (List.nodup_cons.mp (pmb.nodup ndF)).1
    have ba : b ≠ a := fun e => nb (by rw [e]; exact List.mem_append_left _ (List.mem_cons_self ..))
    have ob : O' b := wf.own b bin
    have e2 : (σ'.set s (some (kV k)))[r]? = some (some (V.ref a)) := by rw [List.getElem?_set_ne (Ne.symm hne), pn r hne]; exact e1
    have hss : s < σ'.length := by rw [r2.len]; exact hsl2
    refine ⟨.ref a, e2, kV k, List.getElem?_set_self hss, a, .ref b, rfl, .inl ⟨kvs, k, .inr ⟨od, lk⟩, rfl, (valV_at ndk (by rw [List.getElem?_map, hkv]; rfl) hvj).symm⟩, ?_⟩
    have hb2 : upd Hu a (HO.frz od (.dK kvs)) b = some (.lst xs) := by rw [upd_ne ba]; exact hb
    refine ⟨.inl ⟨rfl, _, .inl (.inl hb2)⟩, ?_⟩
    have xl : xs.length = ls[i].length := rb.len
    refine ⟨b, xs, .non, rfl, rfl, hb2, by rw [xl]; exact hz _ (List.getElem_mem hlt), ?_⟩
    have sW : Step O' Hu ((a :: (A1 ++ ((b :: Fb) ++ A2))) ++ F1) O' (upd Hu b (.lst (xs ++ [.non]))) ((a :: (A1 ++ ((b :: Fb) ++ A2))) ++ F1) := Step.write wf bin
    have fB : b ∉ Fb := fun z => nb (List.mem_append_left _ (List.mem_cons_of_mem _ (List.mem_append_right _ (List.mem_append_left _ z))))
    have rb2 : RepML X.K O' (upd Hu b (.lst (xs ++ [.non]))) (ls[i] ++ [.val .none]) (xs ++ [.non]) (Fb ++ []) := (rb.updK fB ob).snoc ⟨rfl, rfl⟩
    rw [List.append_nil] at rb2
    have keepA : ∀ x o, x ≠ b → Hu x = some o → upd Hu b (.lst (xs ++ [.non])) x = some o := fun x o n h => by rw [upd_ne n]; exact h
    have rl4 := put O' (upd Hu b (.lst (xs ++ [.non]))) (fun x o h n => keepA x o (fun e => n (by rw [e]; exact ob)) h) (fun _ h => .inl h) (fun x o hx h => keepA x o (fun e => by
      subst e
      refine nb (List.mem_append_left _ (List.mem_cons_of_mem _ ?_))
      rcases List.mem_append.mp hx with z | z
      · exact List.mem_append_left _ z
      · exact List.mem_append_right _ (List.mem_append_right _ z)) h) (addN ls[i]) (b :: Fb) ⟨b, xs ++ [.non], Fb, rfl, rfl, upd_same, rb2⟩
    rw [hms] at rl4
    have fF : b ∉ F1 := fun z => nb (List.mem_append_right _ z)
    have r4 : RepS X.K O' (upd Hu b (.lst (xs ++ [.non]))) E0 σ' F1 := RepS.keep (K := X.K) (O := O') (H := Hu) (fun x o h n => keepA x o (fun e => n (by rw [e]; exact ob)) h) (fun _ h => .inl h) E0 (fun x o hx h => keepA x o (fun e => fF (by rw [← e]; exact hx)) h) r2
    obtain ⟨B1, B2, Bi, ef, r5, _⟩ := RepS.drop s (some (kV k)) hsl2 r4
    rw [setAt_same hEs] at r5
    subst ef
    refine ⟨O', upd Hu b (.lst (xs ++ [.non])), A1 ++ ((b :: Fb) ++ A2), B1 ++ B2, upd_comm ba, r5, by rw [upd_ne (Ne.symm ba)]; exact ha2, rl4, st.trans w ((sW.permR (F2 := ((a :: (A1 ++ ((b :: Fb) ++ A2))) ++ (B1 ++ B2)) ++ Bi) (List.perm_iff_count.mpr fun x => by
      simp only [List.count_append, List.count_cons]; omega)).dropR), by rw [List.length_set]; exact sl, fun j hj => by rw [List.getElem?_set_ne (Ne.symm hj)]; exact pn j hj⟩
  · have ei : i = ls.length := by omega
    subst ei
    refine .inl ⟨by rw [hll]; exact walk_keys.stops _ lk, lk, ?_⟩
    rw [upd_back ha2]
    rw [List.take_length, List.drop_length, List.map_nil, List.append_nil] at rl2
    have hrl : r < E0.length := by rw [← hE, List.length_set]; exact (List.getElem?_eq_some_iff.mp hi).1
    obtain ⟨Q1, Q2, Qi, ef3, _, k3⟩ := RepS.drop r (some (.ref a)) hrl r2
    have p1 : σ'[r]? = some (some (V.ref a)) := by rw [pn r hne]; exact e1
    have r3 := k3 (.ref a) (.io (.dK ks (ls.map addN))) (a :: Fe) ⟨a, kvs, Fe, rfl, rfl, ha2, hks, rl2⟩
    rw [setAt_same p1, ← hE, List.set_set] at r3
    subst ef3
    refine g O' Hu σ' _ r3 ((st.permR (F2 := (Q1 ++ ((a :: Fe) ++ Q2)) ++ Qi) (List.perm_iff_count.mpr fun x => by
      simp only [List.count_append, List.count_cons]; omega)).dropR) fun j m2 z => ?_
    have n2 : j ≠ s := fun q => by rw [q, hs0] at z; cases z
    refine ⟨?_, pn j n2⟩
    by_cases e : r = j
    · subst e
      exact ⟨_, List.getElem?_set_self (List.getElem?_eq_some_iff.mp hi).1⟩
    · exact ⟨m2, by rw [List.getElem?_set_ne e]; exact z⟩
end
end Lin

end

section
namespace Lin
open PySem PySem.Spec PyProof.Rows L2
/-! xs.count(None), d.clear() -/
mutual
theorem pd_plain : ∀ d : D, plain d = true → (pd d).plain = true
  | .none, _ => rfl
  | .bool _, _ => rfl
  | .int _, _ => rfl
  | .str _, _ => rfl
  | .tup ds, h => by
    have := pdL_plain ds h
    simp only [pd, PyData.plain]; exact this
  | .lst ds, h => by
    have := pdL_plain ds h
    simp only [pd, PyData.plain]; exact this
  | .dK _ _, h => by cases h
  | .dT _ _, h => by cases h
  | .ins _ _ _, h => by cases h
  | .scr _, h => by cases h
  | .adr _, h => by cases h
  | .kt _, h => by cases h
  | .xt _, h => by cases h
  | .exc _ _ _, h => by cases h
theorem pdL_plain : ∀ ds : List D, plainL ds = true → PyData.plainAll (pdL ds) = true
  | [], _ => rfl
  | d :: ds, h => by
    have h := Bool.and_eq_true_iff.mp (show (plain d && plainL ds) = true from h)
    simp only [pdL, PyData.plainAll, Bool.and_eq_true]
    exact ⟨pd_plain d h.1, pdL_plain ds h.2⟩
end
def rCntN (K : PySem.W.Frag) : V → List V → Hp → VK → Prop := fun x vs H Q => ∃ (a : Addr) (us : List V) (ys : List PyData), x = .ref a ∧ vs = [.non] ∧ SqL K H a us ∧ DpAll K H us ys ∧ PyData.plainAll ys = true ∧ Q (.int ((ys.countP fun y => PyData.eqv y .none : Nat) : Int)) H
theorem mt_cntN {X : Cx} (hu : X.A.units + 2 < cLine) : MtR X "list.count" (rCntN X.K) := by
  intro pins s σ H x vs v us Q I rx rv h
  obtain ⟨a, xs, ys, ex, ev, hs, hd, hp, q⟩ := h
  subst ex ev
  obtain rfl : v = Value.ref a := rx
  obtain ⟨u, rfl, ru⟩ := vals1 rv
  obtain rfl : u = Value.none := ru
  obtain ⟨its, rvs, hl, _⟩ := I.list hs
  obtain ⟨as, hr⟩ := Dp.readsAll I _ _ its hd rvs
  exact PySem.SeqAt.count_list_data hl.isList hr (d := .none) (bs := []) .none hp rfl (by
    show _ + 1 + min _ 0 < cLine
    omega) ⟨.int _, H, I.tok _, ⟨_, rfl⟩, q⟩
section
variable {X : Cx} {env env1 : Sls} {e : Expr} {apos cpos npos p : Pos} {j0 : Nat} {ds : List D} {n : Str} {s : Sl} {ks : List Key} {ms : List M}
theorem ev_cntN (ha : Ev X e env (.val (.lst ds)) env1) (hp : plainL ds = true) (hu : X.A.units + 2 < cLine)
    (hbase : attributeBase e "count" X.env (eval e X.env) = eval e X.env := by rfl)
    (hfew : ((backTo cpos (starEach [.Constant .none j0 npos] X.env)).all (fun x => !x.1) && (backToKw cpos (keywordEach [] X.env)).all (fun x => x.1.isSome)
      && decide ([Expr.Constant .none j0 npos].length + ([] : List Keyword).length + (if ([] : List Keyword).isEmpty then 0 else 1) < 30)) = true := by rfl)
    (hline : (apos.endLine == cpos.line) = true := by rfl) (hst : starEach [.Constant .none j0 npos] X.env = (false, eval (.Constant .none j0 npos) X.env) :: starEach [] X.env := by rfl) (hplain : (backTo cpos (starEach [] X.env)).any (·.1) = false := by rfl) :
    Ev X (.Call (.Attribute e "count" apos) [.Constant .none j0 npos] [] cpos) env (.val (.int (((pdL ds).countP fun y => PyData.eqv y .none : Nat) : Int))) env1 :=
  ⟨ha.1, fun O H σ F r w Q q => ⟨_, pe_bm PySem.F.plainAttrs_list PySem.F.slot_list_count PySem.F.type_list_count (mt_cntN hu) pe_w (pa_cons pe_non pa_nil hst) hbase hfew hline hst hplain, ha.2 O H σ F r w _ fun O1 H1 v Fv F1 ⟨ev, a, xs, e1, no, h1, rl⟩ r1 s1 => by
    subst ev e1
    exact ⟨.inl ⟨rfl, _, .inl (.inl h1)⟩, a, xs, pdL ds, rfl, rfl, .inl (.inl h1), RepL.dp ds hp rl, pdL_plain ds hp, q O1 H1 _ [] F1 ⟨rfl, rfl⟩ r1 s1⟩⟩⟩
/-- d.clear() of an owned dict -/
theorem ev_clearK (i : Nat) (hi : env[i]? = some (some s)) (hm : s.m = .dK ks ms) (hN : X.N[i]? = some n := by rfl) (hv : Vis X.env.scope n := by first | exact Or.inl rfl | exact Or.inr (Or.inl rfl) | exact Or.inr (Or.inr rfl)) (hd : (n == ("__debug__" : Str)) = false := by decide) (hcd : (n == ("__classdict__" : Str)) = false := by decide)
    (hbase : attributeBase (.Name n p) "clear" X.env (eval (.Name n p) X.env) = eval (.Name n p) X.env := by rfl) (hline : (apos.endLine == cpos.line) = true := by rfl) : Ev X (.Call (.Attribute (.Name n p) "clear" apos) [] [] cpos) env (.val .none) (env.set i (some (s.put (.dK [] [])))) :=
  ⟨Io.put hi, fun O H σ F r w Q q => ⟨_, pe_dclear (pe_var hN hv hd hcd) hbase hline, by
    have w2 : Wf O H ([] ++ F) := w
    obtain ⟨v, Fi, e1, rm, kk⟩ := slot_upd r hi w2
    rw [hm] at rm
    obtain ⟨l, kvs, F', el, ef, hp, hk, rl⟩ := rm
    obtain ⟨ol, nl, k2⟩ := kk l F' ef
    obtain ⟨F2', rs2, s2, _⟩ := k2 (.dK []) (.dK [] []) [] [] F' (by simp) ⟨l, [], [], el, rfl, upd_same, rfl, rfl, rfl⟩
    exact ⟨v, e1, by rw [el]; exact .inr (.inr (.inl ⟨rfl, .inl ⟨_, hp⟩⟩)), l, kvs, el, rfl, hp, q O _ .non [] F2' ⟨rfl, rfl⟩ rs2 s2⟩⟩⟩
end
end Lin

end

section
namespace Lin
open PySem PySem.Spec PyProof.Rows L2
/-! (a, b) of owned things; dict(xs), xs a list of pairs (k, owned thing) -/
section
variable {X : Cx} {env env1 : Sls} {e : Expr} {es : List Expr} {pos p : Pos} {ms : List M}
theorem ev_tupM {x1} (h : EvMs X es env ms env1) (hz : ms.length ≤ 1000 := by first | decide | simp) : Ev X (.Tuple es x1 pos) env (.tup ms) env1 :=
  ⟨h.1, fun O H σ F r w Q q => ⟨_, pe_tup pa_w, h.2 O H σ F r w _ fun O1 H1 vs Fm F1 rm r1 s1 => by
    refine ⟨by rw [rm.len]; exact Nat.le_trans hz (by decide), fun p hp => ?_⟩
    have s0 : Step O1 H1 [] O1 (upd H1 p (.tup vs)) [] := Step.newF s1.wf.nil hp
    have s2 : Step O1 H1 (Fm ++ F1) O1 (upd H1 p (.tup vs)) (Fm ++ F1) := Step.newF s1.wf hp
    refine q _ _ (.ref p) Fm F1 ⟨p, vs, rfl, fun z => ?_, upd_same, s0.repML s1.wf.nil (fun _ _ => by simp) rm⟩ (r1.quiet s0) (s1.trans w s2)
    obtain ⟨o, e⟩ := s1.wf.dom p z
    rw [hp] at e; cases e⟩⟩
abbrev pairM (q : Key × M) : M := .tup [.val (kD q.1), q.2]
theorem pairs_repM {K : PySem.W.Frag} {O : OW} {H : Hp} : ∀ {kms : List (Key × M)} {xs : List V} {F : List Addr}, RepML K O H (kms.map pairM) xs F → ∃ (ps : List Addr) (kv : List (Key × V)), xs = ps.map V.ref ∧ Paired (fun p kv => SqT K H p [kV kv.1, kv.2]) ps kv ∧ kv.map (·.1) = kms.map (·.1) ∧ RepML K O H (kms.map (·.2)) (kv.map (·.2)) F
  | [], xs, F, h => ⟨[], [], h.1, .nil, rfl, rfl, h.2⟩
  | q :: kms, xs, F, ⟨v, vs, F1, F2, e, ef, ⟨a, zs, ev, no, ta, z1, zr, G1, G2, e1, eg, ⟨eg1, r1⟩, z2, zr2, G3, G4, e2, eg2, r2, e3, e4⟩, rl⟩ => by
    obtain ⟨ps, kv, e5, pr, hk, rk⟩ := pairs_repM rl
    have ek := rep_kD r1
    subst e4 e3 eg2 e2 eg1 eg e1 ek ef
    refine ⟨a :: ps, (q.1, z2) :: kv, by rw [e, ev, e5]; rfl, .cons (.inl (.inl ta)) pr, by rw [List.map_cons, List.map_cons, hk], ⟨z2, _, G3, F2, rfl, ?_, r2, rk⟩⟩
    rw [List.nil_append, List.append_nil]
theorem ev_dictM {kms : List (Key × M)} (ha : Ev X e env (.lst (kms.map pairM)) env1) (nd : (kms.map (·.1)).Nodup) (hm : X.mg "dict" = none := by assumption) (hc : X.calm = true := by rfl) (hg : Gl X "dict" := by rfl) (he : starEach [e] X.env = (false, eval e X.env) :: starEach [] X.env := by rfl) (hpl : (backTo pos (starEach [] X.env)).any (·.1) = false := by rfl) :
    Ev X (.Call (.Name "dict" p) [e] [] pos) env (.dK (kms.map (·.1)) (kms.map (·.2))) env1 :=
  ⟨ha.1, fun O H σ F r w Q q => ⟨_, pe_callTy (call_dictP hc) hg hm (by decide +kernel) (pa_cons pe_w pa_nil he) (by decide) (by decide) he hpl, ha.2 O H σ F r w _ fun O1 H1 v Fv F1 ⟨a, xs, F', ev, ef, hp, rl⟩ r1 s1 => by
    subst ev ef
    obtain ⟨ps, kv, ex, pr, hk, rk⟩ := pairs_repM rl
    subst ex
    refine ⟨a, ps, kv, rfl, .inl (.inl hp), pr, fun p hpn => ?_⟩
    rw [merge_app kv [] (by rw [List.nil_append, hk]; exact nd), List.nil_append]
    have s0 : Step O1 H1 [] (fun b => O1 b ∨ b = p) (upd H1 p (.dK kv)) [p] := Step.new (G := []) s1.wf.nil hpn
    have s2 := s1.trans w (s0.quiet s1.wf)
    have rk2 := s0.repML s1.wf.nil (fun _ _ => by simp) rk
    refine q _ _ (.ref p) (p :: F') F1 ⟨p, kv, F', rfl, rfl, upd_same, hk, rk2⟩ (r1.quiet s0) ((s2.permR (F2 := ((p :: F') ++ F1) ++ [a]) (List.perm_iff_count.mpr fun x => ?_)).dropR)
    simp only [List.count_append, List.count_cons, List.count_nil]
    omega⟩⟩
end
end Lin

end

section
set_option maxHeartbeats 4000000
/-! lists of dicts of data compared by !=; a dict compared with an empty one -/
namespace PySem.SeqAt
open AutoSeq1 (wpAny_loadPart')
open MeetsSeq MeetsSeq2 MeetsSeq3 SeqRoads2
section
variable {prog : Program} {w : World}
theorem ne_loopP (l b : Addr) (items items2 : Array Value) (n n2 : Nat) (dd dd2 : Option Addr) (sl sl2 : Array (Option Value)) (hsz : items.size = items2.size) (e : Nat → Bool) (k : Nat) :
    ∀ i : Nat, items.size - i = k → MeetsIn prog w (Builtin.«list.__eq__.loop» ⟨[.ref l, .ref b, rawInt i, rawInt 3], []⟩)
      (fun A R s => s.heap.get? l = some { cls := .type "list", dict := dd, data := .seq items n, slots := sl } ∧ s.heap.get? b = some { cls := .type "list", dict := dd2, data := .seq items2 n2, slots := sl2 } ∧
        (∀ j (h1 : j < items.size) (h2 : j < items2.size), EqP prog w A.in1 s items[j] items2[j] (e j)) ∧
        R (.ok (.ret (.bool (!((List.range items.size).drop i).all e)))) s) := by
  induction k with
  | zero =>
    intro i hk A R s h
    obtain ⟨hp, g, d, tk, os⟩ := s; obtain ⟨hl, hb, he, h⟩ := h
    wp_walk using wpAny_loadPart' hl, wpAny_loadPart' hb
    have hi1 : items[((i : Nat) : Int).toNat]? = none := by simp; omega
    have hi2 : items2[((i : Nat) : Int).toNat]? = none := by simp; omega
    have hd : (List.range items.size).drop i = [] := by simp; omega
    rw [hd] at h
    rw [hi1, hi2]
    wp_walk using wpAny_loadPart' hl, wpAny_loadPart' hb
    show R (.ok (.ret (.bool (items.size != items2.size)))) _
    rw [hsz]
    simpa using h
  | succ k ih =>
    intro i hk A R s h
    obtain ⟨hp, g, d, tk, os⟩ := s; obtain ⟨hl, hb, he, h⟩ := h
    wp_walk using wpAny_loadPart' hl, wpAny_loadPart' hb
    have hlt : i < items.size := by omega
    have hlt2 : i < items2.size := by omega
    have hi1 : items[((i : Nat) : Int).toNat]? = some items[i] := by simp [hlt]
    have hi2 : items2[((i : Nat) : Int).toNat]? = some items2[i] := by simp [hlt2]
    have hd : (List.range items.size).drop i = i :: (List.range items.size).drop (i + 1) := by simp [List.drop_eq_getElem_cons, hlt]
    have hc : ((i : Int) + 1) = ((i + 1 : Nat) : Int) := by push_cast; rfl
    rw [hd, List.all_cons] at h
    rw [hi1, hi2]
    refine wpAny_bind (he i hlt hlt2 _ _ ?_)
    cases hb' : e i with
    | true =>
      rw [hb'] at h
      wp_walk
      rw [hc]
      exact ⟨plainId_quiet plain_eq_loop _, codeAny_builtin entry_eq_loop (by
        rw [Around.under_plainId plain_eq_loop _]
        exact ih (i + 1) (by omega) A R _ ⟨hl, hb, he, by simpa using h⟩)⟩
    | false =>
      rw [hb'] at h
      wp_walk using wpAny_loadPart' hl, wpAny_loadPart' hb
      rw [hi1, hi2]
      wp_walk
      simpa using h
theorem list_neP (l b : Addr) (items items2 : Array Value) (n n2 : Nat) (dd dd2 : Option Addr) (sl sl2 : Array (Option Value)) (hsz : items.size = items2.size) (e : Nat → Bool) :
    MeetsIn prog w (Builtin.«list.__ne__» ⟨[.ref l, .ref b], []⟩)
      (fun A R s => s.heap.get? l = some { cls := .type "list", dict := dd, data := .seq items n, slots := sl } ∧ s.heap.get? b = some { cls := .type "list", dict := dd2, data := .seq items2 n2, slots := sl2 } ∧
        (∀ j (h1 : j < items.size) (h2 : j < items2.size), EqP prog w A.in1 s items[j] items2[j] (e j)) ∧
        R (.ok (.ret (.bool (!(List.range items.size).all e)))) s) := by
  intro A R s h
  obtain ⟨hp, g, d, tk, os⟩ := s; obtain ⟨hl, hb, he, h⟩ := h
  have f3 := AutoSeq1.sub_list_list
  have hne : ¬ (items.size != items2.size) = true := by simp [hsz]
  wp_walk using wpAny_loadPart' hl, wpAny_loadPart' hb
  exact ⟨plainId_quiet plain_eq_loop _, codeAny_builtin entry_eq_loop (by
    rw [Around.under_plainId plain_eq_loop _]
    exact ne_loopP l b items items2 n n2 dd dd2 sl sl2 hsz e _ 0 rfl A R _ ⟨hl, hb, he, by simpa using h⟩)⟩
theorem rcNeP_lists {A : Around} {s : Shared} {l b : Addr} {items items2 : Array Value} {e : Nat → Bool} (hl : s.heap.IsList l items) (hb : s.heap.IsList b items2) (hsz : items.size = items2.size) (hu : A.units < cLine)
    (he : ∀ j (h1 : j < items.size) (h2 : j < items2.size), EqP prog w A.in1 s items[j] items2[j] (e j)) (E Q : Value → Shared → Prop) (h : Q (.bool (!(List.range items.size).all e)) s) : wpAny (model prog w) A (richCompare .NotEq (.ref l) (.ref b)) Q E s := by
  obtain ⟨⟨cls, dd, data, sl⟩, ho, hc, n, hd⟩ := id hl
  obtain ⟨⟨cls2, dd2, data2, sl2⟩, ho2, hc2, n2, hd2⟩ := id hb
  simp only at hc hd hc2 hd2
  subst hc hd hc2 hd2
  have ta : s.TypeIs (.ref l) "list" := ⟨_, ho, rfl⟩
  have tb : s.TypeIs (.ref b) "list" := ⟨_, ho2, rfl⟩
  exact wpAny_richCompare_same_room (op := .NotEq) ta tb F.slot_list_ne (call_meetsIn F.slot_list_ne ta F.entry_list_ne (F.args_list_ne_2 _ _) (list_neP l b items items2 n n2 dd dd2 sl sl2 hsz e)
    ⟨ho, ho2, he, show Value.bool (!(List.range items.size).all e) ≠ Value.notImplemented ∧ Q (.bool (!(List.range items.size).all e)) s from ⟨(fun x => nomatch x), h⟩⟩) hu
end
end PySem.SeqAt
namespace L2
open PySem PySem.Spec PyProof.Rows
/-- two dicts of equal data under the same keys -/
def DatEq (K : PySem.W.Frag) (H : Hp) (p q : V) : Prop := ∃ d, Dp K H p d ∧ Dp K H q d ∧ SeqAt.shaped d = true ∧ PyData.eqv d d = true
def RowEq (K : PySem.W.Frag) (H : Hp) (x y : V) : Prop := ∃ (a b : Addr) (ks ls : List (Key × V)), x = .ref a ∧ y = .ref b ∧ Rd H a (.dK ks) ∧ Rd H b (.dK ls) ∧ ks.length = ls.length ∧ ∀ p ∈ ks, ∃ u, valV ls p.1 = some u ∧ DatEq K H p.2 u
section
variable {X : Cx} {pins : List (Addr × Obj)} {σ : St} {H : Hp} {s : Shared}
theorem datEq_run (I : Inv X pins σ H s) {A : Around} (hu : A.units + 64 < cLine) {x y : V} {v u : Value} (h : DatEq X.K H x y) (rx : RelV x v) (ry : RelV y u) : SeqAt.EqP X.prog X.w A s v u true := by
  obtain ⟨d, h1, h2, sh, self⟩ := h
  obtain ⟨as, r1⟩ := Dp.reads I d x v h1 rx
  obtain ⟨bs, r2⟩ := Dp.reads I d y u h2 ry
  have z := SeqAt.eqAt_reads d d A s v u as bs r1 r2 (SeqAt.canLay_of_shaped sh) (SeqAt.canLay_of_shaped sh) (SeqAt.room_of_shaped sh hu)
  rw [self] at z
  exact z.eqP
theorem rowEq_run (I : Inv X pins σ H s) {A : Around} (hu : A.units + 65 < cLine) {x y : V} {v u : Value} (h : RowEq X.K H x y) (rx : RelV x v) (ry : RelV y u) : SeqAt.EqP X.prog X.w A s v u true := by
  obtain ⟨a, b, ks, ls, rfl, rfl, ha, hb, hl, hp⟩ := h
  cases (show v = Value.ref a from rx)
  cases (show u = Value.ref b from ry)
  by_cases e : a = b
  · subst e
    exact (SeqAt.EqAt.same _).eqP
  · refine SeqAt.eqP_refs e fun E Q q => ?_
    obtain ⟨_, ya, va, ra, da⟩ := dk_rd I.hok ha
    obtain ⟨_, yb, vb, rb, db⟩ := dk_rd I.hok hb
    refine PySem.W.rcP_dicts (knd := mixKind X.prog X.w) (r := true) ya yb da db (by omega) (fun _ => hits_run (F := DatEq X.K H) (fun x y v u f r1 r2 => datEq_run I (A := A.in1) (by show A.units + 1 + 64 < cLine; omega) f r1 r2) rb ra hp) E Q ?_
    have e : va.length = vb.length := by rw [← ra.length, ← rb.length]; exact hl
    rw [show (va.length == vb.length && true) = true from by rw [e]; simp]
    exact q
end
section
variable {X : Cx}
def rNeRows (K : PySem.W.Frag) : R2 := fun x y H Q => ∃ a b xs ys, x = .ref a ∧ y = .ref b ∧ SqL K H a xs ∧ SqL K H b ys ∧ Paired (RowEq K H) xs ys ∧ Q (.bl false) H
theorem op_neRows (hu : X.A.units + 67 < cLine) : OpR X (compareOp .NotEq) (rNeRows X.K) := by
  intro pins s σ H x y v u Q I rx ry h
  obtain ⟨a, b, xs, ys, rfl, rfl, ha, hb, hp, q⟩ := h
  cases (show v = Value.ref a from rx)
  cases (show u = Value.ref b from ry)
  obtain ⟨us, r1, p1, _⟩ := I.list ha
  obtain ⟨ws, r2, p2, _⟩ := I.list hb
  have hsz : us.toArray.size = ws.toArray.size := by
    rw [List.size_toArray, List.size_toArray, ← r1.length, ← r2.length]
    exact Paired.length hp
  refine SeqAt.rcNeP_lists (e := fun _ => true) p1.isList p2.isList hsz (by omega) (fun j h1 h2 => ?_) _ _ ?_
  · have k := items_run (F := RowEq X.K H) (fun x y v u f r1 r2 => rowEq_run I (A := X.A.in1) (by show X.A.units + 1 + 65 < cLine; omega) f r1 r2) hp r1 r2 j (by simpa using h1) (by simpa using h2)
    simpa using k
  · rw [show ((List.range us.toArray.size).all fun _ => true) = true from List.all_eq_true.mpr fun _ _ => rfl]
    exact ⟨.bl _, H, I, rfl, q⟩
/-- d != {} -/
def rNeE : R2 := fun x y H Q => ∃ (a b : Addr) (ks : List (Key × V)), x = .ref a ∧ y = .ref b ∧ Rd H a (.dK ks) ∧ Rd H b (.dK []) ∧ Q (.bl (!ks.isEmpty)) H
theorem op_neE (hu : X.A.units < cLine) : OpR X (compareOp .NotEq) rNeE := by
  intro pins s σ H x y v u Q I rx ry h
  obtain ⟨a, b, ks, rfl, rfl, ha, hb, q⟩ := h
  cases (show v = Value.ref a from rx)
  cases (show u = Value.ref b from ry)
  obtain ⟨_, ya, va, ra, da⟩ := dk_rd I.hok ha
  obtain ⟨_, yb, vb, rb, db⟩ := dk_rd I.hok hb
  have lb : vb = [] := List.length_eq_zero_iff.mp (by rw [← rb.length]; rfl)
  subst lb
  have la := ra.length
  refine PySem.W.keq_ne (knd := mixKind X.prog X.w) (r := true) ya yb da db hu (fun e => ?_) (fin_bl I q ?_)
  · have e2 : va = [] := List.length_eq_zero_iff.mp e
    rw [e2]; exact .nil
  · cases ks with
    | nil =>
      have : va = [] := List.length_eq_zero_iff.mp (by rw [← la]; rfl)
      rw [this]; rfl
    | cons p ks =>
      cases va with
      | nil => simp at la
      | cons z va => rfl
end
end L2

end

section
namespace Lin
open PySem PySem.Spec PyProof.Rows L2
/-! tables compared with themselves by !=; d != {} -/
theorem row_eq {K : PySem.W.Frag} {O : OW} {H : Hp} {kvs : KD} (nd : (kvs.map (·.1)).Nodup) (hc : ∀ q ∈ kvs, CmpD q.2 ∧ PyData.eqv (pd q.2) (pd q.2) = true) {x y : V} (rx : Rep K O H (dkD kvs) x) (ry : Rep K O H (dkD kvs) y) : RowEq K H x y := by
  obtain ⟨a, k1, e1, _, r1, h1, l1⟩ := rx
  obtain ⟨b, k2, e2, _, r2, h2, l2⟩ := ry
  have n1 : k1.length = kvs.length := by have := congrArg List.length h1; rw [List.length_map, List.length_map] at this; exact this
  have n2 : k2.length = kvs.length := by have := congrArg List.length h2; rw [List.length_map, List.length_map] at this; exact this
  refine ⟨a, b, k1, k2, e1, e2, r1, r2, by rw [n1, n2], fun p hp => ?_⟩
  obtain ⟨j, hj, ej⟩ := List.mem_iff_getElem.mp hp
  have hj2 : j < kvs.length := by omega
  obtain ⟨u1, g1, q1⟩ := RepL.get l1 (show (kvs.map (·.2))[j]? = some kvs[j].2 by rw [List.getElem?_map, List.getElem?_eq_getElem hj2]; rfl)
  obtain ⟨u2, g2, q2⟩ := RepL.get l2 (show (kvs.map (·.2))[j]? = some kvs[j].2 by rw [List.getElem?_map, List.getElem?_eq_getElem hj2]; rfl)
  have eu1 : p.2 = u1 := by
    rw [List.getElem?_map, List.getElem?_eq_getElem hj, ej] at g1
    exact Option.some.inj g1
  have ek : p.1 = kvs[j].1 := by
    have z : (k1.map (·.1))[j]? = (kvs.map (·.1))[j]? := by rw [h1]
    rw [List.getElem?_map, List.getElem?_map, List.getElem?_eq_getElem hj, List.getElem?_eq_getElem hj2, ej] at z
    exact Option.some.inj z
  have hq := hc _ (List.getElem_mem hj2)
  refine ⟨u2, ?_, pd kvs[j].2, by rw [eu1]; exact Rep.dp _ hq.1.1 q1, Rep.dp _ hq.1.1 q2, hq.1.2, hq.2⟩
  refine valV_at (j := j) (by rw [h2]; exact nd) ?_ g2
  rw [h2, List.getElem?_map, List.getElem?_eq_getElem hj2, ek]
  rfl
theorem rows_eq {K : PySem.W.Frag} {O : OW} {H : Hp} : ∀ {rows : List KD}, (∀ kvs ∈ rows, (kvs.map (·.1)).Nodup ∧ ∀ q ∈ kvs, CmpD q.2 ∧ PyData.eqv (pd q.2) (pd q.2) = true) → ∀ {xs ys : List V}, RepL K O H (rows.map dkD) xs → RepL K O H (rows.map dkD) ys → Paired (RowEq K H) xs ys
  | [], _, xs, ys, h1, h2 => by
    rw [show xs = [] from h1, show ys = [] from h2]
    exact .nil
  | kvs :: rows, h, xs, ys, ⟨v, vs, e, p, q⟩, ⟨v2, vs2, e2, p2, q2⟩ => by
    rw [e, e2]
    have z := h kvs (List.mem_cons_self ..)
    exact .cons (row_eq z.1 z.2 p p2) (rows_eq (fun k hk => h k (List.mem_cons_of_mem _ hk)) q q2)
section
variable {X : Cx} {env env1 env2 : Sls} {a b : Expr} {pos : Pos} {ks : List Key} {ds : List D}
theorem tv_neRows {rows : List KD} (ha : Ev X a env (.val (.lst (rows.map dkD))) env1) (hb : Ev X b env1 (.val (.lst (rows.map dkD))) env2) (h : ∀ kvs ∈ rows, (kvs.map (·.1)).Nodup ∧ ∀ q ∈ kvs, CmpD q.2 ∧ PyData.eqv (pd q.2) (pd q.2) = true) (hu : X.A.units + 67 < cLine) (hm : behindInMarks .NotEq b = false := by first | exact nomark _ | rfl) : Tv X (.Compare a [.NotEq] [b] pos) env false env2 :=
  tv_cmp (op_neRows hu) ha hb (ro_val fun O H u v Q ⟨p, xs, eu, _, hp, r1⟩ ⟨q, ys, ev, _, hq, r2⟩ k => ⟨p, q, xs, ys, eu, ev, .inl (.inl hp), .inl (.inl hq), rows_eq h r1 r2, k _ rfl⟩) hm
theorem tv_neE (ha : Ev X a env (.val (.dK ks ds)) env1) (hb : Ev X b env1 (.val (.dK [] [])) env2) (hu : X.A.units < cLine) (hm : behindInMarks .NotEq b = false := by first | exact nomark _ | rfl) : Tv X (.Compare a [.NotEq] [b] pos) env (!ks.isEmpty) env2 :=
  tv_cmp (op_neE hu) ha hb (ro_val fun O H u v Q ⟨p, k1, eu, _, hp, h1, _⟩ ⟨q, k2, ev, _, hq, h2, _⟩ k => ⟨p, q, k1, eu, ev, hp, by
    have : k2 = [] := List.map_eq_nil_iff.mp h2
    rw [this] at hq; exact hq, k _ (by
    cases k1 with
    | nil => rw [← h1]; rfl
    | cons z k1 => rw [← h1]; rfl)⟩) hm
end
end Lin

end

section
namespace Lin
open PySem PySem.Spec PySem.Calls PyProof.Rows L2
/-! ### zip of three tuples -/
def ItzT3 (K : PySem.W.Frag) (a b c : Addr) : It :=
  ⟨fun i H => ∃ (xs ys zs : List V) (x y z : V), SqT K H a xs ∧ SqT K H b ys ∧ SqT K H c zs ∧ xs[i]? = some x ∧ ys[i]? = some y ∧ zs[i]? = some z,
    fun i H v H' => ∃ T x y z, v = .ref T ∧ H T = none ∧ H' = upd H T (.tup [x, y, z]) ∧ (∀ xs, SqT K H a xs → xs[i]? = some x) ∧ (∀ ys, SqT K H b ys → ys[i]? = some y) ∧ ∀ zs, SqT K H c zs → zs[i]? = some z,
    fun i H => ∃ xs ys zs : List V, SqT K H a xs ∧ SqT K H b ys ∧ SqT K H c zs ∧ i ≤ xs.length ∧ i ≤ ys.length ∧ i ≤ zs.length ∧ (i = xs.length ∨ i = ys.length ∨ i = zs.length)⟩
theorem turn_zipT3 {P : Program} {w : World} {K : PySem.W.Frag} {elts : List Expr} {kk : Nat} {tpos : Pos} {a b c z TI TO i1 i2 i3 : Addr} (D : ZipSep3 z TI TO i1 i2 i3 [i1, a] [i2, b] [i3, c]) (ha1 : a ≠ i1) (hb2 : b ≠ i2) (hc3 : c ≠ i3) :
    Turn P w K (.Tuple elts kk tpos) (ItzT3 K a b c) [z, TI, TO, i1, i2, i3] z (fun i h => IsZip h z TI TO .none ∧ IsTupOf3 h TI (.ref i1) (.ref i2) (.ref i3) ∧ (∃ x y u, IsTupOf3 h TO x y u) ∧ h.IsTupleIter i1 a i ∧ h.IsTupleIter i2 b i ∧ h.IsTupleIter i3 c i) where
  mem := by simp
  obj := fun i h st d hd => by
    obtain ⟨hz, hTI, ⟨x, y, u, hTO⟩, ⟨o1, e1, _, d1⟩, ⟨o2, e2, _, d2⟩, ⟨o3, e3, _, d3⟩⟩ := st
    have e' : d = z ∨ d = TI ∨ d = TO ∨ d = i1 ∨ d = i2 ∨ d = i3 := by simpa using hd
    rcases e' with q | q | q | q | q | q
    · rw [q]; exact ⟨_, hz, fun v q => nomatch q⟩
    · rw [q]; exact ⟨_, hTI, fun v q => nomatch q⟩
    · rw [q]; exact ⟨_, hTO, fun v q => nomatch q⟩
    · rw [q]; exact ⟨o1, e1, fun v q => by rw [d1] at q; cases q⟩
    · rw [q]; exact ⟨o2, e2, fun v q => by rw [d2] at q; cases q⟩
    · rw [q]; exact ⟨o3, e3, fun v q => by rw [d3] at q; cases q⟩
  keep := fun i h h' st k => by
    obtain ⟨hz, hTI, ⟨x, y, u, hTO⟩, h1, h2, h3⟩ := st
    exact ⟨k z (by simp) _ hz, k TI (by simp) _ hTI, ⟨x, y, u, k TO (by simp) _ hTO⟩, h1.at fun o q => k i1 (by simp) o q, h2.at fun o q => k i2 (by simp) o q, h3.at fun o q => k i3 (by simp) o q⟩
  item := by
    intro X hP hw hK hc i pins s σ H E I hf st hg
    subst hP hw hK
    obtain ⟨hz, hTI, ⟨x0, y0, u0, hTO⟩, h1, h2, h3⟩ := st
    obtain ⟨xs, ys, zs, x, y, u, hqx, hqy, hqu, hx, hy, hu⟩ := hg
    obtain ⟨its, rv, p, _⟩ := I.tuple hqx
    obtain ⟨its2, rv2, p2, _⟩ := I.tuple hqy
    obtain ⟨its3, rv3, p3, _⟩ := I.tuple hqu
    obtain ⟨w1, hw1, rw1⟩ := rv.get hx
    obtain ⟨w2, hw2, rw2⟩ := rv2.get hy
    obtain ⟨w3, hw3, rw3⟩ := rv3.get hu
    have hzl : z < s.heap.objs.size := Heap.lt_size hz
    have l1 : i < its.toArray.size := by
      have := (List.getElem?_eq_some_iff.mp hw1).1
      simpa using this
    have l2 : i < its2.toArray.size := by
      have := (List.getElem?_eq_some_iff.mp hw2).1
      simpa using this
    have l3 : i < its3.toArray.size := by
      have := (List.getElem?_eq_some_iff.mp hw3).1
      simpa using this
    refine wpAny_pyNext_zipD3_item D (Draws.tuple (A := X.A.in1) (I.ok.hd hc) i1 a ha1 its.toArray) (Draws.tuple (A := X.A.in1) (I.ok.hd hc) i2 b hb2 its2.toArray) (Draws.tuple (A := X.A.in1) (I.ok.hd hc) i3 c hc3 its3.toArray) hz hTI hTO ⟨h1, p⟩ ⟨h2, p2⟩ ⟨h3, p3⟩ l1 l2 l3 fun x1 x2 x3 h' tk q1 q2 q3 z' TO' h1' h2' h3' hT hsz hk => ?_
    have ex : x1 = w1 := by
      have q : its[i]? = some x1 := by simpa using q1
      rw [hw1] at q
      exact (Option.some.inj q).symm
    have ex2 : x2 = w2 := by
      have q : its2[i]? = some x2 := by simpa using q2
      rw [hw2] at q
      exact (Option.some.inj q).symm
    have ex3 : x3 = w3 := by
      have q : its3[i]? = some x3 := by simpa using q3
      rw [hw3] at q
      exact (Option.some.inj q).symm
    subst ex ex2 ex3
    refine ⟨_, rfl, wpAny_letOwnedTupleGo_zip (s := { s with heap := h', toks := tk }) z' fun h'' z'' sb => ?_⟩
    have hT2 : h''.get? s.heap.objs.size = some { cls := .type "tuple", data := .seq #[x1, x2, x3] } := (sb.2 _ (Nat.ne_of_gt hzl)).trans hT
    have new : ObjOk X.prog X.w (upd H s.heap.objs.size (.tup [x, y, u])) h'' s.heap.objs.size (.tup [x, y, u]) :=
      ⟨by show 3 ≤ sizeLine; decide, [x1, x2, x3], .cons rw1 (.cons rw2 (.cons rw3 .nil)), ⟨_, hT2, rfl, _, rfl⟩⟩
    have I1 : Inv X pins σ (upd H s.heap.objs.size (.tup [x, y, u])) { s with heap := h'', toks := tk } :=
      I.turnedNew (t' := tk) (ch := [z, TI, TO, i1, i2, i3]) (fun d o hb q => (sb.2 d (fun q' => hb (by simp [q']))).trans (hk d o (fun q' => hb (by simp [q'])) (fun q' => hb (by simp [q'])) (fun q' => hb (by simp [q'])) (fun q' => hb (by simp [q'])) (fun q' => hb (by simp [q'])) q)) hf (Nat.le_refl _) new
    refine ⟨.ref s.heap.objs.size, _, I1, rfl, ⟨_, x, y, u, rfl, I.hok.fresh (Nat.le_refl _), rfl, fun l hl => by rw [I.tuple_inj hl hqx]; exact hx, fun l hl => by rw [I.tuple_inj hl hqy]; exact hy, fun l hl => by rw [I.tuple_inj hl hqu]; exact hu⟩, ⟨z'', ?_, ⟨x1, x2, x3, ?_⟩, ?_, ?_, ?_⟩, fun d hdm => ?_⟩
    · exact (sb.2 _ D.TIz).trans (hk _ _ D.TIz D.TITO D.TIi1 D.TIi2 D.TIi3 hTI)
    · exact (sb.2 _ D.TOz).trans TO'
    · exact h1'.1.at fun o q => (sb.2 _ (Ne.symm D.zi1)).trans q
    · exact h2'.1.at fun o q => (sb.2 _ (Ne.symm D.zi2)).trans q
    · exact h3'.1.at fun o q => (sb.2 _ (Ne.symm D.zi3)).trans q
    · have hlt : d < s.heap.objs.size := by
        have e' : d = z ∨ d = TI ∨ d = TO ∨ d = i1 ∨ d = i2 ∨ d = i3 := by simpa using hdm
        rcases e' with q | q | q | q | q | q
        · rw [q]; exact hzl
        · rw [q]; exact Heap.lt_size hTI
        · rw [q]; exact Heap.lt_size hTO
        · rw [q]; obtain ⟨_, e1, _⟩ := h1; exact Heap.lt_size e1
        · rw [q]; obtain ⟨_, e2, _⟩ := h2; exact Heap.lt_size e2
        · rw [q]; obtain ⟨_, e3, _⟩ := h3; exact Heap.lt_size e3
      rw [upd_ne (Nat.ne_of_lt hlt)]
      exact (hf d hdm).1
  done := by
    intro X hP hw hK hc i pins s σ H E I hf st hg
    subst hP hw hK
    obtain ⟨hz, hTI, ⟨x0, y0, u0, hTO⟩, h1, h2, h3⟩ := st
    obtain ⟨xs, ys, zs, hqx, hqy, hqu, b1, b2, b3, hend⟩ := hg
    obtain ⟨its, rv, p, _⟩ := I.tuple hqx
    obtain ⟨its2, rv2, p2, _⟩ := I.tuple hqy
    obtain ⟨its3, rv3, p3, _⟩ := I.tuple hqu
    have l1 := rv.length
    have l2 := rv2.length
    have l3 := rv3.length
    refine wpAny_pyNext_zipD3_end D (Draws.tuple (A := X.A.in1) (I.ok.hd hc) i1 a ha1 its.toArray) (Draws.tuple (A := X.A.in1) (I.ok.hd hc) i2 b hb2 its2.toArray) (Draws.tuple (A := X.A.in1) (I.ok.hd hc) i3 c hc3 its3.toArray) hz hTI hTO ⟨h1, p⟩ ⟨h2, p2⟩ ⟨h3, p3⟩ (by rw [List.size_toArray]; omega) (by rw [List.size_toArray]; omega) (by rw [List.size_toArray]; omega) (by rw [List.size_toArray, List.size_toArray, List.size_toArray]; omega) fun h' tk hk => ⟨rfl, I.turnedL (t' := tk) (ch := [z, TI, TO, i1, i2, i3]) (fun d o hb q =>
      hk d o (fun q' => hb (by simp [q'])) (fun q' => hb (by simp [q'])) (fun q' => hb (by simp [q'])) (fun q' => hb (by simp [q'])) (fun q' => hb (by simp [q'])) q) hf⟩
  self := fun A i s Q E st h => wpAny_pyIter_zip st.1 h
def iZipT3 (K : PySem.W.Frag) (ta : TA) : TI := fun σ H R => ta σ H fun vs H1 => ∃ a b c xs ys zs, vs = [.ref a, .ref b, .ref c] ∧ SqT K H1 a xs ∧ SqT K H1 b ys ∧ SqT K H1 c zs ∧ R (ItzT3 K a b c) H1
theorem pi_zipT3 {X : Cx} {e e2 e3 : Expr} {ta : TA} {p pos tpos : Pos} {elts : List Expr} {kk : Nat} (hg : Gl X "zip") (hm : X.mg "zip" = none) (ha : PA X [e, e2, e3] ta)
    (hs : starEach [e, e2, e3] X.env = (false, eval e X.env) :: starEach [e2, e3] X.env := by rfl) (hpl : (backTo pos (starEach [e2, e3] X.env)).any (·.1) = false := by rfl) :
    PI X (.Tuple elts kk tpos) (.Call (.Name "zip" p) [e, e2, e3] [] pos) (iZipT3 X.K ta) := by
  refine ⟨fun pins s σ H R I h => ?_⟩
  refine Call_ (ld_blt I hg hm PyProof.Rows.boot_zip (PyProof.Rows.callWith_type1 (thn (ha.run pos pins s σ H _ I h) fun us s1 ⟨vs, H1, I1, r1, q1⟩ => ?_) hs hpl))
  obtain ⟨a, b, c, xs, ys, zs, ex, hqx, hqy, hqu, q⟩ := q1
  subst ex
  cases r1 with
  | cons r rr =>
    cases rr with
    | cons r' rr =>
      cases rr with
      | cons r'' rr =>
      cases rr
      cases r
      cases r'
      cases r''
      have fresh6 : ∀ d, d ∈ [s1.heap.objs.size + 5, s1.heap.objs.size + 3, s1.heap.objs.size + 4, s1.heap.objs.size, s1.heap.objs.size + 1, s1.heap.objs.size + 2] → FpOk X pins H1 d := fun d hdm => by
        have e' : d = s1.heap.objs.size + 5 ∨ d = s1.heap.objs.size + 3 ∨ d = s1.heap.objs.size + 4 ∨ d = s1.heap.objs.size ∨ d = s1.heap.objs.size + 1 ∨ d = s1.heap.objs.size + 2 := by simpa using hdm
        have hle : s1.heap.objs.size ≤ d := by
          rcases e' with z | z | z | z | z | z
          · rw [z]; exact Nat.le_add_right _ _
          · rw [z]; exact Nat.le_add_right _ _
          · rw [z]; exact Nat.le_add_right _ _
          · rw [z]; exact Nat.le_refl _
          · rw [z]; exact Nat.le_add_right _ _
          · rw [z]; exact Nat.le_add_right _ _
        exact I1.fpOk hle (I1.hok.fresh hle)
      obtain ⟨its, rv, p1, _⟩ := I1.tuple hqx
      obtain ⟨its2, rv2, p2, _⟩ := I1.tuple hqy
      obtain ⟨its3, rv3, p3, _⟩ := I1.tuple hqu
      obtain ⟨o1, ho1, _⟩ := id p1
      obtain ⟨o2, ho2, _⟩ := id p2
      obtain ⟨o3, ho3, _⟩ := id p3
      have hal : a < s1.heap.objs.size := Heap.lt_size ho1
      have hbl : b < s1.heap.objs.size := Heap.lt_size ho2
      have hcl : c < s1.heap.objs.size := Heap.lt_size ho3
      refine zip_begins3 (begins_tuple a its.toArray) (begins_tuple b its2.toArray) (begins_tuple c its3.toArray) (show s1.heap.IsTuple a its.toArray from p1) (show s1.heap.IsTuple b its2.toArray from p2) (show s1.heap.IsTuple c its3.toArray from p3) fun h' hz hTI hTO h1 h2 h3 hsz hk => wpAny_pyIter_zip hz ?_
      have I2 : Inv X pins σ H1 { s1 with heap := h' } := I1.kept (t' := s1.toks) hk
      have sep : ZipSep3 (s1.heap.objs.size + 5) (s1.heap.objs.size + 3) (s1.heap.objs.size + 4) s1.heap.objs.size (s1.heap.objs.size + 1) (s1.heap.objs.size + 2) [s1.heap.objs.size, a] [s1.heap.objs.size + 1, b] [s1.heap.objs.size + 2, c] := zip_sep3 (fp1 := [a]) (fp2 := [b]) (fp3 := [c]) (by simpa using hal) (by simpa using hbl) (by simpa using hcl)
      exact ⟨s1.heap.objs.size + 5, [s1.heap.objs.size + 5, s1.heap.objs.size + 3, s1.heap.objs.size + 4, s1.heap.objs.size, s1.heap.objs.size + 1, s1.heap.objs.size + 2], _, _, H1, rfl, I2, turn_zipT3 sep (Nat.ne_of_lt hal) (Nat.ne_of_lt (Nat.lt_succ_of_lt hbl)) (Nat.ne_of_lt (Nat.lt_succ_of_lt (Nat.lt_succ_of_lt hcl))), ⟨hz, hTI, ⟨_, _, _, hTO⟩, ⟨_, h1, rfl, rfl⟩, ⟨_, h2, rfl, rfl⟩, ⟨_, h3, rfl, rfl⟩⟩, fresh6, q⟩
section
variable {K : PySem.W.Frag} {O : OW} {H : Hp} {ds es fs : List D} {a b c : Addr} {xs ys zs : List V}
def zipD3 : List D → List D → List D → List D
  | d :: ds, e :: es, f :: fs => .tup [d, e, f] :: zipD3 ds es fs
  | _, _, _ => []
theorem zipD3_len : ∀ (ds es fs : List D), (zipD3 ds es fs).length = min (min ds.length es.length) fs.length
  | [], _, _ => by simp [zipD3]
  | _ :: _, [], _ => by simp [zipD3]
  | _ :: _, _ :: _, [] => by simp [zipD3]
  | d :: ds, e :: es, f :: fs => by
    rw [zipD3, List.length_cons, zipD3_len ds es fs, List.length_cons, List.length_cons, List.length_cons]
    omega
theorem zipD3_get : ∀ {ds es fs : List D} {i : Nat} {x : D}, (zipD3 ds es fs)[i]? = some x → ∃ d e f, ds[i]? = some d ∧ es[i]? = some e ∧ fs[i]? = some f ∧ x = .tup [d, e, f]
  | [], _, _, _, _, h => by simp [zipD3] at h
  | _ :: _, [], _, _, _, h => by simp [zipD3] at h
  | _ :: _, _ :: _, [], _, _, h => by simp [zipD3] at h
  | d :: ds, e :: es, f :: fs, 0, x, h => by
    have h : D.tup [d, e, f] = x := by simpa [zipD3] using h
    exact ⟨d, e, f, rfl, rfl, rfl, h.symm⟩
  | d :: ds, e :: es, f :: fs, i + 1, x, h => by
    obtain ⟨d', e', f', h1, h2, h3, h4⟩ := zipD3_get (ds := ds) (es := es) (fs := fs) (i := i) (x := x) (by simpa [zipD3] using h)
    exact ⟨d', e', f', by simpa using h1, by simpa using h2, by simpa using h3, h4⟩
theorem walk_zipT3 : Walk (ItzT3 K a b c) (min (min xs.length ys.length) zs.length) (fun H => SqT K H a xs ∧ SqT K H b ys ∧ SqT K H c zs) (fun i H v H' => ∃ T x y z, v = .ref T ∧ H T = none ∧ H' = upd H T (.tup [x, y, z]) ∧ xs[i]? = some x ∧ ys[i]? = some y ∧ zs[i]? = some z) := by
  refine ⟨fun i H hi q => ?_, fun H q => ⟨xs, ys, zs, q.1, q.2.1, q.2.2, by omega, by omega, by omega, by omega⟩, fun i H v H' _ q y => ?_⟩
  · have h1 : i < xs.length := by omega
    have h2 : i < ys.length := by omega
    have h3 : i < zs.length := by omega
    exact ⟨xs, ys, zs, xs[i], ys[i], zs[i], q.1, q.2.1, q.2.2, List.getElem?_eq_getElem h1, List.getElem?_eq_getElem h2, List.getElem?_eq_getElem h3⟩
  · obtain ⟨T, x, y, z, h1, h2, h3, h4, h5, h6⟩ := y
    exact ⟨T, x, y, z, h1, h2, h3, h4 xs q.1, h5 ys q.2.1, h6 zs q.2.2⟩
theorem rep_triple {T : Addr} {x y z : V} {d e f : D} (wf : Wf O H []) (hT : H T = none) (hx : Rep K O H d x) (hy : Rep K O H e y) (hz : Rep K O H f z) : Step O H [] O (upd H T (.tup [x, y, z])) [] ∧ Rep K O (upd H T (.tup [x, y, z])) (.tup [d, e, f]) (.ref T) := by
  have s : Step O H [] O (upd H T (.tup [x, y, z])) [] := Step.newF wf hT
  have kp := s.kept wf
  refine ⟨s, T, [x, y, z], rfl, .inl ⟨fun q => ?_, .inl upd_same⟩, _, _, rfl, hx.kept kp, _, _, rfl, hy.kept kp, _, _, rfl, hz.kept kp, rfl⟩
  obtain ⟨o, e⟩ := wf.dom T q
  rw [hT] at e; cases e
theorem wk_zipT3 (ha : TupAt K O H a xs) (rl : RepL K O H ds xs) (hb : TupAt K O H b ys) (rm : RepL K O H es ys) (hc : TupAt K O H c zs) (rn : RepL K O H fs zs) : Wk K O H (ItzT3 K a b c) (zipD3 ds es fs) :=
  wk_of (walk_zipT3 (xs := xs) (ys := ys) (zs := zs)) (by rw [zipD3_len, rl.len, rm.len, rn.len]) (fun O' H' kp => ⟨(ha.kept kp).sq, (hb.kept kp).sq, (hc.kept kp).sq⟩) fun O' H' F' i d x H2 kp wf hd ⟨T, x1, y1, z1, ex, hT, eH, hx, hy, hz⟩ => by
    obtain ⟨e, f, g, he, hf, hg, ed⟩ := zipD3_get hd
    subst ex eH ed
    exact rep_triple wf.nil hT (repL_at (rl.kept kp) he hx) (repL_at (rm.kept kp) hf hy) (repL_at (rn.kept kp) hg hz)
end
section
variable {X : Cx} {env env1 env2 env3 : Sls} {ds es fs : List D} {pos p : Pos} {e e2 e3 : Expr} {elts : List Expr} {kk : Nat} {tpos : Pos}
theorem iv_zipT3 (ha : Ev X e env (.val (.tup ds)) env1) (hb : Ev X e2 env1 (.val (.tup es)) env2) (hc : Ev X e3 env2 (.val (.tup fs)) env3) (hm : X.mg "zip" = none := by assumption) (hg : Gl X "zip" := by rfl)
    (he2 : (backTo pos (starEach [e2, e3] X.env)).any (·.1) = false := by rfl) (he' : starEach [e, e2, e3] X.env = (false, eval e X.env) :: starEach [e2, e3] X.env := by rfl) (he3 : starEach [e2, e3] X.env = (false, eval e2 X.env) :: starEach [e3] X.env := by rfl) (he4 : starEach [e3] X.env = (false, eval e3 X.env) :: starEach [] X.env := by rfl) : Iv X (.Tuple elts kk tpos) (.Call (.Name "zip" p) [e, e2, e3] [] pos) env (zipD3 ds es fs) env3 := by
  have hA : EvAs X [e, e2, e3] env (([.tup ds, .tup es, .tup fs] : List D).map AK.v) env3 := ea_cons ha (ea_cons hb (ea_cons hc ea_nil he4) he3) he'
  refine ⟨hA.1, fun O H σ F r w R q => ⟨_, pi_zipT3 hg hm pa_w he' he2, hA.2 O H σ F r w _ fun O1 H1 vs F1 ra r1 s1 => ?_⟩⟩
  obtain ⟨v1, vs1, e1, ⟨a, xs, ea, ta, rl⟩, v2, vs2, e2', ⟨b, ys, eb, tb, rm⟩, v3, vs3, e3', ⟨c, zs, ec, tc, rn⟩, e4⟩ := repL_of _ ra
  have e4 : vs3 = [] := e4
  subst e4 e3' e2' e1
  exact ⟨a, b, c, xs, ys, zs, by rw [ea, eb, ec], TupAt.sq ta, TupAt.sq tb, TupAt.sq tc, q O1 H1 _ F1 (wk_zipT3 ta rl tb rm tc rn) r1 s1⟩
theorem zipD3_map {α β γ : Type} (f : α → D) (g : β → D) (k : γ → D) : ∀ (as : List α) (bs : List β) (cs : List γ), zipD3 (as.map f) (bs.map g) (cs.map k) = ((as.zip bs).zip cs).map fun x => .tup [f x.1.1, g x.1.2, k x.2]
  | [], _, _ => rfl
  | _ :: _, [], _ => rfl
  | _ :: _, _ :: _, [] => rfl
  | a :: as, b :: bs, c :: cs => by
    rw [List.map_cons, List.map_cons, List.map_cons, zipD3, zipD3_map f g k as bs cs]
    rfl
end
end Lin

end

section
namespace Lin
open PySem PySem.Spec PyProof.Rows L2
/-! two names are lent: the first argument and one in the midst; the def returns something -/
def FS3 (K : PySem.W.Frag) (m1 : M) (mid : List D) (m2 : M) (post : List D) (r : M) (m1' m2' : M) : Sp := fun vs H Q _ => ∃ (O : OW) (u1 u2 : V) (F1 F2 : List Addr) (vs1 vs2 : List V), Wf O H (F1 ++ F2) ∧ RepM K O H m1 u1 F1 ∧ RepM K O H m2 u2 F2 ∧ vs = u1 :: (vs1 ++ u2 :: vs2) ∧ RepL K O H mid vs1 ∧ RepL K O H post vs2 ∧
  ∀ (O' : OW) (H' : Hp) (v : V) (Fv G1 G2 : List Addr), RepM K O' H' r v Fv → RepM K O' H' m1' u1 G1 → RepM K O' H' m2' u2 G2 → Step O H (F1 ++ F2) O' H' (Fv ++ (G1 ++ G2)) → Q v H'
theorem repA_mid {K : PySem.W.Frag} {O : OW} {H : Hp} {σ : L2.St} {j : Nat} {u2 : V} (h2 : σ[j]? = some (some u2)) (post : List D) : ∀ (mid : List D) {vs : List V}, RepA K O H σ (mid.map AK.v ++ AK.lend j :: post.map AK.v) vs → ∃ vs1 vs2, vs = vs1 ++ u2 :: vs2 ∧ RepL K O H mid vs1 ∧ RepL K O H post vs2
  | [], _, ⟨u, us, e, p, q⟩ => by
    have e1 : u = u2 := by rw [h2] at p; exact (Option.some.inj (Option.some.inj p)).symm
    subst e1
    exact ⟨[], us, e, rfl, repL_of post q⟩
  | d :: mid, _, ⟨u, us, e, p, q⟩ => by
    obtain ⟨v1, v2, e2, a, b⟩ := repA_mid h2 post mid q
    exact ⟨u :: v1, v2, by rw [e, e2]; rfl, ⟨u, v1, rfl, p, a⟩, b⟩
section
variable {X : Cx} {env env1 env2 : Sls} {e : Expr} {es : List Expr} {pos p : Pos} {n : Str} {k l i j : Nat} {r m1 m2 m1' m2' : M} {s1 s2 : Sl}
theorem ev_call3 {mid post : List D} (G : Fn X.prog X.w X.K X.mg X.base n l k (FS3 X.K m1 mid m2 post r m1' m2')) (hr : Room k X.A) (ha : EvAs X (e :: es) env (AK.lend i :: (mid.map AK.v ++ AK.lend j :: post.map AK.v)) env1) (hi : env1[i]? = some (some s1)) (hj : env1[j]? = some (some s2)) (hsm1 : s1.m = m1 := by rfl) (hsm2 : s2.m = m2 := by rfl) (hij : i ≠ j := by decide) (hg : Gl X n := by rfl)
    (hdb : (n == ("__debug__" : Str)) = false := by decide) (he : starEach (e :: es) X.env = (false, eval e X.env) :: starEach es X.env := by rfl) (hpl : (backTo pos (starEach es X.env)).any (·.1) = false := by rfl) :
    Ev X (.Call (.Name n p) (e :: es) [] pos) env r ((env1.set i (some (s1.put m1'))).set j (some (s2.put m2'))) := by
  obtain ⟨f, fd, ps, _, G, hm, hk, hb⟩ := G
  subst hsm1 hsm2
  have hj1 : (env1.set i (some (s1.put m1')))[j]? = some (some s2) := by rw [List.getElem?_set_ne hij]; exact hj
  refine ⟨(ha.1.trans (Io.put hi)).trans (Io.put hj1), fun O H σ F rs w Q q => ⟨_, pe_call G hr hg hm hk hb .nil pass0 pa_w hdb he hpl, ha.2 O H σ F rs w _ fun O1 H1 vs F1 ra r1 st1 => ?_⟩⟩
  show FS3 X.K s1.m mid s2.m post r m1' m2' (vs ++ []) H1 Q _
  rw [List.append_nil]
  obtain ⟨u1, G1, Gi, G2, e1, ef, rm1, rn, _⟩ := RepS.at r1 hi
  subst ef
  have hj2 : (env1.set i none)[j]? = some (some s2) := by rw [List.getElem?_set_ne hij]; exact hj
  obtain ⟨u2, P1, Pj, P2, e2, ef2, rm2, _, kk⟩ := RepS.at rn hj2
  obtain ⟨u, us, ev, eu, ra2⟩ := ra
  have eu1 : u = u1 := by rw [e1] at eu; exact (Option.some.inj (Option.some.inj eu)).symm
  subst eu1
  obtain ⟨vs1, vs2, evs, rl, rl2⟩ := repA_mid e2 post mid ra2
  have cnt : ∀ a, (G1 ++ G2).count a = (P1 ++ (Pj ++ P2)).count a := fun a => by rw [ef2]
  have pm : ((Gi ++ Pj) ++ (P1 ++ P2)).Perm (G1 ++ (Gi ++ G2)) := List.perm_iff_count.mpr fun a => by
    have := cnt a
    simp only [List.count_append] at this ⊢; omega
  have wf := st1.wf.perm pm.symm
  refine ⟨O1, u, u2, Gi, Pj, vs1, vs2, wf.left, rm1, rm2, by rw [ev, evs], rl, rl2, fun O2 H2 z Fz K1 K2 rz rk1 rk2 st2 => ?_⟩
  have rs2 := kk O2 H2 (st2.kf wf.left) st2.nw (fun a o ha h => st2.frame a o h fun q => wf.apart q ha) u2 (s2.put m2') K2 (by rw [Sl.put_m]; exact rk2)
  rw [set_same e2] at rs2
  have hil : i < ((env1.set i none).set j (some (s2.put m2'))).length := by
    rw [List.length_set, List.length_set]
    exact (List.getElem?_eq_some_iff.mp hi).1
  obtain ⟨Q1, Q2, Qi, ef3, _, kd⟩ := RepS.drop i (some u) hil rs2
  have rs3 := kd u (s1.put m1') K1 (by rw [Sl.put_m]; exact rk1)
  rw [set_same e1] at rs3
  have ee : ((env1.set i none).set j (some (s2.put m2'))).set i (some (s1.put m1')) = (env1.set i (some (s1.put m1'))).set j (some (s2.put m2')) := by
    rw [List.set_comm _ _ (Ne.symm hij), List.set_set]
  rw [ee] at rs3
  have cnt3 : ∀ a, (P1 ++ (K2 ++ P2)).count a = (Q1 ++ (Qi ++ Q2)).count a := fun a => by rw [ef3]
  refine q O2 H2 z Fz _ rz rs3 (st1.trans w ((((st2.beside wf).permL pm).permR (F2 := (Fz ++ (Q1 ++ (K1 ++ Q2))) ++ Qi) (List.perm_iff_count.mpr fun a => by
    have := cnt3 a
    simp only [List.count_append] at this ⊢; omega)).dropR))
end
section
variable {P : Program} {w : World} {K : PySem.W.Frag} {mg : Str → Option Value} {base : Heap} {x qual : Str} {st : Stmt} {N ps : List Str} {k : Nat} {mid post : List D} {r m1 m2 m1' m2' : M} {env0 : Sls}
def start3 (N : List Str) (m1 : M) (mid : List D) (m2 : M) (post : List D) : Sls := some (Sl.io m1) :: (mid.map vl ++ some (Sl.io m2) :: (post.map vl ++ List.replicate (N.length - (mid.length + post.length + 2)) none))
theorem fd3 (h : Df K mg x st ps) (S : FnScope N ps (defScope st)) (hl : mid.length + post.length + 2 = ps.length) (h0 : env0 = start3 N m1 mid m2 post)
    (body : In0 P w K mg base N x st k fun X => ∃ env', Ex X (defBody st) env0 (.rt r env') ∧ env'[0]? = some (some (Sl.io m1')) ∧ env'[mid.length + 1]? = some (some (Sl.io m2'))) : Fn P w K mg base x ps.length (k + 1) (FS3 K m1 mid m2 post r m1' m2') := by
  obtain ⟨f, fd, F, b, g⟩ := h
  refine ⟨f, fd, ps, rfl, F.ok S (fun vs H Q E h => ?_) (fun cdv A outer s H vs Q E hr h => ?_), g, F.kp, b⟩
  · obtain ⟨O, u1, u2, F1, F2, v1, v2, _, _, _, e, a1, a2, _⟩ := h
    rw [e, List.length_cons, List.length_append, List.length_cons, a1.len, a2.len, ← hl]; omega
  · obtain ⟨O, u1, u2, F1, F2, v1, v2, wf, rm1, rm2, e, a1, a2, q⟩ := h
    obtain ⟨env', ex, he1, he2⟩ := body f cdv A outer s H E hr
    subst h0
    have hst : L2.start N vs = some u1 :: (v1.map some ++ some u2 :: (v2.map some ++ List.replicate (N.length - (mid.length + post.length + 2)) none)) := by
      unfold L2.start
      rw [e, List.length_cons, List.length_append, List.length_cons, a1.len, a2.len, List.map_cons, List.map_append, List.map_cons, List.cons_append, List.append_assoc, List.cons_append]
      rw [show N.length - (mid.length + (post.length + 1) + 1) = N.length - (mid.length + post.length + 2) by omega]
    have rs0 : RepS K O H (start3 N m1 mid m2 post) (L2.start N vs) (F1 ++ F2) := by
      rw [hst]
      exact ⟨u1, _, F1, F2, rfl, rfl, rm1, repS_start1 rm2 (repS_start _ post a2) mid a1⟩
    refine ex O H (L2.start N vs) _ rs0 wf _ fun O' H' σ' v Fv F' rv rs s' pn => ?_
    have hin1 : (start3 N m1 mid m2 post)[0]? = some (some (Sl.io m1)) := rfl
    have hin2 : (start3 N m1 mid m2 post)[mid.length + 1]? = some (some (Sl.io m2)) := by
      unfold start3
      rw [List.getElem?_cons_succ, List.getElem?_append_right (by rw [List.length_map]; exact Nat.le_refl _), List.length_map, Nat.sub_self]; rfl
    obtain ⟨_, hp1⟩ := pn _ m1 hin1
    obtain ⟨_, hp2⟩ := pn _ m2 hin2
    obtain ⟨y1, G1, Gi, G2, e1, ef, rmi, rn, _⟩ := RepS.at rs he1
    subst ef
    have he2' : (env'.set 0 none)[mid.length + 1]? = some (some (Sl.io m2')) := by rw [List.getElem?_set_ne (by omega)]; exact he2
    obtain ⟨y2, P1, Pj, P2, e2, ef2, rmj, _, _⟩ := RepS.at rn he2'
    have hu1 : (L2.start N vs)[0]? = some (some u1) := by rw [hst]; rfl
    have hu2 : (L2.start N vs)[mid.length + 1]? = some (some u2) := by
      rw [hst, List.getElem?_cons_succ, List.getElem?_append_right (by rw [List.length_map, a1.len]; exact Nat.le_refl _), List.length_map, a1.len, Nat.sub_self]; rfl
    have q1 : y1 = u1 := by
      rw [hp1, hu1] at e1
      exact (Option.some.inj (Option.some.inj e1)).symm
    have q2 : y2 = u2 := by
      rw [hp2, hu2] at e2
      exact (Option.some.inj (Option.some.inj e2)).symm
    subst q1 q2
    have cnt : ∀ a, (G1 ++ G2).count a = (P1 ++ (Pj ++ P2)).count a := fun a => by rw [ef2]
    exact q O' H' v Fv Gi Pj rv rmi rmj ((s'.permR (F2 := (Fv ++ (Gi ++ Pj)) ++ (P1 ++ P2)) (List.perm_iff_count.mpr fun a => by
      have := cnt a
      simp only [List.count_append] at this ⊢; omega)).dropR)
end
end Lin

end

section
namespace Lin
open PySem PySem.Spec PySem.Calls PyProof.Rows L2
/-! min and max of a list of triples: a number, a number, a tuple of numbers -/
abbrev Tri : Type := Int × Int × List Int
def trX (p : Tri) : D := .tup [.int p.1, .int p.2.1, sdD p.2.2]
def trY (p : Tri) : PyData := .tuple [.int p.1, .int p.2.1, .tuple (p.2.2.map PyData.int)]
theorem pd_ints3 : ∀ v : List Int, plainL (v.map D.int) = true ∧ pdL (v.map D.int) = v.map PyData.int
  | [] => ⟨rfl, rfl⟩
  | x :: v => by
    obtain ⟨a, b⟩ := pd_ints3 v
    refine ⟨?_, ?_⟩
    · show (plain (.int x) && plainL (v.map D.int)) = true
      rw [a]; rfl
    · show pd (.int x) :: pdL (v.map D.int) = _
      rw [b]; rfl
theorem pd_trX : ∀ ps : List Tri, plainL (ps.map trX) = true ∧ pdL (ps.map trX) = ps.map trY
  | [] => ⟨rfl, rfl⟩
  | p :: ps => by
    obtain ⟨a, b⟩ := pd_trX ps
    obtain ⟨c, d⟩ := pd_ints3 p.2.2
    refine ⟨?_, ?_⟩
    · show (plain (trX p) && plainL (ps.map trX)) = true
      rw [a]
      show (plainL [.int p.1, .int p.2.1, .tup (p.2.2.map D.int)] && true) = true
      show ((plain (.int p.1) && (plain (.int p.2.1) && (plainL (p.2.2.map D.int) && true))) && true) = true
      rw [c]; rfl
    · show pd (trX p) :: pdL (ps.map trX) = _
      rw [b]
      show PyData.tuple [.int p.1, .int p.2.1, .tuple (pdL (p.2.2.map D.int))] :: _ = _
      rw [d]; rfl
theorem alike_ints : ∀ v u : List Int, PySem.W.alikeAll (v.map PyData.int) (u.map PyData.int) = true
  | [], _ => by simp [PySem.W.alikeAll]
  | _ :: _, [] => by simp [PySem.W.alikeAll]
  | x :: v, y :: u => by
    have := alike_ints v u
    simp only [List.map_cons, PySem.W.alikeAll, PySem.W.alike, this, Bool.and_true]
theorem alike_tr (p q : Tri) : PySem.W.alike (trY p) (trY q) = true := by
  simp [trY, PySem.W.alike, PySem.W.alikeAll, alike_ints]
theorem lt_tr (p q : Tri) (h : p.1 ≠ q.1) : PySem.W.dataLt (trY p) (trY q) = decide (p.1 < q.1) := by
  unfold trY
  rw [PySem.W.dataLt_tuple, PySem.W.dataLt_cons (by simp [PySem.W.alike]), PySem.W.dataLt_int]
  have e : PyData.eqv (.int p.1) (.int q.1) = decide (p.1 = q.1) := by simp [PyData.eqv]; rw [Bool.eq_iff_iff]; simp
  rw [e, if_neg (by simpa using h)]
def minTr (x : Tri) (ps : List Tri) : Tri := ps.foldl (fun a y => if PySem.W.dataLt (trY y) (trY a) then y else a) x
def maxTr (x : Tri) (ps : List Tri) : Tri := ps.foldl (fun a y => if PySem.W.dataLt (trY a) (trY y) then y else a) x
theorem min_trY (x : Tri) (ps : List Tri) : PySem.W.minD (trY x) (ps.map trY) = trY (minTr x ps) := by
  unfold PySem.W.minD minTr
  induction ps generalizing x with
  | nil => rfl
  | cons p ps ih =>
    rw [List.map_cons, List.foldl_cons, List.foldl_cons]
    cases PySem.W.dataLt (trY p) (trY x) with
    | true => exact ih p
    | false => exact ih x
theorem max_trY (x : Tri) (ps : List Tri) : PySem.W.maxD (trY x) (ps.map trY) = trY (maxTr x ps) := by
  unfold PySem.W.maxD maxTr
  induction ps generalizing x with
  | nil => rfl
  | cons p ps ih =>
    rw [List.map_cons, List.foldl_cons, List.foldl_cons]
    cases PySem.W.dataLt (trY x) (trY p) with
    | true => exact ih p
    | false => exact ih x
theorem fold_mem3 (g : Tri → Tri → Bool) : ∀ (ps : List Tri) (x : Tri), (ps.foldl (fun a y => if g a y then y else a) x) ∈ x :: ps
  | [], x => List.mem_cons_self ..
  | p :: ps, x => by
    rw [List.foldl_cons]
    have i := fold_mem3 g ps (if g x p = true then p else x)
    rcases List.mem_cons.mp i with e | e
    · rw [e]
      split
      · exact List.mem_cons_of_mem _ (List.mem_cons_self ..)
      · exact List.mem_cons_self ..
    · exact List.mem_cons_of_mem _ (List.mem_cons_of_mem _ e)
theorem fold_le3 (g : Tri → Tri → Bool) (r : Int → Int → Prop) (rr : ∀ a, r a a) (rt : ∀ a b c, r a b → r b c → r a c) (h1 : ∀ x p, g x p = true → r p.1 x.1) (h2 : ∀ x p, g x p = false → r x.1 p.1) : ∀ (ps : List Tri) (x : Tri), ∀ y ∈ x :: ps, r (ps.foldl (fun a y => if g a y then y else a) x).1 y.1
  | [], x, y, hy => by rw [List.mem_singleton.mp hy]; exact rr _
  | p :: ps, x, y, hy => by
    rw [List.foldl_cons]
    have i := fold_le3 g r rr rt h1 h2 ps (if g x p = true then p else x)
    have e : r (if g x p = true then p else x).1 x.1 ∧ r (if g x p = true then p else x).1 p.1 := by
      cases q : g x p with
      | true => exact ⟨h1 x p q, rr _⟩
      | false => exact ⟨rr _, h2 x p q⟩
    have i0 := i _ (List.mem_cons_self ..)
    rcases List.mem_cons.mp hy with rfl | hy
    · exact rt _ _ _ i0 e.1
    · rcases List.mem_cons.mp hy with rfl | hy
      · exact rt _ _ _ i0 e.2
      · exact i y (List.mem_cons_of_mem _ hy)
theorem minTr_mem (x : Tri) (ps : List Tri) : minTr x ps ∈ x :: ps := fold_mem3 (fun a y => PySem.W.dataLt (trY y) (trY a)) ps x
theorem maxTr_mem (x : Tri) (ps : List Tri) : maxTr x ps ∈ x :: ps := fold_mem3 (fun a y => PySem.W.dataLt (trY a) (trY y)) ps x
theorem minTr_le (x : Tri) (ps : List Tri) : ∀ y ∈ x :: ps, (minTr x ps).1 ≤ y.1 :=
  fold_le3 (fun a y => PySem.W.dataLt (trY y) (trY a)) (fun a b => a ≤ b) (fun a => Int.le_refl a) (fun a b c => Int.le_trans) (fun x p h => by
    by_cases e : p.1 = x.1
    · exact Int.le_of_eq e
    · rw [lt_tr p x e] at h
      exact Int.le_of_lt (of_decide_eq_true h)) (fun x p h => by
    by_cases e : p.1 = x.1
    · exact Int.le_of_eq e.symm
    · rw [lt_tr p x e] at h
      have := of_decide_eq_false h
      omega) ps x
theorem maxTr_le (x : Tri) (ps : List Tri) : ∀ y ∈ x :: ps, y.1 ≤ (maxTr x ps).1 :=
  fold_le3 (fun a y => PySem.W.dataLt (trY a) (trY y)) (fun a b => b ≤ a) (fun a => Int.le_refl a) (fun a b c h1 h2 => Int.le_trans h2 h1) (fun x p h => by
    by_cases e : x.1 = p.1
    · exact Int.le_of_eq e
    · rw [lt_tr x p e] at h
      exact Int.le_of_lt (of_decide_eq_true h)) (fun x p h => by
    by_cases e : x.1 = p.1
    · exact Int.le_of_eq e.symm
    · rw [lt_tr x p e] at h
      have := of_decide_eq_false h
      omega) ps x
theorem trY_inj {p q : Tri} (h : trY p = trY q) : p = q := by
  unfold trY at h
  have h := List.cons.inj (PyData.tuple.inj h)
  have h1 := PyData.int.inj h.1
  have h2 := List.cons.inj h.2
  have h3 := List.cons.inj h2.2
  have h4 := PyData.tuple.inj h3.1
  exact Prod.ext h1 (Prod.ext (PyData.int.inj h2.1) (List.map_inj_right (fun _ _ e => PyData.int.inj e) |>.mp h4))
theorem depth_ints3 : ∀ v : List Int, PyData.depthAll (v.map PyData.int) ≤ 1
  | [] => by decide
  | x :: v => by
    have := depth_ints3 v
    show max (PyData.depth (.int x)) (PyData.depthAll (v.map PyData.int)) ≤ 1
    exact Nat.max_le.mpr ⟨by simp [PyData.depth], this⟩
theorem depth_trY : ∀ ps : List Tri, PyData.depthAll (ps.map trY) ≤ 3
  | [] => by decide
  | p :: ps => by
    have := depth_trY ps
    have d := depth_ints3 p.2.2
    show max (PyData.depth (trY p)) (PyData.depthAll (ps.map trY)) ≤ 3
    refine Nat.max_le.mpr ⟨?_, this⟩
    simp [trY, PyData.depth, PyData.depthAll]
    omega
def rTr (K : PySem.W.Frag) (g : Tri → List Tri → Tri) : List V → Hp → VK → Prop := fun vs H Q => ∃ (a : Addr) (xs : List V) (x : Tri) (ps : List Tri), vs = [V.ref a] ∧ SqL K H a xs ∧ DpAll K H xs ((x :: ps).map trY) ∧ ∀ (i : Nat) (v : V), xs[i]? = some v → (x :: ps)[i]? = some (g x ps) → Q v H
section
variable {X : Cx} {env env1 env2 : Sls} {e : Expr} {pos p : Pos}
theorem tri_all (x : Tri) (ps : List Tri) : PySem.W.AlikeAll (trY x :: ps.map trY) := ⟨fun y hy z hz => by
  obtain ⟨i, _, rfl⟩ := List.mem_map.mp (show y ∈ (x :: ps).map trY from hy)
  obtain ⟨j, _, rfl⟩ := List.mem_map.mp (show z ∈ (x :: ps).map trY from hz)
  exact alike_tr i j, fun y hy => by
  obtain ⟨i, _, rfl⟩ := List.mem_map.mp (show y ∈ (x :: ps).map trY from hy)
  exact fun z => nomatch z⟩
theorem cr_minTr (hc : X.calm = true) (hu : X.A.units + 4 < cLine) : CallR X (.builtin "min") (rTr X.K minTr) := by
  intro pins s σ H vs us Q I r h
  obtain ⟨a, xs, x, ps, rfl, hs, hd, q⟩ := h
  obtain ⟨its, rv, hl, _⟩ := I.list hs
  rw [Vals.ref1 r]
  obtain ⟨as, hr⟩ := Dp.readsAll I _ _ its hd rv
  have dp := depth_trY (x :: ps)
  refine PySem.W.min_list_data (I.ok.hd hc) hl.isList hr (tri_all x ps) (by show X.A.units + 1 + PyData.depthAll ((x :: ps).map trY) < cLine; omega) fun i v h' tk bs hv hr' hk => ?_
  obtain ⟨cs, r2, hi, _, _⟩ := PySem.W.readsAll_atA hr i v hv
  have hi2 : i < (x :: ps).length := by
    have : i < ((x :: ps).map trY).length := hi
    rwa [List.length_map] at this
  have eg : (trY x :: ps.map trY).getD i .none = trY ((x :: ps)[i]) := by
    show ((x :: ps).map trY).getD i .none = _
    rw [List.getD_eq_getElem?_getD, List.getElem?_map, List.getElem?_eq_getElem hi2]; rfl
  rw [show ((x :: ps).map trY) = trY x :: ps.map trY from rfl, eg] at r2
  have r3 : Reads h' v (trY (minTr x ps)) bs := by rw [← min_trY]; exact hr'
  have u := PySem.W.alike_unique (trY (minTr x ps)) (trY ((x :: ps)[i])) v _ _ (alike_tr _ _) r3 (PySem.W.reads_keeps hk r2)
  have ix : i < xs.length := by
    rw [rv.length]
    rw [List.getElem?_toArray] at hv
    exact (List.getElem?_eq_some_iff.mp hv).1
  obtain ⟨w, hw, rw1⟩ := Vals.get rv (List.getElem?_eq_getElem ix)
  have ew : v = w := by
    rw [List.getElem?_toArray, hw] at hv
    exact (Option.some.inj hv).symm
  subst ew
  exact ⟨_, H, I.kept hk, rw1, q i _ (List.getElem?_eq_getElem ix) (by rw [List.getElem?_eq_getElem hi2, trY_inj u])⟩
theorem cr_maxTr (hc : X.calm = true) (hu : X.A.units + 4 < cLine) : CallR X (.builtin "max") (rTr X.K maxTr) := by
  intro pins s σ H vs us Q I r h
  obtain ⟨a, xs, x, ps, rfl, hs, hd, q⟩ := h
  obtain ⟨its, rv, hl, _⟩ := I.list hs
  rw [Vals.ref1 r]
  obtain ⟨as, hr⟩ := Dp.readsAll I _ _ its hd rv
  have dp := depth_trY (x :: ps)
  refine PySem.W.max_list_data (I.ok.hd hc) hl.isList hr (tri_all x ps) (by show X.A.units + 1 + PyData.depthAll ((x :: ps).map trY) < cLine; omega) fun i v h' tk bs hv hr' hk => ?_
  obtain ⟨cs, r2, hi, _, _⟩ := PySem.W.readsAll_atA hr i v hv
  have hi2 : i < (x :: ps).length := by
    have : i < ((x :: ps).map trY).length := hi
    rwa [List.length_map] at this
  have eg : (trY x :: ps.map trY).getD i .none = trY ((x :: ps)[i]) := by
    show ((x :: ps).map trY).getD i .none = _
    rw [List.getD_eq_getElem?_getD, List.getElem?_map, List.getElem?_eq_getElem hi2]; rfl
  rw [show ((x :: ps).map trY) = trY x :: ps.map trY from rfl, eg] at r2
  have r3 : Reads h' v (trY (maxTr x ps)) bs := by rw [← max_trY]; exact hr'
  have u := PySem.W.alike_unique (trY (maxTr x ps)) (trY ((x :: ps)[i])) v _ _ (alike_tr _ _) r3 (PySem.W.reads_keeps hk r2)
  have ix : i < xs.length := by
    rw [rv.length]
    rw [List.getElem?_toArray] at hv
    exact (List.getElem?_eq_some_iff.mp hv).1
  obtain ⟨w, hw, rw1⟩ := Vals.get rv (List.getElem?_eq_getElem ix)
  have ew : v = w := by
    rw [List.getElem?_toArray, hw] at hv
    exact (Option.some.inj hv).symm
  subst ew
  exact ⟨_, H, I.kept hk, rw1, q i _ (List.getElem?_eq_getElem ix) (by rw [List.getElem?_eq_getElem hi2, trY_inj u])⟩
/-- min, max of a list of triples -/
theorem ev_minTr {x : Tri} {ps : List Tri} (ha : Ev X e env (.val (.lst ((x :: ps).map trX))) env1) (hu : X.A.units + 4 < cLine) (hm : X.mg "min" = none := by assumption) (hc : X.calm = true := by rfl) (hg : Gl X "min" := by rfl) (he : starEach [e] X.env = (false, eval e X.env) :: starEach [] X.env := by rfl) (hpl : (backTo pos (starEach [] X.env)).any (·.1) = false := by rfl) : Ev X (.Call (.Name "min" p) [e] [] pos) env (.val (trX (minTr x ps))) env1 :=
  ev_cbi (ds := [.lst ((x :: ps).map trX)]) (cr_minTr hc hu) (rf_val fun O H vs Q ⟨u, us, e, ⟨a, xs, hu, no, hp, rl⟩, hn⟩ q => ⟨a, xs, x, ps, by rw [e, hu, show us = [] from hn], .inl (.inl hp), by rw [← (pd_trX (x :: ps)).2]; exact RepL.dp _ (pd_trX (x :: ps)).1 rl, fun i v hv hi => by
    obtain ⟨z, hz, rz⟩ := RepL.get rl (show ((x :: ps).map trX)[i]? = some (trX (minTr x ps)) by rw [List.getElem?_map, hi]; rfl)
    rw [hv] at hz
    cases hz
    exact q _ rz⟩) (ea_cons ha ea_nil he) hm (by decide +kernel) hg (by decide) (by decide) he hpl
theorem ev_maxTr {x : Tri} {ps : List Tri} (ha : Ev X e env (.val (.lst ((x :: ps).map trX))) env1) (hu : X.A.units + 4 < cLine) (hm : X.mg "max" = none := by assumption) (hc : X.calm = true := by rfl) (hg : Gl X "max" := by rfl) (he : starEach [e] X.env = (false, eval e X.env) :: starEach [] X.env := by rfl) (hpl : (backTo pos (starEach [] X.env)).any (·.1) = false := by rfl) : Ev X (.Call (.Name "max" p) [e] [] pos) env (.val (trX (maxTr x ps))) env1 :=
  ev_cbi (ds := [.lst ((x :: ps).map trX)]) (cr_maxTr hc hu) (rf_val fun O H vs Q ⟨u, us, e, ⟨a, xs, hu, no, hp, rl⟩, hn⟩ q => ⟨a, xs, x, ps, by rw [e, hu, show us = [] from hn], .inl (.inl hp), by rw [← (pd_trX (x :: ps)).2]; exact RepL.dp _ (pd_trX (x :: ps)).1 rl, fun i v hv hi => by
    obtain ⟨z, hz, rz⟩ := RepL.get rl (show ((x :: ps).map trX)[i]? = some (trX (maxTr x ps)) by rw [List.getElem?_map, hi]; rfl)
    rw [hv] at hz
    cases hz
    exact q _ rz⟩) (ea_cons ha ea_nil he) hm (by decide +kernel) hg (by decide) (by decide) he hpl
/-- min of a list of ints -/
theorem ev_minLI {m : Int} {ns : List Int} (ha : Ev X e env (.val (.lst (ns.map D.int))) env1) (h1 : m ∈ ns) (h2 : ∀ y ∈ ns, m ≤ y) (hm : X.mg "min" = none := by assumption) (hc : X.calm = true := by rfl) (hg : Gl X "min" := by rfl) (he : starEach [e] X.env = (false, eval e X.env) :: starEach [] X.env := by rfl) (hpl : (backTo pos (starEach [] X.env)).any (·.1) = false := by rfl) : Ev X (.Call (.Name "min" p) [e] [] pos) env (.val (.int m)) env1 :=
  ev_cbi (ds := [.lst (ns.map D.int)]) (cr_min hc) (rf_val fun O H vs Q ⟨u, us, e, ⟨a, xs, hu, no, hp, rl⟩, hn⟩ q => ⟨a, ns, by rw [e, hu, show us = [] from hn], by rw [← RepL.ints ns rl]; exact .inl (.inl hp), List.length_pos_of_mem h1, fun y hy hz => by
    have e : y = m := Int.le_antisymm (hz m h1) (h2 y hy)
    rw [e]
    exact q _ rfl⟩) (ea_cons ha ea_nil he) hm (by decide +kernel) hg (by decide) (by decide) he hpl
end
end Lin

end

section
namespace Lin
open PySem PySem.Spec PyProof.Rows L2
/-! a def as a value: D.adr f -/
/-- the def at f -/
def FnAt (P : Program) (w : World) (K : PySem.W.Frag) (mg : Str → Option Value) (base : Heap) (f : Addr) (n k : Nat) (sp : Sp) : Prop :=
  ∃ (fd : FuncData) (ps : List Str), ps.length = n ∧ FnOk P w K mg base CX0 k f fd ps sp ∧ PySem.W.keepIn K (.ref f) = true ∧ Binds K fd ps []
section
variable {P : Program} {w : World} {K : PySem.W.Frag} {mg : Str → Option Value} {base : Heap} {X : Cx} {env env1 : Sls} {e : Expr} {es : List Expr} {pos p : Pos} {n x : Str} {k j : Nat} {f : Addr} {sp : Sp} {r : M}
theorem Fn.adr {n' : Nat} (G : Fn P w K mg base x n' k sp) : ∃ f, mg x = some (.ref f) := by
  obtain ⟨f, fd, ps, _, _, hm, _⟩ := G
  exact ⟨f, hm⟩
theorem Fn.at {j : Nat} (G : Fn P w K mg base x j k sp) (hm : mg x = some (.ref f)) : FnAt P w K mg base f j k sp := by
  obtain ⟨g, fd, ps, hl, F, hg, hk, hb⟩ := G
  rw [hm] at hg
  cases hg
  exact ⟨fd, ps, hl, F, hk, hb⟩
theorem pu_fn (hm : X.mg n = some (.ref f)) (hg : Gl X n := by rfl) (hd : (n == ("__debug__" : Str)) = false := by decide) : Pu X (.Name n pos) env (.val (.adr f)) := pu_const (pe_glob (v := .ref f) hg hm rfl hd) fun _ _ _ => rfl
theorem ev_fn (hm : X.mg n = some (.ref f)) (hg : Gl X n := by rfl) (hd : (n == ("__debug__" : Str)) = false := by decide) : Ev X (.Name n pos) env (.val (.adr f)) env := ev_pu (pu_fn hm hg hd)
/-- a local name's def is called -/
theorem ev_callF (i : Nat) {ds : List D} (G : FnAt X.prog X.w X.K X.mg X.base f j k (FS0 X.K ds r)) (hr : Room k X.A) (hi : env[i]? = some (some (Sl.own (.val (.adr f))))) (ha : EvAs X (e :: es) env (ds.map AK.v) env) (hN : X.N[i]? = some n := by rfl) (hv : Vis X.env.scope n := by first | exact Or.inl rfl | exact Or.inr (Or.inl rfl) | exact Or.inr (Or.inr rfl))
    (hdb : (n == ("__debug__" : Str)) = false := by decide) (hcd : (n == ("__classdict__" : Str)) = false := by decide) (he : starEach (e :: es) X.env = (false, eval e X.env) :: starEach es X.env := by rfl) (hpl : (backTo pos (starEach es X.env)).any (·.1) = false := by rfl) :
    Ev X (.Call (.Name n p) (e :: es) [] pos) env r env := by
  obtain ⟨fd, ps, _, F, hk, hb⟩ := G
  refine ⟨ha.1, fun O H σ F0 rs w Q q => ⟨_, pe_callL F hr hN hv hk hb .nil pass0 pa_w hdb hcd he hpl, ?_⟩⟩
  obtain ⟨v, F1, Fi, F2, e1, ef, rm, _, _⟩ := RepS.at rs hi
  obtain ⟨_, rm⟩ := repM_val rm
  have ev : v = .ref f := rm
  subst ev
  refine ⟨e1, ha.2 O H σ F0 rs w _ fun O1 H1 vs F1 ra r1 s1 => ?_⟩
  show FS0 X.K ds r (vs ++ []) H1 Q _
  rw [List.append_nil]
  exact ⟨O1, s1.wf.nil, repL_of ds ra, fun O2 H2 v Fv rv s2 => q O2 H2 v Fv _ rv (r1.quiet s2) (s1.trans w (s2.quiet s1.wf))⟩
end
end Lin
namespace Lin
open PySem PySem.Spec PySem.Calls PyProof.Rows L2
/-- *xs as the last of a display, xs a list -/
theorem ea_starLL {X : Cx} {e : Expr} {p : Pos} {env env1 : Sls} {ds : List D} (ha : Ev X e env (.val (.lst ds)) env1) (hs : starEach [.Starred e p] X.env = (true, eval e X.env) :: starEach [] X.env := by rfl) : EvAs X [.Starred e p] env (ds.map AK.v) env1 :=
  ⟨ha.1, fun O H σ F r w Q q => ⟨_, StX.pa_star pe_w pa_nil hs, ha.2 O H σ F r w _ fun O1 H1 v Fv F1 ⟨ev, rv⟩ r1 s1 => by
    subst ev
    obtain ⟨a, xs, ea, no, ta, rl⟩ := rv
    refine ⟨a, xs, ea, .inr (.inl (.inl ta)), ?_⟩
    show Q (xs ++ []) H1
    rw [List.append_nil]
    exact q O1 H1 xs F1 (repA_of ds rl) r1 s1⟩⟩
end Lin

end

section
namespace Lin
open PySem PySem.Spec PyProof.Rows L2
/-! defs that say repr: called where no guard is set -/
structure FnOkG (P : Program) (w : World) (K : PySem.W.Frag) (mg : Str → Option Value) (base : Heap) (CX : CXT) (k : Nat) (f : Addr) (fd : FuncData) (ps : List Str) (sp : Sp) : Prop where
  len : ∀ vs H Q E, sp vs H Q E → vs.length = ps.length
  run : ∀ (A : Around) (outer : List Env) (s : Shared) (H : Hp) (args : Args) (us : List Value) (vs : List V) (Q : VK) (E : XK), A.guards = some [] → Room k A → Env0 P w K mg base A outer s H → BindsTo s fd args (ps.zip us) → Vals vs us → sp vs H Q E →
    codeAny (model P w) A (.call (.ref f) args) (CR CX outer P w H s Q E) s
def FnG (P : Program) (w : World) (K : PySem.W.Frag) (mg : Str → Option Value) (base : Heap) (x : Str) (n k : Nat) (sp : Sp) : Prop :=
  ∃ (f : Addr) (fd : FuncData) (ps : List Str), ps.length = n ∧ FnOkG P w K mg base CX0 k f fd ps sp ∧ mg x = some (.ref f) ∧ PySem.W.keepIn K (.ref f) = true ∧ Binds K fd ps []
section
variable {X : Cx} {CX : CXT} {k : Nat} {f C : Addr} {fd : FuncData} {ps : List Str} {sp : Sp} {dvs : List V} {ds : List Value} {E : XK} {x m : Str} {p pos apos : Pos} {e o : Expr} {es : List Expr} {ta : TE} {t : TA}
theorem run_fnG {pins : List (Addr × Obj)} {σ : L2.St} {H : Hp} {s : Shared} {Q : VK} {us : List Value} {vs : List V} (F : FnOkG X.prog X.w X.K X.mg X.base CX k f fd ps sp) (hg0 : X.A.guards = some []) (hr : Room k X.A) (hb : Binds X.K fd ps ds) (hd : Vals dvs ds) (hx : Passes CX X E)
    (I : Inv X pins σ H s) (r : Vals vs us) (h : sp (vs ++ dvs) H Q E) : wpAny (model X.prog X.w) X.A (call (.ref f) us) (EP X pins σ Q) X.xe s := by
  have r2 : Vals (vs ++ dvs) (us ++ ds) := r.append hd
  have hl : (us ++ ds).length = ps.length := by rw [← r2.length]; exact F.len _ _ _ _ h
  refine wpAny_call (codeAny_mono (F.run X.A X.stack s H ⟨us, []⟩ (us ++ ds) (vs ++ dvs) Q E hg0 hr I.env0 (hb s us I.kIn hl) r2 h) fun r s' hq => ?_)
  cases r with
  | error e => exact hx pins σ H s e s' I hq
  | ok fl =>
    cases fl with
    | ret u => exact I.after hq
    | next => exact False.elim hq
    | brk => exact False.elim hq
    | cont => exact False.elim hq
theorem pe_callG (F : FnOkG X.prog X.w X.K X.mg X.base CX k f fd ps sp) (hg0 : X.A.guards = some []) (hr : Room k X.A) (hg : Gl X x) (hm : X.mg x = some (.ref f)) (hk : PySem.W.keepIn X.K (.ref f) = true) (hb : Binds X.K fd ps ds) (hd : Vals dvs ds) (hx : Passes CX X E)
    (ha : PA X (e :: es) t) (hdb : (x == ("__debug__" : Str)) = false := by decide) (he : starEach (e :: es) X.env = (false, eval e X.env) :: starEach es X.env := by rfl) (hpl : (backTo pos (starEach es X.env)).any (·.1) = false := by rfl) :
    PE X (.Call (.Name x p) (e :: es) [] pos) (tCall sp dvs E t) := by
  refine ⟨fun pins s σ H Q I h => ?_⟩
  refine wpAny_Call_Name_kw (ld_glob I hg hm ?_ hdb)
  refine PySem.W.callWith_K (h₀ := X.base) I.ok.mod.kin hk (thn (ha.run pos pins s σ H _ I h) fun us s1 ⟨vs, H1, I1, r, q⟩ => ⟨I1.kIn, ?_⟩) he hpl
  exact run_fnG F hg0 hr hb hd hx I1 r q
end
section
variable {X : Cx} {env env1 env2 : Sls} {e : Expr} {es : List Expr} {pos p : Pos} {n : Str} {k j : Nat} {r m m' : M}
theorem ev_callG {ds : List D} (G : FnG X.prog X.w X.K X.mg X.base n j k (FS0 X.K ds r)) (hg0 : X.A.guards = some []) (hr : Room k X.A) (ha : EvAs X (e :: es) env (ds.map AK.v) env1) (hg : Gl X n := by rfl)
    (hdb : (n == ("__debug__" : Str)) = false := by decide) (he : starEach (e :: es) X.env = (false, eval e X.env) :: starEach es X.env := by rfl) (hpl : (backTo pos (starEach es X.env)).any (·.1) = false := by rfl) :
    Ev X (.Call (.Name n p) (e :: es) [] pos) env r env1 := by
  obtain ⟨f, fd, ps, _, G, hm, hk, hb⟩ := G
  refine ⟨ha.1, fun O H σ F rs w Q q => ⟨_, pe_callG G hg0 hr hg hm hk hb .nil pass0 pa_w hdb he hpl, ha.2 O H σ F rs w _ fun O1 H1 vs F1 ra r1 s1 => ?_⟩⟩
  show FS0 X.K ds r (vs ++ []) H1 Q _
  rw [List.append_nil]
  exact ⟨O1, s1.wf.nil, repL_of ds ra, fun O2 H2 v Fv rv s2 => q O2 H2 v Fv F1 rv (r1.quiet s2) (s1.trans w (s2.quiet s1.wf))⟩
end
/-- THE RULE for such a def -/
theorem fn_ofG {CX : CXT} {P : Program} {w : World} {K : PySem.W.Frag} {mg : Str → Option Value} {base : Heap} {k : Nat} {f : Addr} {name qual : Str} {params : Arguments} {body : List Stmt} {scope : Scope} {dV kV doc pm cdv ct oc : Value} {an od : Option Addr}
    {osl : Array (Option Value)} {N ps : List Str} {sp : Sp} (lk : K.lookup f = some ⟨oc, od, .func (PySem.W.fnOf name qual params body scope dV kV doc pm an cdv ct), osl⟩) (hcd : PySem.W.codeIn K cdv qual = true) (S : FnScope N ps scope)
    (len : ∀ vs H Q E, sp vs H Q E → vs.length = ps.length)
    (hbody : ∀ (A : Around) (outer : List Env) (s : Shared) (H : Hp) (vs : List V) (Q : VK) (E : XK), (A.deeper (envOfC qual scope s.heap.objs.size f cdv)).guards = some [] → Room k (A.deeper (envOfC qual scope s.heap.objs.size f cdv)) → sp vs H Q E →
      ∃ t, PSs (cxOf CX P w K mg base N qual scope f cdv A outer s H E) body t ∧ t { nx := fun _ H' => Q .non H', rt := Q } (start N vs) H) :
    FnOkG P w K mg base CX (k + 1) f (PySem.W.fnOf name qual params body scope dV kV doc pm an cdv ct) ps sp := by
  refine ⟨len, fun A outer s H args us vs Q E hgd hr e0 hb r hsp => ?_⟩
  have hl := len _ _ _ _ hsp
  have KX : K.In s.heap := e0.mod.kin.keeps fun b o e => (e0.bs b o e).1
  have lim : s.heap.NoLimit := e0.mod.nolimit.keeps fun b o e => (e0.bs b o e).1
  have hkind : ∀ y ∈ ps.zip us, scope.names.lookup y.1 = some .local ∨ (scope.names.lookup y.1 = some .cell ∧ ((cellsFrom (s.heap.objs.size + 1) scope.names []).lookup y.1).isSome = true) := fun ⟨n, v⟩ hy => by
    rcases S.par n (List.of_mem_zip hy).1 with q | q
    · exact .inl q
    · exact .inr ⟨q, PySem.W.cellsFrom_some _ _ _ (.inl q)⟩
  refine codeAny_call_function hr.depth (KX _ _ lk) rfl S.co S.gen rfl (PySem.W.codeRec_of KX hcd) (hb _ _ _ _ ?_)
  refine wpAny_newFunctionEnv_cells S.kind hkind fun env he s1 x => ?_
  subst he
  refine ⟨lim.keeps x.toInCall.keep, codeAny_func ?_⟩
  obtain ⟨t, ht, hq⟩ := hbody A outer s H vs Q E hgd (hr.deeper _) hsp
  have I : Inv (cxOf CX P w K mg base N qual scope f cdv A outer s H E) [] (start N vs) H s1 := inv_start S hr.hd e0 hl r x
  refine wpAny_mono (ht.run [] s1 (start N vs) H _ I hq) (fun fl s' hs => ?_) fun e s' hs => hs
  have fin : ∀ {σ' : L2.St} {H' : Hp} {v : V} {u : Value}, Inv (cxOf CX P w K mg base N qual scope f cdv A outer s H E) [] σ' H' s' → RelV v u → Q v H' → CE outer P w H s Q u s' :=
    fun {σ' H' v u} J rv q => ⟨v, H', J.os, J.bare, J.base, J.hok, rv, q⟩
  cases fl with
  | ret u =>
    obtain ⟨v, σ', H', J, rv, q⟩ := hs
    exact fin J rv q
  | next =>
    obtain ⟨σ', H', J, q⟩ := hs
    exact fin (v := V.non) (u := Value.none) J rfl q
  | brk =>
    obtain ⟨_, _, _, q⟩ := hs
    exact False.elim q
  | cont =>
    obtain ⟨_, _, _, q⟩ := hs
    exact False.elim q
section
variable {P : Program} {w : World} {K : PySem.W.Frag} {mg : Str → Option Value} {base : Heap} {x : Str} {st : Stmt} {N ps : List Str} {k : Nat} {ds pre post : List D} {r m m' : M} {env0 : Sls}
theorem Fun.okG {qual : Str} {f : Addr} {fd : FuncData} {sp : Sp} (F : Fun K x qual st f fd) (S : FnScope N ps (defScope st)) (len : ∀ vs H Q E, sp vs H Q E → vs.length = ps.length)
    (hbody : ∀ (cdv : Value) (A : Around) (outer : List Env) (s : Shared) (H : Hp) (vs : List V) (Q : VK) (E : XK), (A.deeper (envOfC qual (defScope st) s.heap.objs.size f cdv)).guards = some [] → Room k (A.deeper (envOfC qual (defScope st) s.heap.objs.size f cdv)) → sp vs H Q E →
      ∃ t, PSs (cxOf CX0 P w K mg base N qual (defScope st) f cdv A outer s H E).nox (defBody st) t ∧ t { nx := fun _ H' => Q .non H', rt := Q } (start N vs) H) : FnOkG P w K mg base CX0 (k + 1) f fd ps sp := by
  obtain ⟨oc, od, kV, dc, pm, an, cdv, ct, osl, rfl, lk, hcd⟩ := F.ex
  refine fn_ofG lk hcd S len fun A outer s H vs Q E hg hr hsp => ?_
  obtain ⟨t, h, q⟩ := hbody cdv A outer s H vs Q E hg hr hsp
  exact ⟨t, h.nox, q⟩
/-- the surroundings of such a def's body -/
abbrev In0G (P : Program) (w : World) (K : PySem.W.Frag) (mg : Str → Option Value) (base : Heap) (N : List Str) (x : Str) (st : Stmt) (k : Nat) (Goal : Cx → Prop) : Prop :=
  ∀ (f : Addr) (cdv : Value) (A : Around) (outer : List Env) (s : Shared) (H : Hp) (E : XK), (A.deeper (envOfC x (defScope st) s.heap.objs.size f cdv)).guards = some [] → Room k (A.deeper (envOfC x (defScope st) s.heap.objs.size f cdv)) → Goal (cxOf CX0 P w K mg base N x (defScope st) f cdv A outer s H E).nox
theorem fd0G (h : Df K mg x st ps) (S : FnScope N ps (defScope st)) (hl : ds.length = ps.length) (h0 : env0 = start0 N ds)
    (body : In0G P w K mg base N x st k fun X => ∃ env', Ex X (defBody st) env0 (.rt r env')) : FnG P w K mg base x ps.length (k + 1) (FS0 K ds r) := by
  obtain ⟨f, fd, F, b, g⟩ := h
  refine ⟨f, fd, ps, rfl, Fun.okG F S (fun vs H Q E h => ?_) (fun cdv A outer s H vs Q E hg hr h => ?_), g, F.kp, b⟩
  · obtain ⟨O, _, rl, _⟩ := h
    rw [rl.len, hl]
  · obtain ⟨O, wf, rl, q⟩ := h
    obtain ⟨env', ex⟩ := body f cdv A outer s H E hg hr
    subst h0
    refine ex O H (L2.start N vs) [] ?_ wf _ fun O' H' σ' v Fv F' rm rs s' _ => q O' H' v Fv rm s'.dropR
    have z := repS_start (K := K) (O := O) (H := H) (N.length - ds.length) ds rl
    unfold L2.start start0
    rw [rl.len]
    exact z
end
end Lin

end

section
namespace Lin
open PySem PySem.Spec PyProof.Rows L2
/-! for k in value[i]: a walk over a frozen dict that lies in a frozen list -/
section
variable {X : Cx} {env : Sls} {a b tg it : Expr} {pos : Pos} {i : Int} {body : List Stmt} {out : Out} {ds : List D} {ks : List Key}
theorem pu_neg (ha : Pu X a env (.val (.int i))) : Pu X (.UnaryOp .USub a pos) env (.val (.int (-i))) := fun O H σ F rs w Q q =>
  ⟨_, pe_un un_neg pe_w, ha O H σ F rs w _ fun u _ ⟨_, rv⟩ => ⟨i, rv, q _ [] ⟨rfl, rfl⟩⟩⟩
theorem RepL.setD {K : PySem.W.Frag} {O : OW} {H : Hp} {d : D} {u : V} : ∀ {ds : List D} {xs : List V} {k : Nat}, RepL K O H ds xs → xs[k]? = some u → Rep K O H d u → RepL K O H (ds.set k d) xs
  | [], _, _, h, hk, _ => by
    have e : _ = [] := h
    subst e
    simp at hk
  | d' :: ds, _, 0, ⟨v, vs, e, p, q⟩, hk, hd => by
    subst e
    have e : v = u := by simpa using hk
    subst e
    exact ⟨v, vs, rfl, hd, q⟩
  | d' :: ds, _, k + 1, ⟨v, vs, e, p, q⟩, hk, hd => by
    subst e
    exact ⟨v, vs, rfl, p, RepL.setD (k := k) q (by simpa using hk) hd⟩
theorem x1_forV (v k : Nat) {dsL : List D} (h : env[v]? = some (vl (.lst dsL))) (hk : dsL[k]? = some (.dK ks ds)) (he : ∀ a : Addr, Pu X it (env.set v (vl (.lst (dsL.set k (.adr a))))) (.val (.adr a)))
    (hr : ForR X tg body (ks.map kD) env out) (hp : PassesOwn (model X.prog X.w) X.A X.env X.xe := by exact PassesOwn.never) (hc : X.calm = true := by rfl) (hs : ∀ x, foldedSetIterable it X.env x = pure x := by intro _; rfl) :
    Ex1 X (.For tg it body [] pos) env out := fun O H σ F r w D g => by
  obtain ⟨vv, F1, Fi, F2, e1, ef, ⟨_, al, xs, rfl, no, hal, rl⟩, _, _⟩ := RepS.at r h
  obtain ⟨u, hu, ⟨a, kvs, rfl, noa, rd, hkk, rld⟩⟩ := rl.get hk
  -- the walk, at a heap where the dict is locked
  have walk : ∀ (H' : Hp) (o : Obj), RepS X.K O H' env σ F → Wf O H' F → H' al = some (.lst xs) → H' a = some (.frz o (.dK kvs)) → ∀ R : It → Hp → Prop, (∀ (O1 : OW) (H1 : Hp) (J : It) (F1 : List Addr), Wk X.K O1 H1 J (ks.map kD) → RepS X.K O1 H1 env σ F1 → Step O H' F O1 H1 F1 → R J H1) → wI X tg it σ H' R := fun H' o r' w' hal' ha' R q => by
    obtain ⟨v2, G1, Gi, G2, e2, ef2, ⟨z2, al2, xs2, e3, no2, hal2, rl2⟩, _, back⟩ := RepS.at r' h
    have ev : v2 = .ref al := by
      rw [e1] at e2
      cases e2; rfl
    subst ev
    cases e3
    have ex : xs2 = xs := by
      rw [hal'] at hal2
      cases hal2; rfl
    subst ex
    have nr : RepM X.K O H' (.val (.lst (dsL.set k (.adr a)))) (.ref al) [] := ⟨rfl, al, xs2, rfl, no2, hal2, RepL.setD rl2 hu rfl⟩
    have r2 := back O H' (fun _ _ z _ => z) (fun _ z => .inl z) (fun _ _ _ z => z) (.ref al) (.own (.val (.lst (dsL.set k (.adr a))))) [] nr
    rw [set_same e2] at r2
    have eF : G1 ++ ([] ++ G2) = F := by rw [ef2, z2]
    rw [eF] at r2
    refine ⟨_, pi_keys pe_w, he a O H' σ F r2 w' _ fun x Fx ⟨_, rx⟩ => ?_⟩
    have rx : x = .ref a := rx
    subst rx
    exact ⟨a, o, rfl, .inl ⟨kvs, ha', q O H' _ F (wk_keys noa ha' hkk) r' (Step.refl w')⟩⟩
  rcases rd with rd | ⟨o, rd⟩
  · refine ⟨_, ps_lock (ps_for hp hc pi_w pg_w pss_w hs), a, .dK kvs, rd, trivial, fun od => ?_⟩
    have c := cv_lock (od := od) rd
    have r1 := RepS.cv (K := X.K) (O := O) c env (off_F w noa) r
    have w1 : Wf O (upd H a (.frz od (.dK kvs))) F := w.lock
    have ne : al ≠ a := fun e => by
      rw [e, rd] at hal
      cases hal
    exact for_semS (Io.refl env) (fun R q => walk _ od r1 w1 (by rw [upd_ne ne]; exact hal) upd_same R q) hr w1 (g.lock w rd noa)
  · exact ⟨_, ps_for hp hc pi_w pg_w pss_w hs, for_semS (Io.refl env) (fun R q => walk H o r w hal rd R q) hr w g⟩
end
end Lin

end

section
namespace Lin
open PySem PySem.Spec PySem.Calls PyProof.Rows L2
section
variable {X : Cx} {env env1 env2 env' envr : Sls} {ys ds : List D} {ms : List M} {pos p : Pos} {elt tg it a b : Expr} {ifs : List Expr} {scope : Scope} {own : List (Str × Nat)} {n : Str} {x : D}
/-- name = [a comprehension] that looks at owned things; its elements hold no old lists or dicts -/
theorem x1_setLcM (i : Nat) {n : Str} {pos' spos : Pos} (he : envr = see env) (hi : Iv X tg it envr ys env1) (hr : LcR X scope tg elt ifs (own.map (·.2)) ys env1 ms env') (hf : immM (.lst ms) = true) (hb : Bare env1 (own.map (·.2))) (ok : BlkOk X.N X.env.scope scope own) (hz : ys.length ≤ sizeLine) (hio : ∀ m', env[i]? ≠ some (some (Sl.io m')) := by intro _ h; cases h) (hil : i < env.length := by simp) (hN : X.N.Nodup := by assumption) (hn : X.N[i]? = some n := by rfl)
    (hx : X.env.scope.names.lookup n = some .local := by rfl) (hsw : swapsWith (.ListComp elt [⟨tg, it, ifs, 0⟩] scope pos) (some (.Name n pos')) spos.line X.env = pure true := by rfl) (hc : X.calm = true := by rfl) (hs : ∀ x, foldedSetIterable it X.env x = pure x := by intro _; rfl) :
    Ex1 X (.Assign [.Name n pos'] (.ListComp elt [⟨tg, it, ifs, 0⟩] scope pos) spos) env (.nx (env.set i (some (.own (.lst ms))))) := fun O H σ F r w D g => by
  subst he
  obtain ⟨O1, w1, r1, k0⟩ := see_semI (m := .lst ms) r w
  exact ⟨_, ps_setLc hc hN hn hx hsw pi_w ok bg_ok bts_ok be_ok hs, lc_sem hi hr hb hz O1 H σ [] r1 w1 _ fun O' H' v Fv F' rm rs s => by
    obtain ⟨O2, rm2, rs2, st2⟩ := k0 O' H' v Fv F' hf rm s
    obtain ⟨F1, F2, Fi, ef, _, k⟩ := RepS.drop i (some v) hil rs2
    subst ef
    refine g O2 H' _ (F1 ++ (Fv ++ F2)) (k v (.own (.lst ms)) Fv rm2) ((st2.permR perm_drop).dropR) fun j m' z => ?_
    have hne : i ≠ j := fun q => hio m' (q ▸ z)
    exact ⟨⟨m', by rw [List.getElem?_set_ne hne]; exact z⟩, List.getElem?_set_ne hne⟩⟩
end
end Lin

end

section
set_option maxHeartbeats 4000000
namespace Lin
open PySem PySem.Spec PySem.Calls PyProof.Rows L2
/-! list(d.items()) of a frozen dict, locked or not -/
def rItemsR : V → Hp → VK → Prop := fun x H Q => ∃ (d : Addr) (kvs : List (Key × V)), x = .ref d ∧ Rd H d (.dK kvs) ∧
  ∀ (H' : Hp) (p : Addr) (ts : List Addr), (∀ b o, H b = some o → H' b = some o) → H p = none → (∀ t ∈ ts, H t = none) → p ∉ ts → H' p = some (.lst (ts.map V.ref)) → Paired (fun (t : Addr) (q : Key × V) => H' t = some (.tup [kV q.1, q.2])) ts kvs → Q (.ref p) H'
def tListItemsR (te : TE) : TE := fun σ H Q => te σ H fun x H1 => rItemsR x H1 Q
section
variable {X : Cx} {e : Expr} {te : TE} {p apos cpos pos : Pos}
theorem pe_listItemsR (hc : X.calm = true) (he : PE X e te) (hg : Gl X "list") (hm : X.mg "list" = none) (hv : bootBuiltins "list" = some (.type "list")) (hbase : attributeBase e "items" X.env (eval e X.env) = eval e X.env := by rfl) (hline : (apos.endLine == cpos.line) = true := by rfl)
    (hs : starEach [.Call (.Attribute e "items" apos) [] [] cpos] X.env = (false, eval (.Call (.Attribute e "items" apos) [] [] cpos) X.env) :: starEach [] X.env := by rfl) :
    PE X (.Call (.Name "list" p) [.Call (.Attribute e "items" apos) [] [] cpos] [] pos) (tListItemsR te) := by
  refine ⟨fun pins s σ H Q I hq => ?_⟩
  refine wpAny_Call_Name_kw (ld_blt I hg hm hv ?_)
  refine PyProof.Rows.callWith_type1 ?_ hs rfl
  rw [hs]
  show wpAny _ _ (spliced ((false, eval (.Call (.Attribute e "items" apos) [] [] cpos) X.env) :: backTo pos (starEach [] X.env))) _ _ s
  refine Calls.spliced_cons ?_
  refine wpAny_Call_method (T := "dict") (id := "dict.items") hbase rfl hline F.plainAttrs_dict F.slot_dict_items F.type_dict_items (thn (he.run pins s σ H _ I hq) fun u s1 ⟨x, H1, I1, rx, d, kvs, ex, hd, q⟩ => ?_)
  subst ex
  obtain rfl : u = Value.ref d := rx
  obtain ⟨hz, hs0, vs, kv, hdo⟩ := hd.ok I1.hok
  obtain ⟨ep, hat⟩ := hdo.dictAt
  have lk : kvs.length = vs.length := Paired.length kv
  have I2 : Inv X pins σ H1 { s1 with heap := s1.heap.push { cls := .type "dict_items", data := .fields #[.ref d] } } := I1.kept (t' := s1.toks) fun b ob q => Heap.get?_push_of_some _ q
  refine ⟨hdo.typeIs, hdo.mapOf.noDict, ?_⟩
  show wpAny _ _ (callWith cpos (.builtin "dict.items") [.ref d] [] []) _ X.xe s1
  refine method_meetsIn F.slot_dict_items F.entry_dict_items rfl (PySem.evalArgs_none ⟨rfl, hdo.typeIs, F.args_dict_items_1 _, _, meets_dict_items (mixKind X.prog X.w) d hs0, ⟨vs, hdo⟩, ?_⟩)
  refine Calls.spliced_nil ?_
  refine PySem.W.kdx_call (knd := mixKind X.prog X.w) (kvs := vs) (ep := ep) (I1.ok.hd hc) ⟨_, Heap.get?_push_size _ rfl, rfl, rfl⟩ (hat.push _) (by omega) fun h' tk acc c as hk hS hl hG hacc => ?_
  obtain ⟨H', k1, k2, k3, k4, k5, k6, J⟩ := LiI.items_laid (tk := tk) I2 hz kv hk hS hl hG hacc
  exact ⟨.ref _, H', J, rfl, q H' _ as k1 k2 k3 k4 k5 k6⟩
end
section
variable {X : Cx} {env : Sls} {pos p apos cpos : Pos} {n : Str}
theorem ev_itemsF (i : Nat) {kvs : KD} (hi : env[i]? = some (vl (dkD kvs))) (hml : X.mg "list" = none := by assumption) (hc : X.calm = true := by rfl) (hg : Gl X "list" := by rfl) (hN : X.N[i]? = some n := by rfl) (hv : Vis X.env.scope n := by first | exact Or.inl rfl | exact Or.inr (Or.inl rfl) | exact Or.inr (Or.inr rfl)) (hd : (n == ("__debug__" : Str)) = false := by decide) (hcd : (n == ("__classdict__" : Str)) = false := by decide)
    (hbase : attributeBase (.Name n p) "items" X.env (eval (.Name n p) X.env) = eval (.Name n p) X.env := by rfl) (hline : (apos.endLine == cpos.line) = true := by rfl)
    (hs : starEach [.Call (.Attribute (.Name n p) "items" apos) [] [] cpos] X.env = (false, eval (.Call (.Attribute (.Name n p) "items" apos) [] [] cpos) X.env) :: starEach [] X.env := by rfl) {p2 : Pos} :
    Ev X (.Call (.Name "list" p2) [.Call (.Attribute (.Name n p) "items" apos) [] [] cpos] [] pos) env (.val (.lst (itemsD (kvs.map (·.1)) (kvs.map (·.2))))) env :=
  ⟨Io.refl _, fun O H σ F r w Q q => ⟨_, pe_listItemsR hc (pe_var hN hv hd hcd) hg hml (by decide +kernel) hbase hline hs, by
    obtain ⟨v, F1, Fi, F2, e1, ef, ⟨_, a, kv, ea, _, ha, hk, rl⟩, _, _⟩ := RepS.at r hi
    refine ⟨v, e1, a, kv, ea, ha, fun H' p ts kp hp hts hpt hH hpr => ?_⟩
    have no : ¬ O p := fun z => by
      obtain ⟨o, q⟩ := w.dom p z
      rw [hp] at q
      cases q
    have st : Step O H F O H' F := ⟨fun a o h _ => kp a o h, fun a h => .inl h, fun a h _ => h, fun a h => .inl h, ⟨w.nd, w.own, fun a h => let ⟨o, q⟩ := w.dom a h; ⟨o, kp a o q⟩, w.keepN kp⟩⟩
    exact q O H' (.ref p) [] F ⟨rfl, p, ts.map V.ref, rfl, no, hH, rep_items w.nil kp hts hpr hk rl⟩ (RepS.keep (fun a o h _ => kp a o h) (fun a h => .inl h) env (fun a o _ h => kp a o h) r) st⟩⟩
end
end Lin

end

section
set_option maxHeartbeats 4000000
/-! d[None] = v in a dict whose other keys are ints and texts; d[None] -/
namespace L2
open PySem PySem.Spec PyProof.Rows
def hasN (P : Program) (w : World) (v : V) (a : Addr) (h : Heap) : Prop := ∃ f u, h.MapOf (noneKind P w) a f ∧ f none = some u ∧ RelV v u
theorem hasN_at {P : Program} {w : World} {v : V} {a : Addr} {h1 h2 : Heap} (z : hasN P w v a h1) (k : ∀ o, h1.get? a = some o → h2.get? a = some o) : hasN P w v a h2 := by
  obtain ⟨f, u, ⟨o, es, ep, ho, r⟩, e, rv⟩ := z
  exact ⟨f, u, ⟨o, es, ep, k o ho, r⟩, e, rv⟩
abbrev noneO (P : Program) (w : World) (v : V) (a : Addr) : HO := .ext (hasN P w v a)
section
variable {X : Cx} {pins : List (Addr × Obj)} {σ : St} {H : Hp} {s : Shared} {a : Addr} {v : V} {u r : Value} {kvs : List (Key × V)} {A : Around} {E : Value → Shared → Prop}
theorem d_setNone {Q : Unit → Shared → Prop} (I : Inv X pins σ H s) (e : H a = some (.dK kvs)) (hl : kvs.length < sizeLine) (rv : RelV v r) (h : ∀ s', Inv X pins σ (upd H a (noneO X.prog X.w v a)) s' → Q () s') :
    wpAny (model X.prog X.w) A (setItem (.ref a) .none r) Q E s := by
  obtain ⟨z, hd, vs, rel, dd⟩ := dk_of I.hok e
  obtain ⟨f, hm, hf⟩ := none_map dd
  have hz : vs.length ≤ sizeLine := by rw [← rel.length]; exact z
  have le : s.heap.DictLe a sizeLine := by
    obtain ⟨o, es, ep, ho, hx, hdt, hk, hp, hn⟩ := dd
    intro o2 es2 ep2 h1 h2
    rw [ho] at h1
    cases h1
    rw [hdt] at h2
    cases h2
    have := hp.length
    rw [Array.length_toList] at this
    omega
  refine wpAny_setItem_of (hz := le) (k := none) (knd := noneKind X.prog X.w) rfl hm fun h' hm' hs => h _ ?_
  have hn : hasN X.prog X.w v a h' := ⟨_, r, hm', by rw [if_pos rfl], rv⟩
  obtain ⟨o, _, _, ho, _⟩ := id hm'
  exact d_write I (by rw [e]; exact True.intro) hs ⟨o, ho⟩ ⟨hn, ⟨o, ho⟩, fun h1 h2 z k => hasN_at z k⟩
theorem d_getNone {Q : Value → Shared → Prop} (I : Inv X pins σ H s) (e : H a = some (noneO X.prog X.w v a)) (h : ∀ w' s', Inv X pins σ H s' → RelV v w' → Q w' s') :
    s.TypeIs (.ref a) "dict" ∧ wpAny (model X.prog X.w) A (getItem (.ref a) .none) Q E s := by
  obtain ⟨⟨f, u, hm, hf, rv⟩, _, _⟩ : ObjOk X.prog X.w H s.heap a (noneO X.prog X.w v a) := I.hok a _ e
  exact ⟨hm.typeIs, wpAny_getItem_of (k := none) (knd := noneKind X.prog X.w) rfl hm hf (h u _ (I.tok _) rv)⟩
end
def rSetN (P : Program) (w : World) : TSet := fun o i v H Q => ∃ a kvs, o = .ref a ∧ i = .non ∧ H a = some (.dK kvs) ∧ kvs.length < sizeLine ∧ Q (upd H a (noneO P w v a))
section
variable {X : Cx} {o : Expr} {td : TE} {pos npos : Pos} {j0 : Nat}
theorem set_none : PSet X (rSetN X.prog X.w) := by
  intro pins s σ H o i v ov iv u Q I ro ri rv h
  obtain ⟨a, kvs, eo, ei, g, hl, q⟩ := h
  subst eo ei
  cases (show ov = Value.ref a from ro)
  cases (show iv = Value.none from ri)
  exact d_setNone I g hl rv fun s' I' => ⟨_, I', q⟩
def tNGet (P : Program) (w : World) (td : TE) : TE := fun σ H Q => td σ H fun x H1 => ∃ a v, x = .ref a ∧ H1 a = some (noneO P w v a) ∧ Q v H1
theorem pe_nget (ho : PE X o td) (hs : NoSl (.Constant .none j0 npos)) : PE X (.Subscript o (.Constant .none j0 npos) pos) (tNGet X.prog X.w td) := by
  refine ⟨fun pins s σ H Q I h => ?_⟩
  refine subD_of PySem.F.slot_dict_getitem.lookup hs (thn (ho.run pins s σ H _ I h) fun u s1 ⟨x, H1, I1, rx, a, v, ex, g, q1⟩ => Constant_none ?_)
  subst ex
  obtain rfl : u = Value.ref a := rx
  exact d_getNone I1 g fun w' s3 I3 rw' => ⟨v, H1, I3, rw', q1⟩
end
end L2
namespace Lin
open PySem PySem.Spec PyProof.Rows L2
abbrev noneD (P : Program) (w : World) (k : Int) : D := .xt (hasN P w (.int k))
theorem repML_nof {K : PySem.W.Frag} {O : OW} {H : Hp} : ∀ (ds : List D) {vs : List V} {F : List Addr}, RepML K O H (ds.map M.val) vs F → F = []
  | [], _, _, h => h.2
  | d :: ds, _, _, ⟨v, vs', G1, G2, _, eg, p, q⟩ => by rw [eg, p.1, repML_nof ds q]; rfl
section
variable {X : Cx} {env env1 : Sls} {e o : Expr} {pos npos p p2 p3 p4 : Pos} {j0 : Nat} {ks : List Key} {ds : List D} {n nc nr nk : Str} {k : Int} {ms : List M} {body : List Stmt}
theorem ev_nget (ho : Ev X o env (.val (noneD X.prog X.w k)) env1) (hs : NoSl (.Constant .none j0 npos) := by exact fun _ _ => rfl) : Ev X (.Subscript o (.Constant .none j0 npos) pos) env (.val (.int k)) env1 :=
  ⟨ho.1, fun O H σ F r w Q q => ⟨_, pe_nget pe_w hs, ho.2 O H σ F r w _ fun O1 H1 v Fv F1 ⟨ev, a, e1, no, h1⟩ r1 s1 => by
    subst ev e1
    exact ⟨a, .int k, rfl, h1, q O1 H1 _ [] F1 ⟨rfl, rfl⟩ r1 s1⟩⟩⟩
/-- d[None] = k: what d held is told no longer -/
theorem x1_putN (r : Nat) (he : Ev X e env (.val (.int k)) env) (hi : env[r]? = some (some (.io (.dK ks (ds.map M.val))))) (hz : ks.length < sizeLine) (hN : X.N[r]? = some n := by rfl) (hv : Vis X.env.scope n := by first | exact Or.inl rfl | exact Or.inr (Or.inl rfl) | exact Or.inr (Or.inr rfl))
    (hd : (n == ("__debug__" : Str)) = false := by decide) (hcd : (n == ("__classdict__" : Str)) = false := by decide) (hs : swapsWithSole [.Subscript (.Name n p) (.Constant .none j0 npos) p2] e pos.line X.env = pure false := by rfl) (hw : swappedStores [.Subscript (.Name n p) (.Constant .none j0 npos) p2] e X.env = pure none := by rfl)
    (hasg : ∀ v, assign (.Subscript (.Name n p) (.Constant .none j0 npos) p2) X.env v = (do let ov ← holding [v] (eval (.Name n p) X.env); let iv ← holding [v, ov] (eval (.Constant .none j0 npos) X.env); standAt p2; holding [v, ov, iv] (setItem ov iv v); release [v, ov, iv] []) := by intro _; rfl) :
    Ex1 X (.Assign [.Subscript (.Name n p) (.Constant .none j0 npos) p2] e pos) env (.nx (env.set r (some (.io (.val (noneD X.prog X.w k)))))) := fun O H σ F rs w D g =>
  ⟨_, ps_asg pe_w (pg_sub (pe_var hN hv hd hcd) pe_non set_none hasg) hs hw, he.2 O H σ F rs w _ fun O1 H1 u Fu G ⟨eu, ru⟩ r1 s1 => by
    subst eu
    have ru : u = V.int k := ru
    subst ru
    obtain ⟨v, G1, Gi, G2, e1, ef, rm, _, kk⟩ := RepS.at r1 hi
    obtain ⟨l, kvs, F', el, efi, hl, hks, rl⟩ := rm
    have eF : F' = [] := repML_nof ds rl
    subst eF efi ef el
    have w1 := s1.wf
    have pm : (G1 ++ ([l] ++ G2)).Perm (l :: (G1 ++ G2)) := List.perm_iff_count.mpr fun a => by simp only [List.count_append, List.count_cons, List.count_nil]; omega
    have ndl : l ∉ G1 ++ G2 := (List.nodup_cons.mp (pm.nodup_iff.mp w1.nd)).1
    have lin : l ∈ G1 ++ ([l] ++ G2) := pm.mem_iff.mpr (List.mem_cons_self ..)
    have lo : O1 l := w1.own l lin
    have lk : kvs.length = ks.length := by rw [← hks, List.length_map]
    refine ⟨.ref l, e1, l, kvs, rfl, rfl, hl, by omega, ?_⟩
    have rs2 := kk (fun a => O1 a ∧ a ≠ l) (upd H1 l (noneO X.prog X.w (.int k) l)) (fun a o h n => by rw [upd_ne (fun z => n (by rw [z]; exact lo))]; exact h) (fun a h => .inl h.1) (fun a o ha h => by rw [upd_ne (fun z => ndl (by rw [← z]; exact ha))]; exact h) (.ref l) (.io (.val (noneD X.prog X.w k))) [] ⟨rfl, l, rfl, fun z => z.2 rfl, upd_same⟩
    rw [set_same e1] at rs2
    have sW : Step O1 H1 (G1 ++ ([l] ++ G2)) O1 (upd H1 l (noneO X.prog X.w (.int k) l)) (G1 ++ ([l] ++ G2)) := Step.write w1 lin
    have sF : Step O1 (upd H1 l (noneO X.prog X.w (.int k) l)) (G1 ++ ([l] ++ G2)) (fun a => O1 a ∧ a ≠ l) (upd H1 l (noneO X.prog X.w (.int k) l)) (G1 ++ ([] ++ G2)) := by
      have z := (Step.freeze (G := [l]) (F := G1 ++ G2) (sW.wf.perm pm)).permL pm.symm
      have e2 : (fun a => O1 a ∧ a ∉ [l]) = fun a => O1 a ∧ a ≠ l := funext fun a => propext ⟨fun h => ⟨h.1, fun z => h.2 (List.mem_singleton.mpr z)⟩, fun h => ⟨h.1, fun z => h.2 (List.mem_singleton.mp z)⟩⟩
      rw [e2] at z
      exact z
    refine g _ _ σ _ rs2 (s1.trans w (sW.trans w1 sF)) fun j m2 z => ⟨?_, rfl⟩
    by_cases q : r = j
    · subst q; exact ⟨_, List.getElem?_set_self (List.getElem?_eq_some_iff.mp hi).1⟩
    · rw [List.getElem?_set_ne q]; exact ⟨m2, z⟩⟩
theorem mixE_at {f : Nat → M} {ms : List M} {i : Nat} (hi : i < ms.length) : ((List.range i).map f ++ ms.drop i)[i]? = some ms[i] := by
  rw [List.getElem?_append_right (by rw [List.length_map, List.length_range]; omega), List.length_map, List.length_range, Nat.sub_self, List.getElem?_drop, Nat.add_zero, List.getElem?_eq_getElem hi]
theorem mixE_set {f : Nat → M} {ms : List M} {i : Nat} (hi : i < ms.length) : ((List.range i).map f ++ ms.drop i).set i (f i) = (List.range (i + 1)).map f ++ ms.drop (i + 1) := by
  rw [List.set_append_right _ _ (by rw [List.length_map, List.length_range]; omega), List.length_map, List.length_range, Nat.sub_self, List.drop_eq_getElem_cons hi, List.set_cons_zero, List.range_succ, List.map_append, List.append_assoc]
  rfl
/-- for k, x in enumerate(xs), xs an owned list whose items are owned -/
theorem x1_forOE (f : Nat → M) (c rk r : Nat) (hi : env[c]? = some (some (.own (.lst ms)))) (hk0 : env[rk]? = some none) (hr0 : env[r]? = some none)
    (step : ∀ (a : Addr) (i : Nat) (hl : i < ms.length), ∃ env2, Ex X body (((env.set c (some (.io (.val (.adr a))))).set rk (vl (.int (i : Nat)))).set r (some (.io ms[i]))) (.nx env2) ∧ env2[r]? = some (some (.io (f i))) ∧ (env2.set r none).set rk none = env.set c (some (.io (.val (.adr a)))))
    {pe pt pp : Pos} {kk0 : Nat} (hm : X.mg "enumerate" = none := by assumption) (hg : Gl X "enumerate" := by rfl) (he : starEach [.Name nc p2] X.env = [(false, eval (.Name nc p2) X.env)] := by rfl) (he' : starEach [.Name nc p2] X.env = (false, eval (.Name nc p2) X.env) :: starEach [] X.env := by rfl)
    (hne : c ≠ r := by decide) (hne2 : c ≠ rk := by decide) (hne3 : rk ≠ r := by decide) (hp : PassesOwn (model X.prog X.w) X.A X.env X.xe := by exact PassesOwn.never) (hc : X.calm = true := by rfl) (hs : ∀ x, foldedSetIterable (.Call (.Name "enumerate" pe) [.Name nc p2] [] pp) X.env x = pure x := by intro _; rfl)
    (hna : (assignEach [.Name nk p3, .Name nr p4] X.env).length = 2 := by rfl) (hst : (assignEach [.Name nk p3, .Name nr p4] X.env).findIdx? (·.1) = none := by rfl)
    (hN : X.N[c]? = some nc := by rfl) (hv : Vis X.env.scope nc := by first | exact Or.inl rfl | exact Or.inr (Or.inl rfl) | exact Or.inr (Or.inr rfl)) (hd : (nc == ("__debug__" : Str)) = false := by decide) (hcd : (nc == ("__classdict__" : Str)) = false := by decide)
    (hn : X.N.Nodup := by assumption) (hNk : X.N[rk]? = some nk := by rfl) (hxk : Loc X.env.scope nk := by first | exact Or.inl rfl | exact Or.inr rfl) (hfk : X.fn nk = true ∨ X.env.scope.names.lookup nk = some .local := by first | exact .inl rfl | exact .inr rfl)
    (hNr : X.N[r]? = some nr := by rfl) (hx : Loc X.env.scope nr := by first | exact Or.inl rfl | exact Or.inr rfl) (hf : X.fn nr = true ∨ X.env.scope.names.lookup nr = some .local := by first | exact .inl rfl | exact .inr rfl) :
    Ex1 X (.For (.Tuple [.Name nk p3, .Name nr p4] kk0 pt) (.Call (.Name "enumerate" pe) [.Name nc p2] [] pp) body [] pos) env (.nx (env.set c (some (.own (.lst ((List.range ms.length).map f)))))) := fun O H σ F rs w D g => by
  obtain ⟨v, G1, Gi, G2, e1, ef, rm, _, kk⟩ := RepS.at rs hi
  obtain ⟨a, xs, F', ev, efi, ha, rl⟩ := rm
  subst ev efi ef
  have hml : ms.length = xs.length := rl.len.symm
  have r1 := kk O H (fun _ _ h _ => h) (fun _ h => .inl h) (fun _ _ _ h => h) (.ref a) (.io (.val (.adr a))) [] ⟨rfl, rfl⟩
  rw [setAt_same e1] at r1
  have pm0 : (G1 ++ ((a :: F') ++ G2)).Perm ((a :: F') ++ (G1 ++ ([] ++ G2))) := List.perm_iff_count.mpr fun x => by
    simp only [List.count_append, List.count_cons, List.count_nil]; omega
  have stepA := step a
  generalize hE : env.set c (some (.io (.val (.adr a)))) = E0 at *
  have hEc : E0[c]? = some (some (.io (.val (.adr a)))) := by rw [← hE]; exact List.getElem?_set_self (List.getElem?_eq_some_iff.mp hi).1
  have hEr : E0[r]? = some none := by rw [← hE, List.getElem?_set_ne hne]; exact hr0
  have hEk : E0[rk]? = some none := by rw [← hE, List.getElem?_set_ne hne2]; exact hk0
  have hrl : r < E0.length := (List.getElem?_eq_some_iff.mp hEr).1
  have hkl : rk < E0.length := (List.getElem?_eq_some_iff.mp hEk).1
  refine ⟨_, ps_for hp hc (pi_enum hg hm (pa_cons (pe_var hN hv hd hcd) pa_nil he') he) (pg_tup hc (pgs_cons (pg_name hn hNk hxk hfk) (pgs_cons (pg_name hn hNr hx hf) pgs_nil)) hna hst) pss_w hs, .ref a, e1, a, xs, rfl, .inl (.inl ha), ?_⟩
  let St (i : Nat) (σ' : L2.St) (H' : Hp) : Prop := ∃ (O' : OW) (Fe F1 : List Addr), RepS X.K O' H' E0 σ' F1 ∧ H' a = some (.lst xs) ∧ RepML X.K O' H' ((List.range i).map f ++ ms.drop i) xs Fe ∧ Step O H (G1 ++ ((a :: F') ++ G2)) O' H' ((a :: Fe) ++ F1) ∧ Pins E0 σ E0 σ'
  refine ⟨fun i m σ' H' => m = ms.length - i ∧ i ≤ ms.length ∧ St i σ' H', ⟨ms.length, rfl, Nat.zero_le _, O, F', G1 ++ ([] ++ G2), r1, ha, rl, (Step.refl (w.perm pm0)).permL pm0.symm, Pins.refl⟩, ?_⟩
  rintro i m σ' H' ⟨rfl, hle, O', Fe, F1, r2, ha2, rl2, st, pn⟩
  have sq : SqL X.K H' a xs := .inl (.inl ha2)
  rcases Nat.lt_or_ge i ms.length with hlt | hge
  · refine .inr ⟨walk_enum.goes i H' (by rw [← hml]; exact hlt) sq, St (i + 1), fun σ2 H2 z => ⟨ms.length - (i + 1), by omega, rfl, hlt, z⟩, fun x H2 y => ?_⟩
    obtain ⟨T, x1, y1, ex1, hT, eH, hxi, hx2⟩ := walk_enum.yields i H' x H2 (by rw [← hml]; exact hlt) sq y
    subst ex1 eH
    cases hxi
    obtain ⟨u, A1, Aj, A2, hvj, eF, rj, put⟩ := RepML.cut rl2 (mixE_at hlt)
    have hx2 : xs[i]? = some y1 := hx2
    have eu : u = y1 := by rw [hvj] at hx2; exact Option.some.inj hx2
    subst eu eF
    have wT := st.wf.nil
    have sT : Step O' H' [] O' (upd H' T (.tup [.int (i : Nat), u])) [] := Step.newF wT hT
    have keepT : ∀ b o, H' b = some o → upd H' T (.tup [.int (i : Nat), u]) b = some o := fun b o h => sT.frame b o h (by simp)
    have nTO : ¬ O' T := fun z => by
      obtain ⟨o, e⟩ := st.wf.dom T z
      rw [hT] at e; cases e
    have r2T := r2.quiet sT
    obtain ⟨C1, C2, Ci, ef0, _, kr0⟩ := RepS.drop rk (some (.int (i : Nat))) hkl r2T
    have rK := kr0 (.int (i : Nat)) (.own (.val (.int (i : Nat)))) [] ⟨rfl, rfl⟩
    subst ef0
    have hrl2 : r < (E0.set rk (vl (.int (i : Nat)))).length := by rw [List.length_set]; exact hrl
    obtain ⟨B1, B2, Bi, ef, _, kr⟩ := RepS.drop r (some u) hrl2 rK
    have rjT : RepM X.K O' (upd H' T (.tup [.int (i : Nat), u])) ms[i] u Aj := RepM.keep (fun b o h _ => keepT b o h) (fun _ h => .inl h) ms[i] (fun b o _ h => keepT b o h) rj
    have rB := kr u (.io ms[i]) Aj rjT
    obtain ⟨env2, ex, h2, h3⟩ := stepA i hlt
    have pm : ((a :: (A1 ++ (Aj ++ A2))) ++ (C1 ++ (Ci ++ C2))).Perm ((B1 ++ (Aj ++ B2)) ++ (((a :: (A1 ++ A2)) ++ Bi) ++ Ci)) := List.perm_iff_count.mpr fun x => by
      have z := congrArg (List.count x) ef
      simp only [List.count_append, List.count_cons, List.count_nil] at z ⊢
      omega
    have stT := st.trans w (sT.quiet st.wf)
    have stT : Step O H (G1 ++ ((a :: F') ++ G2)) O' (upd H' T (.tup [.int (i : Nat), u])) ((a :: (A1 ++ (Aj ++ A2))) ++ (C1 ++ (Ci ++ C2))) := stT
    have wB := stT.wf.perm pm
    have nin : ∀ x, x ∈ ((a :: (A1 ++ A2)) ++ Bi) ++ Ci → x ∉ B1 ++ (Aj ++ B2) := fun x hx z => (List.nodup_append.mp wB.nd).2.2 x z x hx rfl
    refine ⟨T, [.int (i : Nat), u], rfl, .inl (.inl upd_same), rfl, ?_⟩
    refine ⟨_, _, rfl, ⟨_, _, rfl, ⟨rfl, ?_⟩⟩⟩
    refine ex O' _ _ _ rB wB.left _ fun O4 H4 σ4 F4 r4 s4 p4 => ?_
    have hls : r < (σ'.set rk (some (V.int (i : Nat)))).length := by rw [List.length_set, r2.len]; exact hrl
    have p2 := (p4 r ms[i] (List.getElem?_set_self hrl2)).2
    rw [List.getElem?_set_self hls] at p2
    obtain ⟨v2, P1, Fj', P2, e2, ef2, rm', rs', _⟩ := RepS.at r4 h2
    have ev2 : v2 = u := by rw [p2] at e2; exact (Option.some.inj (Option.some.inj e2)).symm
    subst ev2 ef2
    have hk4 : rk < (env2.set r none).length := by
      have z := congrArg List.length h3
      rw [List.length_set] at z
      omega
    obtain ⟨R1, R2, Ri, ef5, rs5, _⟩ := RepS.drop rk (σ4[rk]?.getD none) hk4 rs'
    rw [h3] at rs5
    have hk5 : rk < σ4.length := by rw [r4.len]; rw [List.length_set] at hk4; exact hk4
    rw [show σ4.set rk (σ4[rk]?.getD none) = σ4 from setAt_same (by rw [List.getElem?_eq_getElem hk5]; rfl)] at rs5
    have rl4 := put O4 H4 (fun x o h n => s4.kf wB.left x o (keepT x o h) n) (fun x h => (s4.nw x h).imp id fun z => by
      by_cases e : x = T
      · subst e; exact hT
      · rw [upd_ne e] at z; exact z) (fun x o hx hh => s4.frame x o (keepT x o hh) (nin x (List.mem_append_left _ (List.mem_append_left _ (List.mem_cons_of_mem _ hx))))) (f i) Fj' rm'
    rw [mixE_set hlt] at rl4
    have sB := (s4.beside wB).permL pm.symm
    refine ⟨O4, A1 ++ (Fj' ++ A2), R1 ++ R2, rs5, s4.frame a _ (keepT a _ ha2) (nin a (List.mem_append_left _ (List.mem_append_left _ (List.mem_cons_self ..)))), rl4, stT.trans w ((sB.permR (F2 := ((a :: (A1 ++ (Fj' ++ A2))) ++ (R1 ++ R2)) ++ ((Bi ++ Ci) ++ Ri)) (List.perm_iff_count.mpr fun x => by
      have z := congrArg (List.count x) ef5
      simp only [List.count_append, List.count_cons, List.count_nil] at z ⊢
      omega)).dropR), fun j m2 z => ?_⟩
    have nj : r ≠ j := fun q => by rw [← q, hEr] at z; cases z
    have nk2 : rk ≠ j := fun q => by rw [← q, hEk] at z; cases z
    obtain ⟨_, z4⟩ := p4 j m2 (by rw [List.getElem?_set_ne nj, List.getElem?_set_ne nk2]; exact z)
    rw [List.getElem?_set_ne nj, List.getElem?_set_ne nk2] at z4
    exact ⟨⟨m2, z⟩, by rw [z4]; exact (pn j m2 z).2⟩
  · have ei : i = ms.length := by omega
    subst ei
    refine .inl ⟨by rw [hml]; exact walk_enum.stops H' sq, ?_⟩
    rw [List.drop_length, List.append_nil] at rl2
    have hcl : c < E0.length := (List.getElem?_eq_some_iff.mp hEc).1
    obtain ⟨Q1, Q2, Qi, ef3, _, k3⟩ := RepS.drop c (some (.ref a)) hcl r2
    have p1 := (pn c _ hEc).2
    rw [e1] at p1
    have r3 := k3 (.ref a) (.own (.lst ((List.range ms.length).map f))) (a :: Fe) ⟨a, xs, Fe, rfl, rfl, ha2, rl2⟩
    rw [setAt_same p1, ← hE, List.set_set] at r3
    subst ef3
    refine g O' H' σ' _ r3 ((st.permR (F2 := (Q1 ++ ((a :: Fe) ++ Q2)) ++ Qi) (List.perm_iff_count.mpr fun x => by
      simp only [List.count_append, List.count_cons]
      omega)).dropR) fun j m2 z => ?_
    have n1 : c ≠ j := fun q => by rw [← q, hi] at z; cases z
    have z2 : E0[j]? = some (some (.io m2)) := by rw [← hE, List.getElem?_set_ne n1]; exact z
    exact ⟨⟨m2, by rw [List.getElem?_set_ne n1]; exact z⟩, (pn j m2 z2).2⟩
end
end Lin

end

section
set_option maxHeartbeats 4000000
namespace Lin
open PySem PySem.Spec PyProof.Rows L2
/-! [e for k in value[i] if c]: over the keys of a frozen dict that lies in a frozen list -/
section
variable {X : Cx} {env env' : Sls} {tg it elt : Expr} {ifs : List Expr} {pos : Pos} {ds : List D} {ks : List Key} {ms : List M} {own : List (Str × Nat)} {scope : Scope}
theorem ev_lcV (v k : Nat) {dsL : List D} (h : env[v]? = some (vl (.lst dsL))) (hk : dsL[k]? = some (.dK ks ds)) (he : ∀ a : Addr, Pu X it (env.set v (vl (.lst (dsL.set k (.adr a))))) (.val (.adr a)))
    (hr : LcR X scope tg elt ifs (own.map (·.2)) (ks.map kD) env ms env') (hb : Bare env (own.map (·.2))) (ok : BlkOk X.N X.env.scope scope own) (hz : (ks.map kD).length ≤ sizeLine) (hN : X.N.Nodup := by assumption)
    (hc : X.calm = true := by rfl) (hs : ∀ x, foldedSetIterable it X.env x = pure x := by intro _; rfl) : Ev X (.ListComp elt [⟨tg, it, ifs, 0⟩] scope pos) env (.lst ms) env' :=
  ⟨hr.io X.s_0 X.H_0 hb, fun O H σ F r w Q q => by
    obtain ⟨vv, F1, Fi, F2, e1, ef, ⟨_, al, xs, rfl, no, hal, rl⟩, _, _⟩ := RepS.at r h
    obtain ⟨u, hu, ⟨a, kvs, rfl, noa, rd, hkk, rld⟩⟩ := rl.get hk
    -- the walk, at a heap where the dict is locked
    have walk : ∀ (H' : Hp) (o : Obj), RepS X.K O H' env σ F → Wf O H' F → H' al = some (.lst xs) → H' a = some (.frz o (.dK kvs)) → ∀ R : It → Hp → Prop, (∀ (O1 : OW) (H1 : Hp) (J : It) (F1 : List Addr), Wk X.K O1 H1 J (ks.map kD) → RepS X.K O1 H1 env σ F1 → Step O H' F O1 H1 F1 → R J H1) → wI X tg it σ H' R := fun H' o r' w' hal' ha' R q => by
      obtain ⟨v2, G1, Gi, G2, e2, ef2, ⟨z2, al2, xs2, e3, no2, hal2, rl2⟩, _, back⟩ := RepS.at r' h
      have ev : v2 = .ref al := by
        rw [e1] at e2
        cases e2; rfl
      subst ev
      cases e3
      have ex : xs2 = xs := by
        rw [hal'] at hal2
        cases hal2; rfl
      subst ex
      have nr : RepM X.K O H' (.val (.lst (dsL.set k (.adr a)))) (.ref al) [] := ⟨rfl, al, xs2, rfl, no2, hal2, RepL.setD rl2 hu rfl⟩
      have r2 := back O H' (fun _ _ z _ => z) (fun _ z => .inl z) (fun _ _ _ z => z) (.ref al) (.own (.val (.lst (dsL.set k (.adr a))))) [] nr
      rw [set_same e2] at r2
      have eF : G1 ++ ([] ++ G2) = F := by rw [ef2, z2]
      rw [eF] at r2
      refine ⟨_, pi_keys pe_w, he a O H' σ F r2 w' _ fun x Fx ⟨_, rx⟩ => ?_⟩
      have rx : x = .ref a := rx
      subst rx
      exact ⟨a, o, rfl, .inl ⟨kvs, ha', q O H' _ F (wk_keys noa ha' hkk) r' (Step.refl w')⟩⟩
    rcases rd with rd | ⟨o, rd⟩
    · refine ⟨_, pe_lock (pe_lc hc hN pi_w ok bg_ok bts_ok be_ok hs), a, .dK kvs, rd, trivial, fun od => ?_⟩
      have c := cv_lock (od := od) rd
      have r1 := RepS.cv (K := X.K) (O := O) c env (off_F w noa) r
      have w1 : Wf O (upd H a (.frz od (.dK kvs))) F := w.lock
      have ne : al ≠ a := fun e => by
        rw [e, rd] at hal
        cases hal
      refine lc_semS O _ σ F (fun R q' => walk _ od r1 w1 (by rw [upd_ne ne]; exact hal) upd_same R q') hr hb hz w1 _ fun O' H' v Fv F' rm rs st => ?_
      obtain ⟨e2, st2⟩ := Step.locked w rd noa st
      have c2 := cv_unlock e2
      have no' : ¬ O' a := not_own st noa upd_same
      exact ⟨e2, q O' _ v Fv F' (RepM.cv c2 _ (fun b o hb hbo => by rw [upd_ne (fun e => no' (by rw [← e]; exact st.wf.own b (List.mem_append_left _ hb)))]; exact hbo) rm) (RepS.cv c2 _ (fun b o hb hbo => by rw [upd_ne (fun e => no' (by rw [← e]; exact st.wf.own b (List.mem_append_right _ hb)))]; exact hbo) rs) st2⟩
    · exact ⟨_, pe_lc hc hN pi_w ok bg_ok bts_ok be_ok hs, lc_semS O H σ F (fun R q' => walk H o r w hal rd R q') hr hb hz w Q q⟩⟩
end
end Lin

end

section
set_option maxHeartbeats 4000000
/-! own exceptions as values: made, asked isinstance, their fields read -/
namespace L2
open PySem PySem.Spec PyProof.Rows
def tExV (C : Addr) (sp : Sp) (ta : TA) : TE := fun σ H Q => ta σ H fun vs H1 => vs.length ≤ 1000 ∧ ∀ a, H1 a = none → sp (.ref a :: vs) (upd H1 a (exo a C none)) (fun v H2 => v = .non ∧ Q (.ref a) H2) (fun _ _ _ => False)
section
variable {X : Cx} {o e : Expr} {es : List Expr} {to te : TE} {ta : TA} {f : Str} {p p' p1 p2 pos : Pos}
theorem pe_oex {CX : CXT} {x : Str} {C fI : Addr} {k : Nat} {fd : FuncData} {ps : List Str} {sp : Sp} (T : OexC X.K C) (iC : PySem.W.findIn X.K (.ref C) "__init__" = some (some (.ref fI))) (tI : PySem.W.typeIn X.K (.ref fI) = some (.type "function"))
    (F1 : FnOk X.prog X.w X.K X.mg X.base CX k fI fd ps sp) (hr : Room (k + 1) X.A) (hb : Binds X.K fd ps []) (hx : Passes CX X (fun _ _ _ => False)) (hg : Gl X x) (hm : X.mg x = some (.ref C)) (ha : PA X (e :: es) ta)
    (hdb : (x == ("__debug__" : Str)) = false := by decide) (he : starEach (e :: es) X.env = (false, eval e X.env) :: starEach es X.env := by rfl) (hpl : (backTo pos (starEach es X.env)).any (·.1) = false := by rfl) :
    PE X (.Call (.Name x p) (e :: es) [] pos) (tExV C sp ta) := by
  refine ⟨fun pins s σ H Q I h => ?_⟩
  obtain ⟨nm, q, N, bs, bm, sn, sub, ab, col, dd, k0, k1, k2, k3, k5, hC, hbm⟩ := T.cls
  refine wpAny_Call_Name_kw (ld_glob I hg hm ?_ hdb)
  refine PySem.W.callWith_K (h₀ := X.base) I.ok.mod.kin T.kC (thn (ha.run pos pins s σ H _ I h) fun us s1 ⟨vs, H1, I1, r1, hz, q1⟩ => ⟨I1.kIn, ?_⟩) he hpl
  show wpAny _ _ (call (.ref C) us) _ _ _
  obtain ⟨hp, g, dr, tk, os⟩ := s1
  have hsz : hp.objs.size ≤ hp.objs.size + 1 := Nat.le_succ _
  have hn : H1 (hp.objs.size + 1) = none := I1.hok.fresh hsz
  have hq := q1 (hp.objs.size + 1) hn
  have kk : ∀ b o, hp.get? b = some o → ((hp.push (PySem.W.kdv_tup us)).push (PySem.HandSPX.excO C hp.objs.size)).get? b = some o := fun b o e => Heap.get?_push_of_some _ (Heap.get?_push_of_some _ e)
  have hget : ((hp.push (PySem.W.kdv_tup us)).push (PySem.HandSPX.excO C hp.objs.size)).get? (hp.objs.size + 1) = some (PySem.HandSPX.excO C hp.objs.size) := by heap_get
  have I2 : Inv X pins σ (upd H1 (hp.objs.size + 1) (exo (hp.objs.size + 1) C none)) ⟨(hp.push (PySem.W.kdv_tup us)).push (PySem.HandSPX.excO C hp.objs.size), g, dr, tk, os⟩ :=
    I1.laid (t' := tk) (a := hp.objs.size + 1) (o := exo (hp.objs.size + 1) C none) (h' := (hp.push (PySem.W.kdv_tup us)).push (PySem.HandSPX.excO C hp.objs.size)) kk hsz (exo_ok hget)
  have r2 : Vals (V.ref (hp.objs.size + 1) :: vs) (Value.ref (hp.objs.size + 1) :: us) := .cons rfl r1
  have hl : (Value.ref (hp.objs.size + 1) :: us).length = ps.length := by
    have e := r2.length
    rw [F1.len _ _ _ _ hq] at e
    exact e.symm
  have hus : us.length ≤ sizeLine := by
    rw [← Paired.length r1, sizeLine_eq]
    omega
  refine wpAny_call (PySem.HandSPX.call_own F.excBase_ValueError (fun Y => PySem.HandSPX.refsVE_contains Y bm hbm) (I1.kIn _ _ hC) (PySem.W.looks_findIn I1.kIn iC) (fun self => PySem.W.bind_fn I1.kIn self tI) hus
    (codeAny_mono (F1.run _ X.stack _ _ ⟨Value.ref (hp.objs.size + 1) :: us, []⟩ (Value.ref (hp.objs.size + 1) :: us) _ _ (fun _ _ _ => False) (hr.make C us []) (I2.env0.make C us []) (by
      have z := hb _ (Value.ref (hp.objs.size + 1) :: us) I2.kIn (by rw [List.append_nil]; exact hl)
      rw [List.append_nil] at z
      exact z) r2 hq) fun r s' hq' => ?_))
  cases r with
  | error er => exact hx pins σ _ _ er s' I2 hq'
  | ok fl =>
    cases fl with
    | ret u =>
      obtain ⟨v, H2, J, rv, ev, q2⟩ := I2.after hq'
      subst ev
      exact ⟨rv, .ref (hp.objs.size + 1), H2, J, rfl, q2⟩
    | next => exact False.elim hq'
    | brk => exact False.elim hq'
    | cont => exact False.elim hq'
/-- an exception of the class D at a -/
def ExIn (H : Hp) (a D : Addr) : Prop := (∃ dx fs, H a = some (exo a D (some dx)) ∧ H dx = some (exd dx fs)) ∨ H a = some (ExO (.ref D) a)
def rIsX (K : PySem.W.Frag) : List V → Hp → VK → Prop := fun xs H Q => ∃ (a D : Addr) (c : V) (cv : Value) (b : Bool), xs = [.ref a, c] ∧ ExcC K D ∧ ExIn H a D ∧ (∀ u, RelV c u → u = cv) ∧ PySem.W.kitOne K (.ref D) cv = some b ∧ Q (.bl b) H
theorem call_isX : CallR X (.builtin "isinstance") (rIsX X.K) := by
  intro pins s σ H xs us Q I r h
  obtain ⟨a, D, c, cv, b, rfl, C, ein, hcv, e, q⟩ := h
  cases r with
  | cons rx rr =>
    cases rr with
    | cons rt rr =>
      cases rr
      cases rx
      have ec := hcv _ rt
      subst ec
      obtain ⟨oe, od, J⟩ : ∃ oe od, PySem.W.InstAt s.heap a oe D od := by
        rcases ein with ⟨dx, fs, e1, e2⟩ | e1
        · obtain ⟨t1, hget⟩ := exo_at I.hok e1
          obtain ⟨mA, hns, _⟩ := exd_at I.hok e2
          obtain ⟨od, ho, _⟩ := lookIn_ns hns
          exact ⟨_, some od, hget, rfl, rfl, ho⟩
        · obtain ⟨⟨oe, vs, hget, hz, hv, _⟩, _, _⟩ : ObjOk X.prog X.w H s.heap a (ExO (.ref D) a) := I.hok a _ e1
          refine ⟨oe, none, ?_⟩
          obtain ⟨oc, od, oda, osl⟩ := oe
          obtain ⟨h1, h2⟩ := hz
          dsimp only at h1 h2 hv
          subst h1 h2 hv
          exact ⟨hget, rfl, rfl, trivial⟩
      exact PySem.W.kia_one (PySem.W.kitx_exc (by obtain ⟨cd, hc, _⟩ := PySem.W.any_some C.hd; rw [hc]; rfl) C.hg C.hk C.hs C.ha C.hn C.ht C.hm) I.kIn J e (fun z => nomatch z) fun tk => ⟨.bl b, H, I.kept (t' := tk) fun _ _ z => z, rfl, q⟩
/-- e.f -/
def tXfX (K : PySem.W.Frag) (f : Str) (te : TE) : TE := fun σ H Q => te σ H fun x H1 => ∃ (a C dx : Addr) (fs : List (Str × V)) (v : V), x = .ref a ∧ XfC K C ∧ PySem.W.findIn K (.ref C) f = some none ∧ H1 a = some (exo a C (some dx)) ∧ H1 dx = some (exd dx fs) ∧ fs.lookup f = some v ∧ Q v H1
theorem pe_xfX {n : Str} (he : PE X e te) (hb : attributeBase e n X.env (eval e X.env) = eval e X.env := by rfl) : PE X (.Attribute e n pos) (tXfX X.K n te) := by
  refine ⟨fun pins s σ H Q I h => ?_⟩
  refine attr_of hb (thn (he.run pins s σ H _ I h) fun u s1 hh => ?_)
  obtain ⟨x, H1, I1, rx, a, C, dx, fs, v, ex, T, hno, ea, ed, l, q⟩ := hh
  subst ex
  obtain rfl : u = Value.ref a := rx
  obtain ⟨t1, hget⟩ := exo_at I1.hok ea
  obtain ⟨mA, hns, hr⟩ := exd_at I1.hok ed
  obtain ⟨od, ho, hl⟩ := lookIn_ns hns
  obtain ⟨u, hu, ru⟩ := RelO.some_of (v := v) (o := mA n) (by rw [← l]; exact hr n)
  have J : PySem.W.InstAt s1.heap a _ C (some od) := ⟨hget, rfl, rfl, ho⟩
  exact HandSPX.exc_get I1.kIn J T.ga T.gg T.exC (PySem.W.findObj_own T.hdC hno rfl (by rw [hl, hu])) (handed_of ru) ⟨v, H1, I1.tok _, ru, q⟩
end
end L2

end

section
set_option maxHeartbeats 4000000
namespace Lin
open PySem PySem.Spec PyProof.Rows L2
/-! own exceptions as values -/
def exP (C : Addr) (a : Addr) (h : Heap) : Prop := ∃ (oe : Obj) (vs : Array Value), h.get? a = some oe ∧ Zc (.ref C) none oe ∧ oe.data = .fields vs ∧ vs[1]? = some .none ∧ vs[2]? = some .none ∧ 4 < vs.size
/-- an exception of an own class without __init__ -/
abbrev excT (C : Addr) : D := .xt (exP C)
/-- an exception of the class C -/
def IsExc (d : D) (C : Addr) : Prop := ∀ (K : PySem.W.Frag) (O : OW) (H : Hp) (v : V), Rep K O H d v → ∃ a, v = .ref a ∧ ExIn H a C
theorem isExc_t (C : Addr) : IsExc (excT C) C := fun K O H v ⟨a, e, _, h⟩ => ⟨a, e, .inr h⟩
theorem isExc_i (C : Addr) (fs : List Str) (ds : List D) : IsExc (.exc C fs ds) C := fun K O H v ⟨a, dx, kvs, e, _, h, _⟩ => ⟨a, e, .inl ⟨dx, kvs, h.1, h.2⟩⟩
/-- what an __init__(self, f) keeps: self.f = f -/
def FSI (C : Addr) : Str → Sp := fun f xs H Q _ => ∃ a x, xs = [.ref a, x] ∧ H a = some (exo a C none) ∧ ∀ dx, H dx = none → dx ≠ a → Q .non (upd (upd H dx (exd dx [(f, x)])) a (exo a C (some dx)))
/-- an own class of exceptions with one field -/
structure ExcI (P : Program) (w : World) (K : PySem.W.Frag) (mg : Str → Option Value) (base : Heap) (x : Str) (C : Addr) (f : Str) : Prop where
  g : mg x = some (.ref C)
  T : OexC K C
  ini : ∃ (fI : Addr) (fd : FuncData) (ps : List Str), PySem.W.findIn K (.ref C) "__init__" = some (some (.ref fI)) ∧ PySem.W.typeIn K (.ref fI) = some (.type "function") ∧ FnOk P w K mg base CX0 1 fI fd ps (FSI C f) ∧ Binds K fd ps []
  no : PySem.W.findIn K (.ref C) f = some none
  xf : XfC K C
/-- an own class of exceptions without __init__ of its own -/
structure ExcZ (K : PySem.W.Frag) (mg : Str → Option Value) (x : Str) (C : Addr) : Prop where
  g : mg x = some (.ref C)
  q : PySem.W.excIn K C [.type "ValueError", .type "Exception", .type "BaseException", .type "object"] "ValueError.__new__" = true
  k : PySem.W.keepIn K (.ref C) = true
section
variable {P : Program} {w : World} {K : PySem.W.Frag} {mg : Str → Option Value} {base : Heap}
theorem init_ok {C fI : Addr} {fd : FuncData} {qual : Str} {st : Stmt} {f : Str} {p1 p2 p3 pos : Pos} {N ps : List Str} (F : Fun K "__init__" qual st fI fd) (S : FnScope N ps (defScope st)) (hN : N = [("self" : Str), f]) (hps : ps.length = 2) (T : OexC K C) (no : PySem.W.findIn K (.ref C) f = some none)
    (hb : defBody st = [.Assign [.Attribute (.Name "self" p1) f p2] (.Name f p3) pos]) (hdb : (f == ("__debug__" : Str)) = false) (hcd : (f == ("__classdict__" : Str)) = false)
    (hv0 : Vis (envOfC qual (defScope st) 0 0 .none).scope "self") (hv1 : Vis (envOfC qual (defScope st) 0 0 .none).scope f) (hs : ∀ env : Env, swapsWith (.Name f p3) (some (.Attribute (.Name "self" p1) f p2)) pos.line env = pure false) : FnOk P w K mg base CX0 1 fI fd ps (FSI C f) := by
  refine F.ok S (fun vs H Q E h => ?_) (fun cdv A outer s H vs Q E hr h => ?_)
  · obtain ⟨a, x, e, _⟩ := h
    rw [e, hps]; rfl
  · obtain ⟨a, x, e, ha, q⟩ := h
    subst e
    rw [hb]
    subst hN
    refine ⟨_, pss_one (ps_ost (pe_var (i := 0) rfl hv0 (by decide) (by decide)) (pe_var (i := 1) rfl hv1 hdb hcd) (hs _)), ?_⟩
    exact ⟨x, rfl, .ref a, rfl, a, C, rfl, T, no, .inl ⟨ha, fun dx n ne => q dx n ne⟩⟩
end
section
variable {X : Cx} {env env1 : Sls} {e b : Expr} {p p' pos : Pos} {x f n nT : Str} {C C' : Addr} {d : D} {k : Bool} {T : String} {fs : List Str} {ds : List D}
theorem step_two {O : OW} {H : Hp} {F : List Addr} {a dx : Addr} {o1 o2 o3 : HO} (w : Wf O H F) (ha : H a = none) (hd : H dx = none) : Step O H F O (upd (upd (upd H a o1) dx o2) a o3) F := by
  have fr : ∀ b o, H b = some o → upd (upd (upd H a o1) dx o2) a o3 b = some o := fun b o h => by
    have n1 : b ≠ a := fun e => by rw [e, ha] at h; cases h
    have n2 : b ≠ dx := fun e => by rw [e, hd] at h; cases h
    rw [upd_ne n1, upd_ne n2, upd_ne n1]; exact h
  exact ⟨fun b o h _ => fr b o h, fun _ h => .inl h, fun _ h _ => h, fun _ h => .inl h, w.nd, w.own, fun b h => by
    obtain ⟨o, e⟩ := w.dom b h
    exact ⟨o, fr b o e⟩, w.keepN fr⟩
theorem ev_excT (Z : ExcZ X.K X.mg x C) (he : Ev X e env (.val d) env1) (hg : Gl X x := by rfl) (hs : starEach [e] X.env = (false, eval e X.env) :: starEach [] X.env := by rfl) (hdb : (x == ("__debug__" : Str)) = false := by decide) : Ev X (.Call (.Name x p) [e] [] pos) env (.val (excT C)) env1 :=
  ⟨he.1, fun O H σ F r w Q q => ⟨_, pe_exc1 PySem.F.excBase_ValueError Z.q Z.g Z.k hg pe_w hs hdb, he.2 O H σ F r w _ fun O1 H1 v Fv F1 _ r1 s1 a ha => by
    have w1 : Wf O1 H1 (Fv ++ F1) := s1.wf
    have no : ¬ O1 a := fun z => by
      obtain ⟨o, e⟩ := w1.dom a z
      rw [ha] at e; cases e
    have sN : Step O1 H1 [] O1 (upd H1 a (ExO (.ref C) a)) [] := Step.newF w1.nil ha
    exact q O1 _ (.ref a) [] F1 ⟨rfl, a, rfl, no, upd_same⟩ (r1.quiet sN) ((s1.dropL).trans w (sN.quiet w1.right))⟩⟩
theorem ev_excI (G : ExcI X.prog X.w X.K X.mg X.base x C f) (hr : Room 2 X.A) (he : Ev X e env (.val d) env1) (hg : Gl X x := by rfl) (hs : starEach [e] X.env = (false, eval e X.env) :: starEach [] X.env := by rfl) (hdb : (x == ("__debug__" : Str)) = false := by decide) (hpl : (backTo pos (starEach [] X.env)).any (·.1) = false := by rfl) : Ev X (.Call (.Name x p) [e] [] pos) env (.val (.exc C [f] [d])) env1 := by
  obtain ⟨fI, fd, ps, iC, tI, F1, hb⟩ := G.ini
  refine ⟨he.1, fun O H σ F r w Q q => ⟨_, pe_oex G.T iC tI F1 hr hb pass0 hg G.g (pa_cons pe_w pa_nil hs) hdb hs hpl, he.2 O H σ F r w _ fun O1 H1 v Fv F1 ⟨ef, rv⟩ r1 s1 => ?_⟩⟩
  subst ef
  have w1 : Wf O1 H1 F1 := s1.wf
  refine ⟨by simp, fun a ha => ⟨a, v, rfl, upd_same, fun dx hd ne => ⟨rfl, ?_⟩⟩⟩
  rw [upd_ne ne] at hd
  have nof : ∀ b, H1 b = none → ¬ O1 b := fun b hb z => by
    obtain ⟨o, e⟩ := w1.dom b z
    rw [hb] at e; cases e
  have sN : Step O1 H1 [] O1 (upd (upd (upd H1 a (exo a C none)) dx (exd dx [(f, v)])) a (exo a C (some dx))) [] := step_two w1.nil ha hd
  exact q O1 _ (.ref a) [] F1 ⟨rfl, a, dx, [(f, v)], rfl, ⟨nof a ha, nof dx hd⟩, ⟨upd_same, by rw [upd_ne ne, upd_same]⟩, rfl, v, [], rfl, sN.rep w1.nil rv, rfl⟩ (r1.quiet sN) (s1.trans w (sN.quiet w1))
/-- isinstance(e, C'), C' an own class -/
theorem ev_isC (he : Ev X e env (.val d) env1) (hd : IsExc d C) (T : ExcC X.K C) (hk : PySem.W.kitOne X.K (.ref C) (.ref C') = some k) (hm : X.mg n = some (.ref C')) (hmi : X.mg "isinstance" = none) (hgi : Gl X "isinstance" := by rfl) (hg : Gl X n := by rfl) (hdb : (n == ("__debug__" : Str)) = false := by decide)
    (hs : starEach [e, .Name n p'] X.env = (false, eval e X.env) :: starEach [.Name n p'] X.env := by rfl) (hs2 : starEach [.Name n p'] X.env = (false, eval (.Name n p') X.env) :: starEach [] X.env := by rfl) (hpl : (backTo pos (starEach [.Name n p'] X.env)).any (·.1) = false := by rfl) :
    Ev X (.Call (.Name "isinstance" p) [e, .Name n p'] [] pos) env (.val (.bool k)) env1 :=
  ⟨he.1, fun O H σ F r w Q q => ⟨_, pe_callB call_isX hgi hmi boot_isinstance (pa_cons pe_w (pa_cons (pe_glob (v := .ref C') hg hm rfl hdb) pa_nil hs2) hs) (by decide) (by decide) hs hpl, he.2 O H σ F r w _ fun O1 H1 v Fv F1 ⟨ef, rv⟩ r1 s1 => by
    subst ef
    obtain ⟨a, ea, ex⟩ := hd _ _ _ _ rv
    exact ⟨a, C, .ref C', .ref C', k, by rw [ea], T, ex, fun u h => h, hk, q O1 H1 _ [] F1 ⟨rfl, rfl⟩ r1 s1⟩⟩⟩
/-- isinstance(e, T), T a built-in class -/
theorem ev_isT (he : Ev X e env (.val d) env1) (hd : IsExc d C) (TC : ExcC X.K C) (hk : PySem.W.kitOne X.K (.ref C) (.type T) = some k) (hb : bootBuiltins nT = some (.type T)) (hm : X.mg nT = none) (hmi : X.mg "isinstance" = none) (hgi : Gl X "isinstance" := by rfl) (hg : Gl X nT := by rfl) (hn : nT ≠ "__name__" := by decide) (hdb : (nT == ("__debug__" : Str)) = false := by decide)
    (hs : starEach [e, .Name nT p'] X.env = (false, eval e X.env) :: starEach [.Name nT p'] X.env := by rfl) (hs2 : starEach [.Name nT p'] X.env = (false, eval (.Name nT p') X.env) :: starEach [] X.env := by rfl) (hpl : (backTo pos (starEach [.Name nT p'] X.env)).any (·.1) = false := by rfl) :
    Ev X (.Call (.Name "isinstance" p) [e, .Name nT p'] [] pos) env (.val (.bool k)) env1 :=
  ⟨he.1, fun O H σ F r w Q q => ⟨_, pe_callB call_isX hgi hmi boot_isinstance (pa_cons pe_w (pa_cons (pe_bltn hg hm hb (v := .ty T) rfl hn hdb) pa_nil hs2) hs) (by decide) (by decide) hs hpl, he.2 O H σ F r w _ fun O1 H1 v Fv F1 ⟨ef, rv⟩ r1 s1 => by
    subst ef
    obtain ⟨a, ea, ex⟩ := hd _ _ _ _ rv
    exact ⟨a, C, .ty T, .type T, k, by rw [ea], TC, ex, fun u h => h, hk, q O1 H1 _ [] F1 ⟨rfl, rfl⟩ r1 s1⟩⟩⟩
/-- e.f, e an own exception -/
theorem ev_xfld (he : Ev X e env (.val (.exc C [f] [d])) env1) (T : XfC X.K C) (no : PySem.W.findIn X.K (.ref C) f = some none) (hb : attributeBase e f X.env (eval e X.env) = eval e X.env := by rfl) : Ev X (.Attribute e f pos) env (.val d) env1 :=
  ⟨he.1, fun O H σ F r w Q q => ⟨_, pe_xfX pe_w hb, he.2 O H σ F r w _ fun O1 H1 v Fv F1 ⟨ef, a, dx, kvs, ea, _, ⟨h1, h2⟩, hk, u, us, eu, ru, eus⟩ r1 s1 => by
    subst ef
    match kvs, hk, eu with
    | [(g, z)], hk, eu =>
      have eg : g = f := by simpa using hk
      have ez : z = u := by simpa using (List.cons.inj eu).1
      subst eg ez
      exact ⟨a, C, dx, [(g, z)], z, ea, T, no, h1, h2, by simp [List.lookup], q O1 H1 z [] F1 ⟨rfl, ru⟩ r1 s1⟩
    | [], hk, eu => cases hk
    | _ :: _ :: _, hk, eu => cases hk⟩⟩
end
end Lin

end

set_option maxHeartbeats 4000000
namespace K03
open PySem PySem.Spec PyProof.Rows L2 Lin
def topS (i : Nat) : Stmt := PySem.Challenge.pw_poolhopes_k03_errors_by_hand.main.body.getD i (.Pass ⟨0, 0, 0, 0⟩)
abbrev sSpread : Stmt := topS 8
abbrev sTake : Stmt := topS 9
abbrev sOneOf : Stmt := topS 10
abbrev sOpen : Stmt := topS 7
abbrev nSpread : List Str := ["cell", "at", "primes", "one", "two", "three"]
abbrev nTake : List Str := ["pen", "amount", "at", "cell", "found"]
abbrev nOneOf : List Str := ["pen", "some"]
abbrev nOpen : List Str := ["script", "cells", "k", "cell"]
theorem scSpread : FnScope nSpread ["cell", "at"] (defScope sSpread) := ⟨rfl, rfl, rfl, by decide +kernel, rfl, by decide +kernel, by decide +kernel⟩
theorem scTake : FnScope nTake ["pen", "amount"] (defScope sTake) := ⟨rfl, rfl, rfl, by decide +kernel, rfl, by decide +kernel, by decide +kernel⟩
theorem scOneOf : FnScope nOneOf ["pen", "some"] (defScope sOneOf) := ⟨rfl, rfl, rfl, by decide +kernel, rfl, by decide +kernel, by decide +kernel⟩
theorem scOpen : FnScope nOpen ["script"] (defScope sOpen) := ⟨rfl, rfl, rfl, by decide +kernel, rfl, by decide +kernel, by decide +kernel⟩
structure Fs1 (K : PySem.W.Frag) (mg : Str → Option Value) : Prop where
  mi : mg "int" = none
  ml : mg "len" = none
  mli : mg "list" = none
  men : mg "enumerate" = none
  fSpread : Df K mg "_law_spread" sSpread ["cell", "at"]
  fTake : Df K mg "_law_take" sTake ["pen", "amount"]
  fOneOf : Df K mg "_law_one_of" sOneOf ["pen", "some"]
  fOpen : Df K mg "_law_open" sOpen ["script"]
def primes : List Int := [2147483629, 2147483587, 2147483579, 2147483563, 2147483549, 2147483543, 2147483497, 2147483489, 2147483477, 2147483423, 2147483399, 2147483353, 2147483323]
theorem prime_at (i : Int) (h0 : 0 ≤ i) (h1 : i < 13) : ∃ q : Int, L2.atI (primes.map D.int) i = some (.int q) ∧ 0 < q ∧ q < 2 ^ 31 := by
  obtain rfl | rfl | rfl | rfl | rfl | rfl | rfl | rfl | rfl | rfl | rfl | rfl | rfl : i = 0 ∨ i = 1 ∨ i = 2 ∨ i = 3 ∨ i = 4 ∨ i = 5 ∨ i = 6 ∨ i = 7 ∨ i = 8 ∨ i = 9 ∨ i = 10 ∨ i = 11 ∨ i = 12 := by omega
  all_goals exact ⟨_, rfl, by decide, by decide⟩
section
variable {P : Program} {w : World} {K : PySem.W.Frag} {mg : Str → Option Value} {base : Heap}
theorem ok_spread (h : Fs1 K mg) (cell att : Int) (h0 : 0 ≤ att) (h1 : att ≤ 1000000) : ∃ z : Int, Fn P w K mg base "_law_spread" 2 1 (FS0 K [.int cell, .int att] (.val (.int z))) := by
  have mi := h.mi
  by_cases hc : (10 : Int) ^ 18 ≤ cell
  · refine ⟨cell, fd0 h.fSpread scSpread rfl (env0 := [vl (.int cell), vl (.int att), none, none, none, none]) rfl fun f cdv A outer s H E hr => ?_⟩
    apply Exists.intro
    refine ex_stop (x1_if (tv_ge (ev_name 0 rfl) (ev_pow ev_int ev_int ⟨by decide, by decide, by decide⟩)) (fun _ => ex_one (x1_ret (ev_name 0 rfl))) (fun h => ?_))
    exact absurd hc (of_decide_eq_false h)
  · have hm0 : 0 ≤ cell % 1000000007 := Int.emod_nonneg _ (by decide)
    have hm1 : cell % 1000000007 < 1000000007 := Int.emod_lt_of_pos _ (by decide)
    have p0 := Int.mul_nonneg hm0 (show 0 ≤ 2 * att + 69069 by omega)
    have p1 : cell % 1000000007 * (2 * att + 69069) ≤ 1000000007 * 2069069 := Int.mul_le_mul (by omega) (by omega) (by omega) (by decide)
    obtain ⟨q1, e1, a1, b1⟩ := prime_at (att % 13) (by omega) (by omega)
    obtain ⟨q2, e2, a2, b2⟩ := prime_at ((att + 5) % 13) (by omega) (by omega)
    obtain ⟨q3, e3, a3, b3⟩ := prime_at ((att + 7) % 13) (by omega) (by omega)
    generalize hx : cell % 1000000007 * (2 * att + 69069) + att * 40503 + 977 = x at *
    have hxl : x.natAbs < 2 ^ 64 := by omega
    generalize hy : x ^ 3 % q1 = y1
    have hy0 : 0 ≤ y1 := hy ▸ Int.emod_nonneg _ (by omega)
    have hy1 : y1 < q1 := hy ▸ Int.emod_lt_of_pos _ a1
    have r0 := Int.mul_nonneg hy0 (show 0 ≤ att + 3 by omega)
    have r1 : y1 * (att + 3) ≤ 2147483648 * 1000003 := Int.mul_le_mul (by omega) (by omega) (by omega) (by decide)
    generalize hz : y1 * (att + 3) = z at *
    have hw0 : 0 ≤ cell % 65537 := Int.emod_nonneg _ (by decide)
    have hw1 : cell % 65537 < 65537 := Int.emod_lt_of_pos _ (by decide)
    generalize hy2 : (z + cell % 65537 + 5) ^ 5 % q2 = y2
    have hy20 : 0 ≤ y2 := hy2 ▸ Int.emod_nonneg _ (by omega)
    have hy21 : y2 < q2 := hy2 ▸ Int.emod_lt_of_pos _ a2
    refine ⟨(y1 * 2147483647 + y2) * 2147483647 + (y2 + y1 % 1009 + att) ^ 3 % q3, fd0 h.fSpread scSpread rfl (env0 := [vl (.int cell), vl (.int att), none, none, none, none]) rfl fun f cdv A outer s H E hr => ?_⟩
    apply Exists.intro
    have hn := scSpread.nd
    refine ex_cons (x1_if (tv_ge (ev_name 0 rfl) (ev_pow ev_int ev_int ⟨by decide, by decide, by decide⟩)) (fun h => absurd (of_decide_eq_true h) hc) (fun _ => ex_nil)) ?_
    refine ex_cons (x1_set 2 (ev_lstF (ds := (primes.take 8).map D.int) (ea_cons ev_int (ea_cons ev_int (ea_cons ev_int (ea_cons ev_int (ea_cons ev_int (ea_cons ev_int (ea_cons ev_int (ea_cons ev_int ea_nil)))))))))) ?_
    refine ex_cons (x1_set 2 (ev_cat (ev_name 2 rfl) (ev_lstF (ds := (primes.drop 8).map D.int) (ea_cons ev_int (ea_cons ev_int (ea_cons ev_int (ea_cons ev_int (ea_cons ev_int ea_nil)))))) (by decide)).frz) ?_
    refine ex_cons (x1_set 3 ((ev_add (ev_add (ev_mul (ev_mod (ev_intI (ev_name 0 rfl) mi) ev_int (by decide)) (ev_add (ev_mul ev_int (ev_name 1 rfl) (.inl ⟨by decide, by decide⟩)) ev_int) (.inl ⟨by omega, by omega⟩)) (ev_mul (ev_name 1 rfl) ev_int (.inr ⟨by decide, by decide⟩))) ev_int).eq (m' := .val (.int x)) (by rw [hx]))) ?_
    refine ex_cons (x1_set 3 ((ev_mod (ev_intI (ev_pow (ev_name 3 rfl) ev_int ⟨by decide, by decide, hxl⟩) mi) (ev_ixL (ds := primes.map D.int) (ev_name 2 rfl) (ev_mod (ev_intI (ev_name 1 rfl) mi) ev_int (by decide)) e1) a1).eq (m' := .val (.int y1)) (by rw [← hy]; rfl))) ?_
    refine ex_cons (x1_set 4 ((ev_mod (ev_intI (ev_pow (ev_add (ev_add (ev_mul (ev_name 3 rfl) (ev_add (ev_name 1 rfl) ev_int) (.inl ⟨by omega, by omega⟩)) (ev_mod (ev_intI (ev_name 0 rfl) mi) ev_int (by decide))) ev_int) ev_int ⟨by decide, by decide, by rw [hz]; omega⟩) mi) (ev_ixL (ds := primes.map D.int) (ev_name 2 rfl) (ev_mod (ev_intI (ev_add (ev_name 1 rfl) ev_int) mi) ev_int (by decide)) e2) a2).eq (m' := .val (.int y2)) (by rw [hz, ← hy2]; rfl))) ?_
    refine ex_cons (x1_set 5 (ev_mod (ev_intI (ev_pow (ev_add (ev_add (ev_name 4 rfl) (ev_mod (ev_intI (ev_name 3 rfl) mi) ev_int (by decide))) (ev_name 1 rfl)) ev_int ⟨by decide, by decide, by omega⟩) mi) (ev_ixL (ds := primes.map D.int) (ev_name 2 rfl) (ev_mod (ev_intI (ev_add (ev_name 1 rfl) ev_int) mi) ev_int (by decide)) e3) a3)) ?_
    exact ex_stop (x1_ret (ev_add (ev_mul (ev_add (ev_mul (ev_name 3 rfl) ev_int (.inl ⟨by omega, by omega⟩)) (ev_name 4 rfl)) ev_int (.inr ⟨by decide, by decide⟩)) (ev_name 5 rfl)))
theorem ok_take (h : Fs1 K mg) {B : Int} (hB : B ≤ 999999) {m : M} (hp : PenOk B m) (n : Int) (h0 : 0 < n) (h1 : n < 1073741824) :
    ∃ (r : Int) (m' : M), Fn P w K mg base "_law_take" 2 2 (FS1 K [] m [.int n] (.val (.int r)) m') ∧ 0 ≤ r ∧ r < n ∧ PenOk (B + 1) m' := by
  obtain ⟨cells, a, c, rfl, ha, hb⟩ := hp
  have mi := h.mi
  have ml := h.ml
  by_cases hc : c < n
  · let v : Int := if a < cells.length then cells.getD a.toNat 0 else if (0 : Int) < cells.length then cells.getD ((a * 5 + 3) % cells.length).toNat 0 % (10 ^ 17 + a) else 0
    obtain ⟨z, hz⟩ := ok_spread (P := P) (w := w) (base := base) h v a ha (by omega)
    refine ⟨z % n, penM cells (a + 1) (z / n), fd1 (pre := []) h.fTake scTake rfl (env0 := [some (.io (penM cells a c)), vl (.int n), none, none, none]) rfl fun f cdv A outer s H E hr => ?_, Int.emod_nonneg _ (by omega), Int.emod_lt_of_pos _ h0, ⟨cells, a + 1, z / n, rfl, by omega, by omega⟩⟩
    apply Exists.intro
    have hn := scTake.nd
    refine ⟨?_, ?_⟩
    · refine ex_cons (env1 := [some (.io (penM cells (a + 1) z)), vl (.int n), vl (.int a), vl (.int v), none]) (x1_if (tv_lt (ev_pu (pu_ixO (pu_name 0 rfl) pu_int pen2)) (ev_name 1 rfl)) (fun _ => ?_) (fun h => absurd hc (of_decide_eq_false h))) ?_
      · refine ex_cons (x1_set 2 (ev_pu (pu_ixO (pu_name 0 rfl) pu_int pen1))) ?_
        refine ex_cons (x1_set 3 ev_int) ?_
        refine ex_cons (x1_if (out := .nx [some (.io (penM cells a c)), vl (.int n), vl (.int a), vl (.int v), none]) (tv_lt (ev_name 2 rfl) (ev_pu (pu_lenO (pu_ixO (pu_name 0 rfl) pu_int pen0)))) (fun hk => ?_) (fun hk => ?_)) ?_
        · have hk := of_decide_eq_true hk
          rw [List.length_map] at hk
          exact ex_one (x1_set 3 ((ev_pu (pu_ixO (pu_ixO (pu_name 0 rfl) pu_int pen0) (pu_name 2 rfl) (atI_map ha (by omega) 0))).eq (by rw [show v = _ from if_pos hk])))
        · have hk := of_decide_eq_false hk
          rw [List.length_map] at hk
          refine ex_one (x1_if (tv_gt (ev_pu (pu_lenO (pu_ixO (pu_name 0 rfl) pu_int pen0))) ev_int) (fun hj => ?_) (fun hj => ?_))
          · have hj := of_decide_eq_true hj
            rw [List.length_map] at hj
            refine ex_one (x1_set 3 ((ev_mod (ev_intI (ev_pu (pu_ixO (pu_ixO (pu_name 0 rfl) pu_int pen0) (pu_mod (pu_intI (pu_add (pu_mul (pu_name 2 rfl) pu_int (.inr ⟨by decide, by decide⟩)) pu_int)) (pu_lenO (pu_ixO (pu_name 0 rfl) pu_int pen0)) (by rw [List.length_map]; omega)) (atI_map (d := 0) (by rw [List.length_map]; exact Int.emod_nonneg _ (by omega)) (by rw [List.length_map]; exact Int.emod_lt_of_pos _ hj)))) mi) (ev_add (ev_pow ev_int ev_int ⟨by decide, by decide, by decide⟩) (ev_name 2 rfl)) (by rw [show (10 : Int) ^ Int.toNat 17 = 100000000000000000 from rfl]; omega)).eq ?_))
            rw [show v = _ from (if_neg hk).trans (if_pos hj), List.length_map]
            rfl
          · have hj := of_decide_eq_false hj
            rw [List.length_map] at hj
            rw [show v = _ from (if_neg hk).trans (if_neg hj)]
            exact ex_nil
        · refine ex_cons (x1_setL 0 (ev_add (ev_name 2 rfl) ev_int) ev_int rfl rfl rfl) ?_
          exact Ex.eq (ex_one (x1_setL 0 (ev_call hz (hr.mono (by decide)) (ds := [.int v, .int a]) (ea_cons (ev_name 3 rfl) (ea_cons (ev_name 2 rfl) ea_nil))) ev_int rfl rfl rfl))
      · refine ex_cons (x1_set 4 (ev_mod (ev_intI (ev_pu (pu_ixO (pu_name 0 rfl) pu_int rfl)) mi) (ev_name 1 rfl) h0)) ?_
        refine ex_cons (x1_setL 0 (ev_div (ev_pu (pu_ixO (pu_name 0 rfl) pu_int rfl)) (ev_name 1 rfl) ⟨h0, h1⟩) ev_int rfl rfl rfl) ?_
        exact ex_stop (x1_ret (ev_name 4 rfl))
    · rfl
  · refine ⟨c % n, penM cells a (c / n), fd1 (pre := []) h.fTake scTake rfl (env0 := [some (.io (penM cells a c)), vl (.int n), none, none, none]) rfl fun f cdv A outer s H E hr => ?_, Int.emod_nonneg _ (by omega), Int.emod_lt_of_pos _ h0, ⟨cells, a, c / n, rfl, by omega, by omega⟩⟩
    apply Exists.intro
    have hn := scTake.nd
    refine ⟨?_, ?_⟩
    · refine ex_cons (x1_if (tv_lt (ev_pu (pu_ixO (pu_name 0 rfl) pu_int pen2)) (ev_name 1 rfl)) (fun h => absurd (of_decide_eq_true h) hc) (fun _ => ex_nil)) ?_
      refine ex_cons (x1_set 4 (ev_mod (ev_intI (ev_pu (pu_ixO (pu_name 0 rfl) pu_int pen2)) mi) (ev_name 1 rfl) h0)) ?_
      refine ex_cons (x1_setL 0 (ev_div (ev_pu (pu_ixO (pu_name 0 rfl) pu_int pen2)) (ev_name 1 rfl) ⟨h0, h1⟩) ev_int rfl rfl rfl) ?_
      exact ex_stop (x1_ret (ev_name 4 rfl))
    · rfl
end
section
variable {P : Program} {w : World} {K : PySem.W.Frag} {mg : Str → Option Value} {base : Heap}
theorem ok_oneOf (h : Fs1 K mg) {B : Int} (hB : B ≤ 999999) {m : M} (hp : PenOk B m) (ds : List D) (h0 : 0 < ds.length) (h1 : ds.length < 1073741824) :
    ∃ (d : D) (m' : M), Fn P w K mg base "_law_one_of" 2 3 (FS1 K [] m [.lst ds] (.val d) m') ∧ d ∈ ds ∧ PenOk (B + 1) m' := by
  have ml := h.ml
  obtain ⟨r, m', hz, r0, r1, hp'⟩ := ok_take (P := P) (w := w) (base := base) h hB hp ds.length (by omega) (by omega)
  have hl : r.toNat < ds.length := by omega
  refine ⟨ds[r.toNat], m', fd1 (pre := []) h.fOneOf scOneOf rfl (env0 := [some (.io m), vl (.lst ds)]) rfl fun f cdv A outer s H E hr => ?_, List.getElem_mem hl, hp'⟩
  apply Exists.intro
  refine ⟨?_, ?_⟩
  · exact ex_stop (x1_ret (ev_ixL (ev_name 1 rfl) (ev_call1 (pre := []) (post := [.int ds.length]) hz hr (ea_lend 0 rfl (ea_cons (ev_lenL (ev_name 1 rfl) ml) ea_nil)) rfl) (atI_of r0 (List.getElem?_eq_getElem hl))))
  · rfl
theorem ok_open (h : Fs1 K mg) (ns : List Int) : ∃ m : M, Fn P w K mg base "_law_open" 1 1 (FS0 K [.scr ns] m) ∧ PenOk 0 m := by
  have mi := h.mi
  have mli := h.mli
  have men := h.men
  let next (cs : List Int) (p : Int × Nat) : List Int := cs.set (p.2 % 12) (cs.getD (p.2 % 12) 0 + p.1)
  refine ⟨penM (((cutD ns (some 12) (some 63)).zipIdx 0).foldl next (cutD ns none (some 12))) 0 0, fd0 (ds := [.scr ns]) h.fOpen scOpen rfl (env0 := [vl (.scr ns), none, none, none]) rfl fun f cdv A outer s H E hr => ?_, ⟨_, 0, 0, rfl, by decide, by decide⟩⟩
  apply Exists.intro
  have hn := scOpen.nd
  refine ex_cons (x1_set 1 ((ev_listL (Ev.frzL (ev_slS (ev_name 0 rfl) po_no (po_ev ev_int)))).eq (lstVI _))) ?_
  refine ex_cons (x1_for ((iv_enum (Ev.frzL (ev_slS (ev_name 0 rfl) (po_ev ev_int) (po_ev ev_int)))).eq (enumD_map D.int 0 _))
    (forR_fold (fun cs : List Int => [vl (.scr ns), some (.own (.lst (cs.map fun i => .val (.int i)))), none, none]) _ next (fun as cs => as ≠ [] → cs.length = 12) (fun p as cs hI => ?_) _ (cutD ns none (some 12)) (fun hne => ?_))) ?_
  · obtain ⟨c, k⟩ := p
    have hc := hI (by simp)
    have hl : k % 12 < cs.length := by omega
    refine ⟨⟨_, _, tg_tup (tgs_cons (tg_name 2) (tgs_cons (tg_name 3) tgs_nil)), ?_⟩, fun _ => by rw [List.length_set]; exact hc⟩
    have hj : ixN (cs.map fun i => M.val (D.int i)).length ((k : Int) % 12) = some (k % 12) := by
      rw [List.length_map, ixN_of (n := cs.length) (i := (k : Int) % 12) (by omega) (by omega)]
      congr 1
    refine Ex.eq (Ex.fgt 3 (Ex.fgt 2 (ex_one (x1_setL 1 (j := k % 12) (ev_add (ev_pu (pu_ixO (pu_name 1 rfl) (pu_mod (pu_intI (pu_name 2 rfl)) pu_int (by decide)) (atI_map (d := 0) (xs := cs) (i := (k : Int) % 12) (by omega) (by omega)))) (ev_name 3 rfl)) (ev_mod (ev_intI (ev_name 2 rfl) mi) ev_int (by decide)) rfl rfl hj)))) ?_
    show Out.nx [vl (.scr ns), some (Sl.own (M.lst ((cs.map fun i => M.val (D.int i)).set (k % 12) (M.val (D.int (cs.getD ((k : Int) % 12).toNat 0 + c)))))), none, none] = _
    rw [show ((k : Int) % 12).toNat = k % 12 by omega, ← List.map_set]
  · rw [cut_12]
    have := cut_rest (xs := ns) fun z => hne (by rw [z]; rfl)
    omega
  exact ex_stop (x1_ret (ev_lstM (em_cons (ev_move 1 rfl) (em_cons ev_int (em_cons ev_int em_nil)))))
end
abbrev sOdd : Stmt := topS 11
abbrev nOdd : List Str := ["pen", "some"]
theorem scOdd : FnScope nOdd ["pen"] (defScope sOdd) := ⟨rfl, rfl, rfl, by decide +kernel, rfl, by decide +kernel, by decide +kernel⟩
structure Fe1 (K : PySem.W.Frag) (mg : Str → Option Value) : Prop extends Fs1 K mg where
  fOdd : Df K mg "_law_odd" sOdd ["pen"]
def oddA : List D := [.none, .bool true, .bool false, .int 0, .int 1, .int 2, .int (-1), .int 3, .int 16, .int 21, .int 99, .int ((10 : Int) ^ (20 : Int).toNat), .str "", .str "a", .str "0", .tup [], .lst [], .dK [] [], .tup [.int 0], .tup [.int 0, .int 1], .tup [.int 1, .int 0]]
def oddB : List D := [.tup [.tup [.int 0, .int 1], .int 2], .lst [.int 0, .int 1], .tup [.int 0, .int 1, .int 2], .tup [.tup [.int 0], .tup [], .int 0], .tup [.bool true, .int 0], .dK [.inl 0] [.int 0], .tup [.int 0, .int 0]]
theorem odd_ok : ∀ d ∈ oddA ++ oddB, Vok 100 2 d := by
  have z : (oddA ++ oddB).all (fun d => shw d && decide (wD d ≤ 100) && decide (dD d ≤ 2)) = true := by decide +kernel
  intro d hd
  have q := List.all_eq_true.mp z d hd
  rw [Bool.and_eq_true, Bool.and_eq_true] at q
  exact ⟨q.1.1, of_decide_eq_true q.1.2, of_decide_eq_true q.2⟩
section
variable {P : Program} {w : World} {K : PySem.W.Frag} {mg : Str → Option Value} {base : Heap}
theorem ok_odd (h : Fe1 K mg) {B : Int} (hB : B ≤ 999999) {m : M} (hp : PenOk B m) :
    ∃ (d : D) (m' : M), Fn P w K mg base "_law_odd" 1 4 (FS1 K [] m [] (.val d) m') ∧ Vok 100 2 d ∧ PenOk (B + 1) m' := by
  have f1 : Fs1 K mg := h.toFs1
  obtain ⟨d, m', hz, hd, hp'⟩ := ok_oneOf (P := P) (w := w) (base := base) f1 hB hp (oddA ++ oddB) (by decide) (by decide)
  refine ⟨d, m', fd1 (pre := []) (post := []) h.fOdd scOdd rfl (env0 := [some (.io m), none]) rfl fun f cdv A outer s H E hr => ?_, odd_ok d hd, hp'⟩
  have hn := scOdd.nd
  have hu := hr.units
  apply Exists.intro
  refine ⟨?_, ?_⟩
  · refine ex_cons (x1_set 1 (ev_lstF (ds := oddA) (ea_cons ev_none (ea_cons ev_bool (ea_cons ev_bool (ea_cons ev_int (ea_cons ev_int (ea_cons ev_int (ea_cons (ev_neg ev_int) (ea_cons ev_int (ea_cons ev_int (ea_cons ev_int (ea_cons ev_int
      (ea_cons (ev_pow ev_int ev_int ⟨by decide, by decide, by decide⟩) (ea_cons ev_str (ea_cons ev_str (ea_cons ev_str (ea_cons (ev_tup (ds := []) ea_nil) (ea_cons (ev_lstF (ds := []) ea_nil) (ea_cons (Ev.frzK (ks := []) (ds := []) ev_newK)
      (ea_cons (ev_tup (ds := [.int 0]) (ea_cons ev_int ea_nil)) (ea_cons (ev_tup (ds := [.int 0, .int 1]) (ea_cons ev_int (ea_cons ev_int ea_nil))) (ea_cons (ev_tup (ds := [.int 1, .int 0]) (ea_cons ev_int (ea_cons ev_int ea_nil))) ea_nil))))))))))))))))))))))) ?_
    refine ex_stop (x1_ret (ev_call1 (pre := []) (post := [.lst (oddA ++ oddB)]) hz hr (ea_lend 0 rfl (ea_cons (Ev.frzL (ev_cat (ev_name 1 rfl) (ev_lstF (ds := oddB)
      (ea_cons (ev_tup (ds := [.tup [.int 0, .int 1], .int 2]) (ea_cons (ev_tup (ds := [.int 0, .int 1]) (ea_cons ev_int (ea_cons ev_int ea_nil))) (ea_cons ev_int ea_nil)))
      (ea_cons (ev_lstF (ds := [.int 0, .int 1]) (ea_cons ev_int (ea_cons ev_int ea_nil)))
      (ea_cons (ev_tup (ds := [.int 0, .int 1, .int 2]) (ea_cons ev_int (ea_cons ev_int (ea_cons ev_int ea_nil))))
      (ea_cons (ev_tup (ds := [.tup [.int 0], .tup [], .int 0]) (ea_cons (ev_tup (ds := [.int 0]) (ea_cons ev_int ea_nil)) (ea_cons (ev_tup (ds := []) ea_nil) (ea_cons ev_int ea_nil))))
      (ea_cons (ev_tup (ds := [.bool true, .int 0]) (ea_cons ev_bool (ea_cons ev_int ea_nil)))
      (ea_cons (Ev.frzK (ks := [.inl 0]) (ds := [.int 0]) (ev_disp1 (k := .inl 0) ev_int ev_int))
      (ea_cons (ev_tup (ds := [.int 0, .int 0]) (ea_cons ev_int (ea_cons ev_int ea_nil))) ea_nil)))))))) (by decide))) ea_nil)) rfl))
  · rfl
end
abbrev sLaw : Stmt := topS 12
abbrev nLaw : List Str := ["script", "pen", "turn", "odd", "events", "endings", "limits", "seen", "errors", "more", "some", "k", "error", "kinds", "told", "index"]
theorem scLaw : FnScope nLaw ["script"] (defScope sLaw) := ⟨rfl, rfl, rfl, by decide +kernel, rfl, by decide +kernel, by decide +kernel⟩
structure Fe2 (K : PySem.W.Frag) (mg : Str → Option Value) : Prop extends Fe1 K mg where
  mre : mg "repr" = none
  mis : mg "isinstance" = none
  mve : mg "ValueError" = none
  mra : mg "range" = none
/-- the five classes -/
structure Xs (P : Program) (w : World) (K : PySem.W.Frag) (mg : Str → Option Value) (base : Heap) (CP C1 C2 C3 C4 : Addr) : Prop where
  i1 : ExcI P w K mg base "InvalidEvent" C1 "event"
  i2 : ExcI P w K mg base "Refused" C2 "ending"
  i3 : ExcI P w K mg base "TooMany" C3 "limit"
  z4 : ExcZ K mg "InvalidText" C4
  gp : mg "PoolhopesError" = some (.ref CP)
  x1 : ExcC K C1
  x2 : ExcC K C2
  x3 : ExcC K C3
  x4 : ExcC K C4
  p1 : PySem.W.kitOne K (.ref C1) (.ref CP) = some true
  v1 : PySem.W.kitOne K (.ref C1) (.type "ValueError") = some true
  k11 : PySem.W.kitOne K (.ref C1) (.ref C1) = some true
  k12 : PySem.W.kitOne K (.ref C1) (.ref C2) = some false
  k13 : PySem.W.kitOne K (.ref C1) (.ref C3) = some false
  k14 : PySem.W.kitOne K (.ref C1) (.ref C4) = some false
  p2 : PySem.W.kitOne K (.ref C2) (.ref CP) = some true
  v2 : PySem.W.kitOne K (.ref C2) (.type "ValueError") = some true
  k21 : PySem.W.kitOne K (.ref C2) (.ref C1) = some false
  k22 : PySem.W.kitOne K (.ref C2) (.ref C2) = some true
  k23 : PySem.W.kitOne K (.ref C2) (.ref C3) = some false
  k24 : PySem.W.kitOne K (.ref C2) (.ref C4) = some false
  p3 : PySem.W.kitOne K (.ref C3) (.ref CP) = some true
  v3 : PySem.W.kitOne K (.ref C3) (.type "ValueError") = some true
  k31 : PySem.W.kitOne K (.ref C3) (.ref C1) = some false
  k32 : PySem.W.kitOne K (.ref C3) (.ref C2) = some false
  k33 : PySem.W.kitOne K (.ref C3) (.ref C3) = some true
  k34 : PySem.W.kitOne K (.ref C3) (.ref C4) = some false
  p4 : PySem.W.kitOne K (.ref C4) (.ref CP) = some true
  v4 : PySem.W.kitOne K (.ref C4) (.type "ValueError") = some true
  k41 : PySem.W.kitOne K (.ref C4) (.ref C1) = some false
  k42 : PySem.W.kitOne K (.ref C4) (.ref C2) = some false
  k43 : PySem.W.kitOne K (.ref C4) (.ref C3) = some false
  k44 : PySem.W.kitOne K (.ref C4) (.ref C4) = some true
section
variable {P : Program} {w : World} {K : PySem.W.Frag} {mg : Str → Option Value} {base : Heap} {CP C1 C2 C3 C4 : Addr}
theorem Xs.g1 (A : Xs P w K mg base CP C1 C2 C3 C4) : mg "InvalidEvent" = some (.ref C1) := A.i1.g
theorem Xs.g2 (A : Xs P w K mg base CP C1 C2 C3 C4) : mg "Refused" = some (.ref C2) := A.i2.g
theorem Xs.g3 (A : Xs P w K mg base CP C1 C2 C3 C4) : mg "TooMany" = some (.ref C3) := A.i3.g
theorem Xs.g4 (A : Xs P w K mg base CP C1 C2 C3 C4) : mg "InvalidText" = some (.ref C4) := A.z4.g
end
abbrev allD (e0 e1 n0 n1 l0 l1 : D) : D := .lst [.lst [e0, e1], .lst [n0, n1], .lst [l0, l1]]
abbrev errL (C1 C2 C3 C4 : Addr) (e n l : D) : List D := [.exc C1 ["event"] [e], .exc C2 ["ending"] [n], .exc C3 ["limit"] [l], excT C4]
abbrev errD (C1 C2 C3 C4 : Addr) (e n l : D) : D := .lst (errL C1 C2 C3 C4 e n l)
abbrev turnB : List Stmt := frB (stAt (defBody sLaw) 1)
abbrev loS : Stmt := stAt turnB 6
abbrev loK : Stmt := stAt (frB loS) 0
theorem cmp_b4 (a b c d : Bool) : CmpD (.lst [.bool a, .bool b, .bool c, .bool d]) := by
  cases a <;> cases b <;> cases c <;> cases d <;> exact ⟨rfl, by decide +kernel⟩
theorem eqv_b4 (a b c d : Bool) : PyData.eqv (pd (.lst [.bool a, .bool b, .bool c, .bool d])) (pd (.lst [.bool a, .bool b, .bool c, .bool d])) = true := by
  cases a <;> cases b <;> cases c <;> cases d <;> decide +kernel
section
variable {P : Program} {w : World} {K : PySem.W.Frag} {mg : Str → Option Value} {base : Heap} {CP C1 C2 C3 C4 : Addr}
theorem err_step (h : Fe2 K mg) (A : Xs P w K mg base CP C1 C2 C3 C4) (ns : List Int) (m6 : M) (tu : Int) (odd e0 e1 n0 n1 l0 l1 : D) (sd d : D) (C : Addr) (k : Int) (hd : IsExc d C) (T : ExcC K C) (kp : PySem.W.kitOne K (.ref C) (.ref CP) = some true) (kv : PySem.W.kitOne K (.ref C) (.type "ValueError") = some true)
    (q1 : PySem.W.kitOne K (.ref C) (.ref C1) = some (decide ((0 : Int) = k))) (q2 : PySem.W.kitOne K (.ref C) (.ref C2) = some (decide ((1 : Int) = k))) (q3 : PySem.W.kitOne K (.ref C) (.ref C3) = some (decide ((2 : Int) = k))) (q4 : PySem.W.kitOne K (.ref C) (.ref C4) = some (decide ((3 : Int) = k)))
    (f : Addr) (cdv : Value) (s : Shared) (H : Hp) (E : XK) : Ex (cxOf CX0 P w K mg base nLaw "law" (defScope sLaw) f cdv callerA [] s H E).nox (frB loK) [vl (.scr ns), some (.own m6), vl (.int tu), vl odd, vl (.lst [e0, e1]), vl (.lst [n0, n1]), vl (.lst [l0, l1]), vl (.str (pk (allD e0 e1 n0 n1 l0 l1)).shown), vl (errD C1 C2 C3 C4 e0 n0 l0), vl (errD C1 C2 C3 C4 e1 n1 l1), vl sd, vl (.int k), vl d, none, none, none] (.nx [vl (.scr ns), some (.own m6), vl (.int tu), vl odd, vl (.lst [e0, e1]), vl (.lst [n0, n1]), vl (.lst [l0, l1]), vl (.str (pk (allD e0 e1 n0 n1 l0 l1)).shown), vl (errD C1 C2 C3 C4 e0 n0 l0), vl (errD C1 C2 C3 C4 e1 n1 l1), vl sd, vl (.int k), vl d, vl (.lst [.bool (decide ((0 : Int) = k)), .bool (decide ((1 : Int) = k)), .bool (decide ((2 : Int) = k))]), none, none]) := by
  have mis := h.mis
  have mve := h.mve
  have mra := h.mra
  have hn := scLaw.nd
  have hrr := top_room nLaw "law" (defScope sLaw) s f cdv
  have hu := hrr.units
  have sl := sizeLine_eq
  have st0 : Ex1 (cxOf CX0 P w K mg base nLaw "law" (defScope sLaw) f cdv callerA [] s H E).nox (stAt (frB loK) 0) [vl (.scr ns), some (.own m6), vl (.int tu), vl odd, vl (.lst [e0, e1]), vl (.lst [n0, n1]), vl (.lst [l0, l1]), vl (.str (pk (allD e0 e1 n0 n1 l0 l1)).shown), vl (errD C1 C2 C3 C4 e0 n0 l0), vl (errD C1 C2 C3 C4 e1 n1 l1), vl sd, vl (.int k), vl d, none, none, none] (.nx [vl (.scr ns), some (.own m6), vl (.int tu), vl odd, vl (.lst [e0, e1]), vl (.lst [n0, n1]), vl (.lst [l0, l1]), vl (.str (pk (allD e0 e1 n0 n1 l0 l1)).shown), vl (errD C1 C2 C3 C4 e0 n0 l0), vl (errD C1 C2 C3 C4 e1 n1 l1), vl sd, vl (.int k), vl d, none, none, none]) :=
    x1_if (k := false) (tv_w (tw_orF ((tv_not (tv_val (ev_isC (ev_name 12 rfl) hd T kp A.gp mis))).eq (b' := false) rfl) (tw_or1 ((tv_not (tv_val (ev_isT (ev_name 12 rfl) hd T kv PyProof.Rows.Boot.«ValueError» mve mis))).eq (b' := false) rfl)))) (fun z => nomatch z) (fun _ => ex_nil)
  have st1 : Ex1 (cxOf CX0 P w K mg base nLaw "law" (defScope sLaw) f cdv callerA [] s H E).nox (stAt (frB loK) 1) [vl (.scr ns), some (.own m6), vl (.int tu), vl odd, vl (.lst [e0, e1]), vl (.lst [n0, n1]), vl (.lst [l0, l1]), vl (.str (pk (allD e0 e1 n0 n1 l0 l1)).shown), vl (errD C1 C2 C3 C4 e0 n0 l0), vl (errD C1 C2 C3 C4 e1 n1 l1), vl sd, vl (.int k), vl d, none, none, none] (.nx [vl (.scr ns), some (.own m6), vl (.int tu), vl odd, vl (.lst [e0, e1]), vl (.lst [n0, n1]), vl (.lst [l0, l1]), vl (.str (pk (allD e0 e1 n0 n1 l0 l1)).shown), vl (errD C1 C2 C3 C4 e0 n0 l0), vl (errD C1 C2 C3 C4 e1 n1 l1), vl sd, vl (.int k), vl d, vl (.lst [.bool (decide ((0 : Int) = k)), .bool (decide ((1 : Int) = k)), .bool (decide ((2 : Int) = k))]), none, none]) :=
    x1_set 13 (hi := (show 13 < 16 by decide)) (ev_lstF (ds := [.bool (decide ((0 : Int) = k)), .bool (decide ((1 : Int) = k)), .bool (decide ((2 : Int) = k))]) (ea_cons (ev_isC (ev_name 12 rfl) hd T q1 A.g1 mis) (ea_cons (ev_isC (ev_name 12 rfl) hd T q2 A.g2 mis) (ea_cons (ev_isC (ev_name 12 rfl) hd T q3 A.g3 mis) ea_nil))))
  have st2 : Ex1 (cxOf CX0 P w K mg base nLaw "law" (defScope sLaw) f cdv callerA [] s H E).nox (stAt (frB loK) 2) [vl (.scr ns), some (.own m6), vl (.int tu), vl odd, vl (.lst [e0, e1]), vl (.lst [n0, n1]), vl (.lst [l0, l1]), vl (.str (pk (allD e0 e1 n0 n1 l0 l1)).shown), vl (errD C1 C2 C3 C4 e0 n0 l0), vl (errD C1 C2 C3 C4 e1 n1 l1), vl sd, vl (.int k), vl d, vl (.lst [.bool (decide ((0 : Int) = k)), .bool (decide ((1 : Int) = k)), .bool (decide ((2 : Int) = k))]), none, none] (.nx [vl (.scr ns), some (.own m6), vl (.int tu), vl odd, vl (.lst [e0, e1]), vl (.lst [n0, n1]), vl (.lst [l0, l1]), vl (.str (pk (allD e0 e1 n0 n1 l0 l1)).shown), vl (errD C1 C2 C3 C4 e0 n0 l0), vl (errD C1 C2 C3 C4 e1 n1 l1), vl sd, vl (.int k), vl d, vl (.lst [.bool (decide ((0 : Int) = k)), .bool (decide ((1 : Int) = k)), .bool (decide ((2 : Int) = k))]), none, none]) :=
    x1_if (k := false) ((tv_neD (x := .lst ([0, 1, 2, 3].map fun i : Int => D.bool (decide (i = k)))) (y := .lst ([0, 1, 2, 3].map fun i : Int => D.bool (decide (i = k)))) (Ev.frzL (ev_cat (ds := [.bool (decide ((0 : Int) = k)), .bool (decide ((1 : Int) = k)), .bool (decide ((2 : Int) = k))]) (es := [.bool (decide ((3 : Int) = k))]) (ev_name 13 rfl) (ev_lstF (ds := [.bool (decide ((3 : Int) = k))]) (ea_cons (ev_isC (ev_name 12 rfl) hd T q4 A.g4 mis) ea_nil)) (by rw [sl]; simp))) (Ev.frzL (Ev.eq (ev_lc (own := [("index", 15)]) (Iv.eq (iv_range1 ev_int) (show _ = [0, 1, 2, 3].map D.int from rfl)) (lcR_map D.int (fun i => M.val (.bool (decide (i = k)))) _ [0, 1, 2, 3] fun i hi => ⟨_, _, fun _ _ _ _ _ => tg_name 15, fun _ _ _ _ _ => ev_eqI (ev_name 15 rfl) (ev_name 11 rfl) hu, rfl⟩) (bare1 rfl) (blkOk_by (N := nLaw) (sc := defScope sLaw) (by decide +kernel)) (by rw [sl]; simp)) (by rw [List.map_map]; rfl))) (cmp_b4 _ _ _ _) (cmp_b4 _ _ _ _) hu).eq (b' := false) (by rw [show PyData.eqv (pd (.lst ([0, 1, 2, 3].map fun i : Int => D.bool (decide (i = k))))) (pd (.lst ([0, 1, 2, 3].map fun i : Int => D.bool (decide (i = k))))) = true from eqv_b4 _ _ _ _]; rfl)) (fun z => nomatch z) (fun _ => ex_nil)
  exact ex_cons st0 (ex_cons st1 (ex_one st2))
theorem err_loop (h : Fe2 K mg) (A : Xs P w K mg base CP C1 C2 C3 C4) (ns : List Int) (m6 : M) (tu : Int) (odd e0 e1 n0 n1 l0 l1 : D) (e n l : D) (f : Addr) (cdv : Value) (s : Shared) (H : Hp) (E : XK) :
    ForR (cxOf CX0 P w K mg base nLaw "law" (defScope sLaw) f cdv callerA [] s H E).nox (frT loK) (frB loK) (enumD 0 (errL C1 C2 C3 C4 e n l)) [vl (.scr ns), some (.own m6), vl (.int tu), vl odd, vl (.lst [e0, e1]), vl (.lst [n0, n1]), vl (.lst [l0, l1]), vl (.str (pk (allD e0 e1 n0 n1 l0 l1)).shown), vl (errD C1 C2 C3 C4 e0 n0 l0), vl (errD C1 C2 C3 C4 e1 n1 l1), vl (errD C1 C2 C3 C4 e n l), none, none, none, none, none] (.nx [vl (.scr ns), some (.own m6), vl (.int tu), vl odd, vl (.lst [e0, e1]), vl (.lst [n0, n1]), vl (.lst [l0, l1]), vl (.str (pk (allD e0 e1 n0 n1 l0 l1)).shown), vl (errD C1 C2 C3 C4 e0 n0 l0), vl (errD C1 C2 C3 C4 e1 n1 l1), vl (errD C1 C2 C3 C4 e n l), none, none, none, none, none]) := by
  have hn := scLaw.nd
  have step : ∀ (d : D) (C : Addr) (k : Int) (rest : List D), IsExc d C → ExcC K C → PySem.W.kitOne K (.ref C) (.ref CP) = some true → PySem.W.kitOne K (.ref C) (.type "ValueError") = some true → PySem.W.kitOne K (.ref C) (.ref C1) = some (decide ((0 : Int) = k)) → PySem.W.kitOne K (.ref C) (.ref C2) = some (decide ((1 : Int) = k)) → PySem.W.kitOne K (.ref C) (.ref C3) = some (decide ((2 : Int) = k)) → PySem.W.kitOne K (.ref C) (.ref C4) = some (decide ((3 : Int) = k)) →
      ForR (cxOf CX0 P w K mg base nLaw "law" (defScope sLaw) f cdv callerA [] s H E).nox (frT loK) (frB loK) rest [vl (.scr ns), some (.own m6), vl (.int tu), vl odd, vl (.lst [e0, e1]), vl (.lst [n0, n1]), vl (.lst [l0, l1]), vl (.str (pk (allD e0 e1 n0 n1 l0 l1)).shown), vl (errD C1 C2 C3 C4 e0 n0 l0), vl (errD C1 C2 C3 C4 e1 n1 l1), vl (errD C1 C2 C3 C4 e n l), none, none, none, none, none] (.nx [vl (.scr ns), some (.own m6), vl (.int tu), vl odd, vl (.lst [e0, e1]), vl (.lst [n0, n1]), vl (.lst [l0, l1]), vl (.str (pk (allD e0 e1 n0 n1 l0 l1)).shown), vl (errD C1 C2 C3 C4 e0 n0 l0), vl (errD C1 C2 C3 C4 e1 n1 l1), vl (errD C1 C2 C3 C4 e n l), none, none, none, none, none]) → ForR (cxOf CX0 P w K mg base nLaw "law" (defScope sLaw) f cdv callerA [] s H E).nox (frT loK) (frB loK) (.tup [.int k, d] :: rest) [vl (.scr ns), some (.own m6), vl (.int tu), vl odd, vl (.lst [e0, e1]), vl (.lst [n0, n1]), vl (.lst [l0, l1]), vl (.str (pk (allD e0 e1 n0 n1 l0 l1)).shown), vl (errD C1 C2 C3 C4 e0 n0 l0), vl (errD C1 C2 C3 C4 e1 n1 l1), vl (errD C1 C2 C3 C4 e n l), none, none, none, none, none] (.nx [vl (.scr ns), some (.own m6), vl (.int tu), vl odd, vl (.lst [e0, e1]), vl (.lst [n0, n1]), vl (.lst [l0, l1]), vl (.str (pk (allD e0 e1 n0 n1 l0 l1)).shown), vl (errD C1 C2 C3 C4 e0 n0 l0), vl (errD C1 C2 C3 C4 e1 n1 l1), vl (errD C1 C2 C3 C4 e n l), none, none, none, none, none]) := fun d C k rest hd T kp kv q1 q2 q3 q4 r =>
    .nx (tg_tup (ds := [.int k, d]) (tgs_cons (tg_name 11 (hi := (show 11 < 16 by decide))) (tgs_cons (tg_name 12 (hi := (show 12 < 16 by decide))) tgs_nil))) (Ex.eq (Ex.fgt 13 (hi := (show 13 < 16 by decide)) (Ex.fgt 12 (hi := (show 12 < 16 by decide)) (Ex.fgt 11 (hi := (show 11 < 16 by decide)) (err_step h A ns m6 tu odd e0 e1 n0 n1 l0 l1 (errD C1 C2 C3 C4 e n l) d C k hd T kp kv q1 q2 q3 q4 f cdv s H E)))) rfl) r
  exact step _ C1 0 _ (isExc_i _ _ _) A.x1 A.p1 A.v1 A.k11 A.k12 A.k13 A.k14 (step _ C2 1 _ (isExc_i _ _ _) A.x2 A.p2 A.v2 A.k21 A.k22 A.k23 A.k24 (step _ C3 2 _ (isExc_i _ _ _) A.x3 A.p3 A.v3 A.k31 A.k32 A.k33 A.k34 (step _ C4 3 _ (isExc_t _) A.x4 A.p4 A.v4 A.k41 A.k42 A.k43 A.k44 .nil)))
end
theorem int_okS {i : Int} (h0 : -1000 ≤ i) (h1 : i ≤ 1000) : Vok 10 0 (.int i) := by
  refine ⟨decide_eq_true (Nat.lt_of_le_of_lt (show i.natAbs ≤ 1000 by omega) (by decide +kernel)), ?_, Nat.le_refl 0⟩
  show (if i == 0 then 0 else i.natAbs.log2 + 1) ≤ 10
  split
  · exact Nat.zero_le _
  · rename_i h
    have h3 : i.natAbs ≠ 0 := fun z => h (by rw [Int.natAbs_eq_zero.mp z]; rfl)
    have : i.natAbs.log2 < 10 := (Nat.log2_lt h3).mpr (by omega)
    omega
abbrev evL (odd : D) : List D := [.tup [.str "result", odd, .int 0], .tup [.str "claim", odd], .tup []]
theorem vok_lst {A n : Nat} : ∀ {ds : List D}, (∀ d ∈ ds, Vok A n d) → wL ds ≤ (A + 1) * ds.length
  | [], _ => by rw [wL_nil]; exact Nat.zero_le _
  | d :: ds, h => by
    have ih := vok_lst (ds := ds) fun x hx => h x (List.mem_cons_of_mem _ hx)
    have := (h d (List.mem_cons_self ..)).wt
    rw [wL_cons, List.length_cons, Nat.mul_succ]
    omega
theorem vokLs {A n : Nat} {ds : List D} (h : ∀ d ∈ ds, Vok A n d) : Vok ((A + 1) * ds.length) (n + 1) (.lst ds) := Vok.lst (fun d hd => (h d hd).sh) (vok_lst h) fun d hd => (h d hd).dp
theorem vokTs {A n : Nat} {ds : List D} (h : ∀ d ∈ ds, Vok A n d) : Vok ((A + 1) * ds.length) (n + 1) (.tup ds) := Vok.tup (fun d hd => (h d hd).sh) (vok_lst h) fun d hd => (h d hd).dp
theorem all2v {p : D → Prop} {x y : D} (hx : p x) (hy : p y) : ∀ d ∈ [x, y], p d := fun d hd => by
  simp only [List.mem_cons, List.not_mem_nil, or_false] at hd
  rcases hd with rfl | rfl
  · exact hx
  · exact hy
theorem all3v {p : D → Prop} {x y z : D} (hx : p x) (hy : p y) (hz : p z) : ∀ d ∈ [x, y, z], p d := fun d hd => by
  simp only [List.mem_cons, List.not_mem_nil, or_false] at hd
  rcases hd with rfl | rfl | rfl
  · exact hx
  · exact hy
  · exact hz
theorem vok_res : Vok 100 2 (.str "result") := ⟨by decide +kernel, by decide +kernel, by decide +kernel⟩
theorem vok_clm : Vok 100 2 (.str "claim") := ⟨by decide +kernel, by decide +kernel, by decide +kernel⟩
theorem vok_emp : Vok 400 3 (.tup []) := ⟨by decide +kernel, by decide +kernel, by decide +kernel⟩
theorem vok_i {i : Int} (h0 : 0 ≤ i) (h1 : i ≤ 1000) : Vok 100 2 (.int i) := (int_okS (by omega) h1).mono (by omega) (by omega)
theorem ev_vok {odd : D} (v : Vok 100 2 odd) : ∀ d ∈ evL odd, Vok 400 3 d := all3v ((vokTs (all3v vok_res v (vok_i (by decide) (by decide)))).mono (by simp) (by decide)) ((vokTs (all2v vok_clm v)).mono (by simp) (by decide)) vok_emp
theorem all_vok {e0 e1 n0 n1 l0 l1 : D} (a : Vok 400 3 e0) (b : Vok 400 3 e1) (c : Vok 400 3 n0) (d : Vok 400 3 n1) (e : Vok 400 3 l0) (g : Vok 400 3 l1) : Vok 3000 5 (allD e0 e1 n0 n1 l0 l1) :=
  (vokLs (A := 802) (n := 4) (all3v (vokLs (all2v a b)) (vokLs (all2v c d)) (vokLs (all2v e g)))).mono (by simp) (by decide)
section
variable {P : Program} {w : World} {K : PySem.W.Frag} {mg : Str → Option Value} {base : Heap} {CP C1 C2 C3 C4 : Addr}
theorem turns (h : Fe2 K mg) (A : Xs P w K mg base CP C1 C2 C3 C4) (ns : List Int) : ∀ (n : Nat) (lo : Int), ∀ {B : Int} {m : M}, B + 10 * n ≤ 900000 → PenOk B m →
    ∃ m' : M, Top0 P w K mg base nLaw sLaw fun X => ForR X (frT (stAt (defBody sLaw) 1)) turnB (rangeD lo n) [vl (.scr ns), some (.own m), none, none, none, none, none, none, none, none, none, none, none, none, none, none] (.nx [vl (.scr ns), some (.own m'), none, none, none, none, none, none, none, none, none, none, none, none, none, none])
  | 0, lo, B, m, hB, hp => ⟨m, fun _ _ _ _ _ => .nil⟩
  | n + 1, lo, B, m, hB, hp => by
    have f1 : Fs1 K mg := h.toFs1
    obtain ⟨odd, m1, hz1, vo, hp1⟩ := ok_odd (P := P) (w := w) (base := base) h.toFe1 (by omega) hp
    obtain ⟨e0, m2, hz2, he0, hp2⟩ := ok_oneOf (P := P) (w := w) (base := base) f1 (by omega) hp1 (evL odd) (by show 0 < 3; decide) (by show 3 < 1073741824; decide)
    obtain ⟨r1, m3, hz3, r10, r11, hp3⟩ := ok_take (P := P) (w := w) (base := base) f1 (by omega) hp2 9 (by omega) (by omega)
    obtain ⟨r2, m4, hz4, r20, r21, hp4⟩ := ok_take (P := P) (w := w) (base := base) f1 (by omega) hp3 9 (by omega) (by omega)
    obtain ⟨n0, m5, hz5, hn0, hp5⟩ := ok_oneOf (P := P) (w := w) (base := base) f1 (by omega) hp4 [.tup [.int 0, .int r2], .tup []] (by show 0 < 2; decide) (by show 2 < 1073741824; decide)
    obtain ⟨l0, m6, hz6, hl0, hp6⟩ := ok_oneOf (P := P) (w := w) (base := base) f1 (by omega) hp5 [.int 0, .int 7, .int 2000] (by decide) (by decide)
    obtain ⟨m', fr⟩ := turns h A ns n (lo + 1) (B := B + 10) (m := m6) (by omega) (hp6.mono (by omega))
    have ve0 : Vok 400 3 e0 := ev_vok vo e0 he0
    have ve1 : Vok 400 3 (.tup [.str "result", .int r1, .int 1]) := (vokTs (all3v vok_res (vok_i r10 (by omega)) (vok_i (by decide) (by decide)))).mono (by simp) (by decide)
    have vn0 : Vok 400 3 n0 := all2v (p := Vok 400 3) ((vokTs (all2v (vok_i (i := 0) (by decide) (by decide)) (vok_i r20 (by omega)))).mono (by simp) (by decide)) vok_emp n0 hn0
    have vn1 : Vok 400 3 (.tup [.int 1]) := ⟨by decide +kernel, by decide +kernel, by decide +kernel⟩
    have vl0 : Vok 400 3 l0 := all3v (p := Vok 400 3) ⟨by decide +kernel, by decide +kernel, by decide +kernel⟩ ⟨by decide +kernel, by decide +kernel, by decide +kernel⟩ ⟨by decide +kernel, by decide +kernel, by decide +kernel⟩ l0 hl0
    have vl1 : Vok 400 3 (.int 300) := ⟨by decide +kernel, by decide +kernel, by decide +kernel⟩
    have va : Vok 3000 5 (allD e0 (.tup [.str "result", .int r1, .int 1]) n0 (.tup [.int 1]) l0 (.int 300)) := all_vok ve0 ve1 vn0 vn1 vl0 vl1
    have vw : (pk (allD e0 (.tup [.str "result", .int r1, .int 1]) n0 (.tup [.int 1]) l0 (.int 300))).weight ≤ 3000 := va.wt
    have vd : (pk (allD e0 (.tup [.str "result", .int r1, .int 1]) n0 (.tup [.int 1]) l0 (.int 300))).depth ≤ 5 := va.dp
    refine ⟨m', fun f cdv s H E => ?_⟩
    have mre := h.mre
    have men := h.men
    have hn := scLaw.nd
    have hrr := top_room nLaw "law" (defScope sLaw) s f cdv
    have hun := hrr.un
    have un : (callerA.deeper (envOfC "law" (defScope sLaw) s.heap.objs.size f cdv)).units + ((pk (allD e0 (.tup [.str "result", .int r1, .int 1]) n0 (.tup [.int 1]) l0 (.int 300))).depth + 1) < cLine := by omega
    suffices core : Ex (cxOf CX0 P w K mg base nLaw "law" (defScope sLaw) f cdv callerA [] s H E).nox turnB [vl (.scr ns), some (.own m), vl (.int lo), none, none, none, none, none, none, none, none, none, none, none, none, none] (.nx [vl (.scr ns), some (.own m6), vl (.int lo), vl odd, vl (.lst [e0, .tup [.str "result", .int r1, .int 1]]), vl (.lst [n0, .tup [.int 1]]), vl (.lst [l0, .int 300]), vl (.str (pk (allD e0 (.tup [.str "result", .int r1, .int 1]) n0 (.tup [.int 1]) l0 (.int 300))).shown), vl (errD C1 C2 C3 C4 e0 n0 l0), vl (errD C1 C2 C3 C4 (.tup [.str "result", .int r1, .int 1]) (.tup [.int 1]) (.int 300)), none, none, none, none, vl (allD e0 (.tup [.str "result", .int r1, .int 1]) n0 (.tup [.int 1]) l0 (.int 300)), none]) from
      .nx (tg_name 2 (hi := (show 2 < 16 by decide))) (Ex.eq (Ex.fgtL _ [vl (.scr ns), some (.own m6)] rfl core) rfl) (fr f cdv s H E)
    refine ex_cons (x1_set 3 (hi := (show 3 < 16 by decide)) (ev_call1 (s := .own m) (pre := []) (post := []) hz1 (hrr.mono (by omega)) (ea_lend 1 rfl ea_nil) rfl)) ?_
    refine ex_cons (x1_set 4 (hi := (show 4 < 16 by decide)) (ev_lstF (ds := [e0, .tup [.str "result", .int r1, .int 1]]) (ea_cons (ev_call1 (s := .own m1) (pre := []) (post := [.lst (evL odd)]) hz2 (hrr.mono (by omega)) (ea_lend 1 rfl (ea_cons (ev_lstF (ds := evL odd) (ea_cons (ev_tup (ds := [.str "result", odd, .int 0]) (ea_cons ev_str (ea_cons (ev_name 3 rfl) (ea_cons ev_int ea_nil)))) (ea_cons (ev_tup (ds := [.str "claim", odd]) (ea_cons ev_str (ea_cons (ev_name 3 rfl) ea_nil))) (ea_cons (ev_tup (ds := []) ea_nil) ea_nil)))) ea_nil)) rfl) (ea_cons (ev_tup (ds := [.str "result", .int r1, .int 1]) (ea_cons ev_str (ea_cons (ev_call1 (s := .own m2) (pre := []) (post := [.int 9]) hz3 (hrr.mono (by omega)) (ea_lend 1 rfl (ea_cons ev_int ea_nil)) rfl) (ea_cons ev_int ea_nil)))) ea_nil)))) ?_
    refine ex_cons (x1_par 5 6 (m1 := .val (.lst [n0, .tup [.int 1]])) (m2 := .val (.lst [l0, .int 300])) (hiL := (show 5 < 16 by decide)) (hjL := (show 6 < 16 by decide)) (em_cons (ev_lstF (ds := [n0, .tup [.int 1]]) (ea_cons (ev_call1 (s := .own m4) (pre := []) (post := [.lst [.tup [.int 0, .int r2], .tup []]]) hz5 (hrr.mono (by omega)) (ea_lend 1 rfl (ea_cons (ev_lstF (ds := [.tup [.int 0, .int r2], .tup []]) (ea_cons (ev_tup (ds := [.int 0, .int r2]) (ea_cons ev_int (ea_cons (ev_call1 (s := .own m3) (pre := []) (post := [.int 9]) hz4 (hrr.mono (by omega)) (ea_lend 1 rfl (ea_cons ev_int ea_nil)) rfl) ea_nil))) (ea_cons (ev_tup (ds := []) ea_nil) ea_nil))) ea_nil)) rfl) (ea_cons (ev_tup (ds := [.int 1]) (ea_cons ev_int ea_nil)) ea_nil))) (em_cons (ev_lstF (ds := [l0, .int 300]) (ea_cons (ev_call1 (s := .own m5) (pre := []) (post := [.lst [.int 0, .int 7, .int 2000]]) hz6 (hrr.mono (by omega)) (ea_lend 1 rfl (ea_cons (ev_lstF (ds := [.int 0, .int 7, .int 2000]) (ea_cons ev_int (ea_cons ev_int (ea_cons ev_int ea_nil)))) ea_nil)) rfl) (ea_cons ev_int ea_nil))) em_nil))) ?_
    refine ex_cons (x1_set 7 (hi := (show 7 < 16 by decide)) (ev_repr rfl (ev_lstF (ds := [.lst [e0, .tup [.str "result", .int r1, .int 1]], .lst [n0, .tup [.int 1]], .lst [l0, .int 300]]) (ea_cons (ev_name 4 rfl) (ea_cons (ev_name 5 rfl) (ea_cons (ev_name 6 rfl) ea_nil)))) va.sh (Nat.le_trans vw (by decide)) un)) ?_
    refine ex_cons (x1_set 8 (hi := (show 8 < 16 by decide)) (ev_lstF (ds := (errL C1 C2 C3 C4 e0 n0 l0)) (ea_cons (ev_excI A.i1 (hrr.mono (by omega)) (ev_ixL (ds := [e0, .tup [.str "result", .int r1, .int 1]]) (ev_name 4 rfl) ev_int rfl)) (ea_cons (ev_excI A.i2 (hrr.mono (by omega)) (ev_ixL (ds := [n0, .tup [.int 1]]) (ev_name 5 rfl) ev_int rfl)) (ea_cons (ev_excI A.i3 (hrr.mono (by omega)) (ev_ixL (ds := [l0, .int 300]) (ev_name 6 rfl) ev_int rfl)) (ea_cons (ev_excT A.z4 ev_str) ea_nil)))))) ?_
    refine ex_cons (x1_set 9 (hi := (show 9 < 16 by decide)) (ev_lstF (ds := (errL C1 C2 C3 C4 (.tup [.str "result", .int r1, .int 1]) (.tup [.int 1]) (.int 300))) (ea_cons (ev_excI A.i1 (hrr.mono (by omega)) (ev_ixL (ds := [e0, .tup [.str "result", .int r1, .int 1]]) (ev_name 4 rfl) ev_int rfl)) (ea_cons (ev_excI A.i2 (hrr.mono (by omega)) (ev_ixL (ds := [n0, .tup [.int 1]]) (ev_name 5 rfl) ev_int rfl)) (ea_cons (ev_excI A.i3 (hrr.mono (by omega)) (ev_ixL (ds := [l0, .int 300]) (ev_name 6 rfl) ev_int rfl)) (ea_cons (ev_excT A.z4 ev_str) ea_nil)))))) ?_
    have lp : ForR (cxOf CX0 P w K mg base nLaw "law" (defScope sLaw) f cdv callerA [] s H E).nox (frT loS) (frB loS) [errD C1 C2 C3 C4 e0 n0 l0, errD C1 C2 C3 C4 (.tup [.str "result", .int r1, .int 1]) (.tup [.int 1]) (.int 300)] [vl (.scr ns), some (.own m6), vl (.int lo), vl odd, vl (.lst [e0, .tup [.str "result", .int r1, .int 1]]), vl (.lst [n0, .tup [.int 1]]), vl (.lst [l0, .int 300]), vl (.str (pk (allD e0 (.tup [.str "result", .int r1, .int 1]) n0 (.tup [.int 1]) l0 (.int 300))).shown), vl (errD C1 C2 C3 C4 e0 n0 l0), vl (errD C1 C2 C3 C4 (.tup [.str "result", .int r1, .int 1]) (.tup [.int 1]) (.int 300)), none, none, none, none, none, none] (.nx [vl (.scr ns), some (.own m6), vl (.int lo), vl odd, vl (.lst [e0, .tup [.str "result", .int r1, .int 1]]), vl (.lst [n0, .tup [.int 1]]), vl (.lst [l0, .int 300]), vl (.str (pk (allD e0 (.tup [.str "result", .int r1, .int 1]) n0 (.tup [.int 1]) l0 (.int 300))).shown), vl (errD C1 C2 C3 C4 e0 n0 l0), vl (errD C1 C2 C3 C4 (.tup [.str "result", .int r1, .int 1]) (.tup [.int 1]) (.int 300)), none, none, none, none, none, none]) :=
      .nx (tg_name 10 (hi := (show 10 < 16 by decide))) (Ex.eq (Ex.fgt 10 (hi := (show 10 < 16 by decide)) (ex_one (x1_for (iv_enum (ds := (errL C1 C2 C3 C4 e0 n0 l0)) (ev_name 10 rfl)) (err_loop h A ns m6 lo odd e0 (.tup [.str "result", .int r1, .int 1]) n0 (.tup [.int 1]) l0 (.int 300) e0 n0 l0 f cdv s H E)))) rfl) (.nx (tg_name 10 (hi := (show 10 < 16 by decide))) (Ex.eq (Ex.fgt 10 (hi := (show 10 < 16 by decide)) (ex_one (x1_for (iv_enum (ds := (errL C1 C2 C3 C4 (.tup [.str "result", .int r1, .int 1]) (.tup [.int 1]) (.int 300))) (ev_name 10 rfl)) (err_loop h A ns m6 lo odd e0 (.tup [.str "result", .int r1, .int 1]) n0 (.tup [.int 1]) l0 (.int 300) (.tup [.str "result", .int r1, .int 1]) (.tup [.int 1]) (.int 300) f cdv s H E)))) rfl) .nil)
    refine ex_cons (x1_for (iv_list (ds := [errD C1 C2 C3 C4 e0 n0 l0, errD C1 C2 C3 C4 (.tup [.str "result", .int r1, .int 1]) (.tup [.int 1]) (.int 300)]) (ev_lstF (ds := [errD C1 C2 C3 C4 e0 n0 l0, errD C1 C2 C3 C4 (.tup [.str "result", .int r1, .int 1]) (.tup [.int 1]) (.int 300)]) (ea_cons (ev_name 8 rfl) (ea_cons (ev_name 9 rfl) ea_nil)))) lp) ?_
    refine ex_cons (x1_set 14 (hi := (show 14 < 16 by decide)) (ev_lstF (ds := [.lst [e0, .tup [.str "result", .int r1, .int 1]], .lst [n0, .tup [.int 1]], .lst [l0, .int 300]]) (ea_cons (ev_lstF (ds := [e0, .tup [.str "result", .int r1, .int 1]]) (ea_cons (ev_xfld (ev_ixL (ds := (errL C1 C2 C3 C4 e0 n0 l0)) (ev_name 8 rfl) ev_int rfl) A.i1.xf A.i1.no) (ea_cons (ev_xfld (ev_ixL (ds := (errL C1 C2 C3 C4 (.tup [.str "result", .int r1, .int 1]) (.tup [.int 1]) (.int 300))) (ev_name 9 rfl) ev_int rfl) A.i1.xf A.i1.no) ea_nil))) (ea_cons (ev_lstF (ds := [n0, .tup [.int 1]]) (ea_cons (ev_xfld (ev_ixL (ds := (errL C1 C2 C3 C4 e0 n0 l0)) (ev_name 8 rfl) ev_int rfl) A.i2.xf A.i2.no) (ea_cons (ev_xfld (ev_ixL (ds := (errL C1 C2 C3 C4 (.tup [.str "result", .int r1, .int 1]) (.tup [.int 1]) (.int 300))) (ev_name 9 rfl) ev_int rfl) A.i2.xf A.i2.no) ea_nil))) (ea_cons (ev_lstF (ds := [l0, .int 300]) (ea_cons (ev_xfld (ev_ixL (ds := (errL C1 C2 C3 C4 e0 n0 l0)) (ev_name 8 rfl) ev_int rfl) A.i3.xf A.i3.no) (ea_cons (ev_xfld (ev_ixL (ds := (errL C1 C2 C3 C4 (.tup [.str "result", .int r1, .int 1]) (.tup [.int 1]) (.int 300))) (ev_name 9 rfl) ev_int rfl) A.i3.xf A.i3.no) ea_nil))) ea_nil))))) ?_
    exact ex_one (x1_if (k := false) (tv_w (tw_orF ((tv_neStr (ev_repr rfl (d := (allD e0 (.tup [.str "result", .int r1, .int 1]) n0 (.tup [.int 1]) l0 (.int 300))) (ev_name 14 rfl) va.sh (Nat.le_trans vw (by decide)) un) (ev_name 7 rfl)).eq (b' := false) (by rw [decide_eq_true rfl]; rfl)) (tw_or1 ((tv_neStr (ev_repr rfl (ev_lstF (ds := [.lst [e0, .tup [.str "result", .int r1, .int 1]], .lst [n0, .tup [.int 1]], .lst [l0, .int 300]]) (ea_cons (ev_name 4 rfl) (ea_cons (ev_name 5 rfl) (ea_cons (ev_name 6 rfl) ea_nil)))) va.sh (Nat.le_trans vw (by decide)) un) (ev_name 7 rfl)).eq (b' := false) (by rw [decide_eq_true rfl]; rfl))))) (fun z => nomatch z) (fun _ => ex_nil))
theorem ok_law (h : Fe2 K mg) (A : Xs P w K mg base CP C1 C2 C3 C4) {f : Addr} {fd : FuncData} (F : Fun K "law" "law" sLaw f fd) (bind : ∀ (s : Shared) (u : Value), BindsTo s fd ⟨[u], []⟩ [("script", u)]) : TopOk P w K mg base f := by
  refine top_of F scLaw bind fun ns _ f cdv s H E => ?_
  have mra := h.mra
  obtain ⟨m0, hz0, hp0⟩ := ok_open (P := P) (w := w) (base := base) h.toFs1 ns
  obtain ⟨m', fr⟩ := turns (P := P) (w := w) (base := base) h A ns 4 0 (by omega) hp0
  have hn := scLaw.nd
  have hrr := top_room nLaw "law" (defScope sLaw) s f cdv
  apply Exists.intro
  show Ex _ (defBody sLaw) [vl (.scr ns), none, none, none, none, none, none, none, none, none, none, none, none, none, none, none] _
  refine ex_cons (x1_set 1 (ev_call (ds := [.scr ns]) hz0 (hrr.mono (by omega)) (ea_cons (ev_name 0 rfl) ea_nil))) ?_
  refine ex_cons (x1_for (iv_range1 ev_int) (fr f cdv s H E)) ?_
  exact ex_stop (x1_ret ev_bool)
end
abbrev sI1 : Stmt := inClass (topS 2) 0
abbrev sI2 : Stmt := inClass (topS 3) 0
abbrev sI3 : Stmt := inClass (topS 4) 0
theorem scI1 : FnScope ["self", "event"] ["self", "event"] (defScope sI1) := ⟨rfl, rfl, rfl, by decide +kernel, rfl, by decide +kernel, by decide +kernel⟩
theorem scI2 : FnScope ["self", "ending"] ["self", "ending"] (defScope sI2) := ⟨rfl, rfl, rfl, by decide +kernel, rfl, by decide +kernel, by decide +kernel⟩
theorem scI3 : FnScope ["self", "limit"] ["self", "limit"] (defScope sI3) := ⟨rfl, rfl, rfl, by decide +kernel, rfl, by decide +kernel, by decide +kernel⟩
theorem refs_ve (CP : Addr) : PySem.HandSPX.refsVE [.ref CP, .type "ValueError", .type "Exception", .type "BaseException", .type "object"] = true := by first | rfl | decide +kernel
section
variable {P : Program} {w : World} {K : PySem.W.Frag} {mg : Str → Option Value} {base : Heap} {C fI : Addr} {fd : FuncData}
theorem ini1 (F : Fun K "__init__" "InvalidEvent.__init__" sI1 fI fd) (T : OexC K C) (no : PySem.W.findIn K (.ref C) "event" = some none) : FnOk P w K mg base CX0 1 fI fd ["self", "event"] (FSI C "event") := init_ok F scI1 rfl rfl T no rfl (by decide) (by decide) (.inl rfl) (.inl rfl) (fun _ => rfl)
theorem ini2 (F : Fun K "__init__" "Refused.__init__" sI2 fI fd) (T : OexC K C) (no : PySem.W.findIn K (.ref C) "ending" = some none) : FnOk P w K mg base CX0 1 fI fd ["self", "ending"] (FSI C "ending") := init_ok F scI2 rfl rfl T no rfl (by decide) (by decide) (.inl rfl) (.inl rfl) (fun _ => rfl)
theorem ini3 (F : Fun K "__init__" "TooMany.__init__" sI3 fI fd) (T : OexC K C) (no : PySem.W.findIn K (.ref C) "limit" = some none) : FnOk P w K mg base CX0 1 fI fd ["self", "limit"] (FSI C "limit") := init_ok F scI3 rfl rfl T no rfl (by decide) (by decide) (.inl rfl) (.inl rfl) (fun _ => rfl)
end
theorem all_mk {l : PySem.W.OpenLaw} {w : World} {K : PySem.W.Frag} {h : Heap} {mg : Str → Option Value} {fa f0 f1 f2 f3 f4 f5 : Addr} (X : K.In h) (G : h.Ns mainGlobals mg) (hfa : mg "law" = some (.ref fa))
    {od0 an0 od1 an1 od2 an2 od3 an3 od4 an4 od5 an5 : Option Addr} {sl0 sl1 sl2 sl3 sl4 sl5 : Array (Option Value)} {oc0 kV0 dc0 pm0 cd0 ct0 oc1 kV1 dc1 pm1 cd1 ct1 oc2 kV2 dc2 pm2 cd2 ct2 oc3 kV3 dc3 pm3 cd3 ct3 oc4 kV4 dc4 pm4 cd4 ct4 oc5 kV5 dc5 pm5 cd5 ct5 : Value}
    (a0 : PySem.W.nsIn K mainGlobals "_law_spread" = some (some (.ref f0))) (l0 : K.lookup f0 = some ⟨oc0, od0, .func (PySem.W.fnOf "_law_spread" "_law_spread" (defArgs sSpread) (defBody sSpread) (defScope sSpread) .none kV0 dc0 pm0 an0 cd0 ct0), sl0⟩) (c0 : PySem.W.codeIn K cd0 "_law_spread" = true) (k0 : PySem.W.keepIn K (.ref f0) = true)
    (a1 : PySem.W.nsIn K mainGlobals "_law_take" = some (some (.ref f1))) (l1 : K.lookup f1 = some ⟨oc1, od1, .func (PySem.W.fnOf "_law_take" "_law_take" (defArgs sTake) (defBody sTake) (defScope sTake) .none kV1 dc1 pm1 an1 cd1 ct1), sl1⟩) (c1 : PySem.W.codeIn K cd1 "_law_take" = true) (k1 : PySem.W.keepIn K (.ref f1) = true)
    (a2 : PySem.W.nsIn K mainGlobals "_law_one_of" = some (some (.ref f2))) (l2 : K.lookup f2 = some ⟨oc2, od2, .func (PySem.W.fnOf "_law_one_of" "_law_one_of" (defArgs sOneOf) (defBody sOneOf) (defScope sOneOf) .none kV2 dc2 pm2 an2 cd2 ct2), sl2⟩) (c2 : PySem.W.codeIn K cd2 "_law_one_of" = true) (k2 : PySem.W.keepIn K (.ref f2) = true)
    (a3 : PySem.W.nsIn K mainGlobals "_law_open" = some (some (.ref f3))) (l3 : K.lookup f3 = some ⟨oc3, od3, .func (PySem.W.fnOf "_law_open" "_law_open" (defArgs sOpen) (defBody sOpen) (defScope sOpen) .none kV3 dc3 pm3 an3 cd3 ct3), sl3⟩) (c3 : PySem.W.codeIn K cd3 "_law_open" = true) (k3 : PySem.W.keepIn K (.ref f3) = true)
    (a4 : PySem.W.nsIn K mainGlobals "_law_odd" = some (some (.ref f4))) (l4 : K.lookup f4 = some ⟨oc4, od4, .func (PySem.W.fnOf "_law_odd" "_law_odd" (defArgs sOdd) (defBody sOdd) (defScope sOdd) .none kV4 dc4 pm4 an4 cd4 ct4), sl4⟩) (c4 : PySem.W.codeIn K cd4 "_law_odd" = true) (k4 : PySem.W.keepIn K (.ref f4) = true)
    (a5 : PySem.W.nsIn K mainGlobals "law" = some (some (.ref f5))) (l5 : K.lookup f5 = some ⟨oc5, od5, .func (PySem.W.fnOf "law" "law" (defArgs sLaw) (defBody sLaw) (defScope sLaw) .none kV5 dc5 pm5 an5 cd5 ct5), sl5⟩) (c5 : PySem.W.codeIn K cd5 "law" = true) (k5 : PySem.W.keepIn K (.ref f5) = true)
    (z_int : PySem.W.nsIn K mainGlobals "int" = some none)
    (z_len : PySem.W.nsIn K mainGlobals "len" = some none)
    (z_list : PySem.W.nsIn K mainGlobals "list" = some none)
    (z_enumerate : PySem.W.nsIn K mainGlobals "enumerate" = some none)
    (z_repr : PySem.W.nsIn K mainGlobals "repr" = some none)
    (z_isinstance : PySem.W.nsIn K mainGlobals "isinstance" = some none)
    (z_ValueError : PySem.W.nsIn K mainGlobals "ValueError" = some none)
    (z_range : PySem.W.nsIn K mainGlobals "range" = some none)
    {CP C1 C2 C3 C4 g1 g2 g3 : Addr}
    (aP : PySem.W.nsIn K mainGlobals "PoolhopesError" = some (some (.ref CP)))
    {nm1 q1 : Str} {N1 : Addr} {bs1 : List Value} {sn1 : List Str} {sub1 : List Value} {ab1 : Bool} {col1 : Option Bool} {dd1 : Option Addr} {m01 m11 m21 m31 m51 : Option Value} {iod1 ian1 : Option Addr} {isl1 : Array (Option Value)} {ioc1 ikV1 idc1 ipm1 icd1 ict1 : Value}
    (aC1 : PySem.W.nsIn K mainGlobals "InvalidEvent" = some (some (.ref C1)))
    (xL1 : K.lookup C1 = some (excClassObj nm1 q1 C1 N1 bs1 [.ref CP, .type "ValueError", .type "Exception", .type "BaseException", .type "object"] true sn1 sub1 ab1 col1 dd1 m01 m11 m21 m31 m51 "ValueError.__new__"))
    (sa1 : PySem.W.findIn K (.ref C1) "__setattr__" = some (some (.builtin "object.__setattr__"))) (no1 : PySem.W.findIn K (.ref C1) "event" = some none)
    (in1 : PySem.W.findIn K (.ref C1) "__init__" = some (some (.ref g1))) (ti1 : PySem.W.typeIn K (.ref g1) = some (.type "function"))
    (il1 : K.lookup g1 = some ⟨ioc1, iod1, .func (PySem.W.fnOf "__init__" "InvalidEvent.__init__" (defArgs sI1) (defBody sI1) (defScope sI1) .none ikV1 idc1 ipm1 ian1 icd1 ict1), isl1⟩) (ic1 : PySem.W.codeIn K icd1 "InvalidEvent.__init__" = true) (ik1 : PySem.W.keepIn K (.ref g1) = true)
    {nm2 q2 : Str} {N2 : Addr} {bs2 : List Value} {sn2 : List Str} {sub2 : List Value} {ab2 : Bool} {col2 : Option Bool} {dd2 : Option Addr} {m02 m12 m22 m32 m52 : Option Value} {iod2 ian2 : Option Addr} {isl2 : Array (Option Value)} {ioc2 ikV2 idc2 ipm2 icd2 ict2 : Value}
    (aC2 : PySem.W.nsIn K mainGlobals "Refused" = some (some (.ref C2)))
    (xL2 : K.lookup C2 = some (excClassObj nm2 q2 C2 N2 bs2 [.ref CP, .type "ValueError", .type "Exception", .type "BaseException", .type "object"] true sn2 sub2 ab2 col2 dd2 m02 m12 m22 m32 m52 "ValueError.__new__"))
    (sa2 : PySem.W.findIn K (.ref C2) "__setattr__" = some (some (.builtin "object.__setattr__"))) (no2 : PySem.W.findIn K (.ref C2) "ending" = some none)
    (in2 : PySem.W.findIn K (.ref C2) "__init__" = some (some (.ref g2))) (ti2 : PySem.W.typeIn K (.ref g2) = some (.type "function"))
    (il2 : K.lookup g2 = some ⟨ioc2, iod2, .func (PySem.W.fnOf "__init__" "Refused.__init__" (defArgs sI2) (defBody sI2) (defScope sI2) .none ikV2 idc2 ipm2 ian2 icd2 ict2), isl2⟩) (ic2 : PySem.W.codeIn K icd2 "Refused.__init__" = true) (ik2 : PySem.W.keepIn K (.ref g2) = true)
    {nm3 q3 : Str} {N3 : Addr} {bs3 : List Value} {sn3 : List Str} {sub3 : List Value} {ab3 : Bool} {col3 : Option Bool} {dd3 : Option Addr} {m03 m13 m23 m33 m53 : Option Value} {iod3 ian3 : Option Addr} {isl3 : Array (Option Value)} {ioc3 ikV3 idc3 ipm3 icd3 ict3 : Value}
    (aC3 : PySem.W.nsIn K mainGlobals "TooMany" = some (some (.ref C3)))
    (xL3 : K.lookup C3 = some (excClassObj nm3 q3 C3 N3 bs3 [.ref CP, .type "ValueError", .type "Exception", .type "BaseException", .type "object"] true sn3 sub3 ab3 col3 dd3 m03 m13 m23 m33 m53 "ValueError.__new__"))
    (sa3 : PySem.W.findIn K (.ref C3) "__setattr__" = some (some (.builtin "object.__setattr__"))) (no3 : PySem.W.findIn K (.ref C3) "limit" = some none)
    (in3 : PySem.W.findIn K (.ref C3) "__init__" = some (some (.ref g3))) (ti3 : PySem.W.typeIn K (.ref g3) = some (.type "function"))
    (il3 : K.lookup g3 = some ⟨ioc3, iod3, .func (PySem.W.fnOf "__init__" "TooMany.__init__" (defArgs sI3) (defBody sI3) (defScope sI3) .none ikV3 idc3 ipm3 ian3 icd3 ict3), isl3⟩) (ic3 : PySem.W.codeIn K icd3 "TooMany.__init__" = true) (ik3 : PySem.W.keepIn K (.ref g3) = true)
    (aC4 : PySem.W.nsIn K mainGlobals "InvalidText" = some (some (.ref C4)))
    (xF4 : PySem.W.excIn K C4 [.type "ValueError", .type "Exception", .type "BaseException", .type "object"] "ValueError.__new__" = true)
    (kC1 : PySem.W.keepIn K (.ref C1) = true) (eC1 : PySem.W.subIn K (.ref C1) (.type "BaseException") = some true) (tC1 : PySem.W.typeIn K (.ref C1) = some (.type "type")) (hC1 : PySem.W.hasDictIn K C1 = true)
    (ga1 : PySem.W.findIn K (.ref C1) "__getattribute__" = some (some (.builtin "BaseException.__getattribute__"))) (gg1 : PySem.W.findIn K (.ref C1) "__getattr__" = some none) (hc1 : PySem.W.findIn K (.ref C1) "__class__" = some (some (.builtin "object.__class__"))) (mo1 : PySem.W.mroIn K C1 (.type "object") = some true)
    (kC2 : PySem.W.keepIn K (.ref C2) = true) (eC2 : PySem.W.subIn K (.ref C2) (.type "BaseException") = some true) (tC2 : PySem.W.typeIn K (.ref C2) = some (.type "type")) (hC2 : PySem.W.hasDictIn K C2 = true)
    (ga2 : PySem.W.findIn K (.ref C2) "__getattribute__" = some (some (.builtin "BaseException.__getattribute__"))) (gg2 : PySem.W.findIn K (.ref C2) "__getattr__" = some none) (hc2 : PySem.W.findIn K (.ref C2) "__class__" = some (some (.builtin "object.__class__"))) (mo2 : PySem.W.mroIn K C2 (.type "object") = some true)
    (kC3 : PySem.W.keepIn K (.ref C3) = true) (eC3 : PySem.W.subIn K (.ref C3) (.type "BaseException") = some true) (tC3 : PySem.W.typeIn K (.ref C3) = some (.type "type")) (hC3 : PySem.W.hasDictIn K C3 = true)
    (ga3 : PySem.W.findIn K (.ref C3) "__getattribute__" = some (some (.builtin "BaseException.__getattribute__"))) (gg3 : PySem.W.findIn K (.ref C3) "__getattr__" = some none) (hc3 : PySem.W.findIn K (.ref C3) "__class__" = some (some (.builtin "object.__class__"))) (mo3 : PySem.W.mroIn K C3 (.type "object") = some true)
    (kC4 : PySem.W.keepIn K (.ref C4) = true) (eC4 : PySem.W.subIn K (.ref C4) (.type "BaseException") = some true) (tC4 : PySem.W.typeIn K (.ref C4) = some (.type "type")) (hC4 : PySem.W.hasDictIn K C4 = true)
    (ga4 : PySem.W.findIn K (.ref C4) "__getattribute__" = some (some (.builtin "BaseException.__getattribute__"))) (gg4 : PySem.W.findIn K (.ref C4) "__getattr__" = some none) (hc4 : PySem.W.findIn K (.ref C4) "__class__" = some (some (.builtin "object.__class__"))) (mo4 : PySem.W.mroIn K C4 (.type "object") = some true)
    (gs : PySem.W.specialIn K (.builtin "object.__class__") "__get__" = some (some (.builtin "getset_descriptor.__get__"))) (tk : PySem.W.takesIn K (.builtin "object.__class__") = some true)
    (p1 : PySem.W.kitOne K (.ref C1) (.ref CP) = some true) (v1 : PySem.W.kitOne K (.ref C1) (.type "ValueError") = some true)
    (j11 : PySem.W.kitOne K (.ref C1) (.ref C1) = some true)
    (j12 : PySem.W.kitOne K (.ref C1) (.ref C2) = some false)
    (j13 : PySem.W.kitOne K (.ref C1) (.ref C3) = some false)
    (j14 : PySem.W.kitOne K (.ref C1) (.ref C4) = some false)
    (p2 : PySem.W.kitOne K (.ref C2) (.ref CP) = some true) (v2 : PySem.W.kitOne K (.ref C2) (.type "ValueError") = some true)
    (j21 : PySem.W.kitOne K (.ref C2) (.ref C1) = some false)
    (j22 : PySem.W.kitOne K (.ref C2) (.ref C2) = some true)
    (j23 : PySem.W.kitOne K (.ref C2) (.ref C3) = some false)
    (j24 : PySem.W.kitOne K (.ref C2) (.ref C4) = some false)
    (p3 : PySem.W.kitOne K (.ref C3) (.ref CP) = some true) (v3 : PySem.W.kitOne K (.ref C3) (.type "ValueError") = some true)
    (j31 : PySem.W.kitOne K (.ref C3) (.ref C1) = some false)
    (j32 : PySem.W.kitOne K (.ref C3) (.ref C2) = some false)
    (j33 : PySem.W.kitOne K (.ref C3) (.ref C3) = some true)
    (j34 : PySem.W.kitOne K (.ref C3) (.ref C4) = some false)
    (p4 : PySem.W.kitOne K (.ref C4) (.ref CP) = some true) (v4 : PySem.W.kitOne K (.ref C4) (.type "ValueError") = some true)
    (j41 : PySem.W.kitOne K (.ref C4) (.ref C1) = some false)
    (j42 : PySem.W.kitOne K (.ref C4) (.ref C2) = some false)
    (j43 : PySem.W.kitOne K (.ref C4) (.ref C3) = some false)
    (j44 : PySem.W.kitOne K (.ref C4) (.ref C4) = some true)
    : ∀ base : Heap, K.In base → base.Ns mainGlobals mg → TopOk l.prog w K mg base fa := by
  have e := hfa.symm.trans (PySem.W.mg_of X G a5)
  cases e
  have A : Fe2 K mg :=
    { mi := PySem.W.mg_none_of X G z_int,
      ml := PySem.W.mg_none_of X G z_len,
      mli := PySem.W.mg_none_of X G z_list,
      men := PySem.W.mg_none_of X G z_enumerate,
      mre := PySem.W.mg_none_of X G z_repr,
      mis := PySem.W.mg_none_of X G z_isinstance,
      mve := PySem.W.mg_none_of X G z_ValueError,
      mra := PySem.W.mg_none_of X G z_range,
      fSpread := Df.mk l0 c0 k0 (fun _ _ _ _ _ _ us hl => match us, hl with | [_, _], _ => rfl) (PySem.W.mg_of X G a0),
      fTake := Df.mk l1 c1 k1 (fun _ _ _ _ _ _ us hl => match us, hl with | [_, _], _ => rfl) (PySem.W.mg_of X G a1),
      fOneOf := Df.mk l2 c2 k2 (fun _ _ _ _ _ _ us hl => match us, hl with | [_, _], _ => rfl) (PySem.W.mg_of X G a2),
      fOpen := Df.mk l3 c3 k3 (fun _ _ _ _ _ _ us hl => match us, hl with | [_], _ => rfl) (PySem.W.mg_of X G a3),
      fOdd := Df.mk l4 c4 k4 (fun _ _ _ _ _ _ us hl => match us, hl with | [_], _ => rfl) (PySem.W.mg_of X G a4) }
  have T1 : OexC K C1 := ⟨⟨nm1, q1, N1, bs1, _, sn1, sub1, ab1, col1, dd1, m01, m11, m21, m31, m51, xL1, refs_ve CP⟩, sa1, eC1, tC1, kC1⟩
  have F1 := fun_mk (st := sI1) il1 ic1 ik1
  have b1 := F1.binds (ps := ["self", "event"]) fun _ _ _ _ _ _ us hl => match us, hl with | [_, _], _ => rfl
  have T2 : OexC K C2 := ⟨⟨nm2, q2, N2, bs2, _, sn2, sub2, ab2, col2, dd2, m02, m12, m22, m32, m52, xL2, refs_ve CP⟩, sa2, eC2, tC2, kC2⟩
  have F2 := fun_mk (st := sI2) il2 ic2 ik2
  have b2 := F2.binds (ps := ["self", "ending"]) fun _ _ _ _ _ _ us hl => match us, hl with | [_, _], _ => rfl
  have T3 : OexC K C3 := ⟨⟨nm3, q3, N3, bs3, _, sn3, sub3, ab3, col3, dd3, m03, m13, m23, m33, m53, xL3, refs_ve CP⟩, sa3, eC3, tC3, kC3⟩
  have F3 := fun_mk (st := sI3) il3 ic3 ik3
  have b3 := F3.binds (ps := ["self", "limit"]) fun _ _ _ _ _ _ us hl => match us, hl with | [_, _], _ => rfl
  have B : ∀ base : Heap, Xs l.prog w K mg base CP C1 C2 C3 C4 := fun base =>
    { i1 := ⟨PySem.W.mg_of X G aC1, T1, ⟨g1, _, _, in1, ti1, ini1 F1 T1 no1, b1⟩, no1, ⟨ga1, gg1, eC1, hC1⟩⟩,
      i2 := ⟨PySem.W.mg_of X G aC2, T2, ⟨g2, _, _, in2, ti2, ini2 F2 T2 no2, b2⟩, no2, ⟨ga2, gg2, eC2, hC2⟩⟩,
      i3 := ⟨PySem.W.mg_of X G aC3, T3, ⟨g3, _, _, in3, ti3, ini3 F3 T3 no3, b3⟩, no3, ⟨ga3, gg3, eC3, hC3⟩⟩,
      z4 := ⟨PySem.W.mg_of X G aC4, xF4, kC4⟩,
      gp := PySem.W.mg_of X G aP,
      x1 := ⟨ga1, gg1, eC1, hC1, hc1, gs, tk, mo1⟩,
      x2 := ⟨ga2, gg2, eC2, hC2, hc2, gs, tk, mo2⟩,
      x3 := ⟨ga3, gg3, eC3, hC3, hc3, gs, tk, mo3⟩,
      x4 := ⟨ga4, gg4, eC4, hC4, hc4, gs, tk, mo4⟩,
      p1 := p1,
      v1 := v1,
      k11 := j11,
      k12 := j12,
      k13 := j13,
      k14 := j14,
      p2 := p2,
      v2 := v2,
      k21 := j21,
      k22 := j22,
      k23 := j23,
      k24 := j24,
      p3 := p3,
      v3 := v3,
      k31 := j31,
      k32 := j32,
      k33 := j33,
      k34 := j34,
      p4 := p4,
      v4 := v4,
      k41 := j41,
      k42 := j42,
      k43 := j43,
      k44 := j44 }
  exact fun base _ _ => ok_law A (B base) (fun_mk (st := sLaw) l5 c5 k5) (fun s v => .of_eq rfl)
end K03
open PySem PySem.W PyProof.Rows
set_option maxRecDepth 100000 in
set_option maxHeartbeats 0 in
theorem PySem.Challenge.cw_poolhopes_k03_errors_by_hand_holds : PySem.Challenge.rw_poolhopes_k03_errors_by_hand.Holds := by
  w_on; o_law; k_head; (case hw => w_witness2)
  k_fill
  refine Lin.walk_top (l := PySem.Challenge.rw_poolhopes_k03_errors_by_hand) rfl rfl (fun w h Y => PySem.W.kIn_of Y) ?F
  case F =>
    intro w mg fa h KX G hmg
    refine' K03.all_mk KX G hmg ?a0 ?l0 ?c0 ?k0 ?a1 ?l1 ?c1 ?k1 ?a2 ?l2 ?c2 ?k2 ?a3 ?l3 ?c3 ?k3 ?a4 ?l4 ?c4 ?k4 ?a5 ?l5 ?c5 ?k5 ?z_int ?z_len ?z_list ?z_enumerate ?z_repr ?z_isinstance ?z_ValueError ?z_range ?aP ?aC1 ?xL1 ?sa1 ?no1 ?in1 ?ti1 ?il1 ?ic1 ?ik1 ?aC2 ?xL2 ?sa2 ?no2 ?in2 ?ti2 ?il2 ?ic2 ?ik2 ?aC3 ?xL3 ?sa3 ?no3 ?in3 ?ti3 ?il3 ?ic3 ?ik3 ?aC4 ?xF4 ?kC1 ?eC1 ?tC1 ?hC1 ?ga1 ?gg1 ?hc1 ?mo1 ?kC2 ?eC2 ?tC2 ?hC2 ?ga2 ?gg2 ?hc2 ?mo2 ?kC3 ?eC3 ?tC3 ?hC3 ?ga3 ?gg3 ?hc3 ?mo3 ?kC4 ?eC4 ?tC4 ?hC4 ?ga4 ?gg4 ?hc4 ?mo4 ?gs ?tk ?p1 ?v1 ?j11 ?j12 ?j13 ?j14 ?p2 ?v2 ?j21 ?j22 ?j23 ?j24 ?p3 ?v3 ?j31 ?j32 ?j33 ?j34 ?p4 ?v4 ?j41 ?j42 ?j43 ?j44
    (case a0 => k_is)
    (case l0 => k_is)
    (case c0 => k_is)
    (case k0 => k_is)
    (case a1 => k_is)
    (case l1 => k_is)
    (case c1 => k_is)
    (case k1 => k_is)
    (case a2 => k_is)
    (case l2 => k_is)
    (case c2 => k_is)
    (case k2 => k_is)
    (case a3 => k_is)
    (case l3 => k_is)
    (case c3 => k_is)
    (case k3 => k_is)
    (case a4 => k_is)
    (case l4 => k_is)
    (case c4 => k_is)
    (case k4 => k_is)
    (case a5 => k_is)
    (case l5 => k_is)
    (case c5 => k_is)
    (case k5 => k_is)
    (case z_int => k_is)
    (case z_len => k_is)
    (case z_list => k_is)
    (case z_enumerate => k_is)
    (case z_repr => k_is)
    (case z_isinstance => k_is)
    (case z_ValueError => k_is)
    (case z_range => k_is)
    (case aP => k_is)
    (case aC1 => k_is)
    (case xL1 => k_is)
    (case sa1 => k_is)
    (case no1 => k_is)
    (case in1 => k_is)
    (case ti1 => k_is)
    (case il1 => k_is)
    (case ic1 => k_is)
    (case ik1 => k_is)
    (case aC2 => k_is)
    (case xL2 => k_is)
    (case sa2 => k_is)
    (case no2 => k_is)
    (case in2 => k_is)
    (case ti2 => k_is)
    (case il2 => k_is)
    (case ic2 => k_is)
    (case ik2 => k_is)
    (case aC3 => k_is)
    (case xL3 => k_is)
    (case sa3 => k_is)
    (case no3 => k_is)
    (case in3 => k_is)
    (case ti3 => k_is)
    (case il3 => k_is)
    (case ic3 => k_is)
    (case ik3 => k_is)
    (case aC4 => k_is)
    (case xF4 => first | k_exc | k_is)
    (case kC1 => k_is)
    (case eC1 => k_is)
    (case tC1 => k_is)
    (case hC1 => k_is)
    (case ga1 => k_is)
    (case gg1 => k_is)
    (case hc1 => k_is)
    (case mo1 => k_is)
    (case kC2 => k_is)
    (case eC2 => k_is)
    (case tC2 => k_is)
    (case hC2 => k_is)
    (case ga2 => k_is)
    (case gg2 => k_is)
    (case hc2 => k_is)
    (case mo2 => k_is)
    (case kC3 => k_is)
    (case eC3 => k_is)
    (case tC3 => k_is)
    (case hC3 => k_is)
    (case ga3 => k_is)
    (case gg3 => k_is)
    (case hc3 => k_is)
    (case mo3 => k_is)
    (case kC4 => k_is)
    (case eC4 => k_is)
    (case tC4 => k_is)
    (case hC4 => k_is)
    (case ga4 => k_is)
    (case gg4 => k_is)
    (case hc4 => k_is)
    (case mo4 => k_is)
    (case gs => k_is)
    (case tk => k_is)
    (case p1 => first | k_is | rfl)
    (case v1 => first | k_is | rfl)
    (case j11 => first | k_is | rfl)
    (case j12 => first | k_is | rfl)
    (case j13 => first | k_is | rfl)
    (case j14 => first | k_is | rfl)
    (case p2 => first | k_is | rfl)
    (case v2 => first | k_is | rfl)
    (case j21 => first | k_is | rfl)
    (case j22 => first | k_is | rfl)
    (case j23 => first | k_is | rfl)
    (case j24 => first | k_is | rfl)
    (case p3 => first | k_is | rfl)
    (case v3 => first | k_is | rfl)
    (case j31 => first | k_is | rfl)
    (case j32 => first | k_is | rfl)
    (case j33 => first | k_is | rfl)
    (case j34 => first | k_is | rfl)
    (case p4 => first | k_is | rfl)
    (case v4 => first | k_is | rfl)
    (case j41 => first | k_is | rfl)
    (case j42 => first | k_is | rfl)
    (case j43 => first | k_is | rfl)
    (case j44 => first | k_is | rfl)

