import PyProof.Rows.All
import Wide.All
import OpenK.AllK
import Wide.FinOn
import HandS.ForMost
import HandS.Walk
import HandS.Zip
import HandS.AnyAll
import HandS.Lambda
import PyProof.ReprRoads
import HandS.TupMul
import HandS.TupAny
import HandS.Deep
import HandS.TupLe
import HandS.IsInst
import KE.GoesEnum
import HandS.GenOver
import HandS.Defaults
import KE.DataAny
import HandS.SortKw
import HandS.Style
import HandS.EndTab
import HandS.Head0
import HandS.Head1
import HandS.Head2
import HandS.HeadEnd
import HandS.HeadHook1
import HandS.HeadHook2
import HandS.HeadHook3
import HandS.HeadHook4
import HandS.HeadWalk
import HandS.Conv
import HandS.Dict
import KE.KRevSl
import HandS.RaiseMore
import KE.SortKeyHeap
import HandS.SortOrd
import KE.DataMinMax
import HandS.Text
import KE.KDictCopyH
import PySem.Challenge.RW_roundstairs_k01_whole_words_and_words_wi
set_option Elab.async false
set_option linter.all false
set_option maxRecDepth 100000
namespace DD
open PySem PySem.Spec PyProof.Rows

/-! ## repr of data with dicts in it: no dict of it is the table of modules -/
mutual
inductive RdD (g : Heap) : Value → PyData → Prop
  | non : RdD g .none .none
  | boo (b : Bool) : RdD g (.bool b) (.bool b)
  | num (i : Int) (t : Tok) : RdD g (.int i t) (.int i)
  | txt (x : Str) (t : Tok) : RdD g (.str x t) (.str x)
  | lst {a : Addr} {ob : Obj} {us : Array Value} {n : Nat} {ds : List PyData} (e : g.get? a = some ob) (c : ob.cls = .type "list") (z : ob.data = .seq us n) (r : RdA g us.toList ds) : RdD g (.ref a) (.list ds)
  | tup {a : Addr} {ob : Obj} {us : Array Value} {n : Nat} {ds : List PyData} (e : g.get? a = some ob) (c : ob.cls = .type "tuple") (z : ob.data = .seq us n) (r : RdA g us.toList ds) : RdD g (.ref a) (.tuple ds)
  | dic {a : Addr} {ob : Obj} {en : Array DictEntry} {n : Nat} {kv : List (PyData × PyData)} (e : g.get? a = some ob) (c : ob.cls = .type "dict") (z : ob.data = .dict en n) (y : (a == sysModules) = false)
      (r : RdA g (en.toList.map fun q => q.key) (kv.map fun q => q.1)) (r2 : RdA g (en.toList.map fun q => q.val) (kv.map fun q => q.2)) : RdD g (.ref a) (.dict kv)
inductive RdA (g : Heap) : List Value → List PyData → Prop
  | nil : RdA g [] []
  | cons {u : Value} {us : List Value} {d : PyData} {ds : List PyData} (h : RdD g u d) (t : RdA g us ds) : RdA g (u :: us) (d :: ds)
end
section
variable {P : Program} {w : World} {g : Heap}
mutual
theorem RdD.reads : ∀ {u : Value} {d : PyData}, RdD g u d → ∃ as, Reads g u d as
  | _, _, .non => ⟨_, .none⟩
  | _, _, .boo b => ⟨_, .bool b⟩
  | _, _, .num i t => ⟨_, .int i t⟩
  | _, _, .txt x t => ⟨_, .str x t⟩
  | _, _, .lst e c z r => let ⟨_, q⟩ := r.reads; ⟨_, .list e c z q⟩
  | _, _, .tup e c z r => let ⟨_, q⟩ := r.reads; ⟨_, .tuple e c z q⟩
  | _, _, .dic e c z _ r r2 => let ⟨_, q⟩ := r.reads; let ⟨_, q2⟩ := r2.reads; ⟨_, .dict e c z q q2⟩
theorem RdA.reads : ∀ {us : List Value} {ds : List PyData}, RdA g us ds → ∃ as, ReadsAll g us ds as
  | _, _, .nil => ⟨_, .nil⟩
  | _, _, .cons h t => let ⟨_, q⟩ := h.reads; let ⟨_, q2⟩ := t.reads; ⟨_, .cons q q2⟩
end
mutual
theorem RdD.repK : ∀ {u : Value} {d : PyData}, RdD g u d → d.showable = true → d.shown.length ≤ sizeLine → ∃ bs, ReadAtMost g d.depth bs ∧ ReprK P w bs g d.depth u d.shown
  | _, _, .non, _, _ => ⟨[], nofun, by simp only [PyData.shown]; exact .of_is ReprIs.none _ _ _⟩
  | _, _, .boo b, _, _ => ⟨[], nofun, by simp only [PyData.shown]; exact .of_is (ReprIs.bool b) _ _ _⟩
  | _, _, .num i t, sh, _ => ⟨[], nofun, by simp only [PyData.shown]; exact .of_is (ReprIs.int t (by simpa [PyData.showable] using sh)) _ _ _⟩
  | _, _, .txt x t, _, sz => ⟨[], nofun, by simp only [PyData.shown]; exact .of_is (ReprIs.str x t (by simpa only [PyData.shown] using sz)) _ _ _⟩
  | _, _, .lst (a := a) (us := us) (ds := ds) e c z r, sh, sz => by
    have sz2 : (listText (PyData.shownAll ds)).length ≤ sizeLine := by simp only [PyData.shown] at sz; exact sz
    have sh2 : PyData.showableAll ds = true := by simpa [PyData.showable] using sh
    obtain ⟨bs, b1, b2⟩ := RdA.repK r sh2 fun t m => Nat.le_trans (listText_mem_le m) sz2
    obtain ⟨as, q⟩ := r.reads
    have rd : Reads g (.ref a) (.list ds) (a :: as) := .list e c z q
    have out : a ∉ bs := not_mem_of_deeper rd (Nat.lt_of_lt_of_le (Nat.lt_succ_self _) (by simp only [PyData.depth]; omega)) b1
    refine ⟨a :: bs, ReadAtMost.cons rd (by simp only [PyData.depth]; omega) b1, ?_⟩
    simp only [PyData.depth, PyData.shown]
    obtain ⟨l⟩ := us
    cases l with
    | nil =>
      have r2 : RdA g [] ds := r
      cases r2
      rw [PyData.shownAll, listText_nil]
      exact .listEmpty e c z
    | cons x l => exact .list e c z out (by simpa using b2.length_eq) fun i y h => b2.item i y (by simpa using h)
  | _, _, .tup (a := a) (ds := ds) e c z r, sh, sz => by
    have sz2 : (tupleText (PyData.shownAll ds)).length ≤ sizeLine := by simp only [PyData.shown] at sz; exact sz
    have sh2 : PyData.showableAll ds = true := by simpa [PyData.showable] using sh
    obtain ⟨bs, b1, b2⟩ := RdA.repK r sh2 fun t m => Nat.le_trans (tupleText_mem_le m) sz2
    obtain ⟨as, q⟩ := r.reads
    have rd : Reads g (.ref a) (.tuple ds) as := .tuple e c z q
    have out : a ∉ bs := not_mem_of_deeper rd (Nat.lt_of_lt_of_le (Nat.lt_succ_self _) (by simp only [PyData.depth]; omega)) b1
    refine ⟨a :: bs, ReadAtMost.cons rd (by simp only [PyData.depth]; omega) b1, ?_⟩
    simp only [PyData.depth, PyData.shown]
    exact .tuple e c z out b2
  | _, _, .dic (a := a) (en := en) (kv := kv) e c z y r r2, sh, sz => by
    have sz2 : (dictText (PyData.shownKv kv)).length ≤ sizeLine := by simp only [PyData.shown] at sz; exact sz
    obtain ⟨s1, s2⟩ := PyData.showableKv_split kv (by simpa [PyData.showable] using sh)
    obtain ⟨c1, d1, e1⟩ := RdA.repK r s1 fun t m => by
      obtain ⟨p, m2, l2⟩ := PyData.shownKv_key_le kv t m
      exact Nat.le_trans (Nat.le_trans l2 (dictText_mem_le m2)) sz2
    obtain ⟨c2, d2, e2⟩ := RdA.repK r2 s2 fun t m => by
      obtain ⟨p, m2, l2⟩ := PyData.shownKv_val_le kv t m
      exact Nat.le_trans (Nat.le_trans l2 (dictText_mem_le m2)) sz2
    obtain ⟨as, q⟩ := r.reads
    obtain ⟨as2, q2⟩ := r2.reads
    have rd : Reads g (.ref a) (.dict kv) _ := .dict e c z q q2
    have ra : ReadAtMost g (PyData.depthKv kv) (c1 ++ c2) := .append (d1.mono (PyData.depthAll_keys_le kv)) (d2.mono (PyData.depthAll_vals_le kv))
    have out : a ∉ c1 ++ c2 := not_mem_of_deeper rd (Nat.lt_of_lt_of_le (Nat.lt_succ_self _) (by simp only [PyData.depth]; omega)) ra
    refine ⟨a :: (c1 ++ c2), ReadAtMost.cons rd (by simp only [PyData.depth]; omega) ra, ?_⟩
    simp only [PyData.depth, PyData.shown, PyData.shownKv_eq]
    have f1 := e1.more_le (as' := c1 ++ c2) (fun b m => List.mem_append.mpr (.inl m)) (PyData.depthAll_keys_le kv)
    have f2 := e2.more_le (as' := c1 ++ c2) (fun b m => List.mem_append.mpr (.inr m)) (PyData.depthAll_vals_le kv)
    exact .dict e c z y out (.of_two en.toList _ _ f1 f2)
theorem RdA.repK : ∀ {us : List Value} {ds : List PyData}, RdA g us ds → PyData.showableAll ds = true → (∀ t ∈ PyData.shownAll ds, t.length ≤ sizeLine) → ∃ bs, ReadAtMost g (PyData.depthAll ds) bs ∧ ReprAllK P w bs g (PyData.depthAll ds) us (PyData.shownAll ds)
  | _, _, .nil, _, _ => ⟨[], nofun, by simp only [PyData.shownAll]; exact .nil⟩
  | _, _, .cons (d := d) (ds := ds) h t, sh, sz => by
    have sh2 : d.showable = true ∧ PyData.showableAll ds = true := by simpa [PyData.showableAll] using sh
    simp only [PyData.shownAll, List.forall_mem_cons] at sz
    obtain ⟨c1, d1, e1⟩ := RdD.repK h sh2.1 sz.1
    obtain ⟨c2, d2, e2⟩ := RdA.repK t sh2.2 sz.2
    simp only [PyData.depthAll, PyData.shownAll]
    refine ⟨c1 ++ c2, .append (d1.mono (Nat.le_max_left ..)) (d2.mono (Nat.le_max_right ..)), ?_⟩
    exact .cons ((e1.more fun b m => List.mem_append.mpr (.inl m)).level_le (Nat.le_max_left ..)) (e2.more_le (fun b m => List.mem_append.mpr (.inr m)) (Nat.le_max_right ..))
end
/-- of lists, tuples and dicts -/
theorem repr_rdD {A : Around} {E : Value → Shared → Prop} {s : Shared} {Q : Value → Shared → Prop} {a : Addr} {d : PyData} (h : RdD s.heap (.ref a) d) (sh : d.showable = true) (hg : A.guards = some []) (hu : A.units + (d.depth + 1) < cLine)
    (hQ : ∀ h' u tk, (∀ b o, s.heap.get? b = some o → h'.get? b = some o) → Q (.str d.shown u) { s with heap := h', toks := tk }) (sz : d.shown.length ≤ sizeLine) : wpAny (model P w) A (call (.builtin "repr") [.ref a]) Q E s := by
  have kp : ∀ b o, s.heap.get? b = some o → s.heap.get? b = some o := fun _ _ e => e
  cases h with
  | @lst _ ob us n ds e c z r =>
    have sz2 : (listText (PyData.shownAll ds)).length ≤ sizeLine := by simp only [PyData.shown] at sz; exact sz
    obtain ⟨bs, b1, b2⟩ := RdA.repK (P := P) (w := w) r (by simpa [PyData.showable] using sh) fun t m => Nat.le_trans (listText_mem_le m) sz2
    obtain ⟨as, q⟩ := r.reads
    have rd : Reads s.heap (.ref a) (.list ds) (a :: as) := .list e c z q
    have out : a ∉ bs := not_mem_of_deeper rd (Nat.lt_of_lt_of_le (Nat.lt_succ_self _) (by simp only [PyData.depth]; omega)) b1
    simp only [PyData.depth] at hu
    simp only [PyData.shown] at hQ
    refine call_repr_slot (by omega) ⟨ob, e, c⟩ (PySem.F.slot_list_repr.toG) ?_
    obtain ⟨l⟩ := us
    cases l with
    | nil =>
      have r2 : RdA s.heap [] ds := r
      cases r2
      rw [PyData.shownAll, listText_nil] at hQ
      exact call_list_repr_empty ⟨ob, e, c⟩ e z ⟨_, _, rfl, hQ s.heap _ _ kp⟩
    | cons x l => exact call_list_reprK e c z out (by simpa using b2.length_eq) (fun i y h => b2.item i y (by simpa using h)) hg (fun b _ => Clear.nil b) (by show A.units + 1 + _ < cLine; omega) kp (fun h' u tk hk => ⟨_, _, rfl, hQ h' u tk hk⟩) sz2
  | @tup _ ob us n ds e c z r =>
    have sz2 : (tupleText (PyData.shownAll ds)).length ≤ sizeLine := by simp only [PyData.shown] at sz; exact sz
    obtain ⟨bs, b1, b2⟩ := RdA.repK (P := P) (w := w) r (by simpa [PyData.showable] using sh) fun t m => Nat.le_trans (tupleText_mem_le m) sz2
    obtain ⟨as, q⟩ := r.reads
    have rd : Reads s.heap (.ref a) (.tuple ds) as := .tuple e c z q
    have out : a ∉ bs := not_mem_of_deeper rd (Nat.lt_of_lt_of_le (Nat.lt_succ_self _) (by simp only [PyData.depth]; omega)) b1
    simp only [PyData.depth] at hu
    simp only [PyData.shown] at hQ
    refine call_repr_slot (by omega) ⟨ob, e, c⟩ PySem.F.slot_tuple_repr ?_
    exact call_tuple_reprK e c z out b2 hg (fun b _ => Clear.nil b) (by show A.units + 1 + _ < cLine; omega) kp (fun h' u tk hk => ⟨_, _, rfl, hQ h' u tk hk⟩) sz2
  | @dic _ ob en n kv e c z y r r2 =>
    have sz2 : (dictText (PyData.shownKv kv)).length ≤ sizeLine := by simp only [PyData.shown] at sz; exact sz
    obtain ⟨s1, s2⟩ := PyData.showableKv_split kv (by simpa [PyData.showable] using sh)
    obtain ⟨c1, d1, e1⟩ := RdA.repK (P := P) (w := w) r s1 fun t m => by
      obtain ⟨p, m2, l2⟩ := PyData.shownKv_key_le kv t m
      exact Nat.le_trans (Nat.le_trans l2 (dictText_mem_le m2)) sz2
    obtain ⟨c2, d2, e2⟩ := RdA.repK (P := P) (w := w) r2 s2 fun t m => by
      obtain ⟨p, m2, l2⟩ := PyData.shownKv_val_le kv t m
      exact Nat.le_trans (Nat.le_trans l2 (dictText_mem_le m2)) sz2
    obtain ⟨as, q⟩ := r.reads
    obtain ⟨as2, q2⟩ := r2.reads
    have rd : Reads s.heap (.ref a) (.dict kv) _ := .dict e c z q q2
    have ra : ReadAtMost s.heap (PyData.depthKv kv) (c1 ++ c2) := .append (d1.mono (PyData.depthAll_keys_le kv)) (d2.mono (PyData.depthAll_vals_le kv))
    have out : a ∉ c1 ++ c2 := not_mem_of_deeper rd (Nat.lt_of_lt_of_le (Nat.lt_succ_self _) (by simp only [PyData.depth]; omega)) ra
    simp only [PyData.depth] at hu
    simp only [PyData.shown, PyData.shownKv_eq] at hQ
    have f1 := e1.more_le (as' := c1 ++ c2) (fun b m => List.mem_append.mpr (.inl m)) (PyData.depthAll_keys_le kv)
    have f2 := e2.more_le (as' := c1 ++ c2) (fun b m => List.mem_append.mpr (.inr m)) (PyData.depthAll_vals_le kv)
    refine call_repr_slot (by omega) ⟨ob, e, c⟩ PySem.F.slot_dict_repr ?_
    exact call_dict_reprK e c z y out (.of_two en.toList _ _ f1 f2) hg (fun b _ => Clear.nil b) (by show A.units + 1 + _ < cLine; omega) kp (fun h' u tk hk => ⟨_, _, rfl, hQ h' u tk hk⟩) (by rw [← PyData.shownKv_eq]; exact sz2)
end
end DD
namespace DD
open PySem PySem.Spec PyProof.Rows L2

/-! ## data, slots, the deck, semantic functions -/
/-- what an expression hands on: data, the list that a slot owns, the deck -/
inductive Hd where
  | val (d : PyData)
  | own (i : Nat)
  | deck
inductive Slot where
  | no
  | val (d : PyData)
  | own (ds : List PyData)
  | deck
structure Dk where
  cells : List Int
  mixed : Int
  draws : Int
abbrev Sx := List Slot × Dk
abbrev M (α : Type) := Sx → Option (α × Sx)
def bnd {α β : Type} (m : M α) (k : α → M β) : M β := fun x => match m x with
  | some (a, y) => k a y
  | none => none
def ret {α : Type} (a : α) : M α := fun x => some (a, x)
def fail {α : Type} : M α := fun _ => none
def lift {α : Type} (o : Option α) : M α := fun x => o.map fun a => (a, x)
theorem bnd_some {α β : Type} {m : M α} {k : α → M β} {x : Sx} {b : β} {z : Sx} (h : bnd m k x = some (b, z)) : ∃ a y, m x = some (a, y) ∧ k a y = some (b, z) := by
  unfold bnd at h
  split at h
  · exact ⟨_, _, ‹_›, h⟩
  · cases h
theorem lift_some {α : Type} {o : Option α} {x z : Sx} {a : α} (h : lift o x = some (a, z)) : o = some a ∧ z = x := by
  unfold lift at h
  cases o with
  | none => cases h
  | some b => simp only [Option.map_some, Option.some.injEq, Prod.mk.injEq] at h; exact ⟨by rw [h.1], h.2.symm⟩

/-! ## what persists -/
def isP : HO → Bool
  | .tup _ => true
  | .frz _ _ => true
  | .ext _ => true
  | _ => false
/-- it is as it was; a table may have grown -/
def KeepO (o : HO) (x : Option HO) : Prop := x = some o ∨ ∃ ps qs, o = .tbl ps ∧ x = some (.tbl qs)
theorem KeepO.some {o : HO} {x : Option HO} (h : KeepO o x) : x ≠ none := by
  rcases h with h | ⟨_, _, _, h⟩ <;> rw [h] <;> intro z <;> cases z
theorem KeepO.eq {o : HO} {x : Option HO} (h : KeepO o x) (n : ∀ ps, o ≠ .tbl ps) : x = Option.some o := by
  rcases h with h | ⟨ps, _, h, _⟩
  · exact h
  · exact absurd h (n ps)
theorem KeepO.trans {o : HO} {x y : Option HO} (h : KeepO o x) (k : ∀ u, x = Option.some u → KeepO u y) : KeepO o y := by
  rcases h with h | ⟨ps, qs, e, h⟩
  · exact k o h
  · rcases k _ h with k | ⟨_, rs, _, k⟩
    · exact .inr ⟨ps, qs, e, k⟩
    · exact .inr ⟨ps, rs, e, k⟩
/-- the tables of code objects that may grow: those of defs with generator expressions, those of defs with lambdas -/
structure TB where
  g : List Addr
  l : List (Addr × Str)
  /-- the third key of the deck -/
  dn : Str := "draws"
def TabsOk (T : TB) (H : Hp) : Prop := (∀ P ∈ T.g, GxR.TabG H P) ∧ LamX.Tabs T.l H
theorem TabsOk.mono {T : TB} {H H' : Hp} (t : TabsOk T H) (p : ∀ a o, H a = some o → isP o = true → H' a = some o) (q : ∀ P ps, H P = some (.tbl ps) → H' P = some (.tbl ps)) : TabsOk T H' := by
  refine ⟨fun P hP => ?_, fun y hy => ?_⟩
  · obtain ⟨ps, h1, h2⟩ := t.1 P hP
    exact ⟨ps, q _ _ h1, h2⟩
  · obtain ⟨ps, h1, h2, h3⟩ := t.2 y hy
    refine ⟨ps, q _ _ h1, h2, fun pos cv hc => ?_⟩
    obtain ⟨c, e1, e2⟩ := h3 pos cv hc
    exact ⟨c, e1, p _ _ e2 rfl⟩
def Pers (H H' : Hp) : Prop := ∀ a o, H a = some o → isP o = true → H' a = some o
theorem Pers.refl (H : Hp) : Pers H H := fun _ _ h _ => h
theorem Pers.trans {H H1 H2 : Hp} (p : Pers H H1) (q : Pers H1 H2) : Pers H H2 := fun a o h i => q a o (p a o h i) i
def Ext (H H' : Hp) : Prop := ∀ a o, H a = some o → H' a = some o
theorem Ext.pers {H H' : Hp} (e : Ext H H') : Pers H H' := fun a o h _ => e a o h
theorem Ext.refl (H : Hp) : Ext H H := fun _ _ h => h
theorem Ext.trans {H H1 H2 : Hp} (p : Ext H H1) (q : Ext H1 H2) : Ext H H2 := fun a o h => q a o (p a o h)
theorem Ext.new {H : Hp} {p : Addr} {o : HO} (n : H p = none) : Ext H (upd H p o) := fun a u h => by
  rw [upd_ne (ne_of_none h n)]; exact h
theorem Pers.lst {H : Hp} {a : Addr} {xs : List V} {o : HO} (h : H a = some (.lst xs)) : Pers H (upd H a o) := fun b u e i => by
  rw [upd_ne]
  · exact e
  · intro z; subst z; rw [h] at e; cases e; cases i

section
variable {K : PySem.W.Frag} {T : TB}
/-- a list that never changes: frozen, or of the module -/
def SqF (K : PySem.W.Frag) (H : Hp) (a : Addr) (xs : List V) : Prop := ∃ o, H a = some (.frz o (.lst xs))
theorem SqF.seq {H : Hp} {a : Addr} {xs : List V} (h : SqF K H a xs) : SqL K H a xs := by
  obtain ⟨o, h⟩ := h
  exact .inl (.inr ⟨o, h⟩)
theorem SqF.rd {H : Hp} {a : Addr} {xs : List V} (h : SqF K H a xs) : Rd H a (.lst xs) := .inr h
theorem SqF.mono {H H' : Hp} {a : Addr} {xs : List V} (p : Pers H H') (h : SqF K H a xs) : SqF K H' a xs := by
  obtain ⟨o, h⟩ := h
  exact ⟨o, p _ _ h rfl⟩
theorem sqT_mono {H H' : Hp} {a : Addr} {xs : List V} (p : Pers H H') (h : SqT K H a xs) : SqT K H' a xs := by
  rcases h with (h | ⟨o, h⟩) | h
  · exact .inl (.inl (p _ _ h rfl))
  · exact .inl (.inr ⟨o, p _ _ h rfl⟩)
  · exact .inr h

/-- the data of a dict's key -/
def kD : L2.Key → PyData
  | .inl i => .int i
  | .inr x => .str x
/-- a dict that never changes -/
def DcF (H : Hp) (a : Addr) (kvs : List (L2.Key × V)) : Prop := ∃ o, H a = some (.frz o (.dK kvs))
theorem DcF.mono {H H' : Hp} {a : Addr} {kvs : List (L2.Key × V)} (p : Pers H H') (h : DcF H a kvs) : DcF H' a kvs := by
  obtain ⟨o, h⟩ := h
  exact ⟨o, p _ _ h rfl⟩
/-- an entry of a dict whose keys are tuples of ints and whose values are bools -/
def tkE (x : List Int × Addr × Bool) : DictEntry := ⟨reduceHash (Builtin.Tuple.tupleHashOf (x.1.map hashInt)), .ref x.2.1, .bool x.2.2⟩
def tkD (x : List Int × Addr × Bool) : PyData × PyData := (.tuple (x.1.map .int), .bool x.2.2)
/-- a dict whose keys are tuples of ints, that never changes -/
def DtF (K : PySem.W.Frag) (H : Hp) (a : Addr) (xs : List (List Int × Addr × Bool)) : Prop := ∃ o u es ep, H a = some (.frz o u) ∧ o.ExactDict ∧ o.data = .dict es ep ∧ es.toList = xs.map tkE ∧ (xs.map (·.1)).Nodup ∧ (a == sysModules) = false ∧ ∀ x ∈ xs, SqT K H x.2.1 (x.1.map V.int)
theorem DtF.mono {K : PySem.W.Frag} {H H' : Hp} {a : Addr} {xs : List (List Int × Addr × Bool)} (p : Pers H H') (h : DtF K H a xs) : DtF K H' a xs := by
  obtain ⟨o, u, es, ep, h, h1, h2, h3, h4, h5, h6⟩ := h
  exact ⟨o, u, es, ep, p _ _ h rfl, h1, h2, h3, h4, h5, fun x hx => sqT_mono p (h6 x hx)⟩
mutual
/-- the value is the data, for good -/
inductive Pr (K : PySem.W.Frag) (H : Hp) : V → PyData → Prop
  | non : Pr K H .non .none
  | bl (b : Bool) : Pr K H (.bl b) (.bool b)
  | int (i : Int) : Pr K H (.int i) (.int i)
  | str (x : Str) : Pr K H (.str x) (.str x)
  | lst {a : Addr} {xs : List V} {ds : List PyData} (q : SqF K H a xs) (t : PrAll K H xs ds) : Pr K H (.ref a) (.list ds)
  | tup {a : Addr} {xs : List V} {ds : List PyData} (q : SqT K H a xs) (t : PrAll K H xs ds) : Pr K H (.ref a) (.tuple ds)
  | dic {a : Addr} {kvs : List (L2.Key × V)} {des : List (PyData × PyData)} (q : DcF H a kvs) (t : PrKv K H kvs des) : Pr K H (.ref a) (.dict des)
  | dit {a : Addr} {xs : List (List Int × Addr × Bool)} {des : List (PyData × PyData)} (q : DtF K H a xs) (n : xs ≠ []) (e : des = xs.map tkD) : Pr K H (.ref a) (.dict des)
inductive PrAll (K : PySem.W.Frag) (H : Hp) : List V → List PyData → Prop
  | nil : PrAll K H [] []
  | cons {v : V} {vs : List V} {d : PyData} {ds : List PyData} (h : Pr K H v d) (t : PrAll K H vs ds) : PrAll K H (v :: vs) (d :: ds)
inductive PrKv (K : PySem.W.Frag) (H : Hp) : List (L2.Key × V) → List (PyData × PyData) → Prop
  | nil : PrKv K H [] []
  | cons {k : L2.Key} {v : V} {kvs : List (L2.Key × V)} {d : PyData} {des : List (PyData × PyData)} (h : Pr K H v d) (t : PrKv K H kvs des) : PrKv K H ((k, v) :: kvs) ((kD k, d) :: des)
end
mutual
theorem Pr.mono {H H' : Hp} (p : Pers H H') : ∀ (d : PyData) {v : V}, Pr K H v d → Pr K H' v d
  | .none, _, h => by cases h; exact .non
  | .bool b, _, h => by cases h; exact .bl b
  | .int b, _, h => by cases h; exact .int b
  | .str b, _, h => by cases h; exact .str b
  | .list ds, _, h => by
    cases h with
    | lst q t => exact .lst (q.mono p) (PrAll.mono p ds t)
  | .tuple ds, _, h => by
    cases h with
    | tup q t => exact .tup (sqT_mono p q) (PrAll.mono p ds t)
  | .dict des, _, h => by
    cases h with
    | dic q t => exact .dic (q.mono p) (PrKv.mono p des t)
    | dit q n e => exact .dit (q.mono p) n e
theorem PrAll.mono {H H' : Hp} (p : Pers H H') : ∀ (ds : List PyData) {vs : List V}, PrAll K H vs ds → PrAll K H' vs ds
  | [], _, h => by cases h; exact .nil
  | d :: ds, _, h => by
    cases h with
    | cons h t => exact .cons (Pr.mono p d h) (PrAll.mono p ds t)
theorem PrKv.mono {H H' : Hp} (p : Pers H H') : ∀ (ds : List (PyData × PyData)) {vs : List (L2.Key × V)}, PrKv K H vs ds → PrKv K H' vs ds
  | [], _, h => by cases h; exact .nil
  | (_, d) :: ds, _, h => by
    cases h with
    | cons h t => exact .cons (Pr.mono p d h) (PrKv.mono p ds t)
end
mutual
theorem Pr.dp {H : Hp} : ∀ (d : PyData) {v : V}, d.hasDict = false → Pr K H v d → Dp K H v d
  | .none, _, _, h => by cases h; exact .non
  | .bool b, _, _, h => by cases h; exact .bl b
  | .int b, _, _, h => by cases h; exact .int b
  | .str b, _, _, h => by cases h; exact .str b
  | .list ds, _, n, h => by
    cases h with
    | lst q t => exact .lst q.seq (PrAll.dp ds (by simpa only [PyData.hasDict] using n) t)
  | .tuple ds, _, n, h => by
    cases h with
    | tup q t => exact .tup q (PrAll.dp ds (by simpa only [PyData.hasDict] using n) t)
  | .dict _, _, n, h => by simp only [PyData.hasDict] at n; cases n
theorem PrAll.dp {H : Hp} : ∀ (ds : List PyData) {vs : List V}, PyData.hasDictAll ds = false → PrAll K H vs ds → DpAll K H vs ds
  | [], _, _, h => by cases h; exact .nil
  | d :: ds, _, n, h => by
    cases h with
    | cons h t =>
      simp only [PyData.hasDictAll, Bool.or_eq_false_iff] at n
      exact .cons (Pr.dp d n.1 h) (PrAll.dp ds n.2 t)
end
/-! ### read off the heap -/
theorem keyReads {h : Heap} {P : Program} {w : World} : ∀ {es : List DictEntry} {vs : List (L2.Key × Value)}, Pairs (mixKind P w) es vs → RdA h (es.map fun q => q.key) (vs.map fun p => kD p.1) := by
  intro es vs p
  induction p with
  | nil => exact .nil
  | @cons e kv es kvs h1 h2 _ ih =>
    refine .cons (show RdD h e.key (kD kv.1) from ?_) ih
    rcases keyIs_shape (show keyIs kv.1 e.key = true from h1) with ⟨i, t, e1, e2⟩ | ⟨x, t, e1, e2⟩
    · rw [e1, e2]; exact .num i t
    · rw [e1, e2]; exact .txt x t
theorem pairVals {P : Program} {w : World} : ∀ {es : List DictEntry} {vs : List (L2.Key × Value)}, Pairs (mixKind P w) es vs → es.map (·.val) = vs.map (·.2) := by
  intro es vs p
  induction p with
  | nil => rfl
  | @cons e kv es kvs h1 h2 _ ih => rw [List.map_cons, List.map_cons, ih, h2]
theorem PrKv.keys {H : Hp} : ∀ {kvs : List (L2.Key × V)} {des : List (PyData × PyData)}, PrKv K H kvs des → des.map (·.1) = kvs.map fun p => kD p.1
  | _, _, .nil => rfl
  | _, _, .cons _ t => by rw [List.map_cons, List.map_cons, t.keys]
theorem kv_keys {kvs : List (L2.Key × V)} {vs : List (L2.Key × Value)} (r : KV kvs vs) : (kvs.map fun p => kD p.1) = vs.map fun p => kD p.1 := by
  induction r with
  | nil => rfl
  | cons h _ ih => rw [List.map_cons, List.map_cons, ih, h.1]
section
variable {X : Cx} {pins : List (Addr × Obj)} {σ : L2.St} {H : Hp} {s : Shared}
theorem rdA_ints {h : Heap} : ∀ {ks : List Int} {us : List Value}, Vals (ks.map V.int) us → RdA h us (ks.map .int)
  | [], us, r => by
    rw [List.map_nil] at r
    cases r
    exact .nil
  | k :: ks, us, r => by
    rw [List.map_cons] at r
    cases r with
    | cons h t =>
      obtain ⟨tk, rfl⟩ := h
      exact .cons (.num k tk) (rdA_ints t)
theorem rdA_tkK (I : Inv X pins σ H s) : ∀ {xs : List (List Int × Addr × Bool)}, (∀ x ∈ xs, SqT X.K H x.2.1 (x.1.map V.int)) → RdA s.heap ((xs.map tkE).map fun q => q.key) ((xs.map tkD).map fun q => q.1)
  | [], _ => .nil
  | x :: xs, h => by
    obtain ⟨its, rv, ⟨o, ho, hc, n, hd⟩, _⟩ := I.tuple (h x List.mem_cons_self)
    exact .cons (RdD.tup ho hc hd (rdA_ints rv)) (rdA_tkK I fun y hy => h y (List.mem_cons_of_mem _ hy))
theorem rdA_tkV {h : Heap} : ∀ {xs : List (List Int × Addr × Bool)}, RdA h ((xs.map tkE).map fun q => q.val) ((xs.map tkD).map fun q => q.2)
  | [] => .nil
  | _ :: _ => .cons (.boo _) rdA_tkV
mutual
theorem Pr.rd (I : Inv X pins σ H s) : ∀ (d : PyData) {v : V} {u : Value}, Pr X.K H v d → RelV v u → RdD s.heap u d
  | .none, _, _, h, r => by
    cases h; cases r
    exact .non
  | .bool b, _, _, h, r => by
    cases h; cases r
    exact .boo b
  | .int i, _, _, h, r => by
    cases h
    obtain ⟨t, rfl⟩ := r
    exact .num i t
  | .str x, _, _, h, r => by
    cases h
    obtain ⟨t, rfl⟩ := r
    exact .txt x t
  | .list ds, _, _, h, r => by
    cases h with
    | lst hs ha =>
      cases r
      obtain ⟨its, rv, ⟨o, n, ho, hc, _, hd⟩, _⟩ := I.list hs.seq
      exact .lst ho hc hd (PrAll.rd I ds ha rv)
  | .tuple ds, _, _, h, r => by
    cases h with
    | tup hs ha =>
      cases r
      obtain ⟨its, rv, ⟨o, ho, hc, n, hd⟩, _⟩ := I.tuple hs
      exact .tup ho hc hd (PrAll.rd I ds ha rv)
  | .dict des, _, _, h, r => by
    cases h with
    | dic hs ha =>
      cases r
      obtain ⟨q, hq⟩ := hs
      obtain ⟨hg, hz, hy, vs, kv, o, es, ep, ho, hx, hd, _, hp, _⟩ := I.hok _ _ hq
      refine .dic ho hx.1 hd hy ?_ ?_
      · rw [ha.keys, kv_keys kv]; exact keyReads hp
      · rw [pairVals hp]; exact PrKv.rd I des ha kv
    | dit hs n e =>
      cases r
      obtain ⟨o, u, es, ep, hq, hx, hd, he, _, hy, hk⟩ := hs
      obtain ⟨hg, _⟩ := I.hok _ _ hq
      subst e
      refine .dic hg hx.1 hd hy ?_ ?_
      · rw [he]; exact rdA_tkK I hk
      · rw [he]; exact rdA_tkV
theorem PrAll.rd (I : Inv X pins σ H s) : ∀ (ds : List PyData) {vs : List V} {us : List Value}, PrAll X.K H vs ds → Vals vs us → RdA s.heap us ds
  | [], _, _, h, r => by
    cases h; cases r
    exact .nil
  | d :: ds, _, _, h, r => by
    cases h with
    | cons h1 h2 =>
      cases r with
      | cons r1 r2 => exact .cons (Pr.rd I d h1 r1) (PrAll.rd I ds h2 r2)
theorem PrKv.rd (I : Inv X pins σ H s) : ∀ (des : List (PyData × PyData)) {kvs : List (L2.Key × V)} {vs : List (L2.Key × Value)}, PrKv X.K H kvs des → KV kvs vs → RdA s.heap (vs.map fun q => q.2) (des.map fun q => q.2)
  | [], _, _, h, r => by
    cases h; cases r
    exact .nil
  | (_, d) :: ds, _, _, h, r => by
    cases h with
    | cons h1 h2 =>
      cases r with
      | cons r1 r2 => exact .cons (Pr.rd I d h1 r1.2) (PrKv.rd I ds h2 r2)
end
end
theorem PrAll.length {H : Hp} : ∀ {vs : List V} {ds : List PyData}, PrAll K H vs ds → vs.length = ds.length
  | _, _, .nil => rfl
  | _, _, .cons _ t => by rw [List.length_cons, List.length_cons, t.length]
theorem PrAll.get {H : Hp} : ∀ {vs : List V} {ds : List PyData} {i : Nat} {d : PyData}, PrAll K H vs ds → ds[i]? = some d → ∃ v, vs[i]? = some v ∧ Pr K H v d
  | _, _, _, _, .nil, e => by simp at e
  | _, _, 0, _, .cons h _, e => by simp at e; subst e; exact ⟨_, rfl, h⟩
  | _, _, i + 1, _, .cons _ t, e => by
    obtain ⟨v, h1, h2⟩ := PrAll.get (i := i) t (by simpa using e)
    exact ⟨v, by simpa using h1, h2⟩
theorem PrAll.getV {H : Hp} : ∀ {vs : List V} {ds : List PyData} {i : Nat} {v : V}, PrAll K H vs ds → vs[i]? = some v → ∃ d, ds[i]? = some d ∧ Pr K H v d
  | _, _, _, _, .nil, e => by simp at e
  | _, _, 0, _, .cons h _, e => by simp at e; subst e; exact ⟨_, rfl, h⟩
  | _, _, i + 1, _, .cons _ t, e => by
    obtain ⟨v, h1, h2⟩ := PrAll.getV (i := i) t (by simpa using e)
    exact ⟨v, by simpa using h1, h2⟩
theorem PrAll.append {H : Hp} : ∀ {vs us : List V} {ds es : List PyData}, PrAll K H vs ds → PrAll K H us es → PrAll K H (vs ++ us) (ds ++ es)
  | _, _, _, _, .nil, h => h
  | _, _, _, _, .cons h t, g => .cons h (t.append g)
theorem PrAll.take {H : Hp} : ∀ {vs : List V} {ds : List PyData} (n : Nat), PrAll K H vs ds → PrAll K H (vs.take n) (ds.take n)
  | _, _, 0, _ => .nil
  | _, _, _ + 1, .nil => .nil
  | _, _, n + 1, .cons h t => .cons h (t.take n)
theorem PrAll.drop {H : Hp} : ∀ {vs : List V} {ds : List PyData} (n : Nat), PrAll K H vs ds → PrAll K H (vs.drop n) (ds.drop n)
  | _, _, 0, h => h
  | _, _, _ + 1, .nil => .nil
  | _, _, n + 1, .cons _ t => t.drop n
theorem PrAll.erase {H : Hp} : ∀ {vs : List V} {ds : List PyData} (n : Nat), PrAll K H vs ds → PrAll K H (vs.eraseIdx n) (ds.eraseIdx n)
  | _, _, _, .nil => .nil
  | _, _, 0, .cons _ t => t
  | _, _, n + 1, .cons h t => .cons h (t.erase n)
theorem PrAll.set {H : Hp} {v : V} {d : PyData} (h : Pr K H v d) : ∀ {vs : List V} {ds : List PyData} (n : Nat), PrAll K H vs ds → PrAll K H (vs.set n v) (ds.set n d)
  | _, _, _, .nil => .nil
  | _, _, 0, .cons _ t => .cons h t
  | _, _, n + 1, .cons g t => .cons g (PrAll.set h n t)
theorem PrAll.rev {H : Hp} {vs : List V} {ds : List PyData} (h : PrAll K H vs ds) : PrAll K H vs.reverse ds.reverse := by
  induction vs generalizing ds with
  | nil => cases h; exact .nil
  | cons v vs ih =>
    cases h with
    | cons a t => rw [List.reverse_cons, List.reverse_cons]; exact (ih t).append (.cons a .nil)
/-- the values of whole numbers -/
theorem PrAll.ints {H : Hp} : ∀ {vs : List V} {ns : List Int}, PrAll K H vs (ns.map PyData.int) → vs = ns.map V.int
  | _, [], h => by cases h; rfl
  | _, n :: ns, h => by
    cases h with
    | cons a t => cases a; rw [PrAll.ints t]; rfl
theorem PrAll.ofInts {H : Hp} : ∀ (ns : List Int), PrAll K H (ns.map V.int) (ns.map PyData.int)
  | [] => .nil
  | n :: ns => .cons (.int n) (PrAll.ofInts ns)

/-! ## the relation -/
structure Gh where
  dk : Addr
  cl : Addr
  H0 : Hp
structure RelD (T : TB) (dk cl : Addr) (H : Hp) (k : Dk) : Prop where
  d : H dk = some (.dK [(.inr "cells", .ref cl), (.inr "mixed", .int k.mixed), (.inr T.dn, .int k.draws)])
  c : H cl = some (.lst (k.cells.map V.int))
  t : TabsOk T H
def SlotOk (K : PySem.W.Frag) (G : Gh) (H : Hp) (v : Option (Option V)) : Slot → Prop
  | .no => True
  | .val d => ∃ u, v = some (some u) ∧ Pr K H u d
  | .deck => v = some (some (.ref G.dk))
  | .own ds => ∃ a xs, v = some (some (.ref a)) ∧ H a = some (.lst xs) ∧ PrAll K H xs ds ∧ a ≠ G.cl ∧ G.H0 a = none
structure Rel (K : PySem.W.Frag) (T : TB) (G : Gh) (σ : L2.St) (H : Hp) (x : Sx) : Prop where
  dk : RelD T G.dk G.cl H x.2
  grow : ∀ a o, G.H0 a = some o → a ≠ G.dk → a ≠ G.cl → KeepO o (H a)
  len : x.1.length = σ.length
  slot : ∀ (i : Nat) (s : Slot), x.1[i]? = some s → SlotOk K G H σ[i]? s
  sep : ∀ (i j : Nat) (a : Addr) (ds es : List PyData), i ≠ j → x.1[i]? = some (.own ds) → x.1[j]? = some (.own es) → σ[i]? = some (some (.ref a)) → σ[j]? ≠ some (some (.ref a))

/-- the heap grew by objects alone -/
theorem SlotOk.ext {G : Gh} {H H' : Hp} {v : Option (Option V)} {s : Slot} (e : Ext H H') (h : SlotOk K G H v s) : SlotOk K G H' v s := by
  cases s with
  | no => exact h
  | val d => obtain ⟨u, h1, h2⟩ := h; exact ⟨u, h1, Pr.mono e.pers d h2⟩
  | deck => exact h
  | own ds => obtain ⟨a, xs, h1, h2, h3, h4⟩ := h; exact ⟨a, xs, h1, e _ _ h2, PrAll.mono e.pers ds h3, h4⟩
theorem Rel.ext {G : Gh} {σ : L2.St} {H H' : Hp} {x : Sx} (R : Rel K T G σ H x) (e : Ext H H') : Rel K T G σ H' x :=
  ⟨⟨e _ _ R.dk.d, e _ _ R.dk.c, R.dk.t.mono (fun a o h _ => e a o h) fun P ps h => e _ _ h⟩, fun a o h h1 h2 => (R.grow a o h h1 h2).trans fun u z => .inl (e _ _ z), R.len, fun i s h => (R.slot i s h).ext e, R.sep⟩
theorem RelD.ne {dk cl : Addr} {H : Hp} {k : Dk} (R : RelD T dk cl H k) : dk ≠ cl := fun z => by
  have h1 := R.d; rw [z, R.c] at h1; cases h1
/-- an object that is no slot's own list and not the deck's: written -/
theorem Rel.off {G : Gh} {σ : L2.St} {H : Hp} {x : Sx} {a : Addr} {xs : List V} {o : HO} (R : Rel K T G σ H x) (h : H a = some (.lst xs)) (hc : a ≠ G.cl) (h0 : G.H0 a = none)
    (hn : ∀ (i : Nat) (es : List PyData), x.1[i]? = some (.own es) → σ[i]? ≠ some (some (.ref a))) : Rel K T G σ (upd H a o) x := by
  have p : Pers H (upd H a o) := Pers.lst h
  have hd : G.dk ≠ a := ne_of R.dk.d h (by intro z; cases z)
  refine ⟨⟨by rw [upd_ne hd]; exact R.dk.d, by rw [upd_ne (Ne.symm hc)]; exact R.dk.c, R.dk.t.mono p fun P ps q => by rw [upd_ne (ne_of q h (by intro z; cases z))]; exact q⟩, fun b u hb h1 h2 => ?_, R.len, fun i s hs => ?_, R.sep⟩
  · rw [upd_ne]
    · exact R.grow b u hb h1 h2
    · intro z; subst z; rw [h0] at hb; cases hb
  · have q := R.slot i s hs
    cases s with
    | no => exact q
    | val d => obtain ⟨u, h1, h2⟩ := q; exact ⟨u, h1, Pr.mono p d h2⟩
    | deck => exact q
    | own ds =>
      obtain ⟨b, ys, h1, h2, h3, h4⟩ := q
      have hb : b ≠ a := fun z => hn i ds hs (by rw [h1, z])
      exact ⟨b, ys, h1, by rw [upd_ne hb]; exact h2, PrAll.mono p ds h3, h4⟩
/-- what an expression handed on -/
def RH (K : PySem.W.Frag) (G : Gh) (σ : L2.St) (H : Hp) (v : V) : Hd → Prop
  | .val d => Pr K H v d
  | .own i => σ[i]? = some (some v)
  | .deck => v = .ref G.dk
theorem RH.mono {G : Gh} {σ : L2.St} {H H' : Hp} {v : V} {h : Hd} (p : Pers H H') (r : RH K G σ H v h) : RH K G σ H' v h := by
  cases h with
  | val d => exact Pr.mono p d r
  | own i => exact r
  | deck => exact r
inductive RHs (K : PySem.W.Frag) (G : Gh) (σ : L2.St) (H : Hp) : List V → List Hd → Prop
  | nil : RHs K G σ H [] []
  | cons {v : V} {vs : List V} {h : Hd} {hs : List Hd} (r : RH K G σ H v h) (t : RHs K G σ H vs hs) : RHs K G σ H (v :: vs) (h :: hs)
theorem RHs.length {G : Gh} {σ : L2.St} {H : Hp} : ∀ {vs : List V} {hs : List Hd}, RHs K G σ H vs hs → vs.length = hs.length
  | _, _, .nil => rfl
  | _, _, .cons _ t => by rw [List.length_cons, List.length_cons, t.length]
end

/-! ## the judgements -/
/-- an expression means f -/
def rdE (K : PySem.W.Frag) (T : TB) (f : M Hd) : TE := fun σ H Q => ∃ G x h x', Rel K T G σ H x ∧ f x = some (h, x') ∧ ∀ v H', Pers H H' → Rel K T G σ H' x' → RH K G σ H' v h → Q v H'
/-- .. an expression that makes a new list -/
def rdF (K : PySem.W.Frag) (T : TB) (f : M (List PyData)) : TE := fun σ H Q => ∃ G x ds x', Rel K T G σ H x ∧ f x = some (ds, x') ∧ ∀ a xs H', Pers H H' → Rel K T G σ H' x' → H' a = some (.lst xs) → PrAll K H' xs ds → a ≠ G.cl → G.H0 a = none →
  (∀ (i : Nat) (es : List PyData), x'.1[i]? = some (.own es) → σ[i]? ≠ some (some (.ref a))) → Q (.ref a) H'
def rdT (K : PySem.W.Frag) (T : TB) (f : M Bool) : TT := fun σ H Q => ∃ G x b x', Rel K T G σ H x ∧ f x = some (b, x') ∧ ∀ H', Pers H H' → Rel K T G σ H' x' → Q b H'
def rdA (K : PySem.W.Frag) (T : TB) (f : M (List Hd)) : TA := fun σ H Q => ∃ G x hs x', Rel K T G σ H x ∧ f x = some (hs, x') ∧ ∀ vs H', Pers H H' → Rel K T G σ H' x' → RHs K G σ H' vs hs → Q vs H'
/-- slots other than these are as they were -/
def But (js : List Nat) (σ σ' : L2.St) : Prop := σ'.length = σ.length ∧ ∀ j, j ∉ js → σ'[j]? = σ[j]?
def rdG (K : PySem.W.Frag) (T : TB) (js : List Nat) (g : PyData → M Unit) : TG := fun v σ H Q => ∃ G x d x', Rel K T G σ H x ∧ Pr K H v d ∧ g d x = some ((), x') ∧ ∀ σ' H', But js σ σ' → Pers H H' → Rel K T G σ' H' x' → Q σ' H'
inductive Fl where
  | nx | bk | ct
  | rt (d : PyData)
def FlOk (K : PySem.W.Frag) (D : Ends) (σ : L2.St) (H : Hp) : Fl → Prop
  | .nx => D.nx σ H
  | .bk => D.bk σ H
  | .ct => D.ct σ H
  | .rt d => ∀ v, Pr K H v d → D.rt v H
def rdS (K : PySem.W.Frag) (T : TB) (f : M Fl) : TS := fun D σ H => ∃ G x fl x', Rel K T G σ H x ∧ f x = some (fl, x') ∧ ∀ σ' H', Pers H H' → Rel K T G σ' H' x' → FlOk K D σ' H' fl
abbrev DE (T : TB) (X : Cx) (e : Expr) (f : M Hd) : Prop := PE X e (rdE X.K T f)
abbrev DF (T : TB) (X : Cx) (e : Expr) (f : M (List PyData)) : Prop := PE X e (rdF X.K T f)
abbrev DT (T : TB) (X : Cx) (e : Expr) (f : M Bool) : Prop := PT X e (rdT X.K T f)
abbrev DA (T : TB) (X : Cx) (es : List Expr) (f : M (List Hd)) : Prop := PA X es (rdA X.K T f)
abbrev DG (T : TB) (X : Cx) (e : Expr) (js : List Nat) (g : PyData → M Unit) : Prop := PG X e (rdG X.K T js g)
abbrev DS (T : TB) (X : Cx) (st : Stmt) (f : M Fl) : Prop := PS X st (rdS X.K T f)
abbrev DSs (T : TB) (X : Cx) (st : List Stmt) (f : M Fl) : Prop := PSs X st (rdS X.K T f)

/-! ## weakening -/
section
variable {X : Cx} {T : TB}
theorem PEw {e : Expr} {t t' : TE} (h : PE X e t) (k : ∀ σ H Q, t' σ H Q → t σ H Q) : PE X e t' := ⟨fun pins s σ H Q I q => h.run pins s σ H Q I (k σ H Q q)⟩
theorem PTw {e : Expr} {t t' : TT} (h : PT X e t) (k : ∀ σ H Q, t' σ H Q → t σ H Q) : PT X e t' := ⟨fun pins s σ H Q I q => h.run pins s σ H Q I (k σ H Q q)⟩
theorem PAw {e : List Expr} {t t' : TA} (h : PA X e t) (k : ∀ σ H Q, t' σ H Q → t σ H Q) : PA X e t' := ⟨fun pos pins s σ H Q I q => h.run pos pins s σ H Q I (k σ H Q q)⟩
theorem PSw {st : Stmt} {t t' : TS} (h : PS X st t) (k : ∀ D σ H, t' D σ H → t D σ H) : PS X st t' := ⟨fun pins s σ H D I q => h.run pins s σ H D I (k D σ H q)⟩
theorem PSsw {st : List Stmt} {t t' : TS} (h : PSs X st t) (k : ∀ D σ H, t' D σ H → t D σ H) : PSs X st t' := ⟨fun pins s σ H D I q => h.run pins s σ H D I (k D σ H q)⟩
theorem PGw {e : Expr} {t t' : TG} (h : PG X e t) (k : ∀ v σ H Q, t' v σ H Q → t v σ H Q) : PG X e t' := ⟨fun pins s σ H v u Q I r q => h.run pins s σ H v u Q I r (k v σ H Q q)⟩

/-! ## freezing -/
theorem Inv.frozen {pins : List (Addr × Obj)} {σ : L2.St} {H : Hp} {s : Shared} {a : Addr} {xs : List V} (I : Inv X pins σ H s) (h : H a = some (.lst xs)) : ∃ o, Inv X pins σ (upd H a (.frz o (.lst xs))) s := by
  have ob : ObjOk X.prog X.w H s.heap a (.lst xs) := I.hok a _ h
  obtain ⟨hz, its, n, r, e⟩ := id ob
  refine ⟨{ cls := .type "list", data := .seq its.toArray n }, ?_⟩
  have mu : Mut (H a) := by rw [h]; trivial
  have new : ObjOk X.prog X.w (upd H a (.frz { cls := .type "list", data := .seq its.toArray n } (.lst xs))) s.heap a (.frz { cls := .type "list", data := .seq its.toArray n } (.lst xs)) := ⟨e, hz, its, n, r, e⟩
  exact I.write (t' := s.toks) (h' := s.heap) mu (.inl rfl) (fun _ _ _ q => q) ⟨_, e⟩ new
theorem pe_frz {e : Expr} {t : TE} (he : PE X e t) : PE X e (fun σ H Q => t σ H fun v H1 => ∃ a xs, v = .ref a ∧ H1 a = some (.lst xs) ∧ ∀ o, Q v (upd H1 a (.frz o (.lst xs)))) := by
  refine ⟨fun pins s σ H Q I h => ?_⟩
  refine thn (he.run pins s σ H _ I h) fun u s1 ⟨v, H1, I1, r1, a, xs, ev, ha, q⟩ => ?_
  obtain ⟨o, I2⟩ := Inv.frozen I1 ha
  exact ⟨v, _, I2, r1, q o⟩
/-- a new list as data -/
def dF (f : M (List PyData)) : M Hd := bnd f fun ds => ret (.val (.list ds))
theorem de_new {e : Expr} {f : M (List PyData)} (h : DF T X e f) : DE T X e (dF f) := by
  refine PEw (pe_frz h) fun σ H Q q => ?_
  obtain ⟨G, x, hd, x', R, ef, q⟩ := q
  obtain ⟨ds, y, e1, e2⟩ := bnd_some ef
  cases e2
  refine ⟨G, x, ds, x', R, e1, fun a xs H' p R' ha hp hc h0 hn => ⟨a, xs, rfl, ha, fun o => ?_⟩⟩
  have p2 : Pers H' (upd H' a (.frz o (.lst xs))) := Pers.lst ha
  exact q _ _ (p.trans p2) (R'.off ha hc h0 hn) (.lst ⟨o, upd_same⟩ (PrAll.mono p2 ds hp))
end
end DD
namespace DD
open PySem PySem.Spec PyProof.Rows L2
section
variable {X : Cx} {T : TB}

/-! ## names, constants, argument lists -/
def dV (i : Nat) : M Hd := fun x => match x.1[i]? with
  | some (.val d) => some (.val d, x)
  | some (.own _) => some (.own i, x)
  | some .deck => some (.deck, x)
  | _ => none
theorem de_v {e : Expr} (i : Nat) (h : PE X e (tVar i)) : DE T X e (dV i) := by
  refine PEw h fun σ H Q q => ?_
  obtain ⟨G, x, h, x', R, e, q⟩ := q
  unfold dV at e
  split at e
  · rename_i d hs
    cases e
    obtain ⟨u, h1, h2⟩ := R.slot i _ hs
    exact ⟨u, h1, q u H (Pers.refl H) R h2⟩
  · rename_i ds hs
    cases e
    obtain ⟨a, xs, h1, h2, h3⟩ := R.slot i _ hs
    exact ⟨_, h1, q _ H (Pers.refl H) R h1⟩
  · rename_i hs
    cases e
    have h1 : σ[i]? = some (some (.ref G.dk)) := R.slot i _ hs
    exact ⟨_, h1, q _ H (Pers.refl H) R rfl⟩
  · cases e
def dC (d : PyData) : M Hd := ret (.val d)
theorem de_c {e : Expr} {v : V} {d : PyData} (h : PE X e (tC v)) (p : ∀ H, Pr X.K H v d) : DE T X e (dC d) := by
  refine PEw h fun σ H Q q => ?_
  obtain ⟨G, x, h, x', R, e, q⟩ := q
  cases e
  exact q v H (Pers.refl H) R (p H)
def aNil : M (List Hd) := ret []
def aCons (f : M Hd) (g : M (List Hd)) : M (List Hd) := bnd f fun h => bnd g fun hs => ret (h :: hs)
theorem da_nil : DA T X [] aNil := by
  refine PAw pa_nil fun σ H Q q => ?_
  obtain ⟨G, x, h, x', R, e, q⟩ := q
  cases e
  exact q _ H (Pers.refl H) R .nil
theorem da_cons {e : Expr} {es : List Expr} {f : M Hd} {g : M (List Hd)} (he : DE T X e f) (hr : DA T X es g) (hs : starEach (e :: es) X.env = (false, eval e X.env) :: starEach es X.env := by rfl) : DA T X (e :: es) (aCons f g) := by
  refine PAw (pa_cons he hr hs) fun σ H Q q => ?_
  obtain ⟨G, x, h, x', R, ef, q⟩ := q
  obtain ⟨h1, y, e1, ef⟩ := bnd_some ef
  obtain ⟨h2, z, e2, ef⟩ := bnd_some ef
  cases ef
  refine ⟨G, x, h1, y, R, e1, fun v H1 p1 R1 r1 => ⟨G, y, h2, x', R1, e2, fun vs H2 p2 R2 r2 => q _ H2 (p1.trans p2) R2 (.cons (r1.mono p2) r2)⟩⟩

/-! ## what is handed on, read or kept -/
def esc : Hd → Option PyData
  | .val d => some d
  | _ => none
def escs : List Hd → Option (List PyData)
  | [] => some []
  | h :: hs => match esc h, escs hs with
    | some d, some ds => some (d :: ds)
    | _, _ => none
theorem RH.esc {K : PySem.W.Frag} {G : Gh} {σ : L2.St} {H : Hp} {v : V} {h : Hd} {d : PyData} (r : RH K G σ H v h) (e : esc h = some d) : Pr K H v d := by
  cases h with
  | val c => cases e; exact r
  | own i => cases e
  | deck => cases e
theorem RHs.escs {K : PySem.W.Frag} {G : Gh} {σ : L2.St} {H : Hp} : ∀ {vs : List V} {hs : List Hd} {ds : List PyData}, RHs K G σ H vs hs → escs hs = some ds → PrAll K H vs ds
  | _, _, _, .nil, e => by cases e; exact .nil
  | _, h :: hs, ds, .cons r t, e => by
    unfold DD.escs at e
    split at e
    · cases e; exact .cons (r.esc ‹_›) (RHs.escs t ‹_›)
    · cases e
def deref (h : Hd) (x : Sx) : Option PyData := match h with
  | .val d => some d
  | .own i => match x.1[i]? with
    | some (.own ds) => some (.list ds)
    | _ => none
  | .deck => none
/-- read at once: the data, or a list that may still change -/
inductive Bo (K : PySem.W.Frag) (H : Hp) : V → PyData → Prop
  | pr {v : V} {d : PyData} (h : Pr K H v d) : Bo K H v d
  | ls {a : Addr} {xs : List V} {ds : List PyData} (q : Rd H a (.lst xs)) (t : PrAll K H xs ds) : Bo K H (.ref a) (.list ds)
theorem RH.deref {K : PySem.W.Frag} {G : Gh} {σ : L2.St} {H : Hp} {x : Sx} {v : V} {h : Hd} {d : PyData} (R : Rel K T G σ H x) (r : RH K G σ H v h) (e : deref h x = some d) : Bo K H v d := by
  cases h with
  | val c => cases e; exact .pr r
  | own i =>
    unfold DD.deref at e
    simp only at e
    split at e
    · rename_i ds hs
      cases e
      obtain ⟨a, xs, h1, h2, h3, _⟩ := R.slot i _ hs
      have r' : σ[i]? = some (some v) := r
      rw [h1] at r'
      cases r'
      exact .ls (.inl h2) h3
    · cases e
  | deck => cases e
theorem Bo.dp {K : PySem.W.Frag} {H : Hp} {v : V} {d : PyData} (b : Bo K H v d) (n : d.hasDict = false) : Dp K H v d := by
  cases b with
  | pr h => exact Pr.dp d n h
  | ls q t => exact .lst (.inl q) (PrAll.dp _ (by simpa only [PyData.hasDict] using n) t)
theorem Bo.dpS {K : PySem.W.Frag} {H : Hp} {v : V} {d : PyData} (b : Bo K H v d) (n : SeqAt.shaped d = true) : Dp K H v d := b.dp (PyData.hasDict_of_canLay d (SeqAt.canLay_of_shaped n))
theorem Bo.rd {X : Cx} {pins : List (Addr × Obj)} {σ : L2.St} {H : Hp} {s : Shared} (I : Inv X pins σ H s) {v : V} {u : Value} {d : PyData} (b : Bo X.K H v d) (r : RelV v u) : RdD s.heap u d := by
  cases b with
  | pr h => exact Pr.rd I d h r
  | @ls a xs ds q t =>
    cases r
    obtain ⟨its, rv, ⟨o, n, ho, hc, _, hd⟩, _⟩ := I.list (.inl q)
    exact .lst ho hc hd (PrAll.rd I ds t rv)
theorem Bo.dict {K : PySem.W.Frag} {H : Hp} {v : V} {des : List (PyData × PyData)} (b : Bo K H v (.dict des)) : (∃ a kvs, v = .ref a ∧ DcF H a kvs ∧ PrKv K H kvs des) ∨ ∃ a xs, v = .ref a ∧ DtF K H a xs ∧ xs ≠ [] ∧ des = xs.map tkD := by
  cases b with
  | pr h =>
    cases h with
    | dic q t => exact .inl ⟨_, _, rfl, q, t⟩
    | dit q n e => exact .inr ⟨_, _, rfl, q, n, e⟩
theorem Bo.int {K : PySem.W.Frag} {H : Hp} {v : V} {i : Int} (b : Bo K H v (.int i)) : v = .int i := by
  cases b with
  | pr h => cases h; rfl
theorem Bo.bool {K : PySem.W.Frag} {H : Hp} {v : V} {i : Bool} (b : Bo K H v (.bool i)) : v = .bl i := by
  cases b with
  | pr h => cases h; rfl
theorem Bo.str {K : PySem.W.Frag} {H : Hp} {v : V} {i : Str} (b : Bo K H v (.str i)) : v = .str i := by
  cases b with
  | pr h => cases h; rfl
theorem Bo.non {K : PySem.W.Frag} {H : Hp} {v : V} (b : Bo K H v .none) : v = .non := by
  cases b with
  | pr h => cases h; rfl
theorem Bo.list {K : PySem.W.Frag} {H : Hp} {v : V} {ds : List PyData} (b : Bo K H v (.list ds)) : ∃ a xs, v = .ref a ∧ Rd H a (.lst xs) ∧ PrAll K H xs ds := by
  cases b with
  | pr h => cases h with | lst q t => exact ⟨_, _, rfl, q.rd, t⟩
  | ls q t => exact ⟨_, _, rfl, q, t⟩
theorem Bo.tuple {K : PySem.W.Frag} {H : Hp} {v : V} {ds : List PyData} (b : Bo K H v (.tuple ds)) : ∃ a xs, v = .ref a ∧ SqT K H a xs ∧ PrAll K H xs ds := by
  cases b with
  | pr h => cases h with | tup q t => exact ⟨_, _, rfl, q, t⟩

/-! ## operations by data -/
/-- the operation r does on data what op says, perhaps with new objects; a new list may be left open -/
def rFrz (r : R2) : R2 := fun x y H Q => r x y H fun v H1 => Q v H1 ∨ ∃ a xs, v = .ref a ∧ H1 a = some (.lst xs) ∧ ∀ o, Q v (upd H1 a (.frz o (.lst xs)))
theorem EP.frz {pins : List (Addr × Obj)} {σ : L2.St} {Q : VK} {u : Value} {s' : Shared} (h : EP X pins σ (fun v H1 => Q v H1 ∨ ∃ a xs, v = .ref a ∧ H1 a = some (.lst xs) ∧ ∀ o, Q v (upd H1 a (.frz o (.lst xs)))) u s') : EP X pins σ Q u s' := by
  obtain ⟨v, H1, I1, r1, q | ⟨a, xs, ev, ha, q⟩⟩ := h
  · exact ⟨v, H1, I1, r1, q⟩
  · obtain ⟨o, I2⟩ := Inv.frozen I1 ha
    exact ⟨v, _, I2, r1, q o⟩
theorem OpR.frz {f : Value → Value → Sem Value} {r : R2} (h : OpR X f r) : OpR X f (rFrz r) := fun pins s σ H x y v u Q I rx ry q => thn (h pins s σ H x y v u _ I rx ry q) fun _ _ z => EP.frz z
/-- on data: op; what comes is new or was there -/
def rD (K : PySem.W.Frag) (op : PyData → PyData → Option PyData) : R2 := fun x y H Q => ∃ d e c, Bo K H x d ∧ Bo K H y e ∧ op d e = some c ∧ ∀ v H', Pers H H' → Ext H H' ∨ (∃ H1 a xs o, Ext H H1 ∧ H a = none ∧ H1 a = some (.lst xs) ∧ H' = upd H1 a (.frz o (.lst xs))) → Pr K H' v c → Q v H'
def OpD (X : Cx) (f : Value → Value → Sem Value) (op : PyData → PyData → Option PyData) : Prop := OpR X f (rD X.K op)
theorem OpR.wk {f : Value → Value → Sem Value} {r r' : R2} (h : OpR X f r) (k : ∀ x y H Q, r' x y H Q → r x y H Q) : OpR X f r' := fun pins s σ H x y v u Q I rx ry q => h pins s σ H x y v u Q I rx ry (k x y H Q q)
theorem Rel.grown {K : PySem.W.Frag} {G : Gh} {σ : L2.St} {H H' : Hp} {x : Sx} (R : Rel K T G σ H x) (g : Ext H H' ∨ (∃ H1 a xs o, Ext H H1 ∧ H a = none ∧ H1 a = some (.lst xs) ∧ H' = upd H1 a (.frz o (.lst xs)))) : Rel K T G σ H' x := by
  rcases g with g | ⟨H1, a, xs, o, g, hn, h1, rfl⟩
  · exact R.ext g
  · have hc : a ≠ G.cl := fun z => by rw [z, R.dk.c] at hn; cases hn
    have hd : a ≠ G.dk := fun z => by rw [z, R.dk.d] at hn; cases hn
    refine (R.ext g).off h1 hc ?_ fun i es hi z => ?_
    · cases q : G.H0 a with
      | none => rfl
      | some u => exact absurd hn (R.grow a u q hd hc).some
    · obtain ⟨b, ys, e1, e2, _⟩ := R.slot i _ hi
      rw [e1] at z
      cases z
      rw [e2] at hn; cases hn
def dOp (op : PyData → PyData → Option PyData) (f g : M Hd) : M Hd := bnd f fun a => bnd g fun b => fun x => match deref a x, deref b x with
  | some d, some e => match op d e with
    | some c => some (.val c, x)
    | none => none
  | _, _ => none
theorem rd_op {op : PyData → PyData → Option PyData} {f g : M Hd} : ∀ σ H Q, rdE X.K T (dOp op f g) σ H Q → tOp (rD X.K op) (rdE X.K T f) (rdE X.K T g) σ H Q := fun σ H Q q => by
  obtain ⟨G, x, h, x', R, ef, q⟩ := q
  obtain ⟨h1, y, e1, ef⟩ := bnd_some ef
  obtain ⟨h2, z, e2, ef⟩ := bnd_some ef
  split at ef
  · rename_i d e hd he
    split at ef
    · rename_i c hc
      cases ef
      exact ⟨G, x, h1, y, R, e1, fun v H1 p1 R1 r1 => ⟨G, y, h2, x', R1, e2, fun u H2 p2 R2 r2 => ⟨d, e, c, RH.deref R2 (r1.mono p2) hd, RH.deref R2 r2 he, hc, fun w H3 p3 g3 k3 => q w H3 ((p1.trans p2).trans p3) (R2.grown g3) k3⟩⟩⟩
    · cases ef
  · cases ef
theorem de_op {a b : Expr} {f g : M Hd} {o : Operator} {op : PyData → PyData → Option PyData} {pos : Pos} (ho : OpD X (binaryOp o) op) (ha : DE T X a f) (hb : DE T X b g) : DE T X (.BinOp a o b pos) (dOp op f g) := PEw (pe_op ho ha hb) rd_op
theorem de_cmp {a b : Expr} {f g : M Hd} {o : CmpOp} {op : PyData → PyData → Option PyData} {pos : Pos} (ho : OpD X (compareOp o) op) (ha : DE T X a f) (hb : DE T X b g) (hm : behindInMarks o b = false) : DE T X (.Compare a [o] [b] pos) (dOp op f g) := PEw (pe_cmpR ho ha hb hm) rd_op
/-- a value that is a truth value, as a test -/
def tB' (f : M Hd) : M Bool := bnd f fun h => fun x => match h with
  | .val (.bool b) => some (b, x)
  | _ => none
theorem rd_tB {f : M Hd} {t : TE} (k : ∀ σ H Q, rdE X.K T f σ H Q → t σ H Q) : ∀ σ H Q, rdT X.K T (tB' f) σ H Q → tTest t σ H Q := fun σ H Q q => by
  obtain ⟨G, x, h, x', R, ef, q⟩ := q
  obtain ⟨h1, y, e1, ef⟩ := bnd_some ef
  split at ef
  · cases ef
    refine k _ _ _ ⟨G, x, _, _, R, e1, fun v H1 p1 R1 r1 => ?_⟩
    have r1' : Pr X.K H1 v (.bool h) := r1
    cases r1'
    exact ⟨h, rfl, q H1 p1 R1⟩
  · cases ef
theorem dt_cmp {a b : Expr} {f g : M Hd} {o : CmpOp} {op : PyData → PyData → Option PyData} {pos : Pos} (ho : OpD X (compareOp o) op) (ha : DE T X a f) (hb : DE T X b g) (hm : behindInMarks o b = false) : DT T X (.Compare a [o] [b] pos) (tB' (dOp op f g)) := PTw (pt_cmpR ho ha hb hm) (rd_tB rd_op)

/-! ## tests -/
def truD : PyData → Option Bool
  | .none => some false
  | .bool b => some b
  | .int i => some (i != 0)
  | .str y => if y.length ≤ 16777216 then some ((y.length : Int) != 0) else none
  | .list ds => some (!ds.isEmpty)
  | .tuple ds => some (!ds.isEmpty)
  | .dict _ => none
theorem PrAll.empty {K : PySem.W.Frag} {H : Hp} {vs : List V} {ds : List PyData} (h : PrAll K H vs ds) : vs.isEmpty = ds.isEmpty := by cases h <;> rfl
theorem Bo.tru {K : PySem.W.Frag} {H : Hp} {v : V} {d : PyData} {b : Bool} (h : Bo K H v d) (e : truD d = some b) : TruV K v H b := by
  cases d with
  | none => rw [h.non]; cases e; rfl
  | bool c => rw [h.bool]; cases e; rfl
  | int c => rw [h.int]; cases e; rfl
  | str c =>
    rw [h.str]
    unfold truD at e
    simp only at e
    split at e
    · cases e; exact ⟨by rw [sizeLine_eq]; assumption, rfl⟩
    · cases e
  | list ds =>
    obtain ⟨a, xs, rfl, q, t⟩ := h.list
    cases e
    exact .inl ⟨xs, .inl q, by rw [t.empty]⟩
  | tuple ds =>
    obtain ⟨a, xs, rfl, q, t⟩ := h.tuple
    cases e
    exact .inr (.inl ⟨xs, q, by rw [t.empty]⟩)
  | dict _ => cases e
def dTru (f : M Hd) : M Bool := bnd f fun h => fun x => match deref h x with
  | some d => match truD d with
    | some b => some (b, x)
    | none => none
  | none => none
theorem dt_tru {a : Expr} {f : M Hd} (ha : DE T X a f) (he : ∀ whole, isTrue a X.env whole = (do let v ← whole; standAt a.pos; holding [v] (truthy v)) := by intro _; rfl) : DT T X a (dTru f) := by
  refine PTw (pt_truth ha he) fun σ H Q q => ?_
  obtain ⟨G, x, h, x', R, ef, q⟩ := q
  obtain ⟨h1, y, e1, ef⟩ := bnd_some ef
  split at ef
  · rename_i d hd
    split at ef
    · rename_i b hb
      cases ef
      exact ⟨G, x, h1, _, R, e1, fun v H1 p1 R1 r1 => ⟨h, Bo.tru (RH.deref R1 r1 hd) hb, q H1 p1 R1⟩⟩
    · cases ef
  · cases ef
def tAndD (f g : M Bool) : M Bool := bnd f fun b => if b = true then g else ret false
def tOrD (f g : M Bool) : M Bool := bnd f fun b => if b = true then ret true else g
def tNotD (f : M Bool) : M Bool := bnd f fun b => ret (!b)
abbrev DW (T : TB) (X : Cx) (e : Expr) (f : M Bool) : Prop := PW X e (rdT X.K T f)
theorem PWw {e : Expr} {t t' : TT} (h : PW X e t) (k : ∀ σ H Q, t' σ H Q → t σ H Q) : PW X e t' := ⟨fun wh pins s σ H Q I q => h.run wh pins s σ H Q I (k σ H Q q)⟩
theorem dw_and1 {a : Expr} {f : M Bool} {pos : Pos} (ha : DT T X a f) : DW T X (.BoolOp .And [a] pos) f := pw_and1 ha
theorem dw_or1 {a : Expr} {f : M Bool} {pos : Pos} (ha : DT T X a f) : DW T X (.BoolOp .Or [a] pos) f := pw_or1 ha
theorem dw_and {a b : Expr} {r : List Expr} {f g : M Bool} {pos : Pos} (ha : DT T X a f) (hb : DW T X (.BoolOp .And (b :: r) pos) g) : DW T X (.BoolOp .And (a :: b :: r) pos) (tAndD f g) := by
  refine PWw (pw_and ha hb) fun σ H Q q => ?_
  obtain ⟨G, x, h, x', R, ef, q⟩ := q
  obtain ⟨b, y, e1, ef⟩ := bnd_some ef
  refine ⟨G, x, b, y, R, e1, fun H1 p1 R1 => ?_⟩
  cases b with
  | true => exact ⟨G, y, h, x', R1, ef, fun H2 p2 R2 => q H2 (p1.trans p2) R2⟩
  | false => cases ef; exact q H1 p1 R1
theorem dw_or {a b : Expr} {r : List Expr} {f g : M Bool} {pos : Pos} (ha : DT T X a f) (hb : DW T X (.BoolOp .Or (b :: r) pos) g) : DW T X (.BoolOp .Or (a :: b :: r) pos) (tOrD f g) := by
  refine PWw (pw_or ha hb) fun σ H Q q => ?_
  obtain ⟨G, x, h, x', R, ef, q⟩ := q
  obtain ⟨b, y, e1, ef⟩ := bnd_some ef
  refine ⟨G, x, b, y, R, e1, fun H1 p1 R1 => ?_⟩
  cases b with
  | false => exact ⟨G, y, h, x', R1, ef, fun H2 p2 R2 => q H2 (p1.trans p2) R2⟩
  | true => cases ef; exact q H1 p1 R1
theorem dt_not {a : Expr} {f : M Bool} {pos : Pos} (ha : DT T X a f) : DT T X (.UnaryOp .Not a pos) (tNotD f) := by
  refine PTw (pt_not ha) fun σ H Q q => ?_
  obtain ⟨G, x, h, x', R, ef, q⟩ := q
  obtain ⟨b, y, e1, ef⟩ := bnd_some ef
  cases ef
  exact ⟨G, x, b, _, R, e1, fun H1 p1 R1 => q H1 p1 R1⟩
/-- truth values as values -/
def vAndD (f g : M Hd) : M Hd := bnd f fun h => match h with
  | .val (.bool b) => if b = true then g else ret (.val (.bool false))
  | _ => fail
def vOrD (f g : M Hd) : M Hd := bnd f fun h => match h with
  | .val (.bool b) => if b = true then ret (.val (.bool true)) else g
  | _ => fail
def vNotD (f : M Hd) : M Hd := bnd f fun h => match h with
  | .val (.bool b) => ret (.val (.bool !b))
  | _ => fail
theorem de_one {a : Expr} {f : M Hd} {o : BoolOp} {pos : Pos} (ha : DE T X a f) : DE T X (.BoolOp o [a] pos) f := pe_one ha
theorem de_and {a b : Expr} {r : List Expr} {f g : M Hd} {pos : Pos} (ha : DE T X a f) (hb : DE T X (.BoolOp .And (b :: r) pos) g) : DE T X (.BoolOp .And (a :: b :: r) pos) (vAndD f g) := by
  refine PEw (pe_and ha hb) fun σ H Q q => ?_
  obtain ⟨G, x, h, x', R, ef, q⟩ := q
  obtain ⟨h1, y, e1, ef⟩ := bnd_some ef
  split at ef
  · rename_i b
    refine ⟨G, x, _, y, R, e1, fun v H1 p1 R1 r1 => ?_⟩
    have r1' : Pr X.K H1 v (.bool b) := r1
    cases r1'
    refine ⟨b, rfl, ?_⟩
    cases b with
    | true => exact ⟨G, y, h, x', R1, ef, fun w H2 p2 R2 r2 => q w H2 (p1.trans p2) R2 r2⟩
    | false => cases ef; exact q _ H1 p1 R1 (.bl false)
  · cases ef
theorem de_or {a b : Expr} {r : List Expr} {f g : M Hd} {pos : Pos} (ha : DE T X a f) (hb : DE T X (.BoolOp .Or (b :: r) pos) g) : DE T X (.BoolOp .Or (a :: b :: r) pos) (vOrD f g) := by
  refine PEw (pe_or ha hb) fun σ H Q q => ?_
  obtain ⟨G, x, h, x', R, ef, q⟩ := q
  obtain ⟨h1, y, e1, ef⟩ := bnd_some ef
  split at ef
  · rename_i b
    refine ⟨G, x, _, y, R, e1, fun v H1 p1 R1 r1 => ?_⟩
    have r1' : Pr X.K H1 v (.bool b) := r1
    cases r1'
    refine ⟨b, rfl, ?_⟩
    cases b with
    | false => exact ⟨G, y, h, x', R1, ef, fun w H2 p2 R2 r2 => q w H2 (p1.trans p2) R2 r2⟩
    | true => cases ef; exact q _ H1 p1 R1 (.bl true)
  · cases ef
theorem de_not {a : Expr} {f : M Hd} {pos : Pos} (ha : DE T X a f) : DE T X (.UnaryOp .Not a pos) (vNotD f) := by
  refine PEw (pe_not ha) fun σ H Q q => ?_
  obtain ⟨G, x, h, x', R, ef, q⟩ := q
  obtain ⟨h1, y, e1, ef⟩ := bnd_some ef
  split at ef
  · rename_i b
    cases ef
    refine ⟨G, x, _, _, R, e1, fun v H1 p1 R1 r1 => ?_⟩
    have r1' : Pr X.K H1 v (.bool b) := r1
    cases r1'
    exact ⟨b, rfl, q _ H1 p1 R1 (.bl _)⟩
  · cases ef
def dIf {α : Type} (c : M Bool) (f g : M α) : M α := bnd c fun b => if b = true then f else g
theorem de_if {c a b : Expr} {t : M Bool} {f g : M Hd} {pos : Pos} (hc : DT T X c t) (ha : DE T X a f) (hb : DE T X b g) : DE T X (.IfExp c a b pos) (dIf t f g) := by
  refine PEw (pe_ifExp hc ha hb) fun σ H Q q => ?_
  obtain ⟨G, x, h, x', R, ef, q⟩ := q
  obtain ⟨b, y, e1, ef⟩ := bnd_some ef
  refine ⟨G, x, b, y, R, e1, fun H1 p1 R1 => ?_⟩
  cases b with
  | true => exact ⟨G, y, h, x', R1, ef, fun w H2 p2 R2 r2 => q w H2 (p1.trans p2) R2 r2⟩
  | false => exact ⟨G, y, h, x', R1, ef, fun w H2 p2 R2 r2 => q w H2 (p1.trans p2) R2 r2⟩

/-! ## displays -/
def dTup (f : M (List Hd)) : M Hd := bnd f fun hs => fun x => match escs hs with
  | some ds => if ds.length ≤ 16777216 then some (.val (.tuple ds), x) else none
  | none => none
theorem de_tup {es : List Expr} {f : M (List Hd)} {k : Nat} {pos : Pos} (h : DA T X es f) : DE T X (.Tuple es k pos) (dTup f) := by
  refine PEw (pe_tup h) fun σ H Q q => ?_
  obtain ⟨G, x, h, x', R, ef, q⟩ := q
  obtain ⟨hs, y, e1, ef⟩ := bnd_some ef
  split at ef
  · rename_i ds hd
    split at ef
    · cases ef
      refine ⟨G, x, hs, _, R, e1, fun vs H1 p1 R1 r1 => ?_⟩
      have t := r1.escs hd
      refine ⟨by rw [t.length, sizeLine_eq]; assumption, fun p np => ?_⟩
      have g := Ext.new (o := .tup vs) np
      exact q _ _ (p1.trans g.pers) (R1.ext g) (.tup (.of upd_same) (PrAll.mono g.pers ds t))
    · cases ef
  · cases ef
def dLst (f : M (List Hd)) : M (List PyData) := bnd f fun hs => fun x => match escs hs with
  | some ds => if ds.length ≤ 16777216 then some (ds, x) else none
  | none => none
/-- a new list at p -/
theorem newList {K : PySem.W.Frag} {G : Gh} {σ : L2.St} {H H1 : Hp} {x : Sx} {xs : List V} {ds : List PyData} {p : Addr} {Q : VK} (p1 : Pers H H1) (R1 : Rel K T G σ H1 x) (t : PrAll K H1 xs ds) (np : H1 p = none)
    (q : ∀ a xs H', Pers H H' → Rel K T G σ H' x → H' a = some (.lst xs) → PrAll K H' xs ds → a ≠ G.cl → G.H0 a = none → (∀ (i : Nat) (es : List PyData), x.1[i]? = some (.own es) → σ[i]? ≠ some (some (.ref a))) → Q (.ref a) H') : Q (.ref p) (upd H1 p (.lst xs)) := by
  have g := Ext.new (o := .lst xs) np
  refine q p xs _ (p1.trans g.pers) (R1.ext g) upd_same (PrAll.mono g.pers ds t) (fun z => by rw [z, R1.dk.c] at np; cases np) ?_ fun i es hi z => ?_
  · cases e : G.H0 p with
    | none => rfl
    | some u =>
      have hc : p ≠ G.cl := fun z => by rw [z, R1.dk.c] at np; cases np
      have hd : p ≠ G.dk := fun z => by rw [z, R1.dk.d] at np; cases np
      exact absurd np (R1.grow p u e hd hc).some
  · obtain ⟨b, ys, e1, e2, _⟩ := R1.slot i _ hi
    rw [e1] at z; cases z
    rw [e2] at np; cases np
theorem df_lst {es : List Expr} {f : M (List Hd)} {pos : Pos} (h : DA T X es f) : DF T X (.List es pos) (dLst f) := by
  refine PEw (pe_lst h) fun σ H Q q => ?_
  obtain ⟨G, x, h, x', R, ef, q⟩ := q
  obtain ⟨hs, y, e1, ef⟩ := bnd_some ef
  split at ef
  · rename_i ds hd
    split at ef
    · cases ef
      refine ⟨G, x, hs, _, R, e1, fun vs H1 p1 R1 r1 => ?_⟩
      have t := r1.escs hd
      exact ⟨by rw [t.length, sizeLine_eq]; assumption, fun p np => newList p1 R1 t np q⟩
    · cases ef
  · cases ef
end
end DD
namespace DD
open PySem PySem.Spec PyProof.Rows L2

/-! ## what a def means: data in, data out, the deck goes along -/
abbrev FD := List Hd → Dk → Option (PyData × Dk)
/-- an argument: data or the deck -/
def ArgOk (K : PySem.W.Frag) (dk : Addr) (H : Hp) (v : V) : Hd → Prop
  | .val d => Pr K H v d
  | .deck => v = .ref dk
  | .own _ => False
inductive ArgsOk (K : PySem.W.Frag) (dk : Addr) (H : Hp) : List V → List Hd → Prop
  | nil : ArgsOk K dk H [] []
  | cons {v : V} {vs : List V} {h : Hd} {hs : List Hd} (r : ArgOk K dk H v h) (t : ArgsOk K dk H vs hs) : ArgsOk K dk H (v :: vs) (h :: hs)
theorem ArgsOk.length {K : PySem.W.Frag} {dk : Addr} {H : Hp} : ∀ {vs : List V} {hs : List Hd}, ArgsOk K dk H vs hs → vs.length = hs.length
  | _, _, .nil => rfl
  | _, _, .cons _ t => by rw [List.length_cons, List.length_cons, t.length]
theorem ArgsOk.append {K : PySem.W.Frag} {dk : Addr} {H : Hp} : ∀ {vs us : List V} {hs gs : List Hd}, ArgsOk K dk H vs hs → ArgsOk K dk H us gs → ArgsOk K dk H (vs ++ us) (hs ++ gs)
  | _, _, _, _, .nil, h => h
  | _, _, _, _, .cons r t, h => .cons r (t.append h)
theorem ArgsOk.get {K : PySem.W.Frag} {dk : Addr} {H : Hp} : ∀ {vs : List V} {hs : List Hd} {i : Nat} {h : Hd}, ArgsOk K dk H vs hs → hs[i]? = some h → ∃ v, vs[i]? = some v ∧ ArgOk K dk H v h
  | _, _, _, _, .nil, e => by simp at e
  | _, _, 0, _, .cons r _, e => by simp at e; subst e; exact ⟨_, rfl, r⟩
  | _, _, i + 1, _, .cons _ t, e => by
    obtain ⟨v, h1, h2⟩ := ArgsOk.get (i := i) t (by simpa using e)
    exact ⟨v, by simpa using h1, h2⟩
/-- the heap is as it was but for the deck and new objects -/
def Grow (dk cl : Addr) (H H' : Hp) : Prop := ∀ a o, H a = some o → a ≠ dk → a ≠ cl → KeepO o (H' a)
theorem Grow.pers {T : TB} {dk cl : Addr} {H H' : Hp} {k : Dk} (g : Grow dk cl H H') (R : RelD T dk cl H k) : Pers H H' := fun a o h i => by
  refine (g a o h (fun z => ?_) fun z => ?_).eq fun ps z => by rw [z] at i; cases i
  · rw [z, R.d] at h; cases h; cases i
  · rw [z, R.c] at h; cases h; cases i
def spD (K : PySem.W.Frag) (T : TB) (n : Nat) (F : FD) : Sp := fun vs H Q _ => ∃ dk cl hs k r k', RelD T dk cl H k ∧ ArgsOk K dk H vs hs ∧ hs.length = n ∧ F hs k = some (r, k') ∧
  ∀ v H', Grow dk cl H H' → RelD T dk cl H' k' → Pr K H' v r → Q v H'
/-- room for calls; no guard of a builtin's stands below -/
structure RoomG (k : Nat) (A : Around) : Prop where
  rm : Room k A
  gd : A.guards = some []
theorem RoomG.mono {j k : Nat} {A : Around} (r : RoomG k A) (h : j ≤ k) : RoomG j A := ⟨r.rm.mono h, r.gd⟩
theorem RoomG.deeper {k : Nat} {A : Around} (r : RoomG (k + 1) A) (env : Env) : RoomG k (A.deeper env) := ⟨r.rm.deeper env, r.gd⟩
/-- a def's promise where no guard stands below -/
structure FnG (P : Program) (w : World) (K : PySem.W.Frag) (mg : Str → Option Value) (base : Heap) (CX : CXT) (k : Nat) (f : Addr) (fd : FuncData) (ps : List Str) (sp : Sp) : Prop where
  len : ∀ vs H Q E, sp vs H Q E → vs.length = ps.length
  run : ∀ (A : Around) (outer : List Env) (s : Shared) (H : Hp) (args : Args) (us : List Value) (vs : List V) (Q : VK) (E : XK), RoomG k A → Env0 P w K mg base A outer s H →
    BindsTo s fd args (ps.zip us) → Vals vs us → sp vs H Q E → codeAny (model P w) A (.call (.ref f) args) (CR CX outer P w H s Q E) s
theorem FnG.imp {P : Program} {w : World} {K : PySem.W.Frag} {mg : Str → Option Value} {base : Heap} {CX : CXT} {k : Nat} {f : Addr} {fd : FuncData} {ps : List Str} {sp sp' : Sp} (F : FnG P w K mg base CX k f fd ps sp)
    (h : ∀ vs H Q E, sp' vs H Q E → sp vs H Q E) : FnG P w K mg base CX k f fd ps sp' :=
  ⟨fun vs H Q E q => F.len vs H Q E (h _ _ _ _ q), fun A outer s H args us vs Q E r e b v q => F.run A outer s H args us vs Q E r e b v (h _ _ _ _ q)⟩
section
variable {X : Cx} {CX : CXT} {k : Nat} {f : Addr} {fd : FuncData} {ps : List Str} {sp : Sp} {E : XK}
theorem runG {pins : List (Addr × Obj)} {σ : L2.St} {H : Hp} {s : Shared} {Q : VK} {args : Args} {us : List Value} {vs : List V} (F : FnG X.prog X.w X.K X.mg X.base CX k f fd ps sp) (hr : RoomG k X.A) (hx : Passes CX X E) (I : Inv X pins σ H s)
    (hb : BindsTo s fd args (ps.zip us)) (r : Vals vs us) (h : sp vs H Q E) : codeAny (model X.prog X.w) X.A (.call (.ref f) args) (fun r s' => match r with
      | .ok (.ret u) => EP X pins σ Q u s'
      | .ok _ => False
      | .error e => X.xe e s') s := by
  refine codeAny_mono (F.run X.A X.stack s H args us vs Q E hr I.env0 hb r h) fun r s' hq => ?_
  match r, hq with
  | .ok (.ret u), hq => exact I.after hq
  | .error e, hq => exact hx pins σ H s e s' I hq
theorem pe_callG {x : Str} {p pos : Pos} {e : Expr} {es : List Expr} {t : TA} (F : FnG X.prog X.w X.K X.mg X.base CX k f fd ps sp) (hr : RoomG k X.A) (hg : Gl X x) (hm : X.mg x = some (.ref f)) (hk : PySem.W.keepIn X.K (.ref f) = true)
    (hb : Binds X.K fd ps []) (hx : Passes CX X E) (ha : PA X (e :: es) t) (hdb : (x == ("__debug__" : Str)) = false := by decide) (he : starEach (e :: es) X.env = (false, eval e X.env) :: starEach es X.env := by rfl)
    (hpl : (backTo pos (starEach es X.env)).any (·.1) = false := by rfl) : PE X (.Call (.Name x p) (e :: es) [] pos) (fun σ H Q => t σ H fun vs H1 => sp vs H1 Q E) := by
  refine ⟨fun pins s σ H Q I h => wpAny_Call_Name_kw (ld_glob I hg hm ?_ hdb)⟩
  refine PySem.W.callWith_K (h₀ := X.base) I.ok.mod.kin hk (thn (ha.run pos pins s σ H _ I h) fun us s1 z => ?_) he hpl
  obtain ⟨vs, H1, I1, r, q⟩ := z
  refine ⟨I1.kIn, ?_⟩
  have hl : (us ++ []).length = ps.length := by
    rw [List.append_nil, ← r.length]
    exact F.len _ _ _ _ q
  have b := hb s1 us I1.kIn hl
  rw [List.append_nil] at b
  refine wpAny_call (codeAny_mono (runG F hr hx I1 b r q) fun r s' hq => ?_)
  match r, hq with
  | .ok (.ret u), hq => exact hq
  | .error e, hq => exact hq
end
theorem fnG_of {CX : CXT} {P : Program} {w : World} {K : PySem.W.Frag} {mg : Str → Option Value} {base : Heap} {k : Nat} {f : Addr} {name qual : Str} {params : Arguments} {body : List Stmt} {scope : Scope} {dV kV doc pm cdv ct oc : Value}
    {an od : Option Addr} {osl : Array (Option Value)} {N ps : List Str} {sp : Sp} (lk : K.lookup f = some ⟨oc, od, .func (PySem.W.fnOf name qual params body scope dV kV doc pm an cdv ct), osl⟩) (hcd : PySem.W.codeIn K cdv qual = true)
    (S : FnScope N ps scope) (len : ∀ vs H Q E, sp vs H Q E → vs.length = ps.length)
    (hbody : ∀ (A : Around) (outer : List Env) (s : Shared) (H : Hp) (vs : List V) (Q : VK) (E : XK), RoomG k (A.deeper (envOfC qual scope s.heap.objs.size f cdv)) → sp vs H Q E → ∃ t, PSs (cxOf CX P w K mg base N qual scope f cdv A outer s H E) body t ∧
      t { nx := fun _ H' => Q .non H', rt := Q } (start N vs) H) : FnG P w K mg base CX (k + 1) f (PySem.W.fnOf name qual params body scope dV kV doc pm an cdv ct) ps sp := by
  refine ⟨len, fun A outer s H args us vs Q E hr e0 hb r q => ?_⟩
  have KX : K.In s.heap := e0.mod.kin.keeps fun b o e => (e0.bs b o e).1
  have lim : s.heap.NoLimit := e0.mod.nolimit.keeps fun b o e => (e0.bs b o e).1
  have par : ∀ y ∈ ps.zip us, scope.names.lookup y.1 = some .local ∨ (scope.names.lookup y.1 = some .cell ∧ ((cellsFrom (s.heap.objs.size + 1) scope.names []).lookup y.1).isSome = true) := fun y hy =>
    (S.par y.1 (List.of_mem_zip (a := y.1) (b := y.2) hy).1).imp id fun z => ⟨z, PySem.W.cellsFrom_some _ _ _ (.inl z)⟩
  refine codeAny_call_function hr.rm.depth (KX _ _ lk) rfl S.co S.gen rfl (PySem.W.codeRec_of KX hcd) (hb _ _ _ _ ?_)
  refine wpAny_newFunctionEnv_cells S.kind par fun env he s1 x => ?_
  subst he
  refine ⟨lim.keeps x.toInCall.keep, codeAny_func ?_⟩
  obtain ⟨t, ht, hq⟩ := hbody A outer s H vs Q E (hr.deeper _) q
  have I := inv_start (CX := CX) (E := E) S hr.rm.hd e0 (len _ _ _ _ q) r x
  refine wpAny_mono (ht.run [] s1 (start N vs) H _ I hq) (fun fl s' z => ?_) fun _ _ z => z
  have fin : ∀ {σ' : L2.St} {H' : Hp} {v : V} {u : Value}, Inv (cxOf CX P w K mg base N qual scope f cdv A outer s H E) [] σ' H' s' → RelV v u → Q v H' → CE outer P w H s Q u s' := fun {_ H' v _} J rv q => ⟨v, H', J.os, J.bare, J.base, J.hok, rv, q⟩
  cases fl with
  | ret u =>
    obtain ⟨v, _, H', J, rv, qv⟩ := z
    exact fin J rv qv
  | next =>
    obtain ⟨_, H', J, qv⟩ := z
    exact fin (v := V.non) (u := Value.none) J rfl qv
  | brk =>
    obtain ⟨_, _, _, bad⟩ := z
    exact False.elim bad
  | cont =>
    obtain ⟨_, _, _, bad⟩ := z
    exact False.elim bad
abbrev FnD (T : TB) (P : Program) (w : World) (K : PySem.W.Frag) (mg : Str → Option Value) (base : Heap) (k : Nat) (f : Addr) (fd : FuncData) (ps : List Str) (F : FD) : Prop := FnG P w K mg base CX0 k f fd ps (spD K T ps.length F)
theorem FnD.le {T : TB} {P : Program} {w : World} {K : PySem.W.Frag} {mg : Str → Option Value} {base : Heap} {k : Nat} {f : Addr} {fd : FuncData} {ps : List Str} {F F' : FD} (h : FnD T P w K mg base k f fd ps F) (le : ∀ hs d r, F' hs d = some r → F hs d = some r) : FnD T P w K mg base k f fd ps F' :=
  FnG.imp h fun vs H Q E ⟨dk, cl, hs, k, r, k', a, b, c, d, e⟩ => ⟨dk, cl, hs, k, r, k', a, b, c, le _ _ _ d, e⟩

def argOf : Hd → Option Hd
  | .val d => some (.val d)
  | .deck => some .deck
  | .own _ => none
def argsOf : List Hd → Option (List Hd)
  | [] => some []
  | h :: hs => match argOf h, argsOf hs with
    | some d, some ds => some (d :: ds)
    | _, _ => none
theorem args_ok {K : PySem.W.Frag} {G : Gh} {σ : L2.St} {H : Hp} : ∀ {vs : List V} {hs as : List Hd}, RHs K G σ H vs hs → argsOf hs = some as → ArgsOk K G.dk H vs as
  | _, _, _, .nil, e => by cases e; exact .nil
  | _, h :: hs, as, .cons r t, e => by
    unfold argsOf at e
    split at e
    · rename_i d ds h1 h2
      cases e
      refine .cons ?_ (args_ok t h2)
      cases h with
      | val c => cases h1; exact r
      | deck => cases h1; exact r
      | own i => cases h1
    · cases e
def dCall (F : FD) (f : M (List Hd)) : M Hd := bnd f fun hs => fun x => match argsOf hs with
  | some as => match F as x.2 with
    | some (r, k) => some (.val r, (x.1, k))
    | none => none
  | none => none
section
variable {X : Cx} {T : TB}
/-- behind a call -/
theorem Rel.called {K : PySem.W.Frag} {G : Gh} {σ : L2.St} {H H' : Hp} {x : Sx} {k : Dk} (R : Rel K T G σ H x) (g : Grow G.dk G.cl H H') (d : RelD T G.dk G.cl H' k) : Rel K T G σ H' (x.1, k) := by
  refine ⟨d, fun a o h h1 h2 => (R.grow a o h h1 h2).trans fun u z => g a u z h1 h2, R.len, fun i s hs => ?_, R.sep⟩
  have q := R.slot i s hs
  cases s with
  | no => exact q
  | val c => obtain ⟨u, h1, h2⟩ := q; exact ⟨u, h1, Pr.mono (g.pers R.dk) c h2⟩
  | deck => exact q
  | own ds =>
    obtain ⟨a, ys, h1, h2, h3, h4, h5⟩ := q
    refine ⟨a, ys, h1, (g a _ h2 (fun z => ?_) h4).eq (fun ps z => by cases z), PrAll.mono (g.pers R.dk) ds h3, h4, h5⟩
    rw [z, R.dk.d] at h2; cases h2
theorem rd_call {n : Nat} {F : FD} {f : M (List Hd)} (hn : ∀ x hs y, f x = some (hs, y) → hs.length = n) : ∀ σ H Q, rdE X.K T (dCall F f) σ H Q → rdA X.K T f σ H fun vs H1 => spD X.K T n F vs H1 Q E0 := fun σ H Q q => by
  obtain ⟨G, x, h, x', R, ef, q⟩ := q
  obtain ⟨hs, y, e1, ef⟩ := bnd_some ef
  split at ef
  · rename_i as ha
    split at ef
    · rename_i r k hF
      cases ef
      refine ⟨G, x, hs, y, R, e1, fun vs H1 p1 R1 r1 => ⟨G.dk, G.cl, as, y.2, r, k, R1.dk, args_ok r1 ha, ?_, hF, fun v H2 g d p => q v H2 (p1.trans (g.pers R1.dk)) (R1.called g d) p⟩⟩
      rw [← (args_ok r1 ha).length, r1.length]
      exact hn x hs y e1
    · cases ef
  · cases ef
/-- f(e, ..) of a def of the text -/
theorem de_call {k : Nat} {a : Addr} {fd : FuncData} {ps : List Str} {F : FD} {x : Str} {p pos : Pos} {e : Expr} {es : List Expr} {f : M (List Hd)} (Fo : FnD T X.prog X.w X.K X.mg X.base k a fd ps F) (hr : RoomG k X.A) (hg : Gl X x) (hm : X.mg x = some (.ref a)) (hk : PySem.W.keepIn X.K (.ref a) = true) (hb : Binds X.K fd ps [])
    (ha : DA T X (e :: es) f) (hn : ∀ x hs y, f x = some (hs, y) → hs.length = ps.length) (hdb : (x == ("__debug__" : Str)) = false := by decide) (he : starEach (e :: es) X.env = (false, eval e X.env) :: starEach es X.env := by rfl) (hpl : (backTo pos (starEach es X.env)).any (·.1) = false := by rfl) :
    DE T X (.Call (.Name x p) (e :: es) [] pos) (dCall F f) := by
  exact PEw (pe_callG Fo hr hg hm hk hb pass0 ha hdb he hpl) (rd_call hn)
theorem len_nil : ∀ x hs y, aNil x = some (hs, y) → hs.length = 0 := fun x hs y e => by cases e; rfl
theorem len_cons {f : M Hd} {g : M (List Hd)} {n : Nat} (h : ∀ x hs y, g x = some (hs, y) → hs.length = n) : ∀ x hs y, aCons f g x = some (hs, y) → hs.length = n + 1 := fun x hs y e => by
  obtain ⟨h1, z, _, e⟩ := bnd_some e
  obtain ⟨h2, z2, e2, e⟩ := bnd_some e
  cases e
  rw [List.length_cons, h _ _ _ e2]

/-! ## a def by its body -/
def slotOf : Hd → Slot
  | .val d => .val d
  | .deck => .deck
  | .own _ => .no
/-- the slots at the entry -/
def startD (n : Nat) (hs : List Hd) : List Slot := hs.map slotOf ++ List.replicate (n - hs.length) .no
/-- what the body makes of the arguments -/
def runD (n : Nat) (b : M Fl) : FD := fun hs k => match b (startD n hs, k) with
  | some (.rt d, y) => some (d, y.2)
  | some (.nx, y) => some (.none, y.2)
  | _ => none
theorem ArgsOk.no_own {K : PySem.W.Frag} {dk : Addr} {H : Hp} {vs : List V} {hs : List Hd} (h : ArgsOk K dk H vs hs) {n i : Nat} {ds : List PyData} (e : (startD n hs)[i]? = some (.own ds)) : False := by
  unfold startD at e
  by_cases hi : i < (hs.map slotOf).length
  · rw [List.getElem?_append_left hi, List.getElem?_map] at e
    cases hq : hs[i]? with
    | none => rw [hq] at e; cases e
    | some z => rw [hq] at e; cases z <;> cases e
  · rw [List.getElem?_append_right (by omega), List.getElem?_replicate] at e
    split at e <;> cases e
theorem rel_start {K : PySem.W.Frag} {dk cl : Addr} {H : Hp} {N : List Str} {vs : List V} {hs : List Hd} {k : Dk} (R : RelD T dk cl H k) (h : ArgsOk K dk H vs hs) (hl : hs.length ≤ N.length) : Rel K T ⟨dk, cl, H⟩ (L2.start N vs) H (startD N.length hs, k) := by
  have e := h.length
  refine ⟨R, fun a o q _ _ => .inl q, ?_, fun i s hs' => ?_, fun i j a ds es _ e1 => (h.no_own e1).elim⟩
  · show (startD N.length hs).length = (L2.start N vs).length
    unfold startD L2.start
    rw [List.length_append, List.length_append, List.length_map, List.length_map, List.length_replicate, List.length_replicate, e]
  · have hs' : (startD N.length hs)[i]? = some s := hs'
    unfold startD at hs'
    by_cases hi : i < (hs.map slotOf).length
    · rw [List.getElem?_append_left hi, List.getElem?_map] at hs'
      rw [List.length_map] at hi
      cases hq : hs[i]? with
      | none => rw [hq] at hs'; cases hs'
      | some z =>
        rw [hq] at hs'
        obtain ⟨v, h1, h2⟩ := h.get hq
        have hv : (L2.start N vs)[i]? = some (some v) := by
          unfold L2.start
          rw [List.getElem?_append_left (by rw [List.length_map]; omega), List.getElem?_map, h1]
          rfl
        rw [hv]
        cases z with
        | val d => cases hs'; exact ⟨v, rfl, h2⟩
        | deck =>
          cases hs'
          have h2 : v = .ref dk := h2
          subst h2
          rfl
        | own i => cases hs'; trivial
    · rw [List.getElem?_append_right (by omega), List.getElem?_replicate] at hs'
      split at hs'
      · cases hs'; trivial
      · cases hs'
theorem fn_d {P : Program} {w : World} {K : PySem.W.Frag} {mg : Str → Option Value} {base : Heap} {x qual : Str} {st : Stmt} {f : Addr} {fd : FuncData} {N ps : List Str} {k : Nat} {b : M Fl} (F : Fun K x qual st f fd) (S : FnScope N ps (defScope st))
    (hbody : ∀ (cdv : Value) (A : Around) (outer : List Env) (s : Shared) (H : Hp) (E : XK), RoomG k (A.deeper (envOfC qual (defScope st) s.heap.objs.size f cdv)) → DSs T (cxOf CX0 P w K mg base N qual (defScope st) f cdv A outer s H E).nox (defBody st) b) :
    FnD T P w K mg base (k + 1) f fd ps (runD N.length b) := by
  have hpl : ps.length ≤ N.length := by have := congrArg List.length S.pre; rw [List.length_take] at this; omega
  obtain ⟨oc, od, kV, doc, pm, an, cdv, ct, osl, rfl, lk, hcd⟩ := F.ex
  refine fnG_of lk hcd S (fun vs H Q E h => ?_) fun A outer s H vs Q E hr h => ?_
  · obtain ⟨dk, cl, hs, k, r, k', R, a, hl, _⟩ := h
    rw [a.length, hl]
  · obtain ⟨dk, cl, hs, k, r, k', R, a, hl, e, q⟩ := h
    refine ⟨_, (hbody cdv A outer s H E hr).nox, ?_⟩
    have R0 := rel_start (K := K) (N := N) R a (by omega)
    unfold runD at e
    split at e
    · rename_i d y eb
      cases e
      refine ⟨⟨dk, cl, H⟩, _, _, _, R0, eb, fun σ' H' p R' v hv => ?_⟩
      exact q v H' (fun b o h h1 h2 => R'.grow b o h h1 h2) R'.dk hv
    · rename_i y eb
      cases e
      refine ⟨⟨dk, cl, H⟩, _, _, _, R0, eb, fun σ' H' p R' => ?_⟩
      exact q .non H' (fun b o h h1 h2 => R'.grow b o h h1 h2) R'.dk .non
    · cases e

/-! ## statements -/
def sNil : M Fl := ret .nx
def sCons (f g : M Fl) : M Fl := bnd f fun fl => match fl with
  | .nx => g
  | _ => ret fl
theorem dss_nil : DSs T X [] sNil := by
  refine PSsw pss_nil fun D σ H q => ?_
  obtain ⟨G, x, fl, x', R, e, q⟩ := q
  cases e
  exact q σ H (Pers.refl H) R
theorem FlOk.swap {K : PySem.W.Frag} {D : Ends} {σ : L2.St} {H : Hp} {fl : Fl} {u : L2.St → Hp → Prop} (h : FlOk K D σ H fl) (n : fl ≠ .nx) : FlOk K { D with nx := u } σ H fl := by
  cases fl with
  | nx => exact absurd rfl n
  | bk => exact h
  | ct => exact h
  | rt d => exact h
theorem dss_cons {st : Stmt} {r : List Stmt} {f g : M Fl} (h1 : DS T X st f) (h2 : DSs T X r g) : DSs T X (st :: r) (sCons f g) := by
  refine PSsw (pss_cons h1 h2) fun D σ H q => ?_
  obtain ⟨G, x, fl, x', R, e, q⟩ := q
  obtain ⟨f1, y, e1, e⟩ := bnd_some e
  cases f1 with
  | nx => exact ⟨G, x, .nx, y, R, e1, fun σ1 H1 p1 R1 => ⟨G, y, fl, x', R1, e, fun σ2 H2 p2 R2 => q σ2 H2 (p1.trans p2) R2⟩⟩
  | bk => cases e; exact ⟨G, x, .bk, _, R, e1, fun σ1 H1 p1 R1 => (q σ1 H1 p1 R1).swap (by intro z; cases z)⟩
  | ct => cases e; exact ⟨G, x, .ct, _, R, e1, fun σ1 H1 p1 R1 => (q σ1 H1 p1 R1).swap (by intro z; cases z)⟩
  | rt d => cases e; exact ⟨G, x, .rt d, _, R, e1, fun σ1 H1 p1 R1 => (q σ1 H1 p1 R1).swap (by intro z; cases z)⟩
theorem ds_pass {pos : Pos} : DS T X (.Pass pos) sNil := by
  refine PSw ps_pass fun D σ H q => ?_
  obtain ⟨G, x, fl, x', R, e, q⟩ := q
  cases e
  exact q σ H (Pers.refl H) R
theorem ds_break {pos : Pos} : DS T X (.Break pos) (ret .bk) := by
  refine PSw ps_break fun D σ H q => ?_
  obtain ⟨G, x, fl, x', R, e, q⟩ := q
  cases e
  exact q σ H (Pers.refl H) R
theorem ds_continue {pos : Pos} : DS T X (.Continue pos) (ret .ct) := by
  refine PSw ps_continue fun D σ H q => ?_
  obtain ⟨G, x, fl, x', R, e, q⟩ := q
  cases e
  exact q σ H (Pers.refl H) R
/-- a statement that is not met -/
theorem ds_never {st : Stmt} : DS T X st fail := PSw ps_never fun D σ H ⟨G, x, fl, x', R, e, q⟩ => by cases e
def sRet (f : M Hd) : M Fl := bnd f fun h => bnd (lift (esc h)) fun d => ret (.rt d)
theorem ds_ret {e : Expr} {f : M Hd} {pos : Pos} (h : DE T X e f) : DS T X (.Return (some e) pos) (sRet f) := by
  refine PSw (ps_ret h) fun D σ H q => ?_
  obtain ⟨G, x, fl, x', R, e, q⟩ := q
  obtain ⟨h1, y, e1, e⟩ := bnd_some e
  obtain ⟨d, z, e2, e3⟩ := bnd_some e
  obtain ⟨hd, rfl⟩ := lift_some e2
  cases e3
  exact ⟨G, x, h1, _, R, e1, fun v H1 p1 R1 r1 => q σ H1 p1 R1 v (r1.esc hd)⟩
theorem ds_retN {pos : Pos} : DS T X (.Return none pos) (ret (.rt .none)) := by
  refine PSw ps_retN fun D σ H q => ?_
  obtain ⟨G, x, fl, x', R, e, q⟩ := q
  cases e
  exact q σ H (Pers.refl H) R .non .non
theorem ds_if {c : Expr} {a b : List Stmt} {t : M Bool} {f g : M Fl} {pos : Pos} (hc : DT T X c t) (ha : DSs T X a f) (hb : DSs T X b g) : DS T X (.If c a b pos) (dIf t f g) := by
  refine PSw (ps_if hc ha hb) fun D σ H q => ?_
  obtain ⟨G, x, fl, x', R, e, q⟩ := q
  obtain ⟨b, y, e1, e⟩ := bnd_some e
  refine ⟨G, x, b, y, R, e1, fun H1 p1 R1 => ?_⟩
  cases b with
  | true => exact ⟨G, y, fl, x', R1, e, fun σ2 H2 p2 R2 => q σ2 H2 (p1.trans p2) R2⟩
  | false => exact ⟨G, y, fl, x', R1, e, fun σ2 H2 p2 R2 => q σ2 H2 (p1.trans p2) R2⟩
def sDrop (f : M Hd) : M Fl := bnd f fun _ => ret .nx
theorem ds_drop {e : Expr} {f : M Hd} {pos : Pos} (h : DE T X e f) (hs : swapsWith e none pos.line X.env = pure false := by rfl) : DS T X (.Expr e pos) (sDrop f) := by
  refine PSw (ps_expr h hs) fun D σ H q => ?_
  obtain ⟨G, x, fl, x', R, e, q⟩ := q
  obtain ⟨h1, y, e1, e⟩ := bnd_some e
  cases e
  exact ⟨G, x, h1, _, R, e1, fun v H1 p1 R1 _ => q σ H1 p1 R1⟩

/-! ## targets and assignments -/
def putS (i : Nat) (s : Slot) (x : Sx) : Sx := (x.1.set i s, x.2)
theorem Rel.put {K : PySem.W.Frag} {G : Gh} {σ : L2.St} {H : Hp} {x : Sx} {i : Nat} {v : V} {d : PyData} (R : Rel K T G σ H x) (h : Pr K H v d) : Rel K T G (σ.set i (some v)) H (putS i (.val d) x) := by
  refine ⟨R.dk, R.grow, by rw [List.length_set]; show (x.1.set i _).length = _; rw [List.length_set]; exact R.len, fun j s hs => ?_, fun j l a ds es hn e1 e2 => ?_⟩
  · have hs : (x.1.set i (.val d))[j]? = some s := hs
    by_cases hj : i = j
    · subst hj
      by_cases hl : i < x.1.length
      · rw [List.getElem?_set_self hl] at hs
        cases hs
        rw [List.getElem?_set_self (by rw [← R.len]; exact hl)]
        exact ⟨v, rfl, h⟩
      · rw [List.getElem?_eq_none (by rw [List.length_set]; omega)] at hs; cases hs
    · rw [List.getElem?_set_ne hj] at hs
      rw [List.getElem?_set_ne hj]
      exact R.slot j s hs
  · have f : ∀ {m : Nat} {ts : List PyData}, (x.1.set i (.val d))[m]? = some (.own ts) → i ≠ m ∧ x.1[m]? = some (.own ts) := fun {m ts} z => by
      by_cases hm : i = m
      · subst hm
        by_cases hl : i < x.1.length
        · rw [List.getElem?_set_self hl] at z; cases z
        · rw [List.getElem?_eq_none (by rw [List.length_set]; omega)] at z; cases z
      · rw [List.getElem?_set_ne hm] at z
        exact ⟨hm, z⟩
    obtain ⟨n1, q1⟩ := f e1
    obtain ⟨n2, q2⟩ := f e2
    rw [List.getElem?_set_ne n1, List.getElem?_set_ne n2]
    exact R.sep j l a ds es hn q1 q2
def gN (i : Nat) : PyData → M Unit := fun d x => some ((), putS i (.val d) x)
theorem dg_name {e : Expr} {i : Nat} (h : PG X e (gName i)) : DG T X e [i] (gN i) := by
  refine PGw h fun v σ H Q q => ?_
  obtain ⟨G, x, d, x', R, p, e, q⟩ := q
  cases e
  exact q _ H ⟨List.length_set, fun j hj => List.getElem?_set_ne fun z => hj (by simp [z])⟩ (Pers.refl H) (R.put p)
def gsNil : List PyData → M Unit := fun ds => match ds with
  | [] => ret ()
  | _ => fail
def gsCons (g : PyData → M Unit) (r : List PyData → M Unit) : List PyData → M Unit := fun ds => match ds with
  | [] => fail
  | d :: ds => bnd (g d) fun _ => r ds
def rdGs (K : PySem.W.Frag) (T : TB) (js : List Nat) (g : List PyData → M Unit) : TGs := fun vs σ H Q => ∃ G x ds x', Rel K T G σ H x ∧ PrAll K H vs ds ∧ g ds x = some ((), x') ∧ ∀ σ' H', But js σ σ' → Pers H H' → Rel K T G σ' H' x' → Q σ' H'
abbrev DGs (T : TB) (X : Cx) (es : List Expr) (js : List Nat) (g : List PyData → M Unit) : Prop := PGs X es (rdGs X.K T js g)
theorem PGsw {es : List Expr} {t t' : TGs} (h : PGs X es t) (k : ∀ v σ H Q, t' v σ H Q → t v σ H Q) : PGs X es t' := ⟨fun pins s σ H v u Q I r q => h.run pins s σ H v u Q I r (k v σ H Q q)⟩
theorem dgs_nil : DGs T X [] [] gsNil := by
  refine PGsw pgs_nil fun vs σ H Q q => ?_
  obtain ⟨G, x, ds, x', R, p, e, q⟩ := q
  cases p with
  | nil => cases e; exact ⟨rfl, q _ H ⟨rfl, fun _ _ => rfl⟩ (Pers.refl H) R⟩
  | cons a t => cases e
theorem dgs_cons {e : Expr} {es : List Expr} {js ks : List Nat} {g : PyData → M Unit} {r : List PyData → M Unit} (h1 : DG T X e js g) (h2 : DGs T X es ks r) (hs : (assignEach (e :: es) X.env).map (·.2) = assign e X.env :: (assignEach es X.env).map (·.2) := by rfl) : DGs T X (e :: es) (js ++ ks) (gsCons g r) := by
  refine PGsw (pgs_cons h1 h2 hs) fun vs σ H Q q => ?_
  obtain ⟨G, x, ds, x', R, p, e, q⟩ := q
  cases p with
  | nil => cases e
  | @cons v vs d ds a t =>
    obtain ⟨⟨⟩, y, e1, e⟩ := bnd_some e
    exact ⟨v, vs, rfl, G, x, d, y, R, a, e1, fun σ1 H1 b1 p1 R1 => ⟨G, y, ds, x', R1, PrAll.mono p1 ds t, e, fun σ2 H2 b2 p2 R2 => q σ2 H2 ⟨b2.1.trans b1.1, fun j hj => (b2.2 j fun z => hj (by simp [z])).trans (b1.2 j fun z => hj (by simp [z]))⟩ (p1.trans p2) R2⟩⟩
def gT (n : Nat) (g : List PyData → M Unit) : PyData → M Unit := fun d => match d with
  | .tuple ds => if ds.length = n then g ds else fail
  | _ => fail
theorem dg_tup {es : List Expr} {js : List Nat} {k n : Nat} {pos : Pos} {g : List PyData → M Unit} (hc : X.calm = true) (h : DGs T X es js g) (hn : (assignEach es X.env).length = n := by rfl) (hst : (assignEach es X.env).findIdx? (·.1) = none := by rfl) : DG T X (.Tuple es k pos) js (gT n g) := by
  refine PGw (pg_tup hc h hn hst) fun v σ H Q q => ?_
  obtain ⟨G, x, d, x', R, p, e, q⟩ := q
  cases p with
  | @tup a xs ds s t =>
    have e : (if ds.length = n then g ds else fail) x = some ((), x') := e
    split at e
    · rename_i hl
      exact ⟨a, xs, rfl, s, by rw [t.length, hl], G, x, ds, x', R, t, e, q⟩
    · cases e
  | non => cases e
  | bl b => cases e
  | int i => cases e
  | str z => cases e
  | lst s t => cases e
  | dic s t => cases e
  | dit s n z => cases e
def sAsg (f : M Hd) (g : PyData → M Unit) : M Fl := bnd f fun h => bnd (lift (esc h)) fun d => bnd (g d) fun _ => ret .nx
theorem rd_asg {f : M Hd} {js : List Nat} {g : PyData → M Unit} : ∀ D σ H, rdS X.K T (sAsg f g) D σ H → tAsg (rdE X.K T f) (rdG X.K T js g) D σ H := fun D σ H q => by
  obtain ⟨G, x, fl, x', R, e, q⟩ := q
  obtain ⟨h1, y, e1, e⟩ := bnd_some e
  obtain ⟨d, z, e2, e3⟩ := bnd_some e
  obtain ⟨hd, rfl⟩ := lift_some e2
  obtain ⟨⟨⟩, z2, e4, e5⟩ := bnd_some e3
  cases e5
  exact ⟨G, x, h1, _, R, e1, fun v H1 p1 R1 r1 => ⟨G, _, d, _, R1, r1.esc hd, e4, fun σ2 H2 _ p2 R2 => q σ2 H2 (p1.trans p2) R2⟩⟩
theorem ds_asg {tg e : Expr} {js : List Nat} {f : M Hd} {g : PyData → M Unit} {pos : Pos} (he : DE T X e f) (hg : DG T X tg js g) (hs : swapsWithSole [tg] e pos.line X.env = pure false := by rfl) (hw : swappedStores [tg] e X.env = pure none := by rfl)
    (h1 : (assignEach [tg] X.env).map (·.2) = [assign tg X.env] := by rfl) : DS T X (.Assign [tg] e pos) (sAsg f g) := PSw (ps_asg he hg hs hw h1) rd_asg
theorem ds_set {i : Nat} {x : Str} {e : Expr} {f : M Hd} {pos pos' : Pos} (hN : X.N.Nodup) (hi : X.N[i]? = some x) (hx : Loc X.env.scope x) (he : DE T X e f) (hs : swapsWith e (some (.Name x pos')) pos.line X.env = pure false := by rfl)
    (hf : X.fn x = true ∨ X.env.scope.names.lookup x = some .local := by first | exact .inl rfl | exact .inr rfl | assumption) : DS T X (.Assign [.Name x pos'] e pos) (sAsg f (gN i)) := by
  refine PSw (ps_set hN hi hx he hs hf) fun D σ H q => ?_
  obtain ⟨G, x, fl, x', R, e, q⟩ := q
  obtain ⟨h1, y, e1, e⟩ := bnd_some e
  obtain ⟨d, z, e2, e3⟩ := bnd_some e
  obtain ⟨hd, rfl⟩ := lift_some e2
  obtain ⟨⟨⟩, z2, e4, e5⟩ := bnd_some e3
  cases e5
  cases e4
  exact ⟨G, x, h1, _, R, e1, fun v H1 p1 R1 r1 => q _ H1 p1 (R1.put (r1.esc hd))⟩
/-- a, b = x, y without the pair -/
def sPar (i j : Nat) (f : M (List Hd)) : M Fl := bnd f fun hs => fun x => match escs hs with
  | some [d, e] => some (.nx, putS j (.val e) (putS i (.val d) x))
  | _ => none
theorem ds_par {i j : Nat} {x y : Str} {a b : Expr} {f : M (List Hd)} {px py pt pos : Pos} {kt k2 : Nat} {pt2 : Pos} (hc : X.calm = true) (hN : X.N.Nodup) (hi : X.N[i]? = some x) (hj : X.N[j]? = some y) (hij : i ≠ j)
    (hx : X.env.scope.names.lookup x = some .local) (hy : X.env.scope.names.lookup y = some .local) (ha : DA T X [a, b] f) (hw : swappedStores [.Tuple [.Name x px, .Name y py] kt pt] (.Tuple [a, b] k2 pt2) X.env = pure (some [x, y]))
    (hs : swapsWithSole [.Tuple [.Name x px, .Name y py] kt pt] (.Tuple [a, b] k2 pt2) pos.line X.env = pure false := by rfl) : DS T X (.Assign [.Tuple [.Name x px, .Name y py] kt pt] (.Tuple [a, b] k2 pt2) pos) (sPar i j f) := by
  refine PSw (ps_par hc hN hi hj hij hx hy ha hw hs) fun D σ H q => ?_
  obtain ⟨G, x, fl, x', R, e, q⟩ := q
  obtain ⟨hs, y, e1, e⟩ := bnd_some e
  split at e
  · rename_i d e' hd
    cases e
    refine ⟨G, x, hs, y, R, e1, fun vs H1 p1 R1 r1 => ?_⟩
    have t := r1.escs hd
    cases t with
    | cons a t =>
      cases t with
      | cons b t => cases t; exact ⟨_, _, rfl, q _ H1 p1 ((R1.put a).put b)⟩
  · cases e
end
end DD
namespace DD
open PySem PySem.Spec PyProof.Rows L2

/-! ## what a loop walks -/
def WalkD (K : PySem.W.Frag) (J : It) (ds : List PyData) (H : Hp) : Prop := ∃ (g : Hp → Prop) (Y : Nat → Hp → V → Hp → Prop), Walk J ds.length g Y ∧ (∀ H2, Pers H H2 → g H2) ∧
  ∀ i H1 v H2, Pers H H1 → i < ds.length → Y i H1 v H2 → Ext H1 H2 ∧ ∃ d, ds[i]? = some d ∧ Pr K H2 v d
def rdI (K : PySem.W.Frag) (T : TB) (f : M (List PyData)) : TI := fun σ H R => ∃ G x ds x', Rel K T G σ H x ∧ f x = some (ds, x') ∧ ∀ J H', Pers H H' → Rel K T G σ H' x' → WalkD K J ds H' → R J H'
abbrev DI (T : TB) (X : Cx) (tg it : Expr) (f : M (List PyData)) : Prop := PI X tg it (rdI X.K T f)
theorem PIw {X : Cx} {tg it : Expr} {t t' : TI} (h : PI X tg it t) (k : ∀ σ H R, t' σ H R → t σ H R) : PI X tg it t' := ⟨fun pins s σ H R I q => h.run pins s σ H R I (k σ H R q)⟩
section
variable {X : Cx} {T : TB}
/-- a list or a tuple -/
def iSeq (K : PySem.W.Frag) (tl : TE) : TI := fun σ H R => tl σ H fun x H1 => ∃ a, x = .ref a ∧ ((∃ xs, SqL K H1 a xs ∧ R (Itl K a) H1) ∨ ∃ xs, SqT K H1 a xs ∧ R (Itt K a) H1)
theorem pi_seq {tg l : Expr} {tl : TE} (hl : PE X l tl) : PI X tg l (iSeq X.K tl) := by
  refine ⟨fun pins s σ H R I h => thn (hl.run pins s σ H _ I h) fun v s1 ⟨x, H1, I1, r1, a, e, q⟩ => ?_⟩
  subst e
  cases r1
  rcases q with ⟨xs, hq, q⟩ | ⟨xs, hq, q⟩
  · obtain ⟨its, rv, p, _⟩ := I1.list hq
    have I2 := I1.kept (t' := s1.toks) (h' := s1.heap.push { cls := .type "list_iterator", data := .fields #[.ref a, .int 0 0] }) fun b o e => Heap.get?_push_of_some _ e
    exact wpAny_pyIter_list p.isList (pi_one (tk := s1.toks) I1 _ (turn_list a _) ⟨_, Heap.get?_push_size _ rfl, rfl, rfl⟩ q)
  · obtain ⟨its, rv, p, _⟩ := I1.tuple hq
    exact wpAny_pyIter_tuple (show s1.heap.IsTuple a its.toArray from p) (pi_one (tk := s1.toks) I1 _ (turn_tuple a _) ⟨_, Heap.get?_push_size _ rfl, rfl, rfl⟩ q)
/-- the items of a list or tuple -/
def itemsD : PyData → Option (List PyData)
  | .list ds => some ds
  | .tuple ds => some ds
  | _ => none
def iItems (f : M Hd) : M (List PyData) := bnd f fun h => bnd (lift (esc h)) fun d => lift (itemsD d)
theorem walkL {K : PySem.W.Frag} {H : Hp} {a : Addr} {xs : List V} {ds : List PyData} (q : SqF K H a xs) (t : PrAll K H xs ds) : WalkD K (Itl K a) ds H := by
  refine ⟨_, _, by rw [← t.length]; exact walk_list, fun H2 p => (q.mono p).seq, fun i H1 v H2 p hi y => ?_⟩
  obtain ⟨rfl, y⟩ := y
  obtain ⟨d, h1, h2⟩ := t.getV y
  exact ⟨Ext.refl _, d, h1, Pr.mono p d h2⟩
theorem walkT {K : PySem.W.Frag} {H : Hp} {a : Addr} {xs : List V} {ds : List PyData} (q : SqT K H a xs) (t : PrAll K H xs ds) : WalkD K (Itt K a) ds H := by
  refine ⟨_, _, by rw [← t.length]; exact walk_tup, fun H2 p => sqT_mono p q, fun i H1 v H2 p hi y => ?_⟩
  obtain ⟨rfl, y⟩ := y
  obtain ⟨d, h1, h2⟩ := t.getV y
  exact ⟨Ext.refl _, d, h1, Pr.mono p d h2⟩
theorem di_seq {tg l : Expr} {f : M Hd} (h : DE T X l f) : DI T X tg l (iItems f) := by
  refine PIw (pi_seq h) fun σ H R q => ?_
  obtain ⟨G, x, ds, x', Re, ef, q⟩ := q
  obtain ⟨h1, y, e1, ef⟩ := bnd_some ef
  obtain ⟨d, z, e2, e3⟩ := bnd_some ef
  obtain ⟨hd, rfl⟩ := lift_some e2
  obtain ⟨hi, rfl⟩ := lift_some e3
  refine ⟨G, x, h1, _, Re, e1, fun v H1 p1 R1 r1 => ?_⟩
  have p := r1.esc hd
  cases p with
  | lst s t => cases hi; exact ⟨_, rfl, .inl ⟨_, s.seq, q _ H1 p1 R1 (walkL s t)⟩⟩
  | tup s t => cases hi; exact ⟨_, rfl, .inr ⟨_, s, q _ H1 p1 R1 (walkT s t)⟩⟩
  | non => cases hi
  | bl b => cases hi
  | int i => cases hi
  | str z => cases hi
  | dic s t => cases hi
  | dit s n z => cases hi
/-- range -/
def upTo (lo : Int) (n : Nat) : List PyData := (List.range n).map fun (i : Nat) => PyData.int (lo + (i : Int))
theorem upTo_len (lo : Int) (n : Nat) : (upTo lo n).length = n := by simp [upTo]
theorem walkR {K : PySem.W.Frag} {H : Hp} {lo : Int} {n : Nat} : WalkD K (Itr lo n) (upTo lo n) H := by
  refine ⟨_, _, by rw [upTo_len]; exact walk_range, fun _ _ => trivial, fun i H1 v H2 p hi y => ?_⟩
  obtain ⟨rfl, rfl⟩ := y
  rw [upTo_len] at hi
  exact ⟨Ext.refl _, .int (lo + (i : Int)), by simp [upTo, hi], .int _⟩
def okR (i : Int) : Bool := decide (-(2 ^ 62) ≤ i ∧ i < 2 ^ 62)
def iR1 (f : M (List Hd)) : M (List PyData) := bnd f fun hs => fun x => match escs hs with
  | some [.int j] => if okR j then some (upTo 0 j.toNat, x) else none
  | _ => none
def iR2 (f : M (List Hd)) : M (List PyData) := bnd f fun hs => fun x => match escs hs with
  | some [.int i, .int j] => if okR i && okR j then some (upTo i (j - i).toNat, x) else none
  | _ => none
theorem di_range1 {tg a : Expr} {f : M (List Hd)} {p pos : Pos} (hg : Gl X "range") (hm : X.mg "range" = none) (ha : DA T X [a] f) (hs : starEach [a] X.env = [(false, eval a X.env)] := by rfl) : DI T X tg (.Call (.Name "range" p) [a] [] pos) (iR1 f) := by
  refine PIw (pi_range1 hg hm ha hs) fun σ H R q => ?_
  obtain ⟨G, x, ds, x', Re, ef, q⟩ := q
  obtain ⟨h1, y, e1, ef⟩ := bnd_some ef
  split at ef
  · rename_i j hd
    split at ef
    · rename_i ok
      cases ef
      refine ⟨G, x, h1, _, Re, e1, fun vs H1 p1 R1 r1 => ?_⟩
      have t := r1.escs hd
      cases t with
      | cons a t =>
        cases t
        cases a
        have ok := of_decide_eq_true ok
        exact ⟨j, rfl, ok.1, ok.2, q _ H1 p1 R1 walkR⟩
    · cases ef
  · cases ef
theorem di_range2 {tg a b : Expr} {f : M (List Hd)} {p pos : Pos} (hg : Gl X "range") (hm : X.mg "range" = none) (ha : DA T X [a, b] f) (hs : starEach [a, b] X.env = [(false, eval a X.env), (false, eval b X.env)] := by rfl) (hs2 : starEach [b] X.env = [(false, eval b X.env)] := by rfl) :
    DI T X tg (.Call (.Name "range" p) [a, b] [] pos) (iR2 f) := by
  refine PIw (pi_range2 hg hm ha hs hs2) fun σ H R q => ?_
  obtain ⟨G, x, ds, x', Re, ef, q⟩ := q
  obtain ⟨h1, y, e1, ef⟩ := bnd_some ef
  split at ef
  · rename_i i j hd
    split at ef
    · rename_i ok
      cases ef
      refine ⟨G, x, h1, _, Re, e1, fun vs H1 p1 R1 r1 => ?_⟩
      have t := r1.escs hd
      cases t with
      | cons a t =>
        cases t with
        | cons b t =>
          cases t
          cases a
          cases b
          rw [Bool.and_eq_true] at ok
          have o1 := of_decide_eq_true ok.1
          have o2 := of_decide_eq_true ok.2
          exact ⟨i, j, rfl, ⟨o1.1, o1.2, o2.1, o2.2⟩, q _ H1 p1 R1 walkR⟩
    · cases ef
  · cases ef

/-! ## for -/
def forGo (g : PyData → M Unit) (b : M Fl) : List PyData → M Fl
  | [] => ret .nx
  | d :: ds => bnd (g d) fun _ => bnd b fun fl => match fl with
    | .nx => forGo g b ds
    | .ct => forGo g b ds
    | .bk => ret .nx
    | .rt r => ret (.rt r)
def dFor (src : M (List PyData)) (g : PyData → M Unit) (b : M Fl) : M Fl := bnd src fun ds => forGo g b ds
theorem drop_at {α : Type} {l : List α} {i : Nat} {d : α} (h : l[i]? = some d) : l.drop i = d :: l.drop (i + 1) := by
  obtain ⟨hi, e⟩ := List.getElem?_eq_some_iff.mp h
  rw [List.drop_eq_getElem_cons hi, e]
theorem ds_for {tg iter : Expr} {body : List Stmt} {src : M (List PyData)} {js : List Nat} {g : PyData → M Unit} {b : M Fl} {pos : Pos} (hp : PassesOwn (model X.prog X.w) X.A X.env X.xe) (hc : X.calm = true) (hi : DI T X tg iter src) (hg : DG T X tg js g) (hb : DSs T X body b)
    (hs : ∀ x, foldedSetIterable iter X.env x = pure x := by intro _; rfl) : DS T X (.For tg iter body [] pos) (dFor src g b) := by
  refine PSw (ps_for hp hc hi hg hb hs) fun D σ H q => ?_
  obtain ⟨G, x, fl, x', R, ef, q⟩ := q
  obtain ⟨ds, y, e1, ef⟩ := bnd_some ef
  refine ⟨G, x, ds, y, R, e1, fun J H1 p1 R1 wd => ?_⟩
  obtain ⟨gd, Y, wk, hgd, hY⟩ := wd
  refine for_it wk (fun i σ2 H2 => ∃ z, Pers H1 H2 ∧ Rel X.K T G σ2 H2 z ∧ forGo g b (ds.drop i) z = some (fl, x')) ⟨y, Pers.refl _, R1, ef⟩ (fun i σ2 H2 _ p => ?_) (fun i v σ2 H2 H3 hi p y => ?_) fun σ2 H2 p => ?_
  · obtain ⟨z, p2, _⟩ := p
    exact hgd H2 p2
  · obtain ⟨z, p2, R2, e2⟩ := p
    obtain ⟨x3, d, hd, pd⟩ := hY i H2 v H3 p2 hi y
    rw [drop_at hd] at e2
    obtain ⟨⟨⟩, z2, e3, e2⟩ := bnd_some e2
    obtain ⟨f2, z3, e4, e2⟩ := bnd_some e2
    refine ⟨G, z, d, z2, R2.ext x3, pd, e3, fun σ4 H4 _ p4 R4 => ⟨G, z2, f2, z3, R4, e4, fun σ5 H5 p5 R5 => ?_⟩⟩
    have pp : Pers H1 H5 := ((p2.trans x3.pers).trans p4).trans p5
    cases f2 with
    | nx => exact ⟨z3, pp, R5, e2⟩
    | ct => exact ⟨z3, pp, R5, e2⟩
    | bk => cases e2; exact q σ5 H5 (p1.trans pp) R5
    | rt r => cases e2; exact q σ5 H5 (p1.trans pp) R5
  · obtain ⟨z, p2, R2, e2⟩ := p
    rw [List.drop_length] at e2
    cases e2
    exact q σ2 H2 (p1.trans p2) R2

/-! ## comprehensions -/
def wipeD (ρ : List Slot) : List Nat → List Slot
  | [] => ρ
  | v :: vs => (wipeD ρ vs).set v .no
def keepS : Option Slot → Slot
  | some (.own _) => .no
  | some s => s
  | none => .no
def unw (ρ0 ρ : List Slot) : List Nat → List Slot
  | [] => ρ
  | v :: vs => (unw ρ0 ρ vs).set v (keepS ρ0[v]?)
theorem wipeD_len (ρ : List Slot) : ∀ vs, (wipeD ρ vs).length = ρ.length
  | [] => rfl
  | v :: vs => by unfold wipeD; rw [List.length_set, wipeD_len ρ vs]
theorem unw_len (ρ0 ρ : List Slot) : ∀ vs, (unw ρ0 ρ vs).length = ρ.length
  | [] => rfl
  | v :: vs => by unfold unw; rw [List.length_set, unw_len ρ0 ρ vs]
theorem set_at {α : Type} {l : List α} {i j : Nat} {a b : α} (h : (l.set i a)[j]? = some b) : (j = i ∧ b = a) ∨ (j ≠ i ∧ l[j]? = some b) := by
  by_cases hj : i = j
  · subst hj
    by_cases hl : i < l.length
    · rw [List.getElem?_set_self hl] at h; exact .inl ⟨rfl, (Option.some.inj h).symm⟩
    · rw [List.getElem?_eq_none (by rw [List.length_set]; omega)] at h; cases h
  · rw [List.getElem?_set_ne hj] at h; exact .inr ⟨fun z => hj z.symm, h⟩
theorem wipeD_at {ρ : List Slot} {j : Nat} {s : Slot} : ∀ {vs : List Nat}, (wipeD ρ vs)[j]? = some s → s = .no ∨ (j ∉ vs ∧ ρ[j]? = some s)
  | [], h => .inr ⟨by simp, h⟩
  | v :: vs, h => by
    rcases set_at h with ⟨_, e⟩ | ⟨n, h⟩
    · exact .inl e
    · rcases wipeD_at h with e | ⟨n2, h⟩
      · exact .inl e
      · exact .inr ⟨by simp [n, n2], h⟩
theorem unw_at {ρ0 ρ : List Slot} {j : Nat} {s : Slot} : ∀ {vs : List Nat}, (unw ρ0 ρ vs)[j]? = some s → s = keepS ρ0[j]? ∨ (j ∉ vs ∧ ρ[j]? = some s)
  | [], h => .inr ⟨by simp, h⟩
  | v :: vs, h => by
    rcases set_at h with ⟨e1, e⟩ | ⟨n, h⟩
    · exact .inl (by rw [e, e1])
    · rcases unw_at h with e | ⟨n2, h⟩
      · exact .inl e
      · exact .inr ⟨by simp [n, n2], h⟩
theorem wipe_out' {σ : L2.St} {j : Nat} : ∀ {vs : List Nat}, j ∉ vs → (wipe σ vs)[j]? = σ[j]?
  | [], _ => rfl
  | v :: vs, h => by
    simp only [List.mem_cons, not_or] at h
    unfold wipe
    rw [List.getElem?_set_ne (fun z => h.1 z.symm), wipe_out' h.2]
theorem wipe_in {σ : L2.St} {j : Nat} : ∀ {vs : List Nat}, j ∈ vs → (wipe σ vs)[j]? = if j < σ.length then some none else none
  | [], h => by simp at h
  | v :: vs, h => by
    unfold wipe
    by_cases e : v = j
    · subst e
      by_cases hl : v < σ.length
      · rw [List.getElem?_set_self (by rw [wipe_length]; exact hl), if_pos hl]
      · rw [List.getElem?_eq_none (by rw [List.length_set, wipe_length]; omega), if_neg hl]
    · rw [List.getElem?_set_ne e]
      rcases List.mem_cons.mp h with z | z
      · exact absurd z.symm e
      · exact wipe_in z
theorem But.wipe {js vs : List Nat} {σ σ' : L2.St} (b : But js (wipe σ vs) σ') (h : ∀ j ∈ js, j ∈ vs) : wipe σ' vs = wipe σ vs := by
  refine List.ext_getElem? fun j => ?_
  by_cases hj : j ∈ vs
  · rw [wipe_in hj, wipe_in hj, b.1, wipe_length]
  · rw [wipe_out' hj, b.2 j fun z => hj (h j z)]
/-- the ghost while a comprehension's list stands at D -/
def Gh.at (G : Gh) (D : Addr) (a : List V) : Gh := { G with H0 := upd G.H0 D (.lst a) }
theorem Rel.turn {K : PySem.W.Frag} {G : Gh} {σ : L2.St} {H H' : Hp} {z : Sx} {D : Addr} {a b : List V} {vs : List Nat} (R : Rel K T (G.at D a) σ H z) (hd : D ≠ G.dk) (hc : D ≠ G.cl) (hD : H' D = some (.lst b)) (ho : ∀ c, c ≠ D → H' c = H c) :
    Rel K T (G.at D b) (wipe σ vs) H' (wipeD z.1 vs, z.2) := by
  have hDa : H D = some (.lst a) := (R.grow D _ upd_same hd hc).eq fun ps z => by cases z
  have p : Pers H H' := fun c o e i => by
    rw [ho c fun q => by subst q; rw [hDa] at e; cases e; cases i]; exact e
  have h0 : ∀ c, (G.at D a).H0 c = none → c ≠ D ∧ (G.at D b).H0 c = none := fun c e => by
    have hcD : c ≠ D := fun q => by
      subst q
      have : (G.at c a).H0 c = some (.lst a) := upd_same
      rw [this] at e; cases e
    refine ⟨hcD, ?_⟩
    show upd G.H0 D (.lst b) c = none
    have e' : upd G.H0 D (.lst a) c = none := e
    rw [upd_ne hcD] at e' ⊢
    exact e'
  refine ⟨⟨(ho G.dk (Ne.symm hd)).trans R.dk.d, (ho G.cl (Ne.symm hc)).trans R.dk.c, R.dk.t.mono p fun P ps e => by rw [ho P (ne_of e hDa (by intro z; cases z))]; exact e⟩, fun c o e h1 h2 => ?_, ?_, fun i s hs => ?_, fun i j c ds es hn e1 e2 => ?_⟩
  · by_cases q : c = D
    · subst q
      have e' : (G.at c b).H0 c = some (.lst b) := upd_same
      rw [e'] at e; cases e; exact .inl hD
    · rw [ho c q]
      refine R.grow c o ?_ h1 h2
      have e' : upd G.H0 D (.lst b) c = some o := e
      show upd G.H0 D (.lst a) c = some o
      rw [upd_ne q] at e' ⊢; exact e'
  · show (wipeD z.1 vs).length = _
    rw [wipeD_len, wipe_length, R.len]
  · rcases wipeD_at hs with rfl | ⟨n, hs⟩
    · trivial
    · rw [wipe_out' n]
      have q := R.slot i s hs
      cases s with
      | no => trivial
      | val d => obtain ⟨u, h1, h2⟩ := q; exact ⟨u, h1, Pr.mono p d h2⟩
      | deck => exact q
      | own ds =>
        obtain ⟨c, xs, h1, h2, h3, h4, h5⟩ := q
        obtain ⟨n1, n2⟩ := h0 c h5
        exact ⟨c, xs, h1, by rw [ho c n1]; exact h2, PrAll.mono p ds h3, h4, n2⟩
  · rcases wipeD_at e1 with q | ⟨n1, e1⟩
    · cases q
    · rcases wipeD_at e2 with q | ⟨n2, e2⟩
      · cases q
      · rw [wipe_out' n1, wipe_out' n2]; exact R.sep i j c ds es hn e1 e2
def lcTurn (vs : List Nat) (g : PyData → M Unit) (tt : M Bool) (te : M Hd) (d : PyData) : M (Option PyData) := bnd (g d) fun _ => bnd tt fun b => bnd (if b = true then bnd te fun h => bnd (lift (esc h)) fun e => ret (some e) else ret none) fun o => fun x => some (o, (wipeD x.1 vs, x.2))
def lcGo (t : PyData → M (Option PyData)) : List PyData → M (List PyData)
  | [] => ret []
  | d :: ds => bnd (t d) fun o => bnd (lcGo t ds) fun r => ret (match o with
    | some e => e :: r
    | none => r)
def dLc (src : M (List PyData)) (vs : List Nat) (g : PyData → M Unit) (tt : M Bool) (te : M Hd) : M (List PyData) := bnd src fun ds => fun x =>
  if ds.length < 16777216 then match lcGo (lcTurn vs g tt te) ds (wipeD x.1 vs, x.2) with
    | some (r, y) => some (r, (unw x.1 y.1 vs, y.2))
    | none => none
  else none
/-- no test: for all -/
def tAll : M Bool := ret true
theorem dts_nil : PTs X [] (rdT X.K T tAll) := ⟨fun pins s σ H Q I q => pts_nil.run pins s σ H Q I (by
  obtain ⟨G, x, b, x', R, e, q⟩ := q
  cases e
  exact q H (Pers.refl H) R)⟩
theorem dts_one {c : Expr} {f : M Bool} (h : DT T X c f) : PTs X [c] (rdT X.K T f) := pts_one h
theorem rd_lc {K : PySem.W.Frag} {src : M (List PyData)} {vs js : List Nat} {g : PyData → M Unit} {tt : M Bool} {te : M Hd} (hj : ∀ j ∈ js, j ∈ vs) : ∀ σ H Q, rdF K T (dLc src vs g tt te) σ H Q → tLc (rdI K T src) (rdG K T js g) (rdT K T tt) (rdE K T te) vs σ H Q := fun σ H Q q => by
  obtain ⟨G, x, out, x', R, ef, q⟩ := q
  obtain ⟨ds, y, e1, ef⟩ := bnd_some ef
  split at ef
  · rename_i hsz
    split at ef
    · rename_i r zz er
      cases ef
      refine ⟨G, x, ds, y, R, e1, fun J H1 p1 R1 wd D nD => ?_⟩
      obtain ⟨gd, Y, wk, hgd, hY⟩ := wd
      have hd : D ≠ G.dk := fun z => by rw [z, R1.dk.d] at nD; cases nD
      have hc : D ≠ G.cl := fun z => by rw [z, R1.dk.c] at nD; cases nD
      have x0 : Ext H1 (upd H1 D (.lst [])) := Ext.new nD
      have g0 : G.H0 D = none := by
        cases e : G.H0 D with
        | none => rfl
        | some u => exact absurd nD (R1.grow D u e hd hc).some
      have own : ∀ (i : Nat) (es : List PyData), y.1[i]? = some (.own es) → σ[i]? ≠ some (some (.ref D)) := fun i es hi z => by
        obtain ⟨b, ys, h1, h2, _⟩ := R1.slot i _ hi
        rw [h1] at z; cases z; rw [h2] at nD; cases nD
      have S0 : Rel K T (G.at D []) σ (upd H1 D (.lst [])) y := by
        refine ⟨⟨x0 _ _ R1.dk.d, x0 _ _ R1.dk.c, R1.dk.t.mono x0.pers fun P ps e => x0 _ _ e⟩, fun c o e h1 h2 => ?_, R1.len, fun i s hs => ?_, R1.sep⟩
        · by_cases z : c = D
          · subst z
            have e' : (G.at c []).H0 c = some (.lst []) := upd_same
            rw [e'] at e; cases e; exact .inl upd_same
          · have e' : upd G.H0 D (.lst []) c = some o := e
            rw [upd_ne z] at e'
            exact (R1.grow c o e' h1 h2).trans fun u z => .inl (x0 _ _ z)
        · have w := R1.slot i s hs
          cases s with
          | no => trivial
          | val d => obtain ⟨u, h1, h2⟩ := w; exact ⟨u, h1, Pr.mono x0.pers d h2⟩
          | deck => exact w
          | own es =>
            obtain ⟨c, xs, h1, h2, h3, h4, h5⟩ := w
            have nc : c ≠ D := fun z => own i es hs (by rw [h1, z])
            refine ⟨c, xs, h1, x0 _ _ h2, PrAll.mono x0.pers es h3, h4, ?_⟩
            show upd G.H0 D (.lst []) c = none
            rw [upd_ne nc]; exact h5
      refine lc_it wk (fun i H2 => ∃ (a : List V) (acc rest : List PyData) (z : Sx), Pers H1 H2 ∧ H2 D = some (.lst a) ∧ PrAll K H2 a acc ∧ acc.length ≤ i ∧ Rel K T (G.at D a) (wipe σ vs) H2 z ∧ lcGo (lcTurn vs g tt te) (ds.drop i) z = some (rest, zz) ∧ acc ++ rest = out)
        ⟨[], [], out, _, x0.pers, upd_same, .nil, Nat.le_refl _, S0.turn hd hc upd_same (fun _ _ => rfl), er, rfl⟩ (fun i H2 _ p => ?_) (fun i v H2 H3 hi p yy => ?_) fun H2 p => ?_
      · obtain ⟨_, _, _, _, p2, _⟩ := p
        exact hgd H2 p2
      · obtain ⟨a, acc, rest, z, p2, hD, pa, hl, R2, e2, hr⟩ := p
        obtain ⟨x3, d, hdd, pd⟩ := hY i H2 v H3 p2 hi yy
        rw [drop_at hdd] at e2
        obtain ⟨o, z1, e3, e2⟩ := bnd_some e2
        obtain ⟨r2, z2, e4, e2⟩ := bnd_some e2
        cases e2
        obtain ⟨⟨⟩, w1, e5, e3⟩ := bnd_some e3
        obtain ⟨b, w2, e6, e3⟩ := bnd_some e3
        obtain ⟨o', w3, e7, e3⟩ := bnd_some e3
        cases e3
        refine ⟨_, z, d, w1, R2.ext x3, pd, e5, fun σ4 H4 bt p4 R4 => ⟨bt.wipe hj, _, w1, b, w2, R4, e6, fun H5 p5 R5 => ?_⟩⟩
        have pp : Pers H1 H5 := ((p2.trans x3.pers).trans p4).trans p5
        have pq : Pers H2 H5 := (x3.pers.trans p4).trans p5
        have hw : wipe σ4 vs = wipe σ vs := bt.wipe hj
        cases b with
        | false =>
          have e7 : ret none w2 = some (o, w3) := e7
          cases e7
          have hD5 : H5 D = some (.lst a) := (R5.grow D _ upd_same hd hc).eq fun ps z => by cases z
          have R6 := R5.turn (vs := vs) (b := a) hd hc hD5 (fun _ _ => rfl)
          rw [hw] at R6
          exact ⟨a, acc, r2, _, pp, hD5, PrAll.mono pq acc pa, Nat.le_succ_of_le hl, R6, e4, hr⟩
        | true =>
          obtain ⟨h, w4, e8, e7⟩ := bnd_some (show bnd te _ w2 = some (o, w3) from e7)
          obtain ⟨d2, w5, e9, e10⟩ := bnd_some e7
          obtain ⟨hh, rfl⟩ := lift_some e9
          cases e10
          refine ⟨_, w2, h, w3, R5, e8, fun v2 H6 p6 R6 r6 => ?_⟩
          have hD6 : H6 D = some (.lst a) := (R6.grow D _ upd_same hd hc).eq fun ps z => by cases z
          have p7 : Pers H6 (upd H6 D (.lst (a ++ [v2]))) := Pers.lst hD6
          have R7 := R6.turn (vs := vs) (b := a ++ [v2]) hd hc upd_same (fun c hc => upd_ne hc)
          rw [hw] at R7
          have pa7 : PrAll K (upd H6 D (.lst (a ++ [v2]))) (a ++ [v2]) (acc ++ [d2]) := (PrAll.mono ((pq.trans p6).trans p7) acc pa).append (.cons (Pr.mono p7 d2 (r6.esc hh)) .nil)
          refine ⟨a, hD6, ?_, a ++ [v2], acc ++ [d2], r2, _, (pp.trans p6).trans p7, upd_same, pa7, ?_, R7, e4, ?_⟩
          · rw [pa.length, sizeLine_eq]; omega
          · rw [List.length_append]
            exact Nat.succ_le_succ hl
          · rw [← hr, List.append_assoc]; rfl
      · obtain ⟨a, acc, rest, z, p2, hD, pa, hl, R2, e2, hr⟩ := p
        rw [List.drop_length] at e2
        cases e2
        rw [List.append_nil] at hr
        subst hr
        have out0 : ∀ c, (G.at D a).H0 c = none → c ≠ D ∧ G.H0 c = none := fun c e => by
          have hcD : c ≠ D := fun q => by
            subst q
            have : (G.at c a).H0 c = some (.lst a) := upd_same
            rw [this] at e; cases e
          have e' : upd G.H0 D (.lst a) c = none := e
          rw [upd_ne hcD] at e'
          exact ⟨hcD, e'⟩
        have own2 : ∀ {i : Nat} {es : List PyData}, (unw y.1 zz.1 vs)[i]? = some (.own es) → i ∉ vs ∧ zz.1[i]? = some (.own es) := fun {i es} h => by
          rcases unw_at h with e | e
          · exfalso
            cases q : y.1[i]? with
            | none => rw [q] at e; cases e
            | some s => rw [q] at e; cases s <;> cases e
          · exact e
        have RR : Rel K T G σ H2 (unw y.1 zz.1 vs, zz.2) := by
          refine ⟨R2.dk, fun c o e h1 h2 => ?_, ?_, fun i s hs => ?_, fun i j c ds es hn e1 e2 => ?_⟩
          · by_cases q : c = D
            · subst q; rw [g0] at e; cases e
            · refine R2.grow c o ?_ h1 h2
              show upd G.H0 D (.lst a) c = some o
              rw [upd_ne q]; exact e
          · show (unw y.1 zz.1 vs).length = _
            rw [unw_len, R2.len, wipe_length]
          · rcases unw_at hs with e | ⟨n, hs⟩
            · subst e
              cases q : y.1[i]? with
              | none => trivial
              | some s =>
                have w := R1.slot i s q
                cases s with
                | no => trivial
                | val d => obtain ⟨u, h1, h2⟩ := w; exact ⟨u, h1, Pr.mono p2 d h2⟩
                | deck => exact w
                | own es => trivial
            · have w := R2.slot i s hs
              rw [wipe_out' n] at w
              cases s with
              | no => trivial
              | val d => exact w
              | deck => exact w
              | own es =>
                obtain ⟨c, xs, h1, h2, h3, h4, h5⟩ := w
                exact ⟨c, xs, h1, h2, h3, h4, (out0 c h5).2⟩
          · obtain ⟨n1, e1⟩ := own2 e1
            obtain ⟨n2, e2⟩ := own2 e2
            have w := R2.sep i j c ds es hn e1 e2
            rw [wipe_out' n1, wipe_out' n2] at w
            exact w
        refine q D a H2 (p1.trans p2) RR hD pa hc g0 fun i es hi z2 => ?_
        obtain ⟨n, hi⟩ := own2 hi
        obtain ⟨c, xs, h1, h2, h3, h4, h5⟩ := R2.slot i _ hi
        rw [wipe_out' n, z2] at h1
        cases h1
        exact (out0 D h5).1 rfl
    · cases ef
  · cases ef
end
end DD
namespace DD
open PySem PySem.Spec PyProof.Rows L2
section
variable {X : Cx} {T : TB}
/-! ## comprehensions as new lists -/
theorem df_lc {elt tg iter : Expr} {ifs : List Expr} {scope : Scope} {own : List (Str × Nat)} {pos : Pos} {src : M (List PyData)} {js : List Nat} {g : PyData → M Unit} {tt : M Bool} {te : M Hd} (hc : X.calm = true) (hN : X.N.Nodup) (hi : DI T X tg iter src) (ok : BlkOk X.N X.env.scope scope own)
    (hj : ∀ j ∈ js, j ∈ own.map (·.2)) (hg : ∀ (s : Shared) (H : Hp) (C : Addr) (cl : List (Str × Addr)) (fp : List Addr), DG T (X.blk s H scope (compEnvC scope cl C X.env) fp) tg js g) (ht : ∀ (s : Shared) (H : Hp) (C : Addr) (cl : List (Str × Addr)) (fp : List Addr), PTs (X.blk s H scope (compEnvC scope cl C X.env) fp) ifs (rdT X.K T tt))
    (he : ∀ (s : Shared) (H : Hp) (C : Addr) (cl : List (Str × Addr)) (fp : List Addr), DE T (X.blk s H scope (compEnvC scope cl C X.env) fp) elt te) (hs : ∀ x, foldedSetIterable iter X.env x = pure x := by intro _; rfl) :
    DF T X (.ListComp elt [⟨tg, iter, ifs, 0⟩] scope pos) (dLc src (own.map (·.2)) g tt te) := PEw (pe_lc hc hN hi ok hg ht he hs) (rd_lc hj)

/-! ## a slot's own list -/
def sOwn (i : Nat) (f : M (List PyData)) : M Fl := bnd f fun ds => fun x => if i < x.1.length then some (.nx, putS i (.own ds) x) else none
theorem Rel.putOwn {K : PySem.W.Frag} {G : Gh} {σ : L2.St} {H : Hp} {x : Sx} {i : Nat} {a : Addr} {xs : List V} {ds : List PyData} (R : Rel K T G σ H x) (hi : i < x.1.length) (ha : H a = some (.lst xs)) (hp : PrAll K H xs ds) (hc : a ≠ G.cl) (h0 : G.H0 a = none)
    (hn : ∀ (j : Nat) (es : List PyData), j ≠ i → x.1[j]? = some (.own es) → σ[j]? ≠ some (some (.ref a))) : Rel K T G (σ.set i (some (.ref a))) H (putS i (.own ds) x) := by
  have hσ : i < σ.length := by rw [← R.len]; exact hi
  refine ⟨R.dk, R.grow, by rw [List.length_set]; show (x.1.set i _).length = _; rw [List.length_set]; exact R.len, fun j s hs => ?_, fun j l b es ts hjl e1 e2 => ?_⟩
  · rcases set_at hs with ⟨rfl, rfl⟩ | ⟨n, hs⟩
    · rw [List.getElem?_set_self hσ]
      exact ⟨a, xs, rfl, ha, hp, hc, h0⟩
    · rw [List.getElem?_set_ne (Ne.symm n)]
      exact R.slot j s hs
  · rcases set_at e1 with ⟨rfl, _⟩ | ⟨n1, f1⟩
    · rcases set_at e2 with ⟨rfl, _⟩ | ⟨n2, f2⟩
      · exact absurd rfl hjl
      · rw [List.getElem?_set_self hσ, List.getElem?_set_ne (Ne.symm n2)]
        intro q; cases q; exact hn l ts n2 f2
    · rcases set_at e2 with ⟨rfl, _⟩ | ⟨n2, f2⟩
      · rw [List.getElem?_set_self hσ, List.getElem?_set_ne (Ne.symm n1)]
        intro q z; cases z; exact hn j es n1 f1 q
      · rw [List.getElem?_set_ne (Ne.symm n1), List.getElem?_set_ne (Ne.symm n2)]
        exact R.sep j l b es ts hjl f1 f2
theorem ds_own {i : Nat} {x : Str} {e : Expr} {f : M (List PyData)} {pos pos' : Pos} (hN : X.N.Nodup) (hi : X.N[i]? = some x) (hx : Loc X.env.scope x) (he : DF T X e f) (hs : swapsWith e (some (.Name x pos')) pos.line X.env = pure false := by rfl)
    (hf : X.fn x = true ∨ X.env.scope.names.lookup x = some .local := by first | exact .inl rfl | exact .inr rfl | assumption) : DS T X (.Assign [.Name x pos'] e pos) (sOwn i f) := by
  refine PSw (ps_set hN hi hx he hs hf) fun D σ H q => ?_
  obtain ⟨G, x, fl, x', R, e, q⟩ := q
  obtain ⟨ds, y, e1, e⟩ := bnd_some e
  split at e
  · rename_i hl
    cases e
    exact ⟨G, x, ds, y, R, e1, fun a xs H1 p1 R1 ha hp hc h0 hn => q _ H1 p1 (R1.putOwn hl ha hp hc h0 fun j es _ => hn j es)⟩
  · cases e
theorem ds_ownLc {i : Nat} {y : Str} {py : Pos} {elt tg iter : Expr} {ifs : List Expr} {scope : Scope} {own : List (Str × Nat)} {pos spos : Pos} {src : M (List PyData)} {js : List Nat} {g : PyData → M Unit} {tt : M Bool} {te : M Hd} (hc : X.calm = true) (hN : X.N.Nodup) (hy : X.N[i]? = some y) (hyl : X.env.scope.names.lookup y = some .local)
    (hsw : swapsWith (.ListComp elt [⟨tg, iter, ifs, 0⟩] scope pos) (some (.Name y py)) spos.line X.env = pure true) (hi : DI T X tg iter src) (ok : BlkOk X.N X.env.scope scope own)
    (hj : ∀ j ∈ js, j ∈ own.map (·.2)) (hg : ∀ (s : Shared) (H : Hp) (C : Addr) (cl : List (Str × Addr)) (fp : List Addr), DG T (X.blk s H scope (compEnvC scope cl C X.env) fp) tg js g) (ht : ∀ (s : Shared) (H : Hp) (C : Addr) (cl : List (Str × Addr)) (fp : List Addr), PTs (X.blk s H scope (compEnvC scope cl C X.env) fp) ifs (rdT X.K T tt))
    (he : ∀ (s : Shared) (H : Hp) (C : Addr) (cl : List (Str × Addr)) (fp : List Addr), DE T (X.blk s H scope (compEnvC scope cl C X.env) fp) elt te) (hs : ∀ x, foldedSetIterable iter X.env x = pure x := by intro _; rfl) :
    DS T X (.Assign [.Name y py] (.ListComp elt [⟨tg, iter, ifs, 0⟩] scope pos) spos) (sOwn i (dLc src (own.map (·.2)) g tt te)) := by
  refine PSw (ps_setLc hc hN hy hyl hsw hi ok hg ht he hs) fun D σ H q => rd_lc hj σ H (fun v H1 => gName i v σ H1 D.nx) ?_
  obtain ⟨G, x, fl, x', R, e, q⟩ := q
  obtain ⟨ds, y, e1, e⟩ := bnd_some e
  split at e
  · rename_i hl
    cases e
    exact ⟨G, x, ds, y, R, e1, fun a xs H1 p1 R1 ha hp hc h0 hn => q _ H1 p1 (R1.putOwn hl ha hp hc h0 fun j es _ => hn j es)⟩
  · cases e
/-- behind a statement the slot's list is kept for good -/
def sFrz (i : Nat) (f : M Fl) : M Fl := bnd f fun fl => fun x => match fl, x.1[i]? with
  | .nx, some (.own ds) => some (.nx, putS i (.val (.list ds)) x)
  | _, _ => none
theorem Rel.frz {K : PySem.W.Frag} {G : Gh} {σ : L2.St} {H : Hp} {x : Sx} {i : Nat} {a : Addr} {xs : List V} {ds : List PyData} {o : Obj} (R : Rel K T G σ H x) (hs : x.1[i]? = some (.own ds)) (h1 : σ[i]? = some (some (.ref a))) (h2 : H a = some (.lst xs)) (h3 : PrAll K H xs ds) (h4 : a ≠ G.cl) (h5 : G.H0 a = none) :
    Rel K T G σ (upd H a (.frz o (.lst xs))) (putS i (.val (.list ds)) x) := by
  have p : Pers H (upd H a (.frz o (.lst xs))) := Pers.lst h2
  have hd : G.dk ≠ a := ne_of R.dk.d h2 (by intro z; cases z)
  refine ⟨⟨by rw [upd_ne hd]; exact R.dk.d, by rw [upd_ne (Ne.symm h4)]; exact R.dk.c, R.dk.t.mono p fun P ps q => by rw [upd_ne (ne_of q h2 (by intro z; cases z))]; exact q⟩, fun b u hb q1 q2 => ?_, by show (x.1.set i _).length = _; rw [List.length_set]; exact R.len, fun j s hj => ?_, fun j l b es ts hjl e1 e2 => ?_⟩
  · rw [upd_ne]
    · exact R.grow b u hb q1 q2
    · intro z; subst z; rw [h5] at hb; cases hb
  · rcases set_at hj with ⟨rfl, rfl⟩ | ⟨n, hj⟩
    · exact ⟨_, h1, .lst ⟨o, upd_same⟩ (PrAll.mono p ds h3)⟩
    · have w := R.slot j s hj
      cases s with
      | no => trivial
      | val d => obtain ⟨u, w1, w2⟩ := w; exact ⟨u, w1, Pr.mono p d w2⟩
      | deck => exact w
      | own es =>
        obtain ⟨b, ys, w1, w2, w3, w4, w5⟩ := w
        have hb : b ≠ a := fun z => R.sep j i a es ds n hj hs (by rw [w1, z]) h1
        exact ⟨b, ys, w1, by rw [upd_ne hb]; exact w2, PrAll.mono p es w3, w4, w5⟩
  · rcases set_at e1 with ⟨rfl, q⟩ | ⟨n1, e1⟩
    · cases q
    · rcases set_at e2 with ⟨rfl, q⟩ | ⟨n2, e2⟩
      · cases q
      · exact R.sep j l b es ts hjl e1 e2
theorem ds_frz {st : Stmt} {f : M Fl} (i : Nat) (h : DS T X st f) : DS T X st (sFrz i f) := by
  refine ⟨fun pins s σ H D I q => ?_⟩
  obtain ⟨G, x, fl, x', R, e, q⟩ := q
  obtain ⟨f1, y, e1, e⟩ := bnd_some e
  split at e
  · rename_i ds hs
    cases e
    refine thn (h.run pins s σ H { D with nx := fun σ' H' => ∃ a xs, H' a = some (.lst xs) ∧ ∀ o, D.nx σ' (upd H' a (.frz o (.lst xs))) } I ⟨G, x, .nx, y, R, e1, fun σ1 H1 p1 R1 => ?_⟩) fun fl s1 z => ?_
    · obtain ⟨a, xs, h1, h2, h3, h4, h5⟩ := R1.slot i _ hs
      exact ⟨a, xs, h2, fun o => q σ1 _ (p1.trans (Pers.lst h2)) (R1.frz hs h1 h2 h3 h4 h5)⟩
    · cases fl with
      | next =>
        obtain ⟨σ2, H2, I2, a, xs, ha, q2⟩ := z
        obtain ⟨o, I3⟩ := Inv.frozen I2 ha
        exact ⟨σ2, _, I3, q2 o⟩
      | ret v => exact z
      | brk => exact z
      | cont => exact z
  · cases e
/-- ahead of a statement -/
def sPre (i : Nat) (f : M Fl) : M Fl := fun x => match x.1[i]? with
  | some (.own ds) => f (putS i (.val (.list ds)) x)
  | _ => none
theorem ds_pre {st : Stmt} {f : M Fl} (i : Nat) (h : DS T X st f) : DS T X st (sPre i f) := by
  refine ⟨fun pins s σ H D I q => ?_⟩
  obtain ⟨G, x, fl, x', R, e, q⟩ := q
  unfold sPre at e
  split at e
  · rename_i ds hs
    obtain ⟨a, xs, h1, h2, h3, h4, h5⟩ := R.slot i _ hs
    obtain ⟨o, I2⟩ := Inv.frozen I h2
    exact h.run pins s σ _ D I2 ⟨G, _, fl, x', R.frz hs h1 h2 h3 h4 h5, e, fun σ1 H1 p1 R1 => q σ1 H1 ((Pers.lst h2).trans p1) R1⟩
  · cases e
/-- x.append(e) -/
def sApp (i : Nat) (f : M Hd) : M Fl := fun x => match x.1[i]? with
  | some (.own _) => match (bnd f fun h => bnd (lift (esc h)) fun d => ret d) x with
    | some (d, y) => match y.1[i]? with
      | some (.own ds) => if ds.length < 16777216 then some (.nx, putS i (.own (ds ++ [d])) y) else none
      | _ => none
    | none => none
  | _ => none
/-- the slot's list is changed -/
theorem Rel.mutOwn {K : PySem.W.Frag} {G : Gh} {σ : L2.St} {H : Hp} {x : Sx} {i : Nat} {a : Addr} {xs ys : List V} {ds es : List PyData} (R : Rel K T G σ H x) (hs : x.1[i]? = some (.own ds)) (h1 : σ[i]? = some (some (.ref a))) (h2 : H a = some (.lst xs)) (h4 : a ≠ G.cl) (h5 : G.H0 a = none) (h6 : PrAll K H ys es) :
    Rel K T G σ (upd H a (.lst ys)) (putS i (.own es) x) := by
  have p : Pers H (upd H a (.lst ys)) := Pers.lst h2
  have hd : G.dk ≠ a := ne_of R.dk.d h2 (by intro z; cases z)
  refine ⟨⟨by rw [upd_ne hd]; exact R.dk.d, by rw [upd_ne (Ne.symm h4)]; exact R.dk.c, R.dk.t.mono p fun P ps q => by rw [upd_ne (ne_of q h2 (by intro z; cases z))]; exact q⟩, fun b u hb q1 q2 => ?_, by show (x.1.set i _).length = _; rw [List.length_set]; exact R.len, fun j s hj => ?_, fun j l b us ts hjl e1 e2 => ?_⟩
  · rw [upd_ne]
    · exact R.grow b u hb q1 q2
    · intro z; subst z; rw [h5] at hb; cases hb
  · rcases set_at hj with ⟨rfl, rfl⟩ | ⟨n, hj⟩
    · exact ⟨a, ys, h1, upd_same, PrAll.mono p es h6, h4, h5⟩
    · have w := R.slot j s hj
      cases s with
      | no => trivial
      | val d => obtain ⟨u, w1, w2⟩ := w; exact ⟨u, w1, Pr.mono p d w2⟩
      | deck => exact w
      | own us =>
        obtain ⟨b, zs, w1, w2, w3, w4, w5⟩ := w
        have hb : b ≠ a := fun z => R.sep j i a us ds n hj hs (by rw [w1, z]) h1
        exact ⟨b, zs, w1, by rw [upd_ne hb]; exact w2, PrAll.mono p us w3, w4, w5⟩
  · have old : ∀ {m : Nat} {vs : List PyData}, (putS i (.own es) x).1[m]? = some (.own vs) → ∃ vs', x.1[m]? = some (.own vs') := fun {m vs} e => by
      rcases set_at e with ⟨rfl, _⟩ | ⟨_, e⟩
      · exact ⟨ds, hs⟩
      · exact ⟨vs, e⟩
    obtain ⟨u1, f1⟩ := old e1
    obtain ⟨u2, f2⟩ := old e2
    exact R.sep j l b u1 u2 hjl f1 f2
theorem ds_app {o e : Expr} {apos pos spos : Pos} {i : Nat} {f : M Hd} (ho : PE X o (tVar i)) (he : DE T X e f) (h : ∀ (t : TA), PA X [e] t → PE X (.Call (.Attribute o "append" apos) [e] [] pos) (tBM X.K "list" rAppend (tVar i) t)) (hs : swapsWith (.Call (.Attribute o "append" apos) [e] [] pos) none spos.line X.env = pure false := by rfl)
    (hst : starEach [e] X.env = (false, eval e X.env) :: starEach [] X.env := by rfl) : DS T X (.Expr (.Call (.Attribute o "append" apos) [e] [] pos) spos) (sApp i f) := by
  refine PSw (ps_expr (h _ (pa_cons he pa_nil hst)) hs) fun D σ H q => ?_
  obtain ⟨G, x, fl, x', R, ee, q⟩ := q
  unfold sApp at ee
  split at ee
  · rename_i ds0 hs0
    split at ee
    · rename_i d y ed
      split at ee
      · rename_i ds hs
        split at ee
        · rename_i hz
          cases ee
          obtain ⟨a, xs, h1, h2, h3, h4, h5⟩ := R.slot i _ hs0
          obtain ⟨h, y1, e1, e2⟩ := bnd_some ed
          obtain ⟨d', y2, e3, e4⟩ := bnd_some e2
          obtain ⟨hd, rfl⟩ := lift_some e3
          cases e4
          refine ⟨.ref a, h1, .inl ⟨rfl, _, SqL.of h2⟩, G, x, h, y, R, e1, fun v H1 p1 R1 r1 => ?_⟩
          obtain ⟨b, ys, k1, k2, k3, k4, k5⟩ := R1.slot i _ hs
          rw [h1] at k1; cases k1
          refine ⟨a, ys, v, rfl, rfl, k2, by rw [k3.length, sizeLine_eq]; exact hz, ?_⟩
          exact q σ _ (p1.trans (Pers.lst k2)) (R1.mutOwn hs h1 k2 k4 k5 (k3.append (.cons (r1.esc hd) .nil)))
        · cases ee
      · cases ee
    · cases ee
  · cases ee
/-- x.pop(e) -/
def dPop (i : Nat) (f : M Hd) : M Hd := fun x => match x.1[i]? with
  | some (.own _) => match f x with
    | some (.val (.int k), y) => match y.1[i]? with
      | some (.own ds) => if 0 ≤ k ∧ k < ds.length ∧ k < 2 ^ 63 then match ds[k.toNat]? with
        | some d => some (.val d, putS i (.own (ds.eraseIdx k.toNat)) y)
        | none => none
        else none
      | _ => none
    | _ => none
  | _ => none
theorem seqIx {k : Int} {n : Nat} (h0 : 0 ≤ k) (h1 : k < n) : seqIndex? k n = some k.toNat := (ixN_seq (n := n) (i := k) (j := k.toNat) (by unfold ixN; rw [if_pos h0, if_pos h1])).1
theorem de_pop {o e : Expr} {apos pos : Pos} {i : Nat} {f : M Hd} (he : DE T X e f) (h : ∀ (t : TA), PA X [e] t → PE X (.Call (.Attribute o "pop" apos) [e] [] pos) (tBM X.K "list" rPopAt (tVar i) t)) (hst : starEach [e] X.env = (false, eval e X.env) :: starEach [] X.env := by rfl) : DE T X (.Call (.Attribute o "pop" apos) [e] [] pos) (dPop i f) := by
  refine PEw (h _ (pa_cons he pa_nil hst)) fun σ H Q q => ?_
  obtain ⟨G, x, fl, x', R, ee, q⟩ := q
  unfold dPop at ee
  split at ee
  · rename_i ds0 hs0
    split at ee
    · rename_i k y ed
      split at ee
      · rename_i ds hs
        split at ee
        · rename_i hk
          split at ee
          · rename_i d hd
            cases ee
            obtain ⟨a, xs, h1, h2, h3, h4, h5⟩ := R.slot i _ hs0
            refine ⟨.ref a, h1, .inl ⟨rfl, _, SqL.of h2⟩, G, x, _, y, R, ed, fun v H1 p1 R1 r1 => ?_⟩
            have r1' : Pr X.K H1 v (.int k) := r1
            cases r1'
            obtain ⟨b, ys, k1, k2, k3, k4, k5⟩ := R1.slot i _ hs
            rw [h1] at k1; cases k1
            obtain ⟨u, hu, pu⟩ := k3.get hd
            refine ⟨a, ys, k, k.toNat, u, rfl, rfl, k2, by omega, hk.2.2, seqIx hk.1 (by rw [k3.length]; exact hk.2.1), hu, ?_⟩
            have p2 : Pers H1 (upd H1 a (.lst (ys.eraseIdx k.toNat))) := Pers.lst k2
            exact q u _ (p1.trans p2) (R1.mutOwn hs h1 k2 k4 k5 (k3.erase _)) (Pr.mono p2 d pu)
          · cases ee
        · cases ee
      · cases ee
    · cases ee
  · cases ee
/-- x[k] = e -/
def sSet (i : Nat) (fk fv : M Hd) : M Fl := bnd fv fun hv => bnd (lift (esc hv)) fun d => fun x => match x.1[i]? with
  | some (.own _) => match fk x with
    | some (.val (.int k), y) => match y.1[i]? with
      | some (.own ds) => if 0 ≤ k ∧ k < ds.length then some (.nx, putS i (.own (ds.set k.toNat d)) y) else none
      | _ => none
    | _ => none
  | _ => none
theorem ds_setItem {o k e : Expr} {spos pos : Pos} {i : Nat} {fk fv : M Hd} (ho : PE X o (tVar i)) (hk : DE T X k fk) (he : DE T X e fv)
    (ha : ∀ v, assign (.Subscript o k spos) X.env v = (do
      let ov ← holding [v] (eval o X.env)
      let iv ← holding [v, ov] (eval k X.env)
      standAt spos
      holding [v, ov, iv] (setItem ov iv v)
      release [v, ov, iv] []) := by intro _; rfl)
    (hs : swapsWithSole [.Subscript o k spos] e pos.line X.env = pure false := by rfl) (hw : swappedStores [.Subscript o k spos] e X.env = pure none := by rfl) (h1 : (assignEach [.Subscript o k spos] X.env).map (·.2) = [assign (.Subscript o k spos) X.env] := by rfl) :
    DS T X (.Assign [.Subscript o k spos] e pos) (sSet i fk fv) := by
  refine PSw (ps_asg he (pg_sub ho hk set_list ha) hs hw h1) fun D σ H q => ?_
  obtain ⟨G, x, fl, x', R, ee, q⟩ := q
  obtain ⟨hv, y, e1, ee⟩ := bnd_some ee
  obtain ⟨d, y1, e2, e3⟩ := bnd_some ee
  obtain ⟨hd, rfl⟩ := lift_some e2
  split at e3
  · rename_i ds0 hs0
    split at e3
    · rename_i kk z ek
      split at e3
      · rename_i ds hs
        split at e3
        · rename_i hb
          cases e3
          refine ⟨G, x, hv, _, R, e1, fun v H1 p1 R1 r1 => ?_⟩
          obtain ⟨a, xs, g1, g2, g3, g4, g5⟩ := R1.slot i _ hs0
          refine ⟨.ref a, g1, G, _, _, z, R1, ek, fun w H2 p2 R2 r2 => ?_⟩
          have r2' : Pr X.K H2 w (.int kk) := r2
          cases r2'
          obtain ⟨b, ys, k1, k2, k3, k4, k5⟩ := R2.slot i _ hs
          rw [g1] at k1; cases k1
          refine ⟨a, ys, kk, kk.toNat, rfl, rfl, k2, by unfold ixN; rw [if_pos hb.1, if_pos (by rw [k3.length]; exact hb.2)], ?_⟩
          exact q σ _ ((p1.trans p2).trans (Pers.lst k2)) (R2.mutOwn hs g1 k2 k4 k5 (PrAll.set (Pr.mono p2 d (r1.esc hd)) _ k3))
        · cases e3
      · cases e3
    · cases e3
  · cases e3
end
end DD
namespace DD
open PySem PySem.Spec PyProof.Rows L2
section
variable {l : Addr} {items : Array Value} {n : Nat} {dd : Option Addr} {sl : Array (Option Value)} {x : Int} {u : Tok}
/-- once, or of nothing: itself -/
theorem mul_same (c0 : (decide (x < -(2 ^ 63)) || decide (x ≥ 2 ^ 63)) = false) (c1 : (items.isEmpty || x == 1) = true) : Meets (Builtin.«tuple.__mul__» ⟨[.ref l, .int x u], []⟩)
    (fun _ R s => s.heap.get? l = some { cls := .type "tuple", dict := dd, data := .seq items n, slots := sl } ∧ R (.ok (.ret (Value.ref l))) s) := .of_wp fun prog w A R s h => by
  obtain ⟨hp, g, d, tk, os⟩ := s
  obtain ⟨hl, h⟩ := h
  have f1 := AutoSeq1.idx_int
  wp_walk using wpAny_loadPart' hl
  repeat (first
    | (refine wpAny_ite_false (decide_eq_false (by
        rw [c0]
        exact Bool.false_ne_true)) ?_
       wp_walk using wpAny_loadPart' hl)
    | (refine wpAny_ite_true (decide_eq_true c1) ?_
       wp_walk using wpAny_loadPart' hl))
  exact ⟨_, rfl, h⟩
theorem mul_none (c0 : (decide (x < -(2 ^ 63)) || decide (x ≥ 2 ^ 63)) = false) (c1 : (items.isEmpty || x == 1) = false) (c2 : (decide (x ≤ 0) || items.isEmpty) = true) : Meets (Builtin.«tuple.__mul__» ⟨[.ref l, .int x u], []⟩)
    (fun _ R s => s.heap.get? l = some { cls := .type "tuple", dict := dd, data := .seq items n, slots := sl } ∧ R (.ok (.ret (Value.ref s.heap.objs.size))) { s with heap := s.heap.push { cls := Value.type "tuple", data := Data.seq #[] } }) := .of_wp fun prog w A R s h => by
  obtain ⟨hp, g, d, tk, os⟩ := s
  obtain ⟨hl, h⟩ := h
  have f1 := AutoSeq1.idx_int
  wp_walk using wpAny_loadPart' hl
  repeat (first
    | (refine wpAny_ite_false (decide_eq_false (by
        rw [c0]
        exact Bool.false_ne_true)) ?_
       wp_walk using wpAny_loadPart' hl)
    | (refine wpAny_ite_false (decide_eq_false (by
        rw [c1]
        exact Bool.false_ne_true)) ?_
       wp_walk using wpAny_loadPart' hl)
    | (refine wpAny_ite_true (decide_eq_true c2) ?_
       wp_walk using wpAny_loadPart' hl))
  exact ⟨_, rfl, h⟩
end
/-- a tuple times an int, any of them -/
def rRepU (K : PySem.W.Frag) : R2 := fun x y H Q => ∃ l k xs, x = .ref l ∧ y = .int k ∧ SqT K H l xs ∧ -1000 ≤ k ∧ k ≤ 1000 ∧ xs.length ≤ 1000 ∧ (xs = [] ∨ k = 1 → Q (.ref l) H) ∧ (xs ≠ [] → k ≤ 0 → ∀ p, H p = none → Q (.ref p) (upd H p (.tup []))) ∧
  (xs ≠ [] → 2 ≤ k → ∀ p, H p = none → Q (.ref p) (upd H p (.tup (List.replicate k.toNat xs).flatten)))
section
variable {X : Cx}
theorem op_repU : OpR X (binaryOp .Mult) (rRepU X.K) := by
  intro pins s σ H x y v u Q I rx ry h
  obtain ⟨l, k, xs, rfl, rfl, hT, h1, h2, hz, q1, q2, q3⟩ := h
  by_cases big : xs ≠ [] ∧ 2 ≤ k
  · exact op_repT pins s σ H _ _ v u Q I rx ry ⟨l, k, xs, rfl, rfl, hT, big.1, big.2, h2, hz, q3 big.1 big.2⟩
  · cases rx
    obtain ⟨t, rfl⟩ := ry
    obtain ⟨its, r, ⟨⟨cls, dd, data, sl⟩, ho, hc, n, hd⟩, _⟩ := I.tuple hT
    simp only at hc hd
    subst hc hd
    have c0 : (decide (k < -(2 ^ 63)) || decide (k ≥ 2 ^ 63)) = false := by rw [decide_eq_false (by omega), decide_eq_false (by omega)] <;> rfl
    have em : its.toArray.isEmpty = true ↔ xs = [] := by
      cases r with
      | nil => simp
      | cons a b => simp
    by_cases same : xs = [] ∨ k = 1
    · have c1 : (its.toArray.isEmpty || k == 1) = true := by
        rw [Bool.or_eq_true]
        rcases same with e | e
        · exact .inl (em.mpr e)
        · exact .inr (by rw [e]; rfl)
      have mm := mul_same (l := l) (n := n) (dd := dd) (sl := sl) (u := t) c0 c1
      refine wpAny_binaryOp_repeat_ref (T := "tuple") (U := "int") (by decide) ⟨_, ho, rfl⟩ (fun s' => typeIs_int s' k t) noFill_tuple_mul F.fills_int_mul F.slot_int_rmul repeat_tuple F.slot_int_index.lookup ?_
      refine call_meets F.slot_int_rmul (typeIs_int s k t) F.entry_int_rmul (F.args_int_rmul_2 _ _) (int_rmul_tuple k t l its.toArray n dd sl) ⟨ho, rfl, ⟨_, ho, rfl⟩, ?_⟩
      exact call_meets F.slot_tuple_mul ⟨_, ho, rfl⟩ F.entry_tuple_mul (F.args_tuple_mul_2 _ _) mm ⟨ho, .ref l, H, I, rfl, q1 same⟩
    · have hne : xs ≠ [] := fun e => same (.inl e)
      have hk0 : k ≤ 0 := by
        have a1 : ¬ 2 ≤ k := fun e => big ⟨hne, e⟩
        have a2 : k ≠ 1 := fun e => same (.inr e)
        omega
      have c1 : (its.toArray.isEmpty || k == 1) = false := by
        rw [Bool.or_eq_false_iff]
        exact ⟨Bool.eq_false_iff.mpr fun e => hne (em.mp e), beq_eq_false_iff_ne.mpr (by omega)⟩
      have c2 : (decide (k ≤ 0) || its.toArray.isEmpty) = true := by rw [decide_eq_true hk0]; rfl
      have mm := mul_none (l := l) (n := n) (dd := dd) (sl := sl) (u := t) c0 c1 c2
      refine wpAny_binaryOp_repeat_ref (T := "tuple") (U := "int") (by decide) ⟨_, ho, rfl⟩ (fun s' => typeIs_int s' k t) noFill_tuple_mul F.fills_int_mul F.slot_int_rmul repeat_tuple F.slot_int_index.lookup ?_
      refine call_meets F.slot_int_rmul (typeIs_int s k t) F.entry_int_rmul (F.args_int_rmul_2 _ _) (int_rmul_tuple k t l its.toArray n dd sl) ⟨ho, rfl, ⟨_, ho, rfl⟩, ?_⟩
      refine call_meets F.slot_tuple_mul ⟨_, ho, rfl⟩ F.entry_tuple_mul (F.args_tuple_mul_2 _ _) mm ⟨ho, .ref s.heap.objs.size, _, I.laid (t' := s.toks) (o := .tup []) (fun b ob q => Heap.get?_push_of_some _ q) (Nat.le_refl _) ?_, rfl, q2 hne hk0 _ (I.hok.fresh (Nat.le_refl _))⟩
      exact ⟨Nat.zero_le _, [], .nil, IsTup.new _ _⟩
end
end DD
namespace DD
open PySem PySem.Spec PyProof.Rows L2
/-! ## operators on data -/
def okN (n : Nat) : Bool := decide (n ≤ 16777216)
theorem okN_le {n : Nat} (h : okN n = true) : n ≤ sizeLine := by rw [sizeLine_eq]; exact of_decide_eq_true h
/-- the wish behind an operation on data -/
abbrev Cont (K : PySem.W.Frag) (H : Hp) (c : PyData) (Q : VK) : Prop := ∀ v H', Pers H H' → Ext H H' ∨ (∃ H1 a xs o, Ext H H1 ∧ H a = none ∧ H1 a = some (.lst xs) ∧ H' = upd H1 a (.frz o (.lst xs))) → Pr K H' v c → Q v H'
theorem opD_of {X : Cx} {f : Value → Value → Sem Value} {r : R2} {op : PyData → PyData → Option PyData} (h : OpR X f r)
    (k : ∀ x y H Q d e c, Bo X.K H x d → Bo X.K H y e → op d e = some c → Cont X.K H c Q → rFrz r x y H Q) : OpD X f op := OpR.wk (OpR.frz h) fun x y H Q ⟨d, e, c, b1, b2, e1, q⟩ => k x y H Q d e c b1 b2 e1 q
section
variable {K : PySem.W.Frag} {H : Hp} {Q : VK}
theorem Cont.now {c : PyData} {v : V} (q : Cont K H c Q) (p : Pr K H v c) : Q v H := q v H (Pers.refl H) (.inl (Ext.refl H)) p
theorem Cont.tup {ds : List PyData} {xs : List V} {p : Addr} (q : Cont K H (.tuple ds) Q) (t : PrAll K H xs ds) (n : H p = none) : Q (.ref p) (upd H p (.tup xs)) := by
  have g := Ext.new (o := .tup xs) n
  exact q _ _ g.pers (.inl g) (.tup (.of upd_same) (PrAll.mono g.pers ds t))
theorem Cont.lst {ds : List PyData} {xs : List V} {p : Addr} (q : Cont K H (.list ds) Q) (t : PrAll K H xs ds) (n : H p = none) :
    Q (.ref p) (upd H p (.lst xs)) ∨ ∃ a ys, V.ref p = .ref a ∧ (upd H p (.lst xs)) a = some (.lst ys) ∧ ∀ o, Q (.ref p) (upd (upd H p (.lst xs)) a (.frz o (.lst ys))) := by
  have g := Ext.new (o := .lst xs) n
  refine .inr ⟨p, xs, rfl, upd_same, fun o => ?_⟩
  have p2 : Pers (upd H p (.lst xs)) (upd (upd H p (.lst xs)) p (.frz o (.lst xs))) := Pers.lst upd_same
  exact q _ _ (g.pers.trans p2) (.inr ⟨_, p, xs, o, g, n, upd_same, rfl⟩) (.lst ⟨o, upd_same⟩ (PrAll.mono (g.pers.trans p2) ds t))
end
section
variable {X : Cx} {T : TB}
def rCatL : R2 := fun x y H Q => ∃ l b xs zs, x = .ref l ∧ y = .ref b ∧ Rd H l (.lst xs) ∧ Rd H b (.lst zs) ∧ xs.length + zs.length ≤ sizeLine ∧ ∀ p, H p = none → Q (.ref p) (upd H p (.lst (xs ++ zs)))
theorem Rd.lst {pins : List (Addr × Obj)} {σ : L2.St} {H : Hp} {s : Shared} {l : Addr} {xs : List V} (I : Inv X pins σ H s) (h : Rd H l (.lst xs)) : ∃ (its : List Value) (n : Nat), Vals xs its ∧ xs.length = its.length ∧ s.heap.get? l = some { cls := .type "list", data := .seq its.toArray n } := by
  obtain ⟨_, its, n, r, e⟩ := h.ok I.hok
  exact ⟨its, n, r, r.length, e⟩
theorem op_catL : OpR X (binaryOp .Add) rCatL := fun pins s σ H x y v u Q I rx ry h => by
  obtain ⟨l, b, xs, zs, rfl, rfl, hH, hB, hz, q⟩ := h
  cases rx
  cases ry
  obtain ⟨i1, n1, r1, l1, e1⟩ := Rd.lst I hH
  obtain ⟨i2, n2, r2, l2, e2⟩ := Rd.lst I hB
  refine PySem.P.add_list e1 e2 ?_ (by simp only [List.size_toArray]; omega)
  rw [show i1.toArray ++ i2.toArray = (i1 ++ i2).toArray by simp]
  exact ⟨.ref _, _, I.lnew (t' := s.toks) (r1.append r2) (by simp only [List.length_append]; omega), rfl, q _ I.fresh⟩
def b2I (b : Bool) : Int := if b = true then 1 else 0
def rBI (g : Int → Int → Int) : R2 := fun x y H Q => ∃ b j, x = .bl b ∧ y = .int j ∧ Q (.int (g (b2I b) j)) H
def rIB (g : Int → Int → Int) : R2 := fun x y H Q => ∃ i b, x = .int i ∧ y = .bl b ∧ Q (.int (g i (b2I b))) H
theorem op_addBI : OpR X (binaryOp .Add) (rBI fun i j => i + j) := by
  intro pins s σ H x y v u Q I rx ry h
  obtain ⟨b, j, rfl, rfl, q⟩ := h
  obtain ⟨t, rfl⟩ := ry
  cases rx
  exact PySem.IntBool.add_bool_int ⟨.int _, H, I.tok _, ⟨_, rfl⟩, q⟩
theorem op_subBI : OpR X (binaryOp .Sub) (rBI fun i j => i - j) := by
  intro pins s σ H x y v u Q I rx ry h
  obtain ⟨b, j, rfl, rfl, q⟩ := h
  obtain ⟨t, rfl⟩ := ry
  cases rx
  exact PySem.IntBool.sub_bool_int ⟨.int _, H, I.tok _, ⟨_, rfl⟩, q⟩
theorem op_subIB : OpR X (binaryOp .Sub) (rIB fun i j => i - j) := by
  intro pins s σ H x y v u Q I rx ry h
  obtain ⟨i, b, rfl, rfl, q⟩ := h
  obtain ⟨t, rfl⟩ := rx
  cases ry
  exact PySem.IntBool.sub_int_bool ⟨.int _, H, I.tok _, ⟨_, rfl⟩, q⟩
def addD : PyData → PyData → Option PyData
  | .int i, .int j => some (.int (i + j))
  | .bool b, .int j => some (.int (b2I b + j))
  | .str x, .str y => if okN (x.length + y.length) then some (.str (x ++ y)) else none
  | .tuple xs, .tuple ys => if okN (xs.length + ys.length) then some (.tuple (xs ++ ys)) else none
  | .list xs, .list ys => if okN (xs.length + ys.length) then some (.list (xs ++ ys)) else none
  | _, _ => none
theorem oa_add : OpD X (binaryOp .Add) addD := by
  refine opD_of (op_add.or (op_add_str.or (op_catA.or (op_catL.or op_addBI)))) fun x y H Q d e c b1 b2 ee q => ?_
  unfold addD at ee
  split at ee
  · cases ee
    rw [b1.int, b2.int]
    exact .inl ⟨_, _, rfl, rfl, .inl (q.now (.int _))⟩
  · cases ee
    rw [b1.bool, b2.int]
    exact .inr (.inr (.inr (.inr ⟨_, _, rfl, rfl, .inl (q.now (.int _))⟩)))
  · split at ee
    · cases ee
      rw [b1.str, b2.str]
      exact .inr (.inl ⟨_, _, rfl, rfl, okN_le ‹_›, .inl (q.now (.str _))⟩)
    · cases ee
  · split at ee
    · rename_i xs ys hz
      cases ee
      obtain ⟨a, us, rfl, s1, t1⟩ := b1.tuple
      obtain ⟨b, ws, rfl, s2, t2⟩ := b2.tuple
      refine .inr (.inr (.inl ⟨a, b, us, ws, rfl, rfl, s1, s2, by rw [t1.length, t2.length]; exact okN_le hz, fun e => ?_, fun _ e => ?_, fun _ _ p np => .inl (q.tup (t1.append t2) np)⟩))
      · subst e
        cases t1
        exact .inl (q.now (.tup s2 t2))
      · subst e
        cases t2
        rw [List.append_nil] at q
        exact .inl (q.now (.tup s1 t1))
    · cases ee
  · split at ee
    · rename_i xs ys hz
      cases ee
      obtain ⟨a, us, rfl, s1, t1⟩ := b1.list
      obtain ⟨b, ws, rfl, s2, t2⟩ := b2.list
      exact .inr (.inr (.inr (.inl ⟨a, b, us, ws, rfl, rfl, s1, s2, by rw [t1.length, t2.length]; exact okN_le hz, fun p np => q.lst (t1.append t2) np⟩)))
    · cases ee
  · cases ee
def intOp (C : Int → Int → Bool) (g : Int → Int → PyData) : PyData → PyData → Option PyData
  | .int i, .int j => if C i j = true then some (g i j) else none
  | _, _ => none
theorem oa_int {f : Value → Value → Sem Value} {P : Int → Int → Prop} {C : Int → Int → Bool} {g : Int → Int → V} {h : Int → Int → PyData} (ho : OpR X f (rI P g)) (hc : ∀ i j, C i j = true → P i j) (hp : ∀ H i j, Pr X.K H (g i j) (h i j)) : OpD X f (intOp C h) := by
  refine opD_of ho fun x y H Q d e c b1 b2 ee q => ?_
  unfold intOp at ee
  split at ee
  · split at ee
    · cases ee
      rw [b1.int, b2.int]
      exact ⟨_, _, rfl, rfl, hc _ _ ‹_›, .inl (q.now (hp _ _ _))⟩
    · cases ee
  · cases ee
theorem rI0_I {g : Int → Int → V} : ∀ x y (H : Hp) (Q : VK), rI (fun _ _ => True) g x y H Q → rI0 g x y H Q := fun x y H Q ⟨i, j, a, b, _, d⟩ => ⟨i, j, a, b, d⟩
def cT : Int → Int → Bool := fun _ _ => true
def subD : PyData → PyData → Option PyData
  | .int i, .int j => some (.int (i - j))
  | .bool b, .int j => some (.int (b2I b - j))
  | .int i, .bool b => some (.int (i - b2I b))
  | _, _ => none
theorem oa_sub : OpD X (binaryOp .Sub) subD := by
  refine opD_of (op_sub.or (op_subBI.or op_subIB)) fun x y H Q d e c b1 b2 ee q => ?_
  unfold subD at ee
  split at ee
  · cases ee
    rw [b1.int, b2.int]
    exact .inl ⟨_, _, rfl, rfl, .inl (q.now (.int _))⟩
  · cases ee
    rw [b1.bool, b2.int]
    exact .inr (.inl ⟨_, _, rfl, rfl, .inl (q.now (.int _))⟩)
  · cases ee
    rw [b1.int, b2.bool]
    exact .inr (.inr ⟨_, _, rfl, rfl, .inl (q.now (.int _))⟩)
  · cases ee
def cMod : Int → Int → Bool := fun _ j => decide (0 < j)
def modD := intOp cMod fun i j => .int (i % j)
theorem oa_mod : OpD X (binaryOp .Mod) modD := oa_int op_mod (fun _ j h => of_decide_eq_true (p := 0 < j) h) fun _ _ _ => .int _
def cDiv : Int → Int → Bool := fun _ j => decide (0 < j ∧ j < 1073741824)
def divD := intOp cDiv fun i j => .int (i / j)
theorem oa_div : OpD X (binaryOp .FloorDiv) divD := oa_int op_fdiv (fun _ j h => of_decide_eq_true (p := 0 < j ∧ j < 1073741824) h) fun _ _ _ => .int _
def cPow : Int → Int → Bool := fun i j => decide (0 ≤ j ∧ j ≤ 1000000 ∧ i.natAbs < 2 ^ 64)
def powD := intOp cPow fun i j => .int (i ^ j.toNat)
theorem oa_pow : OpD X (binaryOp .Pow) powD := oa_int op_pow (fun i j h => of_decide_eq_true (p := 0 ≤ j ∧ j ≤ 1000000 ∧ i.natAbs < 2 ^ 64) h) fun _ _ _ => .int _
def andD := intOp cT fun i j => .int (Builtin.bitAnd i j)
theorem oa_and : OpD X (binaryOp .BitAnd) andD := oa_int (P := fun _ _ => True) (OpR.wk op_and rI0_I) (fun _ _ _ => trivial) fun _ _ _ => .int _
def cMul : Int → Int → Bool := fun i j => decide (-(2 ^ 64) < i ∧ i < 2 ^ 64) || decide (-(2 ^ 64) < j ∧ j < 2 ^ 64)
theorem cMul_ok {i j : Int} (h : cMul i j = true) : CMul i j := by
  unfold cMul at h
  rw [Bool.or_eq_true] at h
  exact h.imp (fun h => of_decide_eq_true h) fun h => of_decide_eq_true h
/-- so many times the items -/
def repL (k : Int) (ds : List PyData) : List PyData := (List.replicate k.toNat ds).flatten
theorem PrAll.rep {K : PySem.W.Frag} {H : Hp} {vs : List V} {ds : List PyData} (t : PrAll K H vs ds) : ∀ n : Nat, PrAll K H (List.replicate n vs).flatten (List.replicate n ds).flatten
  | 0 => .nil
  | n + 1 => by
    rw [List.replicate_succ, List.replicate_succ, List.flatten_cons, List.flatten_cons]
    exact t.append (PrAll.rep t n)
def mulD : PyData → PyData → Option PyData
  | .int i, .int j => if cMul i j then some (.int (i * j)) else none
  | .tuple ds, .int k => if decide (-1000 ≤ k ∧ k ≤ 1000 ∧ ds.length ≤ 1000) then some (.tuple (repL k ds)) else none
  | .list ds, .int k => if decide (-1000 ≤ k ∧ k ≤ 1000 ∧ ds.length ≤ 1000) then some (.list (repL k ds)) else none
  | _, _ => none
def rRepL : R2 := fun x y H Q => ∃ l k xs, x = .ref l ∧ y = .int k ∧ Rd H l (.lst xs) ∧ -(2 ^ 63) ≤ k ∧ k < 2 ^ 63 ∧ xs.length * k.toNat ≤ sizeLine ∧
  ∀ p, H p = none → Q (.ref p) (upd H p (.lst (List.replicate k.toNat xs).flatten))
theorem op_repL : OpR X (binaryOp .Mult) rRepL := by
  intro pins s σ H x y v u Q I rx ry h
  obtain ⟨l, k, xs, rfl, rfl, hH, h1, h2, hz, q⟩ := h
  cases rx
  obtain ⟨t, rfl⟩ := ry
  obtain ⟨z, its, n, r, e⟩ := hH.ok I.hok
  have hl := r.length
  have hlen : its.toArray.size * k.toNat ≤ sizeLine := by
    rw [List.size_toArray, ← hl]
    exact hz
  have hcap : ¬ its.toArray.size * k.toNat > (2 ^ 63 - 1) / 8 := by
    have : (sizeLine : Nat) ≤ (2 ^ 63 - 1) / 8 := by decide
    omega
  have hfit : ¬ (!Builtin.List.listFitsIndex k) = true := by
    rw [fitsIndex_both h1 h2]
    exact Bool.false_ne_true
  have hlong : ¬ Builtin.List.listTooLong (its.toArray.size * k.toNat) = true := by
    rw [notLongL hlen]
    exact Bool.false_ne_true
  have hnew : List.foldl (fun x1 x2 => x1 ++ x2) #[] (List.replicate (if its.toArray.isEmpty = true then 0 else k.toNat) its.toArray) = (List.replicate k.toNat its).flatten.toArray := by
    have f0 : ∀ m : Nat, List.foldl (fun x1 x2 => x1 ++ x2) #[] (List.replicate m its.toArray) = (List.replicate m its).flatten.toArray := fun m => by
      have w := foldl_rep its m []
      rw [List.nil_append] at w
      exact w
    rw [f0]
    cases its with
    | nil => simp
    | cons a r' => rw [if_neg (by simp)]
  refine wpAny_binaryOp_repeat_ref (T := "list") (U := "int") (by decide) ⟨_, e, rfl⟩ (fun s' => typeIs_int s' k t) noFill_list_mul F.fills_int_mul F.slot_int_rmul repeat_list F.slot_int_index.lookup ?_
  refine call_meets F.slot_int_rmul (typeIs_int s k t) F.entry_int_rmul (F.args_int_rmul_2 _ _) (int___rmul___int_list k t l its.toArray n) ⟨e, rfl, ⟨_, e, rfl⟩, ?_⟩
  refine call_meets F.slot_list_mul ⟨_, e, rfl⟩ F.entry_list_mul (F.args_list_mul_2 _ _) (AutoListH.list___mul___list_int_3 l its.toArray n k t hfit hcap hlong) ⟨e, ?_⟩
  rw [hnew]
  exact ⟨.ref _, _, I.lnew (t' := s.toks) (r.rep k.toNat) (by rw [PyProof.Rows.lm_len_rep_flat, Nat.mul_comm]; exact hz), rfl, q _ I.fresh⟩
/-- a frozen list, as a list for a while -/
theorem Inv.thaw {pins : List (Addr × Obj)} {σ : L2.St} {H : Hp} {s : Shared} {l : Addr} {xs : List V} {o : Obj} (I : Inv X pins σ H s) (h : H l = some (.frz o (.lst xs))) : ObjOk X.prog X.w H s.heap l (.lst xs) := (I.hok l _ h).2
theorem oa_mul : OpD X (binaryOp .Mult) mulD := by
  refine opD_of (op_mul.or (op_repU.or op_repL)) fun x y H Q d e c b1 b2 ee q => ?_
  unfold mulD at ee
  split at ee
  · split at ee
    · cases ee
      rw [b1.int, b2.int]
      exact .inl ⟨_, _, rfl, rfl, cMul_ok ‹_›, .inl (q.now (.int _))⟩
    · cases ee
  · split at ee
    · rename_i ds k hk
      have hk := of_decide_eq_true hk
      cases ee
      obtain ⟨a, us, rfl, s1, t1⟩ := b1.tuple
      rw [b2.int]
      refine .inr (.inl ⟨a, k, us, rfl, rfl, s1, hk.1, hk.2.1, by rw [t1.length]; exact hk.2.2, fun h => ?_, fun _ h p np => ?_, fun _ _ p np => .inl (q.tup (t1.rep _) np)⟩)
      · refine .inl (q.now (.tup s1 ?_))
        rcases h with h | h
        · subst h
          cases t1
          rw [show repL k [] = [] by simp [repL]]
          exact .nil
        · subst h
          rw [show repL 1 ds = ds by simp [repL]]
          exact t1
      · have e : repL k ds = [] := by
          have : k.toNat = 0 := by omega
          unfold repL
          rw [this]
          rfl
        rw [e] at q
        exact .inl (q.tup .nil np)
    · cases ee
  · split at ee
    · rename_i ds k hk
      have hk := of_decide_eq_true hk
      cases ee
      obtain ⟨a, us, rfl, s1, t1⟩ := b1.list
      rw [b2.int]
      refine .inr (.inr ⟨a, k, us, rfl, rfl, s1, by omega, by omega, ?_, fun p np => q.lst (t1.rep _) np⟩)
      rw [t1.length, sizeLine_eq]
      have : ds.length * k.toNat ≤ 1000 * 1000 := Nat.mul_le_mul hk.2.2 (by omega)
      omega
    · cases ee
  · cases ee

/-! ## comparisons -/
/-- what may be compared: data without dicts, and texts -/
def eqOk : PyData → PyData → Bool
  | .str _, .str _ => true
  | d, e => SeqAt.shaped d && SeqAt.shaped e
/-- two lists of unlike lengths, whatever their items are; two tuples of which one is empty -/
def lenOff : PyData → PyData → Bool
  | .list xs, .list ys => xs.length != ys.length
  | .tuple [], .tuple (_ :: _) => true
  | .tuple (_ :: _), .tuple [] => true
  | _, _ => false
def eqD : PyData → PyData → Option PyData := fun d e => if eqOk d e then some (.bool (PyData.eqv d e)) else if lenOff d e then some (.bool false) else none
def neD : PyData → PyData → Option PyData := fun d e => if eqOk d e then some (.bool (!PyData.eqv d e)) else if lenOff d e then some (.bool true) else none
def rLenOff (K : PySem.W.Frag) (b : Bool) : R2 := fun x y H Q => ∃ a c xs ys, x = .ref a ∧ y = .ref c ∧ ((Rd H a (.lst xs) ∧ Rd H c (.lst ys)) ∨ (SqT K H a xs ∧ SqT K H c ys ∧ (xs = [] ∨ ys = []))) ∧ xs.length ≠ ys.length ∧ Q (.bl b) H
theorem lenOff_some {d e : PyData} (h : lenOff d e = true) : ∃ xs ys, ((d = .list xs ∧ e = .list ys) ∨ (d = .tuple xs ∧ e = .tuple ys ∧ (xs = [] ∨ ys = []))) ∧ xs.length ≠ ys.length := by
  cases d with
  | list xs =>
    cases e with
    | list ys => exact ⟨xs, ys, .inl ⟨rfl, rfl⟩, by simpa [lenOff] using h⟩
    | _ => cases h
  | tuple xs =>
    cases e with
    | tuple ys =>
      cases xs with
      | nil =>
        cases ys with
        | nil => cases h
        | cons y ys => exact ⟨[], y :: ys, .inr ⟨rfl, rfl, .inl rfl⟩, by simp⟩
      | cons x xs =>
        cases ys with
        | nil => exact ⟨x :: xs, [], .inr ⟨rfl, rfl, .inr rfl⟩, by simp⟩
        | cons y ys => cases h
    | _ => cases xs <;> cases h
  | _ => cases h
theorem op_eqLen (hu : X.A.units + 64 < cLine) : OpR X (compareOp .Eq) (rLenOff X.K false) := by
  intro pins s σ H x y v u Q I rx ry h
  obtain ⟨a, c, xs, ys, rfl, rfl, h12, hn, q⟩ := h
  cases rx; cases ry
  rcases h12 with ⟨h1, h2⟩ | ⟨h1, h2, h3⟩
  · obtain ⟨its, rv, p1, _⟩ := I.list (.inl h1)
    obtain ⟨its2, rv2, p2, _⟩ := I.list (.inl h2)
    exact PySem.SeqAt.eq_list_lengthsAt p1.isList p2.isList (by have := rv.length; have := rv2.length; simp; omega) (by omega) ⟨.bl _, H, I, rfl, q⟩
  · obtain ⟨its, rv, p1, _⟩ := I.tuple h1
    obtain ⟨its2, rv2, p2, _⟩ := I.tuple h2
    have l1 := rv.length
    have l2 := rv2.length
    have e : ((List.range (min its.toArray.size its2.toArray.size)).all (fun _ => true) && its.toArray.size == its2.toArray.size) = false := by
      rw [Bool.and_eq_false_iff]
      refine .inr ?_
      simp
      omega
    refine PySem.SeqAt.RcAt.tuples (e := fun _ => true) p1 p2 (by omega) (fun j g1 g2 => ?_) X.prog X.w _ _ ?_
    · exfalso
      simp at g1 g2
      rcases h3 with rfl | rfl
      · rw [← l1] at g1; exact absurd g1 (by simp)
      · rw [← l2] at g2; exact absurd g2 (by simp)
    · rw [e]; exact ⟨.bl _, H, I, rfl, q⟩
theorem op_neLen (hu : X.A.units + 64 < cLine) : OpR X (compareOp .NotEq) (rLenOff X.K true) := by
  intro pins s σ H x y v u Q I rx ry h
  obtain ⟨a, c, xs, ys, rfl, rfl, h12, hn, q⟩ := h
  cases rx; cases ry
  rcases h12 with ⟨h1, h2⟩ | ⟨h1, h2, h3⟩
  · obtain ⟨its, rv, p1, _⟩ := I.list (.inl h1)
    obtain ⟨its2, rv2, p2, _⟩ := I.list (.inl h2)
    exact PySem.SeqAt.RcNeAt.lists_lengths p1.isList p2.isList (by have := rv.length; have := rv2.length; simp; omega) (by omega) X.prog X.w _ _ ⟨.bl _, H, I, rfl, q⟩
  · obtain ⟨its, rv, p1, _⟩ := I.tuple h1
    obtain ⟨its2, rv2, p2, _⟩ := I.tuple h2
    have l1 := rv.length
    have l2 := rv2.length
    have e : (!((List.range (min its.toArray.size its2.toArray.size)).all (fun _ => true) && its.toArray.size == its2.toArray.size)) = true := by
      rw [Bool.not_eq_true', Bool.and_eq_false_iff]
      refine .inr ?_
      simp
      omega
    refine PySem.SeqAt.RcNeAt.tuples (e := fun _ => true) p1 p2 (by omega) (fun j g1 g2 => ?_) X.prog X.w _ _ ?_
    · exfalso
      simp at g1 g2
      rcases h3 with rfl | rfl
      · rw [← l1] at g1; exact absurd g1 (by simp)
      · rw [← l2] at g2; exact absurd g2 (by simp)
    · rw [e]; exact ⟨.bl _, H, I, rfl, q⟩
theorem eqOk_cases {d e : PyData} (h : eqOk d e = true) : (∃ x y, d = .str x ∧ e = .str y) ∨ (SeqAt.shaped d = true ∧ SeqAt.shaped e = true) := by
  unfold eqOk at h
  split at h
  · exact .inl ⟨_, _, rfl, rfl⟩
  · exact .inr (Bool.and_eq_true_iff.mp h)
theorem oa_eq (hu : X.A.units + 64 < cLine) : OpD X (compareOp .Eq) eqD := by
  refine opD_of (((op_eqD hu).or op_eq).or (op_eqLen hu)) fun x y H Q d e c b1 b2 ee q => ?_
  unfold eqD at ee
  split at ee
  · rename_i h
    cases ee
    rcases eqOk_cases h with ⟨a, b, rfl, rfl⟩ | ⟨h1, h2⟩
    · rw [b1.str, b2.str]
      refine .inl (.inr ⟨rfl, .inl ?_⟩)
      rw [dec_str]
      exact q.now (.bl _)
    · exact .inl (.inl ⟨d, e, b1.dpS h1, b2.dpS h2, h1, h2, .inl (q.now (.bl _))⟩)
  · split at ee
    · rename_i h
      cases ee
      obtain ⟨xs, ys, ⟨rfl, rfl⟩ | ⟨rfl, rfl, h3⟩, hn⟩ := lenOff_some h
      · obtain ⟨a, us, rfl, s1, t1⟩ := b1.list
        obtain ⟨a2, ws, rfl, s2, t2⟩ := b2.list
        exact .inr ⟨a, a2, us, ws, rfl, rfl, .inl ⟨s1, s2⟩, by rw [t1.length, t2.length]; exact hn, .inl (q.now (.bl _))⟩
      · obtain ⟨a, us, rfl, s1, t1⟩ := b1.tuple
        obtain ⟨a2, ws, rfl, s2, t2⟩ := b2.tuple
        have l1 := t1.length
        have l2 := t2.length
        refine .inr ⟨a, a2, us, ws, rfl, rfl, .inr ⟨s1, s2, ?_⟩, by rw [l1, l2]; exact hn, .inl (q.now (.bl _))⟩
        rcases h3 with rfl | rfl
        · exact .inl (List.eq_nil_of_length_eq_zero l1)
        · exact .inr (List.eq_nil_of_length_eq_zero l2)
    · cases ee
theorem oa_ne (hu : X.A.units + 64 < cLine) : OpD X (compareOp .NotEq) neD := by
  refine opD_of (((op_neD hu).or op_ne).or (op_neLen hu)) fun x y H Q d e c b1 b2 ee q => ?_
  unfold neD at ee
  split at ee
  · rename_i h
    cases ee
    rcases eqOk_cases h with ⟨a, b, rfl, rfl⟩ | ⟨h1, h2⟩
    · rw [b1.str, b2.str]
      refine .inl (.inr ⟨rfl, .inl ?_⟩)
      rw [dec_str]
      exact q.now (.bl _)
    · exact .inl (.inl ⟨d, e, b1.dpS h1, b2.dpS h2, h1, h2, .inl (q.now (.bl _))⟩)
  · split at ee
    · rename_i h
      cases ee
      obtain ⟨xs, ys, ⟨rfl, rfl⟩ | ⟨rfl, rfl, h3⟩, hn⟩ := lenOff_some h
      · obtain ⟨a, us, rfl, s1, t1⟩ := b1.list
        obtain ⟨a2, ws, rfl, s2, t2⟩ := b2.list
        exact .inr ⟨a, a2, us, ws, rfl, rfl, .inl ⟨s1, s2⟩, by rw [t1.length, t2.length]; exact hn, .inl (q.now (.bl _))⟩
      · obtain ⟨a, us, rfl, s1, t1⟩ := b1.tuple
        obtain ⟨a2, ws, rfl, s2, t2⟩ := b2.tuple
        have l1 := t1.length
        have l2 := t2.length
        refine .inr ⟨a, a2, us, ws, rfl, rfl, .inr ⟨s1, s2, ?_⟩, by rw [l1, l2]; exact hn, .inl (q.now (.bl _))⟩
        rcases h3 with rfl | rfl
        · exact .inl (List.eq_nil_of_length_eq_zero l1)
        · exact .inr (List.eq_nil_of_length_eq_zero l2)
    · cases ee
def ltD := intOp cT fun i j => .bool (decide (i < j))
def leD := intOp cT fun i j => .bool (decide (i ≤ j))
def gtD := intOp cT fun i j => .bool (decide (j < i))
def geD := intOp cT fun i j => .bool (decide (j ≤ i))
theorem oa_lt : OpD X (compareOp .Lt) ltD := oa_int (P := fun _ _ => True) (OpR.wk op_lt rI0_I) (fun _ _ _ => trivial) fun _ _ _ => .bl _
theorem oa_le : OpD X (compareOp .LtE) leD := oa_int (P := fun _ _ => True) (OpR.wk op_le rI0_I) (fun _ _ _ => trivial) fun _ _ _ => .bl _
theorem oa_gt : OpD X (compareOp .Gt) gtD := oa_int (P := fun _ _ => True) (OpR.wk op_gt rI0_I) (fun _ _ _ => trivial) fun _ _ _ => .bl _
theorem oa_ge : OpD X (compareOp .GtE) geD := oa_int (P := fun _ _ => True) (OpR.wk op_ge rI0_I) (fun _ _ _ => trivial) fun _ _ _ => .bl _
end
end DD
namespace DD
open PySem PySem.Spec PyProof.Rows L2
section
variable {X : Cx} {T : TB}
/-! ## items and slices -/
def ixD : PyData → PyData → Option PyData
  | .list ds, .int i => atI ds i
  | .tuple ds, .int i => atI ds i
  | _, _ => none
theorem PrAll.atI {K : PySem.W.Frag} {H : Hp} {vs : List V} {ds : List PyData} {i : Int} {d : PyData} (t : PrAll K H vs ds) (h : L2.atI ds i = some d) : ∃ v, L2.atI vs i = some v ∧ Pr K H v d := by
  unfold L2.atI at h ⊢
  rw [t.length]
  cases e : ixN ds.length i with
  | none => rw [e] at h; cases h
  | some j =>
    rw [e] at h
    exact t.get h
theorem IxR.wk' {r r' : R2} (h : IxR X r) (k : ∀ x y H Q, r' x y H Q → r x y H Q) : IxR X r' := fun va sl pins s σ H x y v u Q I rx ry q => h va sl pins s σ H x y v u Q I rx ry (k x y H Q q)
theorem de_ix {a b : Expr} {f g : M Hd} {pos : Pos} (ha : DE T X a f) (hb : DE T X b g) (hs : PlainIx b) : DE T X (.Subscript a b pos) (dOp ixD f g) := by
  refine PEw (pe_ix (IxR.wk' (ix_list.or ix_tup) fun x y H Q (q : rD X.K ixD x y H Q) => ?_) ha hb hs) rd_op
  obtain ⟨d, e, c, b1, b2, ee, q⟩ := q
  unfold ixD at ee
  split at ee
  · obtain ⟨a, us, rfl, s1, t1⟩ := b1.list
    obtain ⟨v, hv, pv⟩ := t1.atI ee
    rw [b2.int]
    exact .inl ⟨a, us, _, v, rfl, rfl, .inl s1, hv, Cont.now q pv⟩
  · obtain ⟨a, us, rfl, s1, t1⟩ := b1.tuple
    obtain ⟨v, hv, pv⟩ := t1.atI ee
    rw [b2.int]
    exact .inr ⟨a, us, _, v, rfl, rfl, s1, hv, Cont.now q pv⟩
  · cases ee
/-- a slice's parts -/
def rdO (K : PySem.W.Frag) (T : TB) (f : M (Option Int)) : TO := fun σ H Q => ∃ G x o x', Rel K T G σ H x ∧ f x = some (o, x') ∧ ∀ H', Pers H H' → Rel K T G σ H' x' → Q o H'
abbrev DO (T : TB) (X : Cx) (e : Option Expr) (f : M (Option Int)) : Prop := PO X e (rdO X.K T f)
theorem POw {e : Option Expr} {t t' : TO} (h : PO X e t) (k : ∀ σ H Q, t' σ H Q → t σ H Q) : PO X e t' := ⟨fun pins s σ H Q I q => h.run pins s σ H Q I (k σ H Q q)⟩
def oN : M (Option Int) := ret none
def oS (f : M Hd) : M (Option Int) := bnd f fun h => fun x => match h with
  | .val (.int i) => some (some i, x)
  | _ => none
theorem do_none : DO T X none oN := POw po_none fun σ H Q q => by
  obtain ⟨G, x, o, x', R, e, q⟩ := q
  cases e
  exact q H (Pers.refl H) R
theorem do_some {e : Expr} {f : M Hd} (h : DE T X e f) : DO T X (some e) (oS f) := POw (po_some h) fun σ H Q q => by
  obtain ⟨G, x, o, x', R, ee, q⟩ := q
  obtain ⟨h1, y, e1, ee⟩ := bnd_some ee
  split at ee
  · rename_i i
    cases ee
    refine ⟨G, x, _, _, R, e1, fun v H1 p1 R1 r1 => ?_⟩
    have r1' : Pr X.K H1 v (.int i) := r1
    cases r1'
    exact ⟨i, rfl, q H1 p1 R1⟩
  · cases ee
/-- the items from lo to hi -/
def cutD (ds : List PyData) (lo hi : Option Int) : List PyData := (ds.drop (HT.sIx ds.length 0 lo)).take (HT.sIx ds.length ds.length hi - HT.sIx ds.length 0 lo)
def slD : PyData → Option Int → Option Int → Option PyData
  | .list ds, lo, hi => some (.list (cutD ds lo hi))
  | .tuple ds, lo, hi => some (.tuple (cutD ds lo hi))
  | .str z, lo, hi => if okN z.length then some (.str (cutS z lo hi)) else none
  | _, _, _ => none
theorem PrAll.cut {K : PySem.W.Frag} {H : Hp} {vs : List V} {ds : List PyData} (t : PrAll K H vs ds) (lo hi : Option Int) : PrAll K H (cutV vs lo hi) (cutD ds lo hi) := by
  unfold cutV cutD
  rw [t.length]
  exact (t.drop _).take _
def dSl (f : M Hd) (l h : M (Option Int)) : M Hd := bnd f fun a => bnd l fun lo => bnd h fun hi => fun x => match deref a x with
  | some d => match slD d lo hi with
    | some c => some (.val c, x)
    | none => none
  | none => none
def rSlD (K : PySem.W.Frag) : V → Option Int → Option Int → Hp → VK → Prop := fun x lo hi H Q => ∃ d c, Bo K H x d ∧ slD d lo hi = some c ∧ Cont K H c Q
theorem sl_d : SlR X (rSlD X.K) := by
  intro pins s σ H x v vl vu lo hi sl Q I rx hs pl pu h
  obtain ⟨d, c, b, e, q⟩ := h
  unfold slD at e
  split at e
  · cases e
    obtain ⟨a, us, rfl, s1, t1⟩ := b.list
    obtain ⟨T, id, h1, h2, h3⟩ := sl_list pins s σ H _ v vl vu lo hi sl (fun v H1 => Q v H1 ∨ ∃ a xs, v = .ref a ∧ H1 a = some (.lst xs) ∧ ∀ o, Q v (upd H1 a (.frz o (.lst xs)))) I rx hs pl pu ⟨a, us, rfl, .inl s1, fun p np => q.lst (t1.cut lo hi) np⟩
    exact ⟨T, id, h1, h2, thn h3 fun _ _ z => EP.frz z⟩
  · rename_i ds
    cases e
    obtain ⟨a, us, rfl, s1, t1⟩ := b.tuple
    refine sl_tupA pins s σ H _ v vl vu lo hi sl Q I rx hs pl pu ⟨a, us, rfl, s1, fun w => ?_, fun _ p np => q.tup (t1.cut lo hi) np⟩
    refine q.now (.tup s1 ?_)
    have z : cutV us lo hi = us := by
      unfold cutV
      rw [w.1, w.2]
      simp
    have t2 := t1.cut lo hi
    rw [z] at t2
    exact t2
  · split at e
    · rename_i hz
      cases e
      rw [b.str] at rx
      exact sl_str pins s σ H _ v vl vu lo hi sl Q I rx hs pl pu ⟨_, rfl, by rw [sizeLine_eq]; exact of_decide_eq_true hz, q.now (.str _)⟩
    · cases e
  · cases e
theorem de_sl {a : Expr} {lo hi : Option Expr} {f : M Hd} {l h : M (Option Int)} {p2 pos : Pos} (ha : DE T X a f) (hl : DO T X lo l) (hh : DO T X hi h) : DE T X (.Subscript a (.Slice lo hi none p2) pos) (dSl f l h) := by
  refine PEw (pe_slice sl_d ha hl hh) fun σ H Q q => ?_
  obtain ⟨G, x, c, x', R, ee, q⟩ := q
  obtain ⟨h1, y, e1, ee⟩ := bnd_some ee
  obtain ⟨lo', y2, e2, ee⟩ := bnd_some ee
  obtain ⟨hi', y3, e3, ee⟩ := bnd_some ee
  split at ee
  · rename_i d hd
    split at ee
    · rename_i c' hc
      cases ee
      exact ⟨G, x, h1, y, R, e1, fun v H1 p1 R1 r1 => ⟨G, y, lo', y2, R1, e2, fun H2 p2 R2 => ⟨G, y2, hi', _, R2, e3, fun H3 p3 R3 => ⟨d, c', RH.deref R3 (r1.mono (p2.trans p3)) hd, hc, fun w H4 p4 g4 k4 => q w H4 (((p1.trans p2).trans p3).trans p4) (R3.grown g4) k4⟩⟩⟩⟩
    · cases ee
  · cases ee

/-! ## in -/
def inD : PyData → PyData → Option PyData
  | d, .list ds => if SeqAt.shaped d && SeqAt.shaped (.list ds) then some (.bool (ds.any fun z => PyData.eqv z d)) else none
  | d, .tuple ds => if SeqAt.shaped d && SeqAt.shaped (.list ds) then some (.bool (ds.any fun z => PyData.eqv z d)) else none
  | _, _ => none
def ninD : PyData → PyData → Option PyData
  | d, .list ds => if SeqAt.shaped d && SeqAt.shaped (.list ds) then some (.bool (!ds.any fun z => PyData.eqv z d)) else none
  | d, .tuple ds => if SeqAt.shaped d && SeqAt.shaped (.list ds) then some (.bool (!ds.any fun z => PyData.eqv z d)) else none
  | _, _ => none
def rInT (K : PySem.W.Frag) (neg : Bool) : R2 := fun x y H Q => ∃ d ds, Dp K H x d ∧ Dp K H y (.tuple ds) ∧ SeqAt.shaped d = true ∧ SeqAt.shaped (.list ds) = true ∧ Q (.bl (if neg then !ds.any (fun z => PyData.eqv z d) else ds.any fun z => PyData.eqv z d)) H
theorem lay_all {ds : List PyData} (h : SeqAt.shaped (.list ds) = true) : PyData.canLayAll0 ds = true := by
  have := SeqAt.canLay_of_shaped h
  simpa only [PyData.canLay0] using this
theorem op_inT (hu : X.A.units + 65 < cLine) : OpR X (compareOp .In) (rInT X.K false) := fun pins s σ H x y v u Q I rx ry h => by
  obtain ⟨d, ds, hd, he, sd, se, q⟩ := h
  obtain ⟨as, r1⟩ := Dp.reads I d x v hd rx
  obtain ⟨bs, r2⟩ := Dp.reads I (.tuple ds) y u he ry
  exact SeqAt.in_tuple_reads r2 r1 (lay_all se) (SeqAt.canLay_of_shaped sd) (room_in_shaped sd hu) ⟨.bl _, H, I, rfl, q⟩
theorem op_ninT (hu : X.A.units + 65 < cLine) : OpR X (compareOp .NotIn) (rInT X.K true) := fun pins s σ H x y v u Q I rx ry h => by
  obtain ⟨d, ds, hd, he, sd, se, q⟩ := h
  obtain ⟨as, r1⟩ := Dp.reads I d x v hd rx
  obtain ⟨bs, r2⟩ := Dp.reads I (.tuple ds) y u he ry
  exact SeqAt.notIn_tuple_reads r2 r1 (lay_all se) (SeqAt.canLay_of_shaped sd) (room_in_shaped sd hu) ⟨.bl _, H, I, rfl, q⟩
theorem oa_in (hu : X.A.units + 65 < cLine) : OpD X (compareOp .In) inD := by
  refine opD_of ((op_inD hu).or (op_inT hu)) fun x y H Q d e c b1 b2 ee q => ?_
  unfold inD at ee
  split at ee
  · split at ee
    · rename_i h
      rw [Bool.and_eq_true] at h
      cases ee
      exact .inl ⟨_, _, b1.dpS h.1, b2.dpS h.2, h.1, h.2, .inl (q.now (.bl _))⟩
    · cases ee
  · split at ee
    · rename_i h
      rw [Bool.and_eq_true] at h
      cases ee
      exact .inr ⟨_, _, b1.dpS h.1, b2.dpS h.2, h.1, h.2, .inl (q.now (.bl _))⟩
    · cases ee
  · cases ee
theorem oa_nin (hu : X.A.units + 65 < cLine) : OpD X (compareOp .NotIn) ninD := by
  refine opD_of ((op_notInD hu).or (op_ninT hu)) fun x y H Q d e c b1 b2 ee q => ?_
  unfold ninD at ee
  split at ee
  · split at ee
    · rename_i h
      rw [Bool.and_eq_true] at h
      cases ee
      exact .inl ⟨_, _, b1.dpS h.1, b2.dpS h.2, h.1, h.2, .inl (q.now (.bl _))⟩
    · cases ee
  · split at ee
    · rename_i h
      rw [Bool.and_eq_true] at h
      cases ee
      exact .inr ⟨_, _, b1.dpS h.1, b2.dpS h.2, h.1, h.2, .inl (q.now (.bl _))⟩
    · cases ee
  · cases ee
/-- is None, is not None -/
def noneD : PyData → Bool
  | .none => true
  | _ => false
def isND : PyData → PyData → Option PyData
  | d, .none => some (.bool (noneD d))
  | _, _ => none
def notND : PyData → PyData → Option PyData
  | d, .none => some (.bool (!noneD d))
  | _, _ => none
theorem Bo.isN {K : PySem.W.Frag} {H : Hp} {v : V} {d : PyData} (b : Bo K H v d) : decide (v = .non) = noneD d := by
  cases b with
  | ls q t => simp [noneD]
  | pr h => cases h <;> simp [noneD]
theorem oa_isN : OpD X (compareOp .Is) isND := by
  refine opD_of op_isN fun x y H Q d e c b1 b2 ee q => ?_
  unfold isND at ee
  split at ee
  · cases ee
    rw [b2.non]
    exact ⟨rfl, .inl (by rw [b1.isN]; exact q.now (.bl _))⟩
  · cases ee
theorem oa_notN : OpD X (compareOp .IsNot) notND := by
  refine opD_of op_notN fun x y H Q d e c b1 b2 ee q => ?_
  unfold notND at ee
  split at ee
  · cases ee
    rw [b2.non]
    exact ⟨rfl, .inl (by rw [b1.isN]; exact q.now (.bl _))⟩
  · cases ee
/-- -a -/
def dNeg (f : M Hd) : M Hd := bnd f fun h => fun x => match h with
  | .val (.int i) => some (.val (.int (-i)), x)
  | _ => none
theorem de_neg {a : Expr} {f : M Hd} {pos : Pos} (h : DE T X a f) : DE T X (.UnaryOp .USub a pos) (dNeg f) := by
  refine PEw (pe_un un_neg h) fun σ H Q q => ?_
  obtain ⟨G, x, o, x', R, ee, q⟩ := q
  obtain ⟨h1, y, e1, ee⟩ := bnd_some ee
  split at ee
  · rename_i i
    cases ee
    refine ⟨G, x, _, _, R, e1, fun v H1 p1 R1 r1 => ?_⟩
    have r1' : Pr X.K H1 v (.int i) := r1
    cases r1'
    exact ⟨i, rfl, q _ H1 p1 R1 (.int _)⟩
  · cases ee

/-! ## built-in functions -/
/-- a built-in function of data -/
abbrev FB := List PyData → Option PyData
inductive BoAll (K : PySem.W.Frag) (H : Hp) : List V → List PyData → Prop
  | nil : BoAll K H [] []
  | cons {v : V} {vs : List V} {d : PyData} {ds : List PyData} (h : Bo K H v d) (t : BoAll K H vs ds) : BoAll K H (v :: vs) (d :: ds)
def CallD (X : Cx) (f : Value) (op : FB) : Prop := CallR X f fun vs H Q => ∃ ds c, BoAll X.K H vs ds ∧ op ds = some c ∧ Cont X.K H c Q
def derefs (hs : List Hd) (x : Sx) : Option (List PyData) := match hs with
  | [] => some []
  | h :: hs => match deref h x, derefs hs x with
    | some d, some ds => some (d :: ds)
    | _, _ => none
theorem RHs.derefs {K : PySem.W.Frag} {G : Gh} {σ : L2.St} {H : Hp} {x : Sx} (R : Rel K T G σ H x) : ∀ {vs : List V} {hs : List Hd} {ds : List PyData}, RHs K G σ H vs hs → DD.derefs hs x = some ds → BoAll K H vs ds
  | _, _, _, .nil, e => by cases e; exact .nil
  | _, h :: hs, ds, .cons r t, e => by
    unfold DD.derefs at e
    split at e
    · cases e; exact .cons (RH.deref R r ‹_›) (RHs.derefs R t ‹_›)
    · cases e
def dB (op : FB) (f : M (List Hd)) : M Hd := bnd f fun hs => fun x => match derefs hs x with
  | some ds => match op ds with
    | some c => some (.val c, x)
    | none => none
  | none => none
theorem rd_b {K : PySem.W.Frag} {op : FB} {f : M (List Hd)} : ∀ σ H Q, rdE K T (dB op f) σ H Q → tCB (fun vs H Q => ∃ ds c, BoAll K H vs ds ∧ op ds = some c ∧ Cont K H c Q) (rdA K T f) σ H Q := fun σ H Q q => by
  obtain ⟨G, x, o, x', R, ee, q⟩ := q
  obtain ⟨hs, y, e1, ee⟩ := bnd_some ee
  split at ee
  · rename_i ds hd
    split at ee
    · rename_i c hc
      cases ee
      exact ⟨G, x, hs, _, R, e1, fun vs H1 p1 R1 r1 => ⟨ds, c, r1.derefs R1 hd, hc, fun v H2 p2 g2 k2 => q v H2 (p1.trans p2) (R1.grown g2) k2⟩⟩
    · cases ee
  · cases ee
theorem de_callB {id : String} {x : Str} {p pos : Pos} {e : Expr} {es : List Expr} {op : FB} {f : M (List Hd)} (hc : CallD X (.builtin id) op) (hg : Gl X x) (hm : X.mg x = none) (hv : bootBuiltins x = some (.builtin id)) (ha : DA T X (e :: es) f) (hn : x ≠ "__name__" := by decide) (hdb : (x == ("__debug__" : Str)) = false := by decide)
    (he : starEach (e :: es) X.env = (false, eval e X.env) :: starEach es X.env := by rfl) (hpl : (backTo pos (starEach es X.env)).any (·.1) = false := by rfl) : DE T X (.Call (.Name x p) (e :: es) [] pos) (dB op f) := PEw (pe_callB hc hg hm hv ha hn hdb he hpl) rd_b
theorem de_callTy {ty : String} {x : Str} {p pos : Pos} {e : Expr} {es : List Expr} {op : FB} {f : M (List Hd)} (hc : CallD X (.type ty) op) (hg : Gl X x) (hm : X.mg x = none) (hv : bootBuiltins x = some (.type ty)) (ha : DA T X (e :: es) f) (hn : x ≠ "__name__" := by decide) (hdb : (x == ("__debug__" : Str)) = false := by decide)
    (he : starEach (e :: es) X.env = (false, eval e X.env) :: starEach es X.env := by rfl) (hpl : (backTo pos (starEach es X.env)).any (·.1) = false := by rfl) : DE T X (.Call (.Name x p) (e :: es) [] pos) (dB op f) := PEw (pe_callTy hc hg hm hv ha hn hdb he hpl) rd_b
theorem CallR.wk' {f : Value} {r r' : List V → Hp → VK → Prop} (h : CallR X f r) (k : ∀ vs H Q, r' vs H Q → r vs H Q) : CallR X f r' := fun pins s σ H xs us Q I rx q => h pins s σ H xs us Q I rx (k xs H Q q)
theorem CallR.frz' {f : Value} {r : List V → Hp → VK → Prop} (h : CallR X f r) : CallR X f fun vs H Q => r vs H fun v H1 => Q v H1 ∨ ∃ a xs, v = .ref a ∧ H1 a = some (.lst xs) ∧ ∀ o, Q v (upd H1 a (.frz o (.lst xs))) := fun pins s σ H xs us Q I rx q => thn (h pins s σ H xs us _ I rx q) fun _ _ z => EP.frz z
def lenD : FB
  | [.list ds] => some (.int ds.length)
  | [.tuple ds] => some (.int ds.length)
  | [.str z] => if okN z.length then some (.int z.length) else none
  | _ => none
theorem ca_len : CallD X (.builtin "len") lenD := by
  refine CallR.wk' (call_len_seq.or call_len_str) fun vs H Q q => ?_
  obtain ⟨ds, c, t, e, q⟩ := q
  unfold lenD at e
  split at e
  · cases e
    cases t with
    | cons b t =>
      cases t
      obtain ⟨a, us, rfl, s1, t1⟩ := b.list
      exact .inl ⟨a, us, rfl, .inl (.inl s1), by rw [t1.length]; exact q.now (.int _)⟩
  · cases e
    cases t with
    | cons b t =>
      cases t
      obtain ⟨a, us, rfl, s1, t1⟩ := b.tuple
      exact .inl ⟨a, us, rfl, .inr s1, by rw [t1.length]; exact q.now (.int _)⟩
  · split at e
    · cases e
      cases t with
      | cons b t =>
        cases t
        rw [b.str]
        exact .inr ⟨_, rfl, okN_le ‹_›, q.now (.int _)⟩
    · cases e
  · cases e
def intD : FB
  | [.int i] => some (.int i)
  | [.bool b] => some (.int (if b then 1 else 0))
  | _ => none
theorem ca_int : CallD X (.type "int") intD := by
  refine CallR.wk' call_int1 fun vs H Q q => ?_
  obtain ⟨ds, c, t, e, q⟩ := q
  unfold intD at e
  split at e
  · cases e
    cases t with
    | cons b t => cases t; rw [b.int]; exact .inl ⟨_, rfl, q.now (.int _)⟩
  · cases e
    cases t with
    | cons b t => cases t; rw [b.bool]; exact .inr ⟨_, rfl, q.now (.int _)⟩
  · cases e
def tupD : FB
  | [.list ds] => some (.tuple ds)
  | [.tuple ds] => some (.tuple ds)
  | _ => none
theorem ca_tuple : CallD X (.type "tuple") tupD := by
  refine CallR.wk' call_tuple_of fun vs H Q q => ?_
  obtain ⟨ds, c, t, e, q⟩ := q
  unfold tupD at e
  split at e
  · cases e
    cases t with
    | cons b t =>
      cases t
      obtain ⟨a, us, rfl, s1, t1⟩ := b.list
      exact ⟨a, us, rfl, .inl ⟨.inl s1, fun p np => q.tup t1 np⟩⟩
  · cases e
    cases t with
    | cons b t =>
      cases t
      obtain ⟨a, us, rfl, s1, t1⟩ := b.tuple
      exact ⟨a, us, rfl, .inr ⟨s1, q.now (.tup s1 t1)⟩⟩
  · cases e
def lstD : FB
  | [.list ds] => some (.list ds)
  | [.tuple ds] => some (.list ds)
  | _ => none
theorem ca_list : CallD X (.type "list") lstD := by
  refine CallR.wk' (CallR.frz' call_list_of) fun vs H Q q => ?_
  obtain ⟨ds, c, t, e, q⟩ := q
  unfold lstD at e
  split at e
  · cases e
    cases t with
    | cons b t =>
      cases t
      obtain ⟨a, us, rfl, s1, t1⟩ := b.list
      exact ⟨a, us, rfl, .inl (.inl s1), fun p np => q.lst t1 np⟩
  · cases e
    cases t with
    | cons b t =>
      cases t
      obtain ⟨a, us, rfl, s1, t1⟩ := b.tuple
      exact ⟨a, us, rfl, .inr s1, fun p np => q.lst t1 np⟩
  · cases e
def intsOf : List PyData → Option (List Int)
  | [] => some []
  | .int i :: ds => (intsOf ds).map fun r => i :: r
  | _ :: _ => none
theorem intsOf_eq : ∀ {ds : List PyData} {ns : List Int}, intsOf ds = some ns → ds = ns.map PyData.int
  | [], ns, h => by cases h; rfl
  | d :: ds, ns, h => by
    cases d with
    | int i =>
      unfold intsOf at h
      cases e : intsOf ds with
      | none => rw [e] at h; cases h
      | some r => rw [e] at h; cases h; rw [intsOf_eq e]; rfl
    | _ => cases h
def sumD : FB
  | [.list ds] => (intsOf ds).map fun ns => .int ns.sum
  | _ => none
theorem ca_sum (hc : X.calm = true) : CallD X (.builtin "sum") sumD := by
  refine CallR.wk' (cr_sum hc) fun vs H Q q => ?_
  obtain ⟨ds, c, t, e, q⟩ := q
  unfold sumD at e
  split at e
  · rename_i ds
    cases e2 : intsOf ds with
    | none => rw [e2] at e; cases e
    | some ns =>
      rw [e2] at e
      cases e
      cases t with
      | cons b t =>
        cases t
        obtain ⟨a, us, rfl, s1, t1⟩ := b.list
        rw [intsOf_eq e2] at t1
        exact ⟨a, ns, rfl, by rw [← t1.ints]; exact .inl s1, q.now (.int _)⟩
  · cases e
def max2D : FB
  | [.int i, .int j] => some (.int (if j > i then j else i))
  | _ => none
def min2D : FB
  | [.int i, .int j] => some (.int (if j < i then j else i))
  | _ => none
theorem ca_max2 (hc : X.calm = true) : CallD X (.builtin "max") max2D := by
  refine CallR.wk' (call_max2 hc) fun vs H Q q => ?_
  obtain ⟨ds, c, t, e, q⟩ := q
  unfold max2D at e
  split at e
  · cases e
    cases t with
    | cons b t =>
      cases t with
      | cons b2 t => cases t; rw [b.int, b2.int]; exact ⟨_, _, rfl, q.now (.int _)⟩
  · cases e
theorem ca_min2 (hc : X.calm = true) : CallD X (.builtin "min") min2D := by
  refine CallR.wk' (call_min2 hc) fun vs H Q q => ?_
  obtain ⟨ds, c, t, e, q⟩ := q
  unfold min2D at e
  split at e
  · cases e
    cases t with
    | cons b t =>
      cases t with
      | cons b2 t => cases t; rw [b.int, b2.int]; exact ⟨_, _, rfl, q.now (.int _)⟩
  · cases e
end
end DD
namespace DD
open PySem PySem.Spec PyProof.Rows L2
/-! ## a list or a tuple, walked within zip or enumerate -/
/-- the sequence at a: a tuple (true), a list -/
def SqB (K : PySem.W.Frag) (H : Hp) (b : Bool) (a : Addr) (xs : List V) : Prop := if b = true then SqT K H a xs else SqL K H a xs
def IsSq (b : Bool) (h : Heap) (a : Addr) (items : Array Value) : Prop := if b = true then h.IsTuple a items else h.IsList a items
def IsIt (b : Bool) (h : Heap) (it a : Addr) (i : Nat) : Prop := if b = true then h.IsTupleIter it a i else h.IsListIter it a i
def itObj (b : Bool) (a : Addr) : Obj := { cls := .type (if b = true then "tuple_iterator" else "list_iterator"), data := .fields #[.ref a, .int 0 0] }
theorem draws_b {prog : Program} {w : World} {A : Around} (b : Bool) (hh : A.handled = none) (it a : Addr) (hne : a ≠ it) (items : Array Value) : Draws prog w A it [it, a] items.size (fun i v => items[i]? = some v) (fun i h => IsIt b h it a i ∧ IsSq b h a items) := by
  cases b with
  | true => exact Draws.tuple hh it a hne items
  | false => exact Draws.list hh it a hne items
theorem begins_b (b : Bool) (a : Addr) (items : Array Value) : Begins (.ref a) (itObj b a) fun h => IsSq b h a items := by
  cases b with
  | true => exact begins_tuple a items
  | false => exact begins_list a items
theorem IsIt.at {b : Bool} {h h' : Heap} {it a : Addr} {i : Nat} (x : IsIt b h it a i) (k : ∀ o, h.get? it = some o → h'.get? it = some o) : IsIt b h' it a i := by
  cases b with
  | true => exact Heap.IsTupleIter.at x k
  | false => exact Heap.IsListIter.at x k
theorem IsIt.obj {b : Bool} {h : Heap} {it a : Addr} {i : Nat} (x : IsIt b h it a i) : ∃ o, h.get? it = some o ∧ ∀ v, o.data ≠ .cell v := by
  cases b with
  | true => obtain ⟨o, e, _, d⟩ := (show h.IsTupleIter it a i from x); exact ⟨o, e, fun v z => by rw [d] at z; cases z⟩
  | false => obtain ⟨o, e, _, d⟩ := (show h.IsListIter it a i from x); exact ⟨o, e, fun v z => by rw [d] at z; cases z⟩
theorem IsIt.new {b : Bool} {h : Heap} {it a : Addr} (e : h.get? it = some (itObj b a)) : IsIt b h it a 0 := by
  cases b with
  | true => exact ⟨_, e, rfl, rfl⟩
  | false => exact ⟨_, e, rfl, rfl⟩
section
variable {X : Cx} {T : TB} {pins : List (Addr × Obj)} {σ : L2.St} {H : Hp} {s : Shared}
theorem Inv.sq {b : Bool} {a : Addr} {xs : List V} (I : Inv X pins σ H s) (q : SqB X.K H b a xs) : ∃ its : List Value, Vals xs its ∧ IsSq b s.heap a its.toArray ∧ a < s.heap.objs.size := by
  cases b with
  | true =>
    obtain ⟨its, r, p, _⟩ := I.tuple (show SqT X.K H a xs from q)
    exact ⟨its, r, p, p.lt⟩
  | false =>
    obtain ⟨its, r, p, _⟩ := I.list (show SqL X.K H a xs from q)
    exact ⟨its, r, p.isList, p.lt⟩
theorem Inv.sq_inj {b : Bool} {a : Addr} {xs ys : List V} (I : Inv X pins σ H s) (q : SqB X.K H b a xs) (q' : SqB X.K H b a ys) : xs = ys := by
  cases b with
  | true => exact I.tuple_inj (show SqT X.K H a xs from q) q'
  | false => exact I.list_inj (show SqL X.K H a xs from q) q'
end
/-! ### zip of two -/
def ItZ (K : PySem.W.Frag) (b1 : Bool) (a1 : Addr) (b2 : Bool) (a2 : Addr) : It :=
  ⟨fun i H => ∃ xs ys, SqB K H b1 a1 xs ∧ SqB K H b2 a2 ys ∧ i < xs.length ∧ i < ys.length,
   fun i H v H' => ∃ T x y, v = .ref T ∧ H T = none ∧ H' = upd H T (.tup [x, y]) ∧ (∀ xs, SqB K H b1 a1 xs → xs[i]? = some x) ∧ ∀ ys, SqB K H b2 a2 ys → ys[i]? = some y,
   fun i H => ∃ xs ys, SqB K H b1 a1 xs ∧ SqB K H b2 a2 ys ∧ i = min xs.length ys.length⟩
theorem turn_z {P : Program} {w : World} {K : PySem.W.Frag} {elts : List Expr} {kk : Nat} {tpos : Pos} {N a1 a2 : Addr} {b1 b2 : Bool} (l1 : a1 < N) (l2 : a2 < N) :
    Turn P w K (.Tuple elts kk tpos) (ItZ K b1 a1 b2 a2) [N + 4, N + 2, N + 3, N, N + 1] (N + 4) (fun i h => IsZip h (N + 4) (N + 2) (N + 3) .none ∧ IsTupOf2 h (N + 2) (.ref N) (.ref (N + 1)) ∧ (∃ u v, IsTupOf2 h (N + 3) u v) ∧ IsIt b1 h N a1 i ∧ IsIt b2 h (N + 1) a2 i) := by
  have S : ZipSep2 (N + 4) (N + 2) (N + 3) N (N + 1) [N, a1] [N + 1, a2] := zip_sep2 (N := N) (fp1 := [a1]) (fp2 := [a2]) (fun b hb => by rw [List.mem_singleton.mp hb]; exact l1) (fun b hb => by rw [List.mem_singleton.mp hb]; exact l2)
  have n1 : a1 ≠ N := Nat.ne_of_lt l1
  have n2 : a2 ≠ N + 1 := Nat.ne_of_lt (Nat.lt_succ_of_lt l2)
  have five : ∀ c, c ∈ [N + 4, N + 2, N + 3, N, N + 1] ↔ c = N + 4 ∨ c = N + 2 ∨ c = N + 3 ∨ c = N ∨ c = N + 1 := fun c => by simp
  have wr : ∀ c, c ∈ [N + 4, N + 3, N, N + 1] → c ∈ [N + 4, N + 2, N + 3, N, N + 1] := fun c hc => by
    rw [five]
    have z : c = N + 4 ∨ c = N + 3 ∨ c = N ∨ c = N + 1 := by simpa using hc
    rcases z with z | z | z | z
    · exact .inl z
    · exact .inr (.inr (.inl z))
    · exact .inr (.inr (.inr (.inl z)))
    · exact .inr (.inr (.inr (.inr z)))
  refine ⟨by simp, fun i h st c hc => ?_, fun i h h' st k => ?_, ?_, ?_, fun A i s Q E st h => wpAny_pyIter_zip st.1 h⟩
  · obtain ⟨hz, hTI, ⟨u, v, hTO⟩, h1, h2⟩ := st
    rcases (five c).mp hc with z | z | z | z | z <;> subst z
    · exact ⟨_, hz, fun v z => nomatch z⟩
    · exact ⟨_, hTI, fun v z => nomatch z⟩
    · exact ⟨_, hTO, fun v z => nomatch z⟩
    · exact h1.obj
    · exact h2.obj
  · obtain ⟨hz, hTI, ⟨u, v, hTO⟩, h1, h2⟩ := st
    exact ⟨k _ (by simp) _ hz, k _ (by simp) _ hTI, ⟨u, v, k _ (by simp) _ hTO⟩, h1.at fun o e => k _ (by simp) o e, h2.at fun o e => k _ (by simp) o e⟩
  · intro X hP hw hK hc i pins s σ H E I hf st hg
    subst hP hw hK
    obtain ⟨xs, ys, q1, q2, i1, i2⟩ := hg
    obtain ⟨its1, r1, p1, _⟩ := Inv.sq I q1
    obtain ⟨its2, r2, p2, _⟩ := Inv.sq I q2
    have hh : X.A.in1.handled = none := I.ok.hd hc
    have W := WalksT.zipD2 (prog := X.prog) (w := X.w) S (draws_b b1 hh N a1 n1 its1.toArray) (draws_b b2 hh (N + 1) a2 n2 its2.toArray)
    obtain ⟨hz, hTI, hTO, h1, h2⟩ := st
    refine W.item i s _ _ (by simp only [List.size_toArray, ← r1.length, ← r2.length]; omega) ⟨hz, hTI, hTO, ⟨h1, p1⟩, ⟨h2, p2⟩⟩ fun T vals h' tk hv hT ht hm hk => ⟨.ref T, rfl, W.go elts kk tpos i T _ _ _ hm fun h2' st2 hk2 => ?_⟩
    obtain ⟨x, y, e1, e2, rfl⟩ := hv
    obtain ⟨xv, ex, rx⟩ : ∃ xv, xs[i]? = some xv ∧ RelV xv x := by
      obtain ⟨u, hu, ru⟩ := r1.get (List.getElem?_eq_getElem i1)
      have : its1[i]? = some x := by simpa using e1
      rw [this] at hu; cases hu
      exact ⟨_, List.getElem?_eq_getElem i1, ru⟩
    obtain ⟨yv, ey, ry⟩ : ∃ yv, ys[i]? = some yv ∧ RelV yv y := by
      obtain ⟨u, hu, ru⟩ := r2.get (List.getElem?_eq_getElem i2)
      have : its2[i]? = some y := by simpa using e2
      rw [this] at hu; cases hu
      exact ⟨_, List.getElem?_eq_getElem i2, ru⟩
    have ap := W.apart i T h' hm
    have ht2 : IsTup h2' T #[x, y] := ht.at fun o e => hk2 T o ap e
    have new : ObjOk X.prog X.w (upd H T (.tup [xv, yv])) h2' T (.tup [xv, yv]) := ⟨by show 2 ≤ sizeLine; decide, [x, y], .cons rx (.cons ry .nil), ht2⟩
    have I1 : Inv X pins σ (upd H T (.tup [xv, yv])) { s with heap := h2', toks := tk } := Inv.turnedNew (ch := [N + 4, N + 3, N, N + 1]) I (fun b o hb e => hk2 b o hb (hk b o hb e)) (fun b hb => hf b (wr b hb)) hT new
    refine ⟨.ref T, _, I1, rfl, ⟨T, xv, yv, rfl, I.hok.fresh hT, rfl, fun l hl => by rw [Inv.sq_inj I hl q1]; exact ex, fun l hl => by rw [Inv.sq_inj I hl q2]; exact ey⟩, ⟨st2.1, st2.2.1, st2.2.2.1, st2.2.2.2.1.1, st2.2.2.2.2.1⟩, fun c hcm => ?_⟩
    have fc := (hf c hcm).1
    rw [upd_ne]
    · exact fc
    · intro z
      subst z
      obtain ⟨hz', hTI', ⟨u, v, hTO'⟩, k1, k2⟩ : IsZip s.heap (N + 4) (N + 2) (N + 3) .none ∧ IsTupOf2 s.heap (N + 2) (.ref N) (.ref (N + 1)) ∧ (∃ u v, IsTupOf2 s.heap (N + 3) u v) ∧ IsIt b1 s.heap N a1 i ∧ IsIt b2 s.heap (N + 1) a2 i := ⟨hz, hTI, hTO, h1, h2⟩
      have lt : c < s.heap.objs.size := by
        rcases (five c).mp hcm with z | z | z | z | z <;> subst z
        · exact Heap.lt_size hz'
        · exact Heap.lt_size hTI'
        · exact Heap.lt_size hTO'
        · obtain ⟨o, e, _⟩ := k1.obj; exact Heap.lt_size e
        · obtain ⟨o, e, _⟩ := k2.obj; exact Heap.lt_size e
      exact absurd (Nat.lt_of_lt_of_le lt hT) (Nat.lt_irrefl _)
  · intro X hP hw hK hc i pins s σ H E I hf st hg
    subst hP hw hK
    obtain ⟨xs, ys, q1, q2, hi⟩ := hg
    obtain ⟨its1, r1, p1, _⟩ := Inv.sq I q1
    obtain ⟨its2, r2, p2, _⟩ := Inv.sq I q2
    have hh : X.A.in1.handled = none := I.ok.hd hc
    have W := WalksT.zipD2 (prog := X.prog) (w := X.w) S (draws_b b1 hh N a1 n1 its1.toArray) (draws_b b2 hh (N + 1) a2 n2 its2.toArray)
    obtain ⟨hz, hTI, hTO, h1, h2⟩ := st
    have hi' : i = min its1.toArray.size its2.toArray.size := by rw [hi, r1.length, r2.length]; simp
    refine W.done s _ _ (by rw [← hi']; exact ⟨hz, hTI, hTO, ⟨h1, p1⟩, ⟨h2, p2⟩⟩) fun h' tk hk => ⟨rfl, Inv.turnedL (ch := [N + 4, N + 3, N, N + 1]) I hk fun b hb => hf b (wr b hb)⟩
/-- the i-th items of both, in a new pair -/
theorem walk_z {K : PySem.W.Frag} {a1 a2 : Addr} {b1 b2 : Bool} {xs ys : List V} : Walk (ItZ K b1 a1 b2 a2) (min xs.length ys.length) (fun H => SqB K H b1 a1 xs ∧ SqB K H b2 a2 ys) (YPair (fun i => xs[i]?) fun i => ys[i]?) :=
  ⟨fun i H hi q => ⟨xs, ys, q.1, q.2, by omega, by omega⟩, fun H q => ⟨xs, ys, q.1, q.2, rfl⟩, fun i H v H' hi q y => by
    obtain ⟨T, x, z, h1, h2, h3, h4, h5⟩ := y
    exact ⟨T, x, z, h1, h2, h3, h4 xs q.1, h5 ys q.2⟩⟩
def iZ (K : PySem.W.Frag) (ta : TA) : TI := fun σ H R => ta σ H fun vs H1 => ∃ a1 a2 b1 b2 xs ys, vs = [.ref a1, .ref a2] ∧ SqB K H1 b1 a1 xs ∧ SqB K H1 b2 a2 ys ∧ R (ItZ K b1 a1 b2 a2) H1
theorem pi_z {X : Cx} {e e2 : Expr} {ta : TA} {p pos tpos : Pos} {elts : List Expr} {kk : Nat} (hg : Gl X "zip") (hm : X.mg "zip" = none) (ha : PA X [e, e2] ta)
    (hs : starEach [e, e2] X.env = (false, eval e X.env) :: starEach [e2] X.env := by rfl) (hpl : (backTo pos (starEach [e2] X.env)).any (·.1) = false := by rfl) : PI X (.Tuple elts kk tpos) (.Call (.Name "zip" p) [e, e2] [] pos) (iZ X.K ta) := by
  refine ⟨fun pins s σ H R I h => Call_ (ld_blt I hg hm PyProof.Rows.boot_zip (PyProof.Rows.callWith_type1 (thn (ha.run pos pins s σ H _ I h) fun us s1 ⟨vs, H1, I1, r1, q1⟩ => ?_) hs hpl))⟩
  obtain ⟨a1, a2, b1, b2, xs, ys, ev, k1, k2, q⟩ := q1
  subst ev
  obtain ⟨u1, u2, rfl, e1, e2⟩ := vals2 r1
  cases e1
  cases e2
  obtain ⟨its1, v1, p1, l1⟩ := Inv.sq I1 k1
  obtain ⟨its2, v2, p2, l2⟩ := Inv.sq I1 k2
  refine zip_begins2 (begins_b b1 a1 its1.toArray) (begins_b b2 a2 its2.toArray) p1 p2 fun h' hz hTI hTO h1 h2 hsz hk => wpAny_pyIter_zip hz ?_
  have I2 : Inv X pins σ H1 { s1 with heap := h' } := I1.kept (t' := s1.toks) hk
  refine ⟨_, _, _, _, H1, rfl, I2, turn_z l1 l2, ⟨hz, hTI, ⟨_, _, hTO⟩, IsIt.new h1, IsIt.new h2⟩, fun c hcm => ?_, q⟩
  have hle : s1.heap.objs.size ≤ c := by
    have z : c = s1.heap.objs.size + 4 ∨ c = s1.heap.objs.size + 2 ∨ c = s1.heap.objs.size + 3 ∨ c = s1.heap.objs.size ∨ c = s1.heap.objs.size + 1 := by simpa using hcm
    rcases z with z | z | z | z | z <;> (rw [z]; first | exact Nat.le_refl _ | exact Nat.le_add_right _ _)
  exact I1.fpOk hle (I1.hok.fresh hle)
end DD
namespace DD
open PySem PySem.Spec PyProof.Rows L2
/-! ### data from a pair of walks -/
theorem Pr.sqB {K : PySem.W.Frag} {H : Hp} {v : V} {d : PyData} {ds : List PyData} (p : Pr K H v d) (e : itemsD d = some ds) : ∃ a b xs, v = .ref a ∧ PrAll K H xs ds ∧ ∀ H', Pers H H' → SqB K H' b a xs := by
  cases p with
  | lst q t => cases e; exact ⟨_, false, _, rfl, t, fun H' p => (q.mono p).seq⟩
  | tup q t => cases e; exact ⟨_, true, _, rfl, t, fun H' p => sqT_mono p q⟩
  | non => cases e
  | bl b => cases e
  | int i => cases e
  | str x => cases e
  | dic q t => cases e
  | dit q n z => cases e
def zipD (ds es : List PyData) : List PyData := List.zipWith (fun a b => .tuple [a, b]) ds es
theorem zipD_at {ds es : List PyData} {i : Nat} {a b : PyData} (h1 : ds[i]? = some a) (h2 : es[i]? = some b) : (zipD ds es)[i]? = some (.tuple [a, b]) := by
  unfold zipD
  rw [List.getElem?_zipWith, h1, h2]
theorem walkPair {K : PySem.W.Frag} {H : Hp} {J : It} {n : Nat} {g : Hp → Prop} {xs ys : Nat → Option V} {ds : List PyData} {f1 f2 : Nat → Option PyData} (w : Walk J n g (YPair xs ys)) (hn : n = ds.length) (hg : ∀ H', Pers H H' → g H')
    (h1 : ∀ i v, xs i = some v → ∃ d, f1 i = some d ∧ Pr K H v d) (h2 : ∀ i v, ys i = some v → ∃ d, f2 i = some d ∧ Pr K H v d) (hd : ∀ i a b, f1 i = some a → f2 i = some b → ds[i]? = some (.tuple [a, b])) : WalkD K J ds H := by
  subst hn
  refine ⟨_, _, w, hg, fun i H1 v H2 p hi y => ?_⟩
  obtain ⟨T, x, z, rfl, hT, rfl, e1, e2⟩ := y
  have g := Ext.new (o := .tup [x, z]) hT
  obtain ⟨d1, q1, p1⟩ := h1 i x e1
  obtain ⟨d2, q2, p2⟩ := h2 i z e2
  exact ⟨g, .tuple [d1, d2], hd i d1 d2 q1 q2, .tup (.of upd_same) (.cons (Pr.mono (p.trans g.pers) d1 p1) (.cons (Pr.mono (p.trans g.pers) d2 p2) .nil))⟩
def iZip (f : M (List Hd)) : M (List PyData) := bnd f fun hs => fun x => match escs hs with
  | some [d, e] => match itemsD d, itemsD e with
    | some ds, some es => some (zipD ds es, x)
    | _, _ => none
  | _ => none
section
variable {X : Cx} {T : TB}
theorem di_zip {e e2 : Expr} {f : M (List Hd)} {p pos tpos : Pos} {elts : List Expr} {kk : Nat} (hg : Gl X "zip") (hm : X.mg "zip" = none) (ha : DA T X [e, e2] f)
    (hs : starEach [e, e2] X.env = (false, eval e X.env) :: starEach [e2] X.env := by rfl) (hpl : (backTo pos (starEach [e2] X.env)).any (·.1) = false := by rfl) : DI T X (.Tuple elts kk tpos) (.Call (.Name "zip" p) [e, e2] [] pos) (iZip f) := by
  refine PIw (pi_z hg hm ha hs hpl) fun σ H R q => ?_
  obtain ⟨G, x, ds, x', Re, ef, q⟩ := q
  obtain ⟨h1, y, e1, ef⟩ := bnd_some ef
  split at ef
  · rename_i d e hd
    split at ef
    · rename_i d1 d2 k1 k2
      cases ef
      refine ⟨G, x, h1, _, Re, e1, fun vs H1 p1 R1 r1 => ?_⟩
      have t := r1.escs hd
      cases t with
      | cons a t =>
        cases t with
        | cons b t =>
          cases t
          obtain ⟨a1, b1, xs, rfl, t1, g1⟩ := Pr.sqB a k1
          obtain ⟨a2, b2, ys, rfl, t2, g2⟩ := Pr.sqB b k2
          refine ⟨a1, a2, b1, b2, xs, ys, rfl, g1 H1 (Pers.refl _), g2 H1 (Pers.refl _), q _ H1 p1 R1 ?_⟩
          exact walkPair (f1 := fun i => d1[i]?) (f2 := fun i => d2[i]?) walk_z (by unfold zipD; rw [List.length_zipWith, t1.length, t2.length]) (fun H' p => ⟨g1 H' p, g2 H' p⟩) (fun i v h => t1.getV h) (fun i v h => t2.getV h) fun i a b h1 h2 => zipD_at h1 h2
    · cases ef
  · cases ef
end
/-! ### enumerate -/
def ItE (K : PySem.W.Frag) (b : Bool) (a : Addr) : It :=
  ⟨fun i H => ∃ xs, SqB K H b a xs ∧ i < xs.length, fun i H v H' => ∃ T x, v = .ref T ∧ H T = none ∧ H' = upd H T (.tup [.int (i : Nat), x]) ∧ ∀ xs, SqB K H b a xs → xs[i]? = some x, fun i H => ∃ xs, SqB K H b a xs ∧ i = xs.length⟩
theorem meets_enum1 {v : Value} {o : Obj} {H : Heap → Prop} (B : Begins v o H) :
    Meets (Builtin.«enumerate.__new__» ⟨[.type "enumerate", v], []⟩) (fun _ R s => H s.heap ∧
      R (.ok (.ret (.ref (s.heap.push o).objs.size))) { s with heap := (s.heap.push o).push { cls := .type "enumerate", data := .fields #[.none, .bool false, .ref s.heap.objs.size, rawInt 0, .none, .none] } }) := .of_wp fun prog w A R s h => by
  obtain ⟨hp, g, d, tk, os⟩ := s
  obtain ⟨h1, h⟩ := h
  have hsub := sub_enumerate
  have q1 : ∀ {A' : Around} {E : Value → Shared → Prop} {Q : Value → Shared → Prop}, Q (.ref hp.objs.size) ⟨hp.push o, g, d, tk, os⟩ → wpAny (model prog w) A' (pyIter v) Q E ⟨hp, g, d, tk, os⟩ := fun q => B.iter prog w _ _ ⟨hp, g, d, tk, os⟩ _ h1 q
  wp_walk using q1
  refine wpAny_stack_any fun st => wpAny_pure ?_
  split
  · rename_i c _ _ _ _ _
    cases (c == Value.type "enumerate") <;> (wp_walk using q1; exact ⟨_, rfl, h⟩)
  · wp_walk using q1
    exact ⟨_, rfl, h⟩
section
variable {prog : Program} {w : World} {A : Around} {E : Value → Shared → Prop} {s : Shared}
theorem enum_begins1 {v : Value} {o : Obj} {H : Heap → Prop} {Q : Value → Shared → Prop} (B : Begins v o H) (h1 : H s.heap)
    (h : ∀ h', IsEnum h' (s.heap.objs.size + 1) s.heap.objs.size 0 .none → h'.get? s.heap.objs.size = some o → (∀ b o, s.heap.get? b = some o → h'.get? b = some o) → Q (.ref (s.heap.objs.size + 1)) { s with heap := h' }) :
    wpAny (model prog w) A (call (.type "enumerate") [v]) Q E s := by
  refine callType_new F.called_enumerate (by decide) (F.typeCall_enumerate_1 _) (F.newCall_enumerate_1 _) (fun obj => F.args_object_init_2 obj _) F.entry_enumerate_new (meets_enum1 B) ⟨h1, ?_⟩
  have hz : (s.heap.push o).objs.size = s.heap.objs.size + 1 := Heap.size_push ..
  generalize he0 : ({ cls := .type "enumerate", data := .fields #[.none, .bool false, .ref s.heap.objs.size, rawInt 0, .none, .none] } : Obj) = en
  have he : ((s.heap.push o).push en).get? (s.heap.objs.size + 1) = some en := by
    rw [← hz]
    exact Heap.get?_push_size _ (by rw [← he0] <;> rfl)
  show _ ∧ _
  rw [hz]
  exact ⟨⟨_, he, by rw [← he0]⟩, h _ (he.trans (congrArg some he0.symm)) (Heap.get?_push_of_some _ (Heap.get?_push_size _ B.free)) fun b o' x => Heap.get?_push_of_some _ (Heap.get?_push_of_some _ x)⟩
end
theorem turn_e {P : Program} {w : World} {K : PySem.W.Frag} {elts : List Expr} {kk : Nat} {tpos : Pos} {N a : Addr} {b : Bool} (la : a < N) :
    Turn P w K (.Tuple elts kk tpos) (ItE K b a) [N + 1, N] (N + 1) (fun i h => (∃ old, IsEnum h (N + 1) N (0 + (i : Int)) old) ∧ IsIt b h N a i) := by
  have na : a ≠ N := Nat.ne_of_lt la
  have hef : N + 1 ∉ [N, a] := by
    intro z
    have z' : N + 1 = N ∨ N + 1 = a := by simpa using z
    rcases z' with z | z
    · exact absurd z (Nat.succ_ne_self N)
    · rw [← z] at la; exact absurd la (Nat.not_lt.mpr (Nat.le_succ N))
  have two : ∀ c, c ∈ [N + 1, N] ↔ c = N + 1 ∨ c = N := fun c => by simp
  refine ⟨by simp, fun i h st c hc => ?_, fun i h h' st k => ?_, ?_, ?_, fun A i s Q E st h => wpAny_pyIter_enum st.1.choose_spec h⟩
  · obtain ⟨⟨old, he⟩, h1⟩ := st
    rcases (two c).mp hc with z | z <;> subst z
    · exact ⟨_, he, fun v z => nomatch z⟩
    · exact h1.obj
  · obtain ⟨⟨old, he⟩, h1⟩ := st
    exact ⟨⟨old, k _ (by simp) _ he⟩, h1.at fun o e => k _ (by simp) o e⟩
  · intro X hP hw hK hc i pins s σ H E I hf st hg
    subst hP hw hK
    obtain ⟨xs, q1, i1⟩ := hg
    obtain ⟨its1, r1, p1, _⟩ := Inv.sq I q1
    have hh : X.A.in1.handled = none := I.ok.hd hc
    have W := WalksT.enumFrom (prog := X.prog) (w := X.w) 0 (draws_b b hh N a na its1.toArray) (N + 1) (Nat.succ_ne_self N) hef (by simp)
    obtain ⟨he, h1⟩ := st
    refine W.item i s _ _ (by simp only [List.size_toArray, ← r1.length]; omega) ⟨he, h1, p1⟩ fun T vals h' tk hv hT ht hm hk => ⟨.ref T, rfl, W.go elts kk tpos i T _ _ _ hm fun h2' st2 hk2 => ?_⟩
    obtain ⟨t, x, e1, rfl⟩ := hv
    obtain ⟨xv, ex, rx⟩ : ∃ xv, xs[i]? = some xv ∧ RelV xv x := by
      obtain ⟨u, hu, ru⟩ := r1.get (List.getElem?_eq_getElem i1)
      have : its1[i]? = some x := by simpa using e1
      rw [this] at hu; cases hu
      exact ⟨_, List.getElem?_eq_getElem i1, ru⟩
    have ap := W.apart i T h' hm
    have ht2 : IsTup h2' T #[.int (0 + (i : Int)) t, x] := ht.at fun o e => hk2 T o ap e
    have new : ObjOk X.prog X.w (upd H T (.tup [.int (i : Nat), xv])) h2' T (.tup [.int (i : Nat), xv]) := ⟨by show 2 ≤ sizeLine; decide, [.int (0 + (i : Int)) t, x], .cons ⟨t, by rw [Int.zero_add]⟩ (.cons rx .nil), ht2⟩
    have I1 : Inv X pins σ (upd H T (.tup [.int (i : Nat), xv])) { s with heap := h2', toks := tk } := Inv.turnedNew (ch := [N + 1, N]) I (fun b o hb e => hk2 b o hb (hk b o hb e)) hf hT new
    refine ⟨.ref T, _, I1, rfl, ⟨T, xv, rfl, I.hok.fresh hT, rfl, fun l hl => by rw [Inv.sq_inj I hl q1]; exact ex⟩, ⟨st2.1, st2.2.1⟩, fun c hcm => ?_⟩
    have fc := (hf c hcm).1
    rw [upd_ne]
    · exact fc
    · intro z
      subst z
      have lt : c < s.heap.objs.size := by
        rcases (two c).mp hcm with z | z <;> subst z
        · obtain ⟨old, e⟩ := he; exact Heap.lt_size e
        · obtain ⟨o, e, _⟩ := h1.obj; exact Heap.lt_size e
      exact absurd (Nat.lt_of_lt_of_le lt hT) (Nat.lt_irrefl _)
  · intro X hP hw hK hc i pins s σ H E I hf st hg
    subst hP hw hK
    obtain ⟨xs, q1, hi⟩ := hg
    obtain ⟨its1, r1, p1, _⟩ := Inv.sq I q1
    have hh : X.A.in1.handled = none := I.ok.hd hc
    have W := WalksT.enumFrom (prog := X.prog) (w := X.w) 0 (draws_b b hh N a na its1.toArray) (N + 1) (Nat.succ_ne_self N) hef (by simp)
    obtain ⟨he, h1⟩ := st
    have hi' : i = its1.toArray.size := by rw [hi, r1.length]; simp
    exact W.done s _ _ (by rw [← hi']; exact ⟨he, h1, p1⟩) fun h' tk hk => ⟨rfl, Inv.turnedL (ch := [N + 1, N]) I hk hf⟩
theorem walk_e {K : PySem.W.Frag} {a : Addr} {b : Bool} {xs : List V} : Walk (ItE K b a) xs.length (fun H => SqB K H b a xs) (YPair (fun i => some (.int (i : Nat))) fun i => xs[i]?) :=
  ⟨fun i H hi q => ⟨xs, q, hi⟩, fun H q => ⟨xs, q, rfl⟩, fun i H v H' hi q y => by
    obtain ⟨T, x, h1, h2, h3, h4⟩ := y
    exact ⟨T, _, x, h1, h2, h3, rfl, h4 xs q⟩⟩
def iE (K : PySem.W.Frag) (ta : TA) : TI := fun σ H R => ta σ H fun vs H1 => ∃ a b xs, vs = [.ref a] ∧ SqB K H1 b a xs ∧ R (ItE K b a) H1
theorem pi_e {X : Cx} {e : Expr} {ta : TA} {p pos tpos : Pos} {elts : List Expr} {kk : Nat} (hg : Gl X "enumerate") (hm : X.mg "enumerate" = none) (ha : PA X [e] ta) (hs : starEach [e] X.env = [(false, eval e X.env)] := by rfl) : PI X (.Tuple elts kk tpos) (.Call (.Name "enumerate" p) [e] [] pos) (iE X.K ta) := by
  refine ⟨fun pins s σ H R I h => Call_ (ld_blt I hg hm PyProof.Rows.boot_enumerate (PyProof.Rows.callWith_type1 (thn (ha.run pos pins s σ H _ I h) fun us s1 ⟨vs, H1, I1, r1, q1⟩ => ?_) hs rfl))⟩
  obtain ⟨a, b, xs, ev, k1, q⟩ := q1
  subst ev
  obtain ⟨u1, rfl, e1⟩ := vals1 r1
  cases e1
  obtain ⟨its1, v1, p1, l1⟩ := Inv.sq I1 k1
  refine enum_begins1 (begins_b b a its1.toArray) p1 fun h' he h1 hk => wpAny_pyIter_enum he ?_
  have I2 : Inv X pins σ H1 { s1 with heap := h' } := I1.kept (t' := s1.toks) hk
  refine ⟨_, _, _, _, H1, rfl, I2, turn_e l1, ⟨⟨_, he⟩, IsIt.new h1⟩, fun c hcm => ?_, q⟩
  have hle : s1.heap.objs.size ≤ c := by
    have z : c = s1.heap.objs.size + 1 ∨ c = s1.heap.objs.size := by simpa using hcm
    rcases z with z | z <;> (rw [z]; first | exact Nat.le_refl _ | exact Nat.le_add_right _ _)
  exact I1.fpOk hle (I1.hok.fresh hle)
/-- the items with their places -/
def enumD (ds : List PyData) : List PyData := zipD (upTo 0 ds.length) ds
def iEnumD (f : M (List Hd)) : M (List PyData) := bnd f fun hs => fun x => match escs hs with
  | some [d] => match itemsD d with
    | some ds => some (enumD ds, x)
    | none => none
  | _ => none
theorem di_enum {T : TB} {X : Cx} {e : Expr} {f : M (List Hd)} {p pos tpos : Pos} {elts : List Expr} {kk : Nat} (hg : Gl X "enumerate") (hm : X.mg "enumerate" = none) (ha : DA T X [e] f) (hs : starEach [e] X.env = [(false, eval e X.env)] := by rfl) : DI T X (.Tuple elts kk tpos) (.Call (.Name "enumerate" p) [e] [] pos) (iEnumD f) := by
  refine PIw (pi_e hg hm ha hs) fun σ H R q => ?_
  obtain ⟨G, x, ds, x', Re, ef, q⟩ := q
  obtain ⟨h1, y, e1, ef⟩ := bnd_some ef
  split at ef
  · rename_i d hd
    split at ef
    · rename_i d1 k1
      cases ef
      refine ⟨G, x, h1, _, Re, e1, fun vs H1 p1 R1 r1 => ?_⟩
      have t := r1.escs hd
      cases t with
      | cons a t =>
        cases t
        obtain ⟨a1, b1, xs, rfl, t1, g1⟩ := Pr.sqB a k1
        refine ⟨a1, b1, xs, rfl, g1 H1 (Pers.refl _), q _ H1 p1 R1 ?_⟩
        refine walkPair (f1 := fun i => some (.int (i : Nat))) (f2 := fun i => d1[i]?) walk_e (by unfold enumD zipD; rw [List.length_zipWith, upTo_len, Nat.min_self, t1.length]) (fun H' p => g1 H' p) (fun i v h => ?_) (fun i v h => t1.getV h) fun i a b h1 h2 => ?_
        · cases h
          exact ⟨_, rfl, .int _⟩
        · cases h1
          have hi : i < d1.length := (List.getElem?_eq_some_iff.mp h2).1
          exact zipD_at (by simp [upTo, hi]) h2
    · cases ef
  · cases ef
end DD
set_option maxHeartbeats 1000000
namespace DD
open PySem PySem.Spec PyProof.Rows L2 GxR GenW

/-! ## a generator expression's own frame -/
abbrev gCx (X : Cx) (s : Shared) (H : Hp) (cenv : Env) (A : Around) (fp : List Addr) (pn : List (Addr × Obj)) : Cx :=
  { X with A := A, s_0 := s, H_0 := H, env := cenv, outer := X.stack, stack := cenv :: X.stack, ex := fp, fn := fun _ => false, calm := true, pn := pn, xe := fun _ _ => False }
abbrev gCode (elt tg iter : Expr) (scope : Scope) (gpos : Pos) (it : Addr) (cenv : Env) : Code := .compLoop (.GeneratorExp elt [⟨tg, iter, [], 0⟩] scope gpos) 0 (.ref it) .none cenv
abbrev gCode0 (elt tg iter : Expr) (scope : Scope) (gpos : Pos) (it : Addr) (cenv : Env) : Code := .compStart (.GeneratorExp elt [⟨tg, iter, [], 0⟩] scope gpos) 0 (.ref it) .none cenv
section
variable {elt tg iter : Expr} {scope : Scope} {gpos : Pos} {it : Addr} {cenv : Env}
theorem over_gen0 {A : Around} : A.over (gCode0 elt tg iter scope gpos it cenv) [] = A.over (gCode elt tg iter scope gpos it cenv) [] := rfl
theorem over_gen_handled {A : Around} : (A.over (gCode elt tg iter scope gpos it cenv) []).handled = A.handled := rfl
theorem over_gen_frames {A : Around} {st : List Env} (h : A.frames = some st) : (A.over (gCode elt tg iter scope gpos it cenv) []).frames = some (cenv :: st) := by
  show pushEnvs [cenv] (pushEnvs (envsOf []) A.frames) = _
  rw [pushEnvs_eq, pushEnvs_eq, h]
  rfl
theorem over_gen_room {A : Around} {k : Nat} (r : RoomG (k + 1) A) : RoomG k ((A.in1.in1).over (gCode elt tg iter scope gpos it cenv) []) :=
  ⟨⟨r.rm.hd, by
    have := r.rm.dp
    have e : ((A.in1.in1).over (gCode elt tg iter scope gpos it cenv) []).depth = A.depth + 1 := rfl
    rw [e]; omega, by
    have := r.rm.un
    have e : ((A.in1.in1).over (gCode elt tg iter scope gpos it cenv) []).units = A.units + 1 + 1 + 3 := rfl
    rw [e]; omega⟩, r.gd⟩
end
theorem Inv.gens {X : Cx} {pins : List (Addr × Obj)} {σ : L2.St} {H : Hp} {s s' : Shared} (I : Inv X pins σ H s) (hh : s'.heap = s.heap) (ho : s'.os = s.os) (hb : AllBare s'.gens) : Inv X pins σ H s' := by
  obtain ⟨h', g', d', t', o'⟩ := s'
  have hh : h' = s.heap := hh
  have ho : o' = s.os := ho
  subst hh
  subst ho
  exact ⟨I.ok, I.os, hb, I.base, I.loc, I.cell, I.free, I.freeC, I.pin, I.hok, I.len⟩
section
variable {X : Cx} {pins : List (Addr × Obj)} {σ : L2.St} {H : Hp} {s : Shared}
theorem gen_start {scope : Scope} {own : List (Str × Nat)} {fp : List Addr} {code : Value} {A : Around} {pn : List (Addr × Obj)} {h5 : Heap} {m0 : Str → Option Value} {g' : Array GenState} {t' : Nat} {d' : Drawn} (I : Inv X pins σ H s) (ok : BlkOk X.N X.env.scope scope own) (hcell : ∀ y ∈ scope.names, y.2 ≠ .cell) (hN : X.N.Nodup)
    (hfp : ∀ b ∈ fp, FpOk X pins H b ∧ b < s.heap.objs.size) (hA : A.handled = none) (hfr : A.frames = some (genEnv scope (cloFrom X.env.cells scope.names []) s.heap.objs.size code builtinsNs X.env :: X.stack))
    (ns : h5.Ns s.heap.objs.size m0) (kp : ∀ b o, s.heap.get? b = some o → h5.get? b = some o) (hpn : ∀ p ∈ pn, h5.get? p.1 = some p.2 ∧ s.heap.objs.size < p.1 ∧ ∀ v, p.2.data ≠ .cell v) (hg : AllBare g') :
    Inv (gCx X s H (genEnv scope (cloFrom X.env.cells scope.names []) s.heap.objs.size code builtinsNs X.env) A fp pn) [] (wipe σ (own.map (·.2))) H { s with heap := h5, gens := g', toks := t', drawn := d' } := by
  have hfree : ∀ y ∈ scope.names, y.2 = .free → ∃ c, X.env.cells.lookup y.1 = some c := fun y hy e => by
    rcases ok.free y hy e with k | k
    · exact I.ok.has _ (.inl k)
    · exact I.ok.has _ (.inr k)
  have cm : ∀ {y c}, (cloFrom X.env.cells scope.names []).lookup y = some c → X.env.cells.lookup y = some c ∧ c < s.heap.objs.size := fun {y c} e => by
    rcases cloFrom_mem (PySem.mem_of_lookup e) with hm | ⟨h1, rfl⟩
    · cases hm
    · obtain ⟨c, hc⟩ := hfree _ h1 rfl
      rw [hc]
      obtain ⟨w, z⟩ := I.cell _ _ hc
      exact ⟨rfl, z.lt⟩
  have look : ∀ {y}, scope.names.lookup y = some .free → ∃ c, (cloFrom X.env.cells scope.names []).lookup y = some c ∧ X.env.cells.lookup y = some c := fun {y} hl => by
    obtain ⟨c', e'⟩ := mem_lookup (cloFrom_has (cells := X.env.cells) (acc := []) (PySem.mem_of_lookup hl))
    exact ⟨c', e', (cm e').1⟩
  have nocell : ∀ {y}, scope.names.lookup y ≠ some .cell := fun {y} e => hcell _ (PySem.mem_of_lookup e) rfl
  refine ⟨?_, rfl, hg, Un.kept kp, ⟨m0, ns, fun i y av e1 e2 e3 => ?_⟩, fun y c e => ?_, I.hok.fresh (Nat.le_refl _), fun y c e => ?_, fun p hp => ?_, I.hok.kept kp, by rw [wipe_length]; exact I.len⟩
  · refine ⟨I.ok.mod, ok.kind, I.ok.glob, rfl, Nat.le_refl _, fun y z c e1 e2 => I.ok.inj y z c (cm e1).1 (cm e2).1, fun y hy => ?_, fun y c z _ => (by cases z), fun _ => hA, hfr, .inr ⟨rfl, rfl⟩, fun b hb => ⟨?_, fun y c e z => ?_⟩, I.bs, Nat.le_trans I.ok.bsz I.sz, fun b o e hb => ?_, fun b hb z => ?_, I.stack, I.stkFree⟩
    · rcases hy with hy | hy
      · exact absurd hy nocell
      · obtain ⟨c, h1, _⟩ := look hy
        exact ⟨c, h1⟩
    · exact Nat.ne_of_lt (hfp b hb).2
    · exact (hfp b hb).1.2.2.2.2.1 y c (cm e).1 z
    · rcases (hfp b hb).1.2.2.2.1 with z | z
      · exact I.ok.noex b o e z
      · exact absurd (Nat.lt_of_lt_of_le (Heap.lt_size e) (Nat.le_trans I.ok.bsz z)) (Nat.lt_irrefl _)
    · rcases List.mem_cons.mp (I.stkSub b z) with z | z
      · exact (hfp b hb).1.2.1 z
      · exact (hfp b hb).1.2.2.1 z
  · obtain ⟨e2, hne⟩ := wipe_some e2
    have no : ∀ k', scope.names.lookup y = some k' → ¬ (k' = .local ∨ k' = .cell) := fun k' e hh => by
      rcases ok.own _ (PySem.mem_of_lookup e) hh with e' | e'
      · obtain ⟨p, hp, hpy⟩ := List.mem_map.mp e'
        have e3 := ok.ix p hp
        have : p.1 = y := hpy
        rw [this] at e3
        exact hne (List.mem_map.mpr ⟨p, hp, nodup_ix hN e3 e1⟩)
      · exact e' (List.mem_of_getElem? e1)
    have hfr : scope.names.lookup y = some .free := by
      have e3 : Vis scope y := e3
      rcases e3 with e3 | e3 | e3
      · exact absurd (.inl rfl) (no _ e3)
      · exact absurd (.inr rfl) (no _ e3)
      · exact e3
    obtain ⟨m, hn, hl⟩ := I.loc
    have hvis : Vis X.env.scope y := (ok.free _ (PySem.mem_of_lookup hfr) rfl).elim (fun k => .inr (.inl k)) (fun k => .inr (.inr k))
    obtain ⟨w, r, q⟩ := hl i y av e1 e2 hvis
    refine ⟨w, r, .inr ⟨.inr hfr, ?_⟩⟩
    obtain ⟨c, h1, h2⟩ := look hfr
    rcases q with ⟨k, _⟩ | ⟨_, c', e', z⟩
    · have k : X.env.scope.names.lookup y = some .local := k
      rcases ok.free _ (PySem.mem_of_lookup hfr) rfl with k' | k' <;> rw [show X.env.scope.names.lookup y = _ from k'] at k <;> cases k
    · rw [h2] at e'; cases e'
      exact ⟨c, h1, z.keeps kp⟩
  · obtain ⟨w, z⟩ := I.cell y c (cm e).1
    exact ⟨w, z.keeps kp⟩
  · exact I.freeC y c (cm e).1
  · have hp' : p ∈ pn := by simpa using hp
    obtain ⟨h1, h2, h3⟩ := hpn p hp'
    refine ⟨h1, I.hok.fresh (Nat.le_of_lt h2), Nat.ne_of_gt h2, fun hb => ?_, h3⟩
    rcases List.mem_cons.mp (I.stkSub _ hb) with z | z
    · rw [z] at h2; exact absurd (Nat.lt_trans h2 I.lt) (Nat.lt_irrefl _)
    · exact I.nofs (Nat.le_of_lt h2) z
end
/-! ## its turns -/
/-- what stands between two turns: W by the turn; N items in all; R at the end's b -/
structure GQ where
  N : Nat
  W : Nat → Hp → Prop
  R : Bool → Hp → Prop
  c : Bool := true
def gR (Y : Cx) (σw : L2.St) (g : GQ) : Nat → Shared → Shared → Prop := fun n s0 s1 => n = 0 ∧ ∃ H', Inv Y [] σw H' s1 ∧ g.R g.c H'
def gY (Y : Cx) (σw : L2.St) (g : GQ) : Protocol := fun m s0 v s kap => s0.gens.size ≤ s.gens.size ∧ ∃ b H', v = .bool b ∧ Inv Y [] σw H' s ∧
  (b = (!g.c) → g.R (!g.c) H') ∧ (b = g.c → ∀ s'', s''.heap = s.heap → s''.os = s.os → AllBare s''.gens → kap (.send .none) s'')
/-- the turns of the reading -/
def gTurns (J : It) (tgt : TG) (te : TE) (vs : List Nat) (σ : L2.St) (q : GQ) : Prop := (∀ H, q.W q.N H → J.stop q.N H ∧ q.R q.c H) ∧ ∀ i H, i < q.N → q.W i H → J.go i H ∧ ∀ x H', J.yld i H x H' →
  tgt x (wipe σ vs) H' fun σ2 H3 => wipe σ2 vs = wipe σ vs ∧ te σ2 H3 fun y H4 => ∃ b, y = .bl b ∧ if b = q.c then q.W (i + 1) H4 else q.R (!q.c) H4
section
variable {X : Cx} {σ : L2.St}
theorem gen_loop {elt tg iter : Expr} {scope : Scope} {gpos : Pos} {it : Addr} {fp vs : List Nat} {pn : List (Addr × Obj)} {A : Around} {cenv : Env} {s4 : Shared} {H4 : Hp} {J : It} {tn : Nat → Heap → Prop} {tgt : TG} {te : TE} {q : GQ}
    (hco : cenv.scope.isCoroutine = false) (T : Turn X.prog X.w X.K tg J fp it tn) (hpf : ∀ p ∈ pn, p.1 ∉ fp)
    (pg : PG (gCx X s4 H4 cenv (A.over (gCode elt tg iter scope gpos it cenv) []) fp pn) tg tgt) (pe : PE (gCx X s4 H4 cenv (A.over (gCode elt tg iter scope gpos it cenv) []) fp pn) elt te) (tr : gTurns J tgt te vs σ q) :
    ∀ (k i : Nat) (s0 s : Shared) (H : Hp), q.N - i = k → i ≤ q.N → Inv (gCx X s4 H4 cenv (A.over (gCode elt tg iter scope gpos it cenv) []) fp pn) [] (wipe σ vs) H s → tn i s.heap → (∀ b ∈ fp, H b = none) → q.W i H → s0.gens.size ≤ s.gens.size →
      Seg (model X.prog X.w) A (fun n s0 r s1 => r = .ok .next ∧ gR (gCx X s4 H4 cenv (A.over (gCode elt tg iter scope gpos it cenv) []) fp pn) (wipe σ vs) q n s0 s1) (gY (gCx X s4 H4 cenv (A.over (gCode elt tg iter scope gpos it cenv) []) fp pn) (wipe σ vs) q) k s0
        (gCode elt tg iter scope gpos it cenv) ((model X.prog X.w).den (gCode elt tg iter scope gpos it cenv)) [] s := by
  generalize hY : gCx X s4 H4 cenv (A.over (gCode elt tg iter scope gpos it cenv) []) fp pn = Y at pg pe ⊢
  have yA : Y.A = A.over (gCode elt tg iter scope gpos it cenv) [] := by rw [← hY]
  have yp : Y.prog = X.prog := by rw [← hY]
  have yw : Y.w = X.w := by rw [← hY]
  have yK : Y.K = X.K := by rw [← hY]
  have yc : Y.calm = true := by rw [← hY]
  have ye : Y.env = cenv := by rw [← hY]
  have yx : Y.xe = fun _ _ => False := by rw [← hY]
  have yex : Y.ex = fp := by rw [← hY]
  have ypn : Y.pn = pn := by rw [← hY]
  have stat : ∀ {σ' : L2.St} {H' : Hp} {s' : Shared}, Inv Y [] σ' H' s' → (∀ b ∈ fp, H' b = none) → ∀ b ∈ fp, FpOk Y [] H' b := fun {σ' H' s'} I' hn b hb =>
    ⟨hn b hb, (I'.ok.exf b (by rw [yex]; exact hb)).1, I'.ok.exfs b (by rw [yex]; exact hb), .inl (by rw [yex]; exact hb), fun x c e => (I'.ok.exf b (by rw [yex]; exact hb)).2 x c e, fun p hp z => by
      rw [List.append_nil, ypn] at hp
      exact hpf p hp (by rw [z]; exact hb)⟩
  have hy : ∀ v, yieldOut cenv v = yieldValue v := fun v => by simp only [yieldOut, hco, Bool.false_eq_true, if_false]
  intro k
  induction k with
  | zero =>
    intro i s0 s H hk hi I st hn w hsz
    have hin : i = q.N := by omega
    subst hin
    obtain ⟨stop, r⟩ := tr.1 H w
    show Seg _ A _ _ _ s0 _ ((compTurn (.GeneratorExp elt [⟨tg, iter, [], 0⟩] scope gpos) 0 (.ref it) .none cenv).onRaise (leaving cenv)) [] s
    rw [compTurn_gen, Sem.onRaise_eq_wrap]
    refine seg_bind_wrap (wpAny_standAt ?_)
    have td := T.done Y yp yw yK yc q.N [] s _ H (fun _ _ => False) I (stat I hn) st stop
    rw [yA] at td
    refine seg_bind_wrap (thnF td fun r1 s1 ⟨hr, I1⟩ => ?_)
    subst hr
    exact seg_end (.ok .next) ⟨rfl, rfl, H, I1, r⟩
  | succ k ih =>
    intro i s0 s H hk hi I st hn w hsz
    have hlt : i < q.N := by omega
    obtain ⟨go, step⟩ := tr.2 i H hlt w
    show Seg _ A _ _ _ s0 _ ((compTurn (.GeneratorExp elt [⟨tg, iter, [], 0⟩] scope gpos) 0 (.ref it) .none cenv).onRaise (leaving cenv)) [] s
    rw [compTurn_gen, Sem.onRaise_eq_wrap]
    refine seg_bind_wrap (wpAny_standAt ?_)
    have ti := T.item Y yp yw yK yc i [] s _ H (fun _ _ => False) I (stat I hn) st go
    rw [yA] at ti
    refine seg_bind_wrap (wpAny_gsz hsz (thnF ti fun r1 s1 ⟨u, hr, h1⟩ z1 => ?_))
    subst hr
    refine seg_bind_wrap (wpAny_gsz z1 (thnF h1 fun _ s2 ⟨x, H2, I2, r2, y2, st2, n2⟩ z2 => ?_))
    have I2' := I2.pinned (stat I2 n2) (T.obj _ _ st2)
    have pgr := pg.run _ s2 _ H2 x u _ I2' r2 (step x H2 y2)
    rw [yA, ye, yx, yp, yw] at pgr
    refine seg_bind_wrap (wpAny_gsz z2 (thnF pgr fun _ s3 ⟨σ3, H3, I3, hw3, q3⟩ z3 => ?_))
    simp only [List.forIn_nil]
    refine seg_bind_wrap (wpAny_pure ?_)
    simp only [if_true]
    simp only [hy]
    rw [Sem.bind_eq_wrap', Sem.bind_eq_wrap', Sem.wrap_wrap, Sem.wrap_wrap]
    have per := pe.run _ s3 σ3 H3 _ I3 q3
    rw [yA, ye, yx, yp, yw] at per
    refine seg_wrap (wpAny_gsz z3 (thnF per fun yv s5 ⟨y5, H5, I5, r5, b, eb, q5⟩ z5 => ?_))
    subst eb
    cases r5
    have pin' : ∀ b ∈ fp, ∀ o, s2.heap.get? b = some o → s5.heap.get? b = some o ∧ H5 b = none := fun b hb o e =>
      let z := I5.pin (b, o) (List.mem_append_right _ (List.mem_append_right _ (mem_pinsAt hb e)))
      ⟨z.1, z.2.1⟩
    have hl : (wipe σ vs).length = σ3.length := by rw [← hw3, wipe_length]
    have I6 : Inv Y [] (wipe σ vs) H5 s5 := (I5.unpinned (pins := [])).weak hl fun j v e => by
      rw [← hw3] at e
      exact (wipe_some e).1
    have st5 : tn (i + 1) s5.heap := T.keep _ _ _ st2 fun b hb o e => (pin' b hb o e).1
    have n5 : ∀ b ∈ fp, H5 b = none := fun b hb => by
      obtain ⟨o, e, _⟩ := T.obj _ _ st2 b hb
      exact (pin' b hb o e).2
    refine seg_at (seg_yield rfl rfl rfl ⟨z5, b, H5, rfl, I6, fun e => by rw [if_neg (by rw [e]; cases q.c <;> decide)] at q5; exact q5, fun e s'' e1 e2 e3 => ?_⟩)
    rw [if_pos e] at q5
    exact seg_again rfl (ih (i + 1) s'' s'' H5 (by omega) hlt (Inv.gens I6 e1 e2 e3) (by rw [e1]; exact st5) n5 q5 (Nat.le_refl _))
theorem gen_begin {elt tg iter : Expr} {scope : Scope} {gpos : Pos} {it : Addr} {fp vs : List Nat} {pn : List (Addr × Obj)} {A : Around} {cenv : Env} {s4 : Shared} {H4 : Hp} {J : It} {tn : Nat → Heap → Prop} {tgt : TG} {te : TE} {q : GQ}
    (hco : cenv.scope.isCoroutine = false) (T : Turn X.prog X.w X.K tg J fp it tn) (hpf : ∀ p ∈ pn, p.1 ∉ fp)
    (pg : PG (gCx X s4 H4 cenv (A.over (gCode elt tg iter scope gpos it cenv) []) fp pn) tg tgt) (pe : PE (gCx X s4 H4 cenv (A.over (gCode elt tg iter scope gpos it cenv) []) fp pn) elt te) (tr : gTurns J tgt te vs σ q)
    (s : Shared) (H : Hp) (I : Inv (gCx X s4 H4 cenv (A.over (gCode elt tg iter scope gpos it cenv) []) fp pn) [] (wipe σ vs) H s) (st : tn 0 s.heap) (hn : ∀ b ∈ fp, H b = none) (w : q.W 0 H) :
      Seg (model X.prog X.w) A (fun n s0 r s1 => r = .ok .next ∧ gR (gCx X s4 H4 cenv (A.over (gCode elt tg iter scope gpos it cenv) []) fp pn) (wipe σ vs) q n s0 s1) (gY (gCx X s4 H4 cenv (A.over (gCode elt tg iter scope gpos it cenv) []) fp pn) (wipe σ vs) q) q.N s
        (gCode0 elt tg iter scope gpos it cenv) ((model X.prog X.w).den (gCode0 elt tg iter scope gpos it cenv)) [] s := by
  have loop := gen_loop hco T hpf pg pe tr q.N 0 s s H (Nat.sub_zero _) (Nat.zero_le _) I st hn w (Nat.le_refl _)
  show Seg _ A _ _ _ s _ ((compStart (.GeneratorExp elt [⟨tg, iter, [], 0⟩] scope gpos) 0 (.ref it) .none cenv).onRaise (leaving cenv)) [] s
  unfold compStart
  rw [Sem.onRaise_eq_wrap]
  show Seg _ A _ _ _ s _ ((ask >>= _).wrap _ _ _ _) [] s
  refine seg_bind_wrap (wpAny_askSetting ?_)
  split
  · exact seg_again rfl loop
  · first
      | exact seg_bind_wrap (wpAny_rule (seg_bind_wrap (wpAny_standAt (seg_bind_wrap (T.self _ 0 s _ _ st (seg_again rfl loop))))))
      | (refine seg_bind_wrap (wpAny_rule ?_); show Seg _ A _ _ _ s _ ((standAt iter.pos >>= _).wrap _ _ _ _) [] s; exact seg_bind_wrap (wpAny_standAt (seg_bind_wrap (T.self _ 0 s _ _ st (seg_again rfl loop)))))
end
/-! ## all, any of it -/
/-- the generator a, its number n, so many items behind it -/
structure GStand (Y : Cx) (σw : L2.St) (q : GQ) (P : Program) (w : World) (A : Around) (a : Addr) (n : Nat) (k : Nat) (s : Shared) : Prop where
  gen : s.heap.IsGen a n
  nl : s.heap.NoLimit
  bare : AllBare s.gens
  go : ∃ gs, s.gens[n]? = some gs ∧ ∀ s'', s''.heap = s.heap → s''.os = s.os → AllBare s''.gens →
    gs.Goes (model P w) A.in1 (fun n s0 r s1 => r = .ok .next ∧ gR Y σw q n s0 s1) (gY Y σw q) k (.send .none) s''
theorem allBare_set {g : Array GenState} {n : Nat} {x : GenState} (h : AllBare g) (hx : x.bare = true) : AllBare (g.setIfInBounds n x) := fun y hy => by
  rcases Array.getElem_of_mem hy with ⟨i, hi, e⟩
  have hi' : i < g.size := by simpa using hi
  rw [Array.getElem_setIfInBounds hi'] at e
  split at e
  · rw [← e]; exact hx
  · rw [← e]; exact h _ (Array.getElem_mem _)
theorem bare_setGen {s : Shared} {n : Nat} {x : GenState} (h : AllBare s.gens) (hx : x.bare = true) : AllBare (s.setGen n x).gens := allBare_set h hx
section
variable {Y : Cx} {σw : L2.St} {q : GQ} {P : Program} {w : World} {A : Around} {a n : Nat}
/-- the next item -/
theorem gen_next {k : Nat} {s : Shared} {Q : Option Value → Shared → Prop} {E : Value → Shared → Prop} (hh : A.handled = none) (hroom : A.depth < recursionLimit) (hpn : ∃ o, (a, o) ∈ Y.pn ∧ ∃ nm qn, o.cls = .type "generator" ∧ o.data = .fields #[.int n 0, nm, qn] ∧ o.slots = #[]) (S : GStand Y σw q P w A a n k s)
    (h0 : k = 0 → ∀ s1 H', Inv Y [] σw H' s1 → q.R q.c H' → Q none s1) (h1 : ∀ b s1 H', Inv Y [] σw H' s1 → (b = (!q.c) → q.R (!q.c) H') → (b = q.c → ∃ m, k = m + 1 ∧ GStand Y σw q P w A a n m s1) → Q (some (.bool b)) s1) :
    wpAny (model P w) A (pyNext (.ref a)) Q E s := by
  obtain ⟨gen, nl, bare, gs, hgs, hgo⟩ := S
  refine wpAny_pyNext_genexpQ (P := gR Y σw q) hh nl hroom gen hgs (hgo _ rfl rfl (bare_setGen bare rfl)) (fun v s1 gs' hb hv => ?_) fun s1 hp h' hk => ?_
  · obtain ⟨hsz, b, H', rfl, I1, hf, ht⟩ := hv
    have I2 : Inv Y [] σw H' (s1.setGen n gs') := Inv.gens I1 rfl rfl (bare_setGen I1.bare hb)
    refine h1 b _ H' I2 hf fun e => ?_
    cases k with
    | zero => exact False.elim (ht e s1 rfl rfl I1.bare)
    | succ m =>
      refine ⟨m, rfl, ?_⟩
      have hlt : n < s1.gens.size := by
        have z : n < s.gens.size := (Array.getElem?_eq_some_iff.mp hgs).1
        rw [setGen_size] at hsz
        exact Nat.lt_of_lt_of_le z hsz
      obtain ⟨o, ho, nm, qn, oc, od, os⟩ := hpn
      refine ⟨⟨o, nm, qn, (I2.pin (a, o) (List.mem_append_left _ ho)).1, oc, od, os⟩, I2.nolimit, I2.bare, gs', ?_, fun s'' e1 e2 e3 => ht e s'' e1 e2 e3⟩
      exact setGen_self (gs := s1.gens[n]) (by simp [hlt])
  · obtain ⟨hz, H', I1, r⟩ := hp
    refine h0 hz _ H' ?_ r
    exact (Inv.gens (s' := s1.setGen n .finished) I1 rfl rfl (bare_setGen I1.bare rfl)).kept (t' := s1.toks) hk
theorem all_loop (hcc : q.c = true) {R : Result → Shared → Prop} (hh : A.handled = none) (hroom : A.depth < recursionLimit) (hpn : ∃ o, (a, o) ∈ Y.pn ∧ ∃ nm qn, o.cls = .type "generator" ∧ o.data = .fields #[.int n 0, nm, qn] ∧ o.slots = #[])
    (hR : ∀ b s1 H', Inv Y [] σw H' s1 → q.R b H' → R (.ok (.ret (.bool b))) s1) : ∀ (k : Nat) (s : Shared), GStand Y σw q P w A.in1 a n k s → codeAny (model P w) A (.builtin "all.loop" ⟨[.ref a], []⟩) R s := by
  intro k
  induction k with
  | zero =>
    intro s S
    refine codeAny_builtin F.entry_all_loop ?_
    rw [Around.under_plainId F.plain_all_loop _]
    show wpAny _ A.in1 (pyNext (.ref a) >>= _) _ _ s
    refine wpAny_bind (gen_next (A := A.in1) hh hroom hpn S (fun _ s1 H' I1 r => ?_) fun b s1 H' I1 hf ht => ?_)
    · exact wpAny_bind (wpAny_rule (wpAny_pure (hR true s1 H' I1 (by rw [hcc] at r; exact r))))
    · rw [hcc] at hf ht
      cases b with
      | true => obtain ⟨m, e, _⟩ := ht rfl; cases e
      | false =>
        refine wpAny_bind (wpAny_holding (wpAny_truthy_bool ?_))
        refine wpAny_bind (wpAny_letGo ?_)
        simp only [Bool.false_eq_true, if_false]
        exact wpAny_bind (wpAny_rule (wpAny_pure (hR false s1 H' I1 (hf rfl))))
  | succ k ih =>
    intro s S
    refine codeAny_builtin F.entry_all_loop ?_
    rw [Around.under_plainId F.plain_all_loop _]
    show wpAny _ A.in1 (pyNext (.ref a) >>= _) _ _ s
    refine wpAny_bind (gen_next (A := A.in1) hh hroom hpn S (fun z => by cases z) fun b s1 H' I1 hf ht => ?_)
    rw [hcc] at hf ht
    refine wpAny_bind (wpAny_holding (wpAny_truthy_bool ?_))
    refine wpAny_bind (wpAny_letGo ?_)
    cases b with
    | true =>
      obtain ⟨m, e, S'⟩ := ht rfl
      cases e
      simp only [if_true]
      exact wpAny_pure ⟨plainId_quiet F.plain_all_loop _, ih s1 S'⟩
    | false =>
      simp only [Bool.false_eq_true, if_false]
      exact wpAny_bind (wpAny_rule (wpAny_pure (hR false s1 H' I1 (hf rfl))))
theorem any_loop (hcc : q.c = false) {R : Result → Shared → Prop} (hh : A.handled = none) (hroom : A.depth < recursionLimit) (hpn : ∃ o, (a, o) ∈ Y.pn ∧ ∃ nm qn, o.cls = .type "generator" ∧ o.data = .fields #[.int n 0, nm, qn] ∧ o.slots = #[])
    (hR : ∀ b s1 H', Inv Y [] σw H' s1 → q.R b H' → R (.ok (.ret (.bool b))) s1) : ∀ (k : Nat) (s : Shared), GStand Y σw q P w A.in1 a n k s → codeAny (model P w) A (.builtin "any.loop" ⟨[.ref a], []⟩) R s := by
  intro k
  induction k with
  | zero =>
    intro s S
    refine codeAny_builtin F.entry_any_loop ?_
    rw [Around.under_plainId F.plain_any_loop _]
    show wpAny _ A.in1 (pyNext (.ref a) >>= _) _ _ s
    refine wpAny_bind (gen_next (A := A.in1) hh hroom hpn S (fun _ s1 H' I1 r => ?_) fun b s1 H' I1 hf ht => ?_)
    · exact wpAny_bind (wpAny_rule (wpAny_pure (hR false s1 H' I1 (by rw [hcc] at r; exact r))))
    · rw [hcc] at hf ht
      cases b with
      | false => obtain ⟨m, e, _⟩ := ht rfl; cases e
      | true =>
        refine wpAny_bind (wpAny_holding (wpAny_truthy_bool ?_))
        refine wpAny_bind (wpAny_letGo ?_)
        simp only [if_true]
        exact wpAny_bind (wpAny_rule (wpAny_pure (hR true s1 H' I1 (hf rfl))))
  | succ k ih =>
    intro s S
    refine codeAny_builtin F.entry_any_loop ?_
    rw [Around.under_plainId F.plain_any_loop _]
    show wpAny _ A.in1 (pyNext (.ref a) >>= _) _ _ s
    refine wpAny_bind (gen_next (A := A.in1) hh hroom hpn S (fun z => by cases z) fun b s1 H' I1 hf ht => ?_)
    rw [hcc] at hf ht
    refine wpAny_bind (wpAny_holding (wpAny_truthy_bool ?_))
    refine wpAny_bind (wpAny_letGo ?_)
    cases b with
    | false =>
      obtain ⟨m, e, S'⟩ := ht rfl
      cases e
      simp only [Bool.false_eq_true, if_false]
      exact wpAny_pure ⟨plainId_quiet F.plain_any_loop _, ih s1 S'⟩
    | true =>
      simp only [if_true]
      exact wpAny_bind (wpAny_rule (wpAny_pure (hR true s1 H' I1 (hf rfl))))
theorem call_allG (hcc : q.c = true) {k : Nat} {s : Shared} {Q : Value → Shared → Prop} {E : Value → Shared → Prop} (hh : A.handled = none) (hroom : A.depth < recursionLimit) (hpn : ∃ o, (a, o) ∈ Y.pn ∧ ∃ nm qn, o.cls = .type "generator" ∧ o.data = .fields #[.int n 0, nm, qn] ∧ o.slots = #[])
    (S : GStand Y σw q P w A.in1 a n k s) (hR : ∀ b s1 H', Inv Y [] σw H' s1 → q.R b H' → Q (.bool b) s1) : wpAny (model P w) A (call (.builtin "all") [.ref a]) Q E s := by
  refine call_function_tree F.kind_all F.plain_all F.entry_all (F.args_all1 _) ?_
  unfold Builtin.«all»
  refine wpAny_bind (m := oneArg "all" _) (wpAny_pure ?_)
  refine wpAny_bind (wpAny_pyIter_gen S.gen ?_)
  exact wpAny_pure ⟨plainId_quiet F.plain_all_loop _, all_loop hcc hh hroom hpn (fun b s1 H' I1 r => hR b s1 H' I1 r) k s S⟩
theorem call_anyG (hcc : q.c = false) {k : Nat} {s : Shared} {Q : Value → Shared → Prop} {E : Value → Shared → Prop} (hh : A.handled = none) (hroom : A.depth < recursionLimit) (hpn : ∃ o, (a, o) ∈ Y.pn ∧ ∃ nm qn, o.cls = .type "generator" ∧ o.data = .fields #[.int n 0, nm, qn] ∧ o.slots = #[])
    (S : GStand Y σw q P w A.in1 a n k s) (hR : ∀ b s1 H', Inv Y [] σw H' s1 → q.R b H' → Q (.bool b) s1) : wpAny (model P w) A (call (.builtin "any") [.ref a]) Q E s := by
  refine call_function_tree F.kind_any F.plain_any F.entry_any (F.args_any1 _) ?_
  unfold Builtin.«any»
  refine wpAny_bind (m := oneArg "any" _) (wpAny_pure ?_)
  refine wpAny_bind (wpAny_pyIter_gen S.gen ?_)
  exact wpAny_pure ⟨plainId_quiet F.plain_any_loop _, any_loop hcc hh hroom hpn (fun b s1 H' I1 r => hR b s1 H' I1 r) k s S⟩
end
/-- all(elt for tg in iter); behind the iterator's making the def's table may have grown -/
def tAllG (P : Addr) (ti : TI) (tgt : TG) (te : TE) (vs : List Nat) : TE := fun σ H Q => ti σ H fun J H1 => TabG H1 P ∧ ∀ H2, Tabbed P H1 H2 → ∃ q : GQ, q.c = true ∧ q.W 0 H2 ∧ gTurns J tgt te vs σ q ∧ ∀ b H', q.R b H' → Q (.bl b) H'
/-- any(elt for tg in iter); behind the iterator's making the def's table may have grown -/
def tAnyG (P : Addr) (ti : TI) (tgt : TG) (te : TE) (vs : List Nat) : TE := fun σ H Q => ti σ H fun J H1 => TabG H1 P ∧ ∀ H2, Tabbed P H1 H2 → ∃ q : GQ, q.c = false ∧ q.W 0 H2 ∧ gTurns J tgt te vs σ q ∧ ∀ b H', q.R b H' → Q (.bl b) H'
section
variable {X : Cx}
theorem genFold_pure {iter : Expr} {env : Env} {x : Value} (h : ∀ x, foldedSetIterable iter env x = pure x) (hn : ∀ es p, iter ≠ .List es p) : genFold iter env x = pure x := by
  unfold genFold
  split
  · exact absurd rfl (hn _ _)
  · exact h x
theorem pe_allG {c P : Addr} {elt tg iter : Expr} {p pos gpos : Pos} {scope : Scope} {own : List (Str × Nat)} {k : Nat} {ti : TI} {tgt : TG} {te : TE}
    (hr : RoomG (k + 1) X.A) (hg : Gl X "all") (hm : X.mg "all" = none) (hb : bootBuiltins "all" = some (.builtin "all")) (TB : TabB X.base X.mg c P) (hcode : X.env.code = .ref c) (hN : X.N.Nodup) (ok : BlkOk X.N X.env.scope scope own)
    (hco : scope.isCoroutine = false) (hcell : ∀ y ∈ scope.names, y.2 ≠ .cell) (hdot : scope.names.lookup (".0" : Str) = some NameKind.local) (hi : PI X tg iter ti)
    (hgt : ∀ (s : Shared) (H : Hp) (C : Addr) (cl : List (Str × Addr)) (code : Value) (A : Around) (fp : List Addr) (pn : List (Addr × Obj)), RoomG k A → PG (gCx X s H (genEnv scope cl C code builtinsNs X.env) A fp pn) tg tgt)
    (het : ∀ (s : Shared) (H : Hp) (C : Addr) (cl : List (Str × Addr)) (code : Value) (A : Around) (fp : List Addr) (pn : List (Addr × Obj)), RoomG k A → PE (gCx X s H (genEnv scope cl C code builtinsNs X.env) A fp pn) elt te)
    (hs : ∀ v, genFold iter X.env v = pure v)
    (he : starEach [.GeneratorExp elt [⟨tg, iter, [], 0⟩] scope gpos] X.env = (false, eval (.GeneratorExp elt [⟨tg, iter, [], 0⟩] scope gpos) X.env) :: starEach [] X.env := by rfl) :
    PE X (.Call (.Name "all" p) [.GeneratorExp elt [⟨tg, iter, [], 0⟩] scope gpos] [] pos) (tAllG P ti tgt te (own.map (·.2))) := by
  refine ⟨fun pins s σ H Q I h => ?_⟩
  have hfree : ∀ y ∈ scope.names, y.2 = .free → ∃ c, X.env.cells.lookup y.1 = some c := fun y hy e => by
    rcases ok.free y hy e with k | k
    · exact I.ok.has _ (.inl k)
    · exact I.ok.has _ (.inr k)
  refine wpAny_Call_Name_kw (ld_blt I hg hm hb ?_)
  refine PyProof.Rows.callWith_builtin1 ?_ he (by rfl)
  rw [he]
  show wpAny _ _ (spliced ((false, eval (.GeneratorExp elt [⟨tg, iter, [], 0⟩] scope gpos) X.env) :: backTo pos (starEach [] X.env))) _ _ s
  refine Calls.spliced_cons ?_
  refine wpAny_GeneratorExp_make hco (closure_ok hfree) hcell hdot ok.kind hr.rm.depth ?_ hs
  refine thn (hi.run pins s σ H _ I h) fun xv s1 hx => thn hx fun itv s2 h2 => ?_
  obtain ⟨it, fp, tn, J, H1, e, I1, T, st2, f2, ⟨ps, hP, ht⟩, q1⟩ := h2
  subst e
  refine ⟨I1.nolimit, ?_⟩
  have hPs : s2.heap.get? P = some { cls := .none, data := .fields ps } := I1.hok P _ hP
  have cd : PySem.W.CodeHd s2.heap c P := TB.code.keeps fun b u e => I1.bk b u e
  have sz : ∀ b ∈ fp, b < s2.heap.objs.size := fun b hb => by
    obtain ⟨o, e, _⟩ := T.obj _ _ st2 b hb
    exact Heap.lt_size e
  have nfpP : ∀ b ∈ fp, b ≠ P := fun b hb z => by
    have := (f2 b hb).1
    rw [z, hP] at this; cases this
  have cont : ∀ (code : Value) (h3 : Heap) (tk : Nat) (ps' : Array Value), Heap.ExtBut P s2.heap h3 → s2.heap.objs.size ≤ h3.objs.size → h3.get? P = some { cls := .none, data := .fields ps' } → (∃ more, ps' = ps ++ more) → TriplesOk ps'.toList →
      wpAny (model X.prog X.w) X.A (builtinsFor X.env.globals X.env.builtins) (fun bi s₄ => ∀ h', h'.Ns s₄.heap.objs.size (fun y => if y = ".0" then some (.ref it) else none) → Heap.SameBut s₄.heap.objs.size (s₄.heap.push { cls := .type "frame", data := .dict #[] }) h' →
          wpAny (model X.prog X.w) X.A (spliced (backTo pos (starEach [] X.env))) (fun us s' => wpAny (model X.prog X.w) X.A (call (.builtin "all") (.ref h'.objs.size :: us)) (EP X pins σ Q) X.xe s') X.xe { s₄ with
            gens := s₄.gens.push (.fresh (.compStart (.GeneratorExp elt [⟨tg, iter, [], 0⟩] scope gpos) 0 (.ref it) .none (genEnv scope (cloFrom X.env.cells scope.names []) s₄.heap.objs.size code bi X.env))),
            toks := s₄.toks + 1 + 1 + 1,
            heap := h'.push { cls := .type "generator", data := .fields #[.int s₄.gens.size 0, .str "<genexpr>" (s₄.toks + 1), .str (X.env.qual ++ "<genexpr>") (s₄.toks + 1 + 1)] } }) X.xe { s2 with heap := h3, toks := tk } := by
    intro code h3 tk ps' hx hsz hP3 hmore ht3
    obtain ⟨bm, ob, e1, e2, e3, e4, e5, e6, e7, e8⟩ := TB.bm
    have keep3 : ∀ b u, b ≠ P → s2.heap.get? b = some u → h3.get? b = some u := fun b u hb e => hx b u hb e
    obtain ⟨more, em⟩ := hmore
    subst em
    have I3 : Inv X pins σ (upd H1 P (.tbl (ps ++ more))) { s2 with heap := h3, toks := tk } := inv_tab (more := more) (h' := h3) (g' := s2.gens) (d' := s2.drawn) (t' := tk) I1 hP keep3 hP3 I1.bare
    refine wpAny_builtinsFor (m := X.mg) (by rw [I1.ok.glob]; exact I3.mod.glob.keeps I3.bk) e1 e2 (keep3 _ _ e4 (I1.bk _ _ e5)) e6 e7 e8 ?_
    intro h' hns hsame
    generalize hs4 : ({ s2 with heap := h3, toks := tk } : Shared) = s4 at I3 hns hsame ⊢
    have h4 : s4.heap = h3 := by rw [← hs4]
    generalize hH4 : upd H1 P (.tbl (ps ++ more)) = H4 at I3
    obtain ⟨q, hcc, w0, tr, hQ⟩ := q1 H4 ⟨⟨ps ++ more, by rw [← hH4]; exact upd_same, ht3⟩, fun b hb => by rw [← hH4]; exact upd_ne hb⟩
    have sz' : h'.objs.size = s4.heap.objs.size + 1 := by rw [hsame.1, Heap.size_push]
    have keep' : ∀ b o, s4.heap.get? b = some o → h'.get? b = some o := fun b o e => hsame.extBut b o (Nat.ne_of_lt (Heap.lt_size e)) (Heap.get?_push_of_some _ e)
    generalize hgo : ({ cls := .type "generator", data := .fields #[.int s4.gens.size 0, .str "<genexpr>" (s4.toks + 1), .str (X.env.qual ++ "<genexpr>") (s4.toks + 1 + 1)] } : Obj) = go
    have keep5 : ∀ b o, s4.heap.get? b = some o → (h'.push go).get? b = some o := fun b o e => Heap.get?_push_of_some _ (keep' b o e)
    generalize hce : genEnv scope (cloFrom X.env.cells scope.names []) s4.heap.objs.size code builtinsNs X.env = ce
    have f4 : ∀ b ∈ fp, FpOk X pins H4 b ∧ b < s4.heap.objs.size := fun b hb => by
      refine ⟨⟨?_, (f2 b hb).2⟩, by rw [h4]; exact Nat.lt_of_lt_of_le (sz b hb) hsz⟩
      rw [← hH4, upd_ne (nfpP b hb)]
      exact (f2 b hb).1
    have st5 : tn 0 (h'.push go) := T.keep _ _ _ st2 fun b hb o e => keep5 b o (by rw [h4]; exact keep3 b o (nfpP b hb) e)
    have hpn : ∀ p ∈ [(h'.objs.size, go)], (h'.push go).get? p.1 = some p.2 ∧ s4.heap.objs.size < p.1 ∧ ∀ v, p.2.data ≠ .cell v := fun p hp => by
      have e : p = (h'.objs.size, go) := by simpa using hp
      subst e
      refine ⟨Heap.get?_push_size _ (by rw [← hgo]; rfl), by show _ < h'.objs.size; omega, fun v z => ?_⟩
      rw [← hgo] at z; cases z
    have hpf : ∀ p ∈ [(h'.objs.size, go)], p.1 ∉ fp := fun p hp z => by
      have e : p = (h'.objs.size, go) := by simpa using hp
      subst e
      have z1 : h'.objs.size < s4.heap.objs.size := (f4 _ z).2
      omega
    have hRk : RoomG k ((X.A.in1.in1).over (gCode elt tg iter scope gpos it ce) []) := over_gen_room hr
    have hA : ((X.A.in1.in1).over (gCode elt tg iter scope gpos it ce) []).handled = none := hRk.rm.hd
    have hfr : ((X.A.in1.in1).over (gCode elt tg iter scope gpos it ce) []).frames = some (ce :: X.stack) := over_gen_frames (A := X.A.in1.in1) I1.ok.frames
    have start : ∀ (g' : Array GenState) (t' : Nat) (d' : Drawn), AllBare g' → Inv (gCx X s4 H4 ce ((X.A.in1.in1).over (gCode elt tg iter scope gpos it ce) []) fp [(h'.objs.size, go)]) [] (wipe σ (own.map (·.2))) H4 { s4 with heap := h'.push go, gens := g', toks := t', drawn := d' } := fun g' t' d' hg' => by
      have z := gen_start (g' := g') (t' := t') (d' := d') (m0 := fun y => if y = ".0" then some (.ref it) else none) (code := code) (A := (X.A.in1.in1).over (gCode elt tg iter scope gpos it ce) []) (pn := [(h'.objs.size, go)]) (h5 := h'.push go) I3 ok hcell hN f4 hA (by rw [hce]; exact hfr) (hns.push _) keep5 hpn hg'
      rw [hce] at z
      exact z
    have nH4 : ∀ b ∈ fp, H4 b = none := fun b hb => (f4 b hb).1.1
    have seg : ∀ s'' : Shared, s''.heap = h'.push go → s''.os = s4.os → AllBare s''.gens → Seg (model X.prog X.w) X.A.in1.in1 _ _ q.N s'' (gCode0 elt tg iter scope gpos it ce) ((model X.prog X.w).den (gCode0 elt tg iter scope gpos it ce)) [] s'' := fun s'' e1 e2 e3 =>
      gen_begin (X := X) (A := X.A.in1.in1) (cenv := ce) (s4 := s4) (H4 := H4) (pn := [(h'.objs.size, go)]) (by rw [← hce]; exact hco) T hpf (by have z := hgt s4 H4 s4.heap.objs.size (cloFrom X.env.cells scope.names []) code _ fp [(h'.objs.size, go)] hRk; rw [hce] at z; exact z) (by have z := het s4 H4 s4.heap.objs.size (cloFrom X.env.cells scope.names []) code _ fp [(h'.objs.size, go)] hRk; rw [hce] at z; exact z) tr s'' H4
        (Inv.gens (start s''.gens s''.toks s''.drawn e3) e1 e2 e3) (by rw [e1]; exact st5) nH4 w0
    refine Calls.spliced_nil ?_
    have bare5 : AllBare (s4.gens.push (.fresh (gCode0 elt tg iter scope gpos it ce))) := I3.bare.push rfl
    refine call_allG hcc (Y := gCx X s4 H4 ce ((X.A.in1.in1).over (gCode elt tg iter scope gpos it ce) []) fp [(h'.objs.size, go)]) (σw := wipe σ (own.map (·.2))) (q := q) (n := s4.gens.size) (k := q.N) hr.rm.hd hr.rm.depth ⟨go, by simp, .str "<genexpr>" (s4.toks + 1), .str (X.env.qual ++ "<genexpr>") (s4.toks + 1 + 1), by rw [← hgo]; exact ⟨rfl, rfl, rfl⟩⟩ ⟨?_, ?_, bare5, _, Array.getElem?_push_size .., fun s'' e1 e2 e3 => ⟨rfl, seg s'' e1 e2 e3⟩⟩ fun b s' H' I' r => ?_
    · exact ⟨go, .str "<genexpr>" (s4.toks + 1), .str (X.env.qual ++ "<genexpr>") (s4.toks + 1 + 1), Heap.get?_push_size _ (by rw [← hgo]; rfl), by rw [← hgo]; exact ⟨rfl, rfl, rfl⟩⟩
    · exact I3.nolimit.keeps keep5
    · have J : Inv X pins σ H' s' := I3.call' (ch := fp) I'.os I'.base I'.hok I'.bare fun b hb => ⟨(f4 b hb).1.2.2.2.1, (f4 b hb).1.2.1, (f4 b hb).1.2.2.2.2.1, (f4 b hb).1.2.2.2.2.2⟩
      exact ⟨.bl b, H', J, rfl, hQ b H' r⟩
  cases hf : codeAmong gpos ps.toList with
  | none =>
    refine wpAny_genexprCodeX hcode (cd.code hPs ht) (cd.tab hPs) hf fun c' h' tk hx hge hlt hco' _ htab' _ => ?_
    obtain ⟨o1, vs, f1, tf, fl, tg', inF, tx, tt, op, _, _, _, _, _, _, _, _, _, htr, _⟩ := hco'
    exact cont _ h' tk _ hx (Nat.le_trans hge (Nat.le_of_lt hlt)) htab'.2 ⟨_, rfl⟩ htr
  | some cv =>
    refine wpAny_genexprCode_hit hcode (cd.code hPs ht) hf ?_
    exact cont cv s2.heap s2.toks ps (Heap.ExtBut.refl _ _) (Nat.le_refl _) hPs ⟨#[], by simp⟩ ht
theorem pe_anyG {c P : Addr} {elt tg iter : Expr} {p pos gpos : Pos} {scope : Scope} {own : List (Str × Nat)} {k : Nat} {ti : TI} {tgt : TG} {te : TE}
    (hr : RoomG (k + 1) X.A) (hg : Gl X "any") (hm : X.mg "any" = none) (hb : bootBuiltins "any" = some (.builtin "any")) (TB : TabB X.base X.mg c P) (hcode : X.env.code = .ref c) (hN : X.N.Nodup) (ok : BlkOk X.N X.env.scope scope own)
    (hco : scope.isCoroutine = false) (hcell : ∀ y ∈ scope.names, y.2 ≠ .cell) (hdot : scope.names.lookup (".0" : Str) = some NameKind.local) (hi : PI X tg iter ti)
    (hgt : ∀ (s : Shared) (H : Hp) (C : Addr) (cl : List (Str × Addr)) (code : Value) (A : Around) (fp : List Addr) (pn : List (Addr × Obj)), RoomG k A → PG (gCx X s H (genEnv scope cl C code builtinsNs X.env) A fp pn) tg tgt)
    (het : ∀ (s : Shared) (H : Hp) (C : Addr) (cl : List (Str × Addr)) (code : Value) (A : Around) (fp : List Addr) (pn : List (Addr × Obj)), RoomG k A → PE (gCx X s H (genEnv scope cl C code builtinsNs X.env) A fp pn) elt te)
    (hs : ∀ v, genFold iter X.env v = pure v)
    (he : starEach [.GeneratorExp elt [⟨tg, iter, [], 0⟩] scope gpos] X.env = (false, eval (.GeneratorExp elt [⟨tg, iter, [], 0⟩] scope gpos) X.env) :: starEach [] X.env := by rfl) :
    PE X (.Call (.Name "any" p) [.GeneratorExp elt [⟨tg, iter, [], 0⟩] scope gpos] [] pos) (tAnyG P ti tgt te (own.map (·.2))) := by
  refine ⟨fun pins s σ H Q I h => ?_⟩
  have hfree : ∀ y ∈ scope.names, y.2 = .free → ∃ c, X.env.cells.lookup y.1 = some c := fun y hy e => by
    rcases ok.free y hy e with k | k
    · exact I.ok.has _ (.inl k)
    · exact I.ok.has _ (.inr k)
  refine wpAny_Call_Name_kw (ld_blt I hg hm hb ?_)
  refine PyProof.Rows.callWith_builtin1 ?_ he (by rfl)
  rw [he]
  show wpAny _ _ (spliced ((false, eval (.GeneratorExp elt [⟨tg, iter, [], 0⟩] scope gpos) X.env) :: backTo pos (starEach [] X.env))) _ _ s
  refine Calls.spliced_cons ?_
  refine wpAny_GeneratorExp_make hco (closure_ok hfree) hcell hdot ok.kind hr.rm.depth ?_ hs
  refine thn (hi.run pins s σ H _ I h) fun xv s1 hx => thn hx fun itv s2 h2 => ?_
  obtain ⟨it, fp, tn, J, H1, e, I1, T, st2, f2, ⟨ps, hP, ht⟩, q1⟩ := h2
  subst e
  refine ⟨I1.nolimit, ?_⟩
  have hPs : s2.heap.get? P = some { cls := .none, data := .fields ps } := I1.hok P _ hP
  have cd : PySem.W.CodeHd s2.heap c P := TB.code.keeps fun b u e => I1.bk b u e
  have sz : ∀ b ∈ fp, b < s2.heap.objs.size := fun b hb => by
    obtain ⟨o, e, _⟩ := T.obj _ _ st2 b hb
    exact Heap.lt_size e
  have nfpP : ∀ b ∈ fp, b ≠ P := fun b hb z => by
    have := (f2 b hb).1
    rw [z, hP] at this; cases this
  have cont : ∀ (code : Value) (h3 : Heap) (tk : Nat) (ps' : Array Value), Heap.ExtBut P s2.heap h3 → s2.heap.objs.size ≤ h3.objs.size → h3.get? P = some { cls := .none, data := .fields ps' } → (∃ more, ps' = ps ++ more) → TriplesOk ps'.toList →
      wpAny (model X.prog X.w) X.A (builtinsFor X.env.globals X.env.builtins) (fun bi s₄ => ∀ h', h'.Ns s₄.heap.objs.size (fun y => if y = ".0" then some (.ref it) else none) → Heap.SameBut s₄.heap.objs.size (s₄.heap.push { cls := .type "frame", data := .dict #[] }) h' →
          wpAny (model X.prog X.w) X.A (spliced (backTo pos (starEach [] X.env))) (fun us s' => wpAny (model X.prog X.w) X.A (call (.builtin "any") (.ref h'.objs.size :: us)) (EP X pins σ Q) X.xe s') X.xe { s₄ with
            gens := s₄.gens.push (.fresh (.compStart (.GeneratorExp elt [⟨tg, iter, [], 0⟩] scope gpos) 0 (.ref it) .none (genEnv scope (cloFrom X.env.cells scope.names []) s₄.heap.objs.size code bi X.env))),
            toks := s₄.toks + 1 + 1 + 1,
            heap := h'.push { cls := .type "generator", data := .fields #[.int s₄.gens.size 0, .str "<genexpr>" (s₄.toks + 1), .str (X.env.qual ++ "<genexpr>") (s₄.toks + 1 + 1)] } }) X.xe { s2 with heap := h3, toks := tk } := by
    intro code h3 tk ps' hx hsz hP3 hmore ht3
    obtain ⟨bm, ob, e1, e2, e3, e4, e5, e6, e7, e8⟩ := TB.bm
    have keep3 : ∀ b u, b ≠ P → s2.heap.get? b = some u → h3.get? b = some u := fun b u hb e => hx b u hb e
    obtain ⟨more, em⟩ := hmore
    subst em
    have I3 : Inv X pins σ (upd H1 P (.tbl (ps ++ more))) { s2 with heap := h3, toks := tk } := inv_tab (more := more) (h' := h3) (g' := s2.gens) (d' := s2.drawn) (t' := tk) I1 hP keep3 hP3 I1.bare
    refine wpAny_builtinsFor (m := X.mg) (by rw [I1.ok.glob]; exact I3.mod.glob.keeps I3.bk) e1 e2 (keep3 _ _ e4 (I1.bk _ _ e5)) e6 e7 e8 ?_
    intro h' hns hsame
    generalize hs4 : ({ s2 with heap := h3, toks := tk } : Shared) = s4 at I3 hns hsame ⊢
    have h4 : s4.heap = h3 := by rw [← hs4]
    generalize hH4 : upd H1 P (.tbl (ps ++ more)) = H4 at I3
    obtain ⟨q, hcc, w0, tr, hQ⟩ := q1 H4 ⟨⟨ps ++ more, by rw [← hH4]; exact upd_same, ht3⟩, fun b hb => by rw [← hH4]; exact upd_ne hb⟩
    have sz' : h'.objs.size = s4.heap.objs.size + 1 := by rw [hsame.1, Heap.size_push]
    have keep' : ∀ b o, s4.heap.get? b = some o → h'.get? b = some o := fun b o e => hsame.extBut b o (Nat.ne_of_lt (Heap.lt_size e)) (Heap.get?_push_of_some _ e)
    generalize hgo : ({ cls := .type "generator", data := .fields #[.int s4.gens.size 0, .str "<genexpr>" (s4.toks + 1), .str (X.env.qual ++ "<genexpr>") (s4.toks + 1 + 1)] } : Obj) = go
    have keep5 : ∀ b o, s4.heap.get? b = some o → (h'.push go).get? b = some o := fun b o e => Heap.get?_push_of_some _ (keep' b o e)
    generalize hce : genEnv scope (cloFrom X.env.cells scope.names []) s4.heap.objs.size code builtinsNs X.env = ce
    have f4 : ∀ b ∈ fp, FpOk X pins H4 b ∧ b < s4.heap.objs.size := fun b hb => by
      refine ⟨⟨?_, (f2 b hb).2⟩, by rw [h4]; exact Nat.lt_of_lt_of_le (sz b hb) hsz⟩
      rw [← hH4, upd_ne (nfpP b hb)]
      exact (f2 b hb).1
    have st5 : tn 0 (h'.push go) := T.keep _ _ _ st2 fun b hb o e => keep5 b o (by rw [h4]; exact keep3 b o (nfpP b hb) e)
    have hpn : ∀ p ∈ [(h'.objs.size, go)], (h'.push go).get? p.1 = some p.2 ∧ s4.heap.objs.size < p.1 ∧ ∀ v, p.2.data ≠ .cell v := fun p hp => by
      have e : p = (h'.objs.size, go) := by simpa using hp
      subst e
      refine ⟨Heap.get?_push_size _ (by rw [← hgo]; rfl), by show _ < h'.objs.size; omega, fun v z => ?_⟩
      rw [← hgo] at z; cases z
    have hpf : ∀ p ∈ [(h'.objs.size, go)], p.1 ∉ fp := fun p hp z => by
      have e : p = (h'.objs.size, go) := by simpa using hp
      subst e
      have z1 : h'.objs.size < s4.heap.objs.size := (f4 _ z).2
      omega
    have hRk : RoomG k ((X.A.in1.in1).over (gCode elt tg iter scope gpos it ce) []) := over_gen_room hr
    have hA : ((X.A.in1.in1).over (gCode elt tg iter scope gpos it ce) []).handled = none := hRk.rm.hd
    have hfr : ((X.A.in1.in1).over (gCode elt tg iter scope gpos it ce) []).frames = some (ce :: X.stack) := over_gen_frames (A := X.A.in1.in1) I1.ok.frames
    have start : ∀ (g' : Array GenState) (t' : Nat) (d' : Drawn), AllBare g' → Inv (gCx X s4 H4 ce ((X.A.in1.in1).over (gCode elt tg iter scope gpos it ce) []) fp [(h'.objs.size, go)]) [] (wipe σ (own.map (·.2))) H4 { s4 with heap := h'.push go, gens := g', toks := t', drawn := d' } := fun g' t' d' hg' => by
      have z := gen_start (g' := g') (t' := t') (d' := d') (m0 := fun y => if y = ".0" then some (.ref it) else none) (code := code) (A := (X.A.in1.in1).over (gCode elt tg iter scope gpos it ce) []) (pn := [(h'.objs.size, go)]) (h5 := h'.push go) I3 ok hcell hN f4 hA (by rw [hce]; exact hfr) (hns.push _) keep5 hpn hg'
      rw [hce] at z
      exact z
    have nH4 : ∀ b ∈ fp, H4 b = none := fun b hb => (f4 b hb).1.1
    have seg : ∀ s'' : Shared, s''.heap = h'.push go → s''.os = s4.os → AllBare s''.gens → Seg (model X.prog X.w) X.A.in1.in1 _ _ q.N s'' (gCode0 elt tg iter scope gpos it ce) ((model X.prog X.w).den (gCode0 elt tg iter scope gpos it ce)) [] s'' := fun s'' e1 e2 e3 =>
      gen_begin (X := X) (A := X.A.in1.in1) (cenv := ce) (s4 := s4) (H4 := H4) (pn := [(h'.objs.size, go)]) (by rw [← hce]; exact hco) T hpf (by have z := hgt s4 H4 s4.heap.objs.size (cloFrom X.env.cells scope.names []) code _ fp [(h'.objs.size, go)] hRk; rw [hce] at z; exact z) (by have z := het s4 H4 s4.heap.objs.size (cloFrom X.env.cells scope.names []) code _ fp [(h'.objs.size, go)] hRk; rw [hce] at z; exact z) tr s'' H4
        (Inv.gens (start s''.gens s''.toks s''.drawn e3) e1 e2 e3) (by rw [e1]; exact st5) nH4 w0
    refine Calls.spliced_nil ?_
    have bare5 : AllBare (s4.gens.push (.fresh (gCode0 elt tg iter scope gpos it ce))) := I3.bare.push rfl
    refine call_anyG hcc (Y := gCx X s4 H4 ce ((X.A.in1.in1).over (gCode elt tg iter scope gpos it ce) []) fp [(h'.objs.size, go)]) (σw := wipe σ (own.map (·.2))) (q := q) (n := s4.gens.size) (k := q.N) hr.rm.hd hr.rm.depth ⟨go, by simp, .str "<genexpr>" (s4.toks + 1), .str (X.env.qual ++ "<genexpr>") (s4.toks + 1 + 1), by rw [← hgo]; exact ⟨rfl, rfl, rfl⟩⟩ ⟨?_, ?_, bare5, _, Array.getElem?_push_size .., fun s'' e1 e2 e3 => ⟨rfl, seg s'' e1 e2 e3⟩⟩ fun b s' H' I' r => ?_
    · exact ⟨go, .str "<genexpr>" (s4.toks + 1), .str (X.env.qual ++ "<genexpr>") (s4.toks + 1 + 1), Heap.get?_push_size _ (by rw [← hgo]; rfl), by rw [← hgo]; exact ⟨rfl, rfl, rfl⟩⟩
    · exact I3.nolimit.keeps keep5
    · have J : Inv X pins σ H' s' := I3.call' (ch := fp) I'.os I'.base I'.hok I'.bare fun b hb => ⟨(f4 b hb).1.2.2.2.1, (f4 b hb).1.2.1, (f4 b hb).1.2.2.2.2.1, (f4 b hb).1.2.2.2.2.2⟩
      exact ⟨.bl b, H', J, rfl, hQ b H' r⟩
  cases hf : codeAmong gpos ps.toList with
  | none =>
    refine wpAny_genexprCodeX hcode (cd.code hPs ht) (cd.tab hPs) hf fun c' h' tk hx hge hlt hco' _ htab' _ => ?_
    obtain ⟨o1, vs, f1, tf, fl, tg', inF, tx, tt, op, _, _, _, _, _, _, _, _, _, htr, _⟩ := hco'
    exact cont _ h' tk _ hx (Nat.le_trans hge (Nat.le_of_lt hlt)) htab'.2 ⟨_, rfl⟩ htr
  | some cv =>
    refine wpAny_genexprCode_hit hcode (cd.code hPs ht) hf ?_
    exact cont cv s2.heap s2.toks ps (Heap.ExtBut.refl _ _) (Nat.le_refl _) hPs ⟨#[], by simp⟩ ht
end
end DD
namespace DD
open PySem PySem.Spec PyProof.Rows L2 GxR

theorem Rel.wiped {K : PySem.W.Frag} {T : TB} {G : Gh} {σ : L2.St} {H : Hp} {z : Sx} {vs : List Nat} (R : Rel K T G σ H z) : Rel K T G (wipe σ vs) H (wipeD z.1 vs, z.2) := by
  refine ⟨R.dk, R.grow, ?_, fun i s hs => ?_, fun i j c ds es hn e1 e2 => ?_⟩
  · show (wipeD z.1 vs).length = _
    rw [wipeD_len, wipe_length, R.len]
  · rcases wipeD_at hs with rfl | ⟨n, hs⟩
    · trivial
    · rw [wipe_out' n]
      exact R.slot i s hs
  · rcases wipeD_at e1 with q | ⟨n1, e1⟩
    · cases q
    · rcases wipeD_at e2 with q | ⟨n2, e2⟩
      · cases q
      · rw [wipe_out' n1, wipe_out' n2]; exact R.sep i j c ds es hn e1 e2
theorem Rel.unw {K : PySem.W.Frag} {T : TB} {G : Gh} {σ : L2.St} {H1 H2 : Hp} {y z : Sx} {vs : List Nat} (R1 : Rel K T G σ H1 y) (p2 : Pers H1 H2) (R2 : Rel K T G (wipe σ vs) H2 z) : Rel K T G σ H2 (unw y.1 z.1 vs, z.2) := by
  have own2 : ∀ {i : Nat} {es : List PyData}, (DD.unw y.1 z.1 vs)[i]? = some (.own es) → i ∉ vs ∧ z.1[i]? = some (.own es) := fun {i es} h => by
    rcases unw_at h with e | e
    · exfalso
      cases q : y.1[i]? with
      | none => rw [q] at e; cases e
      | some s => rw [q] at e; cases s <;> cases e
    · exact e
  refine ⟨R2.dk, R2.grow, ?_, fun i s hs => ?_, fun i j c ds es hn e1 e2 => ?_⟩
  · show (DD.unw y.1 z.1 vs).length = _
    rw [unw_len, R2.len, wipe_length]
  · rcases unw_at hs with e | ⟨n, hs⟩
    · subst e
      cases q : y.1[i]? with
      | none => trivial
      | some s =>
        have w := R1.slot i s q
        cases s with
        | no => trivial
        | val d => obtain ⟨u, h1, h2⟩ := w; exact ⟨u, h1, Pr.mono p2 d h2⟩
        | deck => exact w
        | own es => trivial
    · have w := R2.slot i s hs
      rw [wipe_out' n] at w
      exact w
  · obtain ⟨n1, e1⟩ := own2 e1
    obtain ⟨n2, e2⟩ := own2 e2
    have w := R2.sep i j c ds es hn e1 e2
    rw [wipe_out' n1, wipe_out' n2] at w
    exact w
theorem Rel.tabbed {K : PySem.W.Frag} {T : TB} {G : Gh} {σ : L2.St} {H H' : Hp} {z : Sx} {P : Addr} (R : Rel K T G σ H z) (hP : P ∈ T.g) (hPl : ∀ y ∈ T.l, y.1 ≠ P) (t : Tabbed P H H') : Pers H H' ∧ Rel K T G σ H' z := by
  obtain ⟨ps, h1, h2⟩ := R.dk.t.1 P hP
  obtain ⟨⟨qs, g1, g2⟩, ho⟩ := t
  have ne : ∀ a o, H a = some o → (∀ rs, o ≠ .tbl rs) → H' a = some o := fun a o e n => by
    rw [ho a fun z => by rw [z, h1] at e; exact n _ (Option.some.inj e).symm]; exact e
  have p : Pers H H' := fun a o e i => ne a o e fun rs z => by rw [z] at i; cases i
  refine ⟨p, ⟨⟨ne _ _ R.dk.d (by intro _ z; cases z), ne _ _ R.dk.c (by intro _ z; cases z), ?_⟩, fun a o e n1 n2 => (R.grow a o e n1 n2).trans fun u hu => ?_, R.len, fun i s hs => ?_, R.sep⟩⟩
  · have keepT : ∀ Q ps, H Q = some (.tbl ps) → ∃ qs, H' Q = some (.tbl qs) ∧ (Q ≠ P → qs = ps) := fun Q ps e => by
      by_cases q : Q = P
      · exact ⟨qs, by rw [q]; exact g1, fun z => absurd q z⟩
      · exact ⟨ps, by rw [ho Q q]; exact e, fun _ => rfl⟩
    refine ⟨fun Q hQ => ?_, fun y hy => ?_⟩
    · by_cases q : Q = P
      · exact ⟨qs, by rw [q]; exact g1, g2⟩
      · obtain ⟨rs, a1, a2⟩ := R.dk.t.1 Q hQ
        exact ⟨rs, by rw [ho Q q]; exact a1, a2⟩
    · obtain ⟨rs, a1, a2, a3⟩ := R.dk.t.2 y hy
      refine ⟨rs, by rw [ho y.1 (hPl y hy)]; exact a1, a2, fun pos cv hc => ?_⟩
      obtain ⟨c, e1, e2⟩ := a3 pos cv hc
      exact ⟨c, e1, p _ _ e2 rfl⟩
  · by_cases q : a = P
    · rw [q] at hu ⊢
      rw [h1] at hu; cases hu
      exact .inr ⟨ps, qs, rfl, g1⟩
    · exact .inl (by rw [ho a q]; exact hu)
  · have w := R.slot i s hs
    cases s with
    | no => trivial
    | val d => obtain ⟨u, h1, h2⟩ := w; exact ⟨u, h1, Pr.mono p d h2⟩
    | deck => exact w
    | own es => obtain ⟨a, xs, w1, w2, w3, w4⟩ := w; exact ⟨a, xs, w1, ne _ _ w2 (by intro _ z; cases z), PrAll.mono p es w3, w4⟩

/-- all(e for g in ds): up to the first that is false -/
def allGo (g : PyData → M Unit) (te : M Hd) (vs : List Nat) : List PyData → M Bool
  | [] => ret true
  | d :: ds => bnd (g d) fun _ => bnd te fun h => fun x => match h with
    | .val (.bool true) => allGo g te vs ds (wipeD x.1 vs, x.2)
    | .val (.bool false) => some (false, (wipeD x.1 vs, x.2))
    | _ => none
def dAll (src : M (List PyData)) (vs : List Nat) (g : PyData → M Unit) (te : M Hd) : M Hd := bnd src fun ds => fun x => match allGo g te vs ds (wipeD x.1 vs, x.2) with
  | some (b, y) => some (.val (.bool b), (unw x.1 y.1 vs, y.2))
  | none => none
theorem rd_all {K : PySem.W.Frag} {T : TB} {P : Addr} {src : M (List PyData)} {vs js : List Nat} {g : PyData → M Unit} {te : M Hd} (hP : P ∈ T.g) (hPl : ∀ y ∈ T.l, y.1 ≠ P) (hj : ∀ j ∈ js, j ∈ vs) : ∀ σ H Q, rdE K T (dAll src vs g te) σ H Q → tAllG P (rdI K T src) (rdG K T js g) (rdE K T te) vs σ H Q := fun σ H Q q => by
  obtain ⟨G, x, out, x', R, ef, q⟩ := q
  obtain ⟨ds, y, e1, ef⟩ := bnd_some ef
  split at ef
  · rename_i b zz er
    cases ef
    refine ⟨G, x, ds, y, R, e1, fun J H1 p1 R1 wd => ⟨R1.dk.t.1 P hP, fun H2 tb => ?_⟩⟩
    obtain ⟨p2, R2⟩ := R1.tabbed hP hPl tb
    obtain ⟨gd, Y, wk, hgd, hY⟩ := wd
    refine ⟨⟨ds.length, fun i H3 => ∃ z, Pers H2 H3 ∧ Rel K T G (wipe σ vs) H3 z ∧ allGo g te vs (ds.drop i) z = some (b, zz), fun b' H3 => b' = b ∧ Pers H2 H3 ∧ Rel K T G (wipe σ vs) H3 zz, true⟩, rfl, ⟨_, Pers.refl _, R2.wiped, er⟩, ⟨fun H3 w => ?_, fun i H3 hi w => ?_⟩, fun b' H3 w => ?_⟩
    · obtain ⟨z, p3, R3, e3⟩ := w
      refine ⟨wk.stops H3 (hgd H3 (p2.trans p3)), ?_⟩
      have e3 : allGo g te vs (ds.drop ds.length) z = some (b, zz) := e3
      rw [List.drop_length] at e3
      cases e3
      exact ⟨rfl, p3, R3⟩
    · obtain ⟨z, p3, R3, e3⟩ := w
      refine ⟨wk.goes i H3 hi (hgd H3 (p2.trans p3)), fun v H4 yy => ?_⟩
      obtain ⟨x4, d, hd, pd⟩ := hY i H3 v H4 (p2.trans p3) hi (wk.yields i H3 v H4 hi (hgd H3 (p2.trans p3)) yy)
      rw [drop_at hd] at e3
      obtain ⟨⟨⟩, z1, e4, e3⟩ := bnd_some e3
      obtain ⟨h, z2, e5, e3⟩ := bnd_some e3
      refine ⟨G, z, d, z1, R3.ext x4, pd, e4, fun σ5 H5 bt p5 R5 => ⟨bt.wipe hj, G, z1, h, z2, R5, e5, fun v6 H6 p6 R6 r6 => ?_⟩⟩
      have hw : wipe σ5 vs = wipe σ vs := bt.wipe hj
      have R7 := R6.wiped (vs := vs)
      rw [hw] at R7
      have pp : Pers H2 H6 := ((p3.trans x4.pers).trans p5).trans p6
      split at e3
      · have r6 : Pr K H6 v6 (.bool true) := r6
        cases r6
        exact ⟨true, rfl, _, pp, R7, e3⟩
      · have r6 : Pr K H6 v6 (.bool false) := r6
        cases r6
        cases e3
        exact ⟨false, rfl, rfl, pp, R7⟩
      · cases e3
    · obtain ⟨rfl, p3, R3⟩ := w
      exact q _ _ (p1.trans (p2.trans p3)) (R1.unw (p2.trans p3) R3) (.bl _)
  · cases ef
/-- any(e for g in ds): up to the first that is true -/
def anyGo (g : PyData → M Unit) (te : M Hd) (vs : List Nat) : List PyData → M Bool
  | [] => ret false
  | d :: ds => bnd (g d) fun _ => bnd te fun h => fun x => match h with
    | .val (.bool false) => anyGo g te vs ds (wipeD x.1 vs, x.2)
    | .val (.bool true) => some (true, (wipeD x.1 vs, x.2))
    | _ => none
def dAny (src : M (List PyData)) (vs : List Nat) (g : PyData → M Unit) (te : M Hd) : M Hd := bnd src fun ds => fun x => match anyGo g te vs ds (wipeD x.1 vs, x.2) with
  | some (b, y) => some (.val (.bool b), (unw x.1 y.1 vs, y.2))
  | none => none
theorem rd_any {K : PySem.W.Frag} {T : TB} {P : Addr} {src : M (List PyData)} {vs js : List Nat} {g : PyData → M Unit} {te : M Hd} (hP : P ∈ T.g) (hPl : ∀ y ∈ T.l, y.1 ≠ P) (hj : ∀ j ∈ js, j ∈ vs) : ∀ σ H Q, rdE K T (dAny src vs g te) σ H Q → tAnyG P (rdI K T src) (rdG K T js g) (rdE K T te) vs σ H Q := fun σ H Q q => by
  obtain ⟨G, x, out, x', R, ef, q⟩ := q
  obtain ⟨ds, y, e1, ef⟩ := bnd_some ef
  split at ef
  · rename_i b zz er
    cases ef
    refine ⟨G, x, ds, y, R, e1, fun J H1 p1 R1 wd => ⟨R1.dk.t.1 P hP, fun H2 tb => ?_⟩⟩
    obtain ⟨p2, R2⟩ := R1.tabbed hP hPl tb
    obtain ⟨gd, Y, wk, hgd, hY⟩ := wd
    refine ⟨⟨ds.length, fun i H3 => ∃ z, Pers H2 H3 ∧ Rel K T G (wipe σ vs) H3 z ∧ anyGo g te vs (ds.drop i) z = some (b, zz), fun b' H3 => b' = b ∧ Pers H2 H3 ∧ Rel K T G (wipe σ vs) H3 zz, false⟩, rfl, ⟨_, Pers.refl _, R2.wiped, er⟩, ⟨fun H3 w => ?_, fun i H3 hi w => ?_⟩, fun b' H3 w => ?_⟩
    · obtain ⟨z, p3, R3, e3⟩ := w
      refine ⟨wk.stops H3 (hgd H3 (p2.trans p3)), ?_⟩
      have e3 : anyGo g te vs (ds.drop ds.length) z = some (b, zz) := e3
      rw [List.drop_length] at e3
      cases e3
      exact ⟨rfl, p3, R3⟩
    · obtain ⟨z, p3, R3, e3⟩ := w
      refine ⟨wk.goes i H3 hi (hgd H3 (p2.trans p3)), fun v H4 yy => ?_⟩
      obtain ⟨x4, d, hd, pd⟩ := hY i H3 v H4 (p2.trans p3) hi (wk.yields i H3 v H4 hi (hgd H3 (p2.trans p3)) yy)
      rw [drop_at hd] at e3
      obtain ⟨⟨⟩, z1, e4, e3⟩ := bnd_some e3
      obtain ⟨h, z2, e5, e3⟩ := bnd_some e3
      refine ⟨G, z, d, z1, R3.ext x4, pd, e4, fun σ5 H5 bt p5 R5 => ⟨bt.wipe hj, G, z1, h, z2, R5, e5, fun v6 H6 p6 R6 r6 => ?_⟩⟩
      have hw : wipe σ5 vs = wipe σ vs := bt.wipe hj
      have R7 := R6.wiped (vs := vs)
      rw [hw] at R7
      have pp : Pers H2 H6 := ((p3.trans x4.pers).trans p5).trans p6
      split at e3
      · have r6 : Pr K H6 v6 (.bool false) := r6
        cases r6
        exact ⟨false, rfl, _, pp, R7, e3⟩
      · have r6 : Pr K H6 v6 (.bool true) := r6
        cases r6
        cases e3
        exact ⟨true, rfl, rfl, pp, R7⟩
      · cases e3
    · obtain ⟨rfl, p3, R3⟩ := w
      exact q _ _ (p1.trans (p2.trans p3)) (R1.unw (p2.trans p3) R3) (.bl _)
  · cases ef
section
variable {X : Cx} {T : TB}
theorem de_all {c P : Addr} {elt tg iter : Expr} {p pos gpos : Pos} {scope : Scope} {own : List (Str × Nat)} {k : Nat} {src : M (List PyData)} {js : List Nat} {g : PyData → M Unit} {te : M Hd}
    (hr : RoomG (k + 1) X.A) (hg : Gl X "all") (hm : X.mg "all" = none) (hb : bootBuiltins "all" = some (.builtin "all")) (TB : TabB X.base X.mg c P) (hP : P ∈ T.g) (hPl : ∀ y ∈ T.l, y.1 ≠ P) (hcode : X.env.code = .ref c) (hN : X.N.Nodup) (ok : BlkOk X.N X.env.scope scope own)
    (hco : scope.isCoroutine = false) (hcell : ∀ y ∈ scope.names, y.2 ≠ .cell) (hdot : scope.names.lookup (".0" : Str) = some NameKind.local) (hi : DI T X tg iter src) (hj : ∀ j ∈ js, j ∈ own.map (·.2))
    (hgt : ∀ (s : Shared) (H : Hp) (C : Addr) (cl : List (Str × Addr)) (code : Value) (A : Around) (fp : List Addr) (pn : List (Addr × Obj)), RoomG k A → DG T (gCx X s H (genEnv scope cl C code builtinsNs X.env) A fp pn) tg js g)
    (het : ∀ (s : Shared) (H : Hp) (C : Addr) (cl : List (Str × Addr)) (code : Value) (A : Around) (fp : List Addr) (pn : List (Addr × Obj)), RoomG k A → DE T (gCx X s H (genEnv scope cl C code builtinsNs X.env) A fp pn) elt te)
    (hs : ∀ v, genFold iter X.env v = pure v)
    (he : starEach [.GeneratorExp elt [⟨tg, iter, [], 0⟩] scope gpos] X.env = (false, eval (.GeneratorExp elt [⟨tg, iter, [], 0⟩] scope gpos) X.env) :: starEach [] X.env := by rfl) :
    DE T X (.Call (.Name "all" p) [.GeneratorExp elt [⟨tg, iter, [], 0⟩] scope gpos] [] pos) (dAll src (own.map (·.2)) g te) :=
  PEw (pe_allG hr hg hm hb TB hcode hN ok hco hcell hdot hi hgt het hs he) (rd_all hP hPl hj)
theorem de_any {c P : Addr} {elt tg iter : Expr} {p pos gpos : Pos} {scope : Scope} {own : List (Str × Nat)} {k : Nat} {src : M (List PyData)} {js : List Nat} {g : PyData → M Unit} {te : M Hd}
    (hr : RoomG (k + 1) X.A) (hg : Gl X "any") (hm : X.mg "any" = none) (hb : bootBuiltins "any" = some (.builtin "any")) (TB : TabB X.base X.mg c P) (hP : P ∈ T.g) (hPl : ∀ y ∈ T.l, y.1 ≠ P) (hcode : X.env.code = .ref c) (hN : X.N.Nodup) (ok : BlkOk X.N X.env.scope scope own)
    (hco : scope.isCoroutine = false) (hcell : ∀ y ∈ scope.names, y.2 ≠ .cell) (hdot : scope.names.lookup (".0" : Str) = some NameKind.local) (hi : DI T X tg iter src) (hj : ∀ j ∈ js, j ∈ own.map (·.2))
    (hgt : ∀ (s : Shared) (H : Hp) (C : Addr) (cl : List (Str × Addr)) (code : Value) (A : Around) (fp : List Addr) (pn : List (Addr × Obj)), RoomG k A → DG T (gCx X s H (genEnv scope cl C code builtinsNs X.env) A fp pn) tg js g)
    (het : ∀ (s : Shared) (H : Hp) (C : Addr) (cl : List (Str × Addr)) (code : Value) (A : Around) (fp : List Addr) (pn : List (Addr × Obj)), RoomG k A → DE T (gCx X s H (genEnv scope cl C code builtinsNs X.env) A fp pn) elt te)
    (hs : ∀ v, genFold iter X.env v = pure v)
    (he : starEach [.GeneratorExp elt [⟨tg, iter, [], 0⟩] scope gpos] X.env = (false, eval (.GeneratorExp elt [⟨tg, iter, [], 0⟩] scope gpos) X.env) :: starEach [] X.env := by rfl) :
    DE T X (.Call (.Name "any" p) [.GeneratorExp elt [⟨tg, iter, [], 0⟩] scope gpos] [] pos) (dAny src (own.map (·.2)) g te) :=
  PEw (pe_anyG hr hg hm hb TB hcode hN ok hco hcell hdot hi hgt het hs he) (rd_any hP hPl hj)
end
end DD
namespace DD
open PySem PySem.Spec PyProof.Rows L2 GxR

/-! ## blocks, checked -/
def blkB (N : List Str) (sc scope : Scope) (own : List (Str × Nat)) : Bool :=
  scope.names.all (fun y => scope.names.lookup y.1 == some y.2) && own.all (fun p => N[p.2]? == some p.1) && scope.names.all (fun y => y.2 != .free || sc.names.lookup y.1 == some .cell || sc.names.lookup y.1 == some .free) &&
    scope.names.all (fun y => !(y.2 == .local || y.2 == .cell) || (own.map (·.1)).contains y.1 || !N.contains y.1)
theorem blk_ok {N : List Str} {sc scope : Scope} {own : List (Str × Nat)} (hk : scope.kind = .function) (h : blkB N sc scope own = true) : BlkOk N sc scope own := by
  unfold blkB at h
  simp only [Bool.and_eq_true, List.all_eq_true] at h
  obtain ⟨⟨⟨h1, h2⟩, h3⟩, h4⟩ := h
  refine ⟨hk, fun y hy => by simpa using h1 y hy, fun p hp => by simpa using h2 p hp, fun y hy e => ?_, fun y hy e => ?_⟩
  · have z := h3 y hy
    rw [e] at z
    simpa using z
  · have z := h4 y hy
    rw [Bool.or_eq_true, Bool.or_eq_true] at z
    rcases z with (z | z) | z
    · rcases e with e | e <;> rw [e] at z <;> cases z
    · exact .inl (by simpa using z)
    · exact .inr (by simpa using z)

/-! ## a def that stands in the module under its name -/
def Has (T : TB) (P : Program) (w : World) (K : PySem.W.Frag) (mg : Str → Option Value) (base : Heap) (k : Nat) (x : Str) (st : Stmt) (ps : List Str) (F : FD) : Prop :=
  ∃ f fd, Fun K x x st f fd ∧ mg x = some (.ref f) ∧ Binds K fd ps [] ∧ FnD T P w K mg base k f fd ps F
theorem Has.le {T : TB} {P : Program} {w : World} {K : PySem.W.Frag} {mg : Str → Option Value} {base : Heap} {k : Nat} {x : Str} {st : Stmt} {ps : List Str} {F F' : FD} (h : Has T P w K mg base k x st ps F) (le : ∀ hs d r, F' hs d = some r → F hs d = some r) : Has T P w K mg base k x st ps F' := by
  obtain ⟨f, fd, a, b, c, d⟩ := h
  exact ⟨f, fd, a, b, c, d.le le⟩
section
variable {X : Cx} {T : TB}
theorem de_callH {k : Nat} {ps : List Str} {st : Stmt} {F : FD} {x : Str} {p pos : Pos} {e : Expr} {es : List Expr} {f : M (List Hd)} (h : Has T X.prog X.w X.K X.mg X.base k x st ps F) (hr : RoomG k X.A) (hg : Gl X x)
    (ha : DA T X (e :: es) f) (hn : ∀ x hs y, f x = some (hs, y) → hs.length = ps.length) (hdb : (x == ("__debug__" : Str)) = false := by decide) (he : starEach (e :: es) X.env = (false, eval e X.env) :: starEach es X.env := by rfl) (hpl : (backTo pos (starEach es X.env)).any (·.1) = false := by rfl) :
    DE T X (.Call (.Name x p) (e :: es) [] pos) (dCall F f) := by
  obtain ⟨a, fd, A, B, C, D⟩ := h
  exact de_call D hr hg B A.kp C ha hn hdb he hpl

/-! ## calls with keywords -/
abbrev DK (T : TB) (X : Cx) (kws : List Keyword) (f : M (List Hd)) : Prop := PK X kws (rdA X.K T f)
theorem PKw {kws : List Keyword} {t t' : TA} (h : PK X kws t) (k : ∀ σ H Q, t' σ H Q → t σ H Q) : PK X kws t' := ⟨fun pos pins s σ H Q I q => h.run pos pins s σ H Q I (k σ H Q q)⟩
theorem dk_nil : DK T X [] aNil := by
  refine PKw pk_nil fun σ H Q q => ?_
  obtain ⟨G, x, h, x', R, e, q⟩ := q
  cases e
  exact q _ H (Pers.refl H) R .nil
theorem dk_cons {nm : Option Str} {e : Expr} {kws : List Keyword} {kpos : Pos} {f : M Hd} {g : M (List Hd)} (he : DE T X e f) (hr : DK T X kws g) : DK T X (⟨nm, e, kpos⟩ :: kws) (aCons f g) := by
  refine PKw (pk_cons he hr) fun σ H Q q => ?_
  obtain ⟨G, x, h, x', R, ef, q⟩ := q
  obtain ⟨h1, y, e1, ef⟩ := bnd_some ef
  obtain ⟨h2, z, e2, ef⟩ := bnd_some ef
  cases ef
  refine ⟨G, x, h1, y, R, e1, fun v H1 p1 R1 r1 => ⟨G, y, h2, x', R1, e2, fun vs H2 p2 R2 r2 => q _ H2 (p1.trans p2) R2 (.cons (r1.mono p2) r2)⟩⟩
/-- by their places -/
def pick {α : Type} (ix : List Nat) (l : List α) : List α := ix.filterMap fun i => l[i]?
theorem Vals.pick {vs : List V} {us : List Value} (r : Vals vs us) : ∀ ix : List Nat, Vals (DD.pick ix vs) (DD.pick ix us)
  | [] => .nil
  | i :: ix => by
    unfold DD.pick
    rw [List.filterMap_cons, List.filterMap_cons]
    cases e : vs[i]? with
    | none =>
      rw [r.none_of e]
      exact Vals.pick r ix
    | some v =>
      obtain ⟨u, e2, rv⟩ := r.get e
      rw [e2]
      exact .cons rv (Vals.pick r ix)
theorem RHs.get {K : PySem.W.Frag} {G : Gh} {σ : L2.St} {H : Hp} : ∀ {vs : List V} {hs : List Hd} {i : Nat}, RHs K G σ H vs hs → (hs[i]? = none ∧ vs[i]? = none) ∨ ∃ v h, vs[i]? = some v ∧ hs[i]? = some h ∧ RH K G σ H v h
  | _, _, _, .nil => .inl ⟨by simp, by simp⟩
  | _, _, 0, .cons r _ => .inr ⟨_, _, rfl, rfl, r⟩
  | _, _, i + 1, .cons _ t => by simpa using RHs.get (i := i) t
theorem RHs.pick {K : PySem.W.Frag} {G : Gh} {σ : L2.St} {H : Hp} {vs : List V} {hs : List Hd} (r : RHs K G σ H vs hs) : ∀ ix : List Nat, RHs K G σ H (DD.pick ix vs) (DD.pick ix hs)
  | [] => .nil
  | i :: ix => by
    unfold DD.pick
    rw [List.filterMap_cons, List.filterMap_cons]
    rcases r.get (i := i) with ⟨e1, e2⟩ | ⟨v, h, e1, e2, q⟩
    · rw [e1, e2]; exact RHs.pick r ix
    · rw [e1, e2]; exact .cons q (RHs.pick r ix)
theorem RHs.append {K : PySem.W.Frag} {G : Gh} {σ : L2.St} {H : Hp} : ∀ {vs us : List V} {hs gs : List Hd}, RHs K G σ H vs hs → RHs K G σ H us gs → RHs K G σ H (vs ++ us) (hs ++ gs)
  | _, _, _, _, .nil, h => h
  | _, _, _, _, .cons r t, h => .cons r (t.append h)
theorem RHs.mono {K : PySem.W.Frag} {G : Gh} {σ : L2.St} {H H' : Hp} (p : Pers H H') : ∀ {vs : List V} {hs : List Hd}, RHs K G σ H vs hs → RHs K G σ H' vs hs
  | _, _, .nil => .nil
  | _, _, .cons r t => .cons (r.mono p) (RHs.mono p t)
/-- f(e, .., k = v, ..): n values by their places, then those by names; ix tells where each parameter's value stands -/
def dCallK (F : FD) (ix : List Nat) (f g : M (List Hd)) : M Hd := dCall F (bnd f fun hs => bnd g fun gs => ret (pick ix (hs ++ gs)))
theorem rd_callK {n m : Nat} {ps : List Str} {F : FD} {ix : List Nat} {f g : M (List Hd)} (hf : ∀ x hs y, f x = some (hs, y) → hs.length = n) (hg : ∀ x hs y, g x = some (hs, y) → hs.length = m) (hp : ∀ hs : List Hd, hs.length = n + m → (pick ix hs).length = ps.length) :
    ∀ σ H Q, rdE X.K T (dCallK F ix f g) σ H Q → tCallN n m (spD X.K T ps.length F) (fun vs zs => pick ix (vs ++ zs)) E0 (rdA X.K T f) (rdA X.K T g) σ H Q := fun σ H Q q => by
  obtain ⟨G, x, h, x', R, ef, q⟩ := q
  obtain ⟨hs0, y0, e0, ef⟩ := bnd_some ef
  obtain ⟨hs, y, e1, e0⟩ := bnd_some e0
  obtain ⟨gs, y2, e2, e3⟩ := bnd_some e0
  cases e3
  split at ef
  · rename_i as ha
    split at ef
    · rename_i r k hF
      cases ef
      refine ⟨G, x, hs, y, R, e1, fun vs H1 p1 R1 r1 => ⟨G, y, gs, y0, R1, e2, fun zs H2 p2 R2 r2 => ?_⟩⟩
      have rr : RHs X.K G σ H2 (vs ++ zs) (hs ++ gs) := (r1.mono p2).append r2
      have rp := rr.pick ix
      refine ⟨by rw [r1.length]; exact hf _ _ _ e1, by rw [r2.length]; exact hg _ _ _ e2, G.dk, G.cl, as, y0.2, r, k, R2.dk, args_ok rp ha, ?_, hF, fun v H3 g3 d p => q v H3 ((p1.trans p2).trans (g3.pers R2.dk)) (R2.called g3 d) p⟩
      rw [← (args_ok rp ha).length, rp.length]
      exact hp _ (by rw [List.length_append, hf _ _ _ e1, hg _ _ _ e2])
    · cases ef
  · cases ef
/-- how such a call binds -/
def KwB (K : PySem.W.Frag) (fd : FuncData) (ps : List Str) (n : Nat) (ks : List Str) (ix : List Nat) : Prop := KBn K fd ps n ks (fun us ws => pick ix (us ++ ws)) (fun vs zs => pick ix (vs ++ zs))
theorem kwb {K : PySem.W.Frag} {x qual : Str} {st : Stmt} {f : Addr} {fd : FuncData} {ps : List Str} {n : Nat} {ks : List Str} {ix : List Nat} (F : Fun K x qual st f fd)
    (h : ∀ (kV doc pm : Value) (an : Option Addr) (cdv ct : Value) (us ws : List Value), us.length = n → ws.length = ks.length → bindArgs (PySem.W.fnOf x qual (defArgs st) (defBody st) (defScope st) .none kV doc pm an cdv ct) ⟨us, ks.zip ws⟩ = pure (ps.zip (pick ix (us ++ ws)))) : KwB K fd ps n ks ix := by
  obtain ⟨oc, od, kV, doc, pm, an, cdv, ct, osl, rfl, lk, hcd⟩ := F.ex
  exact ⟨fun s us ws _ l1 l2 => .of_eq (h kV doc pm an cdv ct us ws l1 l2), fun r1 r2 => Vals.pick (r1.append r2) ix⟩
theorem runGN {CX : CXT} {k n : Nat} {a : Addr} {fd : FuncData} {ps ks : List Str} {sp : Sp} {E : XK} {g : List Value → List Value → List Value} {gV : List V → List V → List V} {pins : List (Addr × Obj)} {σ : L2.St} {H : Hp} {s : Shared} {Q : VK} {us ws : List Value} {vs zs : List V}
    (F : FnG X.prog X.w X.K X.mg X.base CX k a fd ps sp) (hr : RoomG k X.A) (hb : KBn X.K fd ps n ks g gV) (hx : Passes CX X E) (I : Inv X pins σ H s) (r : Vals vs us) (rz : Vals zs ws) (l1 : vs.length = n) (l2 : zs.length = ks.length) (h : sp (gV vs zs) H Q E) :
    wpAny (model X.prog X.w) X.A (call (.ref a) us (ks.zip ws)) (EP X pins σ Q) X.xe s := by
  refine wpAny_call (codeAny_mono (runG F hr hx I (hb.to s us ws I.kIn (r.length.symm.trans l1) (rz.length.symm.trans l2)) (hb.rel r rz) h) fun r s' hq => ?_)
  match r, hq with
  | .ok (.ret u), hq => exact hq
  | .error e, hq => exact hq
theorem pe_callGN {CX : CXT} {k n : Nat} {a : Addr} {fd : FuncData} {ps ks : List Str} {sp : Sp} {E : XK} {x : Str} {p pos : Pos} {e : Expr} {es : List Expr} {kws : List Keyword} {t tk : TA} {g : List Value → List Value → List Value} {gV : List V → List V → List V}
    (F : FnG X.prog X.w X.K X.mg X.base CX k a fd ps sp) (hr : RoomG k X.A) (hg : Gl X x) (hm : X.mg x = some (.ref a)) (hk : PySem.W.keepIn X.K (.ref a) = true) (hb : KBn X.K fd ps n ks g gV) (hx : Passes CX X E)
    (ha : PA X (e :: es) t) (hkw : PK X kws tk) (hall : (backToKw pos (keywordEach kws X.env)).all (·.1.isSome) = true := by rfl) (hks : (backToKw pos (keywordEach kws X.env)).filterMap (·.1) = ks := by rfl)
    (hdb : (x == ("__debug__" : Str)) = false := by decide) (he : starEach (e :: es) X.env = (false, eval e X.env) :: starEach es X.env := by rfl)
    (hpl : ((backTo pos (starEach (e :: es) X.env)).any (·.1) || (backToKw pos (keywordEach kws X.env)).any (·.1.isNone)) = false := by rfl) :
    PE X (.Call (.Name x p) (e :: es) kws pos) (tCallN n ks.length sp gV E t tk) := by
  refine ⟨fun pins s σ H Q I h => wpAny_Call_Name_kw (ld_glob I hg hm ?_ hdb)⟩
  refine PySem.W.callWith_KW (h₀ := X.base) I.ok.mod.kin hk hall (thn (ha.run pos pins s σ H _ I h) fun us s1 z => ?_) hpl he
  obtain ⟨vs, H1, I1, r, q⟩ := z
  refine thn (hkw.run pos pins s1 σ H1 _ I1 q) fun ws s2 z => ?_
  obtain ⟨zs, H2, I2, rz, l1, l2, q2⟩ := z
  rw [hks]
  exact ⟨I2.kIn, runGN F hr hb hx I2 r rz l1 l2 q2⟩
/-- f(k = v, ..) -/
theorem pe_callGN0 {CX : CXT} {k : Nat} {a : Addr} {fd : FuncData} {ps ks : List Str} {sp : Sp} {E : XK} {x : Str} {p pos : Pos} {kws : List Keyword} {tk : TA} {g : List Value → List Value → List Value} {gV : List V → List V → List V}
    (F : FnG X.prog X.w X.K X.mg X.base CX k a fd ps sp) (hr : RoomG k X.A) (hg : Gl X x) (hm : X.mg x = some (.ref a)) (hk : PySem.W.keepIn X.K (.ref a) = true) (hb : KBn X.K fd ps 0 ks g gV) (hx : Passes CX X E)
    (hkw : PK X kws tk) (hall : (backToKw pos (keywordEach kws X.env)).all (·.1.isSome) = true := by rfl) (hks : (backToKw pos (keywordEach kws X.env)).filterMap (·.1) = ks := by rfl)
    (hdb : (x == ("__debug__" : Str)) = false := by decide) (hpl : ((backTo pos (starEach [] X.env)).any (·.1) || (backToKw pos (keywordEach kws X.env)).any (·.1.isNone)) = false := by rfl) :
    PE X (.Call (.Name x p) [] kws pos) (tCallN 0 ks.length sp gV E tNil tk) := by
  refine ⟨fun pins s σ H Q I h => wpAny_Call_Name_kw (ld_glob I hg hm ?_ hdb)⟩
  refine PySem.W.callWith_KW0 (h₀ := X.base) I.ok.mod.kin hk hall (thn (hkw.run pos pins s σ H _ I h) fun ws s2 z => ?_) hpl
  obtain ⟨zs, H2, I2, rz, l1, l2, q2⟩ := z
  rw [hks]
  exact ⟨I2.kIn, runGN (us := []) (vs := []) F hr hb hx I2 .nil rz rfl l2 q2⟩
theorem de_callK {k n : Nat} {ps : List Str} {st : Stmt} {F : FD} {x : Str} {p pos : Pos} {e : Expr} {es : List Expr} {kws : List Keyword} {ks : List Str} {ix : List Nat} {f g : M (List Hd)} (h : Has T X.prog X.w X.K X.mg X.base k x st ps F) (hr : RoomG k X.A) (hg : Gl X x)
    (hb : ∀ a fd, Fun X.K x x st a fd → KwB X.K fd ps n ks ix)
    (ha : DA T X (e :: es) f) (hkw : DK T X kws g) (hf : ∀ x hs y, f x = some (hs, y) → hs.length = n) (hgl : ∀ x hs y, g x = some (hs, y) → hs.length = ks.length) (hp : ∀ hs : List Hd, hs.length = n + ks.length → (pick ix hs).length = ps.length)
    (hall : (backToKw pos (keywordEach kws X.env)).all (·.1.isSome) = true := by rfl) (hks : (backToKw pos (keywordEach kws X.env)).filterMap (·.1) = ks := by rfl)
    (hdb : (x == ("__debug__" : Str)) = false := by decide) (he : starEach (e :: es) X.env = (false, eval e X.env) :: starEach es X.env := by rfl)
    (hpl : ((backTo pos (starEach (e :: es) X.env)).any (·.1) || (backToKw pos (keywordEach kws X.env)).any (·.1.isNone)) = false := by rfl) :
    DE T X (.Call (.Name x p) (e :: es) kws pos) (dCallK F ix f g) := by
  obtain ⟨a, fd, A, B, C, D⟩ := h
  exact PEw (pe_callGN D hr hg B A.kp (hb a fd A) pass0 ha hkw hall hks hdb he hpl) (rd_callK hf hgl hp)
theorem de_callK0 {k : Nat} {ps : List Str} {st : Stmt} {F : FD} {x : Str} {p pos : Pos} {kws : List Keyword} {ks : List Str} {ix : List Nat} {g : M (List Hd)} (h : Has T X.prog X.w X.K X.mg X.base k x st ps F) (hr : RoomG k X.A) (hg : Gl X x)
    (hb : ∀ a fd, Fun X.K x x st a fd → KwB X.K fd ps 0 ks ix)
    (hkw : DK T X kws g) (hgl : ∀ x hs y, g x = some (hs, y) → hs.length = ks.length) (hp : ∀ hs : List Hd, hs.length = 0 + ks.length → (pick ix hs).length = ps.length)
    (hall : (backToKw pos (keywordEach kws X.env)).all (·.1.isSome) = true := by rfl) (hks : (backToKw pos (keywordEach kws X.env)).filterMap (·.1) = ks := by rfl)
    (hdb : (x == ("__debug__" : Str)) = false := by decide) (hpl : ((backTo pos (starEach [] X.env)).any (·.1) || (backToKw pos (keywordEach kws X.env)).any (·.1.isNone)) = false := by rfl) :
    DE T X (.Call (.Name x p) [] kws pos) (dCallK F ix aNil g) := by
  obtain ⟨a, fd, A, B, C, D⟩ := h
  refine PEw (pe_callGN0 D hr hg B A.kp (hb a fd A) pass0 hkw hall hks hdb hpl) fun σ H Q q => ?_
  have z := rd_callK (X := X) (T := T) (ps := ps) (n := 0) (m := ks.length) len_nil hgl hp σ H Q q
  obtain ⟨G, x, hs, y, R, e1, z⟩ := z
  cases e1
  exact z [] H (Pers.refl H) R .nil
end
end DD
namespace DD
open PySem PySem.Spec PyProof.Rows L2 GxR
section
variable {X : Cx} {T : TB}
/-! ## n += e -/
def sAug (i : Nat) (g : Int → Int → Int) (f : M Hd) : M Fl := fun x => match x.1[i]? with
  | some (.val (.int a)) => match f x with
    | some (.val (.int b), y) => some (.nx, putS i (.val (.int (g a b))) y)
    | _ => none
  | _ => none
theorem ds_aug {i : Nat} {x : Str} {e : Expr} {op : Operator} {g : Int → Int → Int} {f : M Hd} {pos pos' : Pos} (hN : X.N.Nodup) (hi : X.N[i]? = some x) (hx : Loc X.env.scope x) (he : DE T X e f) (ho : PIp X op (ipI g))
    (hf : X.fn x = true ∨ X.env.scope.names.lookup x = some .local := by first | exact .inl rfl | exact .inr rfl | assumption) : DS T X (.AugAssign (.Name x pos') op e pos) (sAug i g f) := by
  refine PSw (ps_aug hN hi hx he ho hf) fun D σ H q => ?_
  obtain ⟨G, x, fl, x', R, ee, q⟩ := q
  unfold sAug at ee
  split at ee
  · rename_i a ha
    split at ee
    · rename_i b y hb
      cases ee
      obtain ⟨u, h1, h2⟩ := R.slot i _ ha
      cases h2
      refine ⟨_, h1, G, x, _, y, R, hb, fun v H1 p1 R1 r1 => ?_⟩
      have r1 : Pr X.K H1 v (.int b) := r1
      cases r1
      exact ⟨a, b, rfl, rfl, q _ H1 p1 (R1.put (.int _))⟩
    · cases ee
  · cases ee

/-! ## while, with so many turns at most -/
def whGo (c : M Bool) (b : M Fl) : Nat → M Fl
  | 0 => fail
  | n + 1 => bnd c fun t => if t = true then bnd b fun fl => match fl with
      | .nx => whGo c b n
      | .ct => whGo c b n
      | .bk => ret .nx
      | .rt r => ret (.rt r)
    else ret .nx
theorem bnd_eq {α β : Type} {m : M α} {k : α → M β} {x y : Sx} {a : α} (h : m x = some (a, y)) : bnd m k x = k a y := by
  unfold bnd
  rw [h]
theorem whGo_mono {c : M Bool} {b : M Fl} : ∀ {n : Nat} {x : Sx} {r : Fl × Sx}, whGo c b n x = some r → whGo c b (n + 1) x = some r
  | 0, _, _, h => by cases h
  | n + 1, x, (fl, z), h => by
    obtain ⟨t, y, e1, h⟩ := bnd_some h
    unfold whGo
    rw [bnd_eq e1]
    cases t with
    | false => exact h
    | true =>
      obtain ⟨f2, w, e2, h⟩ := bnd_some (show bnd b _ y = _ from h)
      show bnd b _ y = _
      rw [bnd_eq e2]
      cases f2 with
      | nx => exact whGo_mono (n := n) h
      | ct => exact whGo_mono (n := n) h
      | bk => exact h
      | rt r => exact h
theorem whGo_le {c : M Bool} {b : M Fl} {n m : Nat} {x : Sx} {r : Fl × Sx} (h : whGo c b n x = some r) (hm : n ≤ m) : whGo c b m x = some r := by
  induction hm with
  | refl => exact h
  | step _ ih => exact whGo_mono ih
theorem ds_while {test : Expr} {body : List Stmt} {c : M Bool} {b : M Fl} {pos : Pos} (n : Nat) (hp : PassesOwn (model X.prog X.w) X.A X.env X.xe) (hc : DT T X test c) (hb : DSs T X body b) : DS T X (.While test body [] pos) (whGo c b n) := by
  refine PSw (ps_while hp hc hb) fun D σ H q => ?_
  obtain ⟨G, x, fl, x', R, ee, q⟩ := q
  refine ⟨fun m σ1 H1 => ∃ z, Pers H H1 ∧ Rel X.K T G σ1 H1 z ∧ whGo c b m z = some (fl, x'), ⟨n, x, Pers.refl _, R, ee⟩, fun m σ1 H1 w => ?_⟩
  obtain ⟨z, p1, R1, e1⟩ := w
  cases m with
  | zero => cases e1
  | succ m =>
    obtain ⟨t, y, e2, e1⟩ := bnd_some e1
    refine ⟨G, z, t, y, R1, e2, fun H2 p2 R2 => ?_⟩
    cases t with
    | false =>
      cases e1
      exact q σ1 H2 (p1.trans p2) R2
    | true =>
      obtain ⟨f2, y2, e3, e1⟩ := bnd_some (show bnd b _ y = _ from e1)
      refine ⟨fun σ3 H3 => ∃ z, Pers H H3 ∧ Rel X.K T G σ3 H3 z ∧ whGo c b m z = some (fl, x'), fun σ3 H3 w => ⟨m, Nat.lt_succ_self m, w⟩, G, y, f2, y2, R2, e3, fun σ3 H3 p3 R3 => ?_⟩
      have pp := (p1.trans p2).trans p3
      cases f2 with
      | nx => exact ⟨y2, pp, R3, e1⟩
      | ct => exact ⟨y2, pp, R3, e1⟩
      | bk => cases e1; exact q σ3 H3 pp R3
      | rt r => cases e1; exact q σ3 H3 pp R3

/-! ## a < b < c -/
def dChain (op op' : PyData → PyData → Option PyData) (f g h : M Hd) : M Hd := bnd f fun a => bnd g fun b => fun x => match deref a x, esc b with
  | some d, some e => match op d e with
    | some (.bool true) => (bnd h fun c => fun y => match deref c y with
      | some c' => match op' e c' with
        | some r => some (.val r, y)
        | none => none
      | none => none) x
    | some (.bool false) => some (.val (.bool false), x)
    | _ => none
  | _, _ => none
theorem rd_chain {op op' : PyData → PyData → Option PyData} {f g h : M Hd} : ∀ σ H Q, rdE X.K T (dChain op op' f g h) σ H Q → tChain (rD X.K op) (rD X.K op') (rdE X.K T f) (rdE X.K T g) (rdE X.K T h) σ H Q := fun σ H Q q => by
  obtain ⟨G, x, hh, x', R, ef, q⟩ := q
  obtain ⟨h1, y, e1, ef⟩ := bnd_some ef
  obtain ⟨h2, z, e2, ef⟩ := bnd_some ef
  split at ef
  · rename_i d e hd he
    split at ef
    · rename_i hop
      obtain ⟨h3, z2, e3, ef⟩ := bnd_some ef
      split at ef
      · rename_i c' hc
        split at ef
        · rename_i r hr
          cases ef
          refine ⟨G, x, h1, y, R, e1, fun v H1 p1 R1 r1 => ⟨G, y, h2, z, R1, e2, fun u H2 p2 R2 r2 => ⟨d, e, _, RH.deref R2 (r1.mono p2) hd, .pr (r2.esc he), hop, fun w H3 p3 g3 k3 => ?_⟩⟩⟩
          cases k3
          refine ⟨true, rfl, ?_⟩
          simp only [if_true]
          refine ⟨G, z, h3, _, R2.grown g3, e3, fun v4 H4 p4 R4 r4 => ⟨e, c', r, .pr (Pr.mono (p3.trans p4) e (r2.esc he)), RH.deref R4 r4 hc, hr, fun w5 H5 p5 g5 k5 => q w5 H5 ((((p1.trans p2).trans p3).trans p4).trans p5) (R4.grown g5) k5⟩⟩
        · cases ef
      · cases ef
    · rename_i hop
      cases ef
      refine ⟨G, x, h1, y, R, e1, fun v H1 p1 R1 r1 => ⟨G, y, h2, _, R1, e2, fun u H2 p2 R2 r2 => ⟨d, e, _, RH.deref R2 (r1.mono p2) hd, .pr (r2.esc he), hop, fun w H3 p3 g3 k3 => ?_⟩⟩⟩
      cases k3
      refine ⟨false, rfl, ?_⟩
      simp only [Bool.false_eq_true, if_false]
      exact q _ H3 ((p1.trans p2).trans p3) (R2.grown g3) (.bl _)
    · cases ef
  · cases ef
theorem de_chain {a b c : Expr} {o o' : CmpOp} {op op' : PyData → PyData → Option PyData} {f g h : M Hd} {pos : Pos} (ho : OpD X (compareOp o) op) (ho' : OpD X (compareOp o') op') (ha : DE T X a f) (hb : DE T X b g) (hc : DE T X c h)
    (hm : lastMarks [o, o'] [b, c] = false := by with_unfolding_all rfl) : DE T X (.Compare a [o, o'] [b, c] pos) (dChain op op' f g h) := PEw (pe_chain ho ho' ha hb hc hm) rd_chain
theorem dt_chain {a b c : Expr} {o o' : CmpOp} {op op' : PyData → PyData → Option PyData} {f g h : M Hd} {pos : Pos} (ho : OpD X (compareOp o) op) (ho' : OpD X (compareOp o') op') (ha : DE T X a f) (hb : DE T X b g) (hc : DE T X c h)
    (hm : lastMarks [o, o'] [b, c] = false := by with_unfolding_all rfl) : DT T X (.Compare a [o, o'] [b, c] pos) (tB' (dChain op op' f g h)) := PTw (pt_chain ho ho' ha hb hc hm) (rd_tB rd_chain)

/-! ## isinstance(x, T) -/
def tyN : PyData → String
  | .none => "NoneType"
  | .bool _ => "bool"
  | .int _ => "int"
  | .str _ => "str"
  | .list _ => "list"
  | .tuple _ => "tuple"
  | .dict _ => "dict"
/-- isinstance(x, c), also of a dict whose keys are tuples -/
def rIsi2 (K : PySem.W.Frag) : List V → Hp → VK → Prop := fun xs H Q => rIsi K xs H Q ∨ ∃ (a : Addr) (c : V) (u : Value) (b : Bool) (xt : List (List Int × Addr × Bool)), xs = [.ref a, c] ∧ ClsV c u ∧ DtF K H a xt ∧ PySem.W.kitOne K (.type "dict") u = some b ∧ Q (.bl b) H
theorem call_isi2 {X : Cx} : CallR X (.builtin "isinstance") (rIsi2 X.K) := by
  intro pins s σ H xs us Q I r h
  rcases h with h | ⟨a, c, u, b, xt, rfl, k, ⟨o, w, es, ep, hq, hx, hd, _⟩, e, q⟩
  · exact call_isi pins s σ H xs us Q I r h
  · obtain ⟨u1, u2, rfl, r1, r2⟩ := vals2 r
    have e2 := k.eq r2
    subst e2
    cases (show u1 = Value.ref a from r1)
    obtain ⟨hg, _⟩ := I.hok _ _ hq
    exact PySem.W.kia_one PySem.W.kitx_dict I.kIn ⟨o, hg, hx.1⟩ e (fun z => nomatch z) fun tk => ⟨.bl b, H, I.tok tk, rfl, q⟩
theorem Bo.ty {K : PySem.W.Frag} {H : Hp} {v : V} {d : PyData} (b : Bo K H v d) : TyX K H v (.type (tyN d)) ∨ ∃ a xt, v = .ref a ∧ DtF K H a xt ∧ tyN d = "dict" := by
  cases d with
  | dict kvs =>
    rcases b.dict with ⟨a, kvs, rfl, ⟨o, r⟩, _⟩ | ⟨a, xt, rfl, q, _⟩
    · exact .inl (.fDict r)
    · exact .inr ⟨a, xt, rfl, q, rfl⟩
  | none => rw [b.non]; exact .inl (.base .non)
  | bool x => rw [b.bool]; exact .inl (.base (.bl x))
  | int x => rw [b.int]; exact .inl (.base (.int x))
  | str x => rw [b.str]; exact .inl (.base (.str x))
  | list ds =>
    obtain ⟨a, xs, rfl, r, _⟩ := b.list
    rcases r with r | ⟨o, r⟩
    · exact .inl (.base (.lst r))
    · exact .inl (.base (.frz r))
  | tuple ds =>
    obtain ⟨a, xs, rfl, r, _⟩ := b.tuple
    rcases r with (r | ⟨o, r⟩) | ⟨o, its, n, h1, h2, _⟩
    · exact .inl (.base (.tup r))
    · exact .inl (.fTuple r)
    · exact .inl (.kTuple h1 h2)
def dIsi (ty : String) (f : M Hd) : M Hd := bnd f fun h => fun x => match deref h x with
  | some d => match kitB (tyN d) ty with
    | some b => some (.val (.bool b), x)
    | none => none
  | none => none
theorem de_isi {e : Expr} {ty : String} {y : Str} {f : M Hd} {p p2 pos : Pos} (hg : Gl X "isinstance") (hm : X.mg "isinstance" = none) (hg2 : Gl X y) (hm2 : X.mg y = none) (hv2 : bootBuiltins y = some (.type ty)) (h : DE T X e f) (hn2 : y ≠ "__name__" := by decide) (hd2 : (y == ("__debug__" : Str)) = false := by decide)
    (he : starEach [e, .Name y p2] X.env = (false, eval e X.env) :: starEach [.Name y p2] X.env := by rfl) (he2 : starEach [.Name y p2] X.env = (false, eval (.Name y p2) X.env) :: starEach [] X.env := by rfl) (hpl : (backTo pos (starEach [.Name y p2] X.env)).any (·.1) = false := by rfl) :
    DE T X (.Call (.Name "isinstance" p) [e, .Name y p2] [] pos) (dIsi ty f) := by
  refine PEw (pe_callB call_isi2 hg hm PyProof.Rows.boot_isinstance (pa_cons h (pa_cons (pe_bltn (v := .ty ty) hg2 hm2 hv2 rfl hn2 hd2) pa_nil he2) he) (by decide) (by decide) he hpl) fun σ H Q q => ?_
  obtain ⟨G, x, hh, x', R, ef, q⟩ := q
  obtain ⟨h1, y, e1, ef⟩ := bnd_some ef
  split at ef
  · rename_i d hd
    split at ef
    · rename_i b hb
      cases ef
      refine ⟨G, x, h1, _, R, e1, fun v H1 p1 R1 r1 => ?_⟩
      rcases (RH.deref R1 r1 hd).ty with z | ⟨a, xt, rfl, z, zt⟩
      · exact .inl ⟨v, .ty ty, .type (tyN d), .type ty, b, rfl, .ty ty, z, kit_ty hb, q _ H1 p1 R1 (.bl _)⟩
      · rw [zt] at hb
        exact .inr ⟨a, .ty ty, .type ty, b, xt, rfl, .ty ty, z, kit_ty hb, q _ H1 p1 R1 (.bl _)⟩
    · cases ef
  · cases ef

/-! ## any(x) -/
def flatD : PyData → Bool
  | .none => true
  | .bool _ => true
  | .int _ => true
  | _ => false
def anyD : FB
  | [.list ds] => if ds.all flatD then some (.bool (ds.any PyData.truthy)) else none
  | [.tuple ds] => if ds.all flatD then some (.bool (ds.any PyData.truthy)) else none
  | _ => none
theorem flat_plain : ∀ {ds : List PyData}, ds.all flatD = true → PyData.plainAll ds = true ∧ ∀ x ∈ ds, x.fits63
  | [], _ => ⟨rfl, fun x h => by cases h⟩
  | d :: ds, h => by
    rw [List.all_cons, Bool.and_eq_true] at h
    obtain ⟨h1, h2⟩ := flat_plain h.2
    have hd : d.plain = true ∧ d.fits63 := by
      cases d with
      | none => exact ⟨rfl, trivial⟩
      | bool b => exact ⟨rfl, trivial⟩
      | int i => exact ⟨rfl, trivial⟩
      | _ => exact absurd h.1 (by intro z; cases z)
    refine ⟨by rw [PyData.plainAll, hd.1, h1]; rfl, fun x hx => ?_⟩
    rcases List.mem_cons.mp hx with rfl | hx
    · exact hd.2
    · exact h2 x hx
theorem ca_any (hc : X.calm = true) : CallD X (.builtin "any") anyD := by
  intro pins s σ H xs us Q I rx q
  obtain ⟨ds, c, t, e, q⟩ := q
  have hh := I.ok.hd hc
  unfold anyD at e
  split at e
  · rename_i es
    split at e
    · rename_i hf
      cases e
      obtain ⟨f1, f2⟩ := flat_plain hf
      cases t with
      | cons b t =>
        cases t
        obtain ⟨a, ys, rfl, s1, t1⟩ := b.list
        obtain ⟨u, rfl, r1⟩ := vals1 rx
        cases r1
        obtain ⟨z, its, n, r, ho⟩ := s1.ok I.hok
        obtain ⟨as, hr⟩ := (PrAll.rd I es t1 r).reads
        exact PySem.W.any_list_data hh ⟨_, ho, rfl, n, rfl⟩ (by simpa using hr) f1 f2 fun h' tk hk => ⟨.bl _, H, I.kept (t' := tk) hk, rfl, q.now (.bl _)⟩
    · cases e
  · rename_i es
    split at e
    · rename_i hf
      cases e
      obtain ⟨f1, f2⟩ := flat_plain hf
      cases t with
      | cons b t =>
        cases t
        obtain ⟨a, ys, rfl, s1, t1⟩ := b.tuple
        obtain ⟨u, rfl, r1⟩ := vals1 rx
        cases r1
        obtain ⟨its, r, p, _⟩ := I.tuple s1
        obtain ⟨as, hr⟩ := (PrAll.rd I es t1 r).reads
        exact PySem.W.any_tuple_data hh (show s.heap.IsTuple a its.toArray from p) (by simpa using hr) f1 f2 fun h' tk hk => ⟨.bl _, H, I.kept (t' := tk) hk, rfl, q.now (.bl _)⟩
    · cases e
  · cases e
end
end DD
set_option maxHeartbeats 1000000
namespace DD
open PySem PySem.Spec PyProof.Rows L2

/-! ## rows of ints by their marks -/
def lexL : List Int → List Int → Bool
  | [], [] => false
  | [], _ :: _ => true
  | _ :: _, [] => false
  | x :: xs, y :: ys => if x = y then lexL xs ys else decide (x < y)
theorem lexL_asym : ∀ {a b : List Int}, lexL a b = true → lexL b a = false
  | [], [], h => by cases h
  | [], _ :: _, _ => rfl
  | _ :: _, [], h => by cases h
  | x :: xs, y :: ys, h => by
    unfold lexL at h ⊢
    by_cases e : x = y
    · rw [if_pos e] at h
      rw [if_pos e.symm]
      exact lexL_asym h
    · rw [if_neg e] at h
      rw [if_neg (fun z => e z.symm)]
      have h := of_decide_eq_true h
      exact decide_eq_false (by omega)
theorem lexL_tr : ∀ {a b c : List Int}, lexL b a = false → lexL c b = false → lexL c a = false
  | [], _, [], _, _ => rfl
  | [], [], _ :: _, _, _ => rfl
  | [], _ :: _, _ :: _, _, _ => rfl
  | _ :: _, [], _, h, _ => by cases h
  | _ :: _, _ :: _, [], _, h => by cases h
  | x :: xs, y :: ys, z :: zs, h, k => by
    unfold lexL at h k ⊢
    by_cases e : z = x
    · rw [if_pos e]
      by_cases e2 : y = x
      · rw [if_pos e2] at h
        rw [if_pos (by omega)] at k
        exact lexL_tr h k
      · rw [if_neg e2] at h
        rw [if_neg (by omega)] at k
        have h := of_decide_eq_false h
        have k := of_decide_eq_false k
        omega
    · rw [if_neg e]
      by_cases e2 : y = x
      · rw [if_neg (by omega)] at k
        have k := of_decide_eq_false k
        exact decide_eq_false (by omega)
      · rw [if_neg e2] at h
        have h := of_decide_eq_false h
        by_cases e3 : z = y
        · exact decide_eq_false (by omega)
        · rw [if_neg e3] at k
          have k := of_decide_eq_false k
          exact decide_eq_false (by omega)
theorem lexL_eq : ∀ {a b : List Int}, lexL a b = false → lexL b a = false → a = b
  | [], [], _, _ => rfl
  | [], _ :: _, h, _ => by cases h
  | _ :: _, [], _, h => by cases h
  | x :: xs, y :: ys, h, k => by
    unfold lexL at h k
    by_cases e : x = y
    · rw [if_pos e] at h
      rw [if_pos e.symm] at k
      rw [e, lexL_eq h k]
    · rw [if_neg e] at h
      rw [if_neg (fun z => e z.symm)] at k
      have h := of_decide_eq_false h
      have k := of_decide_eq_false k
      omega
theorem swo_rows (k : Value → List Int) : SrtO.Swo fun v u => lexL (k v) (k u) := ⟨fun _ _ h => lexL_asym h, fun _ _ _ h g => lexL_tr h g⟩
/-- ascending -/
def sortL (rs : List (List Int)) : List (List Int) := rs.mergeSort fun a b => !lexL b a
theorem sortL_perm (rs : List (List Int)) : (sortL rs).Perm rs := List.mergeSort_perm ..
theorem sortL_asc (rs : List (List Int)) : (sortL rs).Pairwise fun a b => lexL b a = false := by
  have h := List.pairwise_mergeSort (le := fun a b : List Int => !lexL b a) (fun a b c h1 h2 => ?_) (fun a b => ?_) rs
  · exact h.imp fun z => by simpa using z
  · have h1 : lexL b a = false := by simpa using h1
    have h2 : lexL c b = false := by simpa using h2
    have : lexL c a = false := lexL_tr h1 h2
    simp [this]
  · cases e : lexL b a with
    | false => rfl
    | true => simp [lexL_asym e]
theorem sortL_uniq {rs out : List (List Int)} (p : out.Perm rs) (s : out.Pairwise fun a b => lexL b a = false) : out = sortL rs :=
  List.Perm.eq_of_pairwise (fun a b _ _ h1 h2 => lexL_eq h2 h1) s (sortL_asc rs) (p.trans (sortL_perm rs).symm)

section
variable {prog : Program} {w : World} {A : Around} {E : Value → Shared → Prop} {s : Shared}
theorem kat_rows {b fin : Bool} {Q : Bool → Shared → Prop} : ∀ {xs ys : List Int} {us ws : List Value} (i : Nat), IntsAre us xs → IntsAre ws ys → fin = decide (xs.length < ys.length) → Q (lexL xs ys) s → PySem.W.KatLex prog w A b fin Q (us.zip ws) i s
  | [], [], _, _, i, .nil, .nil, hf, h => by
    refine PySem.W.kat_nil ?_
    rw [hf]; exact h
  | [], y :: ys, _, _, i, .nil, .cons _ _ _, hf, h => by
    refine PySem.W.kat_nil ?_
    rw [hf, show decide (([] : List Int).length < (y :: ys).length) = true from decide_eq_true (by simp)]
    exact h
  | x :: xs, [], _, _, i, .cons _ _ _, .nil, hf, h => by
    refine PySem.W.kat_nil ?_
    rw [hf, show decide ((x :: xs).length < ([] : List Int).length) = false from decide_eq_false (by simp)]
    exact h
  | x :: xs, y :: ys, _, _, i, .cons _ t hx, .cons _ u hy, hf, h => by
    refine PySem.W.kat_cons (wpAny_eqBool_int ?_)
    unfold lexL at h
    by_cases e : x = y
    · subst e
      rw [if_pos rfl] at h
      rw [beq_self_eq_true]
      exact PySem.W.kat_yes (kat_rows (i + 1) hx hy (by rw [hf]; simp) h)
    · rw [if_neg e] at h
      rw [show (x == y) = false from beq_eq_false_iff_ne.mpr e]
      exact PySem.W.kat_no (TS.oneLt_ints _ h)
theorem rows_cmp {vs : List Value} {k : Value → List Int} (hp : ∀ v ∈ vs, TS.TupInts s.heap v (k v)) : SrtO.Cmp prog w A s (tuples' true) (fun p => p.1 ∈ vs) (SrtO.lt2 fun v u => lexL (k v) (k u)) := by
  intro p q hm hm'
  have h1 := hp _ hm
  have h2 := hp _ hm'
  show wpAny (model prog w) A (keyLt' (tuples' true) p.1 q.1) (fun r s' => s' = s ∧ r = lexL (k p.1) (k q.1)) (fun _ _ => False) s
  generalize k p.1 = xs at h1 ⊢
  generalize k q.1 = ys at h2 ⊢
  obtain ⟨a, us, e, ⟨o, ho, hc, n, hd⟩, i1⟩ := h1
  obtain ⟨a', ws, e', ⟨o', ho', hc', n', hd'⟩, i2⟩ := h2
  rw [e, e']
  refine PySem.W.kat_lt ho hd ho' hd' (kat_rows 0 i1 i2 ?_ ⟨rfl, rfl⟩)
  have l1 := i1.length
  have l2 := i2.length
  rw [Array.length_toList] at l1 l2
  rw [l1, l2]
theorem rows_firsts {h : Heap} {k : Value → List Int} : ∀ {vs : List Value}, (∀ v ∈ vs, TS.TupInts h v (k v) ∧ k v ≠ []) → ∃ fs : List Value, PySem.W.KatTups h vs fs ∧ fs.length = vs.length ∧ ∀ f ∈ fs, ∃ x t, f = Value.int x t
  | [], _ => ⟨[], PySem.W.KatTups.nil, rfl, fun _ hm => by simp at hm⟩
  | v :: vs, hp => by
    obtain ⟨fs, h1, h2, h3⟩ := rows_firsts (vs := vs) fun v' hm => hp v' (List.mem_cons_of_mem _ hm)
    obtain ⟨⟨a, us, e, ⟨o, ho, hc, n, hd⟩, i⟩, ne⟩ := hp v List.mem_cons_self
    generalize hr : k v = r at i ne
    subst e
    obtain ⟨us⟩ := us
    cases i with
    | nil => exact absurd rfl ne
    | @cons x t us r i =>
      refine ⟨.int x t :: fs, PySem.W.KatTups.cons ho hc hd rfl h1, by rw [List.length_cons, List.length_cons, h2], fun f hm => ?_⟩
      rcases List.mem_cons.mp hm with rfl | hm
      · exact ⟨x, t, rfl⟩
      · exact h3 f hm
theorem rows_sortableO {a : Addr} {vs : List Value} {k : Value → List Int} (h0 : 0 < vs.length) (hp : ∀ v ∈ vs, TS.TupInts s.heap v (k v) ∧ k v ≠ []) (ha : ∀ o, s.heap.get? a = some o → o.cls ≠ .type "tuple") : SrtO.SortableO prog w A s a vs fun v u => lexL (k v) (k u) := by
  intro h' keep
  have hp' : ∀ v ∈ vs, TS.TupInts h' v (k v) ∧ k v ≠ [] := fun v hm => ⟨(hp v hm).1.keeps fun b o e c => keep b o (fun z => by subst z; exact ha o e c) e, (hp v hm).2⟩
  obtain ⟨fs, h1, h2, h3⟩ := rows_firsts hp'
  refine ⟨tuples' true, fun Q E hq => ?_, rows_cmp fun v hm => (hp' v hm).1⟩
  refine PySem.W.kat_kind (T := .type "int") h1 (by omega) (fun f hm => ?_) (by rfl) ?_
  · obtain ⟨x, t, rfl⟩ := h3 f hm
    exact PySem.W.Looks.now
  · have e : (Value.type "int" != Value.type "tuple") = true := by first | decide +kernel | rfl | decide
    rw [e]
    exact hq
end

/-! ## sorted(rows), sorted(rows, reverse=True) -/
def rowD (ns : List Int) : PyData := .tuple (ns.map .int)
def intOf : PyData → Option Int
  | .int i => some i
  | _ => none
def rowOf : PyData → Option (List Int)
  | .tuple ds => ds.mapM intOf
  | _ => none
def rowsOf (ds : List PyData) : Option (List (List Int)) := ds.mapM rowOf
theorem mapM_intOf : ∀ {ds : List PyData} {ns : List Int}, ds.mapM intOf = some ns → ds = ns.map .int
  | [], ns, h => by
    rw [List.mapM_nil] at h
    cases h; rfl
  | d :: ds, ns, h => by
    rw [List.mapM_cons] at h
    obtain ⟨i, h1, h⟩ := Option.bind_eq_some_iff.mp h
    obtain ⟨r, h2, h⟩ := Option.bind_eq_some_iff.mp h
    cases h
    cases d with
    | int j => cases h1; rw [mapM_intOf h2]; rfl
    | _ => cases h1
theorem rowOf_some {d : PyData} {ns : List Int} (h : rowOf d = some ns) : d = rowD ns := by
  unfold rowOf at h
  split at h
  · rw [mapM_intOf h]; rfl
  · cases h
theorem rowsOf_some : ∀ {ds : List PyData} {rs : List (List Int)}, rowsOf ds = some rs → ds = rs.map rowD
  | [], rs, h => by
    unfold rowsOf at h
    rw [List.mapM_nil] at h
    cases h; rfl
  | d :: ds, rs, h => by
    unfold rowsOf at h
    rw [List.mapM_cons] at h
    obtain ⟨i, h1, h⟩ := Option.bind_eq_some_iff.mp h
    obtain ⟨r, h2, h⟩ := Option.bind_eq_some_iff.mp h
    cases h
    rw [rowOf_some h1, rowsOf_some (ds := ds) h2]; rfl
def sortD (b : Bool) (ds : List PyData) : Option (List PyData) := match rowsOf ds with
  | some rs => if rs.length < 2 || rs.all (fun r => !r.isEmpty) then some ((if b = true then (sortL rs).reverse else sortL rs).map rowD) else none
  | none => none
section
variable {X : Cx} {pins : List (Addr × Obj)} {σ : L2.St} {H : Hp} {s : Shared}
theorem tup_ints {v : V} {u : Value} {ns : List Int} (I : Inv X pins σ H s) (h : Pr X.K H v (rowD ns)) (r : RelV v u) : TS.TupInts s.heap u ns ∧ ∃ a, v = .ref a ∧ u = .ref a := by
  cases h with
  | @tup a xs ds q t =>
    cases r
    obtain ⟨its, rv, p, _⟩ := I.tuple q
    have e := PrAll.ints t
    subst e
    exact ⟨⟨a, its.toArray, rfl, p, rv.ints⟩, a, rfl, rfl⟩
theorem rows_back (I : Inv X pins σ H s) : ∀ {xs : List V} {its : List Value} {rs : List (List Int)}, PrAll X.K H xs (rs.map rowD) → Vals xs its →
    its.map (TS.intsOf s.heap) = rs ∧ ∀ u ∈ its, TS.TupInts s.heap u (TS.intsOf s.heap u) ∧ (∃ a, u = .ref a) ∧ Pr X.K H (backV u) (rowD (TS.intsOf s.heap u))
  | [], _, [], _, .nil => ⟨rfl, fun _ h => by cases h⟩
  | _ :: _, _, [], h, _ => by cases h
  | [], _, _ :: _, h, _ => by cases h
  | x :: xs, u :: us, r :: rs, h, .cons rv t => by
    cases h with
    | cons h k =>
      obtain ⟨e, m⟩ := rows_back I k t
      obtain ⟨ti, a, e1, e2⟩ := tup_ints I h rv
      subst e1 e2
      refine ⟨by rw [List.map_cons, ti.ints, e], fun v hv => ?_⟩
      rcases List.mem_cons.mp hv with rfl | hv
      · rw [ti.ints]; exact ⟨ti, ⟨a, rfl⟩, h⟩
      · exact m v hv
theorem prall_back {f : Value → PyData} : ∀ {out : List Value}, (∀ u ∈ out, Pr X.K H (backV u) (f u)) → PrAll X.K H (out.map backV) (out.map f)
  | [], _ => .nil
  | u :: us, h => .cons (h u List.mem_cons_self) (prall_back fun v hv => h v (List.mem_cons_of_mem _ hv))
theorem sort_rows {a : Addr} {xs : List V} {rs : List (List Int)} {b : Bool} {kw : List (Str × Value)} {Q : VK} (I : Inv X pins σ H s) (hl : Rd H a (.lst xs)) (t : PrAll X.K H xs (rs.map rowD)) (hr : rs.length < 2 ∨ ∀ r ∈ rs, r ≠ [])
    (hk : ∀ a, Builtin.«list.sort» ⟨[.ref a], kw⟩ = Builtin.«list.sort» ⟨[.ref a], [(Str.ofString "reverse", .bool b)]⟩) (ha1 : argsOk "sorted" ⟨[.ref a], kw⟩) (ha2 : ∀ a, argsOk "list.sort" ⟨[a], kw⟩)
    (q : ∀ p ys, H p = none → PrAll X.K H ys ((if b = true then (sortL rs).reverse else sortL rs).map rowD) → Q (.ref p) (upd H p (.lst ys))) :
    wpAny (model X.prog X.w) X.A (call (.builtin "sorted") [.ref a] kw) (EP X pins σ Q) X.xe s := by
  obtain ⟨hz, its, n, rv, ho⟩ := hl.ok I.hok
  obtain ⟨er, hi⟩ := rows_back I t rv
  have hlen : its.length = rs.length := by rw [← er, List.length_map]
  have hmem : 2 ≤ its.length → ∀ u ∈ its, TS.intsOf s.heap u ≠ [] := fun h2 u hu => by
    rcases hr with hr | hr
    · omega
    · exact hr _ (by rw [← er]; exact List.mem_map.mpr ⟨u, hu, rfl⟩)
  refine SrtR.sorted_ordK hk ha1 ha2 (swo_rows (TS.intsOf s.heap)) ⟨_, ho, rfl, n, rfl⟩ (by rw [← rv.length]; exact hz) (fun h2 h₁ a' ha' kk => ?_) fun out h1 h2 => ?_
  · refine rows_sortableO (s := { s with heap := h₁ }) (by omega) (fun v hm => ⟨(hi v hm).1.keeps fun b o e _ => (kk b o e).2, hmem h2 v hm⟩) fun o e => ?_
    have e' : some o = some (seqObj "list" its.toArray 0) := e.symm.trans ha'
    cases e'
    intro c
    exact absurd (Value.type.inj c) (by decide)
  · have hp : out.Perm its := by
      refine h2.perm.trans ?_
      cases b with
      | true => exact List.reverse_perm _
      | false => exact List.Perm.refl _
    have eo : out.map (TS.intsOf s.heap) = sortL rs := by
      refine sortL_uniq ?_ ?_
      · rw [← er]; exact hp.map _
      · exact List.pairwise_map.mpr h1
    have ho : ∀ u ∈ out, Pr X.K H (backV u) (rowD (TS.intsOf s.heap u)) := fun u hu => (hi u (hp.mem_iff.mp hu)).2.2
    have hrf : ∀ u ∈ out, ∃ a, u = Value.ref a := fun u hu => (hi u (hp.mem_iff.mp hu)).2.1
    obtain ⟨ep, he'⟩ := PyProof.Rows.sortedAll_at s.heap its (if b = true then out.toArray.reverse else out.toArray)
    have e0 : ((if b = true then out.reverse else out)).toArray = (if b = true then out.toArray.reverse else out.toArray) := by
      cases b with
      | true =>
        apply Array.ext'
        show out.reverse = (out.toArray.reverse).toList
        rw [Array.toList_reverse]
      | false => rfl
    have hm : ∀ u ∈ (if b = true then out.reverse else out), u ∈ out := fun u hu => by
      cases b with
      | true => exact List.mem_reverse.mp hu
      | false => exact hu
    have pf := prall_back (f := fun u => rowD (TS.intsOf s.heap u)) fun u hu => ho u (hm u hu)
    have ed : (if b = true then out.reverse else out).map (fun u => rowD (TS.intsOf s.heap u)) = (if b = true then (sortL rs).reverse else sortL rs).map rowD := by
      rw [← eo]
      cases b with
      | true =>
        show out.reverse.map _ = (out.map _).reverse.map rowD
        rw [List.map_reverse, List.map_reverse, List.map_map]
        rfl
      | false =>
        show out.map _ = (out.map _).map rowD
        rw [List.map_map]
        rfl
    rw [ed] at pf
    have hln : ((if b = true then out.reverse else out).map backV).length ≤ sizeLine := by
      rw [List.length_map]
      have : (if b = true then out.reverse else out).length = its.length := by
        cases b with
        | true => show out.reverse.length = _; rw [List.length_reverse]; exact hp.length_eq
        | false => exact hp.length_eq
      rw [this, ← rv.length]
      exact hz
    exact ⟨.ref _, upd H (s.heap.objs.size + 1) (.lst _), I.laid (t' := s.toks) (fun _ _ => PyProof.Rows.sortedAll_old) (Nat.le_succ _) ⟨hln, _, ep, vals_back fun u hu => hrf u (hm u hu), by rw [e0]; exact he'⟩, rfl, q _ _ (I.hok.fresh (Nat.le_succ _)) pf⟩
end
end DD
namespace DD
open PySem PySem.Spec PyProof.Rows L2 GxR

/-! ## a def whose code object is known (it has generator expressions) -/
def FunC (K : PySem.W.Frag) (x qual : Str) (st : Stmt) (c : Addr) (f : Addr) (fd : FuncData) : Prop :=
  ∃ (oc : Value) (od : Option Addr) (kV doc pm : Value) (an : Option Addr) (ct : Value) (osl : Array (Option Value)),
    fd = PySem.W.fnOf x qual (defArgs st) (defBody st) (defScope st) .none kV doc pm an (.ref c) ct ∧ K.lookup f = some ⟨oc, od, .func fd, osl⟩ ∧ PySem.W.codeIn K (.ref c) qual = true ∧ PySem.W.keepIn K (.ref f) = true
theorem FunC.fun {K : PySem.W.Frag} {x qual : Str} {st : Stmt} {c f : Addr} {fd : FuncData} (h : FunC K x qual st c f fd) : Fun K x qual st f fd := by
  obtain ⟨oc, od, kV, doc, pm, an, ct, osl, e, lk, hcd, kp⟩ := h
  exact ⟨⟨oc, od, kV, doc, pm, an, _, ct, osl, e, lk, hcd⟩, kp⟩
theorem fn_dC {T : TB} {P : Program} {w : World} {K : PySem.W.Frag} {mg : Str → Option Value} {base : Heap} {x qual : Str} {st : Stmt} {c f : Addr} {fd : FuncData} {N ps : List Str} {k : Nat} {b : M Fl} (F : FunC K x qual st c f fd) (S : FnScope N ps (defScope st))
    (hbody : ∀ (A : Around) (outer : List Env) (s : Shared) (H : Hp) (E : XK), RoomG k (A.deeper (envOfC qual (defScope st) s.heap.objs.size f (.ref c))) → DSs T (cxOf CX0 P w K mg base N qual (defScope st) f (.ref c) A outer s H E).nox (defBody st) b) :
    FnD T P w K mg base (k + 1) f fd ps (runD N.length b) := by
  have hpl : ps.length ≤ N.length := by
    have z := congrArg List.length S.pre
    rw [List.length_take] at z
    omega
  obtain ⟨oc, od, kV, doc, pm, an, ct, osl, rfl, lk, hcd, _⟩ := F
  refine fnG_of lk hcd S (fun vs H Q E h => ?_) fun A outer s H vs Q E hr h => ?_
  · obtain ⟨dk, cl, hs, k, r, k', R, a, hl, _⟩ := h
    rw [a.length, hl]
  · obtain ⟨dk, cl, hs, k, r, k', R, a, hl, e, q⟩ := h
    refine ⟨_, (hbody A outer s H E hr).nox, ?_⟩
    have R0 := rel_start (K := K) (N := N) R a (by omega)
    unfold runD at e
    split at e
    · rename_i d y eb
      cases e
      exact ⟨⟨dk, cl, H⟩, _, _, _, R0, eb, fun σ' H' p R' v hv => q v H' (fun b o h h1 h2 => R'.grow b o h h1 h2) R'.dk hv⟩
    · rename_i y eb
      cases e
      exact ⟨⟨dk, cl, H⟩, _, _, _, R0, eb, fun σ' H' p R' => q .non H' (fun b o h h1 h2 => R'.grow b o h h1 h2) R'.dk .non⟩
    · cases e

/-! ## repr -/
def fitS (d : PyData) : Bool := d.showable && decide (d.depth ≤ 40) && decide (d.shown.length ≤ 16777216)
def reprD : FB
  | [.none] => some (.str "None")
  | [.bool b] => some (.str (if b then "True" else "False"))
  | [.int i] => if i.natAbs.log2 < 1920 then some (.str (toString i)) else none
  | [.str x] => if (reprText x).length ≤ 16777216 then some (.str (reprText x)) else none
  | [.list ds] => if fitS (.list ds) then some (.str (PyData.list ds).shown) else none
  | [.tuple ds] => if fitS (.tuple ds) then some (.str (PyData.tuple ds).shown) else none
  | [.dict ds] => if fitS (.dict ds) then some (.str (PyData.dict ds).shown) else none
  | _ => none
section
variable {X : Cx} {T : TB}
theorem ca_repr (hg : X.A.guards = some []) (hu : X.A.units + 64 < cLine) : CallD X (.builtin "repr") reprD := by
  intro pins s σ H xs us Q I rx q
  obtain ⟨ds, c, t, e, q⟩ := q
  have two : ∀ (d : PyData) (v : V) (u : Value), (∃ a, v = V.ref a) → Bo X.K H v d → RelV v u → fitS d = true → c = .str d.shown → wpAny (model X.prog X.w) X.A (call (.builtin "repr") [u]) (EP X pins σ Q) X.xe s := fun d v u hv b r hf hc => by
    unfold fitS at hf
    rw [Bool.and_eq_true, Bool.and_eq_true] at hf
    obtain ⟨⟨f1, f3⟩, f4⟩ := hf
    have f3 := of_decide_eq_true f3
    have f4 := of_decide_eq_true f4
    obtain ⟨a, rfl⟩ := hv
    cases r
    have hr := b.rd I (show RelV (V.ref a) (Value.ref a) from rfl)
    subst hc
    refine repr_rdD hr f1 hg (by omega) (fun h' u tk hk => ⟨.str _, H, I.kept (t' := tk) hk, ⟨_, rfl⟩, q.now (.str _)⟩) (by rw [sizeLine_eq]; exact f4)
  unfold reprD at e
  split at e
  · cases e
    cases t with
    | cons b t =>
      cases t
      obtain ⟨u, rfl, r⟩ := vals1 rx
      rw [b.non] at r
      cases r
      exact PySem.P.repr_of_none ⟨.str _, H, I.tok _, ⟨_, rfl⟩, q.now (.str _)⟩
  · cases e
    cases t with
    | cons b t =>
      cases t
      obtain ⟨u, rfl, r⟩ := vals1 rx
      rw [b.bool] at r
      cases r
      exact PySem.P.repr_of_bool ⟨.str _, H, I.tok _, ⟨_, rfl⟩, q.now (.str _)⟩
  · split at e
    · cases e
      cases t with
      | cons b t =>
        cases t
        obtain ⟨u, rfl, r⟩ := vals1 rx
        rw [b.int] at r
        obtain ⟨tk, rfl⟩ := r
        exact PySem.P.repr_of_int ‹_› ⟨.str _, H, I.tok _, ⟨_, rfl⟩, q.now (.str _)⟩
    · cases e
  · split at e
    · rename_i x hz
      cases e
      cases t with
      | cons b t =>
        cases t
        obtain ⟨u, rfl, r⟩ := vals1 rx
        rw [b.str] at r
        obtain ⟨tk, rfl⟩ := r
        exact PySem.P.repr_of_str ⟨.str _, H, I.tok _, ⟨_, rfl⟩, q.now (.str _)⟩ (by rw [sizeLine_eq]; exact hz)
    · cases e
  · split at e
    · cases e
      cases t with
      | cons b t =>
        cases t
        obtain ⟨u, rfl, r⟩ := vals1 rx
        exact two _ _ u (let ⟨a, _, e, _⟩ := b.list; ⟨a, e⟩) b r ‹_› rfl
    · cases e
  · split at e
    · cases e
      cases t with
      | cons b t =>
        cases t
        obtain ⟨u, rfl, r⟩ := vals1 rx
        exact two _ _ u (let ⟨a, _, e, _⟩ := b.tuple; ⟨a, e⟩) b r ‹_› rfl
    · cases e
  · split at e
    · cases e
      cases t with
      | cons b t =>
        cases t
        obtain ⟨u, rfl, r⟩ := vals1 rx
        exact two _ _ u (b.dict.elim (fun ⟨a, _, e, _⟩ => ⟨a, e⟩) fun ⟨a, _, e, _⟩ => ⟨a, e⟩) b r ‹_› rfl
    · cases e
  · cases e

/-! ## sorted, as calls -/
def sortedD : FB
  | [.list ds] => (sortD false ds).map .list
  | _ => none
theorem sortD_some {b : Bool} {ds es : List PyData} (h : sortD b ds = some es) : ∃ rs, ds = rs.map rowD ∧ (rs.length < 2 ∨ ∀ r ∈ rs, r ≠ []) ∧ es = (if b = true then (sortL rs).reverse else sortL rs).map rowD := by
  unfold sortD at h
  split at h
  · rename_i rs hr
    split at h
    · rename_i hc
      cases h
      refine ⟨rs, rowsOf_some hr, ?_, rfl⟩
      rw [Bool.or_eq_true] at hc
      rcases hc with hc | hc
      · exact .inl (of_decide_eq_true hc)
      · refine .inr fun r hm z => ?_
        have w := List.all_eq_true.mp hc r hm
        rw [z] at w; cases w
    · cases h
  · cases h
def rSorted (K : PySem.W.Frag) (b : Bool) : List V → Hp → VK → Prop := fun xs H Q => ∃ a ys ds es, xs = [V.ref a] ∧ Rd H a (.lst ys) ∧ PrAll K H ys ds ∧ sortD b ds = some es ∧ ∀ p zs, H p = none → PrAll K H zs es → Q (.ref p) (upd H p (.lst zs))
theorem call_sortedD0 : CallR X (.builtin "sorted") (rSorted X.K false) := by
  intro pins s σ H xs us Q I rx q
  obtain ⟨a, ys, ds, es, rfl, hl, t, e, q⟩ := q
  obtain ⟨u, rfl, r⟩ := vals1 rx
  cases r
  obtain ⟨rs, rfl, hr, rfl⟩ := sortD_some e
  exact sort_rows (kw := []) (b := false) I hl t hr (fun a => by rw [PyProof.Rows.list_sort_rev]; kernel_rfl) (PyProof.Rows.args_sorted1 _) (fun _ => PyProof.Rows.args_list_sort _) fun p ys n k => q p ys n k
theorem ca_sorted : CallD X (.builtin "sorted") sortedD := by
  refine CallR.wk' (CallR.frz' call_sortedD0) fun vs H Q q => ?_
  obtain ⟨ds, c, t, e, q⟩ := q
  unfold sortedD at e
  split at e
  · obtain ⟨es, e1, e2⟩ := Option.map_eq_some_iff.mp e
    subst e2
    cases t with
    | cons b t =>
      cases t
      obtain ⟨a, us, rfl, s1, t1⟩ := b.list
      exact ⟨a, us, _, es, rfl, s1, t1, e1, fun p zs n k => q.lst k n⟩
  · cases e
end
end DD
namespace DD
open PySem PySem.Spec PyProof.Rows L2 GxR
section
variable {X : Cx} {T : TB}
/-! ## more expressions that make a new list -/
/-- the wish of a new list, at a new address -/
theorem Rel.fresh {K : PySem.W.Frag} {G : Gh} {σ : L2.St} {H : Hp} {x : Sx} {p : Addr} {xs : List V} (R : Rel K T G σ H x) (n : H p = none) :
    Rel K T G σ (upd H p (.lst xs)) x ∧ p ≠ G.cl ∧ G.H0 p = none ∧ ∀ (i : Nat) (es : List PyData), x.1[i]? = some (.own es) → σ[i]? ≠ some (some (.ref p)) := by
  have hc : p ≠ G.cl := fun z => by rw [z, R.dk.c] at n; cases n
  have hd : p ≠ G.dk := fun z => by rw [z, R.dk.d] at n; cases n
  refine ⟨R.ext (Ext.new n), hc, ?_, fun i es hi z => ?_⟩
  · cases e : G.H0 p with
    | none => rfl
    | some u => exact absurd n (R.grow p u e hd hc).some
  · obtain ⟨b, ys, h1, h2, _⟩ := R.slot i _ hi
    rw [h1] at z
    cases z
    rw [h2] at n; cases n
/-- [..] * n -/
def dRep (f g : M Hd) : M (List PyData) := bnd f fun a => bnd g fun b => fun x => match deref a x, deref b x with
  | some (.list ds), some (.int k) => if decide (-1000 ≤ k ∧ k ≤ 1000 ∧ ds.length ≤ 1000) then some (repL k ds, x) else none
  | _, _ => none
theorem df_rep {a b : Expr} {f g : M Hd} {pos : Pos} (ha : DE T X a f) (hb : DE T X b g) : DF T X (.BinOp a .Mult b pos) (dRep f g) := by
  refine PEw (pe_op op_repL ha hb) fun σ H Q q => ?_
  obtain ⟨G, x, ds, x', R, ef, q⟩ := q
  obtain ⟨h1, y, e1, ef⟩ := bnd_some ef
  obtain ⟨h2, z, e2, ef⟩ := bnd_some ef
  split at ef
  · rename_i es k hd he
    split at ef
    · rename_i hk
      have hk := of_decide_eq_true hk
      cases ef
      refine ⟨G, x, h1, y, R, e1, fun v H1 p1 R1 r1 => ⟨G, y, h2, _, R1, e2, fun u H2 p2 R2 r2 => ?_⟩⟩
      obtain ⟨a, us, rfl, s1, t1⟩ := (RH.deref R2 (r1.mono p2) hd).list
      rw [(RH.deref R2 r2 he).int]
      refine ⟨a, k, us, rfl, rfl, s1, by omega, by omega, ?_, fun p n => ?_⟩
      · rw [t1.length, sizeLine_eq]
        have : es.length * k.toNat ≤ 1000 * 1000 := Nat.mul_le_mul hk.2.2 (by omega)
        omega
      · obtain ⟨R3, f1, f2, f3⟩ := R2.fresh (xs := (List.replicate k.toNat us).flatten) n
        exact q p _ _ ((p1.trans p2).trans (Ext.new n).pers) R3 upd_same (PrAll.mono (Ext.new n).pers _ (t1.rep _)) f1 f2 f3
    · cases ef
  · cases ef
/-- a + b -/
def dCat (f g : M Hd) : M (List PyData) := bnd f fun a => bnd g fun b => fun x => match deref a x, deref b x with
  | some (.list ds), some (.list es) => if ds.length + es.length ≤ 16777216 then some (ds ++ es, x) else none
  | _, _ => none
theorem df_cat {a b : Expr} {f g : M Hd} {pos : Pos} (ha : DE T X a f) (hb : DE T X b g) : DF T X (.BinOp a .Add b pos) (dCat f g) := by
  refine PEw (pe_op op_catL ha hb) fun σ H Q q => ?_
  obtain ⟨G, x, ds, x', R, ef, q⟩ := q
  obtain ⟨h1, y, e1, ef⟩ := bnd_some ef
  obtain ⟨h2, z, e2, ef⟩ := bnd_some ef
  split at ef
  · rename_i es gs hd he
    split at ef
    · rename_i hk
      cases ef
      refine ⟨G, x, h1, y, R, e1, fun v H1 p1 R1 r1 => ⟨G, y, h2, _, R1, e2, fun u H2 p2 R2 r2 => ?_⟩⟩
      obtain ⟨a, us, rfl, s1, t1⟩ := (RH.deref R2 (r1.mono p2) hd).list
      obtain ⟨b, ws, rfl, s2, t2⟩ := (RH.deref R2 r2 he).list
      refine ⟨a, b, us, ws, rfl, rfl, s1, s2, by rw [t1.length, t2.length, sizeLine_eq]; exact hk, fun p n => ?_⟩
      obtain ⟨R3, f1, f2, f3⟩ := R2.fresh (xs := us ++ ws) n
      exact q p _ _ ((p1.trans p2).trans (Ext.new n).pers) R3 upd_same (PrAll.mono (Ext.new n).pers _ (t1.append t2)) f1 f2 f3
    · cases ef
  · cases ef
/-- list(e) -/
def dList (f : M (List Hd)) : M (List PyData) := bnd f fun hs => fun x => match derefs hs x with
  | some [.list ds] => some (ds, x)
  | some [.tuple ds] => some (ds, x)
  | _ => none
theorem df_list {x : Str} {p pos : Pos} {e : Expr} {f : M (List Hd)} (hg : Gl X x) (hm : X.mg x = none) (hv : bootBuiltins x = some (.type "list")) (ha : DA T X [e] f) (hn : x ≠ "__name__" := by decide) (hdb : (x == ("__debug__" : Str)) = false := by decide)
    (he : starEach [e] X.env = (false, eval e X.env) :: starEach [] X.env := by rfl) (hpl : (backTo pos (starEach [] X.env)).any (·.1) = false := by rfl) : DF T X (.Call (.Name x p) [e] [] pos) (dList f) := by
  refine PEw (pe_callTy call_list_of hg hm hv ha hn hdb he hpl) fun σ H Q q => ?_
  obtain ⟨G, x, ds, x', R, ef, q⟩ := q
  obtain ⟨hs, y, e1, ef⟩ := bnd_some ef
  have fin : ∀ {H1 : Hp} {us : List V} {p : Addr}, Pers H H1 → Rel X.K T G σ H1 x' → PrAll X.K H1 us ds → H1 p = none → Q (.ref p) (upd H1 p (.lst us)) := fun {H1 us p} p1 R1 t1 n => by
    obtain ⟨R3, f1, f2, f3⟩ := R1.fresh (xs := us) n
    exact q p _ _ (p1.trans (Ext.new n).pers) R3 upd_same (PrAll.mono (Ext.new n).pers _ t1) f1 f2 f3
  split at ef
  · rename_i es hd
    cases ef
    refine ⟨G, x, hs, _, R, e1, fun vs H1 p1 R1 r1 => ?_⟩
    have t := r1.derefs R1 hd
    cases t with
    | cons b t =>
      cases t
      obtain ⟨a, us, rfl, s1, t1⟩ := b.list
      exact ⟨a, us, rfl, .inl (.inl s1), fun p n => fin p1 R1 t1 n⟩
  · rename_i es hd
    cases ef
    refine ⟨G, x, hs, _, R, e1, fun vs H1 p1 R1 r1 => ?_⟩
    have t := r1.derefs R1 hd
    cases t with
    | cons b t =>
      cases t
      obtain ⟨a, us, rfl, s1, t1⟩ := b.tuple
      exact ⟨a, us, rfl, .inr s1, fun p n => fin p1 R1 t1 n⟩
  · cases ef

/-! ## sorted(e, reverse=b) -/
def dSortR (b : Bool) (f : M (List Hd)) : M Hd := bnd f fun hs => fun x => match derefs hs x with
  | some [.list ds] => match sortD b ds with
    | some es => some (.val (.list es), x)
    | none => none
  | _ => none
theorem cr_sortedR {b : Bool} : CallRK X (.builtin "sorted") [Str.ofString "reverse"] (fun vs zs H Q => zs = [V.bl b] ∧ rSorted X.K b vs H Q) := by
  intro pins s σ H vs zs us ws Q I r rz h
  obtain ⟨rfl, a, ys, ds, es, rfl, hl, t, e, q⟩ := h
  obtain ⟨u, rfl, r1⟩ := vals1 r
  obtain rfl : u = Value.ref a := r1
  obtain ⟨w1, rfl, e1⟩ := vals1 rz
  obtain rfl : w1 = Value.bool b := e1
  obtain ⟨rs, rfl, hr, rfl⟩ := sortD_some e
  exact sort_rows I hl t hr (fun _ => rfl) (PyProof.Rows.args_sorted_rev _ _) (fun _ => PyProof.Rows.args_list_sort_rev _ _) fun p ys n k => q p ys n k
theorem de_sortR {b : Bool} {e : Expr} {f : M (List Hd)} {p pos : Pos} {kws : List Keyword} (hg : Gl X "sorted") (hm : X.mg "sorted" = none) (hv : bootBuiltins "sorted" = some (.builtin "sorted")) (ha : DA T X [e] f) (hk : PK X kws (tCons (tC (.bl b)) tNil))
    (he : backTo pos (starEach [e] X.env) = (false, eval e X.env) :: backTo pos (starEach [] X.env) := by rfl) (hpl : (backTo pos (starEach [e] X.env)).any (·.1) = false := by rfl)
    (hall : (backToKw pos (keywordEach kws X.env)).all (·.1.isSome) = true := by rfl) (hnone : (backToKw pos (keywordEach kws X.env)).any (·.1.isNone) = false := by rfl) (hks : (backToKw pos (keywordEach kws X.env)).filterMap (·.1) = [Str.ofString "reverse"] := by rfl) :
    DE T X (.Call (.Name "sorted" p) [e] kws pos) (dSortR b f) := by
  refine PEw (pe_frz (pe_callBK (cr_sortedR (b := b)) hg hm hv ha hk (by decide) (by decide) he hpl hall hnone hks)) fun σ H Q q => ?_
  obtain ⟨G, x, o, x', R, ef, q⟩ := q
  obtain ⟨hs, y, e1, ef⟩ := bnd_some ef
  split at ef
  · rename_i ds hd
    split at ef
    · rename_i es hes
      cases ef
      refine ⟨G, x, hs, _, R, e1, fun vs H1 p1 R1 r1 => ?_⟩
      have t := r1.derefs R1 hd
      cases t with
      | cons b' t =>
        cases t
        obtain ⟨a, us, rfl, s1, t1⟩ := b'.list
        refine ⟨rfl, a, us, ds, es, rfl, s1, t1, hes, fun p zs n k => ⟨p, zs, rfl, upd_same, fun o => ?_⟩⟩
        obtain ⟨R3, f1, f2, f3⟩ := R1.fresh (xs := zs) n
        have p2 : Pers H1 (upd H1 p (.lst zs)) := (Ext.new n).pers
        have p3 : Pers (upd H1 p (.lst zs)) (upd (upd H1 p (.lst zs)) p (.frz o (.lst zs))) := Pers.lst upd_same
        exact q _ _ ((p1.trans p2).trans p3) (R3.off upd_same f1 f2 f3) (.lst ⟨o, upd_same⟩ (PrAll.mono (p2.trans p3) es k))
    · cases ef
  · cases ef

/-! ## the module's constants; small things -/
def GlobC (K : PySem.W.Frag) (mg : Str → Option Value) (x : Str) (d : PyData) : Prop := ∃ v u, mg x = some u ∧ RelV v u ∧ ∀ H, Pr K H v d
theorem de_glob {x : Str} {d : PyData} {pos : Pos} (hg : Gl X x) (h : GlobC X.K X.mg x d) (hd : (x == ("__debug__" : Str)) = false := by decide) : DE T X (.Name x pos) (dC d) := by
  obtain ⟨v, u, h1, h2, h3⟩ := h
  exact de_c (pe_glob hg h1 h2 hd) h3
theorem units65 {k : Nat} {A : Around} (hr : RoomG k A) : A.units + 65 < cLine := by
  have := hr.rm.un
  omega
theorem pick_len {α : Type} {ix : List Nat} {a n : Nat} (hs : List α) (e : hs.length = a) (h : (ix.all (fun i => decide (i < a)) && ix.length == n) = true) : (pick ix hs).length = n := by
  rw [Bool.and_eq_true, beq_iff_eq, List.all_eq_true] at h
  obtain ⟨h1, rfl⟩ := h
  subst e
  have go : ∀ ix : List Nat, (∀ i ∈ ix, decide (i < hs.length) = true) → (pick ix hs).length = ix.length := fun ix => by
    induction ix with
    | nil => intro _; rfl
    | cons i ix ih =>
      intro h
      have hi : i < hs.length := of_decide_eq_true (h i List.mem_cons_self)
      unfold pick at ih ⊢
      rw [List.filterMap_cons, List.getElem?_eq_getElem hi]
      simp only [List.length_cons]
      rw [ih fun j hj => h j (List.mem_cons_of_mem _ hj)]
  exact go ix h1

/-! ## all(x) of a list or tuple -/
def allD : FB
  | [.list ds] => if ds.all flatD then some (.bool (ds.all PyData.truthy)) else none
  | [.tuple ds] => if ds.all flatD then some (.bool (ds.all PyData.truthy)) else none
  | _ => none
theorem ca_all (hc : X.calm = true) : CallD X (.builtin "all") allD := by
  intro pins s σ H xs us Q I rx q
  obtain ⟨ds, c, t, e, q⟩ := q
  have hh := I.ok.hd hc
  unfold allD at e
  split at e
  · rename_i es
    split at e
    · rename_i hf
      cases e
      obtain ⟨f1, f2⟩ := flat_plain hf
      cases t with
      | cons b t =>
        cases t
        obtain ⟨a, ys, rfl, s1, t1⟩ := b.list
        obtain ⟨u, rfl, r1⟩ := vals1 rx
        cases r1
        obtain ⟨z, its, n, r, ho⟩ := s1.ok I.hok
        obtain ⟨as, hr⟩ := (PrAll.rd I es t1 r).reads
        exact PySem.W.all_list_data hh ⟨_, ho, rfl, n, rfl⟩ (by simpa using hr) f1 f2 fun h' tk hk => ⟨.bl _, H, I.kept (t' := tk) hk, rfl, q.now (.bl _)⟩
    · cases e
  · rename_i es
    split at e
    · rename_i hf
      cases e
      obtain ⟨f1, f2⟩ := flat_plain hf
      cases t with
      | cons b t =>
        cases t
        obtain ⟨a, ys, rfl, s1, t1⟩ := b.tuple
        obtain ⟨u, rfl, r1⟩ := vals1 rx
        cases r1
        obtain ⟨its, r, p, _⟩ := I.tuple s1
        obtain ⟨as, hr⟩ := (PrAll.rd I es t1 r).reads
        exact PySem.W.all_tuple_data hh (show s.heap.IsTuple a its.toArray from p) (by simpa using hr) f1 f2 fun h' tk hk => ⟨.bl _, H, I.kept (t' := tk) hk, rfl, q.now (.bl _)⟩
    · cases e
  · cases e

/-! ## x.extend(e), e a list -/
def rExtR : V → List V → Hp → VK → Prop := fun x vs H Q => ∃ l b xs zs, x = .ref l ∧ vs = [.ref b] ∧ H l = some (.lst xs) ∧ Rd H b (.lst zs) ∧ xs.length + zs.length ≤ sizeLine ∧ Q .non (upd H l (.lst (xs ++ zs)))
theorem mt_extR : MtM X "list.extend" rExtR := fun pins s σ H x vs v us Q I rx rv h => by
  obtain ⟨l, b, xs, zs, rfl, rfl, hH, hB, hz, q⟩ := h
  obtain rfl : v = Value.ref l := rx
  obtain ⟨u, rfl, ru⟩ := rv.one
  obtain rfl : u = Value.ref b := ru
  obtain ⟨_, i1, n1, r1, l1, e1⟩ := I.lstM hH
  obtain ⟨i2, n2, r2, l2, e2⟩ := Rd.lst I hB
  have a1 : i1.toArray.size = i1.length := by simp
  have a2 : i2.toArray.size = i2.length := by simp
  have hs : i1.toArray.size + i2.toArray.size ≤ sizeLine := by omega
  have hl : ¬ (!i1.toArray.isEmpty && Builtin.List.listTooLong (i1.toArray.size + i2.toArray.size)) = true := by
    rw [notLongL hs, Bool.and_false]
    intro z
    cases z
  refine call_meets F.slot_list_extend ⟨_, e1, rfl⟩ F.entry_list_extend (F.args_list_extend_2 _ _) (AutoSeq1.list_extend_list_list_0 l i1.toArray n1 b i2.toArray n2 hl (by omega) (by omega)) ⟨e1, e2, ?_⟩
  refine ⟨.non, _, I.lset (its' := i1 ++ i2) hH e1 (by simp) (r1.append r2) ?_, rfl, q⟩
  simp only [List.length_append]
  omega
def sExt (i : Nat) (f : M Hd) : M Fl := fun x => match x.1[i]? with
  | some (.own _) => match (bnd f fun h => fun y => match h with
      | .val (.list es) => some (es, y)
      | _ => none) x with
    | some (es, y) => match y.1[i]? with
      | some (.own ds) => if ds.length + es.length ≤ 16777216 then some (.nx, putS i (.own (ds ++ es)) y) else none
      | _ => none
    | none => none
  | _ => none
theorem ds_ext {o e : Expr} {apos pos spos : Pos} {i : Nat} {f : M Hd} (he : DE T X e f) (h : ∀ (t : TA), PA X [e] t → PE X (.Call (.Attribute o "extend" apos) [e] [] pos) (tBM X.K "list" rExtR (tVar i) t)) (hs : swapsWith (.Call (.Attribute o "extend" apos) [e] [] pos) none spos.line X.env = pure false := by rfl)
    (hst : starEach [e] X.env = (false, eval e X.env) :: starEach [] X.env := by rfl) : DS T X (.Expr (.Call (.Attribute o "extend" apos) [e] [] pos) spos) (sExt i f) := by
  refine PSw (ps_expr (h _ (pa_cons he pa_nil hst)) hs) fun D σ H q => ?_
  obtain ⟨G, x, fl, x', R, ee, q⟩ := q
  unfold sExt at ee
  split at ee
  · rename_i ds0 hs0
    split at ee
    · rename_i es y ed
      split at ee
      · rename_i ds hs
        split at ee
        · rename_i hz
          cases ee
          obtain ⟨a, xs, h1, h2, h3, h4, h5⟩ := R.slot i _ hs0
          obtain ⟨h, y1, e1, e2⟩ := bnd_some ed
          split at e2
          · cases e2
            refine ⟨.ref a, h1, .inl ⟨rfl, _, SqL.of h2⟩, G, x, _, y, R, e1, fun v H1 p1 R1 r1 => ?_⟩
            have r1 : Pr X.K H1 v (.list es) := r1
            obtain ⟨b, zs, rfl, s1, t1⟩ := (Bo.pr r1).list
            obtain ⟨c, ys, k1, k2, k3, k4, k5⟩ := R1.slot i _ hs
            rw [h1] at k1; cases k1
            refine ⟨a, b, ys, zs, rfl, rfl, k2, s1, by rw [k3.length, t1.length, sizeLine_eq]; exact hz, ?_⟩
            exact q σ _ (p1.trans (Pers.lst k2)) (R1.mutOwn hs h1 k2 k4 k5 (k3.append t1))
          · cases e2
        · cases ee
      · cases ee
    · cases ee
  · cases ee
end
end DD
namespace DD
open PySem PySem.Spec PyProof.Rows L2 GxR
/-! ## the deck's own fields -/
def DnOk (T : TB) : Prop := ("cells" : Str) ≠ T.dn ∧ ("mixed" : Str) ≠ T.dn
abbrev dkv (T : TB) (cl : Addr) (k : Dk) : List (Key × V) := [(.inr "cells", .ref cl), (.inr "mixed", .int k.mixed), (.inr T.dn, .int k.draws)]
theorem dk_cells {T : TB} {cl : Addr} {k : Dk} : valV (dkv T cl k) (.inr "cells") = some (.ref cl) := valV_pos rfl
theorem dk_mixed {T : TB} {cl : Addr} {k : Dk} : valV (dkv T cl k) (.inr "mixed") = some (.int k.mixed) := (valV_neg fun z => absurd (Sum.inr.inj z) (by decide)).trans (valV_pos rfl)
theorem dk_draws {T : TB} {cl : Addr} {k : Dk} (d : DnOk T) : valV (dkv T cl k) (.inr T.dn) = some (.int k.draws) :=
  (valV_neg fun z => d.1 (Sum.inr.inj z)).trans ((valV_neg fun z => d.2 (Sum.inr.inj z)).trans (valV_pos rfl))
theorem dk_put {T : TB} {cl : Addr} {k : Dk} {n : Int} (d : DnOk T) : putK (dkv T cl k) (.inr T.dn) (.int n) = dkv T cl { k with draws := n } := by
  unfold putK
  have e1 : ¬ ((Sum.inr ("cells" : Str) : Key) = .inr T.dn) := fun z => d.1 (Sum.inr.inj z)
  have e2 : ¬ ((Sum.inr ("mixed" : Str) : Key) = .inr T.dn) := fun z => d.2 (Sum.inr.inj z)
  simp [e1, e2]
def isDeck (i : Nat) (x : Sx) : Bool := match x.1[i]? with
  | some .deck => true
  | _ => false
theorem Rel.deckAt {K : PySem.W.Frag} {T : TB} {G : Gh} {σ : L2.St} {H : Hp} {x : Sx} {i : Nat} (R : Rel K T G σ H x) (h : isDeck i x = true) : σ[i]? = some (some (.ref G.dk)) := by
  unfold isDeck at h
  split at h
  · rename_i e
    exact R.slot i _ e
  · cases h
/-- the deck's fields are written -/
theorem Rel.deckPut {K : PySem.W.Frag} {T : TB} {G : Gh} {σ : L2.St} {H : Hp} {x : Sx} (R : Rel K T G σ H x) (n : Int) : Pers H (upd H G.dk (.dK (dkv T G.cl { x.2 with draws := n }))) ∧ Rel K T G σ (upd H G.dk (.dK (dkv T G.cl { x.2 with draws := n }))) (x.1, { x.2 with draws := n }) := by
  have p : Pers H (upd H G.dk (.dK (dkv T G.cl { x.2 with draws := n }))) := fun b u e i => by
    rw [upd_ne]
    · exact e
    · intro z
      rw [z, R.dk.d] at e
      cases e
      cases i
  have hc : G.cl ≠ G.dk := Ne.symm R.dk.ne
  refine ⟨p, ⟨⟨upd_same, by rw [upd_ne hc]; exact R.dk.c, R.dk.t.mono p fun P ps q => by rw [upd_ne (ne_of q R.dk.d (by intro z; cases z))]; exact q⟩, fun b u hb h1 h2 => by rw [upd_ne h1]; exact R.grow b u hb h1 h2, R.len, fun i s hs => ?_, R.sep⟩⟩
  have w := R.slot i s hs
  cases s with
  | no => trivial
  | val d => obtain ⟨u, h1, h2⟩ := w; exact ⟨u, h1, Pr.mono p d h2⟩
  | deck => exact w
  | own es =>
    obtain ⟨a, xs, h1, h2, h3, h4⟩ := w
    exact ⟨a, xs, h1, by rw [upd_ne (ne_of h2 R.dk.d (by intro z; cases z))]; exact h2, PrAll.mono p es h3, h4⟩
/-- the deck's cells are written -/
theorem Rel.cellsPut {K : PySem.W.Frag} {T : TB} {G : Gh} {σ : L2.St} {H : Hp} {x : Sx} (R : Rel K T G σ H x) (ns : List Int) : Pers H (upd H G.cl (.lst (ns.map V.int))) ∧ Rel K T G σ (upd H G.cl (.lst (ns.map V.int))) (x.1, { x.2 with cells := ns }) := by
  have p : Pers H (upd H G.cl (.lst (ns.map V.int))) := Pers.lst R.dk.c
  refine ⟨p, ⟨⟨by rw [upd_ne R.dk.ne]; exact R.dk.d, upd_same, R.dk.t.mono p fun P ps q => by rw [upd_ne (ne_of q R.dk.c (by intro z; cases z))]; exact q⟩, fun b u hb h1 h2 => by rw [upd_ne h2]; exact R.grow b u hb h1 h2, R.len, fun i s hs => ?_, R.sep⟩⟩
  have w := R.slot i s hs
  cases s with
  | no => trivial
  | val d => obtain ⟨u, h1, h2⟩ := w; exact ⟨u, h1, Pr.mono p d h2⟩
  | deck => exact w
  | own es =>
    obtain ⟨a, xs, h1, h2, h3, h4, h5⟩ := w
    exact ⟨a, xs, h1, by rw [upd_ne h4]; exact h2, PrAll.mono p es h3, h4, h5⟩
section
variable {X : Cx} {T : TB}
/-- deck["mixed"] -/
def dMixed (i : Nat) : M Hd := fun x => if isDeck i x then some (.val (.int x.2.mixed), x) else none
theorem de_mixed {o : Expr} {pos p2 : Pos} {j i : Nat} {k : Nat} (hr : RoomG k X.A) (ho : PE X o (tVar i)) : DE T X (.Subscript o (.Constant (.str "mixed") j p2) pos) (dMixed i) := by
  refine PEw (pe_dget (hu_of hr.rm) ho pe_str (fun _ _ => rfl)) fun σ H Q q => ?_
  obtain ⟨G, x, h, x', R, e, q⟩ := q
  unfold dMixed at e
  split at e
  · rename_i hd
    cases e
    exact ⟨_, R.deckAt hd, G.dk, _, rfl, by have g := DGet.k (k := (.inr "mixed" : Key)) R.dk.d; rw [dk_mixed] at g; exact g, q _ H (Pers.refl H) R (.int _)⟩
  · cases e
/-- deck["draws"] -/
def dDraws (i : Nat) : M Hd := fun x => if isDeck i x then some (.val (.int x.2.draws), x) else none
theorem de_draws {o : Expr} {pos p2 : Pos} {j i : Nat} {k : Nat} {z : Str} (hr : RoomG k X.A) (hd : DnOk T) (hz : T.dn = z) (ho : PE X o (tVar i)) : DE T X (.Subscript o (.Constant (.str z) j p2) pos) (dDraws i) := by
  subst hz
  refine PEw (pe_dget (hu_of hr.rm) ho pe_str (fun _ _ => rfl)) fun σ H Q q => ?_
  obtain ⟨G, x, h, x', R, e, q⟩ := q
  unfold dDraws at e
  split at e
  · rename_i h2
    cases e
    exact ⟨_, R.deckAt h2, G.dk, _, rfl, by have g := DGet.k (k := (.inr T.dn : Key)) R.dk.d; rw [dk_draws hd] at g; exact g, q _ H (Pers.refl H) R (.int _)⟩
  · cases e
/-- deck["draws"] = e -/
def sDraws (i : Nat) (f : M Hd) : M Fl := bnd f fun h => fun x => match h with
  | .val (.int n) => if isDeck i x then some (.nx, (x.1, { x.2 with draws := n })) else none
  | _ => none
theorem ds_draws {o e : Expr} {pos pos' p2 : Pos} {j i : Nat} {k : Nat} {z : Str} {f : M Hd} (hr : RoomG k X.A) (hd : DnOk T) (hz : T.dn = z) (ho : PE X o (tVar i)) (he : DE T X e f) (hs : swapsWith e (some (.Subscript o (.Constant (.str z) j p2) pos')) pos.line X.env = pure false := by rfl) :
    DS T X (.Assign [.Subscript o (.Constant (.str z) j p2) pos'] e pos) (sDraws i f) := by
  subst hz
  refine PSw (ps_dput (hu_of hr.rm) ho pe_str he hs) fun D σ H q => ?_
  obtain ⟨G, x, fl, x', R, ee, q⟩ := q
  obtain ⟨h1, y, e1, ee⟩ := bnd_some ee
  split at ee
  · rename_i n
    split at ee
    · rename_i h2
      cases ee
      refine ⟨G, x, _, y, R, e1, fun v H1 p1 R1 r1 => ?_⟩
      have r1 : Pr X.K H1 v (.int n) := r1
      cases r1
      have g := DPut.k (k := (.inr T.dn : Key)) (v := .int n) R1.dk.d (by rw [sizeLine_eq]; exact (by decide : 3 < 16777216))
      rw [dk_put hd] at g
      obtain ⟨p2, R2⟩ := R1.deckPut n
      exact ⟨_, R1.deckAt h2, G.dk, _, rfl, g, q σ _ (p1.trans p2) R2⟩
    · cases ee
  · cases ee
/-- deck["cells"] != [] -/
def tCells (i : Nat) : M Bool := fun x => if isDeck i x then some (!x.2.cells.isEmpty, x) else none
theorem ne_nil : ∀ ns : List Int, neD (.list (ns.map .int)) (.list []) = some (.bool (!ns.isEmpty)) := fun ns => by
  have h1 : SeqAt.shaped (.list (ns.map PyData.int)) = true := by
    have a : ∀ ns : List Int, PyData.canLayAll0 (ns.map PyData.int) = true ∧ PyData.depthAll (ns.map PyData.int) ≤ 1 := fun ns => by
      induction ns with
      | nil => exact ⟨rfl, Nat.zero_le _⟩
      | cons n ns ih =>
        rw [List.map_cons]
        refine ⟨by unfold PyData.canLayAll0; rw [ih.1]; rfl, ?_⟩
        unfold PyData.depthAll
        have : (PyData.int n).depth ≤ 1 := by simp [PyData.depth]
        have := ih.2
        omega
    obtain ⟨b, c⟩ := a ns
    unfold SeqAt.shaped
    rw [Bool.and_eq_true]
    refine ⟨by show PyData.canLayAll0 _ = true; exact b, decide_eq_true ?_⟩
    simp only [PyData.depth]
    omega
  unfold neD
  rw [show eqOk (.list (ns.map PyData.int)) (.list []) = (SeqAt.shaped (.list (ns.map PyData.int)) && SeqAt.shaped (.list [])) from rfl, h1, show SeqAt.shaped (.list []) = true from rfl]
  cases ns <;> rfl
theorem dt_cells {o : Expr} {pos p1 p2 p3 : Pos} {j i : Nat} {k : Nat} (hr : RoomG k X.A) (ho : PE X o (tVar i)) : DT T X (.Compare (.Subscript o (.Constant (.str "cells") j p2) p1) [.NotEq] [.List [] p3] pos) (tCells i) := by
  refine PTw (pt_cmpR (oa_ne hr.rm.units) (pe_dget (hu_of hr.rm) ho pe_str (fun _ _ => rfl)) (de_new (T := T) (df_lst da_nil)) (nomark _)) fun σ H Q q => ?_
  obtain ⟨G, x, b, x', R, e, q⟩ := q
  unfold tCells at e
  split at e
  · rename_i hd
    cases e
    refine ⟨_, R.deckAt hd, G.dk, .ref G.cl, rfl, by have g := DGet.k (k := (.inr "cells" : Key)) R.dk.d; rw [dk_cells] at g; exact g, G, x, .val (.list []), x, R, rfl, fun v H1 p1 R1 r1 => ?_⟩
    have r1 : Pr X.K H1 v (.list []) := r1
    refine ⟨.list (x.2.cells.map .int), .list [], _, .ls (.inl R1.dk.c) (PrAll.ofInts _), .pr r1, ne_nil _, fun w H2 p2 g2 k2 => ?_⟩
    cases k2
    exact ⟨_, rfl, q H2 (p1.trans p2) (R1.grown g2)⟩
  · cases e
/-- deck["cells"].pop() -/
def dCpop (i : Nat) : M Hd := fun x => if isDeck i x then match x.2.cells.getLast? with
    | some n => some (.val (.int n), (x.1, { x.2 with cells := x.2.cells.dropLast }))
    | none => none
  else none
theorem de_cpop {o : Expr} {p1 p2 pos apos : Pos} {j i : Nat} {k : Nat} (hr : RoomG k X.A) (ho : PE X o (tVar i)) (h : ∀ {t : TE}, PE X (.Subscript o (.Constant (.str "cells") j p2) p1) t → PE X (.Call (.Attribute (.Subscript o (.Constant (.str "cells") j p2) p1) "pop" apos) [] [] pos) (tBM0 X.K "list" rPop t)) :
    DE T X (.Call (.Attribute (.Subscript o (.Constant (.str "cells") j p2) p1) "pop" apos) [] [] pos) (dCpop i) := by
  refine PEw (h (pe_dget (hu_of hr.rm) ho pe_str (fun _ _ => rfl))) fun σ H Q q => ?_
  obtain ⟨G, x, b, x', R, e, q⟩ := q
  unfold dCpop at e
  split at e
  · rename_i hd
    split at e
    · rename_i n hn
      cases e
      refine ⟨_, R.deckAt hd, G.dk, .ref G.cl, rfl, by have g := DGet.k (k := (.inr "cells" : Key)) R.dk.d; rw [dk_cells] at g; exact g, .inl ⟨rfl, _, SqL.of R.dk.c⟩, G.cl, _, .int n, rfl, rfl, R.dk.c, ?_, ?_⟩
      · rw [List.length_map, List.getElem?_map]
        rw [List.getLast?_eq_getElem?] at hn
        rw [hn]
        rfl
      · rw [← List.map_dropLast]
        obtain ⟨p2, R2⟩ := R.cellsPut x.2.cells.dropLast
        exact q _ _ p2 R2 (.int _)
    · cases e
  · cases e
/-- deck["cells"].append(e) -/
def sCapp (i : Nat) (f : M Hd) : M Fl := fun x => if isDeck i x then match f x with
    | some (.val (.int n), y) => if y.2.cells.length < 16777216 then some (.nx, (y.1, { y.2 with cells := y.2.cells ++ [n] })) else none
    | _ => none
  else none
theorem ds_capp {o e : Expr} {p1 p2 pos apos spos : Pos} {j i : Nat} {k : Nat} {f : M Hd} (hr : RoomG k X.A) (ho : PE X o (tVar i)) (he : DE T X e f)
    (h : ∀ {t : TE} {ta : TA}, PE X (.Subscript o (.Constant (.str "cells") j p2) p1) t → PA X [e] ta → PE X (.Call (.Attribute (.Subscript o (.Constant (.str "cells") j p2) p1) "append" apos) [e] [] pos) (tBM X.K "list" rAppend t ta))
    (hs : swapsWith (.Call (.Attribute (.Subscript o (.Constant (.str "cells") j p2) p1) "append" apos) [e] [] pos) none spos.line X.env = pure false := by rfl) (hst : starEach [e] X.env = (false, eval e X.env) :: starEach [] X.env := by rfl) :
    DS T X (.Expr (.Call (.Attribute (.Subscript o (.Constant (.str "cells") j p2) p1) "append" apos) [e] [] pos) spos) (sCapp i f) := by
  refine PSw (ps_expr (h (pe_dget (hu_of hr.rm) ho pe_str (fun _ _ => rfl)) (pa_cons he pa_nil hst)) hs) fun D σ H q => ?_
  obtain ⟨G, x, fl, x', R, ee, q⟩ := q
  unfold sCapp at ee
  split at ee
  · rename_i hd
    split at ee
    · rename_i n y hy
      split at ee
      · rename_i hz
        cases ee
        refine ⟨_, R.deckAt hd, G.dk, .ref G.cl, rfl, by have g := DGet.k (k := (.inr "cells" : Key)) R.dk.d; rw [dk_cells] at g; exact g, .inl ⟨rfl, _, SqL.of R.dk.c⟩, G, x, _, y, R, hy, fun v H1 q1 R1 r1 => ?_⟩
        have r1 : Pr X.K H1 v (.int n) := r1
        cases r1
        refine ⟨G.cl, _, .int n, rfl, rfl, R1.dk.c, by rw [List.length_map, sizeLine_eq]; exact hz, ?_⟩
        obtain ⟨p2, R2⟩ := R1.cellsPut (y.2.cells ++ [n])
        rw [List.map_append, List.map_singleton] at p2 R2
        exact q σ _ (q1.trans p2) R2
      · cases ee
    · cases ee
  · cases ee
end
end DD
namespace DD
open PySem PySem.Spec PyProof.Rows L2 GxR

/-! ## the deck is made -/
def mixF (A M B M2 : Int) (m c : Int) : Int := (m * A + c % M + B) % M2
def deckOf (C A M B M2 : Int) (ns : List Int) : Dk := ⟨ns.reverse, ns.foldl (mixF A M B M2) C, 0⟩
def spDeck (K : PySem.W.Frag) (T : TB) (mk : List Int → Dk) : Sp := fun vs H Q _ => ∃ a ns, vs = [.ref a] ∧ SqL K H a (ns.map V.int) ∧ ns.length ≤ 63 ∧ TabsOk T H ∧
  ∀ dk cl H', Ext H H' → H dk = none → H cl = none → RelD T dk cl H' (mk ns) → Q (.ref dk) H'
abbrev rI1 : List V → Hp → VK → Prop := fun xs H Q => (∃ i, xs = [V.int i] ∧ Q (V.int i) H) ∨ ∃ k, xs = [V.bl k] ∧ Q (V.int (if k = true then 1 else 0)) H
abbrev tMix (A M B M2 : Int) : TE := tOp (rI (fun _ j => 0 < j) fun i j => V.int (i % j)) (tCB rI1 (tCons (tOp (rI0 fun i j => V.int (i + j)) (tOp (rI0 fun i j => V.int (i + j)) (tOp (rI CMul fun i j => V.int (i * j)) (tVar 1) (tC (V.int A)))
  (tOp (rI (fun _ j => 0 < j) fun i j => V.int (i % j)) (tCB rI1 (tCons (tVar 2) tNil)) (tC (V.int M)))) (tC (V.int B))) tNil)) (tC (V.int M2))
abbrev tHead (K : PySem.W.Frag) : TE := tSl (rSlL K) (tVar 0) tNoPart (tPart (tC (V.int 63)))
abbrev tFirst (K : PySem.W.Frag) (C A M B M2 : Int) (r : TS) : TS := tSeq (tAsg (tC (V.int C)) (gName 1)) (tSeq (tFor (iList K (tHead K)) (gName 2) (tAsg (tMix A M B M2) (gName 1))) r)
abbrev rListOf (K : PySem.W.Frag) : List V → Hp → VK → Prop := fun xs H Q => ∃ p ys, xs = [V.ref p] ∧ (SqL K H p ys ∨ SqT K H p ys) ∧ ∀ l, H l = none → Q (V.ref l) (upd H l (.lst ys))
abbrev tDeckB (K : PySem.W.Frag) (C A M B M2 : Int) (dn : Str) : TS := tFirst K C A M B M2 (tRet (tDisp [(tC (.str "cells"), tRevL K (tCB (rListOf K) (tCons (tHead K) tNil))), (tC (.str "mixed"), tVar 1), (tC (.str dn), tC (.int 0))]))
theorem cut63 (xs : List V) (h : xs.length ≤ 63) : cutV xs none (some 63) = xs := by
  unfold cutV
  rw [HT.sIx_none, show HT.sIx xs.length xs.length (some 63) = min 63 xs.length from HT.sIx_nat xs.length xs.length 63]
  simp only [List.drop_zero, Nat.sub_zero]
  exact List.take_of_length_le (by omega)
theorem SqL.ext {K : PySem.W.Frag} {H H' : Hp} {a : Addr} {xs : List V} (e : Ext H H') (h : SqL K H a xs) : SqL K H' a xs := by
  rcases h with (h | ⟨o, h⟩) | h
  · exact .inl (.inl (e _ _ h))
  · exact .inl (.inr ⟨o, e _ _ h⟩)
  · exact .inr h
/-- up to the return -/
theorem first_read {K : PySem.W.Frag} {C A M B M2 : Int} {r : TS} {D : Ends} {H : Hp} {a : Addr} {ns : List Int} (hA : -(2 ^ 64) < A ∧ A < 2 ^ 64) (hM : 0 < M) (hM2 : 0 < M2) (hs : SqL K H a (ns.map V.int)) (hl : ns.length ≤ 63)
    (h : ∀ y2 H1, Ext H H1 → r D [some (.ref a), some (.int (ns.foldl (mixF A M B M2) C)), y2] H1) : tFirst K C A M B M2 r D (start ["script", "stirred", "cell"] [.ref a]) H := by
  refine ⟨.ref a, rfl, 63, rfl, a, ns.map V.int, rfl, hs, fun p np => ?_⟩
  rw [cut63 _ (by rw [List.length_map]; exact hl)]
  have x0 : Ext H (upd H p (.lst (ns.map V.int))) := Ext.new np
  refine ⟨p, rfl, ⟨_, SqL.of upd_same⟩, ?_⟩
  refine for_it (walk_list (xs := ns.map V.int)) (fun i σ H1 => H1 = upd H p (.lst (ns.map V.int)) ∧ ∃ y2, σ = [some (.ref a), some (.int ((ns.take i).foldl (mixF A M B M2) C)), y2]) ⟨rfl, none, rfl⟩ (fun i σ H1 _ q => ?_) (fun i x σ H1 H2 hi q y => ?_) fun σ H1 q => ?_
  · rw [q.1]
    exact SqL.of upd_same
  · obtain ⟨rfl, y2, rfl⟩ := q
    obtain ⟨rfl, hx⟩ := y
    rw [List.length_map] at hi
    have ex : x = .int ns[i] := by
      rw [List.getElem?_map, List.getElem?_eq_getElem hi] at hx
      exact (Option.some.inj hx).symm
    subst ex
    refine ⟨_, rfl, _, A, rfl, rfl, .inr hA, _, rfl, .inl ⟨_, rfl, _, M, rfl, rfl, hM, _, _, rfl, rfl, _, B, rfl, rfl, .inl ⟨_, rfl, _, M2, rfl, rfl, hM2, rfl, some (.int ns[i]), ?_⟩⟩⟩
    rw [List.take_add_one, List.getElem?_eq_getElem hi, List.foldl_append]
    rfl
  · obtain ⟨rfl, y2, rfl⟩ := q
    rw [List.length_map, List.take_length]
    exact h y2 _ x0

theorem merge3 {dn : Str} (h1 : ("cells" : Str) ≠ dn) (h2 : ("mixed" : Str) ≠ dn) {c m z : V} : mergeK [] [((.inr "cells" : Key), c), (.inr "mixed", m), (.inr dn, z)] = [(.inr "cells", c), (.inr "mixed", m), (.inr dn, z)] := by
  have e0 : ¬ ((.inr ("cells" : Str) : Key) = .inr "mixed") := fun z => absurd (Sum.inr.inj z) (by decide)
  have e1 : ¬ ((.inr ("cells" : Str) : Key) = .inr dn) := fun z => h1 (Sum.inr.inj z)
  have e2 : ¬ ((.inr ("mixed" : Str) : Key) = .inr dn) := fun z => h2 (Sum.inr.inj z)
  simp [mergeK, putK, e0, e1, e2]
/-- {"cells": .., "mixed": stirred, "draws": 0}, the cells' list made by te -/
theorem last_read {T : TB} {te : TE} {D : Ends} {H H1 : Hp} {σ : L2.St} {cs : List Int} {m : Int} (hd : DnOk T) (x0 : Ext H H1) (ht : TabsOk T H) (hm : σ[1]? = some (some (.int m)))
    (hc : ∀ H2 Q, Ext H1 H2 → (∀ p H3, Ext H2 H3 → H2 p = none → H3 p = some (.lst (cs.map V.int)) → Q (.ref p) H3) → te σ H2 Q)
    (q : ∀ dk cl H', Ext H H' → H dk = none → H cl = none → RelD T dk cl H' ⟨cs, m, 0⟩ → D.rt (.ref dk) H') :
    tRet (tDisp [(tC (.str "cells"), te), (tC (.str "mixed"), tVar 1), (tC (.str T.dn), tC (.int 0))]) D σ H1 := by
  intro p np
  have x1 : Ext H1 (upd H1 p (.dK [])) := Ext.new np
  refine hc _ _ x1 fun c H3 x3 nc hc3 => ?_
  have hp3 : H3 p = some (.dK []) := x3 _ _ upd_same
  refine ⟨_, hm, hp3, [(.inr "cells", .ref c), (.inr "mixed", .int m), (.inr T.dn, .int 0)], rfl, (by decide : 3 ≤ 15), ?_⟩
  rw [merge3 hd.1 hd.2]
  have npc : p ≠ c := fun z => by rw [← z, upd_same] at nc; cases nc
  have keep : ∀ b o, H b = some o → upd H3 p (.dK [(.inr "cells", .ref c), (.inr "mixed", .int m), (.inr T.dn, .int 0)]) b = some o := fun b o e => by
    have e1 := x0 _ _ e
    rw [upd_ne (fun z => by rw [z, np] at e1; cases e1)]
    exact x3 _ _ (x1 _ _ e1)
  have nH : ∀ b, H1 b = none → H b = none := fun b e => by
    cases z : H b with
    | none => rfl
    | some u => rw [x0 _ _ z] at e; cases e
  refine q p c _ keep (nH p np) (nH c ?_) ⟨upd_same, by rw [upd_ne (Ne.symm npc)]; exact hc3, ht.mono (fun a o h _ => keep a o h) fun P ps h => keep P _ h⟩
  cases z : H1 c with
  | none => rfl
  | some u => rw [x1 _ _ z] at nc; cases nc
theorem deckB_read {K : PySem.W.Frag} {T : TB} {C A M B M2 : Int} (hd : DnOk T) (hA : -(2 ^ 64) < A ∧ A < 2 ^ 64) (hM : 0 < M) (hM2 : 0 < M2) (vs : List V) (H : Hp) (Q : VK) (E : XK) (h : spDeck K T (deckOf C A M B M2) vs H Q E) :
    tDeckB K C A M B M2 T.dn { nx := fun _ H' => Q .non H', rt := Q } (start ["script", "stirred", "cell"] vs) H := by
  obtain ⟨a, ns, rfl, hs, hl, ht, q⟩ := h
  refine first_read hA hM hM2 hs hl fun y2 H1 x0 => last_read hd x0 ht rfl (fun H2 Q x2 q => ?_) q
  have hs2 : SqL K H2 a (ns.map V.int) := SqL.ext (x0.trans x2) hs
  refine ⟨.ref a, rfl, 63, rfl, a, _, rfl, hs2, fun p np => ⟨p, ns.map V.int, rfl, .inl (SqL.of ?_), fun l nl => ⟨l, ns.map V.int, rfl, SqL.of upd_same, fun r nr => ?_⟩⟩⟩
  · rw [cut63 _ (by rw [List.length_map]; exact hl)]
    exact upd_same
  · have e3 : Ext H2 (upd (upd (upd H2 p (.lst (cutV (ns.map V.int) none (some 63)))) l (.lst (ns.map V.int))) r (.lst (ns.map V.int).reverse)) := ((Ext.new np).trans (Ext.new nl)).trans (Ext.new nr)
    refine q r _ e3 ?_ ?_
    · cases z : H2 r with
      | none => rfl
      | some u => rw [((Ext.new np).trans (Ext.new nl)) _ _ z] at nr; cases nr
    · rw [upd_same, List.map_reverse]

abbrev tDeckA (K : PySem.W.Frag) (C A M B M2 : Int) (dn : Str) : TS := tFirst K C A M B M2 (tRet (tDisp [(tC (.str "cells"), tRevL K (tLc (iList K (tHead K)) (gName 2) tYes (tCB rI1 (tCons (tVar 2) tNil)) [2])), (tC (.str "mixed"), tVar 1), (tC (.str dn), tC (.int 0))]))
theorem deckA_read {K : PySem.W.Frag} {T : TB} {C A M B M2 : Int} (hd : DnOk T) (hA : -(2 ^ 64) < A ∧ A < 2 ^ 64) (hM : 0 < M) (hM2 : 0 < M2) (vs : List V) (H : Hp) (Q : VK) (E : XK) (h : spDeck K T (deckOf C A M B M2) vs H Q E) :
    tDeckA K C A M B M2 T.dn { nx := fun _ H' => Q .non H', rt := Q } (start ["script", "mixed", "cell"] vs) H := by
  obtain ⟨a, ns, rfl, hs, hl, ht, q⟩ := h
  refine first_read hA hM hM2 hs hl fun y2 H1 x0 => last_read hd x0 ht rfl (fun H2 Q x2 q => ?_) q
  have hs2 : SqL K H2 a (ns.map V.int) := SqL.ext (x0.trans x2) hs
  refine ⟨.ref a, rfl, 63, rfl, a, _, rfl, hs2, fun p np => ?_⟩
  rw [cut63 _ (by rw [List.length_map]; exact hl)]
  refine ⟨p, rfl, ⟨_, SqL.of upd_same⟩, fun D nD => ?_⟩
  have e1 : Ext H2 (upd H2 p (.lst (ns.map V.int))) := Ext.new np
  have hpD : p ≠ D := fun z => by rw [← z, upd_same] at nD; cases nD
  generalize hH3 : upd H2 p (.lst (ns.map V.int)) = H3 at nD e1
  have h3p : H3 p = some (.lst (ns.map V.int)) := by rw [← hH3]; exact upd_same
  refine lc_it (walk_list (K := K) (a := p) (xs := ns.map V.int)) (fun i H => H = upd H3 D (.lst ((ns.take i).map V.int))) rfl (fun i H _ e => ?_) (fun i x H H' hi e y => ?_) fun H e => ?_
  · rw [e]
    exact SqL.of (by rw [upd_ne hpD]; exact h3p)
  · subst e
    obtain ⟨rfl, hx⟩ := y
    rw [List.length_map] at hi
    have ex : x = .int ns[i] := by
      rw [List.getElem?_map, List.getElem?_eq_getElem hi] at hx
      exact (Option.some.inj hx).symm
    subst ex
    refine ⟨rfl, ?_⟩
    unfold tYes
    dsimp only
    rw [if_pos rfl]
    refine ⟨_, rfl, .inl ⟨_, rfl, _, upd_same, ?_, ?_⟩⟩
    · rw [List.length_map, List.length_take, sizeLine_eq]
      omega
    · rw [upd_upd, List.take_add_one, List.getElem?_eq_getElem hi, List.map_append]
      rfl
  · subst e
    rw [List.length_map, List.take_length]
    refine ⟨D, ns.map V.int, rfl, SqL.of upd_same, fun r nr => ?_⟩
    have e2 : Ext H3 (upd H3 D (.lst (ns.map V.int))) := Ext.new nD
    refine q r _ ((e1.trans e2).trans (Ext.new nr)) ?_ ?_
    · cases z : H2 r with
      | none => rfl
      | some u => rw [(e1.trans e2) _ _ z] at nr; cases nr
    · rw [upd_same, List.map_reverse]

/-! ## the law -/
def HasS (P : Program) (w : World) (K : PySem.W.Frag) (mg : Str → Option Value) (base : Heap) (k : Nat) (x : Str) (st : Stmt) (ps : List Str) (sp : Sp) : Prop :=
  ∃ f fd, Fun K x x st f fd ∧ mg x = some (.ref f) ∧ Binds K fd ps [] ∧ FnG P w K mg base CX0 k f fd ps sp
/-- the slots behind deck = .. -/
def lawSlots (n j : Nat) : List Slot := (List.replicate n Slot.no).set j .deck
def spLaw (K : PySem.W.Frag) (T : TB) : Sp := fun vs H Q _ => ∃ (a : Addr) (ns : List Int), vs = [.ref a] ∧ SqL K H a (ns.map V.int) ∧ ns.length ≤ 63 ∧ TabsOk T H ∧ ∀ H', Q (.bl true) H'
theorem law_read {K : PySem.W.Frag} {T : TB} {N : List Str} {j : Nat} {mk : List Int → Dk} {b : M Fl} {vs : List V} {H : Hp} {Q : VK} {E : XK} (hn : 1 ≤ N.length) (hj : j < N.length)
    (main : ∀ ns : List Int, ns.length ≤ 63 → ∃ y, b (lawSlots N.length j, mk ns) = some (.rt (.bool true), y)) (h : spLaw K T vs H Q E) :
    tSeq (tAsg (fun σ H Q => tCons (tVar 0) tNil σ H fun vs H1 => spDeck K T mk vs H1 Q E0) (gName j)) (rdS K T b) { nx := fun _ H' => Q .non H', rt := Q } (start N vs) H := by
  obtain ⟨a, ns, rfl, hs, hl, ht, q⟩ := h
  have e0 : (L2.start N [V.ref a])[0]? = some (some (.ref a)) := rfl
  have el : (L2.start N [V.ref a]).length = N.length := by
    unfold L2.start
    rw [List.length_append, List.length_map, List.length_replicate, List.length_singleton]
    omega
  refine ⟨_, e0, a, ns, rfl, hs, hl, ht, fun dk cl H' x0 nd nc R => ?_⟩
  obtain ⟨y, hy⟩ := main ns hl
  refine ⟨⟨dk, cl, H'⟩, _, _, _, ⟨R, fun a o e _ _ => .inl e, ?_, fun i s hi => ?_, fun i l c ds es _ e1 => ?_⟩, hy, fun σ2 H2 p2 R2 v hv => ?_⟩
  · rw [List.length_set, el]
    show ((List.replicate N.length Slot.no).set j .deck).length = _
    rw [List.length_set, List.length_replicate]
  · rcases set_at hi with ⟨rfl, rfl⟩ | ⟨n, hi⟩
    · show ((L2.start N [V.ref a]).set i _)[i]? = _
      rw [List.getElem?_set_self (by rw [el]; exact hj)]
    · rw [List.getElem?_replicate] at hi
      split at hi
      · cases hi; trivial
      · cases hi
  · rcases set_at e1 with ⟨_, z⟩ | ⟨_, e1⟩
    · cases z
    · rw [List.getElem?_replicate] at e1
      split at e1 <;> cases e1
  · cases hv
    exact q H2
end DD
namespace DD
open PySem PySem.Spec PyProof.Rows L2 GxR
/-! ## the end: the law is called -/
abbrev emptyTab : Obj := { cls := .none, data := .fields #[] }
/-- what is tracked at the entry: the script (where it is no part of the written heap), the tables -/
def entryH (K : PySem.W.Frag) (a : Addr) (ts : List Addr) (o : Obj) (xs : List V) : Hp := fun b => if b ∈ ts then some (.tbl #[]) else if b = a ∧ K.lookup a = none then some (.frz o (.lst xs)) else none
section
variable {K : PySem.W.Frag} {a : Addr} {ts : List Addr} {o : Obj} {xs : List V}
theorem entry_tab {b : Addr} (h : b ∈ ts) : entryH K a ts o xs b = some (.tbl #[]) := if_pos h
theorem entry_cases (b : Addr) : (b ∈ ts ∧ entryH K a ts o xs b = some (.tbl #[])) ∨ (b ∉ ts ∧ b = a ∧ K.lookup a = none ∧ entryH K a ts o xs b = some (.frz o (.lst xs))) ∨ (b ∉ ts ∧ entryH K a ts o xs b = none) := by
  unfold entryH
  by_cases h : b ∈ ts
  · exact .inl ⟨h, if_pos h⟩
  · rw [if_neg h]
    by_cases h2 : b = a ∧ K.lookup a = none
    · rw [if_pos h2]
      exact .inr (.inl ⟨h, h2.1, h2.2, rfl⟩)
    · rw [if_neg h2]
      exact .inr (.inr ⟨h, rfl⟩)
end
theorem law_callG {P : Program} {w : World} {K : PySem.W.Frag} {mg mb : Str → Option Value} {k : Nat} {fa a : Addr} {cs : List (Addr × Addr)} {fd : FuncData} {x : Str} {sp : Sp} {s : Shared} {vs : List Value} {ns : List Int}
    (KX : K.In s.heap) (hns : s.heap.Ns mainGlobals mg) (hb : s.heap.Ns builtinsNs mb) (hbb : ∀ x : Str, x ≠ "__name__" → mb x = bootBuiltins x) (hlim : s.heap.NoLimit) (hg : s.gens = #[])
    (hT : ∀ p ∈ cs, s.heap.get? p.2 = some emptyTab) (nT : ∀ p ∈ cs, K.lookup p.2 = none) (C : ∀ p ∈ cs, PySem.W.CodeHd s.heap p.1 p.2)
    (hbm : ∃ (bm : Addr) (ob : Obj), mg "__builtins__" = some (.ref bm) ∧ bm ≠ builtinsNs ∧ s.heap.get? bm = some ob ∧ ob.cls = .type "module" ∧ ob.dict = some builtinsNs ∧ ob.data = .plain)
    (ha : s.heap.get? a = some { cls := .type "list", data := .seq vs.toArray }) (hi : IntsAre vs ns) (hl : ns.length ≤ sizeLine) (hr : RoomG k callerA)
    (F : ∀ base : Heap, K.In base → base.Ns mainGlobals mg → (∀ p ∈ cs, TabB base mg p.1 p.2) → FnG P w K mg base CX0 k fa fd [x] sp) (hbind : ∀ (s : Shared) (u : Value), BindsTo s fd ⟨[u], []⟩ [(x, u)])
    (hsp : ∀ H : Hp, (∀ p ∈ cs, H p.2 = some (.tbl #[])) → SqL K H a (ns.map V.int) → sp [.ref a] H (fun v _ => v = .bl true) fun _ _ _ => False) :
    codeAny (model P w) callerA (.call (.ref fa) ⟨[.ref a], []⟩) (fun r s' => r = .ok (.ret (.bool true)) ∧ OldK s.heap s'.heap ∧ s'.os = s.os ∧ AllBare s'.gens) s := by
  have rv := vals_ints hi
  have lenV := hi.length
  generalize hts : cs.map (·.2) = ts
  have inT : ∀ p ∈ cs, p.2 ∈ ts := fun p hp => by rw [← hts]; exact List.mem_map.mpr ⟨p, hp, rfl⟩
  have ofT : ∀ b ∈ ts, ∃ p ∈ cs, p.2 = b := fun b hb => by rw [← hts] at hb; obtain ⟨p, hp, e⟩ := List.mem_map.mp hb; exact ⟨p, hp, e⟩
  have isT : ∀ b ∈ ts, s.heap.get? b = some emptyTab := fun b hb => by obtain ⟨p, hp, rfl⟩ := ofT b hb; exact hT p hp
  have aT : a ∉ ts := fun z => by
    have q := isT a z
    rw [ha] at q
    exact absurd (congrArg Obj.data (Option.some.inj q)) (by intro z; cases z)
  generalize hH : entryH K a ts { cls := .type "list", data := .seq vs.toArray } (ns.map V.int) = H
  have Hc : ∀ b, (b ∈ ts ∧ H b = some (.tbl #[])) ∨ (b ∉ ts ∧ b = a ∧ K.lookup a = none ∧ H b = some (.frz { cls := .type "list", data := .seq vs.toArray } (.lst (ns.map V.int)))) ∨ (b ∉ ts ∧ H b = none) := fun b => by
    rw [← hH]
    exact entry_cases b
  have hTab : ∀ p ∈ cs, H p.2 = some (.tbl #[]) := fun p hp => by rw [← hH]; exact entry_tab (inT p hp)
  have hok : HOk P w H s.heap := fun b u e => by
    rcases Hc b with ⟨h1, h2⟩ | ⟨_, rfl, _, h2⟩ | ⟨_, h2⟩
    · rw [h2] at e; cases e
      exact isT b h1
    · rw [h2] at e; cases e
      exact ⟨ha, by rw [List.length_map]; exact hl, vs, _, rv, ha⟩
    · rw [h2] at e; cases e
  have hS : SqL K H a (ns.map V.int) := by
    rcases Hc a with ⟨h1, _⟩ | ⟨_, _, _, h2⟩ | ⟨h1, h2⟩
    · exact absurd h1 aT
    · exact .inl (.inr ⟨_, h2⟩)
    · cases hk : K.lookup a with
      | none =>
        have z : H a = some (.frz { cls := .type "list", data := .seq vs.toArray } (.lst (ns.map V.int))) := by
          rw [← hH]
          unfold entryH
          rw [if_neg aT, if_pos ⟨rfl, hk⟩]
        rw [h2] at z; cases z
      | some o =>
        have e := KX a o hk
        rw [ha] at e
        cases e
        exact .inr ⟨_, vs.toArray, _, hk, rfl, rfl, rfl, by rw [List.size_toArray, lenV]; exact hl, by simpa using rv⟩
  -- what is neither the script nor a table is untracked
  have free : ∀ {b : Addr} {o : Obj}, s.heap.get? b = some o → (∀ us n, o.data ≠ .seq us n) → o.data ≠ .fields #[] → H b = none := fun {b o} e h1 h2 => by
    rcases Hc b with ⟨q, _⟩ | ⟨_, rfl, _, _⟩ | ⟨_, q⟩
    · rw [isT b q] at e; cases e
      exact absurd rfl h2
    · rw [ha] at e; cases e
      exact absurd rfl (h1 _ _)
    · exact q
  have nsK : ∀ {b : Addr} {m : Str → Option Value}, s.heap.Ns b m → (hidT s.heap H).Ns b m := fun {b m} z => by
    obtain ⟨o, es, ep, e, d, r⟩ := z
    exact ⟨o, es, ep, hidT_get e (free e (fun us n z => by rw [d] at z; cases z) fun z => by rw [d] at z; cases z), d, r⟩
  have hKb : K.In (hidT s.heap H) := fun b o e => hidT_get (KX b o e) (by
    rcases Hc b with ⟨q, _⟩ | ⟨_, rfl, q, _⟩ | ⟨_, q⟩
    · obtain ⟨p, hp, rfl⟩ := ofT b q
      rw [nT p hp] at e; cases e
    · rw [q] at e; cases e
    · exact q)
  have TB : ∀ p ∈ cs, TabB (hidT s.heap H) mg p.1 p.2 := fun p hp => by
    refine ⟨?_, ?_, fun z => ?_⟩
    · obtain ⟨o, us, file, tf, flags, tg, inF, text, tt, e1, r1, r2, r3, rest⟩ := C p hp
      refine ⟨o, us, file, tf, flags, tg, inF, text, tt, hidT_get e1 (free e1 (fun us' n z => by rw [r2] at z; cases z) fun z => ?_), r1, r2, r3, rest⟩
      rw [r2] at z
      cases z
      simp at r3
    · obtain ⟨bm, ob, b1, b2, b3, b4, b5, b6⟩ := hbm
      refine ⟨bm, ob, b1, b2, fun q => ?_, fun q => ?_, hidT_get b3 (free b3 (fun us n z => by rw [b6] at z; cases z) fun z => by rw [b6] at z; cases z), b4, b5, b6⟩
      · obtain ⟨o, es, ep, e, hd, _⟩ := hns
        rw [q, e] at b3
        cases b3
        rw [hd] at b6
        cases b6
      · rw [q, hT p hp] at b3
        cases b3
        cases b6
    · obtain ⟨o, es, ep, e, hd, _⟩ := hns
      rw [z, hT p hp] at e
      cases e
      cases hd
  have e0 : Env0 P w K mg (hidT s.heap H) callerA [] s H := ⟨rfl, ⟨hKb, nsK hns, ⟨mb, nsK hb, hbb⟩, let ⟨mc, h1, h2⟩ := hlim; ⟨mc, nsK h1, h2⟩⟩, fun b o e => of_hidT e, Nat.le_of_eq (hidT_size _ _), trivial, fun b z => absurd (show b ∈ ([] : List Addr) from z) (by simp), hok, .of_eq hg⟩
  refine codeAny_mono ((F _ hKb (nsK hns) TB).run callerA [] s H ⟨[.ref a], []⟩ [.ref a] [.ref a] _ _ hr e0 (hbind s (.ref a)) (.cons rfl .nil) (hsp H hTab hS)) fun r s' h => ?_
  cases r with
  | error e => exact absurd h (by intro z; exact z)
  | ok fl =>
    cases fl with
    | next => exact False.elim h
    | brk => exact False.elim h
    | cont => exact False.elim h
    | ret u =>
      obtain ⟨v, H', os, bare, un, hok', r', q⟩ := h
      have q : v = .bl true := q
      subst q
      obtain rfl : u = Value.bool true := r'
      have same : ∀ b o, b ∉ ts → s.heap.get? b = some o → s'.heap.get? b = some o := fun b o nb e => by
        rcases Hc b with ⟨z, _⟩ | ⟨_, _, _, z⟩ | ⟨_, z⟩
        · exact absurd z nb
        · obtain ⟨g1, _⟩ := hok b _ z
          obtain ⟨g2, _⟩ := hok' b _ (un.frzs b _ _ z)
          rw [e] at g1
          cases g1
          exact g2
        · exact un.keep b o e z (fun z => absurd (show b ∈ ([] : List Addr) from z) (by simp)) (by simp)
      have grown : ∀ b ∈ ts, ∃ more : Array Value, s'.heap.get? b = some { cls := .none, data := .fields more } := fun b hb => by
        obtain ⟨p, hp, rfl⟩ := ofT b hb
        obtain ⟨more, z⟩ := un.tbls p.2 #[] (hTab p hp)
        exact ⟨_, hok' p.2 _ z⟩
      refine ⟨rfl, ⟨fun b o e => ?_, fun b o e => ?_⟩, os, bare⟩
      · by_cases hbt : b ∈ ts
        · obtain ⟨more, hm⟩ := grown b hbt
          obtain ⟨p, hp, rfl⟩ := ofT b hbt
          rw [hT p hp] at e
          cases e
          exact .inr (.inl ⟨((C p hp).tab (hT p hp)).isCodeTable, rfl, #[], more, rfl, by rw [Array.empty_append]; exact hm⟩)
        · exact .inl (same b o hbt e)
      · by_cases hbt : b ∈ ts
        · obtain ⟨more, hm⟩ := grown b hbt
          exact ⟨_, hm⟩
        · exact ⟨o, same b o hbt e⟩

/-- what is known of the law's promise at the head's heap h -/
def LawG (l : PySem.W.OpenLaw) (w : World) (K : PySem.W.Frag) (k n : Nat) (x : Str) (mg : Str → Option Value) (fa : Addr) (h : Heap) : Prop :=
  ∃ (fd : FuncData) (cs : List (Addr × Addr)) (sp : Sp), (∀ p ∈ cs, h.get? p.2 = some emptyTab) ∧ (∀ p ∈ cs, K.lookup p.2 = none) ∧ (∀ p ∈ cs, PySem.W.CodeHd h p.1 p.2) ∧ (∀ (s : Shared) (u : Value), BindsTo s fd ⟨[u], []⟩ [(x, u)]) ∧
    (∀ (H : Hp) (a : Addr) (ns : List Int), ns.length ≤ n → (∀ p ∈ cs, H p.2 = some (.tbl #[])) → SqL K H a (ns.map V.int) → sp [.ref a] H (fun v _ => v = .bl true) fun _ _ _ => False) ∧
    ∀ base : Heap, K.In base → base.Ns mainGlobals mg → (∀ p ∈ cs, TabB base mg p.1 p.2) → FnG l.prog w K mg base CX0 k fa fd [x] sp
theorem walk_ofG {l : PySem.W.OpenLaw} {n k : Nat} {q : Program} {loose : List Str} {XP : (Str → Option Value) → Heap → Prop} {YP : World → Heap → Prop} {d : DefRec} {K : Params → PySem.W.Frag} {x : Str}
    (hn : l.most = some n) (hn2 : n ≤ sizeLine) (hdf : d.params.defaults = []) (hr : RoomG k callerA) (hY : ∀ (w : World) (h : Heap), YP w h → (K w.params).In h)
    (F : ∀ (w : World) (mg : Str → Option Value) (fa : Addr) (h : Heap), YP w h → (K w.params).In h → h.Ns mainGlobals mg → mg d.name = some (.ref fa) → LawG l w (K w.params) k n x mg fa h) :
    PySem.W.WalkO q loose XP YP l.row.toRowW d [] (fun f vs => PySem.call f vs) := by
  refine Att.attach_callB hn hdf fun w s0 s1 mg mb fa o pm cd doc a vs ns G Y ho hd hcd hmg hobj hints hlen hbits hg => ?_
  have KX := hY w _ Y
  obtain ⟨fd, cs, sp, hT, nT, C, hb, hsp, hF⟩ := F w mg fa _ Y KX G.T.g hmg
  exact law_callG KX G.T.g G.T.b G.T.builtins G.T.nolimit hg hT nT C G.T.bmain hobj hints (Nat.le_trans hlen hn2) hr hF hb fun H h1 h2 => hsp H a ns hlen h1 h2
theorem roomG_caller {k : Nat} (h : Room k callerA) : RoomG k callerA := ⟨h, rfl⟩
end DD
namespace DD
open PySem PySem.Spec PyProof.Rows L2 GxR
/-! ## the end by a head with facts -/
theorem walk_ofGE {l : PySem.W.OpenLaw} {n k : Nat} {q : Program} {loose : List Str} {XP : (Str → Option Value) → Heap → Prop} {YP : World → Heap → Prop} {d : DefRec} {x : Str}
    (hn : l.most = some n) (hn2 : n ≤ sizeLine) (hdf : d.params.defaults = []) (hr : RoomG k callerA)
    (F : ∀ (w : World) (mg : Str → Option Value) (fa : Addr) (h : Heap), YP w h → h.Ns mainGlobals mg → mg d.name = some (.ref fa) → ∃ K : PySem.W.Frag, K.In h ∧ LawG l w K k n x mg fa h) :
    PySem.W.WalkO q loose XP YP l.row.toRowW d [] (fun f vs => PySem.call f vs) := by
  refine Att.attach_callB hn hdf fun w s0 s1 mg mb fa o pm cd doc a vs ns G Y ho hd hcd hmg hobj hints hlen hbits hg => ?_
  obtain ⟨K, KX, fd, cs, sp, hT, nT, C, hb, hsp, hF⟩ := F w mg fa _ Y G.T.g hmg
  exact law_callG KX G.T.g G.T.b G.T.builtins G.T.nolimit hg hT nT C G.T.bmain hobj hints (Nat.le_trans hlen hn2) hr hF hb fun H h1 h2 => hsp H a ns hlen h1 h2
section
variable {K : PySem.W.Frag} {x q : Str} {st : Stmt} {f : Addr} {fd : FuncData}
theorem fun_ofD (F : FunD K x q (defArgs st) (defBody st) (defScope st) [] [] f fd) : Fun K x q st f fd := by
  obtain ⟨⟨oc, od, dV, kV, doc, pm, an, cdv, ct, osl, e, lk, hcd, hD, _⟩, kp⟩ := F
  rcases hD with ⟨_, rfl⟩ | ⟨z, _⟩
  · exact ⟨⟨oc, od, kV, doc, pm, an, cdv, ct, osl, e, lk, hcd⟩, kp⟩
  · exact absurd rfl z
theorem funC_ofD {p : Str × Option Str} (F : FunD K x q (defArgs st) (defBody st) (defScope st) [] [] (He.fAd K p) fd) : FunC K x q st (He.codeOf K p) (He.fAd K p) fd := by
  obtain ⟨⟨oc, od, dV, kV, doc, pm, an, cdv, ct, osl, e, lk, hcd, hD, _⟩, kp⟩ := F
  obtain ⟨c, rfl⟩ := He.codeIn_ref hcd
  rcases hD with ⟨_, rfl⟩ | ⟨z, _⟩
  · have ec : He.codeOf K p = c := He.codeOf_eq lk (by rw [e])
    rw [ec]
    exact ⟨oc, od, kV, doc, pm, an, ct, osl, e, lk, hcd, kp⟩
  · exact absurd rfl z
theorem glob_int {mg : Str → Option Value} {h : Heap} {i : Int} (X : K.In h) (G : h.Ns mainGlobals mg) (c : (He.Fa.int x i).ok K = true) : GlobC K mg x (.int i) := by
  obtain ⟨t, e⟩ := He.int_ok X G c
  exact ⟨.int i, _, e, ⟨t, rfl⟩, fun H => .int i⟩
/-- ints of a written tuple -/
theorem glob_tup {mg : Str → Option Value} {h : Heap} {ns : List Int} (X : K.In h) (G : h.Ns mainGlobals mg) (c : (He.Fa.glo x).ok K = true) (t : He.tupB K x (ns.map He.Dv.int) = true) : GlobC K mg x (.tuple (ns.map .int)) := by
  refine ⟨.ref (He.ga K x), _, He.glo_ok X G c, rfl, fun H => ?_⟩
  have s := He.tupB_ok t H
  rw [List.map_map] at s
  exact .tup s (PrAll.ofInts ns)
end
/-- what stands of a def -/
theorem has_mk {T : TB} {P : Program} {w : World} {K : PySem.W.Frag} {mg : Str → Option Value} {base : Heap} {k : Nat} {x : Str} {st : Stmt} {ps : List Str} {F : FD} {f : Addr} {fd : FuncData} (a : Fun K x x st f fd) (b : mg x = some (.ref f))
    (c : ∀ (kV doc pm : Value) (an : Option Addr) (cdv ct : Value) (us : List Value), us.length = ps.length → bindArgs (PySem.W.fnOf x x (defArgs st) (defBody st) (defScope st) .none kV doc pm an cdv ct) ⟨us, []⟩ = pure (ps.zip us)) (d : FnD T P w K mg base k f fd ps F) : Has T P w K mg base k x st ps F := ⟨f, fd, a, b, a.binds c, d⟩
end DD
namespace DD
open PySem PySem.Spec PyProof.Rows L2 GxR
section
variable {X : Cx} {T : TB}
/-! ## list(range(..)), tuple(range(..)) -/
def okRg (a b : Int) : Bool := decide (0 ≤ a ∧ a ≤ 16777216 ∧ 0 ≤ b ∧ b ≤ 16777216)
theorem okRg_ok {a b : Int} (h : okRg a b = true) : RgOk a b := by
  have h := of_decide_eq_true h
  exact .of_le h.1 h.2.2.2 h.2.1 h.2.2.1
theorem rg_data {K : PySem.W.Frag} {H : Hp} (a b : Int) : PrAll K H (rgV a b) (upTo a (b - a).toNat) := by
  have z := PrAll.ofInts (K := K) (H := H) ((List.range (b - a).toNat).map fun (i : Nat) => a + (i : Int))
  rw [List.map_map, List.map_map] at z
  exact z
abbrev DRg (T : TB) (X : Cx) (e : Expr) (f : M (Int × Int)) : Prop := PRg X e fun σ H Q => ∃ G x a b x', Rel X.K T G σ H x ∧ f x = some ((a, b), x') ∧ ∀ H', Pers H H' → Rel X.K T G σ H' x' → Q a b H'
theorem PRg.wk {e : Expr} {t t' : L2.St → Hp → (Int → Int → Hp → Prop) → Prop} (h : PRg X e t) (k : ∀ σ H Q, t' σ H Q → t σ H Q) : PRg X e t' := fun pins s σ H Q I q => h pins s σ H Q I (k σ H Q q)
def rg1 (f : M Hd) : M (Int × Int) := bnd f fun h => fun x => match h with
  | .val (.int n) => some ((0, n), x)
  | _ => none
def rg2 (f g : M Hd) : M (Int × Int) := bnd f fun h => bnd g fun k => fun x => match h, k with
  | .val (.int m), .val (.int n) => some ((m, n), x)
  | _, _ => none
theorem drg_1 {e : Expr} {f : M Hd} {p pos : Pos} (hg : Gl X "range") (hm : X.mg "range" = none) (ha : DE T X e f) (na : starEach [e] X.env = (false, eval e X.env) :: starEach [] X.env := by rfl) : DRg T X (.Call (.Name "range" p) [e] [] pos) (rg1 f) := by
  refine PRg.wk (prg_1 hg hm ha na) fun σ H Q q => ?_
  obtain ⟨G, x, a, b, x', R, ee, q⟩ := q
  obtain ⟨h1, y, e1, ee⟩ := bnd_some ee
  split at ee
  · cases ee
    refine ⟨G, x, _, _, R, e1, fun v H1 p1 R1 r1 => ?_⟩
    have r1 : Pr X.K H1 v (.int _) := r1
    cases r1
    exact ⟨_, rfl, q H1 p1 R1⟩
  · cases ee
theorem drg_2 {e e2 : Expr} {f g : M Hd} {p pos : Pos} (hg : Gl X "range") (hm : X.mg "range" = none) (ha : DE T X e f) (hb : DE T X e2 g) (na : starEach [e, e2] X.env = (false, eval e X.env) :: starEach [e2] X.env := by rfl)
    (nb : starEach [e2] X.env = (false, eval e2 X.env) :: starEach [] X.env := by rfl) (hp : (backTo pos (starEach [e2] X.env)).any (·.1) = false := by rfl) : DRg T X (.Call (.Name "range" p) [e, e2] [] pos) (rg2 f g) := by
  refine PRg.wk (prg_2 hg hm ha hb na nb hp) fun σ H Q q => ?_
  obtain ⟨G, x, a, b, x', R, ee, q⟩ := q
  obtain ⟨h1, y, e1, ee⟩ := bnd_some ee
  obtain ⟨h2, z, e2, ee⟩ := bnd_some ee
  split at ee
  · cases ee
    refine ⟨G, x, _, y, R, e1, fun v H1 p1 R1 r1 => ⟨G, y, _, _, R1, e2, fun u H2 p2 R2 r2 => ?_⟩⟩
    have r1 : Pr X.K H1 v (.int _) := r1
    have r2 : Pr X.K H2 u (.int _) := r2
    cases r1
    cases r2
    exact ⟨_, _, rfl, rfl, q H2 (p1.trans p2) R2⟩
  · cases ee
def dLRg (f : M (Int × Int)) : M (List PyData) := bnd f fun ab => fun x => if okRg ab.1 ab.2 then some (upTo ab.1 (ab.2 - ab.1).toNat, x) else none
theorem df_listRg {e : Expr} {f : M (Int × Int)} {p pos : Pos} (hc : X.calm = true) (hg : Gl X "list") (hm : X.mg "list" = none) (he : DRg T X e f) (na : starEach [e] X.env = (false, eval e X.env) :: starEach [] X.env := by rfl) : DF T X (.Call (.Name "list" p) [e] [] pos) (dLRg f) := by
  refine PEw (pe_listRg hc hg hm he na) fun σ H Q q => ?_
  obtain ⟨G, x, ds, x', R, ee, q⟩ := q
  obtain ⟨⟨a, b⟩, y, e1, ee⟩ := bnd_some ee
  split at ee
  · rename_i ok
    cases ee
    refine ⟨G, x, a, b, _, R, e1, fun H1 p1 R1 => ⟨okRg_ok ok, fun p n => ?_⟩⟩
    obtain ⟨R3, f1, f2, f3⟩ := R1.fresh (xs := rgV a b) n
    exact q p _ _ (p1.trans (Ext.new n).pers) R3 upd_same (rg_data a b) f1 f2 f3
  · cases ee
def dTRg (f : M (Int × Int)) : M Hd := bnd f fun ab => fun x => if okRg ab.1 ab.2 then some (.val (.tuple (upTo ab.1 (ab.2 - ab.1).toNat)), x) else none
theorem de_tupRg {e : Expr} {f : M (Int × Int)} {p pos : Pos} (hc : X.calm = true) (hg : Gl X "tuple") (hm : X.mg "tuple" = none) (he : DRg T X e f) (na : starEach [e] X.env = (false, eval e X.env) :: starEach [] X.env := by rfl) : DE T X (.Call (.Name "tuple" p) [e] [] pos) (dTRg f) := by
  refine PEw (pe_tupRg hc hg hm he na) fun σ H Q q => ?_
  obtain ⟨G, x, ds, x', R, ee, q⟩ := q
  obtain ⟨⟨a, b⟩, y, e1, ee⟩ := bnd_some ee
  split at ee
  · rename_i ok
    cases ee
    refine ⟨G, x, a, b, _, R, e1, fun H1 p1 R1 => ⟨okRg_ok ok, fun p n => ?_⟩⟩
    exact q _ _ (p1.trans (Ext.new n).pers) (R1.ext (Ext.new n)) (.tup (.of upd_same) (rg_data a b))
  · cases ee

/-! ## a, b, c = x, y, z -/
def sPar3 (i j l : Nat) (f : M (List Hd)) : M Fl := bnd f fun hs => fun x => match escs hs with
  | some [d, e, g] => some (.nx, putS l (.val g) (putS j (.val e) (putS i (.val d) x)))
  | _ => none
theorem ds_par3 {i j l : Nat} {x y z : Str} {a b c : Expr} {f : M (List Hd)} {px py pz pt pos : Pos} {kt k2 : Nat} {pt2 : Pos} (hc : X.calm = true) (hN : X.N.Nodup) (hi : X.N[i]? = some x) (hj : X.N[j]? = some y) (hl : X.N[l]? = some z) (hij : i ≠ j) (hil : i ≠ l) (hjl : j ≠ l)
    (hx : X.env.scope.names.lookup x = some .local) (hy : X.env.scope.names.lookup y = some .local) (hz : X.env.scope.names.lookup z = some .local) (ha : DA T X [a, b, c] f)
    (hw : swappedStores [.Tuple [.Name x px, .Name y py, .Name z pz] kt pt] (.Tuple [a, b, c] k2 pt2) X.env = pure (some [x, y, z]))
    (hs : swapsWithSole [.Tuple [.Name x px, .Name y py, .Name z pz] kt pt] (.Tuple [a, b, c] k2 pt2) pos.line X.env = pure false := by rfl) : DS T X (.Assign [.Tuple [.Name x px, .Name y py, .Name z pz] kt pt] (.Tuple [a, b, c] k2 pt2) pos) (sPar3 i j l f) := by
  refine PSw (ps_par3 hc hN hi hj hl hij hil hjl hx hy hz ha hw hs) fun D σ H q => ?_
  obtain ⟨G, x, fl, x', R, e, q⟩ := q
  obtain ⟨hs, y, e1, e⟩ := bnd_some e
  split at e
  · rename_i d e' g hd
    cases e
    refine ⟨G, x, hs, y, R, e1, fun vs H1 p1 R1 r1 => ?_⟩
    have t := r1.escs hd
    cases t with
    | cons a t =>
      cases t with
      | cons b t =>
        cases t with
        | cons c t => cases t; exact ⟨_, _, _, rfl, q _ H1 p1 (((R1.put a).put b).put c)⟩
  · cases e
end
end DD
namespace DD
open PySem PySem.Spec PyProof.Rows L2 GxR

/-! ## dicts as data -/
def keyOf : PyData → Option L2.Key
  | .int i => some (.inl i)
  | .str x => some (.inr x)
  | _ => none
theorem keyOf_kD {d : PyData} {k : L2.Key} (h : keyOf d = some k) : d = kD k := by
  cases d <;> cases h <;> rfl
theorem keyOf_of (k : L2.Key) : keyOf (kD k) = some k := by cases k <;> rfl
theorem Pr.key {K : PySem.W.Frag} {H : Hp} {v : V} {k : L2.Key} (h : Pr K H v (kD k)) : v = kV k := by
  cases k with
  | inl i => cases h; rfl
  | inr x => cases h; rfl
theorem Pr.ofKey {K : PySem.W.Frag} {H : Hp} (k : L2.Key) : Pr K H (kV k) (kD k) := by
  cases k with
  | inl i => exact .int i
  | inr x => exact .str x
def keysD (des : List (PyData × PyData)) : Option (List L2.Key) := des.mapM fun p => keyOf p.1
def okKv (des : List (PyData × PyData)) : Bool := decide (des.length ≤ 15) && match keysD des with
  | some ks => decide ks.Nodup
  | none => false
def dKv : List (M Hd × M Hd) → M (List (PyData × PyData))
  | [] => ret []
  | p :: r => bnd p.1 fun hk => bnd (lift (esc hk)) fun dk => bnd p.2 fun hv => bnd (lift (esc hv)) fun dv => bnd (dKv r) fun es => ret ((dk, dv) :: es)
def dDict (l : List (M Hd × M Hd)) : M Hd := bnd (dKv l) fun des => fun x => if okKv des = true then some (.val (.dict des), x) else none

section
variable {X : Cx} {T : TB}
theorem Inv.frozenD {pins : List (Addr × Obj)} {σ : L2.St} {H : Hp} {s : Shared} {a : Addr} {kvs : List (L2.Key × V)} (I : Inv X pins σ H s) (h : H a = some (.dK kvs)) : ∃ o, Inv X pins σ (upd H a (.frz o (.dK kvs))) s := by
  have ob : ObjOk X.prog X.w H s.heap a (.dK kvs) := I.hok a _ h
  obtain ⟨hz, hy, vs, kv, o, es, ep, e, r⟩ := id ob
  refine ⟨o, ?_⟩
  have mu : Mut (H a) := by rw [h]; trivial
  have new : ObjOk X.prog X.w (upd H a (.frz o (.dK kvs))) s.heap a (.frz o (.dK kvs)) := ⟨e, hz, hy, vs, kv, o, es, ep, e, r⟩
  exact I.write (t' := s.toks) (h' := s.heap) mu (.inl rfl) (fun _ _ _ q => q) ⟨_, e⟩ new
theorem pe_frzD {e : Expr} {t : TE} (he : PE X e t) : PE X e (fun σ H Q => t σ H fun v H1 => ∃ a kvs, v = .ref a ∧ H1 a = some (.dK kvs) ∧ ∀ o, Q v (upd H1 a (.frz o (.dK kvs)))) := by
  refine ⟨fun pins s σ H Q I h => ?_⟩
  refine thn (he.run pins s σ H _ I h) fun u s1 ⟨v, H1, I1, r1, a, xs, ev, ha, q⟩ => ?_
  obtain ⟨o, I2⟩ := Inv.frozenD I1 ha
  exact ⟨v, _, I2, r1, q o⟩
theorem Rel.ghost {K : PySem.W.Frag} {G : Gh} {σ : L2.St} {H : Hp} {x : Sx} {p : Addr} (R : Rel K T G σ H x) (n : H p = none) (o : HO) : Rel K T { G with H0 := upd G.H0 p o } σ (upd H p o) x := by
  have R1 := R.ext (Ext.new (o := o) n)
  refine ⟨R1.dk, fun a u h h1 h2 => ?_, R1.len, fun i s hs => ?_, R1.sep⟩
  · have h : upd G.H0 p o a = some u := h
    by_cases e : a = p
    · subst e
      rw [upd_same] at h
      cases h
      exact .inl upd_same
    · rw [upd_ne e] at h
      exact R1.grow a u h h1 h2
  · have q := R1.slot i s hs
    cases s with
    | no => exact q
    | val d => exact q
    | deck => exact q
    | own ds =>
      obtain ⟨a, xs, h1, h2, h3, h4, h5⟩ := q
      refine ⟨a, xs, h1, h2, h3, h4, ?_⟩
      show upd G.H0 p o a = none
      rw [upd_ne]
      · exact h5
      · intro z
        obtain ⟨b, ys, g1, g2, _⟩ := R.slot i _ hs
        rw [h1] at g1
        cases g1
        rw [z, n] at g2
        cases g2
theorem Rel.free0 {K : PySem.W.Frag} {G : Gh} {σ : L2.St} {H : Hp} {x : Sx} {p : Addr} (R : Rel K T G σ H x) (n : H p = none) : p ≠ G.dk ∧ p ≠ G.cl ∧ G.H0 p = none := by
  have hc : p ≠ G.cl := fun z => by rw [z, R.dk.c] at n; cases n
  have hd : p ≠ G.dk := fun z => by rw [z, R.dk.d] at n; cases n
  refine ⟨hd, hc, ?_⟩
  cases e : G.H0 p with
  | none => rfl
  | some u => exact absurd n (R.grow p u e hd hc).some
/-- the thing of the ghost is written for good -/
theorem Rel.sealO {K : PySem.W.Frag} {G : Gh} {σ : L2.St} {H : Hp} {x : Sx} {p : Addr} {o u : HO} (R : Rel K T { G with H0 := upd G.H0 p o } σ H x) (hd : p ≠ G.dk) (hc : p ≠ G.cl) (h0 : G.H0 p = none) (hp : H p = some o) (ho : isP o = false) (hl : ∀ xs, o ≠ .lst xs) (ht : ∀ xs, o ≠ .tbl xs) :
    Pers H (upd H p u) ∧ Rel K T G σ (upd H p u) x := by
  have pe : Pers H (upd H p u) := fun b v e i => by
    rw [upd_ne]
    · exact e
    · intro z; subst z; rw [hp] at e; cases e; rw [ho] at i; cases i
  refine ⟨pe, ⟨by rw [upd_ne (Ne.symm hd)]; exact R.dk.d, by rw [upd_ne (Ne.symm hc)]; exact R.dk.c, R.dk.t.mono pe fun P ps q => by rw [upd_ne (fun z => by rw [z, hp] at q; cases q; exact ht ps rfl)]; exact q⟩, fun a v h h1 h2 => ?_, R.len, fun i s hs => ?_, R.sep⟩
  · have e : a ≠ p := fun z => by rw [z, h0] at h; cases h
    rw [upd_ne e]
    exact R.grow a v (by show upd G.H0 p o a = _; rw [upd_ne e]; exact h) h1 h2
  · have q := R.slot i s hs
    cases s with
    | no => exact q
    | val d => obtain ⟨v, h1, h2⟩ := q; exact ⟨v, h1, Pr.mono pe d h2⟩
    | deck => exact q
    | own ds =>
      obtain ⟨a, xs, h1, h2, h3, h4, h5⟩ := q
      have e : a ≠ p := fun z => by
        rw [z, hp] at h2
        cases h2
        exact hl xs rfl
      refine ⟨a, xs, h1, by rw [upd_ne e]; exact h2, PrAll.mono pe ds h3, h4, ?_⟩
      have h5 : upd G.H0 p o a = none := h5
      rw [upd_ne e] at h5
      exact h5
inductive PrPs (K : PySem.W.Frag) (H : Hp) : List (V × V) → List (PyData × PyData) → Prop
  | nil : PrPs K H [] []
  | cons {a b : V} {ps : List (V × V)} {d e : PyData} {des : List (PyData × PyData)} (h : Pr K H a d) (g : Pr K H b e) (t : PrPs K H ps des) : PrPs K H ((a, b) :: ps) ((d, e) :: des)
abbrev trD (K : PySem.W.Frag) (T : TB) (l : List (M Hd × M Hd)) : List (TE × TE) := l.map fun p => (rdE K T p.1, rdE K T p.2)
theorem pairs_run {K : PySem.W.Frag} {G : Gh} : ∀ {l : List (M Hd × M Hd)} {σ : L2.St} {H : Hp} {x x' : Sx} {des : List (PyData × PyData)} {Q : List (V × V) → Hp → Prop}, Rel K T G σ H x → dKv l x = some (des, x') →
    (∀ ps H', Pers H H' → Rel K T G σ H' x' → PrPs K H' ps des → Q ps H') → tPairs (trD K T l) σ H Q
  | [], σ, H, x, x', des, Q, R, e, q => by
    cases e
    exact q [] H (Pers.refl H) R .nil
  | p :: l, σ, H, x, x', des, Q, R, e, q => by
    unfold dKv at e
    obtain ⟨hk, y1, e1, ea⟩ := bnd_some e
    obtain ⟨dk, y1', e2, eb⟩ := bnd_some ea
    obtain ⟨ek, rfl⟩ := lift_some e2
    obtain ⟨hv, y2, e3, ec⟩ := bnd_some eb
    obtain ⟨dv, y2', e4, ed⟩ := bnd_some ec
    obtain ⟨ev, rfl⟩ := lift_some e4
    obtain ⟨es, y3, e5, ef⟩ := bnd_some ed
    cases ef
    refine ⟨G, x, hk, _, R, e1, fun a H1 p1 R1 r1 => ⟨G, _, hv, _, R1, e3, fun b H2 p2 R2 r2 => pairs_run R2 e5 fun ps H3 p3 R3 r3 => ?_⟩⟩
    exact q _ H3 (p1.trans (p2.trans p3)) R3 (.cons (Pr.mono (p2.trans p3) _ (r1.esc ek)) (Pr.mono p3 _ (r2.esc ev)) r3)
theorem PrPs.kvs {K : PySem.W.Frag} {H : Hp} : ∀ {ps : List (V × V)} {des : List (PyData × PyData)} {ks : List L2.Key}, PrPs K H ps des → keysD des = some ks →
    ∃ kvs : List (L2.Key × V), ps = kvs.map (fun kv => (kV kv.1, kv.2)) ∧ kvs.map (·.1) = ks ∧ PrKv K H kvs des
  | _, _, ks, .nil, e => by
    cases e
    exact ⟨[], rfl, rfl, .nil⟩
  | _, _, ks, @PrPs.cons _ _ a b ps d e des h g t, z => by
    unfold keysD at z
    rw [List.mapM_cons] at z
    cases hk : keyOf d with
    | none => rw [hk] at z; cases z
    | some k =>
      cases hr : keysD des with
      | none => unfold keysD at hr; rw [hk, hr] at z; cases z
      | some ks2 =>
        obtain ⟨kvs, e1, e2, e3⟩ := PrPs.kvs t hr
        unfold keysD at hr
        rw [hk, hr] at z
        cases z
        have hd := keyOf_kD hk
        subst hd
        exact ⟨(k, b) :: kvs, by rw [h.key, e1]; rfl, by rw [List.map_cons, e2], .cons g e3⟩
theorem valV_none {kvs : List (L2.Key × V)} {k : L2.Key} (h : k ∉ kvs.map (·.1)) : valV kvs k = none := by
  unfold valV
  rw [List.find?_eq_none.mpr]
  · rfl
  · intro p hp
    rw [decide_eq_true_eq]
    intro z
    exact h (List.mem_map.mpr ⟨p, hp, z⟩)
theorem mergeK_nodup : ∀ (kvs acc : List (L2.Key × V)), ((acc ++ kvs).map (·.1)).Nodup → mergeK acc kvs = acc ++ kvs
  | [], acc, _ => by rw [List.append_nil]; rfl
  | p :: r, acc, h => by
    have hn : valV acc p.1 = none := by
      refine valV_none fun hm => ?_
      rw [List.map_append, List.map_cons] at h
      exact (List.nodup_append.mp h).2.2 _ hm _ List.mem_cons_self rfl
    show mergeK (putK acc p.1 p.2) r = _
    rw [putK_new p.2 hn]
    have e : acc ++ [(p.1, p.2)] ++ r = acc ++ p :: r := by rw [List.append_assoc]; rfl
    rw [mergeK_nodup r (acc ++ [(p.1, p.2)]) (by rw [e]; exact h), e]
/-- {k: v, ..} -/
theorem de_dict {pos : Pos} {keys : List (Option Expr)} {values : List Expr} {l : List (M Hd × M Hd)} (h : PPs X pos keys values (trD X.K T l)) (hall : keys.all (·.isSome) = true) (hl : keys.length = values.length) (h0 : keys ≠ [])
    (h15 : keys.length ≤ 15) : DE T X (.Dict keys values pos) (dDict l) := by
  refine PEw (pe_frzD (pe_disp h hall hl h0 h15)) fun σ H Q q => ?_
  obtain ⟨G, x, hd, x', R, ef, q⟩ := q
  obtain ⟨des, y, e1, ef⟩ := bnd_some ef
  split at ef
  · rename_i hk
    cases ef
    intro p np
    obtain ⟨hpd, hpc, h0p⟩ := R.free0 np
    have ex := Ext.new (o := .dK []) np
    refine pairs_run (R.ghost np (.dK [])) e1 fun ps H2 p2 R2 r2 => ?_
    have hp : H2 p = some (.dK []) := (R2.grow p (.dK []) upd_same hpd hpc).eq fun ps z => by cases z
    refine ⟨hp, ?_⟩
    unfold okKv at hk
    rw [Bool.and_eq_true] at hk
    obtain ⟨k1, k2⟩ := hk
    have k1 := of_decide_eq_true k1
    split at k2
    · rename_i ks hks
      have k2 := of_decide_eq_true k2
      obtain ⟨kvs, g1, g2, g3⟩ := r2.kvs hks
      have hlen : kvs.length ≤ 15 := by
        have z1 : kvs.length = ks.length := by rw [← g2, List.length_map]
        have z2 : ps.length = kvs.length := by rw [g1, List.length_map]
        have z3 : ∀ {ps : List (V × V)} {des : List (PyData × PyData)}, PrPs X.K H2 ps des → ps.length = des.length := by
          intro ps des h
          induction h with
          | nil => rfl
          | cons _ _ _ ih => rw [List.length_cons, List.length_cons, ih]
        rw [← z2, z3 r2]; exact k1
      have em : mergeK [] kvs = kvs := mergeK_nodup kvs [] (by rw [List.nil_append, g2]; exact k2)
      refine ⟨kvs, g1, hlen, p, kvs, rfl, by rw [em]; exact upd_same, fun o => ?_⟩
      rw [em, upd_upd]
      obtain ⟨pe, R3⟩ := R2.sealO (u := .frz o (.dK kvs)) hpd hpc h0p hp rfl (fun _ z => by cases z) (fun _ z => by cases z)
      exact q _ _ (ex.pers.trans (p2.trans pe)) R3 (.dic ⟨o, upd_same⟩ (PrKv.mono pe des g3))
    · cases k2
  · cases ef
def dDict0 : M Hd := dC (.dict [])
theorem de_dict0 {pos : Pos} : DE T X (.Dict [] [] pos) dDict0 := by
  refine PEw (pe_frzD pe_dnewK) fun σ H Q q => ?_
  obtain ⟨G, x, hd, x', R, ef, q⟩ := q
  cases ef
  intro p np
  obtain ⟨hpd, hpc, h0p⟩ := R.free0 np
  refine ⟨p, [], rfl, upd_same, fun o => ?_⟩
  rw [upd_upd]
  have ex := Ext.new (o := .frz o (.dK [])) np
  exact q _ _ ex.pers (R.ext ex) (.dic ⟨o, upd_same⟩ .nil)
/-- d[k], k an int or a text -/
def ixkD : PyData → PyData → Option PyData
  | .dict des, k => match keyOf k with
    | some k => (des.find? fun p => decide (keyOf p.1 = some k)).map (·.2)
    | none => none
  | _, _ => none
theorem PrKv.find {K : PySem.W.Frag} {H : Hp} {k : L2.Key} {d : PyData} : ∀ {kvs : List (L2.Key × V)} {des : List (PyData × PyData)}, PrKv K H kvs des → (des.find? fun p => decide (keyOf p.1 = some k)).map (·.2) = some d →
    ∃ v, valV kvs k = some v ∧ Pr K H v d
  | _, _, .nil, e => by cases e
  | _, _, @PrKv.cons _ _ k2 v kvs d2 des h t, e => by
    by_cases z : k2 = k
    · subst z
      rw [List.find?_cons_of_pos (by rw [keyOf_of]; exact decide_eq_true rfl)] at e
      cases e
      exact ⟨v, valV_pos rfl, h⟩
    · rw [List.find?_cons_of_neg (by rw [keyOf_of, decide_eq_true_eq]; intro w; exact z (Option.some.inj w))] at e
      obtain ⟨u, e1, e2⟩ := PrKv.find t e
      exact ⟨u, (valV_neg z).trans e1, e2⟩
theorem rd_dget {f g : M Hd} : ∀ σ H Q, rdE X.K T (dOp ixkD f g) σ H Q → tDGet (rdE X.K T f) (rdE X.K T g) σ H Q := fun σ H Q q => by
  obtain ⟨G, x, h, x', R, ef, q⟩ := q
  obtain ⟨h1, y, e1, ef⟩ := bnd_some ef
  obtain ⟨h2, z, e2, ef⟩ := bnd_some ef
  split at ef
  · rename_i d e hd he
    split at ef
    · rename_i c hc
      cases ef
      refine ⟨G, x, h1, y, R, e1, fun v H1 p1 R1 r1 => ⟨G, y, h2, x', R1, e2, fun u H2 p2 R2 r2 => ?_⟩⟩
      have b1 := RH.deref R2 (r1.mono p2) hd
      have b2 := RH.deref R2 r2 he
      unfold ixkD at hc
      split at hc
      · rename_i des
        split at hc
        · rename_i k hk
          obtain ⟨a, kvs, rfl, ⟨o, r⟩, t⟩ | ⟨_, xt, _, _, _, edes⟩ := b1.dict
          case inr =>
            exfalso
            rw [edes] at hc
            have : (xt.map tkD).find? (fun p => decide (keyOf p.1 = some k)) = none := by
              rw [List.find?_eq_none]
              intro p hp
              obtain ⟨x, _, rfl⟩ := List.mem_map.mp hp
              exact fun z => by cases of_decide_eq_true z
            rw [this] at hc
            cases hc
          obtain ⟨w, g1, g2⟩ := t.find hc
          have ek := keyOf_kD hk
          subst ek
          have eu : u = kV k := by
            cases k with
            | inl i => exact b2.int
            | inr i => exact b2.str
          exact ⟨a, w, rfl, .inl ⟨kvs, k, .inr ⟨o, r⟩, eu, g1.symm⟩, q w H2 (p1.trans p2) R2 g2⟩
        · cases hc
      · cases hc
    · cases ef
  · cases ef
theorem de_dget {a b : Expr} {f g : M Hd} {pos : Pos} {k : Nat} (hr : RoomG k X.A) (ha : DE T X a f) (hb : DE T X b g) (hs : NoSl b) : DE T X (.Subscript a b pos) (dOp ixkD f g) :=
  PEw (pe_dget (by have := units65 hr; omega) ha hb hs) rd_dget
end
end DD
namespace DD
open PySem PySem.Spec PyProof.Rows L2 GxR

/-! ## t[::-1] of a tuple -/
section
variable {prog : Program} {w : World} {A : Around} {E : Value → Shared → Prop} {s : Shared}
theorem applied_back {sl : Addr} {vl vu vs : Value} {n : Nat} {Q : Int × Int × Nat → Shared → Prop} (hs : s.heap.IsSliceOf sl vl vu vs) (pl : IsPart vl none) (pu : IsPart vu none) (ps : IsPart vs (some (-1)))
    (h : Q ((n : Int) - 1, -1, n) s) : wpAny (model prog w) A (Builtin.Slice.sliceApplied (.ref sl) (pure (n : Int))) Q E s := by
  obtain ⟨ob, hob, hcls, hdat⟩ := id hs
  have ea : Builtin.Slice.sliceAdjust none none (-1) (n : Int) = ((n : Int) - 1, -1) := by rfl
  have ep : Builtin.Slice.slicePlaces ((n : Int) - 1) (-1) (-1) = n := by
    unfold Builtin.Slice.slicePlaces
    rw [if_neg (by decide)]
    by_cases h : (n : Int) - 1 > -1
    · rw [if_pos h, show (- -1 : Int) = 1 by decide, Int.ediv_one]
      omega
    · rw [if_neg h]
      omega
  unfold Builtin.Slice.sliceApplied Builtin.Slice.sliceFields
  refine wpAny_bind (wpAny_bind (wpAny_field hob hdat (x := vl) rfl (wpAny_bind (wpAny_field hob hdat (x := vu) rfl (wpAny_bind (wpAny_field hob hdat (x := vs) rfl (wpAny_pure ?_)))))))
  refine wpAny_bind (HT.slicePart_ ps ?_)
  show wpAny _ _ (if ((-1 : Int) == 0) = true then _ else _) _ _ s
  rw [if_neg (by decide)]
  refine wpAny_bind (HT.slicePart_ pl (wpAny_bind (HT.slicePart_ pu (wpAny_bind (wpAny_pure ?_)))))
  show wpAny _ _ (match Builtin.Slice.sliceAdjust none none (-1) (n : Int) with | (lo, hi) => pure (lo, (-1 : Int), Builtin.Slice.slicePlaces lo hi (-1))) _ _ s
  rw [ea]
  show wpAny _ _ (pure ((n : Int) - 1, (-1 : Int), Builtin.Slice.slicePlaces ((n : Int) - 1) (-1) (-1))) _ _ s
  rw [ep]
  exact wpAny_pure h
theorem pick_back (xs : Array Value) : ((List.range xs.size).filterMap fun (m : Nat) => xs[(((xs.size : Int) - 1) + (m : Int) * (-1)).toNat]?).toArray = xs.toList.reverse.toArray := by
  have e : (List.range xs.size).filterMap (fun (m : Nat) => xs[(((xs.size : Int) - 1) + (m : Int) * (-1)).toNat]?) = ((List.range xs.size).map fun m => xs.size - 1 - m).filterMap (xs[·]?) := by
    rw [List.filterMap_map]
    have go : ∀ l : List Nat, (∀ m ∈ l, m < xs.size) → l.filterMap (fun (m : Nat) => xs[(((xs.size : Int) - 1) + (m : Int) * (-1)).toNat]?) = l.filterMap ((xs[·]?) ∘ fun m => xs.size - 1 - m) := by
      intro l
      induction l with
      | nil => intro _; rfl
      | cons m l ih =>
        intro hl
        have h := hl m List.mem_cons_self
        have e2 : (((xs.size : Int) - 1) + (m : Int) * (-1)).toNat = xs.size - 1 - m := by omega
        rw [List.filterMap_cons, List.filterMap_cons, ih fun z hz => hl z (List.mem_cons_of_mem _ hz), e2]
        rfl
    exact go _ fun m hm => List.mem_range.mp hm
  rw [e, PySem.W.krv_range, List.filterMap_reverse, PySem.W.krv_all]
theorem getItem_tup_back {t sl : Addr} {items : Array Value} {vl vu vs : Value} {Q : Value → Shared → Prop} (ht : IsTup s.heap t items) (hs : s.heap.IsSliceOf sl vl vu vs) (pl : IsPart vl none) (pu : IsPart vu none) (ps : IsPart vs (some (-1)))
    (h : Q (.ref s.heap.objs.size) { s with heap := s.heap.push { cls := .type "tuple", data := .seq items.toList.reverse.toArray } }) (hsz : items.size ≤ sizeLine) : wpAny (model prog w) A (getItem (.ref t) (.ref sl)) Q E s := by
  have hlen : sizeOk (.seq items.toList.reverse.toArray) := by
    show items.toList.reverse.toArray.size ≤ sizeLine
    rw [List.size_toArray, List.length_reverse, Array.length_toList]
    exact hsz
  obtain ⟨ob, hob, hcls, hdat⟩ := id hs
  have hT : s.TypeIs (.ref sl) "slice" := ⟨ob, hob, hcls⟩
  unfold getItem
  try with_reducible refine wpAny_holding ?_
  first | refine wpAny_bind (wpAny_pure ?_) | skip
  refine wpAny_bind (wpAny_sequenceKey ht.typeIs (by decide) ?_)
  refine wpAny_bind (wpAny_callSpecial?_slot (name := Str.ofString "__getitem__") ht.typeIs PyProof.Rows.slot_tuple_getitem
    (wpAny_call_entry PyProof.Rows.slot_tuple_getitem ht.typeIs PyProof.Rows.entry_tuple_getitem ?_ (PyProof.Rows.args_tuple_getitem _ _)))
  show wpAny _ _ (Builtin.Tuple.tupleItemsOf (.ref t) >>= _) _ _ s
  refine wpAny_bind (PyProof.Rows.tupleItemsOf_ ht ?_)
  refine wpAny_bind (wpAny_typeOf hT ?_)
  rw [if_pos (by decide)]
  refine wpAny_bind (applied_back hs pl pu ps ?_)
  have hno : ¬ ((((items.size : Int) - 1) == 0 && (-1 : Int) == 1 && items.size == items.size) = true) := by
    intro q
    rw [Bool.and_eq_true, Bool.and_eq_true] at q
    exact absurd q.1.2 (by decide)
  show wpAny _ _ (if (((items.size : Int) - 1) == 0 && (-1 : Int) == 1 && items.size == items.size) = true then _ else _) _ _ s
  rw [if_neg hno, pick_back]
  first
    | exact wpAny_bind (m := Builtin.Tuple.tupleExact _) (wpAny_newObj_type (wpAny_pure ⟨_, rfl, wpAny_pure h⟩) hlen)
    | exact wpAny_bind (m := Builtin.Tuple.tupleExact _) (wpAny_newObj_type (wpAny_bind (wpAny_pure (wpAny_pure ⟨_, rfl, wpAny_pure h⟩))) hlen)
    | exact wpAny_bind (wpAny_bind (m := Builtin.Tuple.tupleExact _) (wpAny_newObj_type (wpAny_pure (wpAny_pure ⟨_, rfl, wpAny_pure h⟩)) hlen))
    | exact wpAny_bind (wpAny_bind (m := Builtin.Tuple.tupleExact _) (wpAny_newObj_type (wpAny_pure ⟨_, rfl, wpAny_pure h⟩) hlen))
end
section
variable {X : Cx} {T : TB}
/-- e[::-1], a list or a tuple -/
def tRevA (K : PySem.W.Frag) (te : TE) : TE := fun σ H Q => te σ H fun x H1 => ∃ a xs, x = .ref a ∧ ((SqL K H1 a xs ∧ ∀ p, H1 p = none → Q (.ref p) (upd H1 p (.lst xs.reverse))) ∨ (SqT K H1 a xs ∧ ∀ p, H1 p = none → Q (.ref p) (upd H1 p (.tup xs.reverse))))
theorem pe_revA {e : Expr} {te : TE} {k : Nat} {p1 p2 p3 pos : Pos} (he : PE X e te) : PE X (.Subscript e (.Slice none none (some (.UnaryOp .USub (.Constant (.int 1) k p1) p2)) p3) pos) (tRevA X.K te) := by
  refine ⟨fun pins s σ H Q I h => ?_⟩
  refine Subscript_ (thn (he.run pins s σ H _ I h) fun v s1 ⟨x, H1, I1, r1, z1⟩ => ?_)
  obtain ⟨a, xs, ez, z1⟩ := z1
  subst ez
  cases r1
  have step : PO X (some (.UnaryOp .USub (.Constant (.int 1) k p1) p2)) (tPart (tUn (rU fun i => .int (-i)) (tC (.int 1)))) := po_some (pe_un un_neg pe_int)
  refine wpAny_Slice (thn (po_none.run pins s1 σ H1 (fun o Ha => o = none ∧ Ha = H1) I1 ⟨rfl, rfl⟩) fun vl s2 ⟨l, H2, I2, pl, el, e2⟩ => ?_)
  subst el e2
  refine thn (po_none.run pins s2 σ H2 (fun o Ha => o = none ∧ Ha = H2) I2 ⟨rfl, rfl⟩) fun vu s3 ⟨u, H3, I3, pu, eu, e3⟩ => ?_
  subst eu e3
  refine thn (step.run pins s3 σ H3 (fun o Ha => o = some (-1) ∧ Ha = H3) I3 ⟨1, rfl, -1, rfl, rfl, rfl⟩) fun vs s4 ⟨o, H4, I4, ps, eo, e4⟩ => ?_
  subst eo e4
  have I5 : Inv X pins σ H4 { s4 with heap := s4.heap.push { cls := .type "slice", data := .fields #[vl, vu, vs] } } := I4.kept (t' := s4.toks) fun b ob q => Heap.get?_push_of_some _ q
  rcases z1 with ⟨hx, q⟩ | ⟨hx, q⟩
  · obtain ⟨its, r, ht, hz⟩ := I5.list hx
    have hl := r.length
    show wpAny (model X.prog X.w) X.A (subscriptTail e (.Slice none none (some (.UnaryOp .USub (.Constant (.int 1) k p1) p2)) p3) (.ref a) (.ref s4.heap.objs.size)) (EP X pins σ Q) X.xe _
    refine tail_any (ops := [.ref a, .ref s4.heap.objs.size]) ht.isList.typeIs (PySem.slot_list_getitem.lookup) ?_ (by with_unfolding_all rfl)
    refine wpAny_getItem_list_slice ht.isList (Heap.IsSliceOf.new _ vl vu vs) pl pu ps (by decide) ?_ (by rw [List.size_toArray]; omega)
    rw [PySem.W.krv_pick]
    refine ⟨.ref _, _, I5.laid (t' := s4.toks) (o := .lst xs.reverse) (fun b ob q => Heap.get?_push_of_some _ q) (Nat.le_refl _) ?_, rfl, q _ (I5.hok.fresh (Nat.le_refl _))⟩
    exact ⟨by rw [List.length_reverse]; exact hz, _, 0, r.reverse, Heap.get?_push_size _ rfl⟩
  · obtain ⟨its, r, ht, hz⟩ := I5.tuple hx
    have hl := r.length
    show wpAny (model X.prog X.w) X.A (subscriptTail e (.Slice none none (some (.UnaryOp .USub (.Constant (.int 1) k p1) p2)) p3) (.ref a) (.ref s4.heap.objs.size)) (EP X pins σ Q) X.xe _
    refine tail_any (ops := [.ref a, .ref s4.heap.objs.size]) (IsTup.typeIs ht) (PyProof.Rows.slot_tuple_getitem.lookup) ?_ (by with_unfolding_all rfl)
    refine getItem_tup_back ht (Heap.IsSliceOf.new _ vl vu vs) pl pu ps ?_ (by rw [List.size_toArray]; omega)
    refine ⟨.ref _, _, I5.laid (t' := s4.toks) (o := .tup xs.reverse) (fun b ob q => Heap.get?_push_of_some _ q) (Nat.le_refl _) ?_, rfl, q _ (I5.hok.fresh (Nat.le_refl _))⟩
    exact ⟨by rw [List.length_reverse]; exact hz, _, r.reverse, IsTup.new _ _⟩
def revD : PyData → Option PyData
  | .list ds => some (.list ds.reverse)
  | .tuple ds => some (.tuple ds.reverse)
  | _ => none
def dRev (f : M Hd) : M Hd := bnd f fun h => fun x => match deref h x with
  | some d => match revD d with
    | some c => some (.val c, x)
    | none => none
  | none => none
theorem de_rev {e : Expr} {f : M Hd} {k : Nat} {p1 p2 p3 pos : Pos} (he : DE T X e f) : DE T X (.Subscript e (.Slice none none (some (.UnaryOp .USub (.Constant (.int 1) k p1) p2)) p3) pos) (dRev f) := by
  have fz : PE X (.Subscript e (.Slice none none (some (.UnaryOp .USub (.Constant (.int 1) k p1) p2)) p3) pos) (fun σ H Q => tRevA X.K (rdE X.K T f) σ H fun v H1 => Q v H1 ∨ ∃ a xs, v = .ref a ∧ H1 a = some (.lst xs) ∧ ∀ o, Q v (upd H1 a (.frz o (.lst xs)))) :=
    ⟨fun pins s σ H Q I h => thn ((pe_revA he).run pins s σ H _ I h) fun _ _ z => EP.frz z⟩
  refine PEw fz fun σ H Q q => ?_
  obtain ⟨G, x, h, x', R, ef, q⟩ := q
  obtain ⟨h1, y, e1, ef⟩ := bnd_some ef
  split at ef
  · rename_i d hd
    split at ef
    · rename_i c hc
      cases ef
      refine ⟨G, x, h1, _, R, e1, fun v H1 p1 R1 r1 => ?_⟩
      have b := RH.deref R1 r1 hd
      have cont : Cont X.K H1 c Q := fun w H3 p3 g3 k3 => q w H3 (p1.trans p3) (R1.grown g3) k3
      unfold revD at hc
      split at hc
      · cases hc
        obtain ⟨a, us, rfl, s1, t1⟩ := b.list
        exact ⟨a, us, rfl, .inl ⟨.inl s1, fun p np => Cont.lst cont t1.rev np⟩⟩
      · cases hc
        obtain ⟨a, us, rfl, s1, t1⟩ := b.tuple
        exact ⟨a, us, rfl, .inr ⟨s1, fun p np => .inl (Cont.tup cont t1.rev np)⟩⟩
      · cases hc
    · cases ef
  · cases ef

/-! ## str(n), str(text), abs(n) -/
def strD : FB
  | [.int i] => if i.natAbs.log2 < 1920 then some (.str (toString i)) else none
  | [.str x] => some (.str x)
  | [.bool b] => some (.str (if b then "True" else "False"))
  | _ => none
theorem call_str_bool : CallR X (.type "str") (fun xs H Q => ∃ b : Bool, xs = [.bl b] ∧ Q (.str (if b then "True" else "False")) H) := by
  intro pins s σ H xs us Q I r h
  obtain ⟨b, rfl, q⟩ := h
  obtain ⟨u, rfl, r1⟩ := vals1 r
  cases r1
  exact PySem.P.str_of_bool ⟨.str _, H, I.tok _, ⟨_, rfl⟩, q⟩
theorem ca_str : CallD X (.type "str") strD := by
  refine CallR.wk' (call_str_int.or (SkE.call_str_str.or call_str_bool)) fun vs H Q q => ?_
  obtain ⟨ds, c, t, e, q⟩ := q
  unfold strD at e
  split at e
  · split at e
    · cases e
      cases t with
      | cons b t => cases t; rw [b.int]; exact .inl ⟨_, rfl, ‹_›, q.now (.str _)⟩
    · cases e
  · cases e
    cases t with
    | cons b t => cases t; rw [b.str]; exact .inr (.inl ⟨_, rfl, q.now (.str _)⟩)
  · cases e
    cases t with
    | cons b t => cases t; rw [b.bool]; exact .inr (.inr ⟨_, rfl, q.now (.str _)⟩)
  · cases e
def absD : FB
  | [.int i] => some (.int (if i < 0 then -i else i))
  | _ => none
theorem ca_abs : CallD X (.builtin "abs") absD := by
  refine CallR.wk' call_abs fun vs H Q q => ?_
  obtain ⟨ds, c, t, e, q⟩ := q
  unfold absD at e
  split at e
  · cases e
    cases t with
    | cons b t => cases t; rw [b.int]; exact ⟨_, rfl, q.now (.int _)⟩
  · cases e
/-- an expression that is not met -/
theorem de_never {e : Expr} : DE T X e fail := ⟨fun pins s σ H Q I ⟨G, x, h, x', R, e, q⟩ => by cases e⟩
theorem dt_never {e : Expr} : DT T X e fail := ⟨fun pins s σ H Q I ⟨G, x, h, x', R, e, q⟩ => by cases e⟩
/-- a def that is never met -/
def fNone : FD := fun _ _ => none
theorem fnD_none {P : Program} {w : World} {K : PySem.W.Frag} {mg : Str → Option Value} {base : Heap} {k : Nat} {f : Addr} {fd : FuncData} {ps : List Str} : FnD T P w K mg base k f fd ps fNone :=
  ⟨(fun _ _ _ _ h => by obtain ⟨_, _, _, _, _, _, _, _, _, e, _⟩ := h; cases e), fun _ _ _ _ _ _ _ _ _ _ _ _ _ h => by obtain ⟨_, _, _, _, _, _, _, _, _, e, _⟩ := h; cases e⟩
end
end DD
namespace DD
open PySem PySem.Spec PyProof.Rows L2 GxR
/-! ## what a body does, read off by simp: what is not settled yet is not looked into -/
/-- m comes to an end at x, and Q holds of it -/
def Wp {α : Type} (m : M α) (x : Sx) (Q : α → Sx → Prop) : Prop := ∃ a y, m x = some (a, y) ∧ Q a y
/-- the def answers, and Q holds of it -/
def Fp (F : FD) (hs : List Hd) (k : Dk) (Q : PyData → Dk → Prop) : Prop := ∃ r k', F hs k = some (r, k') ∧ Q r k'
def onS {α : Type} (o : Option α) (Q : α → Prop) : Prop := match o with
  | some b => Q b
  | none => False
def onB (h : Hd) (Q : Bool → Prop) : Prop := match h with
  | .val (.bool b) => Q b
  | _ => False
def onI (h : Hd) (Q : Int → Prop) : Prop := match h with
  | .val (.int b) => Q b
  | _ => False
def on1 (l : List PyData) (Q : PyData → Prop) : Prop := match l with
  | [d] => Q d
  | _ => False
def on2 (l : List PyData) (Q : PyData → PyData → Prop) : Prop := match l with
  | [d, e] => Q d e
  | _ => False
def on3 (l : List PyData) (Q : PyData → PyData → PyData → Prop) : Prop := match l with
  | [d, e, c] => Q d e c
  | _ => False
def onI1 (l : List PyData) (Q : Int → Prop) : Prop := match l with
  | [.int i] => Q i
  | _ => False
def onI2 (l : List PyData) (Q : Int → Int → Prop) : Prop := match l with
  | [.int i, .int j] => Q i j
  | _ => False
def onH (s : Option Slot) (i : Nat) (Q : Hd → Prop) : Prop := match s with
  | some (.val d) => Q (.val d)
  | some (.own _) => Q (.own i)
  | some .deck => Q .deck
  | _ => False
def onOwn (s : Option Slot) (Q : List PyData → Prop) : Prop := match s with
  | some (.own ds) => Q ds
  | _ => False
def onVI (s : Option Slot) (Q : Int → Prop) : Prop := match s with
  | some (.val (.int i)) => Q i
  | _ => False
def onT (o : Option PyData) (Q : Bool → Prop) : Prop := match o with
  | some (.bool b) => Q b
  | _ => False
def onN {α : Type} (s : α) (Q : α → Prop) : Prop := Q s
def onTup (d : PyData) (Q : List PyData → Prop) : Prop := match d with
  | .tuple ds => Q ds
  | _ => False
def onC (l : List PyData) (Q : PyData → List PyData → Prop) : Prop := match l with
  | d :: r => Q d r
  | [] => False
def onL (o : Option (List PyData)) (Q : List PyData → Prop) : Prop := match o with
  | some [.list ds] => Q ds
  | _ => False
def onLT (o : Option (List PyData)) (Q : List PyData → Prop) : Prop := match o with
  | some [.list ds] => Q ds
  | some [.tuple ds] => Q ds
  | _ => False
/-- what follows a statement -/
def Nxt (g : M Fl) (Q : Fl → Sx → Prop) : Fl → Sx → Prop
  | .nx, y => Wp g y Q
  | .bk, y => Q .bk y
  | .ct, y => Q .ct y
  | .rt d, y => Q (.rt d) y
/-- where a def's body ends -/
def Rtn (Q : PyData → Dk → Prop) : Fl → Sx → Prop
  | .rt d, y => Q d y.2
  | .nx, y => Q .none y.2
  | _, _ => False
section
variable {α β : Type} {x : Sx}
theorem wp_congr {m : M α} {y : Sx} {Q : α → Sx → Prop} (h : x = y) : Wp m x Q = Wp m y Q := by rw [h]
theorem fp_congr {F : FD} {hs gs : List Hd} {k k' : Dk} {Q : PyData → Dk → Prop} (h : hs = gs) (g : k = k') : Fp F hs k Q = Fp F gs k' Q := by rw [h, g]
theorem onS_congr {o p : Option α} {Q : α → Prop} (h : o = p) : onS o Q = onS p Q := by rw [h]
theorem onB_congr {o p : Hd} {Q : Bool → Prop} (h : o = p) : onB o Q = onB p Q := by rw [h]
theorem onI_congr {o p : Hd} {Q : Int → Prop} (h : o = p) : onI o Q = onI p Q := by rw [h]
theorem on1_congr {o p : List PyData} {Q : PyData → Prop} (h : o = p) : on1 o Q = on1 p Q := by rw [h]
theorem on2_congr {o p : List PyData} {Q : PyData → PyData → Prop} (h : o = p) : on2 o Q = on2 p Q := by rw [h]
theorem on3_congr {o p : List PyData} {Q : PyData → PyData → PyData → Prop} (h : o = p) : on3 o Q = on3 p Q := by rw [h]
theorem onI1_congr {o p : List PyData} {Q : Int → Prop} (h : o = p) : onI1 o Q = onI1 p Q := by rw [h]
theorem onI2_congr {o p : List PyData} {Q : Int → Int → Prop} (h : o = p) : onI2 o Q = onI2 p Q := by rw [h]
theorem onH_congr {o p : Option Slot} {i : Nat} {Q : Hd → Prop} (h : o = p) : onH o i Q = onH p i Q := by rw [h]
theorem onOwn_congr {o p : Option Slot} {Q : List PyData → Prop} (h : o = p) : onOwn o Q = onOwn p Q := by rw [h]
theorem onVI_congr {o p : Option Slot} {Q : Int → Prop} (h : o = p) : onVI o Q = onVI p Q := by rw [h]
theorem onT_congr {o p : Option PyData} {Q : Bool → Prop} (h : o = p) : onT o Q = onT p Q := by rw [h]
theorem onN_congr {o p : α} {Q : α → Prop} (h : o = p) : onN o Q = onN p Q := by rw [h]
theorem onTup_congr {o p : PyData} {Q : List PyData → Prop} (h : o = p) : onTup o Q = onTup p Q := by rw [h]
theorem onC_congr {o p : List PyData} {Q : PyData → List PyData → Prop} (h : o = p) : onC o Q = onC p Q := by rw [h]
theorem onL_congr {o p : Option (List PyData)} {Q : List PyData → Prop} (h : o = p) : onL o Q = onL p Q := by rw [h]
theorem onLT_congr {o p : Option (List PyData)} {Q : List PyData → Prop} (h : o = p) : onLT o Q = onLT p Q := by rw [h]
theorem nxt_congr {g : M Fl} {Q : Fl → Sx → Prop} {f f' : Fl} {y y' : Sx} (h : f = f') (k : y = y') : Nxt g Q f y = Nxt g Q f' y' := by rw [h, k]
theorem rtn_congr {Q : PyData → Dk → Prop} {f f' : Fl} {y y' : Sx} (h : f = f') (k : y = y') : Rtn Q f y = Rtn Q f' y' := by rw [h, k]
@[simp] theorem onS_some {b : α} {Q : α → Prop} : onS (some b) Q ↔ Q b := Iff.rfl
@[simp] theorem onS_none {Q : α → Prop} : onS none Q ↔ False := Iff.rfl
@[simp] theorem onB_val {b : Bool} {Q : Bool → Prop} : onB (.val (.bool b)) Q ↔ Q b := Iff.rfl
@[simp] theorem onI_val {b : Int} {Q : Int → Prop} : onI (.val (.int b)) Q ↔ Q b := Iff.rfl
@[simp] theorem on1_val {d : PyData} {Q : PyData → Prop} : on1 [d] Q ↔ Q d := Iff.rfl
@[simp] theorem on2_val {d e : PyData} {Q : PyData → PyData → Prop} : on2 [d, e] Q ↔ Q d e := Iff.rfl
@[simp] theorem on3_val {d e c : PyData} {Q : PyData → PyData → PyData → Prop} : on3 [d, e, c] Q ↔ Q d e c := Iff.rfl
@[simp] theorem onI1_val {d : Int} {Q : Int → Prop} : onI1 [.int d] Q ↔ Q d := Iff.rfl
@[simp] theorem onI2_val {d e : Int} {Q : Int → Int → Prop} : onI2 [.int d, .int e] Q ↔ Q d e := Iff.rfl
@[simp] theorem onH_val {d : PyData} {i : Nat} {Q : Hd → Prop} : onH (some (.val d)) i Q ↔ Q (.val d) := Iff.rfl
@[simp] theorem onH_own {d : List PyData} {i : Nat} {Q : Hd → Prop} : onH (some (.own d)) i Q ↔ Q (.own i) := Iff.rfl
@[simp] theorem onH_deck {i : Nat} {Q : Hd → Prop} : onH (some .deck) i Q ↔ Q .deck := Iff.rfl
@[simp] theorem onOwn_own {d : List PyData} {Q : List PyData → Prop} : onOwn (some (.own d)) Q ↔ Q d := Iff.rfl
@[simp] theorem onVI_val {i : Int} {Q : Int → Prop} : onVI (some (.val (.int i))) Q ↔ Q i := Iff.rfl
@[simp] theorem onT_val {b : Bool} {Q : Bool → Prop} : onT (some (.bool b)) Q ↔ Q b := Iff.rfl
@[simp] theorem onN_is {s : α} {Q : α → Prop} : onN s Q ↔ Q s := Iff.rfl
@[simp] theorem onTup_val {ds : List PyData} {Q : List PyData → Prop} : onTup (.tuple ds) Q ↔ Q ds := Iff.rfl
@[simp] theorem onC_cons {d : PyData} {r : List PyData} {Q : PyData → List PyData → Prop} : onC (d :: r) Q ↔ Q d r := Iff.rfl
@[simp] theorem onL_list {d : List PyData} {Q : List PyData → Prop} : onL (some [.list d]) Q ↔ Q d := Iff.rfl
@[simp] theorem onLT_list {d : List PyData} {Q : List PyData → Prop} : onLT (some [.list d]) Q ↔ Q d := Iff.rfl
@[simp] theorem onLT_tuple {d : List PyData} {Q : List PyData → Prop} : onLT (some [.tuple d]) Q ↔ Q d := Iff.rfl
@[simp] theorem nxt_nx {g : M Fl} {Q : Fl → Sx → Prop} : Nxt g Q .nx x ↔ Wp g x Q := Iff.rfl
@[simp] theorem nxt_bk {g : M Fl} {Q : Fl → Sx → Prop} : Nxt g Q .bk x ↔ Q .bk x := Iff.rfl
@[simp] theorem nxt_ct {g : M Fl} {Q : Fl → Sx → Prop} : Nxt g Q .ct x ↔ Q .ct x := Iff.rfl
@[simp] theorem nxt_rt {g : M Fl} {Q : Fl → Sx → Prop} {d : PyData} : Nxt g Q (.rt d) x ↔ Q (.rt d) x := Iff.rfl
@[simp] theorem rtn_rt {Q : PyData → Dk → Prop} {d : PyData} : Rtn Q (.rt d) x ↔ Q d x.2 := Iff.rfl
@[simp] theorem rtn_nx {Q : PyData → Dk → Prop} : Rtn Q .nx x ↔ Q .none x.2 := Iff.rfl
theorem Wp.mono {m : M α} {Q R : α → Sx → Prop} (h : Wp m x Q) (k : ∀ a y, Q a y → R a y) : Wp m x R := let ⟨a, y, e, q⟩ := h; ⟨a, y, e, k a y q⟩
theorem Fp.mono {F : FD} {hs : List Hd} {k : Dk} {Q R : PyData → Dk → Prop} (h : Fp F hs k Q) (g : ∀ a y, Q a y → R a y) : Fp F hs k R := let ⟨a, y, e, q⟩ := h; ⟨a, y, e, g a y q⟩
theorem Fp.of {F : FD} {hs : List Hd} {k k' : Dk} {r : PyData} {Q : PyData → Dk → Prop} (e : F hs k = some (r, k')) : Fp F hs k Q ↔ Q r k' :=
  ⟨fun ⟨a, y, z, q⟩ => by rw [e] at z; cases z; exact q, fun q => ⟨r, k', e, q⟩⟩
theorem Fp.eq {F : FD} {hs : List Hd} {k k' : Dk} {r : PyData} (h : Fp F hs k fun a y => a = r ∧ y = k') : F hs k = some (r, k') := by
  obtain ⟨a, y, e, rfl, rfl⟩ := h; exact e
/-- a def that answers so, whatever is wished -/
theorem Fp.all {F : FD} {hs : List Hd} {k k' : Dk} {r : PyData} (h : Fp F hs k fun a y => a = r ∧ y = k') (Q : PyData → Dk → Prop) : Fp F hs k Q ↔ Q r k' := Fp.of (Fp.eq h)
theorem Wp.eq {m : M α} {a : α} {y : Sx} (h : Wp m x fun b z => b = a ∧ z = y) : m x = some (a, y) := by
  obtain ⟨b, z, e, rfl, rfl⟩ := h; exact e
theorem Wp.of {m : M α} {a : α} {y : Sx} {Q : α → Sx → Prop} (e : m x = some (a, y)) : Wp m x Q ↔ Q a y :=
  ⟨fun ⟨b, z, w, q⟩ => by rw [e] at w; cases w; exact q, fun q => ⟨a, y, e, q⟩⟩
theorem wp_opt {m : M α} {Q : α → Sx → Prop} : Wp m x Q ↔ onS (m x) fun p => Q p.1 p.2 := by
  unfold Wp
  cases e : m x with
  | none => exact ⟨fun ⟨_, _, z, _⟩ => (by cases z), fun z => False.elim z⟩
  | some p => exact ⟨fun ⟨_, _, z, q⟩ => (by cases z; exact q), fun q => ⟨p.1, p.2, rfl, q⟩⟩
@[simp] theorem wp_bnd {m : M α} {f : α → M β} {Q : β → Sx → Prop} : Wp (bnd m f) x Q ↔ Wp m x fun a y => Wp (f a) y Q := by
  rw [wp_opt, wp_opt]
  unfold bnd
  cases m x with
  | none => exact Iff.rfl
  | some p => exact wp_opt.symm
@[simp] theorem wp_ret {a : α} {Q : α → Sx → Prop} : Wp (ret a) x Q ↔ Q a x := wp_opt
@[simp] theorem wp_fail {Q : α → Sx → Prop} : Wp (fail : M α) x Q ↔ False := wp_opt
@[simp] theorem wp_lift {o : Option α} {Q : α → Sx → Prop} : Wp (lift o) x Q ↔ onS o fun a => Q a x := by
  rw [wp_opt]
  cases o <;> exact Iff.rfl
theorem wp_step {m : M α} {f : α → M β} {Q : β → Sx → Prop} {R : α → Sx → Prop} (h : ∀ a y, Wp (f a) y Q ↔ R a y) : Wp (bnd m f) x Q ↔ Wp m x R := by
  rw [wp_bnd]
  exact exists_congr fun a => exists_congr fun y => and_congr_right fun _ => h a y
@[simp] theorem wp_dV {i : Nat} {Q : Hd → Sx → Prop} : Wp (dV i) x Q ↔ onH x.1[i]? i fun h => Q h x := by
  rw [wp_opt]
  unfold dV
  rcases x.1[i]? with _ | s
  · exact Iff.rfl
  · cases s <;> exact Iff.rfl
@[simp] theorem wp_dC {d : PyData} {Q : Hd → Sx → Prop} : Wp (dC d) x Q ↔ Q (.val d) x := wp_ret
@[simp] theorem wp_aNil {Q : List Hd → Sx → Prop} : Wp aNil x Q ↔ Q [] x := wp_ret
@[simp] theorem wp_aCons {f : M Hd} {g : M (List Hd)} {Q : List Hd → Sx → Prop} : Wp (aCons f g) x Q ↔ Wp f x fun h y => Wp g y fun hs z => Q (h :: hs) z :=
  wp_step fun h y => wp_step fun hs z => wp_ret
@[simp] theorem esc_val {d : PyData} : esc (.val d) = some d := rfl
@[simp] theorem deref_val {d : PyData} : deref (.val d) x = some d := rfl
@[simp] theorem escs_nil : escs [] = some [] := rfl
@[simp] theorem escs_val {d : PyData} {hs : List Hd} : escs (.val d :: hs) = (escs hs).map (d :: ·) := by
  show (match some d, escs hs with | some d, some ds => some (d :: ds) | _, _ => none) = _
  cases escs hs <;> rfl
@[simp] theorem derefs_nil : derefs [] x = some [] := rfl
@[simp] theorem derefs_cons {h : Hd} {hs : List Hd} : derefs (h :: hs) x = (deref h x).bind fun d => (derefs hs x).map (d :: ·) := by
  show (match deref h x, derefs hs x with | some d, some ds => some (d :: ds) | _, _ => none) = _
  cases deref h x <;> cases derefs hs x <;> rfl
@[simp] theorem argsOf_nil : argsOf [] = some [] := rfl
@[simp] theorem argsOf_val {d : PyData} {hs : List Hd} : argsOf (.val d :: hs) = (argsOf hs).map (.val d :: ·) := by
  show (match some (Hd.val d), argsOf hs with | some d, some ds => some (d :: ds) | _, _ => none) = _
  cases argsOf hs <;> rfl
@[simp] theorem argsOf_deck {hs : List Hd} : argsOf (.deck :: hs) = (argsOf hs).map (.deck :: ·) := by
  show (match some Hd.deck, argsOf hs with | some d, some ds => some (d :: ds) | _, _ => none) = _
  cases argsOf hs <;> rfl
/-- what an own list is now -/
def ownAt (s : Option Slot) : Option PyData := match s with
  | some (.own ds) => some (.list ds)
  | _ => none
@[simp] theorem ownAt_own {ds : List PyData} : ownAt (some (.own ds)) = some (.list ds) := rfl
@[simp] theorem deref_own {i : Nat} : deref (.own i) x = ownAt x.1[i]? := rfl
@[simp] theorem wp_dOp {op : PyData → PyData → Option PyData} {f g : M Hd} {Q : Hd → Sx → Prop} : Wp (dOp op f g) x Q ↔ Wp f x fun a y => Wp g y fun b z => onS (deref a z) fun d => onS (deref b z) fun e => onS (op d e) fun c => Q (.val c) z :=
  wp_step fun a y => wp_step fun b z => by
    rw [wp_opt]
    cases deref a z with
    | none => exact Iff.rfl
    | some d =>
      cases deref b z with
      | none => exact Iff.rfl
      | some e =>
        simp only [onS_some]
        cases op d e <;> exact Iff.rfl
@[simp] theorem wp_tB {f : M Hd} {Q : Bool → Sx → Prop} : Wp (tB' f) x Q ↔ Wp f x fun h y => onB h fun b => Q b y :=
  wp_step fun h y => by
    rw [wp_opt]
    cases h with
    | val d => cases d <;> exact Iff.rfl
    | own i => exact Iff.rfl
    | deck => exact Iff.rfl
@[simp] theorem wp_dTru {f : M Hd} {Q : Bool → Sx → Prop} : Wp (dTru f) x Q ↔ Wp f x fun h y => onS (deref h y) fun d => onS (truD d) fun b => Q b y :=
  wp_step fun h y => by
    rw [wp_opt]
    cases deref h y with
    | none => exact Iff.rfl
    | some d =>
      simp only [onS_some]
      cases truD d <;> exact Iff.rfl
@[simp] theorem wp_tAnd {f g : M Bool} {Q : Bool → Sx → Prop} : Wp (tAndD f g) x Q ↔ Wp f x fun b y => if b = true then Wp g y Q else Q false y :=
  wp_step fun b y => by cases b <;> simp
@[simp] theorem wp_tOr {f g : M Bool} {Q : Bool → Sx → Prop} : Wp (tOrD f g) x Q ↔ Wp f x fun b y => if b = true then Q true y else Wp g y Q :=
  wp_step fun b y => by cases b <;> simp
@[simp] theorem wp_tNot {f : M Bool} {Q : Bool → Sx → Prop} : Wp (tNotD f) x Q ↔ Wp f x fun b y => Q (!b) y :=
  wp_step fun b y => wp_ret
@[simp] theorem wp_vAnd {f g : M Hd} {Q : Hd → Sx → Prop} : Wp (vAndD f g) x Q ↔ Wp f x fun h y => onB h fun b => if b = true then Wp g y Q else Q (.val (.bool false)) y :=
  wp_step fun h y => by
    cases h with
    | val d => cases d with
      | bool b => cases b <;> simp
      | _ => exact wp_fail
    | own i => exact wp_fail
    | deck => exact wp_fail
@[simp] theorem wp_vOr {f g : M Hd} {Q : Hd → Sx → Prop} : Wp (vOrD f g) x Q ↔ Wp f x fun h y => onB h fun b => if b = true then Q (.val (.bool true)) y else Wp g y Q :=
  wp_step fun h y => by
    cases h with
    | val d => cases d with
      | bool b => cases b <;> simp
      | _ => exact wp_fail
    | own i => exact wp_fail
    | deck => exact wp_fail
@[simp] theorem wp_vNot {f : M Hd} {Q : Hd → Sx → Prop} : Wp (vNotD f) x Q ↔ Wp f x fun h y => onB h fun b => Q (.val (.bool !b)) y :=
  wp_step fun h y => by
    cases h with
    | val d => cases d with
      | bool b => exact wp_ret
      | _ => exact wp_fail
    | own i => exact wp_fail
    | deck => exact wp_fail
@[simp] theorem wp_dIf {c : M Bool} {f g : M α} {Q : α → Sx → Prop} : Wp (dIf c f g) x Q ↔ Wp c x fun b y => if b = true then Wp f y Q else Wp g y Q :=
  wp_step fun b y => by cases b <;> simp
@[simp] theorem wp_dTup {f : M (List Hd)} {Q : Hd → Sx → Prop} : Wp (dTup f) x Q ↔ Wp f x fun hs y => onS (escs hs) fun ds => ds.length ≤ 16777216 ∧ Q (.val (.tuple ds)) y :=
  wp_step fun hs y => by
    rw [wp_opt]
    cases escs hs with
    | none => exact Iff.rfl
    | some ds => by_cases e : ds.length ≤ 16777216 <;> simp [e]
@[simp] theorem wp_dLst {f : M (List Hd)} {Q : List PyData → Sx → Prop} : Wp (dLst f) x Q ↔ Wp f x fun hs y => onS (escs hs) fun ds => ds.length ≤ 16777216 ∧ Q ds y :=
  wp_step fun hs y => by
    rw [wp_opt]
    cases escs hs with
    | none => exact Iff.rfl
    | some ds => by_cases e : ds.length ≤ 16777216 <;> simp [e]
@[simp] theorem wp_dF {f : M (List PyData)} {Q : Hd → Sx → Prop} : Wp (dF f) x Q ↔ Wp f x fun ds y => Q (.val (.list ds)) y :=
  wp_step fun ds y => wp_ret
@[simp] theorem wp_dCall {F : FD} {f : M (List Hd)} {Q : Hd → Sx → Prop} : Wp (dCall F f) x Q ↔ Wp f x fun hs y => onS (argsOf hs) fun as => Fp F as y.2 fun r k => Q (.val r) (y.1, k) :=
  wp_step fun hs y => by
    rw [wp_opt]
    cases argsOf hs with
    | none => exact Iff.rfl
    | some as =>
      simp only [onS_some]
      unfold Fp
      cases e : F as y.2 with
      | none => exact ⟨fun z => False.elim z, fun ⟨_, _, z, _⟩ => (by cases z)⟩
      | some p =>
        obtain ⟨r, k⟩ := p
        exact ⟨fun q => ⟨_, _, rfl, q⟩, fun ⟨_, _, z, q⟩ => by cases z; exact q⟩
@[simp] theorem wp_dCallK {F : FD} {ix : List Nat} {f g : M (List Hd)} {Q : Hd → Sx → Prop} : Wp (dCallK F ix f g) x Q ↔ Wp f x fun hs y => Wp g y fun gs z => onS (argsOf (pick ix (hs ++ gs))) fun as => Fp F as z.2 fun r k => Q (.val r) (z.1, k) :=
  wp_dCall.trans (wp_step fun hs y => wp_step fun gs z => wp_ret)
@[simp] theorem pick_nil {l : List α} : pick [] l = [] := rfl
theorem pick_cons {i : Nat} {ix : List Nat} {l : List α} : pick (i :: ix) l = (match l[i]? with
    | some a => [a]
    | none => []) ++ pick ix l := by
  unfold pick
  rw [List.filterMap_cons]
  cases l[i]? <;> rfl
@[simp] theorem pick_at {i : Nat} {ix : List Nat} {l : List α} : pick (i :: ix) l = l[i]?.toList ++ pick ix l := by
  rw [pick_cons]
  cases l[i]? <;> rfl
theorem fp_runD {n : Nat} {b : M Fl} {hs : List Hd} {k : Dk} {Q : PyData → Dk → Prop} : Fp (runD n b) hs k Q ↔ Wp b (startD n hs, k) (Rtn Q) := by
  rw [wp_opt]
  unfold Fp runD
  cases b (startD n hs, k) with
  | none => exact ⟨fun ⟨_, _, z, _⟩ => (by cases z), fun z => False.elim z⟩
  | some p =>
    obtain ⟨fl, y⟩ := p
    cases fl with
    | nx => exact ⟨fun ⟨_, _, z, q⟩ => (by cases z; exact q), fun q => ⟨_, _, rfl, q⟩⟩
    | rt d => exact ⟨fun ⟨_, _, z, q⟩ => (by cases z; exact q), fun q => ⟨_, _, rfl, q⟩⟩
    | bk => exact ⟨fun ⟨_, _, z, _⟩ => (by cases z), fun z => False.elim z⟩
    | ct => exact ⟨fun ⟨_, _, z, _⟩ => (by cases z), fun z => False.elim z⟩
@[simp] theorem startD_eq {n : Nat} {hs : List Hd} : startD n hs = hs.map slotOf ++ List.replicate (n - hs.length) .no := rfl
@[simp] theorem slotOf_val {d : PyData} : slotOf (.val d) = .val d := rfl
@[simp] theorem slotOf_deck : slotOf .deck = .deck := rfl
@[simp] theorem wp_sNil {Q : Fl → Sx → Prop} : Wp sNil x Q ↔ Q .nx x := wp_ret
@[simp] theorem wp_sCons {f g : M Fl} {Q : Fl → Sx → Prop} : Wp (sCons f g) x Q ↔ Wp f x (Nxt g Q) :=
  wp_step fun fl y => by cases fl <;> simp
@[simp] theorem wp_sRet {f : M Hd} {Q : Fl → Sx → Prop} : Wp (sRet f) x Q ↔ Wp f x fun h y => onS (esc h) fun d => Q (.rt d) y :=
  wp_step fun h y => (wp_step fun d z => wp_ret).trans wp_lift
@[simp] theorem wp_sDrop {f : M Hd} {Q : Fl → Sx → Prop} : Wp (sDrop f) x Q ↔ Wp f x fun _ y => Q .nx y :=
  wp_step fun h y => wp_ret
@[simp] theorem wp_gN {i : Nat} {d : PyData} {Q : Unit → Sx → Prop} : Wp (gN i d) x Q ↔ onN (x.1.set i (.val d)) fun ρ => Q () (ρ, x.2) :=
  wp_opt
@[simp] theorem wp_gsNil {ds : List PyData} {Q : Unit → Sx → Prop} : Wp (gsNil ds) x Q ↔ ds = [] ∧ Q () x :=
  by cases ds <;> simp [gsNil]
@[simp] theorem wp_gsCons {g : PyData → M Unit} {r : List PyData → M Unit} {ds : List PyData} {Q : Unit → Sx → Prop} : Wp (gsCons g r ds) x Q ↔ onC ds fun d es => Wp (g d) x fun _ y => Wp (r es) y Q :=
  by cases ds with
    | nil => exact wp_fail
    | cons d es => exact wp_bnd
@[simp] theorem wp_gT {n : Nat} {g : List PyData → M Unit} {d : PyData} {Q : Unit → Sx → Prop} : Wp (gT n g d) x Q ↔ onTup d fun ds => ds.length = n ∧ Wp (g ds) x Q :=
  by
    cases d with
    | tuple ds =>
      show Wp (if ds.length = n then g ds else fail) x Q ↔ _
      by_cases e : ds.length = n <;> simp [e]
    | _ => exact wp_fail
@[simp] theorem wp_sAsg {f : M Hd} {g : PyData → M Unit} {Q : Fl → Sx → Prop} : Wp (sAsg f g) x Q ↔ Wp f x fun h y => onS (esc h) fun d => Wp (g d) y fun _ z => Q .nx z :=
  wp_step fun h y => (wp_step fun d z => wp_step fun _ w => wp_ret).trans wp_lift
@[simp] theorem wp_sPar {i j : Nat} {f : M (List Hd)} {Q : Fl → Sx → Prop} : Wp (sPar i j f) x Q ↔ Wp f x fun hs y => onS (escs hs) fun ds => on2 ds fun d e => onN ((y.1.set i (.val d)).set j (.val e)) fun ρ => Q .nx (ρ, y.2) :=
  wp_step fun hs y => by
    rw [wp_opt]
    rcases escs hs with _ | _ | ⟨d, _ | ⟨e, _ | ⟨_, _⟩⟩⟩ <;> exact Iff.rfl
@[simp] theorem wp_sPar3 {i j l : Nat} {f : M (List Hd)} {Q : Fl → Sx → Prop} : Wp (sPar3 i j l f) x Q ↔ Wp f x fun hs y => onS (escs hs) fun ds => on3 ds fun d e c => onN (((y.1.set i (.val d)).set j (.val e)).set l (.val c)) fun ρ => Q .nx (ρ, y.2) :=
  wp_step fun hs y => by
    rw [wp_opt]
    rcases escs hs with _ | _ | ⟨d, _ | ⟨e, _ | ⟨c, _ | ⟨_, _⟩⟩⟩⟩ <;> exact Iff.rfl
@[simp] theorem wp_iItems {f : M Hd} {Q : List PyData → Sx → Prop} : Wp (iItems f) x Q ↔ Wp f x fun h y => onS (esc h) fun d => onS (itemsD d) fun ds => Q ds y :=
  wp_step fun h y => (wp_step fun d z => wp_lift).trans wp_lift
@[simp] theorem itemsD_list {ds : List PyData} : itemsD (.list ds) = some ds := rfl
@[simp] theorem itemsD_tuple {ds : List PyData} : itemsD (.tuple ds) = some ds := rfl
@[simp] theorem wp_iR1 {f : M (List Hd)} {Q : List PyData → Sx → Prop} : Wp (iR1 f) x Q ↔ Wp f x fun hs y => onS (escs hs) fun ds => onI1 ds fun j => okR j = true ∧ Q (upTo 0 j.toNat) y :=
  wp_step fun hs y => by
    rw [wp_opt]
    rcases escs hs with _ | _ | ⟨d, _ | ⟨e, r⟩⟩
    · exact Iff.rfl
    · exact Iff.rfl
    · cases d with
      | int j => by_cases e : okR j = true <;> simp [e]
      | _ => exact Iff.rfl
    · cases d <;> exact Iff.rfl
@[simp] theorem wp_iR2 {f : M (List Hd)} {Q : List PyData → Sx → Prop} : Wp (iR2 f) x Q ↔ Wp f x fun hs y => onS (escs hs) fun ds => onI2 ds fun i j => (okR i && okR j) = true ∧ Q (upTo i (j - i).toNat) y :=
  wp_step fun hs y => by
    rw [wp_opt]
    rcases escs hs with _ | _ | ⟨d, _ | ⟨e, _ | ⟨c, r⟩⟩⟩
    · exact Iff.rfl
    · exact Iff.rfl
    · cases d <;> exact Iff.rfl
    · cases d with
      | int i =>
        cases e with
        | int j =>
          simp only [onS_some, onI2_val]
          cases okR i && okR j <;> simp
        | _ => exact Iff.rfl
      | _ => exact Iff.rfl
    · cases d with
      | int i => cases e <;> exact Iff.rfl
      | _ => exact Iff.rfl
@[simp] theorem wp_iZip {f : M (List Hd)} {Q : List PyData → Sx → Prop} : Wp (iZip f) x Q ↔ Wp f x fun hs y => onS (escs hs) fun ds => on2 ds fun d e => onS (itemsD d) fun ds => onS (itemsD e) fun es => Q (zipD ds es) y :=
  wp_step fun hs y => by
    rw [wp_opt]
    rcases escs hs with _ | _ | ⟨d, _ | ⟨e, _ | ⟨c, r⟩⟩⟩
    · exact Iff.rfl
    · exact Iff.rfl
    · exact Iff.rfl
    · simp only [onS_some, on2_val]
      cases itemsD d <;> cases itemsD e <;> exact Iff.rfl
    · exact Iff.rfl
@[simp] theorem wp_iEnum {f : M (List Hd)} {Q : List PyData → Sx → Prop} : Wp (iEnumD f) x Q ↔ Wp f x fun hs y => onS (escs hs) fun ds => on1 ds fun d => onS (itemsD d) fun ds => Q (enumD ds) y :=
  wp_step fun hs y => by
    rw [wp_opt]
    rcases escs hs with _ | _ | ⟨d, _ | ⟨e, r⟩⟩
    · exact Iff.rfl
    · exact Iff.rfl
    · simp only [onS_some, on1_val]
      cases itemsD d <;> exact Iff.rfl
    · exact Iff.rfl
@[simp] theorem wp_dB {op : FB} {f : M (List Hd)} {Q : Hd → Sx → Prop} : Wp (dB op f) x Q ↔ Wp f x fun hs y => onS (derefs hs y) fun ds => onS (op ds) fun c => Q (.val c) y :=
  wp_step fun hs y => by
    rw [wp_opt]
    cases derefs hs y with
    | none => exact Iff.rfl
    | some ds =>
      simp only [onS_some]
      cases op ds <;> exact Iff.rfl
@[simp] theorem wp_oN {Q : Option Int → Sx → Prop} : Wp oN x Q ↔ Q none x := wp_ret
@[simp] theorem wp_oS {f : M Hd} {Q : Option Int → Sx → Prop} : Wp (oS f) x Q ↔ Wp f x fun h y => onI h fun i => Q (some i) y :=
  wp_step fun h y => by
    rw [wp_opt]
    cases h with
    | val d => cases d <;> exact Iff.rfl
    | own i => exact Iff.rfl
    | deck => exact Iff.rfl
@[simp] theorem wp_dNeg {f : M Hd} {Q : Hd → Sx → Prop} : Wp (dNeg f) x Q ↔ Wp f x fun h y => onI h fun i => Q (.val (.int (-i))) y :=
  wp_step fun h y => by
    rw [wp_opt]
    cases h with
    | val d => cases d <;> exact Iff.rfl
    | own i => exact Iff.rfl
    | deck => exact Iff.rfl
@[simp] theorem wp_rg1 {f : M Hd} {Q : Int × Int → Sx → Prop} : Wp (rg1 f) x Q ↔ Wp f x fun h y => onI h fun n => Q (0, n) y :=
  wp_step fun h y => by
    rw [wp_opt]
    cases h with
    | val d => cases d <;> exact Iff.rfl
    | own i => exact Iff.rfl
    | deck => exact Iff.rfl
@[simp] theorem wp_rg2 {f g : M Hd} {Q : Int × Int → Sx → Prop} : Wp (rg2 f g) x Q ↔ Wp f x fun h y => Wp g y fun k z => onI h fun m => onI k fun n => Q (m, n) z :=
  wp_step fun h y => wp_step fun k z => by
    rw [wp_opt]
    cases h with
    | val d =>
      cases d with
      | int i =>
        cases k with
        | val e => cases e <;> exact Iff.rfl
        | own i => exact Iff.rfl
        | deck => exact Iff.rfl
      | _ => exact Iff.rfl
    | own i => exact Iff.rfl
    | deck => exact Iff.rfl
@[simp] theorem wp_dSl {f : M Hd} {l h : M (Option Int)} {Q : Hd → Sx → Prop} : Wp (dSl f l h) x Q ↔ Wp f x fun a y => Wp l y fun lo z => Wp h z fun hi w => onS (deref a w) fun d => onS (slD d lo hi) fun c => Q (.val c) w :=
  wp_step fun a y => wp_step fun lo z => wp_step fun hi w => by
    rw [wp_opt]
    cases deref a w with
    | none => exact Iff.rfl
    | some d =>
      simp only [onS_some]
      cases slD d lo hi <;> exact Iff.rfl
@[simp] theorem wp_dRev {f : M Hd} {Q : Hd → Sx → Prop} : Wp (dRev f) x Q ↔ Wp f x fun a y => onS (deref a y) fun d => onS (revD d) fun c => Q (.val c) y :=
  wp_step fun a y => by
    rw [wp_opt]
    cases deref a y with
    | none => exact Iff.rfl
    | some d =>
      simp only [onS_some]
      cases revD d <;> exact Iff.rfl
@[simp] theorem wp_dIsi {ty : String} {f : M Hd} {Q : Hd → Sx → Prop} : Wp (dIsi ty f) x Q ↔ Wp f x fun a y => onS (deref a y) fun d => onS (kitB (tyN d) ty) fun b => Q (.val (.bool b)) y :=
  wp_step fun a y => by
    rw [wp_opt]
    cases deref a y with
    | none => exact Iff.rfl
    | some d =>
      simp only [onS_some]
      cases kitB (tyN d) ty <;> exact Iff.rfl
@[simp] theorem wp_dChain {op op' : PyData → PyData → Option PyData} {f g h : M Hd} {Q : Hd → Sx → Prop} : Wp (dChain op op' f g h) x Q ↔ Wp f x fun a y => Wp g y fun b z => onS (deref a z) fun d => onS (esc b) fun e => onT (op d e) fun t => if t = true then Wp h z fun c w => onS (deref c w) fun c' => onS (op' e c') fun r => Q (.val r) w else Q (.val (.bool false)) z :=
  wp_step fun a y => wp_step fun b z => by
    have go : ∀ e, Wp (bnd h fun c => fun y => match deref c y with
        | some c' => match op' e c' with
          | some r => some (.val r, y)
          | none => none
        | none => none) z Q ↔ Wp h z fun c w => onS (deref c w) fun c' => onS (op' e c') fun r => Q (.val r) w := fun e => wp_step fun c w => by
      rw [wp_opt]
      cases deref c w with
      | none => exact Iff.rfl
      | some c' =>
        simp only [onS_some]
        cases op' e c' <;> exact Iff.rfl
    rw [wp_opt]
    cases deref a z with
    | none => exact Iff.rfl
    | some d =>
      cases esc b with
      | none => exact Iff.rfl
      | some e =>
        simp only [onS_some]
        rw [← go e, wp_opt]
        cases op d e with
        | none => exact Iff.rfl
        | some t =>
          cases t with
          | bool t =>
            cases t with
            | true => first | (simp only [onT_val, if_true]; done) | (simp only [onT_val, if_true]; exact Iff.rfl)
            | false => simp
          | _ => exact Iff.rfl
@[simp] theorem wp_sOwn {i : Nat} {f : M (List PyData)} {Q : Fl → Sx → Prop} : Wp (sOwn i f) x Q ↔ Wp f x fun ds y => i < y.1.length ∧ onN (y.1.set i (.own ds)) fun ρ => Q .nx (ρ, y.2) :=
  wp_step fun ds y => by
    rw [wp_opt]
    by_cases e : i < y.1.length <;> simp [e, putS]
/-- a list that was made is kept for good -/
def Frz (i : Nat) (Q : Fl → Sx → Prop) : Fl → Sx → Prop
  | .nx, y => onOwn y.1[i]? fun ds => onN (y.1.set i (.val (.list ds))) fun ρ => Q .nx (ρ, y.2)
  | _, _ => False
theorem frz_congr {i : Nat} {Q : Fl → Sx → Prop} {f f' : Fl} {y y' : Sx} (h : f = f') (k : y = y') : Frz i Q f y = Frz i Q f' y' := by rw [h, k]
@[simp] theorem frz_nx {i : Nat} {Q : Fl → Sx → Prop} : Frz i Q .nx x ↔ onOwn x.1[i]? fun ds => onN (x.1.set i (.val (.list ds))) fun ρ => Q .nx (ρ, x.2) := Iff.rfl
@[simp] theorem wp_sFrz {i : Nat} {f : M Fl} {Q : Fl → Sx → Prop} : Wp (sFrz i f) x Q ↔ Wp f x (Frz i Q) :=
  wp_step fun fl y => by
    rw [wp_opt]
    cases fl with
    | nx =>
      rw [frz_nx]
      rcases y.1[i]? with _ | s
      · exact Iff.rfl
      · cases s <;> exact Iff.rfl
    | _ => rcases y.1[i]? with _ | s <;> first | exact Iff.rfl | (cases s <;> exact Iff.rfl)
@[simp] theorem wp_sPre {i : Nat} {f : M Fl} {Q : Fl → Sx → Prop} : Wp (sPre i f) x Q ↔ onOwn x.1[i]? fun ds => onN (x.1.set i (.val (.list ds))) fun ρ => Wp f (ρ, x.2) Q :=
  by
    rw [wp_opt]
    unfold sPre
    rcases x.1[i]? with _ | s
    · exact Iff.rfl
    · cases s with
      | own ds => exact wp_opt.symm
      | _ => exact Iff.rfl
@[simp] theorem wp_tAll {Q : Bool → Sx → Prop} : Wp tAll x Q ↔ Q true x := wp_ret
@[simp] theorem wp_lcTurn {vs : List Nat} {g : PyData → M Unit} {tt : M Bool} {te : M Hd} {d : PyData} {Q : Option PyData → Sx → Prop} : Wp (lcTurn vs g tt te d) x Q ↔ Wp (g d) x fun _ y => Wp tt y fun b z => if b = true then Wp te z fun h w => onS (esc h) fun e => onN (wipeD w.1 vs) fun ρ => Q (some e) (ρ, w.2) else onN (wipeD z.1 vs) fun ρ => Q none (ρ, z.2) :=
  wp_step fun a y => wp_step fun b z => by
    cases b with
    | true =>
      simp only [if_true, wp_bnd, wp_lift, wp_ret]
      refine exists_congr fun h => exists_congr fun w => and_congr_right fun _ => ?_
      dsimp only
      cases esc h with
      | none => exact Iff.rfl
      | some e =>
        simp only [onS_some]
        exact wp_opt
    | false =>
      simp only [Bool.false_eq_true, if_false, wp_bnd, wp_ret]
      exact wp_opt
@[simp] theorem wp_dLc {src : M (List PyData)} {vs : List Nat} {g : PyData → M Unit} {tt : M Bool} {te : M Hd} {Q : List PyData → Sx → Prop} : Wp (dLc src vs g tt te) x Q ↔ Wp src x fun ds y => ds.length < 16777216 ∧ onN (wipeD y.1 vs) fun ρ => Wp (lcGo (lcTurn vs g tt te) ds) (ρ, y.2) fun r z => onN (unw y.1 z.1 vs) fun ρ => Q r (ρ, z.2) :=
  wp_step fun ds y => by
    rw [wp_opt]
    by_cases e : ds.length < 16777216
    · simp only [e, if_true, true_and, onN_is]
      rw [wp_opt]
      cases lcGo (lcTurn vs g tt te) ds (wipeD y.1 vs, y.2) <;> exact Iff.rfl
    · simp only [e, if_false, false_and]
      exact Iff.rfl
@[simp] theorem wipeD_nil {ρ : List Slot} : wipeD ρ [] = ρ := rfl
@[simp] theorem wipeD_cons {ρ : List Slot} {v : Nat} {vs : List Nat} : wipeD ρ (v :: vs) = (wipeD ρ vs).set v .no := rfl
@[simp] theorem unw_nil {ρ ρ' : List Slot} : unw ρ ρ' [] = ρ' := rfl
@[simp] theorem unw_cons {ρ ρ' : List Slot} {v : Nat} {vs : List Nat} : unw ρ ρ' (v :: vs) = (unw ρ ρ' vs).set v (keepS ρ[v]?) := rfl
@[simp] theorem keepS_val {d : PyData} : keepS (some (.val d)) = .val d := rfl
@[simp] theorem keepS_own {d : List PyData} : keepS (some (.own d)) = .no := rfl
@[simp] theorem keepS_deck : keepS (some .deck) = .deck := rfl
@[simp] theorem keepS_no : keepS (some .no) = .no := rfl
@[simp] theorem wp_dAll {src : M (List PyData)} {vs : List Nat} {g : PyData → M Unit} {te : M Hd} {Q : Hd → Sx → Prop} : Wp (dAll src vs g te) x Q ↔ Wp src x fun ds y => onN (wipeD y.1 vs) fun ρ => Wp (allGo g te vs ds) (ρ, y.2) fun b z => onN (unw y.1 z.1 vs) fun ρ => Q (.val (.bool b)) (ρ, z.2) :=
  wp_step fun ds y => by
    rw [wp_opt, onN_is, wp_opt]
    cases allGo g te vs ds (wipeD y.1 vs, y.2) <;> exact Iff.rfl
@[simp] theorem wp_dFor {src : M (List PyData)} {g : PyData → M Unit} {b : M Fl} {Q : Fl → Sx → Prop} : Wp (dFor src g b) x Q ↔ Wp src x fun ds y => Wp (forGo g b ds) y Q :=
  wp_bnd
@[simp] theorem wp_dDict {l : List (M Hd × M Hd)} {Q : Hd → Sx → Prop} : Wp (dDict l) x Q ↔ Wp (dKv l) x fun des y => okKv des = true ∧ Q (.val (.dict des)) y :=
  wp_step fun des y => by
    rw [wp_opt]
    by_cases e : okKv des = true <;> simp [e]
@[simp] theorem wp_dDict0 {Q : Hd → Sx → Prop} : Wp dDict0 x Q ↔ Q (.val (.dict [])) x := wp_dC
@[simp] theorem wp_dKv_nil {Q : List (PyData × PyData) → Sx → Prop} : Wp (dKv []) x Q ↔ Q [] x := wp_ret
@[simp] theorem wp_dKv_cons {f g : M Hd} {l : List (M Hd × M Hd)} {Q : List (PyData × PyData) → Sx → Prop} : Wp (dKv ((f, g) :: l)) x Q ↔ Wp f x fun hk y => onS (esc hk) fun dk => Wp g y fun hv z => onS (esc hv) fun dv => Wp (dKv l) z fun es w => Q ((dk, dv) :: es) w :=
  wp_step fun hk y => (wp_step fun dk z => wp_step fun hv w => (wp_step fun dv u => wp_step fun es t => wp_ret).trans wp_lift).trans wp_lift
@[simp] theorem wp_dLRg {f : M (Int × Int)} {Q : List PyData → Sx → Prop} : Wp (dLRg f) x Q ↔ Wp f x fun ab y => okRg ab.1 ab.2 = true ∧ Q (upTo ab.1 (ab.2 - ab.1).toNat) y :=
  wp_step fun ab y => by
    rw [wp_opt]
    by_cases e : okRg ab.1 ab.2 = true <;> simp [e]
@[simp] theorem wp_dTRg {f : M (Int × Int)} {Q : Hd → Sx → Prop} : Wp (dTRg f) x Q ↔ Wp f x fun ab y => okRg ab.1 ab.2 = true ∧ Q (.val (.tuple (upTo ab.1 (ab.2 - ab.1).toNat))) y :=
  wp_step fun ab y => by
    rw [wp_opt]
    by_cases e : okRg ab.1 ab.2 = true <;> simp [e]
@[simp] theorem wp_dMixed {i : Nat} {Q : Hd → Sx → Prop} : Wp (dMixed i) x Q ↔ isDeck i x = true ∧ Q (.val (.int x.2.mixed)) x :=
  by
    rw [wp_opt]
    unfold dMixed
    by_cases e : isDeck i x = true <;> simp [e]
@[simp] theorem wp_dDraws {i : Nat} {Q : Hd → Sx → Prop} : Wp (dDraws i) x Q ↔ isDeck i x = true ∧ Q (.val (.int x.2.draws)) x :=
  by
    rw [wp_opt]
    unfold dDraws
    by_cases e : isDeck i x = true <;> simp [e]
@[simp] theorem wp_tCells {i : Nat} {Q : Bool → Sx → Prop} : Wp (tCells i) x Q ↔ isDeck i x = true ∧ Q (!x.2.cells.isEmpty) x :=
  by
    rw [wp_opt]
    unfold tCells
    by_cases e : isDeck i x = true <;> simp [e]
@[simp] theorem wp_sDraws {i : Nat} {f : M Hd} {Q : Fl → Sx → Prop} : Wp (sDraws i f) x Q ↔ Wp f x fun h y => onI h fun n => isDeck i y = true ∧ Q .nx (y.1, { y.2 with draws := n }) :=
  wp_step fun h y => by
    rw [wp_opt]
    cases h with
    | val d =>
      cases d with
      | int n => by_cases e : isDeck i y = true <;> simp [e]
      | _ => exact Iff.rfl
    | own i => exact Iff.rfl
    | deck => exact Iff.rfl
@[simp] theorem wp_dCpop {i : Nat} {Q : Hd → Sx → Prop} : Wp (dCpop i) x Q ↔ isDeck i x = true ∧ onS x.2.cells.getLast? fun n => Q (.val (.int n)) (x.1, { x.2 with cells := x.2.cells.dropLast }) :=
  by
    rw [wp_opt]
    unfold dCpop
    by_cases e : isDeck i x = true
    · simp only [e, if_true, true_and]
      cases x.2.cells.getLast? <;> exact Iff.rfl
    · simp [e]
@[simp] theorem wp_sCapp {i : Nat} {f : M Hd} {Q : Fl → Sx → Prop} : Wp (sCapp i f) x Q ↔ isDeck i x = true ∧ Wp f x fun h y => onI h fun n => y.2.cells.length < 16777216 ∧ Q .nx (y.1, { y.2 with cells := y.2.cells ++ [n] }) :=
  by
    unfold sCapp
    by_cases e : isDeck i x = true
    · simp only [wp_opt, e, if_true, true_and]
      rcases f x with _ | ⟨h, y⟩
      · exact Iff.rfl
      · cases h with
        | val d =>
          cases d with
          | int n => by_cases z : y.2.cells.length < 16777216 <;> simp [z]
          | _ => exact Iff.rfl
        | own i => exact Iff.rfl
        | deck => exact Iff.rfl
    · simp [wp_opt, e]
@[simp] theorem isDeck_at {i : Nat} {ρ : List Slot} {k : Dk} : isDeck i (ρ, k) = (match ρ[i]? with
    | some .deck => true
    | _ => false) := rfl
@[simp] theorem wp_sApp {i : Nat} {f : M Hd} {Q : Fl → Sx → Prop} : Wp (sApp i f) x Q ↔ onOwn x.1[i]? fun _ => Wp f x fun h y => onS (esc h) fun d => onOwn y.1[i]? fun ds => ds.length < 16777216 ∧ onN (y.1.set i (.own (ds ++ [d]))) fun ρ => Q .nx (ρ, y.2) :=
  by
    have a : Wp (bnd f fun h => bnd (lift (esc h)) fun d => ret d) x (fun d y => onOwn y.1[i]? fun ds => ds.length < 16777216 ∧ onN (y.1.set i (.own (ds ++ [d]))) fun ρ => Q .nx (ρ, y.2)) ↔ Wp f x fun h y => onS (esc h) fun d => onOwn y.1[i]? fun ds => ds.length < 16777216 ∧ onN (y.1.set i (.own (ds ++ [d]))) fun ρ => Q .nx (ρ, y.2) :=
      wp_step fun h y => (wp_step fun d z => wp_ret).trans wp_lift
    rw [← a, wp_opt, wp_opt]
    unfold sApp
    rcases x.1[i]? with _ | s
    · exact Iff.rfl
    · cases s with
      | own es =>
        simp only [onOwn_own]
        rcases (bnd f fun h => bnd (lift (esc h)) fun d => ret d) x with _ | ⟨d, y⟩
        · exact Iff.rfl
        · simp only [onS_some]
          rcases y.1[i]? with _ | t
          · exact Iff.rfl
          · cases t with
            | own ds => by_cases z : ds.length < 16777216 <;> simp [z, putS]
            | _ => exact Iff.rfl
      | _ => exact Iff.rfl
@[simp] theorem wp_sSet {i : Nat} {fk fv : M Hd} {Q : Fl → Sx → Prop} : Wp (sSet i fk fv) x Q ↔ Wp fv x fun hv y => onS (esc hv) fun d => onOwn y.1[i]? fun _ => Wp fk y fun h z => onI h fun j => onOwn z.1[i]? fun ds => (0 ≤ j ∧ j < ds.length) ∧ onN (z.1.set i (.own (ds.set j.toNat d))) fun ρ => Q .nx (ρ, z.2) :=
  wp_step fun hv y => (wp_step (R := fun d w => onOwn w.1[i]? fun _ => Wp fk w fun h z => onI h fun j => onOwn z.1[i]? fun ds => (0 ≤ j ∧ j < ds.length) ∧ onN (z.1.set i (.own (ds.set j.toNat d))) fun ρ => Q .nx (ρ, z.2)) fun d w => by
    rw [wp_opt]
    rcases w.1[i]? with _ | s
    · exact Iff.rfl
    · cases s with
      | own es =>
        simp only [onOwn_own]
        rw [wp_opt]
        rcases fk w with _ | ⟨h, z⟩
        · exact Iff.rfl
        · cases h with
          | val e =>
            cases e with
            | int j =>
              simp only [onS_some, onI_val]
              rcases z.1[i]? with _ | t
              · exact Iff.rfl
              · cases t with
                | own ds => by_cases q : 0 ≤ j ∧ j < ds.length <;> simp [q, putS]
                | _ => exact Iff.rfl
            | _ => exact Iff.rfl
          | own i => exact Iff.rfl
          | deck => exact Iff.rfl
      | _ => exact Iff.rfl).trans wp_lift
@[simp] theorem wp_sAug {i : Nat} {g : Int → Int → Int} {f : M Hd} {Q : Fl → Sx → Prop} : Wp (sAug i g f) x Q ↔ onVI x.1[i]? fun a => Wp f x fun h y => onI h fun b => onN (y.1.set i (.val (.int (g a b)))) fun ρ => Q .nx (ρ, y.2) :=
  by
    rw [wp_opt]
    unfold sAug
    rcases x.1[i]? with _ | s
    · exact Iff.rfl
    · cases s with
      | val d =>
        cases d with
        | int a =>
          simp only [onVI_val]
          rw [wp_opt]
          rcases f x with _ | ⟨h, z⟩
          · exact Iff.rfl
          · cases h with
            | val e => cases e <;> exact Iff.rfl
            | own i => exact Iff.rfl
            | deck => exact Iff.rfl
        | _ => exact Iff.rfl
      | _ => exact Iff.rfl
@[simp] theorem wp_dSortR {b : Bool} {f : M (List Hd)} {Q : Hd → Sx → Prop} : Wp (dSortR b f) x Q ↔ Wp f x fun hs y => onL (derefs hs y) fun ds => onS (sortD b ds) fun es => Q (.val (.list es)) y :=
  wp_step fun hs y => by
    rw [wp_opt]
    rcases derefs hs y with _ | _ | ⟨d, _ | ⟨e, r⟩⟩
    · exact Iff.rfl
    · exact Iff.rfl
    · cases d with
      | list ds =>
        simp only [onL_list]
        cases sortD b ds <;> exact Iff.rfl
      | _ => exact Iff.rfl
    · cases d <;> exact Iff.rfl
@[simp] theorem wp_dList {f : M (List Hd)} {Q : List PyData → Sx → Prop} : Wp (dList f) x Q ↔ Wp f x fun hs y => onLT (derefs hs y) fun ds => Q ds y :=
  wp_step fun hs y => by
    rw [wp_opt]
    rcases derefs hs y with _ | _ | ⟨d, _ | ⟨e, r⟩⟩
    · exact Iff.rfl
    · exact Iff.rfl
    · cases d <;> exact Iff.rfl
    · cases d <;> exact Iff.rfl
end
end DD
namespace DD
open PySem PySem.Spec PyProof.Rows L2 GxR
/-! ## operations on what is known -/
@[simp] theorem addD_int (i j : Int) : addD (.int i) (.int j) = some (.int (i + j)) := rfl
@[simp] theorem subD_int (i j : Int) : subD (.int i) (.int j) = some (.int (i - j)) := rfl
theorem modD_int {i j : Int} (h : 0 < j) : modD (.int i) (.int j) = some (.int (i % j)) := if_pos (decide_eq_true h)
theorem divD_int {i j : Int} (h : 0 < j) (h2 : j < 1073741824) : divD (.int i) (.int j) = some (.int (i / j)) := if_pos (decide_eq_true ⟨h, h2⟩)
theorem mulD_l {i j : Int} (h : -18446744073709551616 < i ∧ i < 18446744073709551616) : mulD (.int i) (.int j) = some (.int (i * j)) := by
  have z : cMul i j = true := by
    unfold cMul
    rw [Bool.or_eq_true]
    exact .inl (decide_eq_true ⟨by omega, by omega⟩)
  show (if cMul i j = true then _ else _) = _
  rw [if_pos z]
theorem mulD_r {i j : Int} (h : -18446744073709551616 < j ∧ j < 18446744073709551616) : mulD (.int i) (.int j) = some (.int (i * j)) := by
  have z : cMul i j = true := by
    unfold cMul
    rw [Bool.or_eq_true]
    exact .inr (decide_eq_true ⟨by omega, by omega⟩)
  show (if cMul i j = true then _ else _) = _
  rw [if_pos z]
theorem mulD_lst {ds : List PyData} {k : Int} (h : -1000 ≤ k ∧ k ≤ 1000 ∧ ds.length ≤ 1000) : mulD (.list ds) (.int k) = some (.list (repL k ds)) := if_pos (decide_eq_true h)
theorem mulD_tup {ds : List PyData} {k : Int} (h : -1000 ≤ k ∧ k ≤ 1000 ∧ ds.length ≤ 1000) : mulD (.tuple ds) (.int k) = some (.tuple (repL k ds)) := if_pos (decide_eq_true h)
theorem addD_tup {xs ys : List PyData} (h : xs.length + ys.length ≤ 16777216) : addD (.tuple xs) (.tuple ys) = some (.tuple (xs ++ ys)) := if_pos (decide_eq_true h)
theorem addD_lst {xs ys : List PyData} (h : xs.length + ys.length ≤ 16777216) : addD (.list xs) (.list ys) = some (.list (xs ++ ys)) := if_pos (decide_eq_true h)
@[simp] theorem ltD_int (i j : Int) : ltD (.int i) (.int j) = some (.bool (decide (i < j))) := rfl
@[simp] theorem leD_int (i j : Int) : leD (.int i) (.int j) = some (.bool (decide (i ≤ j))) := rfl
@[simp] theorem gtD_int (i j : Int) : gtD (.int i) (.int j) = some (.bool (decide (j < i))) := rfl
@[simp] theorem geD_int (i j : Int) : geD (.int i) (.int j) = some (.bool (decide (j ≤ i))) := rfl
@[simp] theorem eqD_int (i j : Int) : eqD (.int i) (.int j) = some (.bool (decide (i = j))) := by
  show (if _ then some (PyData.bool (i == j)) else _) = _
  rw [if_pos (by rfl)]
  congr 2
@[simp] theorem neD_int (i j : Int) : neD (.int i) (.int j) = some (.bool (decide (i ≠ j))) := by
  show (if _ then some (PyData.bool (!(i == j))) else _) = _
  rw [if_pos (by rfl)]
  congr 2
  by_cases h : i = j <;> simp [h]
@[simp] theorem isND_eq (d : PyData) : isND d .none = some (.bool (noneD d)) := rfl
@[simp] theorem notND_eq (d : PyData) : notND d .none = some (.bool (!noneD d)) := rfl
@[simp] theorem truD_bool (b : Bool) : truD (.bool b) = some b := rfl
@[simp] theorem truD_int (i : Int) : truD (.int i) = some (i != 0) := rfl
@[simp] theorem truD_list (ds : List PyData) : truD (.list ds) = some (!ds.isEmpty) := rfl
@[simp] theorem truD_tuple (ds : List PyData) : truD (.tuple ds) = some (!ds.isEmpty) := rfl
@[simp] theorem lenD_list (ds : List PyData) : lenD [.list ds] = some (.int ds.length) := rfl
@[simp] theorem lenD_tuple (ds : List PyData) : lenD [.tuple ds] = some (.int ds.length) := rfl
@[simp] theorem intD_int (i : Int) : intD [.int i] = some (.int i) := rfl
@[simp] theorem tupD_list (ds : List PyData) : tupD [.list ds] = some (.tuple ds) := rfl
@[simp] theorem tupD_tuple (ds : List PyData) : tupD [.tuple ds] = some (.tuple ds) := rfl
@[simp] theorem lstD_list (ds : List PyData) : lstD [.list ds] = some (.list ds) := rfl
@[simp] theorem lstD_tuple (ds : List PyData) : lstD [.tuple ds] = some (.list ds) := rfl
@[simp] theorem revD_list (ds : List PyData) : revD (.list ds) = some (.list ds.reverse) := rfl
@[simp] theorem revD_tuple (ds : List PyData) : revD (.tuple ds) = some (.tuple ds.reverse) := rfl
@[simp] theorem max2D_int (i j : Int) : max2D [.int i, .int j] = some (.int (if j > i then j else i)) := rfl
@[simp] theorem min2D_int (i j : Int) : min2D [.int i, .int j] = some (.int (if j < i then j else i)) := rfl
@[simp] theorem absD_int (i : Int) : absD [.int i] = some (.int (if i < 0 then -i else i)) := rfl
@[simp] theorem slD_list (ds : List PyData) (lo hi : Option Int) : slD (.list ds) lo hi = some (.list (cutD ds lo hi)) := rfl
@[simp] theorem slD_tuple (ds : List PyData) (lo hi : Option Int) : slD (.tuple ds) lo hi = some (.tuple (cutD ds lo hi)) := rfl
@[simp] theorem ixD_list (ds : List PyData) (i : Int) : ixD (.list ds) (.int i) = atI ds i := rfl
@[simp] theorem ixD_tuple (ds : List PyData) (i : Int) : ixD (.tuple ds) (.int i) = atI ds i := rfl
theorem atI_nat' {α : Type} {l : List α} {i : Int} (h0 : 0 ≤ i) : atI l i = l[i.toNat]? := by
  unfold atI ixN
  rw [if_pos h0]
  by_cases h : i < l.length
  · rw [if_pos h]; rfl
  · rw [if_neg h, List.getElem?_eq_none (by omega)]; rfl
theorem atI_neg {α : Type} {l : List α} {i : Int} (h0 : i < 0) (h1 : -(l.length : Int) ≤ i) : atI l i = l[(i + l.length).toNat]? := by
  unfold atI ixN
  rw [if_neg (by omega), if_pos h1]; rfl
theorem cutD_from (ds : List PyData) (i : Nat) : cutD ds (some (i : Int)) none = ds.drop i := by
  unfold cutD
  rw [HT.sIx_nat]
  show (ds.drop (min i ds.length)).take (ds.length - min i ds.length) = _
  rw [List.take_of_length_le (by rw [List.length_drop]; exact Nat.le_refl _)]
  by_cases h : i ≤ ds.length
  · rw [Nat.min_eq_left h]
  · rw [Nat.min_eq_right (by omega), List.drop_eq_nil_of_le (Nat.le_refl _), List.drop_eq_nil_of_le (by omega)]
@[simp] theorem cutD_1 (ds : List PyData) : cutD ds (some 1) none = ds.tail := by
  have := cutD_from ds 1
  rw [List.drop_one] at this
  exact this
theorem cutD_fromI (ds : List PyData) {i : Int} (h : 0 ≤ i) : cutD ds (some i) none = ds.drop i.toNat := by
  have := cutD_from ds i.toNat
  rw [Int.toNat_of_nonneg h] at this
  exact this
theorem cutD_to (ds : List PyData) (i : Nat) : cutD ds none (some (i : Int)) = ds.take i := by
  unfold cutD
  rw [HT.sIx_nat]
  show (ds.drop 0).take (min i ds.length - 0) = _
  rw [List.drop_zero, Nat.sub_zero]
  by_cases h : i ≤ ds.length
  · rw [Nat.min_eq_left h]
  · rw [Nat.min_eq_right (by omega), List.take_of_length_le (by omega), List.take_of_length_le (by omega)]
theorem cutD_toI (ds : List PyData) {i : Int} (h : 0 ≤ i) : cutD ds none (some i) = ds.take i.toNat := by
  have := cutD_to ds i.toNat
  rw [Int.toNat_of_nonneg h] at this
  exact this
@[simp] theorem cutD_t1 (ds : List PyData) : cutD ds none (some 1) = ds.take 1 := cutD_to ds 1
@[simp] theorem cutD_last (ds : List PyData) : cutD ds (some (-1)) none = ds.drop (ds.length - 1) := by
  unfold cutD
  show (ds.drop ((-1 + (ds.length : Int)).toNat)).take (ds.length - (-1 + (ds.length : Int)).toNat) = _
  have e : (-1 + (ds.length : Int)).toNat = ds.length - 1 := by omega
  rw [e, List.take_of_length_le (by rw [List.length_drop]; exact Nat.le_refl _)]
@[simp] theorem cutD_init (ds : List PyData) : cutD ds none (some (-1)) = ds.dropLast := by
  unfold cutD
  show (ds.drop 0).take ((-1 + (ds.length : Int)).toNat - 0) = _
  have e : (-1 + (ds.length : Int)).toNat - 0 = ds.length - 1 := by omega
  rw [e, List.drop_zero, List.dropLast_eq_take]
theorem powD_int {i j : Int} (h : 0 ≤ j ∧ j ≤ 1000000) (h2 : i.natAbs < 18446744073709551616) : powD (.int i) (.int j) = some (.int (i ^ j.toNat)) := if_pos (decide_eq_true ⟨h.1, h.2, h2⟩)
@[simp] theorem powD_18 : powD (.int 10) (.int 18) = some (.int 1000000000000000000) := powD_int (by decide) (by decide)
@[simp] theorem powD_30 : powD (.int 10) (.int 30) = some (.int 1000000000000000000000000000000) := powD_int (by decide) (by decide)
@[simp] theorem powD_39 : powD (.int 10) (.int 39) = some (.int 1000000000000000000000000000000000000000) := powD_int (by decide) (by decide)
theorem strD_int {i : Int} (h : -1000000000000000000000000000000000000000000000000 < i ∧ i < 1000000000000000000000000000000000000000000000000) : strD [.int i] = some (.str (toString i)) := by
  refine if_pos ?_
  have h2 : i.natAbs < 2 ^ 1920 := Nat.lt_of_lt_of_le (m := 10 ^ 48) (by omega) (by decide +kernel)
  by_cases z : i.natAbs = 0
  · rw [z]; decide
  · exact (Nat.log2_lt z).mpr h2
theorem mem_repL {d : PyData} {k : Int} {ds : List PyData} (h : d ∈ repL k ds) : d ∈ ds := by
  unfold repL at h
  obtain ⟨l, h1, h2⟩ := List.mem_flatten.mp h
  rw [(List.mem_replicate.mp h1).2] at h2
  exact h2
theorem repL_len (k : Int) (ds : List PyData) : (repL k ds).length = k.toNat * ds.length := by
  unfold repL
  rw [List.length_flatten, List.map_replicate, List.sum_replicate_nat]
/-! isinstance -/
theorem kit_int : ∀ d : PyData, kitB (tyN d) "int" = some (match d with | .int _ => true | .bool _ => true | _ => false)
  | .none => (by decide +kernel : kitB "NoneType" "int" = some false)
  | .bool _ => (by decide +kernel : kitB "bool" "int" = some true)
  | .int _ => (by decide +kernel : kitB "int" "int" = some true)
  | .str _ => (by decide +kernel : kitB "str" "int" = some false)
  | .list _ => (by decide +kernel : kitB "list" "int" = some false)
  | .tuple _ => (by decide +kernel : kitB "tuple" "int" = some false)
  | .dict _ => (by decide +kernel : kitB "dict" "int" = some false)
theorem kit_bool : ∀ d : PyData, kitB (tyN d) "bool" = some (match d with | .bool _ => true | _ => false)
  | .none => (by decide +kernel : kitB "NoneType" "bool" = some false)
  | .bool _ => (by decide +kernel : kitB "bool" "bool" = some true)
  | .int _ => (by decide +kernel : kitB "int" "bool" = some false)
  | .str _ => (by decide +kernel : kitB "str" "bool" = some false)
  | .list _ => (by decide +kernel : kitB "list" "bool" = some false)
  | .tuple _ => (by decide +kernel : kitB "tuple" "bool" = some false)
  | .dict _ => (by decide +kernel : kitB "dict" "bool" = some false)
theorem kit_tuple : ∀ d : PyData, kitB (tyN d) "tuple" = some (match d with | .tuple _ => true | _ => false)
  | .none => (by decide +kernel : kitB "NoneType" "tuple" = some false)
  | .bool _ => (by decide +kernel : kitB "bool" "tuple" = some false)
  | .int _ => (by decide +kernel : kitB "int" "tuple" = some false)
  | .str _ => (by decide +kernel : kitB "str" "tuple" = some false)
  | .list _ => (by decide +kernel : kitB "list" "tuple" = some false)
  | .tuple _ => (by decide +kernel : kitB "tuple" "tuple" = some true)
  | .dict _ => (by decide +kernel : kitB "dict" "tuple" = some false)
theorem kit_list : ∀ d : PyData, kitB (tyN d) "list" = some (match d with | .list _ => true | _ => false)
  | .none => (by decide +kernel : kitB "NoneType" "list" = some false)
  | .bool _ => (by decide +kernel : kitB "bool" "list" = some false)
  | .int _ => (by decide +kernel : kitB "int" "list" = some false)
  | .str _ => (by decide +kernel : kitB "str" "list" = some false)
  | .list _ => (by decide +kernel : kitB "list" "list" = some true)
  | .tuple _ => (by decide +kernel : kitB "tuple" "list" = some false)
  | .dict _ => (by decide +kernel : kitB "dict" "list" = some false)
theorem kit_str : ∀ d : PyData, kitB (tyN d) "str" = some (match d with | .str _ => true | _ => false)
  | .none => (by decide +kernel : kitB "NoneType" "str" = some false)
  | .bool _ => (by decide +kernel : kitB "bool" "str" = some false)
  | .int _ => (by decide +kernel : kitB "int" "str" = some false)
  | .str _ => (by decide +kernel : kitB "str" "str" = some true)
  | .list _ => (by decide +kernel : kitB "list" "str" = some false)
  | .tuple _ => (by decide +kernel : kitB "tuple" "str" = some false)
  | .dict _ => (by decide +kernel : kitB "dict" "str" = some false)
theorem kit_dict : ∀ d : PyData, kitB (tyN d) "dict" = some (match d with | .dict _ => true | _ => false)
  | .none => (by decide +kernel : kitB "NoneType" "dict" = some false)
  | .bool _ => (by decide +kernel : kitB "bool" "dict" = some false)
  | .int _ => (by decide +kernel : kitB "int" "dict" = some false)
  | .str _ => (by decide +kernel : kitB "str" "dict" = some false)
  | .list _ => (by decide +kernel : kitB "list" "dict" = some false)
  | .tuple _ => (by decide +kernel : kitB "tuple" "dict" = some false)
  | .dict _ => (by decide +kernel : kitB "dict" "dict" = some true)
/-! ## loops -/
section
variable {x : Sx}
/-- a comprehension that keeps every item -/
theorem wp_lc_map {α : Type} {t : PyData → M (Option PyData)} {enc f : α → PyData} {l : List α} {Q : List PyData → Sx → Prop} (h : ∀ a ∈ l, Wp (t (enc a)) x fun o y => o = some (f a) ∧ y = x) : Wp (lcGo t (l.map enc)) x Q ↔ Q (l.map f) x := by
  refine Wp.of ?_
  induction l with
  | nil => rfl
  | cons a l ih =>
    rw [List.map_cons]
    unfold lcGo
    obtain ⟨o, y, e, rfl, rfl⟩ := h a List.mem_cons_self
    rw [bnd_eq e, bnd_eq (ih fun b hb => h b (List.mem_cons_of_mem _ hb))]
    rfl
/-- .. that keeps those with p -/
theorem wp_lc_filter {α : Type} {t : PyData → M (Option PyData)} {enc f : α → PyData} {p : α → Bool} {l : List α} {Q : List PyData → Sx → Prop} (h : ∀ a ∈ l, Wp (t (enc a)) x fun o y => o = (if p a = true then some (f a) else none) ∧ y = x) :
    Wp (lcGo t (l.map enc)) x Q ↔ Q ((l.filter p).map f) x := by
  refine Wp.of ?_
  induction l with
  | nil => rfl
  | cons a l ih =>
    rw [List.map_cons]
    unfold lcGo
    obtain ⟨o, y, e, rfl, rfl⟩ := h a List.mem_cons_self
    rw [bnd_eq e, bnd_eq (ih fun b hb => h b (List.mem_cons_of_mem _ hb))]
    cases z : p a with
    | true => rw [List.filter_cons_of_pos z]; rfl
    | false => rw [List.filter_cons_of_neg (by rw [z]; decide)]; rfl
/-- .. each of whose items has P, while I holds of the deck -/
theorem wp_lc_inv {t : PyData → M (Option PyData)} {σ : List Slot} {I : Dk → Prop} {P : PyData → Prop} : ∀ {l : List PyData} {k : Dk}, I k → (∀ d ∈ l, ∀ k, I k → Wp (t d) (σ, k) fun o y => (∃ e, o = some e ∧ P e) ∧ y.1 = σ ∧ I y.2) →
    Wp (lcGo t l) (σ, k) fun out y => out.length = l.length ∧ (∀ e ∈ out, P e) ∧ y.1 = σ ∧ I y.2
  | [], k, hk, _ => ⟨[], (σ, k), rfl, rfl, (fun _ h => by cases h), rfl, hk⟩
  | d :: l, k, hk, h => by
    obtain ⟨o, ⟨σ', k'⟩, e, ⟨v, rfl, hv⟩, h2, h3⟩ := h d List.mem_cons_self k hk
    cases h2
    obtain ⟨out, y, e2, g1, g2, g3, g4⟩ := wp_lc_inv (l := l) h3 fun b hb => h b (List.mem_cons_of_mem _ hb)
    refine ⟨v :: out, y, ?_, by rw [List.length_cons, List.length_cons, g1], fun z hz => ?_, g3, g4⟩
    · unfold lcGo
      rw [bnd_eq e, bnd_eq e2]
      rfl
    · rcases List.mem_cons.mp hz with rfl | hz
      · exact hv
      · exact g2 z hz
/-- all(..) -/
theorem wp_allGo {α : Type} {g : PyData → M Unit} {te : M Hd} {vs : List Nat} {enc : α → PyData} {p : α → Bool} {l : List α} {Q : Bool → Sx → Prop} (h : ∀ a ∈ l, Wp (g (enc a)) x fun _ y => Wp te y fun h z => h = .val (.bool (p a)) ∧ (wipeD z.1 vs, z.2) = x) :
    Wp (allGo g te vs (l.map enc)) x Q ↔ Q (l.all p) x := by
  refine Wp.of ?_
  induction l with
  | nil => rfl
  | cons a l ih =>
    rw [List.map_cons]
    unfold allGo
    obtain ⟨_, y, e, hh, z, e2, rfl, e3⟩ := h a List.mem_cons_self
    rw [bnd_eq e, bnd_eq e2]
    cases hp : p a with
    | false =>
      show some (false, (wipeD z.1 vs, z.2)) = _
      rw [e3, List.all_cons, hp]; rfl
    | true =>
      show allGo g te vs (l.map enc) (wipeD z.1 vs, z.2) = _
      rw [e3, ih fun b hb => h b (List.mem_cons_of_mem _ hb), List.all_cons, hp]; rfl
theorem wp_all {g : PyData → M Unit} {te : M Hd} {vs : List Nat} {l : List PyData} {Q : Bool → Sx → Prop} (p : PyData → Bool) (h : ∀ a ∈ l, Wp (g a) x fun _ y => Wp te y fun h z => h = .val (.bool (p a)) ∧ (wipeD z.1 vs, z.2) = x) : Wp (allGo g te vs l) x Q ↔ Q (l.all p) x := by
  have := wp_allGo (enc := id) (l := l) (Q := Q) h
  rw [List.map_id] at this
  exact this
/-- a comprehension over data -/
theorem wp_lcm {t : PyData → M (Option PyData)} {l : List PyData} {Q : List PyData → Sx → Prop} (f : PyData → PyData) (h : ∀ a ∈ l, Wp (t a) x fun o y => o = some (f a) ∧ y = x) : Wp (lcGo t l) x Q ↔ Q (l.map f) x := by
  have := wp_lc_map (enc := id) (l := l) (Q := Q) h
  rw [List.map_id] at this
  exact this
/-- a loop with an invariant: it is gone through -/
theorem wp_for {g : PyData → M Unit} {b : M Fl} {I : List PyData → Sx → Prop} {Q : Fl → Sx → Prop} : ∀ {l : List PyData} {x : Sx}, I l x → (∀ d r y, I (d :: r) y → Wp (g d) y fun _ z => Wp b z fun fl w => match fl with
    | .nx => I r w
    | .ct => I r w
    | .bk => Q .nx w
    | .rt v => Q (.rt v) w) → (∀ y, I [] y → Q .nx y) → Wp (forGo g b l) x Q
  | [], x, h0, _, hq => ⟨.nx, x, rfl, hq x h0⟩
  | d :: l, x, h0, hs, hq => by
    unfold forGo
    rw [wp_bnd]
    refine (hs d l x h0).mono fun _ y h1 => ?_
    rw [wp_bnd]
    refine h1.mono fun fl w h2 => ?_
    cases fl with
    | nx => exact wp_for h2 hs hq
    | ct => exact wp_for h2 hs hq
    | bk => exact wp_ret.mpr h2
    | rt v => exact wp_ret.mpr h2
/-- one statement, what follows is kept shut -/
theorem wp_seq {f g : M Fl} {Q : Fl → Sx → Prop} (h : ∀ R : Fl → Sx → Prop, (∀ y, Wp g y Q → R .nx y) → (∀ d y, Q (.rt d) y → R (.rt d) y) → Wp f x R) : Wp (sCons f g) x Q :=
  wp_sCons.mpr (h (Nxt g Q) (fun _ q => q) fun _ _ q => q)
theorem wp_seq1 {f g : M Fl} {Q : Fl → Sx → Prop} (h : ∀ R : Fl → Sx → Prop, (∀ y, Wp g y Q → R .nx y) → Wp f x R) : Wp (sCons f g) x Q := wp_seq fun R a _ => h R a
theorem wp_seqL {f g : M Fl} {Q : Fl → Sx → Prop} (h : ∀ R : Fl → Sx → Prop, (∀ y, Wp g y Q → R .nx y) → (∀ d y, Q (.rt d) y → R (.rt d) y) → (∀ y, Q .ct y → R .ct y) → (∀ y, Q .bk y → R .bk y) → Wp f x R) : Wp (sCons f g) x Q :=
  wp_sCons.mpr (h (Nxt g Q) (fun _ q => q) (fun _ _ q => q) (fun _ q => q) fun _ q => q)
/-- a loop, what follows a turn is kept shut -/
theorem wp_forR {g : PyData → M Unit} {b : M Fl} {Q : Fl → Sx → Prop} (I : List PyData → Sx → Prop) {l : List PyData} {x : Sx} (h0 : I l x)
    (hs : ∀ d r y R, I (d :: r) y → (∀ w, I r w → R .nx w) → (∀ w, I r w → R .ct w) → (∀ w, Q .nx w → R .bk w) → (∀ v w, Q (.rt v) w → R (.rt v) w) → Wp (g d) y fun _ z => Wp b z R)
    (hq : ∀ y, I [] y → Q .nx y) : Wp (forGo g b l) x Q := by
  refine wp_for (I := I) h0 (fun d r y hy => ?_) hq
  exact hs d r y _ hy (fun _ q => q) (fun _ q => q) (fun _ q => q) fun _ _ q => q
theorem enumD_map {α : Type} (enc : α → PyData) (l : List α) : enumD (l.map enc) = l.zipIdx.map fun p => .tuple [.int (p.2 : Int), enc p.1] := by
  unfold enumD zipD upTo
  apply List.ext_getElem
  · simp
  · intro i h1 h2
    simp
theorem upTo0 (n : Nat) : upTo 0 n = (List.range n).map fun (i : Nat) => PyData.int (i : Int) := by
  unfold upTo
  congr 1
  funext i
  rw [Int.zero_add]
@[simp] theorem okR_iff (i : Int) : okR i = true ↔ -4611686018427387904 ≤ i ∧ i < 4611686018427387904 := by
  unfold okR
  rw [decide_eq_true_iff]
  exact Iff.rfl
end
end DD
namespace DD
open PySem PySem.Spec PyProof.Rows L2 GxR
/-! ## data of ints, tuples and lists -/
mutual
def iD : PyData → Bool
  | .int _ => true
  | .tuple xs => iDs xs
  | .list xs => iDs xs
  | _ => false
def iDs : List PyData → Bool
  | [] => true
  | x :: xs => iD x && iDs xs
end
mutual
theorem eqv_iD : ∀ (d e : PyData), iD d = true → iD e = true → (PyData.eqv d e = true ↔ d = e)
  | .int i, .int j, _, _ => by
    show (i == j) = true ↔ _
    rw [beq_iff_eq, PyData.int.injEq]
  | .tuple xs, .tuple ys, h, g => by
    show PyData.eqvAll xs ys = true ↔ _
    rw [eqv_iDs xs ys h g, PyData.tuple.injEq]
  | .list xs, .list ys, h, g => by
    show PyData.eqvAll xs ys = true ↔ _
    rw [eqv_iDs xs ys h g, PyData.list.injEq]
  | .int _, .tuple _, _, _ => by simp [PyData.eqv]
  | .int _, .list _, _, _ => by simp [PyData.eqv]
  | .tuple _, .int _, _, _ => by simp [PyData.eqv]
  | .tuple _, .list _, _, _ => by simp [PyData.eqv]
  | .list _, .int _, _, _ => by simp [PyData.eqv]
  | .list _, .tuple _, _, _ => by simp [PyData.eqv]
  | .none, _, h, _ => by simp [iD] at h
  | .bool _, _, h, _ => by simp [iD] at h
  | .str _, _, h, _ => by simp [iD] at h
  | .dict _, _, h, _ => by simp [iD] at h
  | _, .none, _, g => by simp [iD] at g
  | _, .bool _, _, g => by simp [iD] at g
  | _, .str _, _, g => by simp [iD] at g
  | _, .dict _, _, g => by simp [iD] at g
theorem eqv_iDs : ∀ (ds es : List PyData), iDs ds = true → iDs es = true → (PyData.eqvAll ds es = true ↔ ds = es)
  | [], [], _, _ => by simp [PyData.eqvAll]
  | [], _ :: _, _, _ => by simp [PyData.eqvAll]
  | _ :: _, [], _, _ => by simp [PyData.eqvAll]
  | d :: ds, e :: es, h, g => by
    simp only [iDs, Bool.and_eq_true] at h g
    simp only [PyData.eqvAll, Bool.and_eq_true, List.cons.injEq]
    rw [eqv_iD d e h.1 g.1, eqv_iDs ds es h.2 g.2]
end
mutual
theorem lay_iD : ∀ (d : PyData), iD d = true → d.canLay0 = true
  | .int _, _ => by simp [PyData.canLay0]
  | .tuple xs, h => by simp only [PyData.canLay0]; exact lay_iDs xs (by simpa only [iD] using h)
  | .list xs, h => by simp only [PyData.canLay0]; exact lay_iDs xs (by simpa only [iD] using h)
  | .none, h => by simp [iD] at h
  | .bool _, h => by simp [iD] at h
  | .str _, h => by simp [iD] at h
  | .dict _, h => by simp [iD] at h
theorem lay_iDs : ∀ (ds : List PyData), iDs ds = true → PyData.canLayAll0 ds = true
  | [], _ => by simp [PyData.canLayAll0]
  | d :: ds, h => by
    simp only [iDs, Bool.and_eq_true] at h
    simp only [PyData.canLayAll0, Bool.and_eq_true]
    exact ⟨lay_iD d h.1, lay_iDs ds h.2⟩
end
theorem iDs_iff {ds : List PyData} : iDs ds = true ↔ ∀ d ∈ ds, iD d = true := by
  induction ds with
  | nil => simp [iDs]
  | cons d ds ih => simp [iDs, ih]
theorem depthAll_le {ds : List PyData} {m : Nat} : PyData.depthAll ds ≤ m ↔ ∀ d ∈ ds, d.depth ≤ m := by
  induction ds with
  | nil => simp [PyData.depthAll]
  | cons d ds ih =>
    simp only [PyData.depthAll, List.mem_cons, forall_eq_or_imp, ← ih]
    omega
theorem shaped_iD {d : PyData} (h : iD d = true) (g : d.depth ≤ 64) : SeqAt.shaped d = true := by
  unfold SeqAt.shaped
  rw [lay_iD d h, decide_eq_true g]; rfl
/-- int data of a depth -/
def Idm (m : Nat) (d : PyData) : Prop := iD d = true ∧ d.depth ≤ m
theorem Idm.int (i : Int) (m : Nat) : Idm m (.int i) := ⟨by simp [iD], by simp [PyData.depth]⟩
theorem Idm.tup {m : Nat} {ds : List PyData} (h : ∀ d ∈ ds, Idm m d) : Idm (m + 1) (.tuple ds) := ⟨by simp only [iD]; exact iDs_iff.mpr fun d hd => (h d hd).1, by simp only [PyData.depth]; exact Nat.succ_le_succ (depthAll_le.mpr fun d hd => (h d hd).2)⟩
theorem Idm.lst {m : Nat} {ds : List PyData} (h : ∀ d ∈ ds, Idm m d) : Idm (m + 1) (.list ds) := ⟨by simp only [iD]; exact iDs_iff.mpr fun d hd => (h d hd).1, by simp only [PyData.depth]; exact Nat.succ_le_succ (depthAll_le.mpr fun d hd => (h d hd).2)⟩
theorem Idm.row (ns : List Int) : Idm 1 (rowD ns) := Idm.tup fun d hd => by obtain ⟨i, _, rfl⟩ := List.mem_map.mp hd; exact Idm.int i 0
theorem Idm.le {m n : Nat} {d : PyData} (h : Idm m d) (g : m ≤ n) : Idm n d := ⟨h.1, Nat.le_trans h.2 g⟩
theorem eqD_id {d e : PyData} {m n : Nat} (h : Idm m d) (g : Idm n e) (hm : m ≤ 64) (hn : n ≤ 64) : eqD d e = some (.bool (PyData.eqv d e)) := by
  have z : eqOk d e = true := by
    unfold eqOk
    split
    · rfl
    · rw [shaped_iD h.1 (Nat.le_trans h.2 hm), shaped_iD g.1 (Nat.le_trans g.2 hn)]; rfl
  show (if eqOk d e = true then _ else _) = _
  rw [if_pos z]
theorem neD_id {d e : PyData} {m n : Nat} (h : Idm m d) (g : Idm n e) (hm : m ≤ 64) (hn : n ≤ 64) : neD d e = some (.bool (!PyData.eqv d e)) := by
  have z : eqOk d e = true := by
    unfold eqOk
    split
    · rfl
    · rw [shaped_iD h.1 (Nat.le_trans h.2 hm), shaped_iD g.1 (Nat.le_trans g.2 hn)]; rfl
  show (if eqOk d e = true then _ else _) = _
  rw [if_pos z]
theorem inD_tup {d : PyData} {ds : List PyData} {m : Nat} (h : Idm m d) (g : ∀ e ∈ ds, Idm m e) (hm : m ≤ 63) : inD d (.tuple ds) = some (.bool (ds.any fun z => PyData.eqv z d)) := by
  show (if _ then _ else _) = _
  rw [if_pos]
  rw [shaped_iD h.1 (by have := h.2; omega), shaped_iD (Idm.lst g).1 (by have := (Idm.lst g).2; omega)]; rfl
theorem inD_lst {d : PyData} {ds : List PyData} {m : Nat} (h : Idm m d) (g : ∀ e ∈ ds, Idm m e) (hm : m ≤ 63) : inD d (.list ds) = some (.bool (ds.any fun z => PyData.eqv z d)) := by
  show (if _ then _ else _) = _
  rw [if_pos]
  rw [shaped_iD h.1 (by have := h.2; omega), shaped_iD (Idm.lst g).1 (by have := (Idm.lst g).2; omega)]; rfl
theorem any_eqv {d : PyData} {ds : List PyData} {m n : Nat} (h : Idm m d) (g : ∀ e ∈ ds, Idm n e) : (ds.any fun z => PyData.eqv z d) = true ↔ d ∈ ds := by
  rw [List.any_eq_true]
  constructor
  · rintro ⟨z, hz, e⟩
    rw [eqv_iD z d (g z hz).1 h.1] at e
    subst e; exact hz
  · intro hd
    exact ⟨d, hd, (eqv_iD d d h.1 h.1).mpr rfl⟩
/-- an int among ints -/
theorem inD_ints (i : Int) (ns : List Int) : inD (.int i) (.tuple (ns.map .int)) = some (.bool (decide (i ∈ ns))) := by
  have g : ∀ e ∈ ns.map PyData.int, Idm 0 e := fun e he => by obtain ⟨j, _, rfl⟩ := List.mem_map.mp he; exact Idm.int j 0
  rw [inD_tup (Idm.int i 0) g (by omega)]
  congr 2
  rw [Bool.eq_iff_iff, any_eqv (Idm.int i 0) g, decide_eq_true_iff]
  simp
@[simp] theorem eqD_str (x y : Str) : eqD (.str x) (.str y) = some (.bool (x == y)) := rfl
@[simp] theorem neD_str (x y : Str) : neD (.str x) (.str y) = some (.bool (!(x == y))) := rfl

/-! ## data that can be shown -/
def Fit (n m : Nat) (d : PyData) : Prop := d.leavesShort 60 = true ∧ d.showable = true ∧ d.bulk ≤ n ∧ d.depth ≤ m
theorem Fit.le {n m n' m' : Nat} {d : PyData} (h : Fit n m d) (a : n ≤ n') (b : m ≤ m') : Fit n' m' d := ⟨h.1, h.2.1, Nat.le_trans h.2.2.1 a, Nat.le_trans h.2.2.2 b⟩
theorem Fit.int {i : Int} (h : i.natAbs < 10 ^ 50) : Fit 0 0 (.int i) := by
  refine ⟨?_, ?_, by simp [PyData.bulk], by simp [PyData.depth]⟩
  · simp only [PyData.leavesShort, decide_eq_true_eq]
    show (Str.ofString (toString i)).length ≤ 60
    rw [PySem.ofString_length]
    have := int_text_length_le10 (a := i) (k := 50) (by decide) h
    omega
  · simp only [PyData.showable, decide_eq_true_eq]
    have h2 : i.natAbs < 2 ^ 1920 := Nat.lt_of_lt_of_le h (by decide +kernel)
    by_cases z : i.natAbs = 0
    · rw [z]; decide
    · exact (Nat.log2_lt z).mpr h2
mutual
/-- small leaves -/
def sml : PyData → Prop
  | .int i => -10000000000000000000000000000000000000000000000000 < i ∧ i < 10000000000000000000000000000000000000000000000000
  | .str x => (x.cps.toList.all fun c => decide (c < 16 ^ 8)) = true
  | .none => True
  | .bool _ => True
  | .list xs => smls xs
  | .tuple xs => smls xs
  | .dict kvs => smlKv kvs
def smls : List PyData → Prop
  | [] => True
  | x :: xs => sml x ∧ smls xs
def smlKv : List (PyData × PyData) → Prop
  | [] => True
  | (k, v) :: r => sml k ∧ sml v ∧ smlKv r
end
mutual
theorem sml_fit : ∀ d : PyData, sml d → d.leavesShort 60 = true ∧ d.showable = true
  | .none, _ => by simp [PyData.leavesShort, PyData.showable]
  | .bool _, _ => by simp [PyData.leavesShort, PyData.showable]
  | .int i, h => by
    simp only [sml] at h
    have f := Fit.int (i := i) (by omega)
    exact ⟨f.1, f.2.1⟩
  | .str x, h => by
    simp only [sml] at h
    simp only [PyData.leavesShort, PyData.showable]
    exact ⟨h, trivial⟩
  | .list xs, h => by
    simp only [sml] at h
    simp only [PyData.leavesShort, PyData.showable]
    exact smls_fit xs h
  | .tuple xs, h => by
    simp only [sml] at h
    simp only [PyData.leavesShort, PyData.showable]
    exact smls_fit xs h
  | .dict kvs, h => by
    simp only [sml] at h
    simp only [PyData.leavesShort, PyData.showable]
    exact smlKv_fit kvs h
theorem smls_fit : ∀ ds : List PyData, smls ds → PyData.leavesShortAll 60 ds = true ∧ PyData.showableAll ds = true
  | [], _ => by simp [PyData.leavesShortAll, PyData.showableAll]
  | d :: ds, h => by
    simp only [smls] at h
    obtain ⟨a, b⟩ := sml_fit d h.1
    obtain ⟨a2, b2⟩ := smls_fit ds h.2
    simp only [PyData.leavesShortAll, PyData.showableAll, a, b, a2, b2, Bool.and_self, and_self]
theorem smlKv_fit : ∀ ds : List (PyData × PyData), smlKv ds → PyData.leavesShortKv 60 ds = true ∧ PyData.showableKv ds = true
  | [], _ => by simp [PyData.leavesShortKv, PyData.showableKv]
  | (k, v) :: ds, h => by
    simp only [smlKv] at h
    obtain ⟨a, b⟩ := sml_fit k h.1
    obtain ⟨a1, b1⟩ := sml_fit v h.2.1
    obtain ⟨a2, b2⟩ := smlKv_fit ds h.2.2
    simp only [PyData.leavesShortKv, PyData.showableKv, a, b, a1, b1, a2, b2, Bool.and_self, and_self]
end
theorem Fit.of {n m : Nat} {d : PyData} (h : sml d ∧ d.bulk ≤ n ∧ d.depth ≤ m) : Fit n m d := ⟨(sml_fit d h.1).1, (sml_fit d h.1).2, h.2.1, h.2.2⟩
theorem fit_all {n m : Nat} : ∀ {ds : List PyData}, (∀ d ∈ ds, Fit n m d) → PyData.leavesShortAll 60 ds = true ∧ PyData.showableAll ds = true ∧ PyData.bulkAll ds ≤ ds.length * (n + 1) ∧ PyData.depthAll ds ≤ m
  | [], _ => by simp [PyData.leavesShortAll, PyData.showableAll, PyData.bulkAll, PyData.depthAll]
  | d :: ds, h => by
    obtain ⟨a, b, c, e⟩ := h d List.mem_cons_self
    obtain ⟨a2, b2, c2, e2⟩ := fit_all (ds := ds) fun x hx => h x (List.mem_cons_of_mem _ hx)
    refine ⟨by simp only [PyData.leavesShortAll, a, a2, Bool.and_self], by simp only [PyData.showableAll, b, b2, Bool.and_self], ?_, ?_⟩
    · simp only [PyData.bulkAll, List.length_cons]
      rw [Nat.succ_mul]
      omega
    · simp only [PyData.depthAll]
      omega
theorem Fit.tup {n m : Nat} {ds : List PyData} (h : ∀ d ∈ ds, Fit n m d) : Fit (ds.length * (n + 1)) (m + 1) (.tuple ds) := by
  obtain ⟨a, b, c, e⟩ := fit_all h
  exact ⟨by simp only [PyData.leavesShort, a], by simp only [PyData.showable, b], by simp only [PyData.bulk]; exact c, by simp only [PyData.depth]; omega⟩
theorem Fit.lst {n m : Nat} {ds : List PyData} (h : ∀ d ∈ ds, Fit n m d) : Fit (ds.length * (n + 1)) (m + 1) (.list ds) := by
  obtain ⟨a, b, c, e⟩ := fit_all h
  exact ⟨by simp only [PyData.leavesShort, a], by simp only [PyData.showable, b], by simp only [PyData.bulk]; exact c, by simp only [PyData.depth]; omega⟩
theorem Fit.tupLe {n m N : Nat} {ds : List PyData} (h : ∀ d ∈ ds, Fit n m d) (l : ds.length ≤ N) : Fit (N * (n + 1)) (m + 1) (.tuple ds) := (Fit.tup h).le (Nat.mul_le_mul_right _ l) (Nat.le_refl _)
theorem Fit.lstLe {n m N : Nat} {ds : List PyData} (h : ∀ d ∈ ds, Fit n m d) (l : ds.length ≤ N) : Fit (N * (n + 1)) (m + 1) (.list ds) := (Fit.lst h).le (Nat.mul_le_mul_right _ l) (Nat.le_refl _)
theorem Fit.size {n m : Nat} {d : PyData} (h : Fit n m d) (hn : n ≤ 262144) : d.shown.length ≤ 16777216 := by
  have := PyData.shown_le_bulk 60 (by decide) d h.1
  have := h.2.2.1
  omega
theorem Fit.repr {n m : Nat} {d : PyData} (h : Fit n m d) (hn : n ≤ 262144) (hm : m ≤ 40) : reprD [d] = some (.str d.shown) := by
  have sz := h.size hn
  have fs : fitS d = true := by
    unfold fitS
    rw [h.2.1, decide_eq_true (Nat.le_trans h.2.2.2 hm), decide_eq_true sz]; rfl
  cases d with
  | none => simp only [reprD, PyData.shown]
  | bool b => simp only [reprD, PyData.shown]
  | int i =>
    have z : i.natAbs.log2 < 1920 := by simpa only [PyData.showable, decide_eq_true_eq] using h.2.1
    simp only [reprD, PyData.shown, if_pos z]
  | str x =>
    simp only [PyData.shown] at sz
    simp only [reprD, PyData.shown, if_pos sz]
  | list ds => simp only [reprD, fs, if_true]
  | tuple ds => simp only [reprD, fs, if_true]
  | dict ds => simp only [reprD, fs, if_true]
end DD
/-! # rows of marks by q, spans, plain lists (no Python here) -/
namespace LA
abbrev Row := List Int
def ev (r : Row) (i : Nat) : Int := r.getD i 0
def nou (n : Nat) : Row := List.replicate n 0
def pls (q : Int) (r s : Row) (t : Int) : Row := List.zipWith (fun x y => (x + t * y) % q) r s
def tms (q : Int) (r : Row) (t : Int) : Row := r.map fun x => x * t % q
/-- a row of n marks by q -/
def Rw (q : Int) (n : Nat) (r : Row) : Prop := r.length = n ∧ ∀ x ∈ r, 0 ≤ x ∧ x < q
section
variable {q : Int} {n : Nat}
theorem ev_lt {r : Row} {i : Nat} (h : i < r.length) : ev r i = r[i] := by
  unfold ev
  rw [List.getD_eq_getElem?_getD, List.getElem?_eq_getElem h]; rfl
theorem ev_ge {r : Row} {i : Nat} (h : r.length ≤ i) : ev r i = 0 := by
  unfold ev
  rw [List.getD_eq_getElem?_getD, List.getElem?_eq_none h]; rfl
theorem Rw.ev {r : Row} (hq : 0 < q) (h : Rw q n r) (i : Nat) : 0 ≤ ev r i ∧ ev r i < q := by
  by_cases hi : i < r.length
  · rw [ev_lt hi]; exact h.2 _ (List.getElem_mem hi)
  · rw [ev_ge (by omega)]; omega
theorem row_ext {r s : Row} (hr : r.length = n) (hs : s.length = n) (h : ∀ i, i < n → ev r i = ev s i) : r = s := by
  refine List.ext_getElem (by rw [hr, hs]) fun i h1 h2 => ?_
  have := h i (by omega)
  rw [ev_lt h1, ev_lt h2] at this
  exact this
/-- a number modulo q, told by divisibility -/
def Cg (q a b : Int) : Prop := a % q = b % q
theorem Cg.refl (a : Int) : Cg q a a := rfl
theorem Cg.symm {a b : Int} (h : Cg q a b) : Cg q b a := Eq.symm h
theorem Cg.trans {a b c : Int} (h : Cg q a b) (g : Cg q b c) : Cg q a c := Eq.trans h g
theorem Cg.of_eq {a b : Int} (h : a = b) : Cg q a b := by rw [h]; rfl
theorem Cg.mod (a : Int) : Cg q (a % q) a := Int.emod_emod a q
theorem Cg.add {a b c d : Int} (h : Cg q a b) (g : Cg q c d) : Cg q (a + c) (b + d) := by
  unfold Cg at *
  rw [Int.add_emod, h, g, ← Int.add_emod]
theorem Cg.mul {a b c d : Int} (h : Cg q a b) (g : Cg q c d) : Cg q (a * c) (b * d) := by
  unfold Cg at *
  rw [Int.mul_emod, h, g, ← Int.mul_emod]
theorem Cg.neg {a b : Int} (h : Cg q a b) : Cg q (-a) (-b) := by
  have := Cg.mul (Cg.refl (q := q) (-1)) h
  rw [Int.neg_one_mul, Int.neg_one_mul] at this
  exact this
theorem Cg.sub {a b c d : Int} (h : Cg q a b) (g : Cg q c d) : Cg q (a - c) (b - d) := by
  rw [Int.sub_eq_add_neg, Int.sub_eq_add_neg]
  exact h.add g.neg
theorem Cg.eq {a b : Int} (h : Cg q a b) (ha : 0 ≤ a ∧ a < q) (hb : 0 ≤ b ∧ b < q) : a = b := by
  unfold Cg at h
  rw [Int.emod_eq_of_lt ha.1 ha.2, Int.emod_eq_of_lt hb.1 hb.2] at h
  exact h
theorem Cg.zero_eq {a : Int} (h : Cg q a 0) (ha : 0 ≤ a ∧ a < q) : a = 0 := h.eq ha ⟨Int.le_refl _, by omega⟩
theorem row_extC {r s : Row} (hq : 0 < q) (hr : Rw q n r) (hs : Rw q n s) (h : ∀ i, i < n → Cg q (ev r i) (ev s i)) : r = s :=
  row_ext hr.1 hs.1 fun i hi => (h i hi).eq (hr.ev hq i) (hs.ev hq i)
theorem ev_nou (i : Nat) : ev (nou n) i = 0 := by
  by_cases h : i < (nou n).length
  · rw [ev_lt h]
    exact List.eq_of_mem_replicate (List.getElem_mem h)
  · exact ev_ge (by omega)
theorem rw_nou (hq : 0 < q) : Rw q n (nou n) := ⟨List.length_replicate, fun x hx => by rw [List.eq_of_mem_replicate hx]; omega⟩
theorem ev_pls {r s : Row} (hr : r.length = n) (hs : s.length = n) (t : Int) {i : Nat} (hi : i < n) : ev (pls q r s t) i = (ev r i + t * ev s i) % q := by
  rw [ev_lt (show i < r.length by omega), ev_lt (show i < s.length by omega), ev_lt (by unfold pls; rw [List.length_zipWith]; omega)]
  unfold pls
  rw [List.getElem_zipWith]
theorem ev_plsC {r s : Row} (hr : r.length = n) (hs : s.length = n) (t : Int) {i : Nat} (hi : i < n) : Cg q (ev (pls q r s t) i) (ev r i + t * ev s i) := by
  rw [ev_pls hr hs t hi]; exact Cg.mod _
theorem Rw.pls {r s : Row} (hq : 0 < q) (hr : Rw q n r) (hs : Rw q n s) (t : Int) : Rw q n (pls q r s t) := by
  refine ⟨by unfold LA.pls; rw [List.length_zipWith, hr.1, hs.1, Nat.min_self], fun x hx => ?_⟩
  unfold LA.pls at hx
  obtain ⟨i, hi, e⟩ := List.mem_iff_getElem.mp hx
  rw [List.getElem_zipWith] at e
  subst e
  exact ⟨Int.emod_nonneg _ (by omega), Int.emod_lt_of_pos _ hq⟩
theorem ev_tms {r : Row} (t : Int) (i : Nat) : ev (tms q r t) i = ev r i * t % q := by
  by_cases hi : i < r.length
  · rw [ev_lt hi, ev_lt (by unfold tms; rw [List.length_map]; exact hi)]
    unfold tms
    rw [List.getElem_map]
  · rw [ev_ge (show r.length ≤ i by omega), ev_ge (by unfold tms; rw [List.length_map]; omega), Int.zero_mul, Int.zero_emod]
theorem Rw.tms {r : Row} (hq : 0 < q) (hr : Rw q n r) (t : Int) : Rw q n (tms q r t) := by
  refine ⟨by unfold LA.tms; rw [List.length_map]; exact hr.1, fun x hx => ?_⟩
  obtain ⟨y, _, rfl⟩ := List.mem_map.mp hx
  exact ⟨Int.emod_nonneg _ (by omega), Int.emod_lt_of_pos _ hq⟩
/-! ## spans -/
/-- all sums of multiples -/
inductive Sp (q : Int) (n : Nat) (B : List Row) : Row → Prop
  | zero : Sp q n B (nou n)
  | add {v b : Row} (t : Int) (hb : b ∈ B) (hv : Sp q n B v) : Sp q n B (pls q v b t)
theorem Sp.row (hq : 0 < q) {B : List Row} (hB : ∀ b ∈ B, Rw q n b) {v : Row} (h : Sp q n B v) : Rw q n v := by
  induction h with
  | zero => exact rw_nou hq
  | add t hb _ ih => exact ih.pls hq (hB _ hb) t
theorem Sp.plus (hq : 0 < q) {B : List Row} (hB : ∀ b ∈ B, Rw q n b) {v w : Row} (hv : Sp q n B v) (hw : Sp q n B w) (t : Int) : Sp q n B (pls q v w t) := by
  have rv := hv.row hq hB
  induction hw with
  | zero =>
    have e : pls q v (nou n) t = v := row_extC hq (rv.pls hq (rw_nou hq) t) rv fun i hi => by
      refine (ev_plsC rv.1 (rw_nou hq).1 t hi).trans (.of_eq ?_)
      rw [ev_nou, Int.mul_zero, Int.add_zero]
    rw [e]; exact hv
  | @add w b s hb hw ih =>
    have rw' := hw.row hq hB
    have rb := hB b hb
    have e : pls q v (pls q w b s) t = pls q (pls q v w t) b (t * s) := row_extC hq (rv.pls hq (rw'.pls hq rb s) t) ((rv.pls hq rw' t).pls hq rb _) fun i hi => by
      refine (ev_plsC rv.1 (rw'.pls hq rb s).1 t hi).trans (Cg.symm ((ev_plsC (rv.pls hq rw' t).1 rb.1 _ hi).trans ?_))
      refine (Cg.add (ev_plsC rv.1 rw'.1 t hi) (.refl _)).trans (Cg.symm ((Cg.add (.refl _) (Cg.mul (.refl t) (ev_plsC rw'.1 rb.1 s hi))).trans (.of_eq ?_)))
      rw [Int.mul_add, Int.mul_assoc, Int.add_assoc]
    rw [e]
    exact .add _ hb ih
theorem Sp.of_mem (hq : 0 < q) {B : List Row} (hB : ∀ b ∈ B, Rw q n b) {b : Row} (h : b ∈ B) : Sp q n B b := by
  have rb := hB b h
  have e : pls q (nou n) b 1 = b := row_extC hq ((rw_nou hq).pls hq rb 1) rb fun i hi => by
    refine (ev_plsC (rw_nou hq).1 rb.1 1 hi).trans (.of_eq ?_)
    rw [ev_nou, Int.one_mul, Int.zero_add]
  have := Sp.add (q := q) (n := n) (B := B) 1 h .zero
  rw [e] at this
  exact this
theorem Sp.times (hq : 0 < q) {B : List Row} (hB : ∀ b ∈ B, Rw q n b) {v : Row} (h : Sp q n B v) (t : Int) : Sp q n B (tms q v t) := by
  have rv := h.row hq hB
  have e : pls q (nou n) v t = tms q v t := row_extC hq ((rw_nou hq).pls hq rv t) (rv.tms hq t) fun i hi => by
    refine (ev_plsC (rw_nou hq).1 rv.1 t hi).trans ?_
    rw [ev_tms, ev_nou, Int.zero_add, Int.mul_comm]
    exact (Cg.mod _).symm
  rw [← e]
  exact Sp.plus hq hB .zero h t
theorem Sp.trans (hq : 0 < q) {A B : List Row} (hB : ∀ b ∈ B, Rw q n b) (h : ∀ a ∈ A, Sp q n B a) {v : Row} (hv : Sp q n A v) : Sp q n B v := by
  induction hv with
  | zero => exact .zero
  | add t hb _ ih => exact Sp.plus hq hB ih (h _ hb) t
theorem Sp.mono {A B : List Row} (h : ∀ a ∈ A, a ∈ B) {v : Row} (hv : Sp q n A v) : Sp q n B v := by
  induction hv with
  | zero => exact .zero
  | add t hb _ ih => exact .add t (h _ hb) ih
/-! ## lists of rows with pivots -/
/-- each row is 1 at its pivot, and 0 at those of the others -/
structure Piv (q : Int) (n : Nat) (L : List (Row × Nat)) : Prop where
  row : ∀ p ∈ L, Rw q n p.1
  lt : ∀ p ∈ L, p.2 < n
  one : ∀ p ∈ L, ev p.1 p.2 = 1
  zero : L.Pairwise fun a b => ev a.1 b.2 = 0 ∧ ev b.1 a.2 = 0
/-- freed of the pivots -/
def redP (q : Int) (L : List (Row × Nat)) (v : Row) : Row := L.foldl (fun v p => pls q v p.1 (-(ev v p.2))) v
theorem Piv.tail {p : Row × Nat} {L : List (Row × Nat)} (h : Piv q n (p :: L)) : Piv q n L :=
  ⟨fun x hx => h.row x (List.mem_cons_of_mem _ hx), fun x hx => h.lt x (List.mem_cons_of_mem _ hx), fun x hx => h.one x (List.mem_cons_of_mem _ hx), (List.pairwise_cons.mp h.zero).2⟩
theorem redP_row (hq : 0 < q) : ∀ {L : List (Row × Nat)} {v : Row}, (∀ p ∈ L, Rw q n p.1) → Rw q n v → Rw q n (redP q L v)
  | [], _, _, h => h
  | p :: L, v, hL, h => redP_row hq (L := L) (fun x hx => hL x (List.mem_cons_of_mem _ hx)) (h.pls hq (hL p List.mem_cons_self) _)
/-- where v is 0 and all rows are 0 it stays 0 -/
theorem redP_keep (hq : 0 < q) {i : Nat} (hi : i < n) : ∀ {L : List (Row × Nat)} {v : Row}, (∀ p ∈ L, Rw q n p.1) → Rw q n v → (∀ p ∈ L, ev p.1 i = 0) → Cg q (ev (redP q L v) i) (ev v i)
  | [], _, _, _, _ => .refl _
  | p :: L, v, hL, h, hz => by
    have rp := hL p List.mem_cons_self
    refine (redP_keep hq hi (L := L) (fun x hx => hL x (List.mem_cons_of_mem _ hx)) (h.pls hq rp _) fun x hx => hz x (List.mem_cons_of_mem _ hx)).trans ((ev_plsC h.1 rp.1 _ hi).trans (.of_eq ?_))
    rw [hz p List.mem_cons_self, Int.mul_zero, Int.add_zero]
theorem redP_zero (hq : 0 < q) : ∀ {L : List (Row × Nat)} {v : Row}, Piv q n L → Rw q n v → ∀ p ∈ L, ev (redP q L v) p.2 = 0
  | p :: L, v, P, h, x, hx => by
    have rp := P.row p List.mem_cons_self
    have rv := h.pls hq rp (-(ev v p.2))
    rcases List.mem_cons.mp hx with rfl | hx
    · have hz : ∀ y ∈ L, ev y.1 x.2 = 0 := fun y hy => ((List.pairwise_cons.mp P.zero).1 y hy).2
      have lt := P.lt x List.mem_cons_self
      have k := redP_keep hq lt (L := L) P.tail.row rv hz
      refine (k.trans ((ev_plsC h.1 rp.1 _ lt).trans (.of_eq ?_))).zero_eq ((redP_row hq P.tail.row rv).ev hq _)
      rw [P.one x List.mem_cons_self]; omega
    · exact redP_zero hq P.tail rv x hx
/-- it differs by a sum -/
theorem redP_sp (hq : 0 < q) {B : List Row} (hB : ∀ b ∈ B, Rw q n b) : ∀ {L : List (Row × Nat)} {v : Row}, (∀ p ∈ L, Rw q n p.1 ∧ Sp q n B p.1) → Rw q n v → (Sp q n B (redP q L v) ↔ Sp q n B v)
  | [], _, _, _ => Iff.rfl
  | p :: L, v, hL, h => by
    obtain ⟨rp, sp⟩ := hL p List.mem_cons_self
    refine (redP_sp hq hB (L := L) (fun x hx => hL x (List.mem_cons_of_mem _ hx)) (h.pls hq rp _)).trans ⟨fun z => ?_, fun z => Sp.plus hq hB z sp _⟩
    have e : pls q (pls q v p.1 (-(ev v p.2))) p.1 (ev v p.2) = v := row_extC hq ((h.pls hq rp _).pls hq rp _) h fun i hi => by
      refine (ev_plsC (h.pls hq rp _).1 rp.1 _ hi).trans ((Cg.add (ev_plsC h.1 rp.1 _ hi) (.refl _)).trans (.of_eq ?_))
      rw [Int.neg_mul]; omega
    have := Sp.plus hq hB z sp (ev v p.2)
    rw [e] at this
    exact this
/-- the sum that has v's marks at the pivots -/
def sumP (L : List (Row × Nat)) (v : Row) (i : Nat) : Int := (L.map fun p => ev v p.2 * ev p.1 i).sum
theorem sumP_own {L : List (Row × Nat)} (P : Piv q n L) {p : Row × Nat} (hp : p ∈ L) (i : Nat) : sumP L p.1 i = ev p.1 i := by
  induction L with
  | nil => cases hp
  | cons a L ih =>
    have Z := List.pairwise_cons.mp P.zero
    show ev p.1 a.2 * ev a.1 i + sumP L p.1 i = _
    rcases List.mem_cons.mp hp with rfl | hp
    · have : ∀ M : List (Row × Nat), (∀ x ∈ M, ev p.1 x.2 = 0) → sumP M p.1 i = 0 := fun M => by
        induction M with
        | nil => intro _; rfl
        | cons b M ihM =>
          intro hM
          show ev p.1 b.2 * ev b.1 i + sumP M p.1 i = 0
          rw [hM b List.mem_cons_self, ihM fun x hx => hM x (List.mem_cons_of_mem _ hx), Int.zero_mul, Int.add_zero]
      rw [this L fun x hx => (Z.1 x hx).1, P.one p List.mem_cons_self, Int.one_mul, Int.add_zero]
    · rw [(Z.1 p hp).2, Int.zero_mul, Int.zero_add]
      exact ih P.tail hp
theorem sumP_nou (L : List (Row × Nat)) (i : Nat) : sumP L (nou n) i = 0 := by
  induction L with
  | nil => rfl
  | cons a L ih =>
    show ev (nou n) a.2 * ev a.1 i + sumP L (nou n) i = 0
    rw [ih, ev_nou, Int.zero_mul, Int.add_zero]
theorem sumP_pls {L : List (Row × Nat)} (hl : ∀ p ∈ L, p.2 < n) {v b : Row} (hv : v.length = n) (hb : b.length = n) (t : Int) (i : Nat) : Cg q (sumP L (pls q v b t) i) (sumP L v i + t * sumP L b i) := by
  induction L with
  | nil => exact .of_eq (by simp [sumP])
  | cons a L ih =>
    refine (Cg.add (Cg.mul (ev_plsC hv hb t (hl a List.mem_cons_self)) (.refl (ev a.1 i))) (ih fun p hp => hl p (List.mem_cons_of_mem _ hp))).trans (.of_eq ?_)
    show (ev v a.2 + t * ev b a.2) * ev a.1 i + (sumP L v i + t * sumP L b i) = (ev v a.2 * ev a.1 i + sumP L v i) + t * (ev b a.2 * ev a.1 i + sumP L b i)
    rw [Int.add_mul, Int.mul_add, Int.mul_assoc]; omega
/-- what is a sum of them is the sum by its own marks at the pivots -/
theorem Sp.sumP (hq : 0 < q) {L : List (Row × Nat)} (P : Piv q n L) {v : Row} (h : Sp q n (L.map (·.1)) v) {i : Nat} (hi : i < n) : Cg q (ev v i) (LA.sumP L v i) := by
  have hB : ∀ b ∈ L.map (·.1), Rw q n b := fun b hb => by obtain ⟨p, hp, rfl⟩ := List.mem_map.mp hb; exact P.row p hp
  induction h with
  | zero => rw [ev_nou, sumP_nou]; exact .refl _
  | @add v b t hb hv ih =>
    obtain ⟨p, hp, rfl⟩ := List.mem_map.mp hb
    have rv := hv.row hq hB
    have rp := P.row p hp
    refine (ev_plsC rv.1 rp.1 t hi).trans (Cg.symm ((sumP_pls P.lt rv.1 rp.1 t i).trans ?_))
    rw [sumP_own P hp]
    exact Cg.add ih.symm (.refl _)
theorem sumP_zero {L : List (Row × Nat)} {v : Row} (h : ∀ p ∈ L, ev v p.2 = 0) (i : Nat) : LA.sumP L v i = 0 := by
  induction L with
  | nil => rfl
  | cons a L ih =>
    show ev v a.2 * ev a.1 i + LA.sumP L v i = 0
    rw [h a List.mem_cons_self, ih fun p hp => h p (List.mem_cons_of_mem _ hp), Int.zero_mul, Int.add_zero]
/-- a sum that is 0 at all pivots is noughts -/
theorem Sp.none (hq : 0 < q) {L : List (Row × Nat)} (P : Piv q n L) {v : Row} (h : Sp q n (L.map (·.1)) v) (hz : ∀ p ∈ L, ev v p.2 = 0) : v = nou n := by
  have hB : ∀ b ∈ L.map (·.1), Rw q n b := fun b hb => by obtain ⟨p, hp, rfl⟩ := List.mem_map.mp hb; exact P.row p hp
  refine row_extC hq (h.row hq hB) (rw_nou hq) fun i hi => (h.sumP hq P hi).trans (.of_eq ?_)
  rw [sumP_zero hz, ev_nou]
theorem piv_rows {L : List (Row × Nat)} (P : Piv q n L) : ∀ b ∈ L.map (·.1), Rw q n b := fun b hb => by obtain ⟨p, hp, rfl⟩ := List.mem_map.mp hb; exact P.row p hp
theorem piv_sp (hq : 0 < q) {L : List (Row × Nat)} (P : Piv q n L) : ∀ p ∈ L, Rw q n p.1 ∧ Sp q n (L.map (·.1)) p.1 := fun p hp => ⟨P.row p hp, Sp.of_mem hq (piv_rows P) (List.mem_map.mpr ⟨p, hp, rfl⟩)⟩
/-- sums are just those that are freed to noughts -/
theorem sp_iff_red (hq : 0 < q) {L : List (Row × Nat)} (P : Piv q n L) {v : Row} (hv : Rw q n v) : Sp q n (L.map (·.1)) v ↔ redP q L v = nou n := by
  have k := redP_sp hq (piv_rows P) (piv_sp hq P) hv
  constructor
  · intro h
    exact Sp.none hq P (k.mpr h) fun p hp => redP_zero hq P hv p hp
  · intro h
    refine k.mp ?_
    rw [h]; exact .zero
end
end LA
namespace LA
variable {q : Int} {n : Nat}
/-- where a row begins -/
def hd (r : Row) : Nat := r.findIdx fun x => !(x == 0)
theorem hd_eq {r : Row} {i : Nat} (h : ev r i ≠ 0) (h0 : ∀ j, j < i → ev r j = 0) : hd r = i := by
  have hi : i < r.length := Nat.lt_of_not_le fun z => h (ev_ge z)
  unfold hd
  refine (List.findIdx_eq hi).mpr ⟨?_, fun j hj => ?_⟩
  · rw [ev_lt hi] at h
    simpa using h
  · have h1 := h0 j hj
    rw [ev_lt (by omega)] at h1
    simpa using h1
theorem before_hd {r : Row} {j : Nat} (hj : j < hd r) : ev r j = 0 := by
  unfold hd at hj
  have h1 := List.not_of_lt_findIdx hj
  rw [ev_lt (by have := List.findIdx_le_length (p := fun x : Int => !(x == 0)) (xs := r); omega)]
  simpa using h1
theorem hd_ne {r : Row} (h : r ≠ nou r.length) : hd r < r.length ∧ ev r (hd r) ≠ 0 := by
  have ex : ∃ x ∈ r, (!(x == 0)) = true := by
    refine Classical.byContradiction fun z => h ?_
    refine row_ext rfl List.length_replicate fun i hi => ?_
    rw [ev_nou, ev_lt hi]
    refine Classical.byContradiction fun w => z ⟨_, List.getElem_mem hi, ?_⟩
    simpa using w
  have hi : hd r < r.length := List.findIdx_lt_length_of_exists ex
  refine ⟨hi, ?_⟩
  have h0 : (!(r[hd r] == 0)) = true := List.findIdx_getElem (p := fun x : Int => !(x == 0)) (w := hi)
  rw [ev_lt hi]
  simpa using h0
/-- a prime that is asked about -/
def Pq (q : Int) : Prop := q = 2 ∨ q = 3 ∨ q = 5
theorem Pq.pos (h : Pq q) : 0 < q := by rcases h with rfl | rfl | rfl <;> decide
theorem Pq.one (h : Pq q) : 1 < q := by rcases h with rfl | rfl | rfl <;> decide
def inv (q x : Int) : Int := if x * 1 % q = 1 then 1 else if x * 2 % q = 1 then 2 else if x * 3 % q = 1 then 3 else 4
theorem inv_ok (h : Pq q) {x : Int} (h0 : 0 < x) (h1 : x < q) : x * inv q x % q = 1 := by
  rcases h with rfl | rfl | rfl
  · have : x = 1 := by omega
    subst this; decide
  · have : x = 1 ∨ x = 2 := by omega
    rcases this with rfl | rfl <;> decide
  · have : x = 1 ∨ x = 2 ∨ x = 3 ∨ x = 4 := by omega
    rcases this with rfl | rfl | rfl | rfl <;> decide
/-- rows with their heads as pivots -/
def hs (B : List Row) : List (Row × Nat) := B.map fun b => (b, hd b)
theorem hs_rows (B : List Row) : (hs B).map (·.1) = B := by
  unfold hs
  rw [List.map_map]
  exact List.map_id _
def Pl (q : Int) (n : Nat) (B : List Row) : Prop := Piv q n (hs B)
theorem mem_hs {B : List Row} {p : Row × Nat} : p ∈ hs B ↔ p.1 ∈ B ∧ p.2 = hd p.1 := by
  unfold hs
  rw [List.mem_map]
  constructor
  · rintro ⟨b, hb, rfl⟩; exact ⟨hb, rfl⟩
  · rintro ⟨h1, h2⟩; exact ⟨p.1, h1, by rw [← h2]⟩
theorem Pl.row {B : List Row} (P : Pl q n B) : ∀ b ∈ B, Rw q n b := fun b hb => Piv.row P (b, hd b) (mem_hs.mpr ⟨hb, rfl⟩)
theorem Pl.lt {B : List Row} (P : Pl q n B) : ∀ b ∈ B, hd b < n := fun b hb => Piv.lt P (b, hd b) (mem_hs.mpr ⟨hb, rfl⟩)
theorem Pl.one {B : List Row} (P : Pl q n B) : ∀ b ∈ B, ev b (hd b) = 1 := fun b hb => Piv.one P (b, hd b) (mem_hs.mpr ⟨hb, rfl⟩)
theorem pl_iff {B : List Row} : Pl q n B ↔ (∀ b ∈ B, Rw q n b ∧ hd b < n ∧ ev b (hd b) = 1) ∧ B.Pairwise fun a b => ev a (hd b) = 0 ∧ ev b (hd a) = 0 := by
  constructor
  · intro P
    refine ⟨fun b hb => ⟨P.row b hb, P.lt b hb, P.one b hb⟩, ?_⟩
    have := Piv.zero P
    unfold hs at this
    rw [List.pairwise_map] at this
    exact this
  · rintro ⟨h1, h2⟩
    refine ⟨fun p hp => ?_, fun p hp => ?_, fun p hp => ?_, ?_⟩
    · exact (h1 _ (mem_hs.mp hp).1).1
    · rw [(mem_hs.mp hp).2]; exact (h1 _ (mem_hs.mp hp).1).2.1
    · rw [(mem_hs.mp hp).2]; exact (h1 _ (mem_hs.mp hp).1).2.2
    · unfold hs; rw [List.pairwise_map]; exact h2
theorem Pl.nil : Pl q n [] := pl_iff.mpr ⟨(fun _ h => by cases h), List.Pairwise.nil⟩
theorem Pl.perm {A B : List Row} (h : A.Perm B) (P : Pl q n A) : Pl q n B := by
  obtain ⟨h1, h2⟩ := pl_iff.mp P
  exact pl_iff.mpr ⟨fun b hb => h1 b (h.mem_iff.mpr hb), (h.pairwise_iff fun h => ⟨h.2, h.1⟩).mp h2⟩
theorem Pl.nodup {B : List Row} (P : Pl q n B) : B.Nodup := by
  obtain ⟨h1, h2⟩ := pl_iff.mp P
  refine List.Pairwise.imp_of_mem (fun {a b} ha hb h z => ?_) h2
  subst z
  have := (h1 a ha).2.2
  rw [h.1] at this
  cases this
theorem Pl.zero {B : List Row} (P : Pl q n B) {a b : Row} (ha : a ∈ B) (hb : b ∈ B) (h : a ≠ b) : ev a (hd b) = 0 := by
  obtain ⟨_, h2⟩ := pl_iff.mp P
  obtain ⟨i, hi, rfl⟩ := List.mem_iff_getElem.mp ha
  obtain ⟨j, hj, rfl⟩ := List.mem_iff_getElem.mp hb
  rcases Nat.lt_trichotomy i j with c | c | c
  · exact (List.pairwise_iff_getElem.mp h2 i j hi hj c).1
  · subst c; exact absurd rfl h
  · exact (List.pairwise_iff_getElem.mp h2 j i hj hi c).2
/-- freed of the heads of B -/
def red (q : Int) (B : List Row) (v : Row) : Row := B.foldl (fun v b => pls q v b (-(ev v (hd b)))) v
theorem red_eq (B : List Row) (v : Row) : red q B v = redP q (hs B) v := by
  unfold red redP hs
  rw [List.foldl_map]
theorem red_row (hq : 0 < q) {B : List Row} (hB : ∀ b ∈ B, Rw q n b) {v : Row} (h : Rw q n v) : Rw q n (red q B v) := by
  rw [red_eq]
  exact redP_row hq (fun p hp => hB _ (mem_hs.mp hp).1) h
theorem red_zero (hq : 0 < q) {B : List Row} (P : Pl q n B) {v : Row} (h : Rw q n v) {b : Row} (hb : b ∈ B) : ev (red q B v) (hd b) = 0 := by
  rw [red_eq]
  exact redP_zero hq P h (b, hd b) (mem_hs.mpr ⟨hb, rfl⟩)
/-- .. differs by a sum of rows of any lot that spans B's -/
theorem red_sp (hq : 0 < q) {A B : List Row} (hA : ∀ b ∈ A, Rw q n b) (hB : ∀ b ∈ B, Rw q n b ∧ Sp q n A b) {v : Row} (h : Rw q n v) : Sp q n A (red q B v) ↔ Sp q n A v := by
  rw [red_eq]
  exact redP_sp hq hA (fun p hp => hB _ (mem_hs.mp hp).1) h
theorem sp_red (hq : 0 < q) {B : List Row} (P : Pl q n B) {v : Row} (h : Rw q n v) : Sp q n B v ↔ red q B v = nou n := by
  have := sp_iff_red hq (L := hs B) P h
  rw [hs_rows] at this
  rw [this, red_eq]
theorem Pl.none (hq : 0 < q) {B : List Row} (P : Pl q n B) {v : Row} (h : Sp q n B v) (hz : ∀ b ∈ B, ev v (hd b) = 0) : v = nou n := by
  refine Sp.none hq (L := hs B) P (by rw [hs_rows]; exact h) fun p hp => ?_
  rw [(mem_hs.mp hp).2]
  exact hz _ (mem_hs.mp hp).1
/-- where a sum begins some row begins -/
theorem head_mem (hq : 0 < q) {B : List Row} (P : Pl q n B) {v : Row} (h : Sp q n B v) (hv : v ≠ nou n) : ∃ b ∈ B, hd b = hd v := by
  have rv := h.row hq P.row
  have hne := hd_ne (r := v) (by rw [rv.1]; exact hv)
  refine Classical.byContradiction fun z => hne.2 ?_
  have hS := Sp.sumP hq (L := hs B) P (v := v) (by rw [hs_rows]; exact h) (i := hd v) (by rw [← rv.1]; exact hne.1)
  have h0 : sumP (hs B) v (hd v) = 0 := by
    have : ∀ M : List (Row × Nat), (∀ p ∈ M, ev v p.2 * ev p.1 (hd v) = 0) → sumP M v (hd v) = 0 := fun M => by
      induction M with
      | nil => intro _; rfl
      | cons a M ih =>
        intro hM
        show ev v a.2 * ev a.1 (hd v) + sumP M v (hd v) = 0
        rw [hM a List.mem_cons_self, ih fun x hx => hM x (List.mem_cons_of_mem _ hx)]; rfl
    refine this _ fun p hp => ?_
    obtain ⟨hp1, hp2⟩ := mem_hs.mp hp
    rw [hp2]
    rcases Nat.lt_trichotomy (hd p.1) (hd v) with c | c | c
    · rw [before_hd c, Int.zero_mul]
    · exact absurd ⟨p.1, hp1, c⟩ z
    · rw [before_hd (r := p.1) c, Int.mul_zero]
  rw [h0] at hS
  exact hS.zero_eq (rv.ev hq _)
/-- plain lists of the same span have the same rows -/
theorem pl_sub (hq : 1 < q) {A B : List Row} (PA : Pl q n A) (PB : Pl q n B) (h : ∀ v, Sp q n A v ↔ Sp q n B v) {a : Row} (ha : a ∈ A) : a ∈ B := by
  have hq0 : 0 < q := by omega
  have sa : Sp q n A a := Sp.of_mem hq0 PA.row ha
  have na : ∀ {C : List Row}, Pl q n C → ∀ {c : Row}, c ∈ C → c ≠ nou n := fun {C} PC {c} hc z => by
    have := PC.one c hc
    rw [z, ev_nou] at this
    cases this
  obtain ⟨b, hb, e⟩ := head_mem hq0 PB ((h a).mp sa) (na PA ha)
  have sb : Sp q n A b := (h b).mpr (Sp.of_mem hq0 PB.row hb)
  have ra := PA.row a ha
  have rb := PB.row b hb
  have w := Sp.plus hq0 PA.row sa sb (-1)
  have hz : ∀ x ∈ A, ev (pls q a b (-1)) (hd x) = 0 := fun x hx => by
    have c := ev_plsC (q := q) ra.1 rb.1 (-1) (PA.lt x hx)
    have lt := (ra.pls hq0 rb (-1)).ev hq0 (hd x)
    by_cases hxa : a = x
    · subst hxa
      rw [PA.one a ha, ← e, PB.one b hb] at c
      rw [← e]
      exact c.zero_eq (by rw [← e] at lt; exact lt)
    · rw [PA.zero ha hx hxa] at c
      obtain ⟨y, hy, ey⟩ := head_mem hq0 PB ((h x).mp (Sp.of_mem hq0 PA.row hx)) (na PA hx)
      have hby : b ≠ y := fun z => by
        subst z
        have z2 := PA.zero ha hx hxa
        rw [← ey, e, PA.one a ha] at z2
        cases z2
      have zb := PB.zero hb hy hby
      rw [ey] at zb
      rw [zb, Int.mul_zero, Int.add_zero] at c
      exact c.zero_eq lt
  have e2 := Pl.none hq0 PA w hz
  have : a = b := row_extC hq0 ra rb fun i hi => by
    have c := ev_plsC (q := q) ra.1 rb.1 (-1) hi
    rw [e2, ev_nou] at c
    have c2 := Cg.add c.symm (.refl (ev b i))
    rw [Int.zero_add, Int.neg_one_mul, Int.add_assoc, Int.add_left_neg, Int.add_zero] at c2
    exact c2
  rw [this]; exact hb
theorem pl_perm (hq : 1 < q) {A B : List Row} (PA : Pl q n A) (PB : Pl q n B) (h : ∀ v, Sp q n A v ↔ Sp q n B v) : A.Perm B :=
  (List.perm_ext_iff_of_nodup PA.nodup PB.nodup).mpr fun a => ⟨pl_sub hq PA PB h, pl_sub hq PB PA fun v => (h v).symm⟩
/-! ## the plain list of some rows -/
/-- one row more, freed of the heads and not noughts -/
def put (q : Int) (B : List Row) (r : Row) : List Row := B.map (fun o => pls q o r (-(ev o (hd r)))) ++ [r]
/-- made 1 where it begins -/
def nrm (q : Int) (r : Row) : Row := tms q r (inv q (ev r (hd r)))
def stp (q : Int) (B : List Row) (r : Row) : List Row := if red q B r = nou r.length then B else put q B (nrm q (red q B r))
def plain (q : Int) (rows : List Row) : List Row := rows.foldl (stp q) []
theorem nrm_ok (hq : Pq q) {r : Row} (h : Rw q n r) (hz : r ≠ nou n) : Rw q n (nrm q r) ∧ hd (nrm q r) = hd r ∧ hd r < n ∧ ev (nrm q r) (hd r) = 1 ∧ ∀ i, ev r i = 0 → ev (nrm q r) i = 0 := by
  obtain ⟨h1, h2⟩ := hd_ne (r := r) (by rw [h.1]; exact hz)
  have lt := h.ev hq.pos (hd r)
  have one : ev (nrm q r) (hd r) = 1 := by
    unfold nrm
    rw [ev_tms]
    exact inv_ok hq (by omega) lt.2
  have zz : ∀ i, ev r i = 0 → ev (nrm q r) i = 0 := fun i hi => by
    unfold nrm
    rw [ev_tms, hi, Int.zero_mul, Int.zero_emod]
  refine ⟨h.tms hq.pos _, hd_eq (by rw [one]; decide) fun j hj => zz j (before_hd hj), by rw [← h.1]; exact h1, one, zz⟩
theorem put_ok (hq : Pq q) {B : List Row} (P : Pl q n B) {r : Row} (hr : Rw q n r) (hl : hd r < n) (h1 : ev r (hd r) = 1) (hz : ∀ b ∈ B, ev r (hd b) = 0) : Pl q n (put q B r) := by
  have hq0 := hq.pos
  obtain ⟨p1, p2⟩ := pl_iff.mp P
  -- a row of B, freed of the new one
  have key : ∀ o ∈ B, Rw q n (pls q o r (-(ev o (hd r)))) ∧ hd (pls q o r (-(ev o (hd r)))) = hd o ∧ ev (pls q o r (-(ev o (hd r)))) (hd o) = 1 ∧ ev (pls q o r (-(ev o (hd r)))) (hd r) = 0 ∧
      (∀ b ∈ B, ev (pls q o r (-(ev o (hd r)))) (hd b) = ev o (hd b)) := fun o ho => by
    obtain ⟨ro, lo, oo⟩ := p1 o ho
    have rw' := ro.pls hq0 hr (-(ev o (hd r)))
    have at' : ∀ i, i < n → ev r i = 0 → ev (pls q o r (-(ev o (hd r)))) i = ev o i := fun i hi h0 => by
      rw [ev_pls ro.1 hr.1 _ hi, h0, Int.mul_zero, Int.add_zero]
      exact Int.emod_eq_of_lt (ro.ev hq0 i).1 (ro.ev hq0 i).2
    have e1 : ev (pls q o r (-(ev o (hd r)))) (hd o) = 1 := by rw [at' _ lo (hz o ho), oo]
    refine ⟨rw', hd_eq (by rw [e1]; decide) fun j hj => ?_, e1, ?_, fun b hb => at' _ (p1 b hb).2.1 (hz b hb)⟩
    · rcases Nat.lt_or_ge j (hd r) with c | c
      · rw [at' j (by omega) (before_hd c)]; exact before_hd hj
      · rw [ev_pls ro.1 hr.1 _ (by omega), before_hd hj, before_hd (r := o) (j := hd r) (by omega), Int.neg_zero, Int.zero_mul]
        exact Int.zero_emod q
    · rw [ev_pls ro.1 hr.1 _ hl, h1, Int.mul_one, Int.add_right_neg]
      exact Int.zero_emod q
  refine pl_iff.mpr ⟨fun b hb => ?_, ?_⟩
  · unfold put at hb
    rcases List.mem_append.mp hb with hb | hb
    · obtain ⟨o, ho, rfl⟩ := List.mem_map.mp hb
      obtain ⟨k1, k2, k3, _⟩ := key o ho
      exact ⟨k1, by rw [k2]; exact (p1 o ho).2.1, by rw [k2]; exact k3⟩
    · rw [List.mem_singleton] at hb
      subst hb
      exact ⟨hr, hl, h1⟩
  · unfold put
    rw [List.pairwise_append]
    refine ⟨?_, List.pairwise_singleton .., fun a ha b hb => ?_⟩
    · rw [List.pairwise_map]
      refine List.Pairwise.imp_of_mem (fun {a b} ha hb h => ?_) p2
      rw [(key b hb).2.1, (key a ha).2.1, (key a ha).2.2.2.2 b hb, (key b hb).2.2.2.2 a ha]
      exact h
    · obtain ⟨o, ho, rfl⟩ := List.mem_map.mp ha
      rw [List.mem_singleton] at hb
      subst hb
      obtain ⟨_, k2, _, k4, _⟩ := key o ho
      exact ⟨k4, by rw [k2]; exact hz o ho⟩
/-- the new list spans the old one and the row -/
theorem put_sp (hq : Pq q) {B : List Row} (hB : ∀ b ∈ B, Rw q n b) {r : Row} (hr : Rw q n r) {v : Row} : Sp q n (put q B r) v ↔ Sp q n (B ++ [r]) v := by
  have hq0 := hq.pos
  have h1 : ∀ b ∈ B ++ [r], Rw q n b := fun b hb => (List.mem_append.mp hb).elim (hB b) fun h => by rw [List.mem_singleton.mp h]; exact hr
  have h2 : ∀ b ∈ put q B r, Rw q n b := fun b hb => by
    unfold put at hb
    rcases List.mem_append.mp hb with hb | hb
    · obtain ⟨o, ho, rfl⟩ := List.mem_map.mp hb; exact (hB o ho).pls hq0 hr _
    · rw [List.mem_singleton.mp hb]; exact hr
  have mr1 : r ∈ B ++ [r] := List.mem_append.mpr (.inr (List.mem_singleton.mpr rfl))
  have mr2 : r ∈ put q B r := List.mem_append.mpr (.inr (List.mem_singleton.mpr rfl))
  constructor
  · refine Sp.trans hq0 h1 fun a ha => ?_
    rcases List.mem_append.mp ha with ha | ha
    · obtain ⟨o, ho, rfl⟩ := List.mem_map.mp ha
      exact Sp.plus hq0 h1 (Sp.of_mem hq0 h1 (List.mem_append.mpr (.inl ho))) (Sp.of_mem hq0 h1 mr1) _
    · rw [List.mem_singleton.mp ha]; exact Sp.of_mem hq0 h1 mr1
  · refine Sp.trans hq0 h2 fun a ha => ?_
    rcases List.mem_append.mp ha with ha | ha
    · have ra := hB a ha
      have m : pls q a r (-(ev a (hd r))) ∈ put q B r := List.mem_append.mpr (.inl (List.mem_map.mpr ⟨a, ha, rfl⟩))
      have e : pls q (pls q a r (-(ev a (hd r)))) r (ev a (hd r)) = a := row_extC hq0 ((ra.pls hq0 hr _).pls hq0 hr _) ra fun i hi => by
        refine (ev_plsC (ra.pls hq0 hr _).1 hr.1 _ hi).trans ((Cg.add (ev_plsC ra.1 hr.1 _ hi) (.refl _)).trans (.of_eq ?_))
        rw [Int.neg_mul]; omega
      have := Sp.plus hq0 h2 (Sp.of_mem hq0 h2 m) (Sp.of_mem hq0 h2 mr2) (ev a (hd r))
      rw [e] at this
      exact this
    · rw [List.mem_singleton.mp ha]; exact Sp.of_mem hq0 h2 mr2
theorem nrm_back (hq : Pq q) {r : Row} (h : Rw q n r) (hz : r ≠ nou n) : tms q (nrm q r) (ev r (hd r)) = r := by
  have hq0 := hq.pos
  obtain ⟨h1, h2⟩ := hd_ne (r := r) (by rw [h.1]; exact hz)
  have lt := h.ev hq0 (hd r)
  have e := inv_ok hq (x := ev r (hd r)) (by omega) lt.2
  refine row_extC hq0 ((h.tms hq0 _).tms hq0 _) h fun i hi => ?_
  rw [ev_tms]
  unfold nrm
  rw [ev_tms]
  refine (Cg.mod _).trans ((Cg.mul (Cg.mod _) (.refl _)).trans ?_)
  have c : Cg q (ev r (hd r) * inv q (ev r (hd r))) 1 := by
    unfold Cg
    rw [e, Int.emod_eq_of_lt (by decide) hq.one]
  refine Cg.trans (.of_eq ?_) ((Cg.mul (.refl (ev r i)) c).trans (.of_eq (Int.mul_one _)))
  rw [Int.mul_assoc, Int.mul_comm (inv q _)]
theorem stp_ok (hq : Pq q) {B : List Row} (P : Pl q n B) {r : Row} (hr : Rw q n r) : Pl q n (stp q B r) ∧ ∀ v, Sp q n (stp q B r) v ↔ Sp q n (B ++ [r]) v := by
  have hq0 := hq.pos
  have r1 := red_row hq0 P.row hr
  unfold stp
  rw [hr.1]
  split
  · rename_i h
    refine ⟨P, fun v => ⟨Sp.mono fun a ha => List.mem_append.mpr (.inl ha), Sp.trans hq0 P.row fun a ha => ?_⟩⟩
    rcases List.mem_append.mp ha with ha | ha
    · exact Sp.of_mem hq0 P.row ha
    · rw [List.mem_singleton.mp ha]; exact (sp_red hq0 P hr).mpr h
  · rename_i h
    obtain ⟨k1, k2, k3, k4, k5⟩ := nrm_ok hq r1 h
    refine ⟨put_ok hq P k1 (by rw [k2]; exact k3) (by rw [k2]; exact k4) fun b hb => k5 _ (red_zero hq0 P hr hb), fun v => ?_⟩
    rw [put_sp hq P.row k1]
    have hA : ∀ b ∈ B ++ [r], Rw q n b := fun b hb => (List.mem_append.mp hb).elim (P.row b) fun h => by rw [List.mem_singleton.mp h]; exact hr
    have hA2 : ∀ b ∈ B ++ [nrm q (red q B r)], Rw q n b := fun b hb => (List.mem_append.mp hb).elim (P.row b) fun h => by rw [List.mem_singleton.mp h]; exact k1
    have inA : ∀ b ∈ B, Rw q n b ∧ Sp q n (B ++ [r]) b := fun b hb => ⟨P.row b hb, Sp.of_mem hq0 hA (List.mem_append.mpr (.inl hb))⟩
    have inA2 : ∀ b ∈ B, Rw q n b ∧ Sp q n (B ++ [nrm q (red q B r)]) b := fun b hb => ⟨P.row b hb, Sp.of_mem hq0 hA2 (List.mem_append.mpr (.inl hb))⟩
    constructor
    · refine Sp.trans hq0 hA fun a ha => ?_
      rcases List.mem_append.mp ha with ha | ha
      · exact (inA a ha).2
      · rw [List.mem_singleton.mp ha]
        exact Sp.times hq0 hA ((red_sp hq0 hA inA hr).mpr (Sp.of_mem hq0 hA (List.mem_append.mpr (.inr (List.mem_singleton.mpr rfl))))) _
    · refine Sp.trans hq0 hA2 fun a ha => ?_
      rcases List.mem_append.mp ha with ha | ha
      · exact (inA2 a ha).2
      · rw [List.mem_singleton.mp ha]
        refine (red_sp hq0 hA2 inA2 hr).mp ?_
        have := Sp.times hq0 hA2 (Sp.of_mem hq0 hA2 (List.mem_append.mpr (.inr (List.mem_singleton.mpr rfl)))) (ev (red q B r) (hd (red q B r)))
        rw [nrm_back hq r1 h] at this
        exact this
theorem plain_go (hq : Pq q) : ∀ (rows : List Row) {B dn : List Row}, (∀ r ∈ rows, Rw q n r) → (∀ r ∈ dn, Rw q n r) → Pl q n B → (∀ v, Sp q n B v ↔ Sp q n dn v) →
    Pl q n (rows.foldl (stp q) B) ∧ ∀ v, Sp q n (rows.foldl (stp q) B) v ↔ Sp q n (dn ++ rows) v
  | [], B, dn, _, _, P, h => ⟨P, by rw [List.append_nil]; exact h⟩
  | r :: rows, B, dn, hr, hd, P, h => by
    have rr := hr r List.mem_cons_self
    obtain ⟨s1, s2⟩ := stp_ok hq P rr
    have hd2 : ∀ x ∈ dn ++ [r], Rw q n x := fun x hx => (List.mem_append.mp hx).elim (hd x) fun z => by rw [List.mem_singleton.mp z]; exact rr
    have hB2 : ∀ x ∈ B ++ [r], Rw q n x := fun x hx => (List.mem_append.mp hx).elim (P.row x) fun z => by rw [List.mem_singleton.mp z]; exact rr
    have e : ∀ v, Sp q n (stp q B r) v ↔ Sp q n (dn ++ [r]) v := fun v => by
      rw [s2]
      constructor
      · refine Sp.trans hq.pos hd2 fun a ha => ?_
        rcases List.mem_append.mp ha with ha | ha
        · exact Sp.mono (fun x hx => List.mem_append.mpr (.inl hx)) ((h a).mp (Sp.of_mem hq.pos P.row ha))
        · exact Sp.of_mem hq.pos hd2 (List.mem_append.mpr (.inr ha))
      · refine Sp.trans hq.pos hB2 fun a ha => ?_
        rcases List.mem_append.mp ha with ha | ha
        · exact Sp.mono (fun x hx => List.mem_append.mpr (.inl hx)) ((h a).mpr (Sp.of_mem hq.pos hd ha))
        · exact Sp.of_mem hq.pos hB2 (List.mem_append.mpr (.inr ha))
    have := plain_go hq rows (B := stp q B r) (dn := dn ++ [r]) (fun x hx => hr x (List.mem_cons_of_mem _ hx)) hd2 s1 e
    rw [List.append_assoc] at this
    exact this
theorem plain_ok (hq : Pq q) {rows : List Row} (h : ∀ r ∈ rows, Rw q n r) : Pl q n (plain q rows) ∧ ∀ v, Sp q n (plain q rows) v ↔ Sp q n rows v :=
  plain_go hq rows (B := []) (dn := []) h (fun _ z => by cases z) Pl.nil fun _ => Iff.rfl
end LA
namespace LA
variable {q : Int} {n : Nat}
/-! ## rows that meet -/
def dot (v w : Row) : Int := (List.zipWith (fun x y => x * y) v w).sum
theorem dot_cons (x y : Int) (v w : Row) : dot (x :: v) (y :: w) = x * y + dot v w := by
  unfold dot
  rw [List.zipWith_cons_cons, List.sum_cons]
theorem dot_nil (w : Row) : dot [] w = 0 := rfl
theorem dot_comm : ∀ v w : Row, dot v w = dot w v
  | [], [] => rfl
  | [], _ :: _ => rfl
  | _ :: _, [] => rfl
  | x :: v, y :: w => by rw [dot_cons, dot_cons, dot_comm v w, Int.mul_comm]
theorem dot_nou : ∀ (n : Nat) (w : Row), dot (nou n) w = 0
  | 0, _ => rfl
  | n + 1, [] => rfl
  | n + 1, y :: w => by
    show dot (0 :: nou n) (y :: w) = 0
    rw [dot_cons, dot_nou n w, Int.zero_mul]; rfl
theorem dot_pls (t : Int) : ∀ {v b w : Row}, v.length = b.length → Cg q (dot (pls q v b t) w) (dot v w + t * dot b w)
  | [], [], w, _ => by
    show Cg q (dot [] w) (dot [] w + t * dot [] w)
    rw [dot_nil, Int.mul_zero]; exact .refl _
  | x :: v, y :: b, [], _ => by
    show Cg q 0 (0 + t * 0)
    rw [Int.mul_zero]; exact .refl _
  | x :: v, y :: b, z :: w, h => by
    have ih := dot_pls t (v := v) (b := b) (w := w) (Nat.succ.inj h)
    show Cg q (dot ((x + t * y) % q :: pls q v b t) (z :: w)) _
    rw [dot_cons, dot_cons, dot_cons]
    refine (Cg.add (Cg.mul (Cg.mod _) (.refl z)) ih).trans (.of_eq ?_)
    rw [Int.add_mul, Int.mul_add, Int.mul_assoc]; omega
theorem ev_cons_zero (x : Int) (r : Row) : ev (x :: r) 0 = x := rfl
theorem ev_cons_succ (x : Int) (r : Row) (i : Nat) : ev (x :: r) (i + 1) = ev r i := rfl
theorem dot_none : ∀ {v w : Row}, (∀ i, ev v i * ev w i = 0) → dot v w = 0
  | [], _, _ => rfl
  | _ :: _, [], _ => rfl
  | x :: v, y :: w, h => by
    rw [dot_cons, dot_none (v := v) (w := w) fun i => h (i + 1)]
    have := h 0
    rw [ev_cons_zero, ev_cons_zero] at this
    rw [this]; rfl
theorem dot_single : ∀ {v w : Row} (p : Nat), (∀ i, i ≠ p → ev v i * ev w i = 0) → dot v w = ev v p * ev w p
  | [], _, p, _ => by
    rw [dot_nil, ev_ge (r := []) (Nat.zero_le p), Int.zero_mul]
  | x :: v, [], p, _ => by
    rw [ev_ge (r := []) (Nat.zero_le p), Int.mul_zero]; rfl
  | x :: v, y :: w, 0, h => by
    rw [dot_cons, dot_none (v := v) (w := w) fun i => h (i + 1) (by omega), Int.add_zero]; rfl
  | x :: v, y :: w, p + 1, h => by
    rw [dot_cons, dot_single (v := v) (w := w) p fun i hi => h (i + 1) (by omega)]
    have := h 0 (by omega)
    rw [ev_cons_zero, ev_cons_zero] at this
    rw [this, Int.zero_add]; rfl
theorem dot_two : ∀ {v w : Row} (p s : Nat), p ≠ s → (∀ i, i ≠ p → i ≠ s → ev v i * ev w i = 0) → dot v w = ev v p * ev w p + ev v s * ev w s
  | [], _, p, s, _, _ => by
    rw [dot_nil, ev_ge (r := []) (Nat.zero_le p), ev_ge (r := []) (Nat.zero_le s), Int.zero_mul, Int.zero_mul]; rfl
  | x :: v, [], p, s, _, _ => by
    rw [ev_ge (r := []) (Nat.zero_le p), ev_ge (r := []) (Nat.zero_le s), Int.mul_zero, Int.mul_zero]; rfl
  | x :: v, y :: w, 0, 0, h, _ => absurd rfl h
  | x :: v, y :: w, 0, s + 1, _, h => by
    rw [dot_cons, dot_single (v := v) (w := w) s fun i hi => h (i + 1) (by omega) (by omega)]; rfl
  | x :: v, y :: w, p + 1, 0, _, h => by
    rw [dot_cons, dot_single (v := v) (w := w) p fun i hi => h (i + 1) (by omega) (by omega), Int.add_comm]; rfl
  | x :: v, y :: w, p + 1, s + 1, hp, h => by
    rw [dot_cons, dot_two (v := v) (w := w) p s (by omega) fun i h1 h2 => h (i + 1) (by omega) (by omega)]
    have := h 0 (by omega) (by omega)
    rw [ev_cons_zero, ev_cons_zero] at this
    rw [this, Int.zero_add]; rfl
/-- v meets all of these in 0 -/
def Ann (q : Int) (R : List Row) (v : Row) : Prop := ∀ r ∈ R, Cg q (dot v r) 0
theorem ann_sp {R : List Row} {v : Row} (hq : 0 < q) (hR : ∀ r ∈ R, Rw q n r) (h : Ann q R v) {w : Row} (hw : Sp q n R w) : Cg q (dot v w) 0 := by
  induction hw with
  | zero => rw [dot_comm, dot_nou]; exact .refl _
  | @add w b t hb hw ih =>
    rw [dot_comm]
    refine (dot_pls t (by rw [(hw.row hq hR).1, (hR b hb).1])).trans ?_
    have := Cg.add ih (Cg.mul (.refl t) (h b hb))
    rw [Int.mul_zero] at this
    rw [dot_comm w v, dot_comm b v]
    exact this
theorem sp_ann {R A : List Row} (hq : 0 < q) (hA : ∀ r ∈ A, Rw q n r) (h : ∀ a ∈ A, Ann q R a) {w : Row} (hw : Sp q n A w) : Ann q R w := fun r hr => by
  rw [dot_comm]
  refine ann_sp hq hA (v := r) (fun a ha => ?_) hw
  rw [dot_comm]
  exact h a ha r hr
theorem ann_iff {R S : List Row} (hq : 0 < q) (hR : ∀ r ∈ R, Rw q n r) (hS : ∀ r ∈ S, Rw q n r) (h : ∀ v, Sp q n R v ↔ Sp q n S v) {v : Row} : Ann q R v ↔ Ann q S v :=
  ⟨fun a s hs => ann_sp hq hR a ((h s).mpr (Sp.of_mem hq hS hs)), fun a r hr => ann_sp hq hS a ((h r).mp (Sp.of_mem hq hR hr))⟩
theorem redP_ann {R : List Row} (hq : 0 < q) : ∀ {L : List (Row × Nat)} {v : Row}, (∀ p ∈ L, Rw q n p.1 ∧ Ann q R p.1) → Rw q n v → Ann q R v → Ann q R (redP q L v)
  | [], _, _, _, h => h
  | p :: L, v, hL, rv, h => by
    obtain ⟨rp, ap⟩ := hL p List.mem_cons_self
    refine redP_ann hq (L := L) (fun x hx => hL x (List.mem_cons_of_mem _ hx)) (rv.pls hq rp _) fun r hr => ?_
    refine (dot_pls _ (by rw [rv.1, rp.1])).trans ?_
    have := Cg.add (h r hr) (Cg.mul (.refl (-(ev v p.2))) (ap r hr))
    rw [Int.mul_zero] at this
    exact this
/-! ## the partner of a plain list -/
def headOf (B : List Row) (i : Nat) : Option Row := B.find? fun b => hd b == i
def prow (q : Int) (n : Nat) (B : List Row) (j : Nat) : Row := (List.range n).map fun i => if i = j then 1 else match headOf B i with
  | some b => (-(ev b j)) % q
  | none => 0
def frees (n : Nat) (B : List Row) : List Nat := (List.range n).filter fun j => (headOf B j).isNone
def part (q : Int) (n : Nat) (B : List Row) : List Row := (frees n B).map (prow q n B)
theorem ev_prow {B : List Row} {j i : Nat} (hi : i < n) : ev (prow q n B j) i = if i = j then 1 else match headOf B i with
    | some b => (-(ev b j)) % q
    | none => 0 := by
  rw [ev_lt (by unfold prow; rw [List.length_map, List.length_range]; exact hi)]
  unfold prow
  rw [List.getElem_map, List.getElem_range]
theorem rw_prow (hq : 1 < q) {B : List Row} {j : Nat} : Rw q n (prow q n B j) := by
  refine ⟨by unfold prow; rw [List.length_map, List.length_range], fun x hx => ?_⟩
  unfold prow at hx
  obtain ⟨i, _, rfl⟩ := List.mem_map.mp hx
  split
  · omega
  · split
    · exact ⟨Int.emod_nonneg _ (by omega), Int.emod_lt_of_pos _ (by omega)⟩
    · omega
theorem mem_frees {B : List Row} {j : Nat} : j ∈ frees n B ↔ j < n ∧ ∀ b ∈ B, hd b ≠ j := by
  unfold frees headOf
  rw [List.mem_filter, List.mem_range, Option.isNone_iff_eq_none, List.find?_eq_none]
  simp
theorem headOf_head {B : List Row} (P : Pl q n B) {b : Row} (hb : b ∈ B) : headOf B (hd b) = some b := by
  unfold headOf
  cases h : B.find? fun x => hd x == hd b with
  | none =>
    rw [List.find?_eq_none] at h
    exact absurd (by simp) (h b hb)
  | some c =>
    have h1 := List.find?_some h
    have h2 := List.mem_of_find?_eq_some h
    have h3 : hd c = hd b := by simpa using h1
    by_cases e : c = b
    · rw [e]
    · have z := P.zero hb h2 fun w => e w.symm
      rw [h3, P.one b hb] at z
      cases z
theorem part_piv (hq : 1 < q) {B : List Row} : Piv q n ((frees n B).map fun j => (prow q n B j, j)) := by
  refine ⟨fun p hp => ?_, fun p hp => ?_, fun p hp => ?_, ?_⟩
  · obtain ⟨j, _, rfl⟩ := List.mem_map.mp hp; exact rw_prow hq
  · obtain ⟨j, hj, rfl⟩ := List.mem_map.mp hp; exact (mem_frees.mp hj).1
  · obtain ⟨j, hj, rfl⟩ := List.mem_map.mp hp
    rw [ev_prow (mem_frees.mp hj).1, if_pos rfl]
  · rw [List.pairwise_map]
    have nd : (frees n B).Nodup := List.Pairwise.filter _ List.nodup_range
    refine List.Pairwise.imp_of_mem (fun {a b} ha hb h => ?_) nd
    have fa := mem_frees.mp ha
    have fb := mem_frees.mp hb
    have na : headOf B a = none := by unfold headOf; rw [List.find?_eq_none]; intro x hx; simpa using fa.2 x hx
    have nb : headOf B b = none := by unfold headOf; rw [List.find?_eq_none]; intro x hx; simpa using fb.2 x hx
    rw [ev_prow fa.1, ev_prow fb.1, if_neg h, if_neg (fun z => h z.symm), na, nb]
    exact ⟨rfl, rfl⟩
theorem part_rows (q : Int) (B : List Row) : ((frees n B).map fun j => (prow q n B j, j)).map (·.1) = part q n B := by
  rw [List.map_map]; rfl
theorem part_row (hq : 1 < q) {B : List Row} : ∀ p ∈ part q n B, Rw q n p := fun p hp => by
  obtain ⟨j, _, rfl⟩ := List.mem_map.mp hp; exact rw_prow hq
/-- rows of the partner meet rows of the list in 0 -/
theorem prow_ann (hq : 1 < q) {B : List Row} (P : Pl q n B) {j : Nat} (hj : j ∈ frees n B) : Ann q B (prow q n B j) := fun b hb => by
  obtain ⟨j1, j2⟩ := mem_frees.mp hj
  have e : dot (prow q n B j) b = ev (prow q n B j) j * ev b j + ev (prow q n B j) (hd b) * ev b (hd b) := by
    refine dot_two j (hd b) (fun z => j2 b hb z.symm) fun i h1 h2 => ?_
    by_cases hi : i < n
    · rw [ev_prow hi, if_neg h1]
      cases hh : headOf B i with
      | none => exact Int.zero_mul _
      | some c =>
        have c1 := List.find?_some hh
        have c2 := List.mem_of_find?_eq_some hh
        have c3 : hd c = i := by simpa using c1
        have hbc : b ≠ c := fun z => h2 (by rw [z, c3])
        have := P.zero hb c2 hbc
        rw [c3] at this
        rw [this, Int.mul_zero]
    · rw [ev_ge (r := prow q n B j) (by rw [(rw_prow hq).1]; omega), Int.zero_mul]
  rw [e, ev_prow j1, if_pos rfl, ev_prow (P.lt b hb), if_neg (j2 b hb), headOf_head P hb, P.one b hb, Int.one_mul, Int.mul_one]
  refine (Cg.add (.refl _) (Cg.mod _)).trans (.of_eq ?_)
  omega
theorem place_cases {B : List Row} {i : Nat} (hi : i < n) : i ∈ frees n B ∨ ∃ b ∈ B, hd b = i := by
  by_cases h : ∃ b ∈ B, hd b = i
  · exact .inr h
  · exact .inl (mem_frees.mpr ⟨hi, fun b hb e => h ⟨b, hb, e⟩⟩)
/-- the rows that meet all rows of a plain list in 0 are the sums of the partner's rows -/
theorem ann_part (hq : 1 < q) {B : List Row} (P : Pl q n B) {w : Row} (hw : Rw q n w) : Ann q B w ↔ Sp q n (part q n B) w := by
  have hq0 : 0 < q := by omega
  constructor
  · intro h
    have PP := part_piv (n := n) hq (B := B)
    have k := sp_iff_red hq0 PP hw
    rw [part_rows] at k
    refine k.mpr ?_
    generalize hL : (frees n B).map (fun j => (prow q n B j, j)) = L at PP k
    have rw' := redP_row hq0 (L := L) (v := w) PP.row hw
    have an : Ann q B (redP q L w) := redP_ann hq0 (fun p hp => ⟨PP.row p hp, by
      rw [← hL] at hp
      obtain ⟨j, hj, rfl⟩ := List.mem_map.mp hp
      exact prow_ann hq P hj⟩) hw h
    have zf : ∀ j ∈ frees n B, ev (redP q L w) j = 0 := fun j hj => by
      have := redP_zero hq0 PP hw (prow q n B j, j) (by rw [← hL]; exact List.mem_map.mpr ⟨j, hj, rfl⟩)
      exact this
    refine row_ext rw'.1 (rw_nou hq0).1 fun i hi => ?_
    rw [ev_nou]
    rcases place_cases (B := B) hi with hf | ⟨b, hb, rfl⟩
    · exact zf i hf
    · have e : dot (redP q L w) b = ev (redP q L w) (hd b) * ev b (hd b) := dot_single (hd b) fun i h1 => by
        by_cases hi : i < n
        · rcases place_cases (B := B) hi with hf | ⟨c, hc, rfl⟩
          · rw [zf i hf, Int.zero_mul]
          · rw [P.zero hb hc (fun z => h1 (by rw [z])), Int.mul_zero]
        · rw [ev_ge (r := redP q L w) (by rw [rw'.1]; omega), Int.zero_mul]
      have c := an b hb
      rw [e, P.one b hb, Int.mul_one] at c
      exact c.zero_eq (rw'.ev hq0 _)
  · intro h
    exact sp_ann hq0 (part_row hq) (fun a ha => by obtain ⟨j, hj, rfl⟩ := List.mem_map.mp ha; exact prow_ann hq P hj) h
/-- .. and the other way round -/
theorem part_ann (hq : 1 < q) {B : List Row} (P : Pl q n B) {v : Row} (hv : Rw q n v) : Ann q (part q n B) v ↔ Sp q n B v := by
  have hq0 : 0 < q := by omega
  have ba : ∀ b ∈ B, Ann q (part q n B) b := fun b hb p hp => by
    obtain ⟨j, hj, rfl⟩ := List.mem_map.mp hp
    rw [dot_comm]
    exact prow_ann hq P hj b hb
  constructor
  · intro h
    refine (sp_red hq0 P hv).mpr ?_
    have rr := red_row hq0 P.row hv
    have an : Ann q (part q n B) (red q B v) := by
      rw [red_eq]
      exact redP_ann hq0 (fun p hp => ⟨P.row _ (mem_hs.mp hp).1, ba _ (mem_hs.mp hp).1⟩) hv h
    refine row_ext rr.1 (rw_nou hq0).1 fun i hi => ?_
    rw [ev_nou]
    rcases place_cases (B := B) hi with hf | ⟨b, hb, rfl⟩
    · have e : dot (red q B v) (prow q n B i) = ev (red q B v) i * ev (prow q n B i) i := dot_single i fun k h1 => by
        by_cases hk : k < n
        · rcases place_cases (B := B) hk with hf2 | ⟨c, hc, rfl⟩
          · have f2 := mem_frees.mp hf2
            have nk : headOf B k = none := by unfold headOf; rw [List.find?_eq_none]; intro x hx; simpa using f2.2 x hx
            rw [ev_prow hk, if_neg h1, nk, Int.mul_zero]
          · rw [red_zero hq0 P hv hc, Int.zero_mul]
        · rw [ev_ge (r := red q B v) (by rw [rr.1]; omega), Int.zero_mul]
      have c := an (prow q n B i) (List.mem_map.mpr ⟨i, hf, rfl⟩)
      rw [e, ev_prow hi, if_pos rfl, Int.mul_one] at c
      exact c.zero_eq (rr.ev hq0 _)
    · exact red_zero hq0 P hv hb
  · intro h
    exact sp_ann hq0 P.row ba h
/-- the plain list of all rows that meet these in 0 -/
def prt (q : Int) (n : Nat) (rows : List Row) : List Row := plain q (part q n (plain q rows))
theorem prt_ok (hq : Pq q) {rows : List Row} (h : ∀ r ∈ rows, Rw q n r) : Pl q n (prt q n rows) ∧ ∀ {w : Row}, Rw q n w → (Sp q n (prt q n rows) w ↔ Ann q rows w) := by
  obtain ⟨P, S⟩ := plain_ok hq h
  obtain ⟨P2, S2⟩ := plain_ok hq (part_row (n := n) hq.one (B := plain q rows))
  refine ⟨P2, fun {w} hw => ?_⟩
  unfold prt
  rw [S2, ← ann_part hq.one P hw]
  exact ann_iff hq.pos P.row h S
theorem prt_prt (hq : Pq q) {rows : List Row} (h : ∀ r ∈ rows, Rw q n r) {w : Row} (hw : Rw q n w) : Ann q (prt q n rows) w ↔ Sp q n rows w := by
  obtain ⟨P, S⟩ := plain_ok hq h
  obtain ⟨P2, S2⟩ := plain_ok hq (part_row (n := n) hq.one (B := plain q rows))
  rw [← S, ← part_ann hq.one P hw]
  exact ann_iff hq.pos P2.row (part_row hq.one) S2
/-! ## all sums -/
def zqs (q : Int) : List Int := (List.range q.toNat).map fun (i : Nat) => (i : Int)
theorem mem_ints {t : Int} : t ∈ zqs q ↔ 0 ≤ t ∧ t < q := by
  unfold zqs
  rw [List.mem_map]
  constructor
  · rintro ⟨i, hi, rfl⟩
    have := List.mem_range.mp hi
    omega
  · rintro ⟨h1, h2⟩
    exact ⟨t.toNat, List.mem_range.mpr (by omega), by omega⟩
theorem ints_nd : (zqs q).Nodup := by
  unfold zqs
  exact List.pairwise_map.mpr (List.Pairwise.imp (fun {a b} hne e => hne (by omega)) List.nodup_range)
def more (q : Int) (found : List Row) (r : Row) : List Row := (zqs q).flatMap fun t => found.map fun s => pls q s r t
def sums (q : Int) (n : Nat) (rows : List Row) : List Row := rows.foldl (more q) [nou n]
theorem mem_more {found : List Row} {r v : Row} : v ∈ more q found r ↔ ∃ t, (0 ≤ t ∧ t < q) ∧ ∃ s ∈ found, v = pls q s r t := by
  unfold more
  rw [List.mem_flatMap]
  constructor
  · rintro ⟨t, ht, hv⟩
    obtain ⟨s, hs, rfl⟩ := List.mem_map.mp hv
    exact ⟨t, mem_ints.mp ht, s, hs, rfl⟩
  · rintro ⟨t, ht, s, hs, rfl⟩
    exact ⟨t, mem_ints.mpr ht, List.mem_map.mpr ⟨s, hs, rfl⟩⟩
theorem sp_snoc (hq : 0 < q) {rows : List Row} {r : Row} (hR : ∀ x ∈ rows, Rw q n x) (hr : Rw q n r) {v : Row} : Sp q n (rows ++ [r]) v ↔ ∃ t, (0 ≤ t ∧ t < q) ∧ ∃ s, Sp q n rows s ∧ v = pls q s r t := by
  constructor
  · intro h
    induction h with
    | zero =>
      refine ⟨0, ⟨Int.le_refl _, hq⟩, nou n, .zero, ?_⟩
      refine (row_extC hq ((rw_nou hq).pls hq hr 0) (rw_nou hq) fun i hi => (ev_plsC (rw_nou hq).1 hr.1 0 hi).trans (.of_eq ?_)).symm
      rw [ev_nou, Int.zero_mul]; rfl
    | @add v b t hb hv ih =>
      obtain ⟨u, hu, s, hs, rfl⟩ := ih
      have rs := hs.row hq hR
      rcases List.mem_append.mp hb with hb | hb
      · have rb := hR b hb
        refine ⟨u, hu, pls q s b t, .add t hb hs, ?_⟩
        refine row_extC hq ((rs.pls hq hr u).pls hq rb t) ((rs.pls hq rb t).pls hq hr u) fun i hi => ?_
        refine (ev_plsC (rs.pls hq hr u).1 rb.1 t hi).trans ((Cg.add (ev_plsC rs.1 hr.1 u hi) (.refl _)).trans (Cg.symm ((ev_plsC (rs.pls hq rb t).1 hr.1 u hi).trans ((Cg.add (ev_plsC rs.1 rb.1 t hi) (.refl _)).trans (.of_eq ?_)))))
        omega
      · rw [List.mem_singleton] at hb
        subst hb
        refine ⟨(u + t) % q, ⟨Int.emod_nonneg _ (by omega), Int.emod_lt_of_pos _ hq⟩, s, hs, ?_⟩
        refine row_extC hq ((rs.pls hq hr u).pls hq hr t) (rs.pls hq hr _) fun i hi => ?_
        refine (ev_plsC (rs.pls hq hr u).1 hr.1 t hi).trans ((Cg.add (ev_plsC rs.1 hr.1 u hi) (.refl _)).trans (Cg.symm ((ev_plsC rs.1 hr.1 _ hi).trans ((Cg.add (.refl _) (Cg.mul (Cg.mod _) (.refl _))).trans (.of_eq ?_)))))
        rw [Int.add_mul]; omega
  · rintro ⟨t, _, s, hs, rfl⟩
    exact .add t (List.mem_append.mpr (.inr (List.mem_singleton.mpr rfl))) (hs.mono fun a ha => List.mem_append.mpr (.inl ha))
theorem sums_go (hq : 0 < q) : ∀ (rows : List Row) {found dn : List Row}, (∀ r ∈ rows, Rw q n r) → (∀ r ∈ dn, Rw q n r) → (∀ v, v ∈ found ↔ Sp q n dn v) → ∀ v, v ∈ rows.foldl (more q) found ↔ Sp q n (dn ++ rows) v
  | [], found, dn, _, _, h, v => by rw [List.append_nil]; exact h v
  | r :: rows, found, dn, hr, hd, h, v => by
    have rr := hr r List.mem_cons_self
    have := sums_go hq rows (found := more q found r) (dn := dn ++ [r]) (fun x hx => hr x (List.mem_cons_of_mem _ hx)) (fun x hx => (List.mem_append.mp hx).elim (hd x) fun z => by rw [List.mem_singleton.mp z]; exact rr) (fun v => by
      rw [mem_more, sp_snoc hq hd rr]
      constructor
      · rintro ⟨t, ht, s, hs, e⟩; exact ⟨t, ht, s, (h s).mp hs, e⟩
      · rintro ⟨t, ht, s, hs, e⟩; exact ⟨t, ht, s, (h s).mpr hs, e⟩) v
    rw [List.append_assoc] at this
    exact this
theorem mem_sums (hq : 0 < q) {rows : List Row} (h : ∀ r ∈ rows, Rw q n r) {v : Row} : v ∈ sums q n rows ↔ Sp q n rows v :=
  sums_go hq rows (found := [nou n]) (dn := []) h (fun _ z => by cases z) (fun v => by
    rw [List.mem_singleton]
    constructor
    · rintro rfl; exact .zero
    · intro h
      cases h with
      | zero => rfl
      | add t hb _ => cases hb) v
theorem sums_len (q : Int) : ∀ (rows found : List Row), (rows.foldl (more q) found).length = found.length * q.toNat ^ rows.length
  | [], found => by simp
  | r :: rows, found => by
    rw [List.foldl_cons, sums_len q rows, List.length_cons, Nat.pow_succ]
    have : (more q found r).length = found.length * q.toNat := by
      unfold more zqs
      rw [List.length_flatMap]
      simp only [List.length_map]
      rw [List.map_map]
      have : ∀ m : Nat, ((List.range m).map ((fun _ => found.length) ∘ fun (i : Nat) => (i : Int))).sum = found.length * m := fun m => by
        induction m with
        | zero => rfl
        | succ m ih => rw [List.range_succ, List.map_append, List.sum_append, ih, Nat.mul_succ]; simp
      exact this _
    rw [this, Nat.mul_assoc, Nat.mul_comm (q.toNat ^ _)]
end LA
/-! # rows as data; the sorted plain list -/
namespace LA
open PySem L2 DD
variable {q : Int} {n : Nat}
def rsD (B : List Row) : PyData := .tuple (B.map rowD)
def srt (rs : List Row) : List Row := (sortL rs).reverse
theorem srt_perm (rs : List Row) : (srt rs).Perm rs := (List.reverse_perm _).trans (sortL_perm rs)
theorem srt_of_perm {a b : List Row} (h : a.Perm b) : srt a = srt b := by
  unfold srt
  rw [sortL_uniq ((sortL_perm a).trans h) (sortL_asc a)]
theorem srt_srt (a : List Row) : srt (srt a) = srt a := srt_of_perm (srt_perm a)
theorem srt_len (a : List Row) : (srt a).length = a.length := (srt_perm a).length_eq
theorem mem_srt {a : List Row} {r : Row} : r ∈ srt a ↔ r ∈ a := (srt_perm a).mem_iff
theorem Sp.perm {A B : List Row} (h : A.Perm B) (v : Row) : Sp q n A v ↔ Sp q n B v :=
  ⟨Sp.mono fun a ha => h.mem_iff.mp ha, Sp.mono fun a ha => h.mem_iff.mpr ha⟩
def can (q : Int) (rows : List Row) : List Row := srt (plain q rows)
theorem can_ok (hq : Pq q) {rows : List Row} (h : ∀ r ∈ rows, Rw q n r) : Pl q n (can q rows) ∧ ∀ v, Sp q n (can q rows) v ↔ Sp q n rows v := by
  obtain ⟨P, S⟩ := plain_ok hq h
  exact ⟨P.perm (srt_perm _).symm, fun v => (Sp.perm (srt_perm _) v).trans (S v)⟩
theorem can_uniq (hq : Pq q) {A rows : List Row} (h : ∀ r ∈ rows, Rw q n r) (P : Pl q n A) (S : ∀ v, Sp q n A v ↔ Sp q n rows v) : srt A = can q rows := by
  obtain ⟨P2, S2⟩ := plain_ok hq h
  exact srt_of_perm (pl_perm hq.one P P2 fun v => (S v).trans (S2 v).symm)
theorem can_eq (hq : Pq q) {A B : List Row} (hA : ∀ r ∈ A, Rw q n r) (hB : ∀ r ∈ B, Rw q n r) (S : ∀ v, Sp q n A v ↔ Sp q n B v) : can q A = can q B := by
  obtain ⟨P, S1⟩ := plain_ok hq hA
  exact can_uniq hq hB P fun v => (S1 v).trans (S v)
theorem can_srt (hq : Pq q) {B : List Row} (P : Pl q n B) : can q B = srt B := (can_uniq hq P.row P fun _ => Iff.rfl).symm
theorem can_can (hq : Pq q) {rows : List Row} (h : ∀ r ∈ rows, Rw q n r) : can q (can q rows) = can q rows := by
  obtain ⟨P, S⟩ := can_ok hq h
  rw [can_srt hq P]
  exact srt_srt _
theorem nd_sub {α : Type} [DecidableEq α] : ∀ {A B : List α}, A.Nodup → (∀ a ∈ A, a ∈ B) → A.length ≤ B.length
  | [], _, _, _ => Nat.zero_le _
  | a :: A, B, nd, h => by
    obtain ⟨n1, n2⟩ := List.nodup_cons.mp nd
    have hb := h a List.mem_cons_self
    have := nd_sub (B := B.erase a) n2 fun x hx => (List.mem_erase_of_ne fun e => n1 (by rw [← e]; exact hx)).mpr (h x (List.mem_cons_of_mem _ hx))
    rw [List.length_erase_of_mem hb] at this
    have : 0 < B.length := List.length_pos_of_mem hb
    rw [List.length_cons]
    omega
theorem pl_heads {B : List Row} (P : Pl q n B) : (B.map hd).Nodup := by
  obtain ⟨h1, h2⟩ := pl_iff.mp P
  refine List.pairwise_map.mpr (List.Pairwise.imp_of_mem (fun {a b} ha hb h z => ?_) h2)
  have := (h1 a ha).2.2
  rw [z, h.1] at this
  cases this
theorem pl_len {B : List Row} (P : Pl q n B) : B.length ≤ n := by
  have := nd_sub (B := List.range n) (pl_heads P) fun a ha => by
    obtain ⟨b, hb, rfl⟩ := List.mem_map.mp ha
    exact List.mem_range.mpr (P.lt b hb)
  rwa [List.length_map, List.length_range] at this
theorem frees_len {B : List Row} (P : Pl q n B) : (frees n B).length + B.length = n := by
  have p : (frees n B ++ B.map hd).Perm (List.range n) := by
    refine (List.perm_ext_iff_of_nodup ?_ List.nodup_range).mpr fun j => ?_
    · refine List.nodup_append.mpr ⟨List.Pairwise.filter _ List.nodup_range, pl_heads P, fun a ha b hb e => ?_⟩
      obtain ⟨c, hc, rfl⟩ := List.mem_map.mp hb
      exact (mem_frees.mp ha).2 c hc e.symm
    · rw [List.mem_append, List.mem_range, mem_frees, List.mem_map]
      constructor
      · rintro (h | ⟨b, hb, rfl⟩)
        · exact h.1
        · exact P.lt b hb
      · intro hj
        by_cases h : ∃ b ∈ B, hd b = j
        · exact .inr h
        · exact .inl ⟨hj, fun b hb e => h ⟨b, hb, e⟩⟩
  have := p.length_eq
  rw [List.length_append, List.length_map, List.length_range] at this
  exact this
/-! ## how many sums -/
theorem pls_inj (hq : 0 < q) {s u r : Row} (hs : Rw q n s) (hu : Rw q n u) (hr : Rw q n r) {t : Int} (h : pls q s r t = pls q u r t) : s = u :=
  row_extC hq hs hu fun i hi => by
    have a := (ev_plsC (q := q) hs.1 hr.1 t hi).symm
    rw [h] at a
    have b := a.trans (ev_plsC hu.1 hr.1 t hi)
    have c := Cg.add b (.refl (-(t * ev r i)))
    have e1 : ev s i + t * ev r i + -(t * ev r i) = ev s i := by omega
    have e2 : ev u i + t * ev r i + -(t * ev r i) = ev u i := by omega
    rwa [e1, e2] at c
theorem sums_nd_go (hq : 0 < q) : ∀ {L : List (Row × Nat)} {found : List Row}, Piv q n L → found.Nodup → (∀ s ∈ found, Rw q n s ∧ ∀ p ∈ L, ev s p.2 = 0) → ((L.map (·.1)).foldl (more q) found).Nodup
  | [], _, _, nd, _ => nd
  | p :: L, found, P, nd, h => by
    have rp := P.row p List.mem_cons_self
    have lp := P.lt p List.mem_cons_self
    have op := P.one p List.mem_cons_self
    have zp := (List.pairwise_cons.mp P.zero).1
    have at_p : ∀ s ∈ found, ∀ t, 0 ≤ t ∧ t < q → ev (pls q s p.1 t) p.2 = t := fun s hs t ht => by
      rw [ev_pls (h s hs).1.1 rp.1 t lp, (h s hs).2 p List.mem_cons_self, op, Int.zero_add, Int.mul_one]
      exact Int.emod_eq_of_lt ht.1 ht.2
    rw [List.map_cons, List.foldl_cons]
    refine sums_nd_go hq P.tail ?_ ?_
    · unfold more
      refine List.pairwise_flatMap.mpr ⟨fun t ht => ?_, ?_⟩
      · refine List.pairwise_map.mpr (List.Pairwise.imp_of_mem (fun {a b} ha hb hne e => hne ?_) nd)
        exact pls_inj hq (h a ha).1 (h b hb).1 rp e
      · have ni := ints_nd (q := q)
        refine List.Pairwise.imp_of_mem (fun {a b} ha hb hne x hx y hy e => hne ?_) ni
        obtain ⟨s, hs, rfl⟩ := List.mem_map.mp hx
        obtain ⟨u, hu, rfl⟩ := List.mem_map.mp hy
        rw [← at_p s hs a (mem_ints.mp ha), e, at_p u hu b (mem_ints.mp hb)]
    · intro v hv
      obtain ⟨t, ht, s, hs, rfl⟩ := mem_more.mp hv
      refine ⟨(h s hs).1.pls hq rp t, fun x hx => ?_⟩
      rw [ev_pls (h s hs).1.1 rp.1 t (P.lt x (List.mem_cons_of_mem _ hx)), (h s hs).2 x (List.mem_cons_of_mem _ hx), (zp x hx).1, Int.mul_zero]
      exact Int.zero_emod q
theorem sums_nd (hq : 0 < q) {L : List (Row × Nat)} (P : Piv q n L) : (sums q n (L.map (·.1))).Nodup :=
  sums_nd_go hq P (List.nodup_cons.mpr ⟨List.not_mem_nil, List.nodup_nil⟩) fun s hs => by
    rw [List.mem_singleton.mp hs]
    exact ⟨rw_nou hq, fun p _ => ev_nou _⟩
theorem pl_sums_nd (hq : 0 < q) {B : List Row} (P : Pl q n B) : (sums q n B).Nodup := by
  have := sums_nd hq (L := hs B) P
  rwa [hs_rows] at this
/-- bases of one span are of one length -/
theorem piv_len (hq : 1 < q) {L M : List (Row × Nat)} (P : Piv q n L) (P2 : Piv q n M) (h : ∀ v, Sp q n (L.map (·.1)) v ↔ Sp q n (M.map (·.1)) v) : L.length = M.length := by
  have hq0 : 0 < q := by omega
  have p : (sums q n (L.map (·.1))).Perm (sums q n (M.map (·.1))) := (List.perm_ext_iff_of_nodup (sums_nd hq0 P) (sums_nd hq0 P2)).mpr fun v => by
    rw [mem_sums hq0 (piv_rows P), mem_sums hq0 (piv_rows P2)]
    exact h v
  have l := p.length_eq
  unfold sums at l
  rw [sums_len, sums_len, List.length_map, List.length_map, List.length_singleton, Nat.one_mul, Nat.one_mul] at l
  exact (Nat.pow_right_inj (by omega : 1 < q.toNat)).mp l
/-- how many rows a partner has -/
theorem prt_len (hq : Pq q) {rows : List Row} (h : ∀ r ∈ rows, Rw q n r) : (prt q n rows).length + (plain q rows).length = n := by
  obtain ⟨P, S⟩ := plain_ok hq h
  have PP := part_piv (n := n) hq.one (B := plain q rows)
  obtain ⟨P2, S2⟩ := plain_ok hq (part_row (n := n) hq.one (B := plain q rows))
  have e := piv_len hq.one P2 PP fun v => by
    rw [hs_rows, part_rows]
    exact S2 v
  rw [List.length_map] at e
  have c := frees_len P
  have f : (hs (plain q (part q n (plain q rows)))).length = (prt q n rows).length := List.length_map _
  omega
/-! ## data -/
theorem ix_row {r : Row} {i : Nat} (h : i < r.length) : ixD (rowD r) (.int (i : Int)) = some (.int (ev r i)) := by
  unfold rowD
  rw [ixD_tuple, atI_nat' (by omega), Int.toNat_natCast, List.getElem?_map, List.getElem?_eq_getElem h, ev_lt h]; rfl
theorem sortD_rows {b : Bool} {rs : List Row} (h : rs.length < 2 ∨ ∀ r ∈ rs, r ≠ []) : sortD b (rs.map rowD) = some ((if b = true then srt rs else sortL rs).map rowD) := by
  have e : rowsOf (rs.map rowD) = some rs := by
    unfold rowsOf
    induction rs with
    | nil => rfl
    | cons r rs ih =>
      have r1 : rowOf (rowD r) = some r := by
        unfold rowOf rowD
        show (r.map PyData.int).mapM intOf = some r
        clear ih h
        induction r with
        | nil => rfl
        | cons x r ih => rw [List.map_cons, List.mapM_cons, ih]; rfl
      have := ih (by
        rcases h with h | h
        · exact .inl (by rw [List.length_cons] at h; omega)
        · exact .inr fun x hx => h x (List.mem_cons_of_mem _ hx))
      rw [List.map_cons, List.mapM_cons, r1, this]; rfl
  unfold sortD
  rw [e]
  have c : (decide (rs.length < 2) || rs.all fun r => !r.isEmpty) = true := by
    rcases h with h | h
    · rw [decide_eq_true h]; rfl
    · rw [Bool.or_eq_true]
      refine .inr (List.all_eq_true.mpr fun r hr => ?_)
      have := h r hr
      cases r with
      | nil => exact absurd rfl this
      | cons _ _ => rfl
  simp only [c, if_true]
  rfl
theorem any_row (r : Row) : anyD [rowD r] = some (.bool (decide (r ≠ nou r.length))) := by
  unfold rowD anyD
  have a : (r.map PyData.int).all flatD = true := List.all_eq_true.mpr fun d hd => by obtain ⟨i, _, rfl⟩ := List.mem_map.mp hd; rfl
  simp only [a, if_true]
  congr 2
  have : (r.map PyData.int).any PyData.truthy = true ↔ r ≠ nou r.length := by
    rw [List.any_eq_true]
    constructor
    · rintro ⟨d, hd, ht⟩ e
      obtain ⟨i, hi, rfl⟩ := List.mem_map.mp hd
      rw [e] at hi
      have := List.eq_of_mem_replicate hi
      subst this
      cases ht
    · intro h
      obtain ⟨h1, h2⟩ := hd_ne h
      rw [ev_lt h1] at h2
      refine ⟨_, List.mem_map.mpr ⟨_, List.getElem_mem h1, rfl⟩, ?_⟩
      simp only [PyData.truthy, bne_iff_ne, ne_eq]
      exact h2
  by_cases h : r ≠ nou r.length
  · rw [decide_eq_true h]; exact this.mpr h
  · rw [decide_eq_false h]
    exact Bool.eq_false_iff.mpr fun z => h (this.mp z)
theorem pls_zero (hq : 0 < q) {v b : Row} (hv : Rw q n v) (hb : b.length = n) : pls q v b 0 = v := by
  have hl : (pls q v b 0).length = n := by unfold pls; rw [List.length_zipWith, hv.1, hb, Nat.min_self]
  refine row_ext hl hv.1 fun i hi => ?_
  rw [ev_pls hv.1 hb 0 hi, Int.zero_mul, Int.add_zero]
  exact Int.emod_eq_of_lt (hv.ev hq i).1 (hv.ev hq i).2
theorem Pq.le5 (h : Pq q) : q ≤ 5 := by rcases h with rfl | rfl | rfl <;> omega
def repQ (d e : PyData) : Option (List PyData) := match d, e with
  | .list ds, .int k => if decide (-1000 ≤ k ∧ k ≤ 1000 ∧ ds.length ≤ 1000) then some (repL k ds) else none
  | _, _ => none
theorem repQ_lst {ds : List PyData} {k : Int} (h : -1000 ≤ k ∧ k ≤ 1000 ∧ ds.length ≤ 1000) : repQ (.list ds) (.int k) = some (repL k ds) := if_pos (decide_eq_true h)
@[simp] theorem wp_dRep {x : Sx} {f g : M Hd} {Q : List PyData → Sx → Prop} : Wp (dRep f g) x Q ↔ Wp f x fun a y => Wp g y fun b z => onS (deref a z) fun d => onS (deref b z) fun e => onS (repQ d e) fun ds => Q ds z :=
  wp_step fun a y => wp_step fun b z => by
    rw [wp_opt]
    cases deref a z with
    | none => exact Iff.rfl
    | some d =>
      cases deref b z with
      | none => cases d <;> exact Iff.rfl
      | some e =>
        simp only [onS_some]
        cases d with
        | list ds =>
          cases e with
          | int k =>
            unfold repQ
            simp only
            split <;> exact Iff.rfl
          | _ => exact Iff.rfl
        | _ => exact Iff.rfl
end LA
/-! # partners, places, books (as lists of rows) -/
namespace LA
open PySem L2 DD
variable {q : Int} {n : Nat}
/-- the canonical list of all rows that meet these in 0 -/
def pcan (q : Int) (n : Nat) (rows : List Row) : List Row := can q (part q n (can q rows))
theorem pcan_ok (hq : Pq q) {rows : List Row} (h : ∀ r ∈ rows, Rw q n r) : Pl q n (pcan q n rows) ∧ ∀ {w : Row}, Rw q n w → (Sp q n (pcan q n rows) w ↔ Ann q rows w) := by
  obtain ⟨P, S⟩ := can_ok hq h
  obtain ⟨P2, S2⟩ := can_ok hq (part_row (n := n) hq.one (B := can q rows))
  refine ⟨P2, fun {w} hw => ?_⟩
  unfold pcan
  rw [S2, ← ann_part hq.one P hw]
  exact ann_iff hq.pos P.row h S
theorem pcan_pcan (hq : Pq q) {rows : List Row} (h : ∀ r ∈ rows, Rw q n r) {w : Row} (hw : Rw q n w) : Ann q (pcan q n rows) w ↔ Sp q n rows w := by
  obtain ⟨P, S⟩ := can_ok hq h
  obtain ⟨P2, S2⟩ := can_ok hq (part_row (n := n) hq.one (B := can q rows))
  rw [← S, ← part_ann hq.one P hw]
  exact ann_iff hq.pos P2.row (part_row hq.one) S2
theorem pcan_uniq (hq : Pq q) {A rows : List Row} (hA : ∀ r ∈ A, Rw q n r) (h : ∀ r ∈ rows, Rw q n r) (S : ∀ v, Rw q n v → (Sp q n A v ↔ Ann q rows v)) : can q A = pcan q n rows := by
  obtain ⟨P, S2⟩ := pcan_ok hq h
  unfold pcan
  refine can_eq hq hA (part_row hq.one) fun v => ?_
  have := (can_ok hq (part_row (n := n) hq.one (B := can q rows))).2 v
  constructor
  · intro hv
    have rv := hv.row hq.pos hA
    exact this.mp ((S2 rv).mpr ((S v rv).mp hv))
  · intro hv
    have rv := hv.row hq.pos (part_row hq.one)
    exact (S v rv).mpr ((S2 rv).mp (this.mpr hv))
/-- plain lists in order -/
def Can (q : Int) (n : Nat) (B : List Row) : Prop := Pl q n B ∧ srt B = B
theorem can_Can (hq : Pq q) {rows : List Row} (h : ∀ r ∈ rows, Rw q n r) : Can q n (can q rows) := ⟨(can_ok hq h).1, srt_srt _⟩
theorem pcan_Can (hq : Pq q) (rows : List Row) : Can q n (pcan q n rows) := can_Can hq (part_row hq.one)
theorem Can.can (hq : Pq q) {B : List Row} (h : Can q n B) : LA.can q B = B := (can_srt hq h.1).trans h.2
theorem pcan2 (hq : Pq q) {B : List Row} (h : Can q n B) : pcan q n (pcan q n B) = B := by
  rw [← pcan_uniq hq (A := B) h.1.row (pcan_Can hq B).1.row fun v hv => (pcan_pcan hq h.1.row hv).symm, h.can hq]
theorem pcan_len (hq : Pq q) {B : List Row} (h : Can q n B) : (pcan q n B).length + B.length = n := by
  have P := (pcan_Can (n := n) hq B).1
  have PP := part_piv (n := n) hq.one (B := LA.can q B)
  have e := piv_len hq.one P PP fun v => by
    rw [hs_rows, part_rows]
    exact (can_ok hq (part_row hq.one)).2 v
  rw [List.length_map, h.can hq] at e
  have c := frees_len h.1
  have f : (hs (pcan q n B)).length = (pcan q n B).length := List.length_map _
  omega
def onLV (h : Hd) (Q : List PyData → Prop) : Prop := match h with
  | .val (.list es) => Q es
  | _ => False
@[simp] theorem onLV_list {es : List PyData} {Q : List PyData → Prop} : onLV (.val (.list es)) Q ↔ Q es := Iff.rfl
@[simp] theorem wp_sExt {x : Sx} {i : Nat} {f : M Hd} {Q : Fl → Sx → Prop} : Wp (sExt i f) x Q ↔ onOwn x.1[i]? fun _ => Wp f x fun h y => onLV h fun es => onOwn y.1[i]? fun ds => ds.length + es.length ≤ 16777216 ∧ onN (y.1.set i (.own (ds ++ es))) fun ρ => Q .nx (ρ, y.2) := by
  have a : Wp (bnd f fun h => fun y => match h with
      | .val (.list es) => some (es, y)
      | _ => none) x (fun es y => onOwn y.1[i]? fun ds => ds.length + es.length ≤ 16777216 ∧ onN (y.1.set i (.own (ds ++ es))) fun ρ => Q .nx (ρ, y.2)) ↔ Wp f x fun h y => onLV h fun es => onOwn y.1[i]? fun ds => ds.length + es.length ≤ 16777216 ∧ onN (y.1.set i (.own (ds ++ es))) fun ρ => Q .nx (ρ, y.2) :=
    wp_step fun h y => by
      rw [wp_opt]
      cases h with
      | val d => cases d <;> exact Iff.rfl
      | own i => exact Iff.rfl
      | deck => exact Iff.rfl
  rw [← a, wp_opt, wp_opt]
  unfold sExt
  rcases x.1[i]? with _ | s
  · exact Iff.rfl
  · cases s with
    | own es =>
      simp only [onOwn_own]
      generalize (bnd f fun h => fun y => match h with
        | .val (.list es) => some (es, y)
        | _ => none : M (List PyData)) x = o
      rcases o with _ | ⟨d, y⟩
      · exact Iff.rfl
      · simp only [onS_some]
        rcases y.1[i]? with _ | t
        · exact Iff.rfl
        · cases t with
          | own ds => by_cases z : ds.length + d.length ≤ 16777216 <;> simp [z, putS]
          | _ => exact Iff.rfl
    | _ => exact Iff.rfl
/-! ## units -/
def unit (n i : Nat) : Row := (nou n).set i 1
theorem unit_len (i : Nat) : (unit n i).length = n := by unfold unit; rw [List.length_set]; exact List.length_replicate
theorem ev_unit {i : Nat} (hi : i < n) (j : Nat) : ev (unit n i) j = if i = j then 1 else 0 := by
  unfold unit ev
  rw [List.getD_eq_getElem?_getD, List.getElem?_set]
  by_cases h : i = j
  · subst h
    simp [nou, hi]
  · rw [if_neg h, if_neg h, ← List.getD_eq_getElem?_getD]
    exact ev_nou j
theorem rw_unit (hq : 1 < q) (i : Nat) : Rw q n (unit n i) := by
  refine ⟨unit_len i, fun x hx => ?_⟩
  unfold unit at hx
  rcases List.mem_or_eq_of_mem_set hx with hx | rfl
  · rw [List.eq_of_mem_replicate hx]; omega
  · omega
theorem dot_unit {v : Row} {i : Nat} (hi : i < n) : dot v (unit n i) = ev v i := by
  rw [dot_single i fun j hj => by rw [ev_unit hi, if_neg (fun e => hj e.symm), Int.mul_zero], ev_unit hi, if_pos rfl, Int.mul_one]
theorem ann_app {A B : List Row} {v : Row} : Ann q (A ++ B) v ↔ Ann q A v ∧ Ann q B v := by
  unfold Ann
  simp only [List.mem_append]
  exact ⟨fun h => ⟨fun r hr => h r (.inl hr), fun r hr => h r (.inr hr)⟩, fun h r hr => hr.elim (h.1 r) (h.2 r)⟩
theorem ann_units (hq : 0 < q) {l : List Nat} (hl : ∀ i ∈ l, i < n) {v : Row} (hv : Rw q n v) : Ann q (l.map (unit n)) v ↔ ∀ i ∈ l, ev v i = 0 := by
  unfold Ann
  constructor
  · intro h i hi
    have := h _ (List.mem_map.mpr ⟨i, hi, rfl⟩)
    rw [dot_unit (hl i hi)] at this
    exact this.zero_eq (hv.ev hq i)
  · intro h r hr
    obtain ⟨i, hi, rfl⟩ := List.mem_map.mp hr
    rw [dot_unit (hl i hi), h i hi]; exact .refl _
/-- every row is a sum of the units -/
theorem sp_units (hq : 1 < q) {v : Row} (hv : Rw q n v) : Sp q n ((List.range n).map (unit n)) v := by
  have hq0 : 0 < q := by omega
  have P : Piv q n ((List.range n).map fun i => (unit n i, i)) := by
    refine ⟨fun p hp => ?_, fun p hp => ?_, fun p hp => ?_, ?_⟩
    · obtain ⟨i, _, rfl⟩ := List.mem_map.mp hp; exact rw_unit hq i
    · obtain ⟨i, hi, rfl⟩ := List.mem_map.mp hp; exact List.mem_range.mp hi
    · obtain ⟨i, hi, rfl⟩ := List.mem_map.mp hp
      rw [ev_unit (List.mem_range.mp hi), if_pos rfl]
    · refine List.pairwise_map.mpr (List.Pairwise.imp_of_mem (fun {a b} ha hb h => ?_) List.nodup_range)
      rw [ev_unit (List.mem_range.mp ha), ev_unit (List.mem_range.mp hb), if_neg h, if_neg fun e => h e.symm]
      exact ⟨rfl, rfl⟩
  have e : ((List.range n).map fun i => (unit n i, i)).map (·.1) = (List.range n).map (unit n) := by rw [List.map_map]; rfl
  rw [← e, sp_iff_red hq0 P hv]
  have rr := redP_row hq0 (L := (List.range n).map fun i => (unit n i, i)) (v := v) P.row hv
  refine row_ext rr.1 (rw_nou hq0).1 fun i hi => ?_
  rw [ev_nou]
  exact redP_zero hq0 P hv (unit n i, i) (List.mem_map.mpr ⟨i, List.mem_range.mpr hi, rfl⟩)
/-- words that are 0 at some places, of a list of rows -/
theorem sp_filter {A : List Row} (hq : 0 < q) (hA : ∀ a ∈ A, Rw q n a) {p : Row → Bool} (h0 : p (nou n) = true) (h1 : ∀ v b t, Rw q n v → Rw q n b → p v = true → p b = true → p (pls q v b t) = true) {v : Row} (h : Sp q n (A.filter p) v) : Sp q n A v ∧ p v = true := by
  induction h with
  | zero => exact ⟨.zero, h0⟩
  | @add v b t hb hv ih =>
    obtain ⟨hb1, hb2⟩ := List.mem_filter.mp hb
    exact ⟨.add t hb1 ih.1, h1 v b t (ih.1.row hq hA) (hA b hb1) ih.2 hb2⟩
end LA
/-! # comprehensions with two clauses -/
namespace DD
open PySem PySem.Spec PyProof.Rows L2
section
variable {X : Cx} {T : TB}
theorem wipe_wipe {σ : L2.St} {ws vs : List Nat} (h : ∀ j ∈ ws, j ∈ vs) : wipe (wipe σ ws) vs = wipe σ vs := by
  refine List.ext_getElem? fun j => ?_
  by_cases hj : j ∈ vs
  · rw [wipe_in hj, wipe_in hj, wipe_length]
  · rw [wipe_out' hj, wipe_out' hj, wipe_out' fun z => hj (h j z)]
def lcTurn2 (vs vs1 : List Nat) (g : PyData → M Unit) (tt : M Bool) (src1 : M (List PyData)) (g1 : PyData → M Unit) (tt1 : M Bool) (te : M Hd) (d : PyData) : M (List PyData) :=
  bnd (g d) fun _ => bnd tt fun b => bnd (if b = true then bnd src1 fun ds1 => fun x => lcGo (lcTurn vs1 g1 tt1 te) ds1 (wipeD x.1 vs1, x.2) else ret []) fun o => fun x => some (o, (wipeD x.1 vs, x.2))
def lcGo2 (t : PyData → M (List PyData)) : List PyData → M (List PyData)
  | [] => ret []
  | d :: ds => bnd (t d) fun o => bnd (lcGo2 t ds) fun r => ret (o ++ r)
def dLc2 (src : M (List PyData)) (vs vs1 : List Nat) (g : PyData → M Unit) (tt : M Bool) (src1 : M (List PyData)) (g1 : PyData → M Unit) (tt1 : M Bool) (te : M Hd) : M (List PyData) := bnd src fun ds => fun x =>
  match lcGo2 (lcTurn2 vs vs1 g tt src1 g1 tt1 te) ds (wipeD x.1 vs, x.2) with
    | some (r, y) => if r.length ≤ 16777216 then some (r, (unw x.1 y.1 vs, y.2)) else none
    | none => none
theorem rd_lc2 {K : PySem.W.Frag} {src src1 : M (List PyData)} {vs vs1 js js1 : List Nat} {g g1 : PyData → M Unit} {tt tt1 : M Bool} {te : M Hd} (hj : ∀ j ∈ js, j ∈ vs) (hj1 : ∀ j ∈ js1, j ∈ vs1) (hv : ∀ j ∈ vs1, j ∈ vs) :
    ∀ σ H Q, rdF K T (dLc2 src vs vs1 g tt src1 g1 tt1 te) σ H Q → tLc2 (rdI K T src) (rdG K T js g) (rdT K T tt) (rdI K T src1) (rdG K T js1 g1) (rdT K T tt1) (rdE K T te) vs vs1 σ H Q := fun σ H Q q => by
  obtain ⟨G, x, out, x', R, ef, q⟩ := q
  obtain ⟨ds, y, e1, ef⟩ := bnd_some ef
  split at ef
  · rename_i r zz er
    split at ef
    · rename_i hsz
      cases ef
      refine ⟨G, x, ds, y, R, e1, fun J H1 p1 R1 wd D nD => ?_⟩
      obtain ⟨gd, Y, wk, hgd, hY⟩ := wd
      have hd : D ≠ G.dk := fun z => by rw [z, R1.dk.d] at nD; cases nD
      have hc : D ≠ G.cl := fun z => by rw [z, R1.dk.c] at nD; cases nD
      have x0 : Ext H1 (upd H1 D (.lst [])) := Ext.new nD
      have g0 : G.H0 D = none := by
        cases e : G.H0 D with
        | none => rfl
        | some u => exact absurd nD (R1.grow D u e hd hc).some
      have own : ∀ (i : Nat) (es : List PyData), y.1[i]? = some (.own es) → σ[i]? ≠ some (some (.ref D)) := fun i es hi z => by
        obtain ⟨b, ys, h1, h2, _⟩ := R1.slot i _ hi
        rw [h1] at z; cases z; rw [h2] at nD; cases nD
      have S0 : Rel K T (G.at D []) σ (upd H1 D (.lst [])) y := by
        refine ⟨⟨x0 _ _ R1.dk.d, x0 _ _ R1.dk.c, R1.dk.t.mono x0.pers fun P ps e => x0 _ _ e⟩, fun c o e h1 h2 => ?_, R1.len, fun i s hs => ?_, R1.sep⟩
        · by_cases z : c = D
          · subst z
            have e' : (G.at c []).H0 c = some (.lst []) := upd_same
            rw [e'] at e; cases e; exact .inl upd_same
          · have e' : upd G.H0 D (.lst []) c = some o := e
            rw [upd_ne z] at e'
            exact (R1.grow c o e' h1 h2).trans fun u z => .inl (x0 _ _ z)
        · have w := R1.slot i s hs
          cases s with
          | no => trivial
          | val d => obtain ⟨u, h1, h2⟩ := w; exact ⟨u, h1, Pr.mono x0.pers d h2⟩
          | deck => exact w
          | own es =>
            obtain ⟨c, xs, h1, h2, h3, h4, h5⟩ := w
            have nc : c ≠ D := fun z => own i es hs (by rw [h1, z])
            refine ⟨c, xs, h1, x0 _ _ h2, PrAll.mono x0.pers es h3, h4, ?_⟩
            show upd G.H0 D (.lst []) c = none
            rw [upd_ne nc]; exact h5
      -- the outer walk
      refine ⟨fun i m H2 => m = ds.length - i ∧ i ≤ ds.length ∧ ∃ (a : List V) (acc rest : List PyData) (z : Sx), Pers H1 H2 ∧ H2 D = some (.lst a) ∧ PrAll K H2 a acc ∧ Rel K T (G.at D a) (wipe σ vs) H2 z ∧ lcGo2 (lcTurn2 vs vs1 g tt src1 g1 tt1 te) (ds.drop i) z = some (rest, zz) ∧ acc ++ rest = out,
        ⟨ds.length, by simp, Nat.zero_le _, [], [], out, _, x0.pers, upd_same, .nil, S0.turn hd hc upd_same (fun _ _ => rfl), er, rfl⟩, ?_⟩
      rintro i m H2 ⟨rfl, hi, p⟩
      by_cases hlt : i < ds.length
      · obtain ⟨a, acc, rest, z, p2, hD, pa, R2, e2, hr⟩ := p
        refine .inr ⟨wk.goes i H2 hlt (hgd H2 p2), fun H' => ∃ (a : List V) (acc rest : List PyData) (z : Sx), Pers H1 H' ∧ H' D = some (.lst a) ∧ PrAll K H' a acc ∧ Rel K T (G.at D a) (wipe σ vs) H' z ∧ lcGo2 (lcTurn2 vs vs1 g tt src1 g1 tt1 te) (ds.drop (i + 1)) z = some (rest, zz) ∧ acc ++ rest = out, fun H' p' => ⟨ds.length - (i + 1), by omega, rfl, hlt, p'⟩, fun v H3 yj => ?_⟩
        have yy := wk.yields i H2 v H3 hlt (hgd H2 p2) yj
        obtain ⟨x3, d, hdd, pd⟩ := hY i H2 v H3 p2 hlt yy
        rw [drop_at hdd] at e2
        obtain ⟨o, z1, e3, e2⟩ := bnd_some e2
        obtain ⟨r2, z2, e4, e2⟩ := bnd_some e2
        cases e2
        obtain ⟨⟨⟩, w1, e5, e3⟩ := bnd_some e3
        obtain ⟨b, w2, e6, e3⟩ := bnd_some e3
        obtain ⟨o', w3, e7, e3⟩ := bnd_some e3
        cases e3
        refine ⟨_, z, d, w1, R2.ext x3, pd, e5, fun σ4 H4 bt p4 R4 => ⟨bt.wipe hj, _, w1, b, w2, R4, e6, fun H5 p5 R5 => ?_⟩⟩
        have pp : Pers H1 H5 := ((p2.trans x3.pers).trans p4).trans p5
        have pq : Pers H2 H5 := (x3.pers.trans p4).trans p5
        have hw : wipe σ4 vs = wipe σ vs := bt.wipe hj
        cases b with
        | false =>
          have e7 : ret [] w2 = some (o, w3) := e7
          cases e7
          have hD5 : H5 D = some (.lst a) := (R5.grow D _ upd_same hd hc).eq fun ps z => by cases z
          have R6 := R5.turn (vs := vs) (b := a) hd hc hD5 (fun _ _ => rfl)
          rw [hw] at R6
          exact ⟨a, acc, r2, _, pp, hD5, PrAll.mono pq acc pa, R6, e4, hr⟩
        | true =>
          obtain ⟨ds1, w4, e8, e7⟩ := bnd_some (show bnd src1 _ w2 = some (o, w3) from e7)
          refine ⟨_, w2, ds1, w4, R5, e8, fun J1 H6 p6 R6 wd1 => ?_⟩
          obtain ⟨gd1, Y1, wk1, hgd1, hY1⟩ := wd1
          have hD6 : H6 D = some (.lst a) := (R6.grow D _ upd_same hd hc).eq fun ps z => by cases z
          have R7 := R6.turn (vs := vs1) (b := a) hd hc hD6 (fun _ _ => rfl)
          -- the inner walk
          refine ⟨fun j k H => k = ds1.length - j ∧ j ≤ ds1.length ∧ ∃ (a : List V) (acc rest : List PyData) (z : Sx), Pers H6 H ∧ H D = some (.lst a) ∧ PrAll K H a acc ∧ Rel K T (G.at D a) (wipe σ4 vs1) H z ∧ lcGo (lcTurn vs1 g1 tt1 te) (ds1.drop j) z = some (rest, w3) ∧ acc ++ (rest ++ r2) = out,
            ⟨ds1.length, by simp, Nat.zero_le _, a, acc, o, _, Pers.refl H6, hD6, PrAll.mono (pq.trans p6) acc pa, R7, e7, by rw [← hr]⟩, ?_⟩
          rintro j k H7 ⟨rfl, hjl, pj⟩
          by_cases hlt1 : j < ds1.length
          · obtain ⟨a, acc, rest, z, p7, hD, pa, R7, e2, hr⟩ := pj
            refine .inr ⟨wk1.goes j H7 hlt1 (hgd1 H7 p7), fun H => ∃ (a : List V) (acc rest : List PyData) (z : Sx), Pers H6 H ∧ H D = some (.lst a) ∧ PrAll K H a acc ∧ Rel K T (G.at D a) (wipe σ4 vs1) H z ∧ lcGo (lcTurn vs1 g1 tt1 te) (ds1.drop (j + 1)) z = some (rest, w3) ∧ acc ++ (rest ++ r2) = out, fun H' p' => ⟨ds1.length - (j + 1), by omega, rfl, hlt1, p'⟩, fun v H8 yj => ?_⟩
            have yy := wk1.yields j H7 v H8 hlt1 (hgd1 H7 p7) yj
            obtain ⟨x8, d1, hdd1, pd1⟩ := hY1 j H7 v H8 p7 hlt1 yy
            rw [drop_at hdd1] at e2
            obtain ⟨o1, z3, e3, e2⟩ := bnd_some e2
            obtain ⟨r3, z4, e9, e2⟩ := bnd_some e2
            cases e2
            obtain ⟨⟨⟩, w5, e10, e3⟩ := bnd_some e3
            obtain ⟨b1, w6, e11, e3⟩ := bnd_some e3
            obtain ⟨o2, w7, e12, e3⟩ := bnd_some e3
            cases e3
            refine ⟨_, z, d1, w5, R7.ext x8, pd1, e10, fun σ8 H9 bt1 p9 R9 => ⟨bt1.wipe hj1, _, w5, b1, w6, R9, e11, fun H10 p10 R10 => ?_⟩⟩
            have pp1 : Pers H6 H10 := ((p7.trans x8.pers).trans p9).trans p10
            have pq1 : Pers H7 H10 := (x8.pers.trans p9).trans p10
            have hw1 : wipe σ8 vs1 = wipe σ4 vs1 := bt1.wipe hj1
            cases b1 with
            | false =>
              have e12 : ret none w6 = some (o1, w7) := e12
              cases e12
              have hD10 : H10 D = some (.lst a) := (R10.grow D _ upd_same hd hc).eq fun ps z => by cases z
              have R11 := R10.turn (vs := vs1) (b := a) hd hc hD10 (fun _ _ => rfl)
              rw [hw1] at R11
              exact ⟨a, acc, r3, _, pp1, hD10, PrAll.mono pq1 acc pa, R11, e9, hr⟩
            | true =>
              obtain ⟨h, w8, e13, e12⟩ := bnd_some (show bnd te _ w6 = some (o1, w7) from e12)
              obtain ⟨d2, w9, e14, e15⟩ := bnd_some e12
              obtain ⟨hh, rfl⟩ := lift_some e14
              cases e15
              refine ⟨_, w6, h, w7, R10, e13, fun v2 H11 p11 R11 r11 => ?_⟩
              have hD11 : H11 D = some (.lst a) := (R11.grow D _ upd_same hd hc).eq fun ps z => by cases z
              have p12 : Pers H11 (upd H11 D (.lst (a ++ [v2]))) := Pers.lst hD11
              have R12 := R11.turn (vs := vs1) (b := a ++ [v2]) hd hc upd_same (fun c hc => upd_ne hc)
              rw [hw1] at R12
              have pa12 : PrAll K (upd H11 D (.lst (a ++ [v2]))) (a ++ [v2]) (acc ++ [d2]) := (PrAll.mono ((pq1.trans p11).trans p12) acc pa).append (.cons (Pr.mono p12 d2 (r11.esc hh)) .nil)
              refine ⟨a, hD11, ?_, a ++ [v2], acc ++ [d2], r3, _, (pp1.trans p11).trans p12, upd_same, pa12, R12, e9, ?_⟩
              · rw [pa.length, sizeLine_eq]
                have := congrArg List.length hr
                rw [List.length_append, List.length_append, List.length_cons] at this
                omega
              · rw [← hr, List.append_assoc]; rfl
          · have e : j = ds1.length := by omega
            subst e
            obtain ⟨a, acc, rest, z, p7, hD, pa, R7, e2, hr⟩ := pj
            rw [List.drop_length] at e2
            cases e2
            refine .inl ⟨wk1.stops H7 (hgd1 H7 p7), a, acc, r2, _, (pp.trans p6).trans p7, hD, pa, ?_, e4, by rw [← hr]; rfl⟩
            have R8 := R7.turn (vs := vs) (b := a) hd hc hD (fun _ _ => rfl)
            rw [wipe_wipe hv, hw] at R8
            exact R8
      · have e : i = ds.length := by omega
        subst e
        obtain ⟨a, acc, rest, z, p2, hD, pa, R2, e2, hr⟩ := p
        refine .inl ⟨wk.stops H2 (hgd H2 p2), ?_⟩
        rw [List.drop_length] at e2
        cases e2
        rw [List.append_nil] at hr
        subst hr
        have out0 : ∀ c, (G.at D a).H0 c = none → c ≠ D ∧ G.H0 c = none := fun c e => by
          have hcD : c ≠ D := fun q => by
            subst q
            have : (G.at c a).H0 c = some (.lst a) := upd_same
            rw [this] at e; cases e
          have e' : upd G.H0 D (.lst a) c = none := e
          rw [upd_ne hcD] at e'
          exact ⟨hcD, e'⟩
        have own2 : ∀ {i : Nat} {es : List PyData}, (unw y.1 zz.1 vs)[i]? = some (.own es) → i ∉ vs ∧ zz.1[i]? = some (.own es) := fun {i es} h => by
          rcases unw_at h with e | e
          · exfalso
            cases q : y.1[i]? with
            | none => rw [q] at e; cases e
            | some s => rw [q] at e; cases s <;> cases e
          · exact e
        have RR : Rel K T G σ H2 (unw y.1 zz.1 vs, zz.2) := by
          refine ⟨R2.dk, fun c o e h1 h2 => ?_, ?_, fun i s hs => ?_, fun i j c ds es hn e1 e2 => ?_⟩
          · by_cases q : c = D
            · subst q; rw [g0] at e; cases e
            · refine R2.grow c o ?_ h1 h2
              show upd G.H0 D (.lst a) c = some o
              rw [upd_ne q]; exact e
          · show (unw y.1 zz.1 vs).length = _
            rw [unw_len, R2.len, wipe_length]
          · rcases unw_at hs with e | ⟨n, hs⟩
            · subst e
              cases q : y.1[i]? with
              | none => trivial
              | some s =>
                have w := R1.slot i s q
                cases s with
                | no => trivial
                | val d => obtain ⟨u, h1, h2⟩ := w; exact ⟨u, h1, Pr.mono p2 d h2⟩
                | deck => exact w
                | own es => trivial
            · have w := R2.slot i s hs
              rw [wipe_out' n] at w
              cases s with
              | no => trivial
              | val d => exact w
              | deck => exact w
              | own es =>
                obtain ⟨c, xs, h1, h2, h3, h4, h5⟩ := w
                exact ⟨c, xs, h1, h2, h3, h4, (out0 c h5).2⟩
          · obtain ⟨n1, e1⟩ := own2 e1
            obtain ⟨n2, e2⟩ := own2 e2
            have w := R2.sep i j c ds es hn e1 e2
            rw [wipe_out' n1, wipe_out' n2] at w
            exact w
        refine q D a H2 (p1.trans p2) RR hD pa hc g0 fun i es hi z2 => ?_
        obtain ⟨n, hi⟩ := own2 hi
        obtain ⟨c, xs, h1, h2, h3, h4, h5⟩ := R2.slot i _ hi
        rw [wipe_out' n, z2] at h1
        cases h1
        exact (out0 D h5).1 rfl
    · cases ef
  · cases ef
theorem df_lc2 {elt tg iter tg1 iter1 : Expr} {ifs ifs1 : List Expr} {scope : Scope} {own : List (Str × Nat)} {vs1 : List Nat} {pos : Pos} {src src1 : M (List PyData)} {js js1 : List Nat} {g g1 : PyData → M Unit} {tt tt1 : M Bool} {te : M Hd} (hc : X.calm = true) (hN : X.N.Nodup) (hi : DI T X tg iter src) (ok : BlkOk X.N X.env.scope scope own) (hv : ∀ i ∈ vs1, i ∈ own.map (·.2))
    (hj : ∀ j ∈ js, j ∈ own.map (·.2)) (hj1 : ∀ j ∈ js1, j ∈ vs1) (hg : ∀ (s : Shared) (H : Hp) (C : Addr) (cl : List (Str × Addr)) (fp : List Addr), DG T (X.blk s H scope (compEnvC scope cl C X.env) fp) tg js g) (ht : ∀ (s : Shared) (H : Hp) (C : Addr) (cl : List (Str × Addr)) (fp : List Addr), PTs (X.blk s H scope (compEnvC scope cl C X.env) fp) ifs (rdT X.K T tt))
    (hi1 : ∀ (s : Shared) (H : Hp) (C : Addr) (cl : List (Str × Addr)) (fp : List Addr), DI T (X.blk s H scope (compEnvC scope cl C X.env) fp) tg1 iter1 src1)
    (hg1 : ∀ (s : Shared) (H : Hp) (C : Addr) (cl : List (Str × Addr)) (fp : List Addr), DG T (X.blk s H scope (compEnvC scope cl C X.env) fp) tg1 js1 g1) (ht1 : ∀ (s : Shared) (H : Hp) (C : Addr) (cl : List (Str × Addr)) (fp : List Addr), PTs (X.blk s H scope (compEnvC scope cl C X.env) fp) ifs1 (rdT X.K T tt1))
    (he : ∀ (s : Shared) (H : Hp) (C : Addr) (cl : List (Str × Addr)) (fp : List Addr), DE T (X.blk s H scope (compEnvC scope cl C X.env) fp) elt te) (hs : ∀ x, foldedSetIterable iter X.env x = pure x := by intro _; rfl) (hs1 : ∀ env x, foldedSetIterable iter1 env x = pure x := by intro _ _; rfl) :
    DF T X (.ListComp elt [⟨tg, iter, ifs, 0⟩, ⟨tg1, iter1, ifs1, 0⟩] scope pos) (dLc2 src (own.map (·.2)) vs1 g tt src1 g1 tt1 te) := PEw (pe_lc2 hc hN hi ok hv hg ht hi1 hg1 ht1 he hs hs1) (rd_lc2 hj hj1 hv)
theorem ds_ownLc2 {i : Nat} {y : Str} {py : Pos} {elt tg iter tg1 iter1 : Expr} {ifs ifs1 : List Expr} {scope : Scope} {own : List (Str × Nat)} {vs1 : List Nat} {pos spos : Pos} {src src1 : M (List PyData)} {js js1 : List Nat} {g g1 : PyData → M Unit} {tt tt1 : M Bool} {te : M Hd} (hc : X.calm = true) (hN : X.N.Nodup) (hy : X.N[i]? = some y) (hyl : X.env.scope.names.lookup y = some .local)
    (hsw : swapsWith (.ListComp elt [⟨tg, iter, ifs, 0⟩, ⟨tg1, iter1, ifs1, 0⟩] scope pos) (some (.Name y py)) spos.line X.env = pure true) (hi : DI T X tg iter src) (ok : BlkOk X.N X.env.scope scope own) (hv : ∀ i ∈ vs1, i ∈ own.map (·.2))
    (hj : ∀ j ∈ js, j ∈ own.map (·.2)) (hj1 : ∀ j ∈ js1, j ∈ vs1) (hg : ∀ (s : Shared) (H : Hp) (C : Addr) (cl : List (Str × Addr)) (fp : List Addr), DG T (X.blk s H scope (compEnvC scope cl C X.env) fp) tg js g) (ht : ∀ (s : Shared) (H : Hp) (C : Addr) (cl : List (Str × Addr)) (fp : List Addr), PTs (X.blk s H scope (compEnvC scope cl C X.env) fp) ifs (rdT X.K T tt))
    (hi1 : ∀ (s : Shared) (H : Hp) (C : Addr) (cl : List (Str × Addr)) (fp : List Addr), DI T (X.blk s H scope (compEnvC scope cl C X.env) fp) tg1 iter1 src1)
    (hg1 : ∀ (s : Shared) (H : Hp) (C : Addr) (cl : List (Str × Addr)) (fp : List Addr), DG T (X.blk s H scope (compEnvC scope cl C X.env) fp) tg1 js1 g1) (ht1 : ∀ (s : Shared) (H : Hp) (C : Addr) (cl : List (Str × Addr)) (fp : List Addr), PTs (X.blk s H scope (compEnvC scope cl C X.env) fp) ifs1 (rdT X.K T tt1))
    (he : ∀ (s : Shared) (H : Hp) (C : Addr) (cl : List (Str × Addr)) (fp : List Addr), DE T (X.blk s H scope (compEnvC scope cl C X.env) fp) elt te) (hs : ∀ x, foldedSetIterable iter X.env x = pure x := by intro _; rfl) (hs1 : ∀ env x, foldedSetIterable iter1 env x = pure x := by intro _ _; rfl) :
    DS T X (.Assign [.Name y py] (.ListComp elt [⟨tg, iter, ifs, 0⟩, ⟨tg1, iter1, ifs1, 0⟩] scope pos) spos) (sOwn i (dLc2 src (own.map (·.2)) vs1 g tt src1 g1 tt1 te)) := by
  refine PSw (ps_setLc2 hc hN hy hyl hsw hi ok hv hg ht hi1 hg1 ht1 he hs hs1) fun D σ H q => rd_lc2 hj hj1 hv σ H (fun v H1 => gName i v σ H1 D.nx) ?_
  obtain ⟨G, x, fl, x', R, e, q⟩ := q
  obtain ⟨ds, y, e1, e⟩ := bnd_some e
  split at e
  · rename_i hl
    cases e
    exact ⟨G, x, ds, y, R, e1, fun a xs H1 p1 R1 ha hp hc h0 hn => q _ H1 p1 (R1.putOwn hl ha hp hc h0 fun j es _ => hn j es)⟩
  · cases e
end
end DD
/-! # two names at once, one or both a list of its own -/
namespace DD
open PySem PySem.Spec PyProof.Rows L2
section
variable {X : Cx} {T : TB}
/-- while a new list stands at a -/
theorem Rel.at_new {K : PySem.W.Frag} {G : Gh} {σ : L2.St} {H : Hp} {y : Sx} {a : Addr} {xs : List V} (R : Rel K T G σ H y) (ha : H a = some (.lst xs)) (hc : a ≠ G.cl)
    (hn : ∀ (i : Nat) (es : List PyData), y.1[i]? = some (.own es) → σ[i]? ≠ some (some (.ref a))) : Rel K T (G.at a xs) σ H y := by
  refine ⟨R.dk, fun c o e h1 h2 => ?_, R.len, fun i s hs => ?_, R.sep⟩
  · by_cases z : c = a
    · subst z
      have e' : (G.at c xs).H0 c = some (.lst xs) := upd_same
      rw [e'] at e; cases e; exact .inl ha
    · have e' : upd G.H0 a (.lst xs) c = some o := e
      rw [upd_ne z] at e'
      exact R.grow c o e' h1 h2
  · have w := R.slot i s hs
    cases s with
    | no => trivial
    | val d => exact w
    | deck => exact w
    | own es =>
      obtain ⟨c, zs, h1, h2, h3, h4, h5⟩ := w
      have nc : c ≠ a := fun z => hn i es hs (by rw [h1, z])
      refine ⟨c, zs, h1, h2, h3, h4, ?_⟩
      show upd G.H0 a (.lst xs) c = none
      rw [upd_ne nc]; exact h5
theorem Rel.at_done {K : PySem.W.Frag} {G : Gh} {σ : L2.St} {H : Hp} {y : Sx} {a : Addr} {xs : List V} (R : Rel K T (G.at a xs) σ H y) (hd : a ≠ G.dk) (hc : a ≠ G.cl) (g0 : G.H0 a = none) :
    Rel K T G σ H y ∧ H a = some (.lst xs) ∧ (∀ (i : Nat) (es : List PyData), y.1[i]? = some (.own es) → σ[i]? ≠ some (some (.ref a))) ∧ ∀ c, (G.at a xs).H0 c = none → c ≠ a ∧ G.H0 c = none := by
  have out0 : ∀ c, (G.at a xs).H0 c = none → c ≠ a ∧ G.H0 c = none := fun c e => by
    have hcD : c ≠ a := fun q => by
      subst q
      have : (G.at c xs).H0 c = some (.lst xs) := upd_same
      rw [this] at e; cases e
    have e' : upd G.H0 a (.lst xs) c = none := e
    rw [upd_ne hcD] at e'
    exact ⟨hcD, e'⟩
  have ha : H a = some (.lst xs) := (R.grow a _ upd_same hd hc).eq fun ps z => by cases z
  refine ⟨⟨R.dk, fun c o e h1 h2 => ?_, R.len, fun i s hs => ?_, R.sep⟩, ha, fun i es hi z => ?_, out0⟩
  · by_cases q : c = a
    · subst q; rw [g0] at e; cases e
    · refine R.grow c o ?_ h1 h2
      show upd G.H0 a (.lst xs) c = some o
      rw [upd_ne q]; exact e
  · have w := R.slot i s hs
    cases s with
    | no => trivial
    | val d => exact w
    | deck => exact w
    | own es =>
      obtain ⟨c, zs, h1, h2, h3, h4, h5⟩ := w
      exact ⟨c, zs, h1, h2, h3, h4, (out0 c h5).2⟩
  · obtain ⟨c, zs, h1, h2, h3, h4, h5⟩ := R.slot i _ hi
    rw [z] at h1
    cases h1
    exact (out0 a h5).1 rfl
/-- x, y = [..], [..] -/
def sParOO (i j : Nat) (f g : M (List PyData)) : M Fl := bnd f fun ds => bnd g fun es => fun x => if i < x.1.length ∧ j < x.1.length then some (.nx, putS j (.own es) (putS i (.own ds) x)) else none
/-- x, y = [..], value -/
def sParOV (i j : Nat) (f : M (List PyData)) (g : M Hd) : M Fl := bnd f fun ds => bnd g fun h => bnd (lift (esc h)) fun d => fun x => if i < x.1.length then some (.nx, putS j (.val d) (putS i (.own ds) x)) else none
theorem ds_parOO {i j : Nat} {x y : Str} {a b : Expr} {f g : M (List PyData)} {px py pt pos : Pos} {kt k2 : Nat} {pt2 : Pos} (hc : X.calm = true) (hN : X.N.Nodup) (hi : X.N[i]? = some x) (hj : X.N[j]? = some y) (hij : i ≠ j)
    (hx : X.env.scope.names.lookup x = some .local) (hy : X.env.scope.names.lookup y = some .local) (ha : DF T X a f) (hb : DF T X b g) (hw : swappedStores [.Tuple [.Name x px, .Name y py] kt pt] (.Tuple [a, b] k2 pt2) X.env = pure (some [x, y]))
    (hs : swapsWithSole [.Tuple [.Name x px, .Name y py] kt pt] (.Tuple [a, b] k2 pt2) pos.line X.env = pure false := by rfl)
    (h1 : starEach [a, b] X.env = (false, eval a X.env) :: starEach [b] X.env := by rfl) (h2 : starEach [b] X.env = (false, eval b X.env) :: starEach [] X.env := by rfl) : DS T X (.Assign [.Tuple [.Name x px, .Name y py] kt pt] (.Tuple [a, b] k2 pt2) pos) (sParOO i j f g) := by
  refine PSw (ps_par hc hN hi hj hij hx hy (pa_cons ha (pa_cons hb pa_nil h2) h1) hw hs) fun D σ H q => ?_
  obtain ⟨G, x, fl, x', R, e, q⟩ := q
  obtain ⟨ds, y, e1, e⟩ := bnd_some e
  obtain ⟨es, z, e2, e⟩ := bnd_some e
  split at e
  · rename_i hl
    cases e
    refine ⟨G, x, ds, y, R, e1, fun a xs H1 p1 R1 ha hp hc h0 hn => ?_⟩
    have hd : a ≠ G.dk := fun z => by
      have w := R1.dk.d
      rw [← z, ha] at w; cases w
    refine ⟨G.at a xs, y, es, z, R1.at_new ha hc hn, e2, fun b ys H2 p2 R2 hb hp2 hc2 h02 hn2 => ?_⟩
    obtain ⟨R3, ha3, hn3, out0⟩ := R2.at_done hd hc h0
    obtain ⟨nba, hb0⟩ := out0 b h02
    refine ⟨_, _, rfl, ?_⟩
    have R4 := R3.putOwn hl.1 ha3 (PrAll.mono p2 ds hp) hc h0 fun l es _ => hn3 l es
    have hσ : i < σ.length := by rw [← R3.len]; exact hl.1
    refine q _ H2 (p1.trans p2) (R4.putOwn (by show j < (z.1.set i _).length; rw [List.length_set]; exact hl.2) hb hp2 hc2 hb0 fun l ts hlj hts => ?_)
    rcases set_at hts with ⟨rfl, _⟩ | ⟨n, hts⟩
    · rw [List.getElem?_set_self hσ]
      intro q
      cases q
      exact nba rfl
    · rw [List.getElem?_set_ne (Ne.symm n)]
      exact hn2 l ts hts
  · cases e
theorem ds_parOV {i j : Nat} {x y : Str} {a b : Expr} {f : M (List PyData)} {g : M Hd} {px py pt pos : Pos} {kt k2 : Nat} {pt2 : Pos} (hc : X.calm = true) (hN : X.N.Nodup) (hi : X.N[i]? = some x) (hj : X.N[j]? = some y) (hij : i ≠ j)
    (hx : X.env.scope.names.lookup x = some .local) (hy : X.env.scope.names.lookup y = some .local) (ha : DF T X a f) (hb : DE T X b g) (hw : swappedStores [.Tuple [.Name x px, .Name y py] kt pt] (.Tuple [a, b] k2 pt2) X.env = pure (some [x, y]))
    (hs : swapsWithSole [.Tuple [.Name x px, .Name y py] kt pt] (.Tuple [a, b] k2 pt2) pos.line X.env = pure false := by rfl)
    (h1 : starEach [a, b] X.env = (false, eval a X.env) :: starEach [b] X.env := by rfl) (h2 : starEach [b] X.env = (false, eval b X.env) :: starEach [] X.env := by rfl) : DS T X (.Assign [.Tuple [.Name x px, .Name y py] kt pt] (.Tuple [a, b] k2 pt2) pos) (sParOV i j f g) := by
  refine PSw (ps_par hc hN hi hj hij hx hy (pa_cons ha (pa_cons hb pa_nil h2) h1) hw hs) fun D σ H q => ?_
  obtain ⟨G, x, fl, x', R, e, q⟩ := q
  obtain ⟨ds, y, e1, e⟩ := bnd_some e
  obtain ⟨h, z, e2, e⟩ := bnd_some e
  obtain ⟨d, z2, e3, e5⟩ := bnd_some e
  obtain ⟨hh, rfl⟩ := lift_some e3
  split at e5
  · rename_i hl
    cases e5
    refine ⟨G, x, ds, y, R, e1, fun a xs H1 p1 R1 ha hp hc h0 hn => ?_⟩
    have hd : a ≠ G.dk := fun z => by
      have w := R1.dk.d
      rw [← z, ha] at w; cases w
    refine ⟨G.at a xs, y, h, z2, R1.at_new ha hc hn, e2, fun v H2 p2 R2 r2 => ?_⟩
    obtain ⟨R3, ha3, hn3, out0⟩ := R2.at_done hd hc h0
    refine ⟨_, _, rfl, ?_⟩
    exact q _ H2 (p1.trans p2) ((R3.putOwn hl ha3 (PrAll.mono p2 ds hp) hc h0 fun l es _ => hn3 l es).put (r2.esc hh))
  · cases e5
/-- .. with names that a comprehension captures: a tuple is made and taken apart -/
theorem ds_tupOV {i j : Nat} {tx ty a b : Expr} {f : M (List PyData)} {g : M Hd} {pt pos : Pos} {kt k2 : Nat} {pt2 : Pos} (hc : X.calm = true) (hij : i ≠ j) (gx : PG X tx (gName i)) (gy : PG X ty (gName j)) (ha : DF T X a f) (hb : DE T X b g)
    (hs : swapsWithSole [.Tuple [tx, ty] kt pt] (.Tuple [a, b] k2 pt2) pos.line X.env = pure false := by rfl) (hw : swappedStores [.Tuple [tx, ty] kt pt] (.Tuple [a, b] k2 pt2) X.env = pure none := by rfl)
    (h0 : (assignEach [.Tuple [tx, ty] kt pt] X.env).map (·.2) = [assign (.Tuple [tx, ty] kt pt) X.env] := by rfl) (hn : (assignEach [tx, ty] X.env).length = 2 := by rfl) (hst : (assignEach [tx, ty] X.env).findIdx? (·.1) = none := by rfl)
    (g1 : (assignEach [tx, ty] X.env).map (·.2) = assign tx X.env :: (assignEach [ty] X.env).map (·.2) := by rfl) (g2 : (assignEach [ty] X.env).map (·.2) = assign ty X.env :: (assignEach [] X.env).map (·.2) := by rfl)
    (h1 : starEach [a, b] X.env = (false, eval a X.env) :: starEach [b] X.env := by rfl) (h2 : starEach [b] X.env = (false, eval b X.env) :: starEach [] X.env := by rfl) : DS T X (.Assign [.Tuple [tx, ty] kt pt] (.Tuple [a, b] k2 pt2) pos) (sParOV i j f g) := by
  refine PSw (ps_asg (pe_tup (pa_cons ha (pa_cons hb pa_nil h2) h1)) (pg_tup hc (pgs_cons gx (pgs_cons gy pgs_nil g2) g1) hn hst) hs hw h0) fun D σ H q => ?_
  obtain ⟨G, x, fl, x', R, e, q⟩ := q
  obtain ⟨ds, y, e1, e⟩ := bnd_some e
  obtain ⟨h, z, e2, e⟩ := bnd_some e
  obtain ⟨d, z2, e3, e5⟩ := bnd_some e
  obtain ⟨hh, rfl⟩ := lift_some e3
  split at e5
  · rename_i hl
    cases e5
    refine ⟨G, x, ds, y, R, e1, fun a xs H1 p1 R1 ha hp hc h0 hn => ?_⟩
    have hd : a ≠ G.dk := fun z => by
      have w := R1.dk.d
      rw [← z, ha] at w; cases w
    refine ⟨G.at a xs, y, h, z2, R1.at_new ha hc hn, e2, fun v H2 p2 R2 r2 => ⟨by rw [sizeLine_eq]; simp, fun p np => ?_⟩⟩
    have x3 : Ext H2 (upd H2 p (.tup [.ref a, v])) := Ext.new np
    obtain ⟨R3, ha3, hn3, out0⟩ := (R2.ext x3).at_done hd hc h0
    refine ⟨p, [.ref a, v], rfl, SqT.of upd_same, rfl, _, _, rfl, _, _, rfl, rfl, ?_⟩
    exact q _ _ (p1.trans (p2.trans x3.pers)) ((R3.putOwn hl ha3 (PrAll.mono (p2.trans x3.pers) ds hp) hc h0 fun l es _ => hn3 l es).put (Pr.mono x3.pers d (r2.esc hh)))
  · cases e5
end
end DD
/-! # several names at once, some of them lists of their own -/
namespace DD
open PySem PySem.Spec PyProof.Rows L2
inductive Rs where
  | val (d : PyData)
  | own (ds : List PyData)
inductive Itm where
  | o (f : M (List PyData))
  | v (f : M Hd)
def aIt : List Itm → M (List Rs)
  | [] => ret []
  | .o f :: r => bnd f fun ds => bnd (aIt r) fun rs => ret (.own ds :: rs)
  | .v f :: r => bnd f fun h => bnd (lift (esc h)) fun d => bnd (aIt r) fun rs => ret (.val d :: rs)
def putR (i : Nat) (r : Rs) (x : Sx) : Sx := match r with
  | .val d => putS i (.val d) x
  | .own ds => putS i (.own ds) x
def putRs : List Nat → List Rs → Sx → Sx
  | i :: js, r :: rs, x => putRs js rs (putR i r x)
  | _, _, x => x
def sTup (js : List Nat) (its : List Itm) : M Fl := bnd (aIt its) fun rs => fun x => if (js.all fun i => decide (i < x.1.length)) = true then some (.nx, putRs js rs x) else none
section
variable {X : Cx} {T : TB}
/-- the new lists among these -/
def owned : List V → List Rs → List V
  | v :: vs, .own _ :: rs => v :: owned vs rs
  | _ :: vs, .val _ :: rs => owned vs rs
  | _, _ => []
inductive Ovs (K : PySem.W.Frag) (G : Gh) (σ : L2.St) (H : Hp) (x : Sx) : List V → List Rs → Prop
  | nil : Ovs K G σ H x [] []
  | val {v : V} {d : PyData} {vs : List V} {rs : List Rs} (h : Pr K H v d) (t : Ovs K G σ H x vs rs) : Ovs K G σ H x (v :: vs) (.val d :: rs)
  | own {a : Addr} {xs : List V} {ds : List PyData} {vs : List V} {rs : List Rs} (ha : H a = some (.lst xs)) (hp : PrAll K H xs ds) (hc : a ≠ G.cl) (h0 : G.H0 a = none)
      (hn : ∀ (i : Nat) (es : List PyData), x.1[i]? = some (.own es) → σ[i]? ≠ some (some (.ref a))) (hf : V.ref a ∉ owned vs rs) (t : Ovs K G σ H x vs rs) : Ovs K G σ H x (.ref a :: vs) (.own ds :: rs)
theorem Ovs.unat {K : PySem.W.Frag} {G : Gh} {σ : L2.St} {H : Hp} {x : Sx} {a : Addr} {ys : List V} (out0 : ∀ c, (G.at a ys).H0 c = none → c ≠ a ∧ G.H0 c = none) : ∀ {vs : List V} {rs : List Rs}, Ovs K (G.at a ys) σ H x vs rs → Ovs K G σ H x vs rs ∧ V.ref a ∉ owned vs rs
  | _, _, .nil => ⟨.nil, by simp [owned]⟩
  | _, _, .val h t => ⟨.val h (t.unat out0).1, by simp only [owned]; exact (t.unat out0).2⟩
  | _, _, .own ha hp hc h0 hn hf t => by
    obtain ⟨t1, t2⟩ := t.unat out0
    obtain ⟨e1, e2⟩ := out0 _ h0
    refine ⟨.own ha hp hc e2 hn hf t1, ?_⟩
    simp only [owned, List.mem_cons, not_or]
    exact ⟨fun z => e1 (by injection z with z; exact z.symm), t2⟩
theorem Ovs.length {K : PySem.W.Frag} {G : Gh} {σ : L2.St} {H : Hp} {x : Sx} : ∀ {vs : List V} {rs : List Rs}, Ovs K G σ H x vs rs → vs.length = rs.length
  | _, _, .nil => rfl
  | _, _, .val _ t => by rw [List.length_cons, List.length_cons, t.length]
  | _, _, .own _ _ _ _ _ _ t => by rw [List.length_cons, List.length_cons, t.length]
/-- one more name is set -/
theorem Ovs.put {K : PySem.W.Frag} {G : Gh} {σ : L2.St} {H : Hp} {x : Sx} {i : Nat} {u : V} {s : Slot} (hi : i < σ.length) {vs : List V} {rs : List Rs} (o : Ovs K G σ H x vs rs) (hs : ∀ es, s = .own es → u ∉ owned vs rs) : Ovs K G (σ.set i (some u)) H (putS i s x) vs rs := by
  induction o with
  | nil => exact .nil
  | val h t ih => exact .val h (ih fun es e => by have := hs es e; simpa only [owned] using this)
  | @own a xs ds vs rs ha hp hc h0 hn hf t ih =>
    refine .own ha hp hc h0 (fun j es hj => ?_) hf (ih fun es e z => hs es e (by simp only [owned]; exact List.mem_cons_of_mem _ z))
    rcases set_at hj with ⟨rfl, e⟩ | ⟨n, hj⟩
    · rw [List.getElem?_set_self hi]
      intro z
      injection z with z
      injection z with z
      exact hs es e.symm (by rw [z]; simp only [owned]; exact List.mem_cons_self)
    · rw [List.getElem?_set_ne (Ne.symm n)]
      exact hn j es hj
def setVs : List Nat → List V → L2.St → L2.St
  | i :: js, v :: vs, σ => setVs js vs (σ.set i (some v))
  | _, _, σ => σ
theorem Rel.putRs {K : PySem.W.Frag} {G : Gh} {H : Hp} {js : List Nat} : ∀ {vs : List V} {rs : List Rs} {σ : L2.St} {x : Sx}, Rel K T G σ H x → Ovs K G σ H x vs rs → (∀ i ∈ js, i < x.1.length) → Rel K T G (setVs js vs σ) H (DD.putRs js rs x) := by
  induction js with
  | nil => intro vs rs σ x R o hl; simpa [setVs, DD.putRs] using R
  | cons i js ih =>
    intro vs rs σ x R o hl
    have hi : i < σ.length := by rw [← R.len]; exact hl i List.mem_cons_self
    have hl2 : ∀ s, ∀ j ∈ js, j < (putS i s x).1.length := fun s j hj => by
      show j < (x.1.set i _).length
      rw [List.length_set]; exact hl j (List.mem_cons_of_mem _ hj)
    cases o with
    | nil => simpa [setVs, DD.putRs] using R
    | val h t => exact ih (R.put h) (t.put (s := .val _) hi fun es e => by cases e) (hl2 _)
    | own ha hp hc h0 hn hf t => exact ih (R.putOwn (hl i List.mem_cons_self) ha hp hc h0 fun j es _ => hn j es) (t.put (s := .own _) hi fun es e => hf) (hl2 _)
def rdOv (K : PySem.W.Frag) (T : TB) (f : M (List Rs)) : TA := fun σ H Q => ∃ G x rs x', Rel K T G σ H x ∧ f x = some (rs, x') ∧ ∀ vs H', Pers H H' → Rel K T G σ H' x' → Ovs K G σ H' x' vs rs → Q vs H'
abbrev DO' (T : TB) (X : Cx) (es : List Expr) (its : List Itm) : Prop := PA X es (rdOv X.K T (aIt its))
theorem do_nil : DO' T X [] [] := by
  refine PAw pa_nil fun σ H Q q => ?_
  obtain ⟨G, x, rs, x', R, e, q⟩ := q
  cases e
  exact q _ H (Pers.refl H) R .nil
theorem do_own {e : Expr} {es : List Expr} {f : M (List PyData)} {r : List Itm} (he : DF T X e f) (hr : DO' T X es r) (hs : starEach (e :: es) X.env = (false, eval e X.env) :: starEach es X.env := by rfl) : DO' T X (e :: es) (.o f :: r) := by
  refine PAw (pa_cons he hr hs) fun σ H Q q => ?_
  obtain ⟨G, x, rs, x', R, ef, q⟩ := q
  obtain ⟨ds, y, e1, ef⟩ := bnd_some ef
  obtain ⟨rs', z, e2, ef⟩ := bnd_some ef
  cases ef
  refine ⟨G, x, ds, y, R, e1, fun a xs H1 p1 R1 ha hp hc h0 hn => ?_⟩
  have hd : a ≠ G.dk := fun z => by
    have w := R1.dk.d
    rw [← z, ha] at w; cases w
  refine ⟨G.at a xs, y, rs', x', R1.at_new ha hc hn, e2, fun vs H2 p2 R2 o2 => ?_⟩
  obtain ⟨R3, ha3, hn3, out0⟩ := R2.at_done hd hc h0
  obtain ⟨o3, nf⟩ := o2.unat out0
  exact q _ H2 (p1.trans p2) R3 (.own ha3 (PrAll.mono p2 ds hp) hc h0 hn3 nf o3)
theorem do_val {e : Expr} {es : List Expr} {f : M Hd} {r : List Itm} (he : DE T X e f) (hr : DO' T X es r) (hs : starEach (e :: es) X.env = (false, eval e X.env) :: starEach es X.env := by rfl) : DO' T X (e :: es) (.v f :: r) := by
  refine PAw (pa_cons he hr hs) fun σ H Q q => ?_
  obtain ⟨G, x, rs, x', R, ef, q⟩ := q
  obtain ⟨h, y, e1, ef⟩ := bnd_some (show bnd f (fun h => bnd (lift (esc h)) fun d => bnd (aIt r) fun rs => ret (.val d :: rs)) x = some (rs, x') from ef)
  obtain ⟨d, z, e2, ef2⟩ := bnd_some ef
  obtain ⟨hh, rfl⟩ := lift_some e2
  obtain ⟨rs', u, e3, ef3⟩ := bnd_some ef2
  obtain ⟨rfl, rfl⟩ : rs = .val d :: rs' ∧ x' = u := by
    have ef : some (Rs.val d :: rs', u) = some (rs, x') := ef3
    cases ef
    exact ⟨rfl, rfl⟩
  exact ⟨G, x, h, z, R, e1, fun v H1 p1 R1 r1 => ⟨G, z, rs', x', R1, e3, fun vs H2 p2 R2 o2 => q _ H2 (p1.trans p2) R2 (.val (Pr.mono p2 d (r1.esc hh)) o2)⟩⟩
theorem sTup_some {js : List Nat} {its : List Itm} {x x' : Sx} {fl : Fl} (e : sTup js its x = some (fl, x')) : ∃ rs y, aIt its x = some (rs, y) ∧ (∀ i ∈ js, i < y.1.length) ∧ fl = .nx ∧ x' = putRs js rs y := by
  obtain ⟨rs, y, e1, e⟩ := bnd_some e
  split at e
  · rename_i hl
    cases e
    exact ⟨rs, y, e1, fun i hi => by simpa using List.all_eq_true.mp hl i hi, rfl, rfl⟩
  · cases e
theorem aIt_length : ∀ {its : List Itm} {x y : Sx} {rs : List Rs}, aIt its x = some (rs, y) → rs.length = its.length
  | [], _, _, _, e => by cases e; rfl
  | .o f :: r, x, y, rs, e => by
    obtain ⟨_, _, _, e⟩ := bnd_some (show bnd f _ x = some (rs, y) from e)
    obtain ⟨_, _, e2, e⟩ := bnd_some e
    cases e
    rw [List.length_cons, List.length_cons, aIt_length e2]
  | .v f :: r, x, y, rs, e => by
    obtain ⟨_, _, _, e⟩ := bnd_some (show bnd f _ x = some (rs, y) from e)
    obtain ⟨_, _, _, e⟩ := bnd_some e
    obtain ⟨_, _, e2, e⟩ := bnd_some e
    cases e
    rw [List.length_cons, List.length_cons, aIt_length e2]
theorem ds_tup2 {i j : Nat} {x y : Str} {a b : Expr} {its : List Itm} {px py pt pos : Pos} {kt k2 : Nat} {pt2 : Pos} (hc : X.calm = true) (hN : X.N.Nodup) (hi : X.N[i]? = some x) (hj : X.N[j]? = some y) (hij : i ≠ j)
    (hx : X.env.scope.names.lookup x = some .local) (hy : X.env.scope.names.lookup y = some .local) (ha : DO' T X [a, b] its) (hl : its.length = 2) (hw : swappedStores [.Tuple [.Name x px, .Name y py] kt pt] (.Tuple [a, b] k2 pt2) X.env = pure (some [x, y]))
    (hs : swapsWithSole [.Tuple [.Name x px, .Name y py] kt pt] (.Tuple [a, b] k2 pt2) pos.line X.env = pure false := by rfl) : DS T X (.Assign [.Tuple [.Name x px, .Name y py] kt pt] (.Tuple [a, b] k2 pt2) pos) (sTup [i, j] its) := by
  refine PSw (ps_par hc hN hi hj hij hx hy ha hw hs) fun D σ H q => ?_
  obtain ⟨G, x, fl, x', R, e, q⟩ := q
  obtain ⟨rs, y, e1, hb, rfl, rfl⟩ := sTup_some e
  refine ⟨G, x, rs, y, R, e1, fun vs H1 p1 R1 o1 => ?_⟩
  have hln : rs.length = 2 := by rw [← hl]; exact aIt_length e1
  have hv := o1.length
  match vs, hv, o1 with
  | [v, u], _, o1 => exact ⟨v, u, rfl, q _ H1 p1 (R1.putRs (js := [i, j]) o1 hb)⟩
  | [], hv, _ => rw [hln] at hv; cases hv
  | [_], hv, _ => rw [hln] at hv; cases hv
  | _ :: _ :: _ :: _, hv, _ => rw [hln] at hv; simp at hv
theorem ds_tup3 {i j l : Nat} {x y z : Str} {a b c : Expr} {its : List Itm} {px py pz pt pos : Pos} {kt k2 : Nat} {pt2 : Pos} (hc : X.calm = true) (hN : X.N.Nodup) (hi : X.N[i]? = some x) (hj : X.N[j]? = some y) (hl : X.N[l]? = some z) (hij : i ≠ j) (hil : i ≠ l) (hjl : j ≠ l)
    (hx : X.env.scope.names.lookup x = some .local) (hy : X.env.scope.names.lookup y = some .local) (hz : X.env.scope.names.lookup z = some .local) (ha : DO' T X [a, b, c] its) (h3 : its.length = 3)
    (hw : swappedStores [.Tuple [.Name x px, .Name y py, .Name z pz] kt pt] (.Tuple [a, b, c] k2 pt2) X.env = pure (some [x, y, z]))
    (hs : swapsWithSole [.Tuple [.Name x px, .Name y py, .Name z pz] kt pt] (.Tuple [a, b, c] k2 pt2) pos.line X.env = pure false := by rfl) : DS T X (.Assign [.Tuple [.Name x px, .Name y py, .Name z pz] kt pt] (.Tuple [a, b, c] k2 pt2) pos) (sTup [i, j, l] its) := by
  refine PSw (ps_par3 hc hN hi hj hl hij hil hjl hx hy hz ha hw hs) fun D σ H q => ?_
  obtain ⟨G, x, fl, x', R, e, q⟩ := q
  obtain ⟨rs, y, e1, hb, rfl, rfl⟩ := sTup_some e
  refine ⟨G, x, rs, y, R, e1, fun vs H1 p1 R1 o1 => ?_⟩
  have hln : rs.length = 3 := by rw [← h3]; exact aIt_length e1
  have hv := o1.length
  match vs, hv, o1 with
  | [v, u, w], _, o1 => exact ⟨v, u, w, rfl, q _ H1 p1 (R1.putRs (js := [i, j, l]) o1 hb)⟩
  | [], hv, _ => rw [hln] at hv; cases hv
  | [_], hv, _ => rw [hln] at hv; simp at hv
  | [_, _], hv, _ => rw [hln] at hv; simp at hv
  | _ :: _ :: _ :: _ :: _, hv, _ => rw [hln] at hv; simp at hv
theorem Ovs.ext {K : PySem.W.Frag} {G : Gh} {σ : L2.St} {H H' : Hp} {x : Sx} (e : Ext H H') : ∀ {vs : List V} {rs : List Rs}, Ovs K G σ H x vs rs → Ovs K G σ H' x vs rs
  | _, _, .nil => .nil
  | _, _, .val h t => .val (Pr.mono e.pers _ h) (t.ext e)
  | _, _, .own ha hp hc h0 hn hf t => .own (e _ _ ha) (PrAll.mono e.pers _ hp) hc h0 hn hf (t.ext e)
/-- .. with names that a comprehension captures: a tuple is made and taken apart -/
theorem ds_tupC2 {i j : Nat} {tx ty a b : Expr} {its : List Itm} {pt pos : Pos} {kt k2 : Nat} {pt2 : Pos} (hc : X.calm = true) (gx : PG X tx (gName i)) (gy : PG X ty (gName j)) (ha : DO' T X [a, b] its) (hl : its.length = 2)
    (hs : swapsWithSole [.Tuple [tx, ty] kt pt] (.Tuple [a, b] k2 pt2) pos.line X.env = pure false := by rfl) (hw : swappedStores [.Tuple [tx, ty] kt pt] (.Tuple [a, b] k2 pt2) X.env = pure none := by rfl)
    (h0 : (assignEach [.Tuple [tx, ty] kt pt] X.env).map (·.2) = [assign (.Tuple [tx, ty] kt pt) X.env] := by rfl) (hn : (assignEach [tx, ty] X.env).length = 2 := by rfl) (hst : (assignEach [tx, ty] X.env).findIdx? (·.1) = none := by rfl)
    (g1 : (assignEach [tx, ty] X.env).map (·.2) = assign tx X.env :: (assignEach [ty] X.env).map (·.2) := by rfl) (g2 : (assignEach [ty] X.env).map (·.2) = assign ty X.env :: (assignEach [] X.env).map (·.2) := by rfl) : DS T X (.Assign [.Tuple [tx, ty] kt pt] (.Tuple [a, b] k2 pt2) pos) (sTup [i, j] its) := by
  refine PSw (ps_asg (pe_tup ha) (pg_tup hc (pgs_cons gx (pgs_cons gy pgs_nil g2) g1) hn hst) hs hw h0) fun D σ H q => ?_
  obtain ⟨G, x, fl, x', R, e, q⟩ := q
  obtain ⟨rs, y, e1, hb, rfl, rfl⟩ := sTup_some e
  refine ⟨G, x, rs, y, R, e1, fun vs H2 p2 R2 o2 => ?_⟩
  have hln : rs.length = 2 := by rw [← hl]; exact aIt_length e1
  have hv := o2.length
  match vs, hv, o2 with
  | [v, u], _, o2 =>
    refine ⟨by rw [sizeLine_eq]; simp, fun p np => ?_⟩
    have x3 : Ext H2 (upd H2 p (.tup [v, u])) := Ext.new np
    exact ⟨p, [v, u], rfl, SqT.of upd_same, rfl, _, _, rfl, _, _, rfl, rfl, q _ _ (p2.trans x3.pers) ((R2.ext x3).putRs (js := [i, j]) (o2.ext x3) hb)⟩
  | [], hv, _ => rw [hln] at hv; cases hv
  | [_], hv, _ => rw [hln] at hv; cases hv
  | _ :: _ :: _ :: _, hv, _ => rw [hln] at hv; simp at hv
theorem ds_tupC3 {i j l : Nat} {tx ty tz a b c : Expr} {its : List Itm} {pt pos : Pos} {kt k2 : Nat} {pt2 : Pos} (hc : X.calm = true) (gx : PG X tx (gName i)) (gy : PG X ty (gName j)) (gz : PG X tz (gName l)) (ha : DO' T X [a, b, c] its) (hl : its.length = 3)
    (hs : swapsWithSole [.Tuple [tx, ty, tz] kt pt] (.Tuple [a, b, c] k2 pt2) pos.line X.env = pure false := by rfl) (hw : swappedStores [.Tuple [tx, ty, tz] kt pt] (.Tuple [a, b, c] k2 pt2) X.env = pure none := by rfl)
    (h0 : (assignEach [.Tuple [tx, ty, tz] kt pt] X.env).map (·.2) = [assign (.Tuple [tx, ty, tz] kt pt) X.env] := by rfl) (hn : (assignEach [tx, ty, tz] X.env).length = 3 := by rfl) (hst : (assignEach [tx, ty, tz] X.env).findIdx? (·.1) = none := by rfl)
    (g0 : (assignEach [tx, ty, tz] X.env).map (·.2) = assign tx X.env :: (assignEach [ty, tz] X.env).map (·.2) := by rfl)
    (g1 : (assignEach [ty, tz] X.env).map (·.2) = assign ty X.env :: (assignEach [tz] X.env).map (·.2) := by rfl) (g2 : (assignEach [tz] X.env).map (·.2) = assign tz X.env :: (assignEach [] X.env).map (·.2) := by rfl) : DS T X (.Assign [.Tuple [tx, ty, tz] kt pt] (.Tuple [a, b, c] k2 pt2) pos) (sTup [i, j, l] its) := by
  refine PSw (ps_asg (pe_tup ha) (pg_tup hc (pgs_cons gx (pgs_cons gy (pgs_cons gz pgs_nil g2) g1) g0) hn hst) hs hw h0) fun D σ H q => ?_
  obtain ⟨G, x, fl, x', R, e, q⟩ := q
  obtain ⟨rs, y, e1, hb, rfl, rfl⟩ := sTup_some e
  refine ⟨G, x, rs, y, R, e1, fun vs H2 p2 R2 o2 => ?_⟩
  have hln : rs.length = 3 := by rw [← hl]; exact aIt_length e1
  have hv := o2.length
  match vs, hv, o2 with
  | [v, u, w], _, o2 =>
    refine ⟨by rw [sizeLine_eq]; simp, fun p np => ?_⟩
    have x3 : Ext H2 (upd H2 p (.tup [v, u, w])) := Ext.new np
    exact ⟨p, [v, u, w], rfl, SqT.of upd_same, rfl, _, _, rfl, _, _, rfl, _, _, rfl, rfl, q _ _ (p2.trans x3.pers) ((R2.ext x3).putRs (js := [i, j, l]) (o2.ext x3) hb)⟩
  | [], hv, _ => rw [hln] at hv; cases hv
  | [_], hv, _ => rw [hln] at hv; simp at hv
  | [_, _], hv, _ => rw [hln] at hv; simp at hv
  | _ :: _ :: _ :: _ :: _, hv, _ => rw [hln] at hv; simp at hv
end
end DD
/-! # sorted(xs, key=lambda at: int(at) % (n // 2)) -/
namespace DD
open PySem PySem.Spec PyProof.Rows L2 LamX
abbrev keyE (p1 p2 p3 p4 p5 p6 p7 : Pos) (kk : Nat) : Expr := .BinOp (.Call (.Name "int" p1) [.Name "at" p2] [] p3) .Mod (.BinOp (.Name "n" p4) .FloorDiv (.Constant (.int 2) kk p5) p6) p7
section
variable {prog : Program} {w : World} {mg mb : Str → Option Value}
theorem key_call {A : Around} {s : Shared} {f c' cn : Addr} {qual : Str} {params : Arguments} {scope : Scope} {cl : List (Str × Addr)} {pm ctv : Value} {p1 p2 p3 p4 p5 p6 p7 : Pos} {kk : Nat} {n i : Int} {tn ti : Tok}
    (hroom : A.depth < recursionLimit) (hlim : s.heap.NoLimit) (hf : s.heap.get? f = some (PySem.W.kla_obj "<lambda>" qual params (keyE p1 p2 p3 p4 p5 p6 p7 kk) scope cl pm c' ctv)) (hcd : s.heap.CodeRec (.ref c') qual)
    (hco : scope.isCoroutine = false) (hgen : scope.isGenerator = false) (hk : scope.kind = .function) (hnc : ∀ x ∈ scope.names, x.2 ≠ .cell) (hat : scope.names.lookup ("at" : Str) = some .local) (hint : scope.names.lookup ("int" : Str) = some .globalImplicit) (hfn : scope.names.lookup ("n" : Str) = some .free)
    (hbind : bindArgs (PySem.W.kla_fn "<lambda>" qual params (keyE p1 p2 p3 p4 p5 p6 p7 kk) scope cl pm (.ref c') ctv) ⟨[.int i ti], []⟩ = pure [(("at" : Str), .int i ti)])
    (hcl : cl.lookup ("n" : Str) = some cn) (hcell : s.heap.IsCell cn (some (.int n tn)))
    (hmg : s.heap.Ns mainGlobals mg) (him : mg ("int" : Str) = none) (hmb : s.heap.Ns builtinsNs mb) (hib : mb ("int" : Str) = some (.type "int")) (hn : 2 ≤ n) (hn2 : n < 1073741824) :
    wpAny (model prog w) A (call (.ref f) [.int i ti]) (PySem.W.KeyPure (.int (i % (n / 2))) s) (fun _ _ => False) s := by
  have h2 : n / 2 ≠ 0 := by omega
  have rc : codeAny (model prog w) A (.call (.ref f) ⟨[.int i ti], []⟩) (fun r s' => ∃ v, r = .ok (.ret v) ∧ PySem.W.KeyPure (.int (i % (n / 2))) s v s') s := by
    refine PySem.W.kla_callFunE hroom hf rfl hco hgen rfl hcd ?_
    rw [hbind]
    refine wpAny_pure (wpAny_newFunctionEnv hnc (fun x hx => ?_) (fun h₁ hns hsb => ⟨hlim.fresh _ hsb, ?_⟩) hk)
    · rw [List.mem_singleton.mp hx]; exact hat
    have kp : ∀ b o, s.heap.get? b = some o → h₁.get? b = some o := fun b o e => hsb.extBut b o (Nat.ne_of_lt (Heap.lt_size e)) (Heap.get?_push_of_some _ e)
    refine PySem.W.kla_codeExpr ?_
    show wpAny _ _ (eval (keyE p1 p2 p3 p4 p5 p6 p7 kk) (PySem.W.envX (qual) scope s.heap.objs.size f (.ref c') cl)) _ _ _
    -- int(at)
    refine wpAny_BinOp (wpAny_Call_Name_kw (Calls.Name_function_global hk hint (Calls.loadGlobal_builtin (hmg.keeps kp) him (hmb.keeps kp) hib (callWith_type1 (Calls.spliced_cons (wpAny_Name (wpAny_loadName_local hk hat hns rfl (Calls.spliced_nil (call_int_int ?_)))))))))
    -- n // 2
    refine wpAny_BinOp (wpAny_Name (wpAny_loadName_free (v := .int n tn) hk hfn hcl ?cc (wpAny_Constant_int (floordiv_int (a := n) (b := 2) (t := tn) (by decide) ?_))))
    case cc =>
      obtain ⟨o, e1, e2⟩ := hcell
      exact ⟨o, kp _ _ e1, e2⟩
    rw [Int.fdiv_eq_ediv_of_nonneg n (by decide)]
    refine mod_int' h2 ?_
    rw [Int.fmod_eq_emod_of_nonneg i (by omega)]
    exact ⟨_, rfl, h₁, _, rfl, kp, by constructor⟩
  refine wpAny_call (codeAny_mono rc fun r s' hq => ?_)
  obtain ⟨v, rfl, hq⟩ := hq
  exact hq
end

section
variable {X : Cx} {T : TB} {pins : List (Addr × Obj)} {σ : L2.St} {H : Hp} {s : Shared}
/-- a lambda was made: at most its table grew, by a code object of its name -/
def Lamd (q : Str) (P : Addr) (c' : Addr) (H H1 : Hp) : Prop := H1 c' = some (CodeO c' q) ∧ (H1 = H ∨
  ∃ ps ps', H P = some (.tbl ps) ∧ H c' = none ∧ H1 = upd (upd H P (.tbl ps')) c' (CodeO c' q) ∧ TriplesOk ps'.toList ∧ ∀ (pos : Pos) (cv : Value), codeAmong pos ps'.toList = some cv → ∃ c, cv = .ref c ∧ H1 c = some (CodeO c q))
theorem Lamd.keep {q : Str} {P c' : Addr} {H1 : Hp} (l : Lamd q P c' H H1) {a : Addr} {o : HO} (e : H a = some o) (n : ∀ ps, o ≠ .tbl ps) : H1 a = some o := by
  obtain ⟨hc, rfl | ⟨ps, ps', h1, h2, rfl, _⟩⟩ := l
  · exact e
  · rw [upd_ne (ne_of_none e h2), upd_ne fun z => n ps (by rw [z, h1] at e; exact (Option.some.inj e).symm)]
    exact e
theorem Rel.lamd {K : PySem.W.Frag} {G : Gh} {H1 : Hp} {z : Sx} {q : Str} {P c' : Addr} (R : Rel K T G σ H z) (hP : (P, q) ∈ T.l) (hq : ∀ y ∈ T.l, y.1 = P → y.2 = q) (hg : P ∉ T.g) (l : Lamd q P c' H H1) : Pers H H1 ∧ Rel K T G σ H1 z := by
  have p : Pers H H1 := fun a o e i => l.keep e fun rs z => by rw [z] at i; cases i
  refine ⟨p, ?_⟩
  have k0 := @Lamd.keep H q P c' H1 l
  obtain ⟨hc, rfl | ⟨ps, ps', h1, h2, e1, ht, ha⟩⟩ := l
  · exact R
  have far : ∀ Q rs, Q ≠ P → H Q = some (.tbl rs) → H1 Q = some (.tbl rs) := fun Q rs n e => by
    rw [e1, upd_ne (ne_of_none e h2), upd_ne n]; exact e
  have atP : H1 P = some (.tbl ps') := by rw [e1, upd_ne (ne_of_none h1 h2), upd_same]
  refine ⟨⟨k0 R.dk.d (by intro _ z; cases z), k0 R.dk.c (by intro _ z; cases z), fun Q hQ => ?_, fun y hy => ?_⟩, fun a o e n1 n2 => (R.grow a o e n1 n2).trans fun u hu => ?_, R.len, fun i s hs => ?_, R.sep⟩
  · obtain ⟨rs, a1, a2⟩ := R.dk.t.1 Q hQ
    exact ⟨rs, far Q rs (fun z => hg (z ▸ hQ)) a1, a2⟩
  · obtain ⟨rs, a1, a2, a3⟩ := R.dk.t.2 y hy
    by_cases n : y.1 = P
    · refine ⟨ps', by rw [n]; exact atP, ht, fun pos cv e => ?_⟩
      obtain ⟨c, b1, b2⟩ := ha pos cv e
      rw [hq y hy n]
      exact ⟨c, b1, b2⟩
    · refine ⟨rs, far _ rs n a1, a2, fun pos cv e => ?_⟩
      obtain ⟨c, b1, b2⟩ := a3 pos cv e
      exact ⟨c, b1, p _ _ b2 rfl⟩
  · by_cases n : a = P
    · rw [n] at hu ⊢
      rw [h1] at hu; cases hu
      exact .inr ⟨ps, ps', rfl, atP⟩
    · by_cases t : ∃ rs, u = .tbl rs
      · obtain ⟨rs, rfl⟩ := t
        exact .inl (far a rs n hu)
      · exact .inl (k0 hu fun rs z => t ⟨rs, z⟩)
  · have w := R.slot i s hs
    cases s with
    | no => trivial
    | val d => obtain ⟨u, g1, g2⟩ := w; exact ⟨u, g1, Pr.mono p d g2⟩
    | deck => exact w
    | own es => obtain ⟨a, xs, w1, w2, w3, w4⟩ := w; exact ⟨a, xs, w1, k0 w2 (by intro _ z; cases z), PrAll.mono p es w3, w4⟩
theorem lam_new {c P : Addr} {params : Arguments} {body : Expr} {scope : Scope} {pos : Pos} {E : Value → Shared → Prop} {Q : Value → Shared → Prop} (I : Inv X pins σ H s) (B : TabB X.base X.mg c P) (hcode : X.env.code = .ref c)
    (tb : TabS H P (X.env.qual ++ "<lambda>")) (hdef : defaultsOf params X.env = ([], [])) (hfree : ∀ y ∈ scope.names, y.2 = .free → ∃ c, X.env.cells.lookup y.1 = some c)
    (h : ∀ (f c' : Addr) (pm ctv : Value) (H1 : Hp) (s' : Shared), Inv X pins σ H1 s' → Lamd (X.env.qual ++ "<lambda>") P c' H H1 →
      s'.heap.get? f = some (PySem.W.kla_obj "<lambda>" (X.env.qual ++ "<lambda>") params body scope (cloFrom X.env.cells scope.names []) pm c' ctv) → Q (.ref f) s') :
    wpAny (model X.prog X.w) X.A (eval (.Lambda params body scope pos) X.env) Q E s := by
  obtain ⟨ps, hP, ht, ha⟩ := tb
  have bP := B.bm.keeps I.bk
  have oP : s.heap.get? P = some { cls := .none, data := .fields ps } := I.hok P _ hP
  apply PySem.W.kla_eval hdef
  rcases hc : codeAmong pos ps.toList with _ | cv
  · refine PySem.W.kla_makeFunction (mg := X.mg) (c := c) (P := P) (ps := ps) (closure_ok hfree) I.ok.glob (I.mod.glob.keeps I.bk) hcode
      (B.code.keeps I.bk) oP ht hc B.gP bP ?_
    intro c' ctv h' tk kp ge lt rec tab
    obtain ⟨c2, oc, vs, t, ec, hoc, hd, hv⟩ := rec
    cases ec
    have hn : H c' = none := I.hok.fresh ge
    refine h _ c' _ ctv _ _ (inv_table (t' := tk) (more := #[rawInt pos.line, rawInt pos.col, .ref c']) I hP
      (fun b o hb e => Heap.get?_push_of_some _ (kp b o hb e)) (Heap.get?_push_of_some _ tab) ge ⟨oc, vs, t, Heap.get?_push_of_some _ hoc, hd, hv⟩) ⟨upd_same, .inr ⟨ps, _, hP, hn, rfl, ?_, ?_⟩⟩ (Heap.get?_push_size _ rfl)
    · have e : (ps ++ #[rawInt pos.line, rawInt pos.col, .ref c']).toList = ps.toList ++ [rawInt pos.line, rawInt pos.col, .ref c'] := by simp
      rw [e]
      exact PySem.TriplesOk_snoc _ _ _ _ ht
    · intro p' cv e
      have e' : codeAmong p' (ps.toList ++ [rawInt pos.line, rawInt pos.col, .ref c']) = some cv := by simpa using e
      rcases among_app _ ht e' with z | z
      · obtain ⟨c0, e1, e2⟩ := ha p' cv z
        refine ⟨c0, e1, ?_⟩
        rw [upd_ne (ne_of_none e2 hn), upd_ne fun z => by rw [z, hP] at e2; exact codeO_ne ps (Option.some.inj e2).symm]
        exact e2
      · exact ⟨c', z, upd_same⟩
  · obtain ⟨c', rfl, hco⟩ := ha pos cv hc
    refine PySem.W.kla_makeFunctionHit (mg := X.mg) (c := c) (P := P) (ps := ps) (closure_ok hfree) I.ok.glob (I.mod.glob.keeps I.bk) hcode
      (B.code.keeps I.bk) oP ht hc bP ?_
    intro ctv h' tk kp ge
    exact h _ c' _ ctv H _ (I.kept fun b o e => Heap.get?_push_of_some _ (kp b o e)) ⟨hco, .inl rfl⟩ (Heap.get?_push_size _ rfl)

def kfun (n i : Int) : PyData := .int (i % (n / 2))
def intsD : List PyData → Option (List Int)
  | [] => some []
  | .int i :: ds => (intsD ds).map (i :: ·)
  | _ => none
theorem intsD_eq : ∀ {ds : List PyData} {ns : List Int}, intsD ds = some ns → ds = ns.map .int
  | [], _, h => by cases h; rfl
  | d :: ds, ns, h => by
    cases d with
    | int i =>
      simp only [intsD, Option.map_eq_some_iff] at h
      obtain ⟨ms, h1, rfl⟩ := h
      rw [intsD_eq h1]; rfl
    | _ => simp [intsD] at h
def keySort (n : Int) (ns : List Int) : List Int := ns.mergeSort (PySem.W.dataLe false (kfun n))
/-- sorted(xs, key=lambda at: int(at) % (n // 2)), n at i -/
def dKeySort (i : Nat) (f : M Hd) : M Hd := bnd f fun h => fun x => match deref h x with
  | some (.list ds) => match x.1[i]?, intsD ds with
    | some (.val (.int n)), some ns => if 2 ≤ n ∧ n < 1073741824 ∧ ns.length ≤ 16777216 then some (.val (.list ((keySort n ns).map .int)), x) else none
    | _, _ => none
  | _ => none
theorem each_ints : ∀ {us : List Value} {ns : List Int}, Vals (ns.map V.int) us → PySem.W.EachIs (fun v (x : Int) => ∃ t, v = Value.int x t) us ns
  | _, [], h => by cases h; exact .nil
  | _, n :: ns, h => by
    rw [List.map_cons] at h
    cases h with
    | cons a t => exact .cons a (each_ints t)
theorem ints_each : ∀ {us : List Value} {ns : List Int}, PySem.W.EachIs (fun v (x : Int) => ∃ t, v = Value.int x t) us ns → Vals (ns.map V.int) us
  | _, _, .nil => .nil
  | _, _, .cons a t => .cons a (ints_each t)
theorem de_keySort {c P : Addr} {k i : Nat} {p p1 p2 p3 p4 p5 p6 p7 pos lpos kpos : Pos} {kk : Nat} {params : Arguments} {scope : Scope} {le : Expr} {f : M Hd} (hr : RoomG (k + 1) X.A) (hg : Gl X "sorted") (hm : X.mg "sorted" = none) (him : X.mg "int" = none)
    (B : TabB X.base X.mg c P) (hcode : X.env.code = .ref c) (hP : (P, X.env.qual ++ "<lambda>") ∈ T.l) (hq : ∀ y ∈ T.l, y.1 = P → y.2 = X.env.qual ++ "<lambda>") (hgt : P ∉ T.g)
    (hN : X.N[i]? = some ("n" : Str)) (hv : X.env.scope.names.lookup ("n" : Str) = some .cell) (hdef : defaultsOf params X.env = ([], [])) (hfree : ∀ y ∈ scope.names, y.2 = .free → y.1 = ("n" : Str))
    (hco : scope.isCoroutine = false) (hgen : scope.isGenerator = false) (hk : scope.kind = .function) (hnc : ∀ x ∈ scope.names, x.2 ≠ .cell) (hat : scope.names.lookup ("at" : Str) = some .local) (hint : scope.names.lookup ("int" : Str) = some .globalImplicit) (hfn : scope.names.lookup ("n" : Str) = some .free)
    (hbind : ∀ qual cl pm cd ctv i ti, bindArgs (PySem.W.kla_fn "<lambda>" qual params (keyE p1 p2 p3 p4 p5 p6 p7 kk) scope cl pm cd ctv) ⟨[.int i ti], []⟩ = pure [(("at" : Str), .int i ti)]) (hl : DE T X le f)
    (h0 : starEach [le] X.env = (false, eval le X.env) :: starEach [] X.env := by rfl) (h1 : backTo pos (starEach [le] X.env) = (false, eval le X.env) :: backTo pos (starEach [] X.env) := by rfl) (h2 : (backTo pos (starEach [le] X.env)).any (·.1) = false := by rfl)
    (h3 : (backToKw pos (keywordEach [⟨some "key", .Lambda params (keyE p1 p2 p3 p4 p5 p6 p7 kk) scope lpos, kpos⟩] X.env)).all (·.1.isSome) = true := by rfl)
    (h4 : (backToKw pos (keywordEach [⟨some "key", .Lambda params (keyE p1 p2 p3 p4 p5 p6 p7 kk) scope lpos, kpos⟩] X.env)).any (·.1.isNone) = false := by rfl)
    (h5 : (backToKw pos (keywordEach [⟨some "key", .Lambda params (keyE p1 p2 p3 p4 p5 p6 p7 kk) scope lpos, kpos⟩] X.env)).filterMap (·.1) = [("key" : Str)] := by rfl)
    (h6 : (backToKw pos (keywordEach [⟨some "key", .Lambda params (keyE p1 p2 p3 p4 p5 p6 p7 kk) scope lpos, kpos⟩] X.env)).map (·.2) = [do let v ← eval (.Lambda params (keyE p1 p2 p3 p4 p5 p6 p7 kk) scope lpos) X.env; standAt pos; pure v] := by rfl) :
    DE T X (.Call (.Name "sorted" p) [le] [⟨some "key", .Lambda params (keyE p1 p2 p3 p4 p5 p6 p7 kk) scope lpos, kpos⟩] pos) (dKeySort i f) := by
  refine ⟨fun pins s σ H Q I q => ?_⟩
  obtain ⟨G, x, hd, x', R, ef, q⟩ := q
  obtain ⟨h, y, e1, ef⟩ := bnd_some ef
  have el : aCons f aNil x = some ([h], y) := by
    unfold aCons bnd aNil ret
    rw [e1]
  split at ef
  · rename_i ds hds
    split at ef
    · rename_i n ns hn hns
      split at ef
      · rename_i hb
        cases ef
        obtain rfl := intsD_eq hns
        refine wpAny_Call_Name_kw (ld_blt I hg hm rfl ?_)
        refine PyProof.Rows.callWith_kw (thn ((da_cons hl da_nil h0).run pos pins s σ H (fun vs H1 => ∃ v, vs = [v] ∧ Pers H H1 ∧ Rel X.K T G σ H1 x' ∧ Bo X.K H1 v (.list (ns.map .int))) I ⟨G, x, _, _, R, el, fun vs H1 p1 R1 r1 => ?_⟩) fun us s1 ⟨vs, H1, I1, r1, v, ev, p1, R1, b1⟩ => ?_) h1 h2 h3 h4
        · cases r1 with
          | cons r t =>
            cases t
            exact ⟨_, rfl, p1, R1, RH.deref R1 r hds⟩
        subst ev
        obtain ⟨u, rfl, ru⟩ := vals1 r1
        rw [h6]
        refine wpAny_evalAll_cons (wpAny_bind (lam_new I1 B hcode (R1.dk.t.2 _ hP) hdef (fun z hz e => by rw [hfree z hz e]; exact I1.ok.has _ (.inl hv)) fun fa c' pm ctv H2 s2 I2 l2 hfo => wpAny_bind (wpAny_standAt (wpAny_pure (wpAny_evalAll_nil ?_)))))
        rw [h5]
        obtain ⟨p2, R2⟩ := Rel.lamd R1 hP hq hgt l2
        obtain ⟨a, xs, rfl, ha, hxs⟩ := b1.list
        obtain rfl := hxs.ints
        have ha2 : Rd H2 a (.lst (ns.map V.int)) := by
          rcases ha with z | ⟨o, z⟩
          · exact .inl (l2.keep z (by intro _ z; cases z))
          · exact .inr ⟨o, l2.keep z (by intro _ z; cases z)⟩
        cases ru
        obtain ⟨its, rv, pl, hz⟩ := I2.list (.inl ha2)
        obtain ⟨⟨oc, cvs, tc, c1, c2, c3⟩, _, _⟩ := I2.hok c' _ l2.1
        obtain ⟨m, hns2, hl2⟩ := I2.loc
        obtain ⟨u, hu1, hu2⟩ := R2.slot i _ hn
        cases hu2
        obtain ⟨cv, ⟨tn, rfl⟩, lk⟩ := hl2 i _ _ hN hu1 (.inr (.inl hv))
        have lk2 : ∃ cn, X.env.cells.lookup ("n" : Str) = some cn ∧ s2.heap.IsCell cn (some (.int n tn)) := by
          rcases lk with ⟨z, _⟩ | ⟨_, z⟩
          · rw [show X.env.kindOf ("n" : Str) = some .cell from hv] at z; cases z
          · exact z
        obtain ⟨cn, hcn, hcell⟩ := lk2
        have hcl : (cloFrom X.env.cells scope.names []).lookup ("n" : Str) = some cn := by
          obtain ⟨c2, e2⟩ := mem_lookup (cloFrom_has (cells := X.env.cells) (acc := []) (PySem.mem_of_lookup hfn))
          rw [e2]
          rcases cloFrom_mem (PySem.mem_of_lookup e2) with hm | ⟨_, h2⟩
          · cases hm
          · rw [h2, hcn]; rfl
        obtain ⟨mb, b1, b2⟩ := I2.mod.blt
        refine PySem.W.sorted_key_data (β := Int) (R := fun v (x : Int) => ∃ t, v = Value.int x t) (b := false) (kfun n) (bs := ns) pl.isList (each_ints rv) (PySem.W.AllAlike.of fun _ _ => rfl) (PySem.W.Sortable.others fun _ => ⟨(by intro z; cases z), (by intro _ z; cases z)⟩) (by rw [← List.length_map (f := V.int)]; exact hz)
          (fun x hx => ?_) (PyProof.Rows.ksk_s1 _ _) (fun _ => PyProof.Rows.ksk_l1 _ _) (fun _ => PyProof.Rows.ksk_t1 _ _) ?_ ?_
        · have := units65 hr
          simp only [kfun, PyData.depth]
          omega
        · rintro v x ⟨t, rfl⟩ hx h tk kp
          refine key_call (tn := tn) (n := n) (cn := cn) (s := { s2 with heap := h, toks := tk }) (A := X.A.in1.in1) ?_ (I2.nolimit.keeps kp) (kp _ _ hfo) ⟨c', oc, cvs, tc, rfl, kp _ _ c1, c2, c3⟩ hco hgen hk hnc hat hint hfn (hbind _ _ _ _ _ _ _) hcl ?_
            (mg := X.mg) (I2.mod.glob.keeps fun b o e => kp _ _ (I2.bk b o e)) him (mb := mb) (b1.keeps fun b o e => kp _ _ (I2.bk b o e)) ((b2 _ (by decide)).trans rfl) hb.1 hb.2.1
          · exact hr.rm.depth
          · obtain ⟨o, e1, e2⟩ := hcell
            exact ⟨o, kp _ _ e1, e2⟩
        · intro out c3 h4 tk kp fr he hln hE
          have n0 : H2 (s2.heap.objs.size + 1) = none := I2.hok.fresh (Nat.le_succ _)
          have vo := ints_each hE
          have hz2 : ((keySort n ns).map V.int).length ≤ sizeLine := by
            rw [List.length_map, show (keySort n ns).length = ns.length from (List.mergeSort_perm _ _).length_eq, sizeLine_eq]
            exact hb.2.2
          have I3 : Inv X pins σ (upd H2 (s2.heap.objs.size + 1) (.lst ((keySort n ns).map V.int))) { s2 with heap := h4, toks := tk } := I2.laid (t' := tk) kp (Nat.le_succ _) ⟨hz2, out, c3, vo, he⟩
          obtain ⟨o, I4⟩ := Inv.frozen I3 upd_same
          refine ⟨.ref _, _, I4, rfl, ?_⟩
          have p4 : Pers H2 (upd (upd H2 (s2.heap.objs.size + 1) (.lst ((keySort n ns).map V.int))) (s2.heap.objs.size + 1) (.frz o (.lst ((keySort n ns).map V.int)))) := (Ext.new n0).pers.trans (Pers.lst upd_same)
          exact q _ _ ((p1.trans p2).trans p4) (R2.grown (.inr ⟨_, _, _, o, Ext.new n0, n0, upd_same, rfl⟩)) (.lst ⟨o, upd_same⟩ (PrAll.ofInts _))
      · cases ef
    · cases ef
  · cases ef
end
end DD
namespace DD
open PySem PySem.Spec PyProof.Rows L2 LamX
/-- the name of a lambda's code object in the def x -/
abbrev lamQ (x : Str) : Str := (x ++ ".<locals>.") ++ "<lambda>"
def lamB (K : PySem.W.Frag) (gt lt : List He.Defn) : Bool := (gt.all fun p => lt.all fun q => decide ((He.cT K q).2 ≠ (He.cT K p).2)) && lt.all fun p => lt.all fun q => decide (p.1 = q.1) || decide ((He.cT K q).2 ≠ (He.cT K p).2)
theorem lamTab {base : Heap} {mg : Str → Option Value} {c P : Addr} (h : GxR.TabB base mg c P) : LamX.TabB base mg c P := ⟨h.code, h.bm, h.gP⟩
theorem lam_apart {K : PySem.W.Frag} {gt lt : List He.Defn} (h : lamB K gt lt = true) : (∀ p ∈ gt, ∀ y ∈ lt.map (fun p => ((He.cT K p).2, lamQ p.1)), y.1 ≠ (He.cT K p).2) ∧ (∀ q ∈ lt, (He.cT K q).2 ∉ (gt.map (He.cT K)).map (·.2)) ∧
    ∀ q ∈ lt, ∀ y ∈ lt.map (fun p => ((He.cT K p).2, lamQ p.1)), y.1 = (He.cT K q).2 → y.2 = lamQ q.1 := by
  unfold lamB at h
  simp only [Bool.and_eq_true, Bool.or_eq_true, List.all_eq_true, decide_eq_true_eq] at h
  obtain ⟨h1, h2⟩ := h
  refine ⟨fun p hp y hy => ?_, fun q hq z => ?_, fun q hq y hy e => ?_⟩
  · obtain ⟨q, hq, rfl⟩ := List.mem_map.mp hy
    exact h1 p hp q hq
  · obtain ⟨w, hw, e⟩ := List.mem_map.mp z
    obtain ⟨p, hp, rfl⟩ := List.mem_map.mp hw
    exact h1 p hp q hq e.symm
  · obtain ⟨p, hp, rfl⟩ := List.mem_map.mp hy
    rcases h2 q hq p hp with z | z
    · rw [z]
    · exact absurd e z
end DD
/-! # max(xs), min(xs) of whole numbers -/
namespace DD
open PySem PySem.Spec PyProof.Rows L2
theorem reads_ints {h : Heap} : ∀ {us : List Value} {ns : List Int}, Vals (ns.map V.int) us → ReadsAll h us (ns.map PyData.int) []
  | _, [], z => by cases z; exact .nil
  | _, n :: ns, z => by
    rw [List.map_cons] at z
    cases z with
    | cons a t =>
      obtain ⟨tk, rfl⟩ := a
      exact ReadsAll.cons (as := []) (by constructor) (reads_ints t)
theorem depth_ints : ∀ ns : List Int, PyData.depthAll (ns.map PyData.int) ≤ 1
  | [] => by simp [PyData.depthAll]
  | n :: ns => by
    have := depth_ints ns
    simp only [List.map_cons, PyData.depthAll, PyData.depth]
    omega
theorem alike_ints (ns : List Int) : PySem.W.AlikeAll (ns.map PyData.int) := by
  refine ⟨fun x hx y hy => ?_, fun x hx z => ?_⟩
  · obtain ⟨i, _, rfl⟩ := List.mem_map.mp hx
    obtain ⟨j, _, rfl⟩ := List.mem_map.mp hy
    rfl
  · obtain ⟨i, _, rfl⟩ := List.mem_map.mp hx
    cases z
def foldI (g : Int → Int → Int) (ds : List PyData) : Option PyData := match intsD ds with
  | some (n :: ns) => some (.int (ns.foldl g n))
  | _ => none
def max1D : FB
  | [.list ds] => foldI max ds
  | [.tuple ds] => foldI max ds
  | _ => none
def min1D : FB
  | [.list ds] => foldI min ds
  | [.tuple ds] => foldI min ds
  | _ => none
theorem foldI_some {g : Int → Int → Int} {ds : List PyData} {d : PyData} (h : foldI g ds = some d) : ∃ n ns, ds = (n :: ns).map PyData.int ∧ d = .int (ns.foldl g n) := by
  unfold foldI at h
  split at h
  · rename_i n ns e
    cases h
    exact ⟨n, ns, intsD_eq e, rfl⟩
  · cases h
section
variable {X : Cx}
theorem reads_int {h : Heap} {v : Value} {i : Int} {as : List Addr} (r : Reads h v (.int i) as) : ∃ t, v = .int i t := by
  cases r
  exact ⟨_, rfl⟩
theorem ca_max1 (hc : X.calm = true) {k : Nat} (hr : RoomG k X.A) : CallD X (.builtin "max") max1D := by
  intro pins s σ H xs us Q I rx q
  obtain ⟨ds, c, t, e, q⟩ := q
  have hu := units65 hr
  unfold max1D at e
  split at e
  · obtain ⟨n, ns, rfl, rfl⟩ := foldI_some e
    cases t with
    | cons b t =>
      cases t
      obtain ⟨a, zs, rfl, s1, t1⟩ := b.list
      obtain rfl := t1.ints
      rw [Vals.ref1 rx]
      obtain ⟨its, rv, hl, _⟩ := I.list (.inl s1)
      refine PySem.W.max_list_data (I.ok.hd hc) hl.isList (x := .int n) (xs := ns.map .int) (by simpa using reads_ints rv) (alike_ints (n :: ns)) (by have := depth_ints (n :: ns); rw [List.map_cons] at this; omega) fun i v h' tk bs _ r hk => ?_
      rw [PySem.W.maxD_ints] at r
      obtain ⟨t, rfl⟩ := reads_int r
      exact ⟨.int _, H, I.kept hk, ⟨_, rfl⟩, q.now (.int _)⟩
  · obtain ⟨n, ns, rfl, rfl⟩ := foldI_some e
    cases t with
    | cons b t =>
      cases t
      obtain ⟨a, zs, rfl, s1, t1⟩ := b.tuple
      obtain rfl := t1.ints
      rw [Vals.ref1 rx]
      obtain ⟨its, rv, hl, _⟩ := I.tuple s1
      refine PySem.W.max_tuple_data (I.ok.hd hc) hl (x := .int n) (xs := ns.map .int) (by simpa using reads_ints rv) (alike_ints (n :: ns)) (by have := depth_ints (n :: ns); rw [List.map_cons] at this; omega) fun i v h' tk bs _ r hk => ?_
      rw [PySem.W.maxD_ints] at r
      obtain ⟨t, rfl⟩ := reads_int r
      exact ⟨.int _, H, I.kept hk, ⟨_, rfl⟩, q.now (.int _)⟩
  · cases e
theorem ca_min1 (hc : X.calm = true) {k : Nat} (hr : RoomG k X.A) : CallD X (.builtin "min") min1D := by
  intro pins s σ H xs us Q I rx q
  obtain ⟨ds, c, t, e, q⟩ := q
  have hu := units65 hr
  unfold min1D at e
  split at e
  · obtain ⟨n, ns, rfl, rfl⟩ := foldI_some e
    cases t with
    | cons b t =>
      cases t
      obtain ⟨a, zs, rfl, s1, t1⟩ := b.list
      obtain rfl := t1.ints
      rw [Vals.ref1 rx]
      obtain ⟨its, rv, hl, _⟩ := I.list (.inl s1)
      refine PySem.W.min_list_data (I.ok.hd hc) hl.isList (x := .int n) (xs := ns.map .int) (by simpa using reads_ints rv) (alike_ints (n :: ns)) (by have := depth_ints (n :: ns); rw [List.map_cons] at this; omega) fun i v h' tk bs _ r hk => ?_
      rw [PySem.W.minD_ints] at r
      obtain ⟨t, rfl⟩ := reads_int r
      exact ⟨.int _, H, I.kept hk, ⟨_, rfl⟩, q.now (.int _)⟩
  · obtain ⟨n, ns, rfl, rfl⟩ := foldI_some e
    cases t with
    | cons b t =>
      cases t
      obtain ⟨a, zs, rfl, s1, t1⟩ := b.tuple
      obtain rfl := t1.ints
      rw [Vals.ref1 rx]
      obtain ⟨its, rv, hl, _⟩ := I.tuple s1
      refine PySem.W.min_tuple_data (I.ok.hd hc) hl (x := .int n) (xs := ns.map .int) (by simpa using reads_ints rv) (alike_ints (n :: ns)) (by have := depth_ints (n :: ns); rw [List.map_cons] at this; omega) fun i v h' tk bs _ r hk => ?_
      rw [PySem.W.minD_ints] at r
      obtain ⟨t, rfl⟩ := reads_int r
      exact ⟨.int _, H, I.kept hk, ⟨_, rfl⟩, q.now (.int _)⟩
  · cases e
end
end DD
/-! # d.get(k, x), k an int or a text -/
namespace DD
open PySem PySem.Spec PyProof.Rows L2
section
variable {X : Cx} {T : TB}
def tkB : List (PyData × PyData) → Bool
  | (.tuple _, _) :: _ => true
  | _ => false
def dGet2 (f g t : M Hd) : M Hd := bnd f fun a => bnd g fun b => bnd t fun c => fun x => match deref a x, deref b x, esc c with
  | some (.dict des), some e, some z => match keyOf e with
    | some k => match (des.find? fun p => decide (keyOf p.1 = some k)) with
      | some p => some (.val p.2, x)
      | none => if tkB des = true then none else some (.val z, x)
    | none => none
  | _, _, _ => none
theorem PrKv.find0 {K : PySem.W.Frag} {H : Hp} {k : L2.Key} : ∀ {kvs : List (L2.Key × V)} {des : List (PyData × PyData)}, PrKv K H kvs des → (des.find? fun p => decide (keyOf p.1 = some k)) = none → valV kvs k = none
  | _, _, .nil, _ => rfl
  | _, _, @PrKv.cons _ _ k2 v kvs d2 des h t, e => by
    by_cases z : k2 = k
    · subst z
      rw [List.find?_cons_of_pos (by rw [keyOf_of]; exact decide_eq_true rfl)] at e
      cases e
    · rw [List.find?_cons_of_neg (by rw [keyOf_of, decide_eq_true_eq]; intro w; exact z (Option.some.inj w))] at e
      exact (valV_neg z).trans (PrKv.find0 t e)
theorem de_get2 {o e f : Expr} {apos cpos : Pos} {u g t : M Hd} {k : Nat} (hr : RoomG k X.A) (ho : DE T X o u) (he : DE T X e g) (hf : DE T X f t) (m : M2 X o "get" apos e f cpos) : DE T X (.Call (.Attribute o "get" apos) [e, f] [] cpos) (dGet2 u g t) := by
  refine PEw (pe_dget2 (by have := units65 hr; omega) ho he hf m) fun σ H Q q => ?_
  obtain ⟨G, x, hd, x', R, ef, q⟩ := q
  obtain ⟨h1, y1, e1, ef1⟩ := bnd_some (show bnd u _ x = some (hd, x') from ef)
  obtain ⟨h2, y2, e2, ef2⟩ := bnd_some ef1
  obtain ⟨h3, y3, e3, ef3⟩ := bnd_some ef2
  split at ef3
  · rename_i des d z hd1 hd2 hd3
    split at ef3
    · rename_i k hk
      refine ⟨G, x, h1, y1, R, e1, fun v H1 p1 R1 r1 => ?_⟩
      have isd : ∃ a, v = .ref a ∧ IsD H1 a := by
        cases h1 with
        | val c =>
          have hc : some c = some (PyData.dict des) := hd1
          cases hc
          cases (show Pr X.K H1 v (.dict des) from r1) with
          | dic qd td => obtain ⟨ob, qd⟩ := qd; exact ⟨_, rfl, .inl ⟨_, .inr ⟨ob, qd⟩⟩⟩
          | dit qt nt et =>
            exfalso
            obtain ⟨x0, xr, rfl⟩ := List.exists_cons_of_ne_nil nt
            subst et
            have hf : (((x0 :: xr).map tkD).find? fun p => decide (keyOf p.1 = some k)) = none := by
              rw [List.find?_eq_none]
              intro p hp
              obtain ⟨y, _, rfl⟩ := List.mem_map.mp hp
              exact fun z => by cases of_decide_eq_true z
            rw [hf] at ef3
            cases ef3
        | own i =>
          have hc : (match y3.1[i]? with | some (.own ds) => some (PyData.list ds) | _ => none) = some (PyData.dict des) := hd1
          split at hc <;> cases hc
        | deck => cases hd1
      obtain ⟨a, rfl, isd⟩ := isd
      refine ⟨a, rfl, isd, G, y1, h2, y2, R1, e2, fun v2 H2 p2 R2 r2 => ⟨G, y2, h3, y3, R2, e3, fun v3 H3 p3 R3 r3 => ?_⟩⟩
      have b1 := RH.deref R3 ((r1.mono p2).mono p3) hd1
      have b2 := RH.deref R3 (r2.mono p3) hd2
      have b3 := r3.esc hd3
      obtain ⟨a', kvs, ea, ⟨ob, r⟩, t⟩ | ⟨_, xt, _, _, nt, edes⟩ := b1.dict
      case inr =>
        exfalso
        obtain ⟨x0, xr, rfl⟩ := List.exists_cons_of_ne_nil nt
        subst edes
        have hf : (((x0 :: xr).map tkD).find? fun p => decide (keyOf p.1 = some k)) = none := by
          rw [List.find?_eq_none]
          intro p hp
          obtain ⟨y, _, rfl⟩ := List.mem_map.mp hp
          exact fun z => by cases of_decide_eq_true z
        rw [hf] at ef3
        cases ef3
      cases ea
      have ek := keyOf_kD hk
      subst ek
      have eu : v2 = kV k := by
        cases k with
        | inl i => exact b2.int
        | inr i => exact b2.str
      split at ef3
      · rename_i p hp
        cases ef3
        obtain ⟨w, g1, g2⟩ := t.find (d := p.2) (by rw [hp]; rfl)
        exact ⟨some w, .inl ⟨kvs, k, .inr ⟨ob, r⟩, eu, g1.symm⟩, q w H3 ((p1.trans p2).trans p3) R3 g2⟩
      · rename_i hp
        split at ef3
        · cases ef3
        cases ef3
        exact ⟨none, .inl ⟨kvs, k, .inr ⟨ob, r⟩, eu, (t.find0 hp).symm⟩, q v3 H3 ((p1.trans p2).trans p3) R3 b3⟩
    · cases ef3
  · cases ef3
end
end DD
/-! # x.pop(), a slice as a new list -/
namespace DD
open PySem PySem.Spec PyProof.Rows L2
section
variable {X : Cx} {T : TB}
def dPop0 (i : Nat) : M Hd := fun x => match x.1[i]? with
  | some (.own ds) => match ds[ds.length - 1]? with
    | some d => some (.val d, putS i (.own ds.dropLast) x)
    | none => none
  | _ => none
theorem PrAll.dropLast {K : PySem.W.Frag} {H : Hp} {vs : List V} {ds : List PyData} (h : PrAll K H vs ds) : PrAll K H vs.dropLast ds.dropLast := by
  rw [List.dropLast_eq_take, List.dropLast_eq_take, h.length]
  exact h.take _
theorem de_pop0 {o : Expr} {apos pos : Pos} {i : Nat} (h : PE X (.Call (.Attribute o "pop" apos) [] [] pos) (tBM0 X.K "list" rPop (tVar i))) : DE T X (.Call (.Attribute o "pop" apos) [] [] pos) (dPop0 i) := by
  refine PEw h fun σ H Q q => ?_
  obtain ⟨G, x, fl, x', R, ee, q⟩ := q
  unfold dPop0 at ee
  split at ee
  · rename_i ds hs
    split at ee
    · rename_i d hd
      cases ee
      obtain ⟨a, xs, h1, h2, h3, h4, h5⟩ := R.slot i _ hs
      obtain ⟨u, hu, pu⟩ := h3.get hd
      refine ⟨.ref a, h1, .inl ⟨rfl, _, SqL.of h2⟩, a, xs, u, rfl, rfl, h2, by rw [h3.length]; exact hu, ?_⟩
      have p2 : Pers H (upd H a (.lst xs.dropLast)) := Pers.lst h2
      exact q u _ p2 (R.mutOwn hs h1 h2 h4 h5 h3.dropLast) (Pr.mono p2 d pu)
    · cases ee
  · cases ee
/-- xs[lo:hi] of a list: a new one -/
def dSlF (f : M Hd) (l h : M (Option Int)) : M (List PyData) := bnd f fun a => bnd l fun lo => bnd h fun hi => fun x => match deref a x with
  | some (.list ds) => some (cutD ds lo hi, x)
  | _ => none
theorem df_sl {a : Expr} {lo hi : Option Expr} {f : M Hd} {l h : M (Option Int)} {p2 pos : Pos} (ha : DE T X a f) (hl : DO T X lo l) (hh : DO T X hi h) : DF T X (.Subscript a (.Slice lo hi none p2) pos) (dSlF f l h) := by
  refine PEw (pe_slice sl_list ha hl hh) fun σ H Q q => ?_
  obtain ⟨G, x, c, x', R, ee, q⟩ := q
  obtain ⟨h1, y, e1, ee1⟩ := bnd_some ee
  obtain ⟨lo', y2, e2, ee2⟩ := bnd_some ee1
  obtain ⟨hi', y3, e3, ee3⟩ := bnd_some ee2
  split at ee3
  · rename_i ds hd
    cases ee3
    refine ⟨G, x, h1, y, R, e1, fun v H1 p1 R1 r1 => ⟨G, y, lo', y2, R1, e2, fun H2 p2 R2 => ⟨G, y2, hi', _, R2, e3, fun H3 p3 R3 => ?_⟩⟩⟩
    obtain ⟨a, us, rfl, s1, t1⟩ := (RH.deref R3 (r1.mono (p2.trans p3)) hd).list
    refine ⟨a, us, rfl, .inl s1, fun p n => ?_⟩
    obtain ⟨R4, f1, f2, f3⟩ := R3.fresh (xs := cutV us lo' hi') n
    exact q p _ _ (((p1.trans p2).trans p3).trans (Ext.new n).pers) R4 upd_same (PrAll.mono (Ext.new n).pers _ (t1.cut lo' hi')) f1 f2 f3
  · cases ee3
end
end DD
/-! # x.upper() -/
namespace DD
open PySem PySem.Spec PyProof.Rows L2
section
variable {X : Cx} {T : TB}
def dUpper (f : M Hd) : M Hd := bnd f fun h => match h with
  | .val (.str z) => if z.length ≤ 5592405 then ret (.val (.str (Txt.upper z))) else fail
  | _ => fail
theorem de_upper {o : Expr} {apos pos : Pos} {f : M Hd} (ho : DE T X o f) (h : ∀ {t : TE}, PE X o t → PE X (.Call (.Attribute o "upper" apos) [] [] pos) (tBM0 X.K "str" (fun x xs H Q => ∃ a, x = .str a ∧ xs = [] ∧ a.length ≤ 5592405 ∧ Q (.str (Txt.upper a)) H) t)) : DE T X (.Call (.Attribute o "upper" apos) [] [] pos) (dUpper f) := by
  refine PEw (h ho) fun σ H Q q => ?_
  obtain ⟨G, x, fl, x', R, ee, q⟩ := q
  obtain ⟨h1, y, e1, e2⟩ := bnd_some ee
  split at e2
  · rename_i z
    split at e2
    · rename_i hz
      cases e2
      refine ⟨G, x, _, _, R, e1, fun v H1 p1 R1 r1 => ?_⟩
      have r1 : Pr X.K H1 v (.str z) := r1
      cases r1
      exact ⟨by first | trivial | exact .inr rfl | simp [tyV], z, rfl, rfl, hz, q _ H1 p1 R1 (.str _)⟩
    · cases e2
  · cases e2
end
end DD
/-! # dict([(row, bool), ..]), rows being tuples of ints; row in it -/
namespace DD
open PySem PySem.Spec PyProof.Rows L2
section
variable {X : Cx} {T : TB}
def pairT : PyData → Option (List Int × Bool)
  | .tuple [k, .bool b] => (rowOf k).map fun r => (r, b)
  | _ => none
def dictTD : FB
  | [.list ds] => match ds.mapM pairT with
    | some ps => if ps ≠ [] ∧ (ps.map (·.1)).Nodup then some (.dict (ps.map fun p => (rowD p.1, .bool p.2))) else none
    | none => none
  | _ => none
theorem pr_row {K : PySem.W.Frag} {H : Hp} : ∀ {r : List Int} {zs : List V}, PrAll K H zs (r.map .int) → zs = r.map V.int
  | [], zs, t => by
    rw [List.map_nil] at t
    cases t; rfl
  | i :: r, zs, t => by
    rw [List.map_cons] at t
    cases t with
    | cons h t => cases h; rw [pr_row t]; rfl
theorem pairT_some {d : PyData} {p : List Int × Bool} (h : pairT d = some p) : d = .tuple [rowD p.1, .bool p.2] := by
  unfold pairT at h
  split at h
  · rename_i k b
    obtain ⟨r, h1, h2⟩ := Option.map_eq_some_iff.mp h
    cases h2
    rw [rowOf_some h1]
  · cases h
theorem pairs_back {pins : List (Addr × Obj)} {σ : L2.St} {H : Hp} {s : Shared} (I : Inv X pins σ H s) : ∀ {ds : List PyData} {vs : List V} {ps : List (List Int × Bool)}, PrAll X.K H vs ds → ds.mapM pairT = some ps →
    ∃ es : List (Addr × List Int × Addr × Bool), vs = es.map (fun e => V.ref e.1) ∧ ps = es.map (fun e => (e.2.1, e.2.2.2)) ∧ ∀ e ∈ es, IsTup s.heap e.1 #[.ref e.2.2.1, .bool e.2.2.2] ∧ SqT X.K H e.2.2.1 (e.2.1.map V.int)
  | [], vs, ps, t, h => by
    rw [List.mapM_nil] at h
    cases h; cases t
    exact ⟨[], rfl, rfl, fun _ h => nomatch h⟩
  | d :: ds, vs, ps, t, h => by
    rw [List.mapM_cons] at h
    obtain ⟨p, h1, h⟩ := Option.bind_eq_some_iff.mp h
    obtain ⟨r, h2, h⟩ := Option.bind_eq_some_iff.mp h
    cases h
    cases t with
    | cons hp t =>
      obtain ⟨es, e1, e2, e3⟩ := pairs_back I t h2
      obtain ⟨r0, b0⟩ := p
      have ed := pairT_some h1
      subst ed
      cases hp with
      | @tup a ws _ q u =>
        cases u with
        | cons k1 u =>
          cases u with
          | cons k2 u =>
            cases u
            cases k2
            cases k1 with
            | @tup c zs _ qc uc =>
              obtain ⟨its, rv, ht, _⟩ := I.tuple q
              obtain ⟨u1, u2, rfl, r1, r2⟩ := vals2 rv
              cases (show u1 = Value.ref c from r1)
              cases (show u2 = Value.bool b0 from r2)
              have ez := pr_row uc
              subst ez
              subst e1 e2
              refine ⟨(a, r0, c, b0) :: es, rfl, rfl, fun e he => ?_⟩
              rcases List.mem_cons.mp he with rfl | he
              · exact ⟨ht, qc⟩
              · exact e3 e he
theorem key_sq {pins : List (Addr × Obj)} {σ : L2.St} {H : Hp} {s : Shared} {P : Program} {w : World} (I : Inv X pins σ H s) {c : Addr} {r : List Int} (q : SqT X.K H c (r.map V.int)) : (tupleKind (intKind P w)).is s.heap r c := by
  obtain ⟨its, rv, ⟨o, ho, hc, n, hd⟩, _⟩ := I.tuple q
  refine ⟨o, its.toArray, n, ho, hc, hd, ?_⟩
  have : ∀ {r : List Int} {us : List Value}, Vals (r.map V.int) us → ItemsAre (intKind P w) r us := by
    intro r
    induction r with
    | nil => intro us rv; rw [List.map_nil] at rv; cases rv; exact .nil
    | cons i r ih =>
      intro us rv
      rw [List.map_cons] at rv
      cases rv with
      | cons h t =>
        obtain ⟨tk, rfl⟩ := h
        exact .cons (intKind_is P w i tk) (ih t)
  simpa using this rv
theorem ca_dictT (hc : X.calm = true) (hu : X.A.units + 65 < cLine) : CallD X (.type "dict") dictTD := by
  intro pins s σ H xs us Q I rx q
  obtain ⟨ds, c, t, e, q⟩ := q
  unfold dictTD at e
  split at e
  · rename_i ds'
    split at e
    · rename_i ps hps
      split at e
      · rename_i hh
        cases e
        cases t with
        | cons b t =>
          cases t
          obtain ⟨u, rfl, r⟩ := vals1 rx
          obtain ⟨a, vs, rfl, hl, tl⟩ := b.list
          cases r
          obtain ⟨es, rfl, rfl, he⟩ := pairs_back I tl hps
          obtain ⟨its, rv, pl, hz⟩ := I.list (.inl hl)
          have ei : its = (es.map (·.1)).map Value.ref := refs_at (by rw [List.map_map]; exact rv)
          subst ei
          rw [List.length_map] at hz
          have hnd : ((es.map fun e => (e.2.1, e.2.2.1, Value.bool e.2.2.2)).map (·.1)).Nodup := by
            have := hh.2
            rw [List.map_map] at this ⊢
            exact this
          refine call_dict_pairsH (knd := tupleKind (intKind X.prog X.w)) (n := (es.map fun e => (Value.ref e.2.2.1, Value.bool e.2.2.2)).length) (ps := es.map fun e => (e.2.1, e.2.2.1, Value.bool e.2.2.2))
            (PairArg.list a ((es.map (·.1)).map Value.ref).toArray (fun j => ((es[j]?).map (·.1)).getD 0) (es.map fun e => (Value.ref e.2.2.1, Value.bool e.2.2.2)))
            (I.ok.hd hc) (show X.A.units + 1 + 1 < cLine by omega) ⟨?g1, by simp, ?g2⟩ ⟨by simp, ?g3⟩ ?g4 (by rw [List.length_map]; exact hz) fun h' tk hd' hk => ?g5
          case g1 =>
            obtain ⟨o, n, h1, h2, h3, h4⟩ := pl
            exact ⟨o, n, h1, h2, h3, h4⟩
          case g2 =>
            intro j k v hj
            rw [List.getElem?_map] at hj
            obtain ⟨e, h1, h2⟩ := Option.map_eq_some_iff.mp hj
            cases h2
            refine ⟨by simp [h1], ?_⟩
            show PairAt s.heap (((es[j]?).map (·.1)).getD 0) _ _
            rw [h1]
            exact .inl (he e (List.mem_of_getElem? h1)).1
          case g3 =>
            intro i key v hi
            have hi : (es.map fun e => (Value.ref e.2.2.1, Value.bool e.2.2.2))[i]? = some (key, v) := hi
            rw [List.getElem?_map] at hi
            obtain ⟨e, h1, h2⟩ := Option.map_eq_some_iff.mp hi
            cases h2
            exact ⟨e.2.1, e.2.2.1, by rw [List.getElem?_map, h1]; rfl, rfl⟩
          case g4 =>
            intro h' hk x hx
            obtain ⟨e, h1, rfl⟩ := List.mem_map.mp hx
            have hki := key_sq (P := X.prog) (w := X.w) I (he e h1).2
            obtain ⟨o, items, n, ho, hr⟩ := hki
            exact ⟨o, items, n, hk _ _ (Nat.ne_of_lt (Heap.lt_size ho)) (fun z => nomatch z) ho, hr⟩
          case g5 =>
            rw [storedAllH_nil_of_nodup _ hnd] at hd'
            obtain ⟨o, ea, ep, h1, h2, h3, h4, _, h6⟩ := hd'
            have nn : H s.heap.objs.size = none := I.hok.fresh (Nat.le_refl _)
            have hm : (s.heap.objs.size == sysModules) = false := beq_eq_false_iff_ne.mpr (Nat.ne_of_gt I.big)
            have ex : Ext H (upd H s.heap.objs.size (.frz o (.ext fun _ => True))) := Ext.new nn
            refine ⟨.ref s.heap.objs.size, upd H s.heap.objs.size (.frz o (.ext fun _ => True)), I.laid (t' := tk) (fun b u z => hk b u (fun z => nomatch z) z) (Nat.le_refl _) ⟨h1, trivial, ⟨_, h1⟩, fun _ _ _ _ => trivial⟩, rfl, q _ _ ex.pers (.inl ex) ?_⟩
            refine .dit (xs := es.map fun e => (e.2.1, e.2.2.1, e.2.2.2)) ⟨o, _, ea, ep, upd_same, h2, h3, ?_, ?_, hm, ?_⟩ (fun z => hh.1 (by rw [List.map_eq_nil_iff] at z ⊢; exact z)) ?_
            · rw [h4, List.map_map, List.map_map]; rfl
            · rw [List.map_map] at hnd ⊢; exact hnd
            · intro x hx
              obtain ⟨e, g1, rfl⟩ := List.mem_map.mp hx
              exact sqT_mono ex.pers (he e g1).2
            · rw [List.map_map, List.map_map]; rfl
      · cases e
    · cases e
  · cases e
/-- row in dict -/
def inKD : PyData → PyData → Option PyData
  | .tuple ks, .dict des => match ks.mapM intOf with
    | some r => if tkB des = true then some (.bool (des.any fun p => decide (rowOf p.1 = some r))) else none
    | none => none
  | _, _ => none
theorem rowOf_rowD (r : List Int) : rowOf (.tuple (r.map .int)) = some r := by
  unfold rowOf
  induction r with
  | nil => rfl
  | cons i r ih =>
    show ((i :: r).map PyData.int).mapM intOf = _
    rw [List.map_cons, List.mapM_cons]
    have ih : (r.map PyData.int).mapM intOf = some r := ih
    rw [ih]; rfl
theorem at_tk (r : List Int) : ∀ xt : List (List Int × Addr × Bool), (atKey (xt.map fun x => (x.1, x.2.1, Value.bool x.2.2)) r).isSome = (xt.map tkD).any fun p => decide (rowOf p.1 = some r)
  | [] => rfl
  | x :: xt => by
    have e : decide (rowOf (tkD x).1 = some r) = decide (x.1 = r) := by
      rw [show rowOf (tkD x).1 = some x.1 from rowOf_rowD x.1]
      by_cases h : x.1 = r <;> simp [h]
    rw [List.map_cons, List.map_cons, List.any_cons, e, ← at_tk r xt]
    unfold atKey
    by_cases h : x.1 = r
    · rw [List.find?_cons_of_pos (by simp [h])]
      simp [h]
    · rw [List.find?_cons_of_neg (by simp [h])]
      simp [h]
theorem oa_ink (hu : X.A.units + 65 < cLine) : OpD X (compareOp .In) inKD := by
  intro pins s σ H x y v u Q I rx ry q
  obtain ⟨d, e, c, b1, b2, ee, q⟩ := q
  unfold inKD at ee
  split at ee
  · rename_i ks des
    split at ee
    · rename_i r hr
      have ek := mapM_intOf hr
      subst ek
      split at ee
      · rename_i ht
        cases ee
        obtain ⟨a, xs, rfl, sq, tl⟩ := b1.tuple
        have ez := pr_row tl
        subst ez
        cases (show v = Value.ref a from rx)
        rcases b2.dict with ⟨b, kvs, rfl, _, t⟩ | ⟨b, xt, rfl, ⟨o, w, es, ep, hq, hx, hd, he, hn, hm, hk⟩, nt, edes⟩
        · exfalso
          cases t with
          | nil => cases ht
          | @cons k _ _ _ _ _ _ => cases k <;> cases ht
        · subst edes
          cases (show u = Value.ref b from ry)
          obtain ⟨hg, _⟩ := I.hok _ _ hq
          refine wpAny_in_heap (knd := tupleKind (intKind X.prog X.w)) (k := r) (xs := xt.map fun x => (x.1, x.2.1, Value.bool x.2.2)) (show X.A.units + 1 < cLine by omega) (key_sq I sq) hm ⟨o, es, ep, hg, hx, hd, ?_, ?_, ?_⟩ ?_
          · rw [he, List.map_map]; rfl
          · intro x hx
            obtain ⟨y, hy, rfl⟩ := List.mem_map.mp hx
            exact key_sq I (hk y hy)
          · rw [List.map_map]; exact hn
          · rw [at_tk]
            exact ⟨.bl _, H, I.tok _, rfl, q (.bl _) H (Pers.refl H) (.inl (Ext.refl H)) (.bl _)⟩
      · cases ee
    · cases ee
  · cases ee
end
end DD
set_option maxHeartbeats 1000000
namespace K01
open PySem PySem.Spec PyProof.Rows L2 DD GxR
def topS (i : Nat) : Stmt := PySem.Challenge.pw_roundstairs_k01_whole_words_and_words_wi.main.body.getD i (.Pass ⟨0, 0, 0, 0⟩)
section
variable {P : Program} {w : World} {K : PySem.W.Frag} {mg : Str → Option Value} {base : Heap} {T : TB}
def C_FIELDS : PyData := (.tuple [(.int 2), (.int 3), (.int 5)])
def C_FEWEST_PLACES : PyData := (.int 2)
def C_MOST_PLACES : PyData := (.int 12)
abbrev s__law_deck : Stmt := topS 40
theorem sc__law_deck : FnScope ["script", "stirred", "cell"] ["script"] (defScope s__law_deck) := ⟨rfl, rfl, rfl, by decide +kernel, rfl, by decide +kernel, by decide +kernel⟩
abbrev mk_deck : List Int → Dk := deckOf 13737101 39373 2147483587 41 2147483579
theorem ok__law_deck {f : Addr} {fd : FuncData} (F : Fun K "_law_deck" "_law_deck" s__law_deck f fd) (hd : DnOk T) (hz : T.dn = "draws") (b_int : mg "int" = none) (b_list : mg "list" = none) : FnG P w K mg base CX0 1 f fd ["script"] (spDeck K T mk_deck) := by
  obtain ⟨oc, od, kV, doc, pm, an, cdv, ct, osl, rfl, lk, hcd⟩ := F.ex
  refine fnG_of (k := 0) lk hcd sc__law_deck (fun vs H Q E h => ?_) fun A outer s H vs Q E hr h => ⟨_, PSs.nox (pss_cons (ps_set (i := 1) sc__law_deck.nd rfl (by first | exact .inl rfl | exact .inr rfl) pe_int)
    (pss_cons (ps_for PassesOwn.never rfl (pi_list (pe_slice sl_list (pv 0) po_none (po_some pe_int))) (pg_name (i := 2) sc__law_deck.nd rfl (by first | exact .inl rfl | exact .inr rfl)) (pss_one (ps_set (i := 1) sc__law_deck.nd rfl (by first | exact .inl rfl | exact .inr rfl) (pe_op op_mod (pe_callTy call_int1 (by rfl) b_int (by decide +kernel) (pa_cons (pe_op op_add (pe_op op_add (pe_op op_mul (pv 1) pe_int) (pe_op op_mod (pe_callTy call_int1 (by rfl) b_int (by decide +kernel) (pa_cons (pv 2) pa_nil)) pe_int)) pe_int) pa_nil)) pe_int))))
    (pss_one (ps_ret (pe_disp (pps_cons pe_str (pe_revL (pe_callTy call_list_of (by rfl) b_list (by decide +kernel) (pa_cons (pe_slice sl_list (pv 0) po_none (po_some pe_int)) pa_nil))) (pps_cons pe_str (pv 1) (pps_cons pe_str pe_int pps_nil))) (by rfl) (by rfl) (by intro z; cases z) (by decide)))))), ?_⟩
  · obtain ⟨a, ns, rfl, _⟩ := h
    rfl
  · have z := deckB_read (C := 13737101) (A := 39373) (M := 2147483587) (B := 41) (M2 := 2147483579) hd (by decide) (by decide) (by decide) vs H Q E h
    rw [hz] at z
    exact z
abbrev s_is_int : Stmt := topS 9
theorem sc_is_int : FnScope ["thing"] ["thing"] (defScope s_is_int) := ⟨rfl, rfl, rfl, by decide +kernel, rfl, by decide +kernel, by decide +kernel⟩
def B_is_int : M Fl :=
  (sCons (sRet (vAndD (dIsi "int" (dV 0)) (vNotD (dIsi "bool" (dV 0)))))
    sNil)
def F_is_int : FD := runD 1 B_is_int
theorem ok_is_int {f : Addr} {fd : FuncData} (F : Fun K "is_int" "is_int" s_is_int f fd) (b_isinstance : mg "isinstance" = none) (b_bool : mg "bool" = none) (b_int : mg "int" = none) : FnD T P w K mg base 1 f fd ["thing"] F_is_int :=
  fn_d F sc_is_int fun cdv A outer s H E hr =>
    (dss_cons (ds_ret (de_and (de_isi (by rfl) b_isinstance (by rfl) b_int (by decide +kernel) (de_v 0 (pv 0))) (de_one (de_not (de_isi (by rfl) b_isinstance (by rfl) b_bool (by decide +kernel) (de_v 0 (pv 0)))))))
    dss_nil)
abbrev s_is_int_from : Stmt := topS 10
theorem sc_is_int_from : FnScope ["low", "high", "thing"] ["low", "high", "thing"] (defScope s_is_int_from) := ⟨rfl, rfl, rfl, by decide +kernel, rfl, by decide +kernel, by decide +kernel⟩
def B_is_int_from : M Fl :=
  (sCons (sRet (vAndD (dCall F_is_int (aCons (dV 2) aNil)) (dChain leD leD (dV 0) (dV 2) (dV 1))))
    sNil)
def F_is_int_from : FD := runD 3 B_is_int_from
theorem ok_is_int_from {f : Addr} {fd : FuncData} (F : Fun K "is_int_from" "is_int_from" s_is_int_from f fd) (h_is_int : Has T P w K mg base 1 "is_int" s_is_int ["thing"] F_is_int) : FnD T P w K mg base 2 f fd ["low", "high", "thing"] F_is_int_from :=
  fn_d F sc_is_int_from fun cdv A outer s H E hr =>
    (dss_cons (ds_ret (de_and (de_callH h_is_int (RoomG.mono hr (by decide)) (by rfl) (da_cons (de_v 2 (pv 2)) da_nil) (len_cons (len_nil))) (de_one (de_chain oa_le oa_le (de_v 0 (pv 0)) (de_v 2 (pv 2)) (de_v 1 (pv 1))))))
    dss_nil)
abbrev s_is_field : Stmt := topS 11
theorem sc_is_field : FnScope ["thing"] ["thing"] (defScope s_is_field) := ⟨rfl, rfl, rfl, by decide +kernel, rfl, by decide +kernel, by decide +kernel⟩
def B_is_field : M Fl :=
  (sCons (sRet (vAndD (dCall F_is_int (aCons (dV 0) aNil)) (dOp inD (dV 0) (dC C_FIELDS))))
    sNil)
def F_is_field : FD := runD 1 B_is_field
theorem ok_is_field {f : Addr} {fd : FuncData} (F : Fun K "is_field" "is_field" s_is_field f fd) (h_is_int : Has T P w K mg base 1 "is_int" s_is_int ["thing"] F_is_int) (c_FIELDS : GlobC K mg "FIELDS" C_FIELDS) : FnD T P w K mg base 2 f fd ["thing"] F_is_field :=
  fn_d F sc_is_field fun cdv A outer s H E hr =>
    (dss_cons (ds_ret (de_and (de_callH h_is_int (RoomG.mono hr (by decide)) (by rfl) (da_cons (de_v 0 (pv 0)) da_nil) (len_cons (len_nil))) (de_one (de_cmp (oa_in (units65 hr)) (de_v 0 (pv 0)) (de_glob (by rfl) c_FIELDS) (by rfl)))))
    dss_nil)
abbrev s_is_tuple_of : Stmt := topS 12
theorem sc_is_tuple_of : FnScope ["length", "thing"] ["length", "thing"] (defScope s_is_tuple_of) := ⟨rfl, rfl, rfl, by decide +kernel, rfl, by decide +kernel, by decide +kernel⟩
def B_is_tuple_of : M Fl :=
  (sCons (sRet (vAndD (dIsi "tuple" (dV 1)) (dOp eqD (dB lenD (aCons (dV 1) aNil)) (dV 0))))
    sNil)
def F_is_tuple_of : FD := runD 2 B_is_tuple_of
theorem ok_is_tuple_of {f : Addr} {fd : FuncData} (F : Fun K "is_tuple_of" "is_tuple_of" s_is_tuple_of f fd) (b_len : mg "len" = none) (b_isinstance : mg "isinstance" = none) (b_tuple : mg "tuple" = none) : FnD T P w K mg base 1 f fd ["length", "thing"] F_is_tuple_of :=
  fn_d F sc_is_tuple_of fun cdv A outer s H E hr =>
    (dss_cons (ds_ret (de_and (de_isi (by rfl) b_isinstance (by rfl) b_tuple (by decide +kernel) (de_v 1 (pv 1))) (de_one (de_cmp (oa_eq hr.rm.units) (de_callB ca_len (by rfl) b_len (by decide +kernel) (da_cons (de_v 1 (pv 1)) da_nil)) (de_v 0 (pv 0)) (nomark _)))))
    dss_nil)
abbrev s_is_row : Stmt := topS 13
theorem sc_is_row : FnScope ["q", "n", "thing", "mark"] ["q", "n", "thing"] (defScope s_is_row) := ⟨rfl, rfl, rfl, by decide +kernel, rfl, by decide +kernel, by decide +kernel⟩
def B_is_row : M Fl :=
  (sCons (sRet (vAndD (dCall F_is_tuple_of (aCons (dV 1) (aCons (dV 2) aNil))) (dAll (iItems (dV 2)) [3] (gN 3) (dCall F_is_int_from (aCons (dC (.int 0)) (aCons (dOp subD (dV 0) (dC (.int 1))) (aCons (dV 3) aNil)))))))
    sNil)
def F_is_row : FD := runD 4 B_is_row
theorem ok_is_row {c Pt f : Addr} {fd : FuncData} (F : FunC K "is_row" "is_row" s_is_row c f fd) (TBx : TabB base mg c Pt) (hP : Pt ∈ T.g) (hPl : ∀ y ∈ T.l, y.1 ≠ Pt) (h_is_int_from : Has T P w K mg base 2 "is_int_from" s_is_int_from ["low", "high", "thing"] F_is_int_from) (h_is_tuple_of : Has T P w K mg base 1 "is_tuple_of" s_is_tuple_of ["length", "thing"] F_is_tuple_of) (b_all : mg "all" = none) : FnD T P w K mg base 4 f fd ["q", "n", "thing"] F_is_row :=
  fn_dC F sc_is_row fun A outer s H E hr =>
    (dss_cons (ds_ret (de_and (de_callH h_is_tuple_of (RoomG.mono hr (by decide)) (by rfl) (da_cons (de_v 1 (pv 1)) (da_cons (de_v 2 (pv 2)) da_nil)) (len_cons (len_cons (len_nil)))) (de_one (de_all (own := [("mark", 3)]) (js := [3]) (k := 2) (RoomG.mono hr (by decide)) (by rfl) b_all (by decide +kernel) TBx hP hPl rfl sc_is_row.nd (blk_ok (by kernel_rfl) (by kernel_rfl)) (by kernel_rfl) (by decide +kernel) (by kernel_rfl) (di_seq (de_v 2 (pv 2))) (by decide) (fun _ _ _ _ _ _ _ _ hr2 => (dg_name (pg_name (i := 3) sc_is_row.nd rfl (by first | exact .inl rfl | exact .inr rfl)))) (fun _ _ _ _ _ _ _ _ hr2 => (de_callH h_is_int_from (RoomG.mono hr2 (by decide)) (by rfl) (da_cons (de_c pe_int fun _ => .int _) (da_cons (de_op oa_sub (de_v 0 (pv 0)) (de_c pe_int fun _ => .int _)) (da_cons (de_v 3 (pv 3)) da_nil))) (len_cons (len_cons (len_cons (len_nil)))))) (by intro _; rfl)))))
    dss_nil)
abbrev s_noughts : Stmt := topS 15
theorem sc_noughts : FnScope ["n"] ["n"] (defScope s_noughts) := ⟨rfl, rfl, rfl, by decide +kernel, rfl, by decide +kernel, by decide +kernel⟩
def B_noughts : M Fl :=
  (sCons (sRet (dOp mulD (dTup (aCons (dC (.int 0)) aNil)) (dV 0)))
    sNil)
def F_noughts : FD := runD 1 B_noughts
theorem ok_noughts {f : Addr} {fd : FuncData} (F : Fun K "noughts" "noughts" s_noughts f fd)  : FnD T P w K mg base 1 f fd ["n"] F_noughts :=
  fn_d F sc_noughts fun cdv A outer s H E hr =>
    (dss_cons (ds_ret (de_op oa_mul (de_tup (da_cons (de_c pe_int fun _ => .int _) da_nil)) (de_v 0 (pv 0))))
    dss_nil)
abbrev s_unit_rows : Stmt := topS 16
theorem sc_unit_rows : FnScope ["n", "places", "place"] ["n", "places"] (defScope s_unit_rows) := ⟨rfl, rfl, rfl, by decide +kernel, rfl, by decide +kernel, by decide +kernel⟩
def B_unit_rows : M Fl :=
  (sCons (sRet (dF (dLc (iItems (dV 1)) [2] (gN 2) tAll (dOp addD (dOp addD (dCall F_noughts (aCons (dV 2) aNil)) (dTup (aCons (dC (.int 1)) aNil))) (dCall F_noughts (aCons (dOp subD (dOp subD (dV 0) (dV 2)) (dC (.int 1))) aNil))))))
    sNil)
def F_unit_rows : FD := runD 3 B_unit_rows
theorem ok_unit_rows {f : Addr} {fd : FuncData} (F : Fun K "unit_rows" "unit_rows" s_unit_rows f fd) (h_noughts : Has T P w K mg base 1 "noughts" s_noughts ["n"] F_noughts) : FnD T P w K mg base 2 f fd ["n", "places"] F_unit_rows :=
  fn_d F sc_unit_rows fun cdv A outer s H E hr =>
    (dss_cons (ds_ret (de_new (df_lc (own := [("place", 2)]) (js := [2]) rfl sc_unit_rows.nd (di_seq (de_v 1 (pv 1))) (blk_ok (by kernel_rfl) (by kernel_rfl)) (by decide) (fun _ _ _ _ _ => (dg_name (pg_name (i := 2) sc_unit_rows.nd rfl (by first | exact .inl rfl | exact .inr rfl)))) (fun _ _ _ _ _ => dts_nil) (fun _ _ _ _ _ => (de_op oa_add (de_op oa_add (de_callH h_noughts (RoomG.mono hr (by decide)) (by rfl) (da_cons (de_v 2 (pv 2)) da_nil) (len_cons (len_nil))) (de_tup (da_cons (de_c pe_int fun _ => .int _) da_nil))) (de_callH h_noughts (RoomG.mono hr (by decide)) (by rfl) (da_cons (de_op oa_sub (de_op oa_sub (de_v 0 (pv 0)) (de_v 2 (pv 2))) (de_c pe_int fun _ => .int _)) da_nil) (len_cons (len_nil))))))))
    dss_nil)
abbrev s_times : Stmt := topS 17
theorem sc_times : FnScope ["q", "factor", "row", "mark"] ["q", "factor", "row"] (defScope s_times) := ⟨rfl, rfl, rfl, by decide +kernel, rfl, by decide +kernel, by decide +kernel⟩
def B_times : M Fl :=
  (sCons (sRet (dB tupD (aCons (dF (dLc (iItems (dV 2)) [3] (gN 3) tAll (dOp modD (dOp mulD (dV 1) (dV 3)) (dV 0)))) aNil)))
    sNil)
def F_times : FD := runD 4 B_times
theorem ok_times {f : Addr} {fd : FuncData} (F : Fun K "times" "times" s_times f fd) (b_tuple : mg "tuple" = none) : FnD T P w K mg base 1 f fd ["q", "factor", "row"] F_times :=
  fn_d F sc_times fun cdv A outer s H E hr =>
    (dss_cons (ds_ret (de_callTy ca_tuple (by rfl) b_tuple (by decide +kernel) (da_cons (de_new (df_lc (own := [("mark", 3)]) (js := [3]) rfl sc_times.nd (di_seq (de_v 2 (pv 2))) (blk_ok (by kernel_rfl) (by kernel_rfl)) (by decide) (fun _ _ _ _ _ => (dg_name (pg_name (i := 3) sc_times.nd rfl (by first | exact .inl rfl | exact .inr rfl)))) (fun _ _ _ _ _ => dts_nil) (fun _ _ _ _ _ => (de_op oa_mod (de_op oa_mul (de_v 1 (pv 1)) (de_v 3 (pv 3))) (de_v 0 (pv 0)))))) da_nil)))
    dss_nil)
abbrev s_plus : Stmt := topS 18
theorem sc_plus : FnScope ["q", "row", "factor", "other", "mark", "added"] ["q", "row", "factor", "other"] (defScope s_plus) := ⟨rfl, rfl, rfl, by decide +kernel, rfl, by decide +kernel, by decide +kernel⟩
def B_plus : M Fl :=
  (sCons (sRet (dB tupD (aCons (dF (dLc (iZip (aCons (dV 1) (aCons (dV 3) aNil))) [4, 5] (gT 2 (gsCons (gN 4) (gsCons (gN 5) gsNil))) tAll (dOp modD (dOp addD (dV 4) (dOp mulD (dV 2) (dV 5))) (dV 0)))) aNil)))
    sNil)
def F_plus : FD := runD 6 B_plus
theorem ok_plus {f : Addr} {fd : FuncData} (F : Fun K "plus" "plus" s_plus f fd) (b_zip : mg "zip" = none) (b_tuple : mg "tuple" = none) : FnD T P w K mg base 1 f fd ["q", "row", "factor", "other"] F_plus :=
  fn_d F sc_plus fun cdv A outer s H E hr =>
    (dss_cons (ds_ret (de_callTy ca_tuple (by rfl) b_tuple (by decide +kernel) (da_cons (de_new (df_lc (own := [("mark", 4), ("added", 5)]) (js := [4, 5]) rfl sc_plus.nd (di_zip (by rfl) b_zip (da_cons (de_v 1 (pv 1)) (da_cons (de_v 3 (pv 3)) da_nil))) (blk_ok (by kernel_rfl) (by kernel_rfl)) (by decide) (fun _ _ _ _ _ => (dg_tup rfl (dgs_cons (dg_name (pg_name (i := 4) sc_plus.nd rfl (by first | exact .inl rfl | exact .inr rfl))) (dgs_cons (dg_name (pg_name (i := 5) sc_plus.nd rfl (by first | exact .inl rfl | exact .inr rfl))) dgs_nil)))) (fun _ _ _ _ _ => dts_nil) (fun _ _ _ _ _ => (de_op oa_mod (de_op oa_add (de_v 4 (pv 4)) (de_op oa_mul (de_v 2 (pv 2)) (de_v 5 (pv 5)))) (de_v 0 (pv 0)))))) da_nil)))
    dss_nil)
abbrev s_inverse_of : Stmt := topS 19
theorem sc_inverse_of : FnScope ["q", "mark", "found"] ["q", "mark"] (defScope s_inverse_of) := ⟨rfl, rfl, rfl, by decide +kernel, rfl, by decide +kernel, by decide +kernel⟩
def B_inverse_of : M Fl :=
  (sCons (sAsg (dC (.int 1)) (gN 2))
    (sCons (whGo (tB' (dOp neD (dOp modD (dOp mulD (dV 2) (dV 1)) (dV 0)) (dC (.int 1)))) (sCons (sAug 2 (fun i j => i + j) (dC (.int 1)))
    sNil) 1000000)
    (sCons (sRet (dV 2))
    sNil)))
def F_inverse_of : FD := runD 3 B_inverse_of
theorem ok_inverse_of {f : Addr} {fd : FuncData} (F : Fun K "inverse_of" "inverse_of" s_inverse_of f fd)  : FnD T P w K mg base 1 f fd ["q", "mark"] F_inverse_of :=
  fn_d F sc_inverse_of fun cdv A outer s H E hr =>
    (dss_cons (ds_set (i := 2) sc_inverse_of.nd rfl (by first | exact .inl rfl | exact .inr rfl) (de_c pe_int fun _ => .int _))
    (dss_cons (ds_while 1000000 PassesOwn.never (dt_cmp (oa_ne hr.rm.units) (de_op oa_mod (de_op oa_mul (de_v 2 (pv 2)) (de_v 1 (pv 1))) (de_v 0 (pv 0))) (de_c pe_int fun _ => .int _) (nomark _)) (dss_cons (ds_aug (i := 2) sc_inverse_of.nd rfl (by first | exact .inl rfl | exact .inr rfl) (de_c pe_int fun _ => .int _) ip_add)
    dss_nil))
    (dss_cons (ds_ret (de_v 2 (pv 2)))
    dss_nil)))
abbrev s_head_of : Stmt := topS 20
theorem sc_head_of : FnScope ["row", "place", "mark"] ["row"] (defScope s_head_of) := ⟨rfl, rfl, rfl, by decide +kernel, rfl, by decide +kernel, by decide +kernel⟩
def B_head_of : M Fl :=
  (sCons (dFor (iEnumD (aCons (dV 0) aNil)) (gT 2 (gsCons (gN 1) (gsCons (gN 2) gsNil))) (sCons (dIf (tB' (dOp neD (dV 2) (dC (.int 0)))) (sCons (sRet (dV 1))
    sNil) sNil)
    sNil))
    (sCons (sRet (dB lenD (aCons (dV 0) aNil)))
    sNil))
def F_head_of : FD := runD 3 B_head_of
theorem ok_head_of {f : Addr} {fd : FuncData} (F : Fun K "head_of" "head_of" s_head_of f fd) (b_enumerate : mg "enumerate" = none) (b_len : mg "len" = none) : FnD T P w K mg base 1 f fd ["row"] F_head_of :=
  fn_d F sc_head_of fun cdv A outer s H E hr =>
    (dss_cons (ds_for PassesOwn.never rfl (di_enum (by rfl) b_enumerate (da_cons (de_v 0 (pv 0)) da_nil)) (dg_tup rfl (dgs_cons (dg_name (pg_name (i := 1) sc_head_of.nd rfl (by first | exact .inl rfl | exact .inr rfl))) (dgs_cons (dg_name (pg_name (i := 2) sc_head_of.nd rfl (by first | exact .inl rfl | exact .inr rfl))) dgs_nil))) (dss_cons (ds_if (dt_cmp (oa_ne hr.rm.units) (de_v 2 (pv 2)) (de_c pe_int fun _ => .int _) (nomark _)) (dss_cons (ds_ret (de_v 1 (pv 1)))
    dss_nil) dss_nil)
    dss_nil))
    (dss_cons (ds_ret (de_callB ca_len (by rfl) b_len (by decide +kernel) (da_cons (de_v 0 (pv 0)) da_nil)))
    dss_nil))
abbrev s_rest_of : Stmt := topS 21
theorem sc_rest_of : FnScope ["q", "basis", "row", "rest", "line", "mark"] ["q", "basis", "row"] (defScope s_rest_of) := ⟨rfl, rfl, rfl, by decide +kernel, rfl, by decide +kernel, by decide +kernel⟩
def B_rest_of : M Fl :=
  (sCons (sAsg (dV 2) (gN 3))
    (sCons (dFor (iItems (dV 1)) (gN 4) (sCons (sAsg (dOp ixD (dV 3) (dCall F_head_of (aCons (dV 4) aNil))) (gN 5))
    (sCons (dIf (tB' (dOp neD (dV 5) (dC (.int 0)))) (sCons (sAsg (dCall F_plus (aCons (dV 0) (aCons (dV 3) (aCons (dNeg (dV 5)) (aCons (dV 4) aNil))))) (gN 3))
    sNil) sNil)
    sNil)))
    (sCons (sRet (dV 3))
    sNil)))
def F_rest_of : FD := runD 6 B_rest_of
theorem ok_rest_of {f : Addr} {fd : FuncData} (F : Fun K "rest_of" "rest_of" s_rest_of f fd) (h_head_of : Has T P w K mg base 1 "head_of" s_head_of ["row"] F_head_of) (h_plus : Has T P w K mg base 1 "plus" s_plus ["q", "row", "factor", "other"] F_plus) : FnD T P w K mg base 2 f fd ["q", "basis", "row"] F_rest_of :=
  fn_d F sc_rest_of fun cdv A outer s H E hr =>
    (dss_cons (ds_set (i := 3) sc_rest_of.nd rfl (by first | exact .inl rfl | exact .inr rfl) (de_v 2 (pv 2)))
    (dss_cons (ds_for PassesOwn.never rfl (di_seq (de_v 1 (pv 1))) (dg_name (pg_name (i := 4) sc_rest_of.nd rfl (by first | exact .inl rfl | exact .inr rfl))) (dss_cons (ds_set (i := 5) sc_rest_of.nd rfl (by first | exact .inl rfl | exact .inr rfl) (de_ix (de_v 3 (pv 3)) (de_callH h_head_of (RoomG.mono hr (by decide)) (by rfl) (da_cons (de_v 4 (pv 4)) da_nil) (len_cons (len_nil))) (fun _ _ => rfl)))
    (dss_cons (ds_if (dt_cmp (oa_ne hr.rm.units) (de_v 5 (pv 5)) (de_c pe_int fun _ => .int _) (nomark _)) (dss_cons (ds_set (i := 3) sc_rest_of.nd rfl (by first | exact .inl rfl | exact .inr rfl) (de_callH h_plus (RoomG.mono hr (by decide)) (by rfl) (da_cons (de_v 0 (pv 0)) (da_cons (de_v 3 (pv 3)) (da_cons (de_neg (de_v 5 (pv 5))) (da_cons (de_v 4 (pv 4)) da_nil)))) (len_cons (len_cons (len_cons (len_cons (len_nil)))))))
    dss_nil) dss_nil)
    dss_nil)))
    (dss_cons (ds_ret (de_v 3 (pv 3)))
    dss_nil)))
abbrev s_is_sum : Stmt := topS 22
theorem sc_is_sum : FnScope ["q", "basis", "row"] ["q", "basis", "row"] (defScope s_is_sum) := ⟨rfl, rfl, rfl, by decide +kernel, rfl, by decide +kernel, by decide +kernel⟩
def B_is_sum : M Fl :=
  (sCons (sRet (vNotD (dB anyD (aCons (dCall F_rest_of (aCons (dV 0) (aCons (dV 1) (aCons (dV 2) aNil)))) aNil))))
    sNil)
def F_is_sum : FD := runD 3 B_is_sum
theorem ok_is_sum {f : Addr} {fd : FuncData} (F : Fun K "is_sum" "is_sum" s_is_sum f fd) (h_rest_of : Has T P w K mg base 2 "rest_of" s_rest_of ["q", "basis", "row"] F_rest_of) (b_any : mg "any" = none) : FnD T P w K mg base 3 f fd ["q", "basis", "row"] F_is_sum :=
  fn_d F sc_is_sum fun cdv A outer s H E hr =>
    (dss_cons (ds_ret (de_not (de_callB (ca_any rfl) (by rfl) b_any (by decide +kernel) (da_cons (de_callH h_rest_of (RoomG.mono hr (by decide)) (by rfl) (da_cons (de_v 0 (pv 0)) (da_cons (de_v 1 (pv 1)) (da_cons (de_v 2 (pv 2)) da_nil))) (len_cons (len_cons (len_cons (len_nil))))) da_nil))))
    dss_nil)
abbrev s_plain_with : Stmt := topS 24
theorem sc_plain_with : FnScope ["q", "basis", "rest", "head", "line", "cleared", "row"] ["q", "basis", "rest"] (defScope s_plain_with) := ⟨rfl, rfl, rfl, by decide +kernel, rfl, by decide +kernel, by decide +kernel⟩
def B_plain_with : M Fl :=
  (sCons (sAsg (dCall F_head_of (aCons (dV 2) aNil)) (gN 3))
    (sCons (sAsg (dCall F_times (aCons (dV 0) (aCons (dCall F_inverse_of (aCons (dV 0) (aCons (dOp ixD (dV 2) (dV 3)) aNil))) (aCons (dV 2) aNil)))) (gN 4))
    (sCons (sFrz 5 (sOwn 5 (dLc (iItems (dV 1)) [6] (gN 6) tAll (dCall F_plus (aCons (dV 0) (aCons (dV 6) (aCons (dNeg (dOp ixD (dV 6) (dV 3))) (aCons (dV 4) aNil))))))))
    (sCons (sRet (dB tupD (aCons (dSortR true (aCons (dOp addD (dV 5) (dF (dLst (aCons (dV 4) aNil)))) aNil)) aNil)))
    sNil))))
def F_plain_with : FD := runD 7 B_plain_with
theorem ok_plain_with {f : Addr} {fd : FuncData} (F : Fun K "plain_with" "plain_with" s_plain_with f fd) (h_head_of : Has T P w K mg base 1 "head_of" s_head_of ["row"] F_head_of) (h_times : Has T P w K mg base 1 "times" s_times ["q", "factor", "row"] F_times) (h_inverse_of : Has T P w K mg base 1 "inverse_of" s_inverse_of ["q", "mark"] F_inverse_of) (h_plus : Has T P w K mg base 1 "plus" s_plus ["q", "row", "factor", "other"] F_plus) (b_sorted : mg "sorted" = none) (b_tuple : mg "tuple" = none) : FnD T P w K mg base 2 f fd ["q", "basis", "rest"] F_plain_with :=
  fn_d F sc_plain_with fun cdv A outer s H E hr =>
    (dss_cons (ds_set (i := 3) sc_plain_with.nd rfl (by first | exact .inl rfl | exact .inr rfl) (de_callH h_head_of (RoomG.mono hr (by decide)) (by rfl) (da_cons (de_v 2 (pv 2)) da_nil) (len_cons (len_nil))))
    (dss_cons (ds_set (i := 4) sc_plain_with.nd rfl (by first | exact .inl rfl | exact .inr rfl) (de_callH h_times (RoomG.mono hr (by decide)) (by rfl) (da_cons (de_v 0 (pv 0)) (da_cons (de_callH h_inverse_of (RoomG.mono hr (by decide)) (by rfl) (da_cons (de_v 0 (pv 0)) (da_cons (de_ix (de_v 2 (pv 2)) (de_v 3 (pv 3)) (fun _ _ => rfl)) da_nil)) (len_cons (len_cons (len_nil)))) (da_cons (de_v 2 (pv 2)) da_nil))) (len_cons (len_cons (len_cons (len_nil))))))
    (dss_cons (ds_frz 5 (ds_ownLc (i := 5) (own := [("row", 6)]) (js := [6]) rfl sc_plain_with.nd rfl rfl (by kernel_rfl) (di_seq (de_v 1 (pv 1))) (blk_ok (by kernel_rfl) (by kernel_rfl)) (by decide) (fun _ _ _ _ _ => (dg_name (pg_name (i := 6) sc_plain_with.nd rfl (by first | exact .inl rfl | exact .inr rfl)))) (fun _ _ _ _ _ => dts_nil) (fun _ _ _ _ _ => (de_callH h_plus (RoomG.mono hr (by decide)) (by rfl) (da_cons (de_v 0 (pv 0)) (da_cons (de_v 6 (pv 6)) (da_cons (de_neg (de_ix (de_v 6 (pv 6)) (de_v 3 (pv 3)) (fun _ _ => rfl))) (da_cons (de_v 4 (pv 4)) da_nil)))) (len_cons (len_cons (len_cons (len_cons (len_nil)))))))))
    (dss_cons (ds_ret (de_callTy ca_tuple (by rfl) b_tuple (by decide +kernel) (da_cons (de_sortR (by rfl) b_sorted (by decide +kernel) (da_cons (de_op oa_add (de_v 5 (pv 5)) (de_new (df_lst (da_cons (de_v 4 (pv 4)) da_nil)))) da_nil) (pk_cons pe_bl pk_nil)) da_nil)))
    dss_nil))))
abbrev s_sums_of : Stmt := topS 26
theorem sc_sums_of : FnScope ["q", "n", "rows", "sums", "row", "start", "factor"] ["q", "n", "rows"] (defScope s_sums_of) := ⟨rfl, rfl, rfl, by decide +kernel, rfl, by decide +kernel, by decide +kernel⟩
def B_sums_of : M Fl :=
  (sCons (sAsg (dF (dLst (aCons (dCall F_noughts (aCons (dV 1) aNil)) aNil))) (gN 3))
    (sCons (dFor (iItems (dV 2)) (gN 4) (sCons (sFrz 3 (sOwn 3 (dLc2 (iItems (dV 3)) [5, 6] [6] (gN 5) tAll (iR1 (aCons (dV 0) aNil)) (gN 6) tAll (dCall F_plus (aCons (dV 0) (aCons (dV 5) (aCons (dV 6) (aCons (dV 4) aNil))))))))
    sNil))
    (sCons (sRet (dB tupD (aCons (dB sortedD (aCons (dV 3) aNil)) aNil)))
    sNil)))
def F_sums_of : FD := runD 7 B_sums_of
theorem ok_sums_of {f : Addr} {fd : FuncData} (F : Fun K "sums_of" "sums_of" s_sums_of f fd) (h_noughts : Has T P w K mg base 1 "noughts" s_noughts ["n"] F_noughts) (h_plus : Has T P w K mg base 1 "plus" s_plus ["q", "row", "factor", "other"] F_plus) (b_range : mg "range" = none) (b_sorted : mg "sorted" = none) (b_tuple : mg "tuple" = none) : FnD T P w K mg base 2 f fd ["q", "n", "rows"] F_sums_of :=
  fn_d F sc_sums_of fun cdv A outer s H E hr =>
    (dss_cons (ds_set (i := 3) sc_sums_of.nd rfl (by first | exact .inl rfl | exact .inr rfl) (de_new (df_lst (da_cons (de_callH h_noughts (RoomG.mono hr (by decide)) (by rfl) (da_cons (de_v 1 (pv 1)) da_nil) (len_cons (len_nil))) da_nil))))
    (dss_cons (ds_for PassesOwn.never rfl (di_seq (de_v 2 (pv 2))) (dg_name (pg_name (i := 4) sc_sums_of.nd rfl (by first | exact .inl rfl | exact .inr rfl))) (dss_cons (ds_frz 3 (ds_ownLc2 (i := 3) (own := [("start", 5), ("factor", 6)]) (vs1 := [6]) (js := [5]) (js1 := [6]) rfl sc_sums_of.nd rfl rfl (by kernel_rfl) (di_seq (de_v 3 (pv 3))) (blk_ok (by kernel_rfl) (by kernel_rfl)) (by decide) (by decide) (by decide) (fun _ _ _ _ _ => (dg_name (pg_name (i := 5) sc_sums_of.nd rfl (by first | exact .inl rfl | exact .inr rfl)))) (fun _ _ _ _ _ => dts_nil) (fun _ _ _ _ _ => (di_range1 (by rfl) b_range (da_cons (de_v 0 (pv 0)) da_nil))) (fun _ _ _ _ _ => (dg_name (pg_name (i := 6) sc_sums_of.nd rfl (by first | exact .inl rfl | exact .inr rfl)))) (fun _ _ _ _ _ => dts_nil) (fun _ _ _ _ _ => (de_callH h_plus (RoomG.mono hr (by decide)) (by rfl) (da_cons (de_v 0 (pv 0)) (da_cons (de_v 5 (pv 5)) (da_cons (de_v 6 (pv 6)) (da_cons (de_v 4 (pv 4)) da_nil)))) (len_cons (len_cons (len_cons (len_cons (len_nil)))))))))
    dss_nil))
    (dss_cons (ds_ret (de_callTy ca_tuple (by rfl) b_tuple (by decide +kernel) (da_cons (de_callB ca_sorted (by rfl) b_sorted (by decide +kernel) (da_cons (de_v 3 (pv 3)) da_nil)) da_nil)))
    dss_nil)))
abbrev s_is_length : Stmt := topS 30
theorem sc_is_length : FnScope ["thing"] ["thing"] (defScope s_is_length) := ⟨rfl, rfl, rfl, by decide +kernel, rfl, by decide +kernel, by decide +kernel⟩
def B_is_length : M Fl :=
  (sCons (sRet (dCall F_is_int_from (aCons (dC C_FEWEST_PLACES) (aCons (dC C_MOST_PLACES) (aCons (dV 0) aNil)))))
    sNil)
def F_is_length : FD := runD 1 B_is_length
theorem ok_is_length {f : Addr} {fd : FuncData} (F : Fun K "is_length" "is_length" s_is_length f fd) (h_is_int_from : Has T P w K mg base 2 "is_int_from" s_is_int_from ["low", "high", "thing"] F_is_int_from) (c_FEWEST_PLACES : GlobC K mg "FEWEST_PLACES" C_FEWEST_PLACES) (c_MOST_PLACES : GlobC K mg "MOST_PLACES" C_MOST_PLACES) : FnD T P w K mg base 3 f fd ["thing"] F_is_length :=
  fn_d F sc_is_length fun cdv A outer s H E hr =>
    (dss_cons (ds_ret (de_callH h_is_int_from (RoomG.mono hr (by decide)) (by rfl) (da_cons (de_glob (by rfl) c_FEWEST_PLACES) (da_cons (de_glob (by rfl) c_MOST_PLACES) (da_cons (de_v 0 (pv 0)) da_nil))) (len_cons (len_cons (len_cons (len_nil))))))
    dss_nil)
abbrev s_is_places : Stmt := topS 37
theorem sc_is_places : FnScope ["n", "thing", "ahead", "behind", "place"] ["n", "thing"] (defScope s_is_places) := ⟨rfl, rfl, rfl, by decide +kernel, rfl, by decide +kernel, by decide +kernel⟩
def B_is_places : M Fl :=
  (sCons (dIf (tOrD (tNotD (dTru (dIsi "tuple" (dV 1)))) (tNotD (dTru (dAll (iItems (dV 1)) [4] (gN 4) (dCall F_is_int_from (aCons (dC (.int 0)) (aCons (dOp subD (dV 0) (dC (.int 1))) (aCons (dV 4) aNil)))))))) (sCons (sRet (dC (.bool false)))
    sNil) sNil)
    (sCons (sRet (dB allD (aCons (dF (dLc (iZip (aCons (dV 1) (aCons (dSl (dV 1) (oS (dC (.int 1))) oN) aNil))) [2, 3] (gT 2 (gsCons (gN 2) (gsCons (gN 3) gsNil))) tAll (dOp ltD (dV 2) (dV 3)))) aNil)))
    sNil))
def F_is_places : FD := runD 5 B_is_places
theorem ok_is_places {c Pt f : Addr} {fd : FuncData} (F : FunC K "is_places" "is_places" s_is_places c f fd) (TBx : TabB base mg c Pt) (hP : Pt ∈ T.g) (hPl : ∀ y ∈ T.l, y.1 ≠ Pt) (h_is_int_from : Has T P w K mg base 2 "is_int_from" s_is_int_from ["low", "high", "thing"] F_is_int_from) (b_all : mg "all" = none) (b_isinstance : mg "isinstance" = none) (b_tuple : mg "tuple" = none) (b_zip : mg "zip" = none) : FnD T P w K mg base 4 f fd ["n", "thing"] F_is_places :=
  fn_dC F sc_is_places fun A outer s H E hr =>
    (dss_cons (ds_if (PW.pt (dw_or (dt_not (dt_tru (de_isi (by rfl) b_isinstance (by rfl) b_tuple (by decide +kernel) (de_v 1 (pv 1))))) (dw_or1 (dt_not (dt_tru (de_all (own := [("place", 4)]) (js := [4]) (k := 2) (RoomG.mono hr (by decide)) (by rfl) b_all (by decide +kernel) TBx hP hPl rfl sc_is_places.nd (blk_ok (by kernel_rfl) (by kernel_rfl)) (by kernel_rfl) (by decide +kernel) (by kernel_rfl) (di_seq (de_v 1 (pv 1))) (by decide) (fun _ _ _ _ _ _ _ _ hr2 => (dg_name (pg_name (i := 4) sc_is_places.nd rfl (by first | exact .inl rfl | exact .inr rfl)))) (fun _ _ _ _ _ _ _ _ hr2 => (de_callH h_is_int_from (RoomG.mono hr2 (by decide)) (by rfl) (da_cons (de_c pe_int fun _ => .int _) (da_cons (de_op oa_sub (de_v 0 (pv 0)) (de_c pe_int fun _ => .int _)) (da_cons (de_v 4 (pv 4)) da_nil))) (len_cons (len_cons (len_cons (len_nil)))))) (by intro _; rfl))))))) (dss_cons (ds_ret (de_c pe_bl fun _ => .bl _))
    dss_nil) dss_nil)
    (dss_cons (ds_ret (de_callB (ca_all rfl) (by rfl) b_all (by decide +kernel) (da_cons (de_new (df_lc (own := [("ahead", 2), ("behind", 3)]) (js := [2, 3]) rfl sc_is_places.nd (di_zip (by rfl) b_zip (da_cons (de_v 1 (pv 1)) (da_cons (de_sl (de_v 1 (pv 1)) (do_some (de_c pe_int fun _ => .int _)) do_none) da_nil))) (blk_ok (by kernel_rfl) (by kernel_rfl)) (by decide) (fun _ _ _ _ _ => (dg_tup rfl (dgs_cons (dg_name (pg_name (i := 2) sc_is_places.nd rfl (by first | exact .inl rfl | exact .inr rfl))) (dgs_cons (dg_name (pg_name (i := 3) sc_is_places.nd rfl (by first | exact .inl rfl | exact .inr rfl))) dgs_nil)))) (fun _ _ _ _ _ => dts_nil) (fun _ _ _ _ _ => (de_cmp oa_lt (de_v 2 (pv 2)) (de_v 3 (pv 3)) (nomark _))))) da_nil)))
    dss_nil))
abbrev s__law_draw : Stmt := topS 41
theorem sc__law_draw : FnScope ["deck", "many", "number", "cell"] ["deck", "many"] (defScope s__law_draw) := ⟨rfl, rfl, rfl, by decide +kernel, rfl, by decide +kernel, by decide +kernel⟩
def B__law_draw : M Fl :=
  (sCons (sDraws 0 (dOp addD (dDraws 0) (dC (.int 1))))
    (sCons (sAsg (dOp addD (dMixed 0) (dOp mulD (dC (.int 54181)) (dDraws 0))) (gN 2))
    (sCons (dIf (tCells 0) (sCons (sAsg (dCpop 0) (gN 3))
    (sCons (dIf (tB' (dOp geD (dV 3) (dOp powD (dC (.int 10)) (dC (.int 18))))) (sCons (sCapp 0 (dOp divD (dV 3) (dB max2D (aCons (dC (.int 2)) (aCons (dV 1) aNil)))))
    (sCons (sRet (dOp modD (dB intD (aCons (dV 3) aNil)) (dV 1)))
    sNil)) sNil)
    (sCons (sAsg (dOp addD (dV 2) (dOp modD (dB intD (aCons (dV 3) aNil)) (dC (.int 2147483587)))) (gN 2))
    sNil))) sNil)
    (sCons (sAsg (dOp modD (dB intD (aCons (dOp addD (dOp mulD (dV 2) (dC (.int 48271))) (dC (.int 37))) aNil)) (dC (.int 2147483647))) (gN 2))
    (sCons (sAsg (dOp modD (dB intD (aCons (dOp addD (dOp addD (dOp mulD (dV 2) (dV 2)) (dOp mulD (dC (.int 47303)) (dDraws 0))) (dC (.int 59))) aNil)) (dC (.int 2147483629))) (gN 2))
    (sCons (sAsg (dOp modD (dB intD (aCons (dOp mulD (dV 2) (dC (.int 40014))) aNil)) (dC (.int 2147483563))) (gN 2))
    (sCons (sRet (dOp modD (dB intD (aCons (dOp divD (dV 2) (dC (.int 64))) aNil)) (dV 1)))
    sNil)))))))
def F__law_draw : FD := runD 4 B__law_draw
theorem ok__law_draw {f : Addr} {fd : FuncData} (F : Fun K "_law_draw" "_law_draw" s__law_draw f fd) (b_max : mg "max" = none) (b_int : mg "int" = none) (hd : DnOk T) (hz : T.dn = "draws") : FnD T P w K mg base 1 f fd ["deck", "many"] F__law_draw :=
  fn_d F sc__law_draw fun cdv A outer s H E hr =>
    (dss_cons (ds_draws hr hd hz (pv 0) (de_op oa_add (de_draws hr hd hz (pv 0)) (de_c pe_int fun _ => .int _)))
    (dss_cons (ds_set (i := 2) sc__law_draw.nd rfl (by first | exact .inl rfl | exact .inr rfl) (de_op oa_add (de_mixed hr (pv 0)) (de_op oa_mul (de_c pe_int fun _ => .int _) (de_draws hr hd hz (pv 0)))))
    (dss_cons (ds_if (dt_cells hr (pv 0)) (dss_cons (ds_set (i := 3) sc__law_draw.nd rfl (by first | exact .inl rfl | exact .inr rfl) (de_cpop hr (pv 0) (fun h => pe_bm0 PySem.F.plainAttrs_list PySem.F.slot_list_pop PySem.F.type_list_pop mt_pop h)))
    (dss_cons (ds_if (dt_cmp oa_ge (de_v 3 (pv 3)) (de_op oa_pow (de_c pe_int fun _ => .int _) (de_c pe_int fun _ => .int _)) (nomark _)) (dss_cons (ds_capp hr (pv 0) (de_op oa_div (de_v 3 (pv 3)) (de_callB (ca_max2 rfl) (by rfl) b_max (by decide +kernel) (da_cons (de_c pe_int fun _ => .int _) (da_cons (de_v 1 (pv 1)) da_nil)))) (fun h h2 => pe_bm PySem.F.plainAttrs_list PySem.F.slot_list_append PySem.F.type_list_append mt_append h h2))
    (dss_cons (ds_ret (de_op oa_mod (de_callTy ca_int (by rfl) b_int (by decide +kernel) (da_cons (de_v 3 (pv 3)) da_nil)) (de_v 1 (pv 1))))
    dss_nil)) dss_nil)
    (dss_cons (ds_set (i := 2) sc__law_draw.nd rfl (by first | exact .inl rfl | exact .inr rfl) (de_op oa_add (de_v 2 (pv 2)) (de_op oa_mod (de_callTy ca_int (by rfl) b_int (by decide +kernel) (da_cons (de_v 3 (pv 3)) da_nil)) (de_c pe_int fun _ => .int _))))
    dss_nil))) dss_nil)
    (dss_cons (ds_set (i := 2) sc__law_draw.nd rfl (by first | exact .inl rfl | exact .inr rfl) (de_op oa_mod (de_callTy ca_int (by rfl) b_int (by decide +kernel) (da_cons (de_op oa_add (de_op oa_mul (de_v 2 (pv 2)) (de_c pe_int fun _ => .int _)) (de_c pe_int fun _ => .int _)) da_nil)) (de_c pe_int fun _ => .int _)))
    (dss_cons (ds_set (i := 2) sc__law_draw.nd rfl (by first | exact .inl rfl | exact .inr rfl) (de_op oa_mod (de_callTy ca_int (by rfl) b_int (by decide +kernel) (da_cons (de_op oa_add (de_op oa_add (de_op oa_mul (de_v 2 (pv 2)) (de_v 2 (pv 2))) (de_op oa_mul (de_c pe_int fun _ => .int _) (de_draws hr hd hz (pv 0)))) (de_c pe_int fun _ => .int _)) da_nil)) (de_c pe_int fun _ => .int _)))
    (dss_cons (ds_set (i := 2) sc__law_draw.nd rfl (by first | exact .inl rfl | exact .inr rfl) (de_op oa_mod (de_callTy ca_int (by rfl) b_int (by decide +kernel) (da_cons (de_op oa_mul (de_v 2 (pv 2)) (de_c pe_int fun _ => .int _)) da_nil)) (de_c pe_int fun _ => .int _)))
    (dss_cons (ds_ret (de_op oa_mod (de_callTy ca_int (by rfl) b_int (by decide +kernel) (da_cons (de_op oa_div (de_v 2 (pv 2)) (de_c pe_int fun _ => .int _)) da_nil)) (de_v 1 (pv 1))))
    dss_nil)))))))
abbrev s__law_pick : Stmt := topS 42
theorem sc__law_pick : FnScope ["deck", "some"] ["deck", "some"] (defScope s__law_pick) := ⟨rfl, rfl, rfl, by decide +kernel, rfl, by decide +kernel, by decide +kernel⟩
def B__law_pick : M Fl :=
  (sCons (sRet (dOp ixD (dV 1) (dCall F__law_draw (aCons (dV 0) (aCons (dB lenD (aCons (dV 1) aNil)) aNil)))))
    sNil)
def F__law_pick : FD := runD 2 B__law_pick
theorem ok__law_pick {f : Addr} {fd : FuncData} (F : Fun K "_law_pick" "_law_pick" s__law_pick f fd) (h__law_draw : Has T P w K mg base 1 "_law_draw" s__law_draw ["deck", "many"] F__law_draw) (b_len : mg "len" = none) : FnD T P w K mg base 2 f fd ["deck", "some"] F__law_pick :=
  fn_d F sc__law_pick fun cdv A outer s H E hr =>
    (dss_cons (ds_ret (de_ix (de_v 1 (pv 1)) (de_callH h__law_draw (RoomG.mono hr (by decide)) (by rfl) (da_cons (de_v 0 (pv 0)) (da_cons (de_callB ca_len (by rfl) b_len (by decide +kernel) (da_cons (de_v 1 (pv 1)) da_nil)) da_nil)) (len_cons (len_cons (len_nil)))) (fun _ _ => rfl)))
    dss_nil)
abbrev s__law_inverse : Stmt := topS 43
theorem sc__law_inverse : FnScope ["q", "x", "y"] ["q", "x"] (defScope s__law_inverse) := ⟨rfl, rfl, rfl, by decide +kernel, rfl, by decide +kernel, by decide +kernel⟩
def B__law_inverse : M Fl :=
  (sCons (sRet (dOp ixD (dF (dLc (iR2 (aCons (dC (.int 1)) (aCons (dV 0) aNil))) [2] (gN 2) (tB' (dOp eqD (dOp modD (dB intD (aCons (dOp mulD (dV 1) (dV 2)) aNil)) (dV 0)) (dC (.int 1)))) (dV 2))) (dC (.int 0))))
    sNil)
def F__law_inverse : FD := runD 3 B__law_inverse
theorem ok__law_inverse {f : Addr} {fd : FuncData} (F : Fun K "_law_inverse" "_law_inverse" s__law_inverse f fd) (b_range : mg "range" = none) (b_int : mg "int" = none) : FnD T P w K mg base 1 f fd ["q", "x"] F__law_inverse :=
  fn_d F sc__law_inverse fun cdv A outer s H E hr =>
    (dss_cons (ds_ret (de_ix (de_new (df_lc (own := [("y", 2)]) (js := [2]) rfl sc__law_inverse.nd (di_range2 (by rfl) b_range (da_cons (de_c pe_int fun _ => .int _) (da_cons (de_v 0 (pv 0)) da_nil))) (blk_ok (by kernel_rfl) (by kernel_rfl)) (by decide) (fun _ _ _ _ _ => (dg_name (pg_name (i := 2) sc__law_inverse.nd rfl (by first | exact .inl rfl | exact .inr rfl)))) (fun _ _ _ _ _ => (dts_one (dt_cmp (oa_eq hr.rm.units) (de_op oa_mod (de_callTy ca_int (by rfl) b_int (by decide +kernel) (da_cons (de_op oa_mul (de_v 1 (pv 1)) (de_v 2 (pv 2))) da_nil)) (de_v 0 (pv 0))) (de_c pe_int fun _ => .int _) (nomark _)))) (fun _ _ _ _ _ => (de_v 2 (pv 2))))) (de_c pe_int fun _ => .int _) (fun _ _ => rfl)))
    dss_nil)
abbrev s__law_plus : Stmt := topS 44
theorem sc__law_plus : FnScope ["q", "one", "other", "times_v", "x", "y"] ["q", "one", "other", "times_v"] (defScope s__law_plus) := ⟨rfl, rfl, rfl, by decide +kernel, rfl, by decide +kernel, by decide +kernel⟩
def B__law_plus : M Fl :=
  (sCons (sRet (dB tupD (aCons (dF (dLc (iZip (aCons (dV 1) (aCons (dV 2) aNil))) [4, 5] (gT 2 (gsCons (gN 4) (gsCons (gN 5) gsNil))) tAll (dOp modD (dB intD (aCons (dOp addD (dV 4) (dOp mulD (dV 3) (dV 5))) aNil)) (dV 0)))) aNil)))
    sNil)
def F__law_plus : FD := runD 6 B__law_plus
theorem ok__law_plus {f : Addr} {fd : FuncData} (F : Fun K "_law_plus" "_law_plus" s__law_plus f fd) (b_zip : mg "zip" = none) (b_int : mg "int" = none) (b_tuple : mg "tuple" = none) : FnD T P w K mg base 1 f fd ["q", "one", "other", "times_v"] F__law_plus :=
  fn_d F sc__law_plus fun cdv A outer s H E hr =>
    (dss_cons (ds_ret (de_callTy ca_tuple (by rfl) b_tuple (by decide +kernel) (da_cons (de_new (df_lc (own := [("x", 4), ("y", 5)]) (js := [4, 5]) rfl sc__law_plus.nd (di_zip (by rfl) b_zip (da_cons (de_v 1 (pv 1)) (da_cons (de_v 2 (pv 2)) da_nil))) (blk_ok (by kernel_rfl) (by kernel_rfl)) (by decide) (fun _ _ _ _ _ => (dg_tup rfl (dgs_cons (dg_name (pg_name (i := 4) sc__law_plus.nd rfl (by first | exact .inl rfl | exact .inr rfl))) (dgs_cons (dg_name (pg_name (i := 5) sc__law_plus.nd rfl (by first | exact .inl rfl | exact .inr rfl))) dgs_nil)))) (fun _ _ _ _ _ => dts_nil) (fun _ _ _ _ _ => (de_op oa_mod (de_callTy ca_int (by rfl) b_int (by decide +kernel) (da_cons (de_op oa_add (de_v 4 (pv 4)) (de_op oa_mul (de_v 3 (pv 3)) (de_v 5 (pv 5)))) da_nil)) (de_v 0 (pv 0)))))) da_nil)))
    dss_nil)
abbrev s__law_times : Stmt := topS 45
theorem sc__law_times : FnScope ["q", "row", "times_v", "x"] ["q", "row", "times_v"] (defScope s__law_times) := ⟨rfl, rfl, rfl, by decide +kernel, rfl, by decide +kernel, by decide +kernel⟩
def B__law_times : M Fl :=
  (sCons (sRet (dB tupD (aCons (dF (dLc (iItems (dV 1)) [3] (gN 3) tAll (dOp modD (dB intD (aCons (dOp mulD (dV 3) (dV 2)) aNil)) (dV 0)))) aNil)))
    sNil)
def F__law_times : FD := runD 4 B__law_times
theorem ok__law_times {f : Addr} {fd : FuncData} (F : Fun K "_law_times" "_law_times" s__law_times f fd) (b_int : mg "int" = none) (b_tuple : mg "tuple" = none) : FnD T P w K mg base 1 f fd ["q", "row", "times_v"] F__law_times :=
  fn_d F sc__law_times fun cdv A outer s H E hr =>
    (dss_cons (ds_ret (de_callTy ca_tuple (by rfl) b_tuple (by decide +kernel) (da_cons (de_new (df_lc (own := [("x", 3)]) (js := [3]) rfl sc__law_times.nd (di_seq (de_v 1 (pv 1))) (blk_ok (by kernel_rfl) (by kernel_rfl)) (by decide) (fun _ _ _ _ _ => (dg_name (pg_name (i := 3) sc__law_times.nd rfl (by first | exact .inl rfl | exact .inr rfl)))) (fun _ _ _ _ _ => dts_nil) (fun _ _ _ _ _ => (de_op oa_mod (de_callTy ca_int (by rfl) b_int (by decide +kernel) (da_cons (de_op oa_mul (de_v 3 (pv 3)) (de_v 2 (pv 2))) da_nil)) (de_v 0 (pv 0)))))) da_nil)))
    dss_nil)
abbrev s__law_first : Stmt := topS 46
theorem sc__law_first : FnScope ["row", "at", "x"] ["row"] (defScope s__law_first) := ⟨rfl, rfl, rfl, by decide +kernel, rfl, by decide +kernel, by decide +kernel⟩
def B__law_first : M Fl :=
  (sCons (sRet (dOp ixD (dF (dLc (iEnumD (aCons (dV 0) aNil)) [1, 2] (gT 2 (gsCons (gN 1) (gsCons (gN 2) gsNil))) (tB' (dOp neD (dV 2) (dC (.int 0)))) (dV 1))) (dC (.int 0))))
    sNil)
def F__law_first : FD := runD 3 B__law_first
theorem ok__law_first {f : Addr} {fd : FuncData} (F : Fun K "_law_first" "_law_first" s__law_first f fd) (b_enumerate : mg "enumerate" = none) : FnD T P w K mg base 1 f fd ["row"] F__law_first :=
  fn_d F sc__law_first fun cdv A outer s H E hr =>
    (dss_cons (ds_ret (de_ix (de_new (df_lc (own := [("at", 1), ("x", 2)]) (js := [1, 2]) rfl sc__law_first.nd (di_enum (by rfl) b_enumerate (da_cons (de_v 0 (pv 0)) da_nil)) (blk_ok (by kernel_rfl) (by kernel_rfl)) (by decide) (fun _ _ _ _ _ => (dg_tup rfl (dgs_cons (dg_name (pg_name (i := 1) sc__law_first.nd rfl (by first | exact .inl rfl | exact .inr rfl))) (dgs_cons (dg_name (pg_name (i := 2) sc__law_first.nd rfl (by first | exact .inl rfl | exact .inr rfl))) dgs_nil)))) (fun _ _ _ _ _ => (dts_one (dt_cmp (oa_ne hr.rm.units) (de_v 2 (pv 2)) (de_c pe_int fun _ => .int _) (nomark _)))) (fun _ _ _ _ _ => (de_v 1 (pv 1))))) (de_c pe_int fun _ => .int _) (fun _ _ => rfl)))
    dss_nil)
abbrev s__law_plain : Stmt := topS 47
theorem sc__law_plain : FnScope ["q", "rows", "found", "row", "other", "at", "x"] ["q", "rows"] (defScope s__law_plain) := ⟨rfl, rfl, rfl, by decide +kernel, rfl, by decide +kernel, by decide +kernel⟩
def B__law_plain : M Fl :=
  (sCons (sAsg (dF (dLst aNil)) (gN 2))
    (sCons (dFor (iItems (dV 1)) (gN 3) (sCons (dFor (iItems (dV 2)) (gN 4) (sCons (sAsg (dCall F__law_plus (aCons (dV 0) (aCons (dV 3) (aCons (dV 4) (aCons (dNeg (dOp ixD (dV 3) (dCall F__law_first (aCons (dV 4) aNil)))) aNil))))) (gN 3))
    sNil))
    (sCons (dIf (tB' (dOp neD (dF (dLc (iItems (dV 3)) [6] (gN 6) (tB' (dOp neD (dV 6) (dC (.int 0)))) (dV 6))) (dF (dLst aNil)))) (sCons (sAsg (dCall F__law_first (aCons (dV 3) aNil)) (gN 5))
    (sCons (sAsg (dCall F__law_times (aCons (dV 0) (aCons (dV 3) (aCons (dCall F__law_inverse (aCons (dV 0) (aCons (dOp ixD (dV 3) (dV 5)) aNil))) aNil)))) (gN 3))
    (sCons (sAsg (dOp addD (dF (dLc (iItems (dV 2)) [4] (gN 4) tAll (dCall F__law_plus (aCons (dV 0) (aCons (dV 4) (aCons (dV 3) (aCons (dNeg (dOp ixD (dV 4) (dV 5))) aNil))))))) (dF (dLst (aCons (dV 3) aNil)))) (gN 2))
    sNil))) sNil)
    sNil)))
    (sCons (sRet (dB tupD (aCons (dSortR true (aCons (dV 2) aNil)) aNil)))
    sNil)))
def F__law_plain : FD := runD 7 B__law_plain
theorem ok__law_plain {f : Addr} {fd : FuncData} (F : Fun K "_law_plain" "_law_plain" s__law_plain f fd) (h__law_plus : Has T P w K mg base 1 "_law_plus" s__law_plus ["q", "one", "other", "times_v"] F__law_plus) (h__law_first : Has T P w K mg base 1 "_law_first" s__law_first ["row"] F__law_first) (h__law_times : Has T P w K mg base 1 "_law_times" s__law_times ["q", "row", "times_v"] F__law_times) (h__law_inverse : Has T P w K mg base 1 "_law_inverse" s__law_inverse ["q", "x"] F__law_inverse) (b_sorted : mg "sorted" = none) (b_tuple : mg "tuple" = none) : FnD T P w K mg base 2 f fd ["q", "rows"] F__law_plain :=
  fn_d F sc__law_plain fun cdv A outer s H E hr =>
    (dss_cons (ds_set (i := 2) sc__law_plain.nd rfl (by first | exact .inl rfl | exact .inr rfl) (de_new (df_lst da_nil)))
    (dss_cons (ds_for PassesOwn.never rfl (di_seq (de_v 1 (pv 1))) (dg_name (pg_name (i := 3) sc__law_plain.nd rfl (by first | exact .inl rfl | exact .inr rfl))) (dss_cons (ds_for PassesOwn.never rfl (di_seq (de_v 2 (pv 2))) (dg_name (pg_name (i := 4) sc__law_plain.nd rfl (by first | exact .inl rfl | exact .inr rfl))) (dss_cons (ds_set (i := 3) sc__law_plain.nd rfl (by first | exact .inl rfl | exact .inr rfl) (de_callH h__law_plus (RoomG.mono hr (by decide)) (by rfl) (da_cons (de_v 0 (pv 0)) (da_cons (de_v 3 (pv 3)) (da_cons (de_v 4 (pv 4)) (da_cons (de_neg (de_ix (de_v 3 (pv 3)) (de_callH h__law_first (RoomG.mono hr (by decide)) (by rfl) (da_cons (de_v 4 (pv 4)) da_nil) (len_cons (len_nil))) (fun _ _ => rfl))) da_nil)))) (len_cons (len_cons (len_cons (len_cons (len_nil)))))))
    dss_nil))
    (dss_cons (ds_if (dt_cmp (oa_ne hr.rm.units) (de_new (df_lc (own := [("x", 6)]) (js := [6]) rfl sc__law_plain.nd (di_seq (de_v 3 (pv 3))) (blk_ok (by kernel_rfl) (by kernel_rfl)) (by decide) (fun _ _ _ _ _ => (dg_name (pg_name (i := 6) sc__law_plain.nd rfl (by first | exact .inl rfl | exact .inr rfl)))) (fun _ _ _ _ _ => (dts_one (dt_cmp (oa_ne hr.rm.units) (de_v 6 (pv 6)) (de_c pe_int fun _ => .int _) (nomark _)))) (fun _ _ _ _ _ => (de_v 6 (pv 6))))) (de_new (df_lst da_nil)) (nomark _)) (dss_cons (ds_set (i := 5) sc__law_plain.nd rfl (by first | exact .inl rfl | exact .inr rfl) (de_callH h__law_first (RoomG.mono hr (by decide)) (by rfl) (da_cons (de_v 3 (pv 3)) da_nil) (len_cons (len_nil))))
    (dss_cons (ds_set (i := 3) sc__law_plain.nd rfl (by first | exact .inl rfl | exact .inr rfl) (de_callH h__law_times (RoomG.mono hr (by decide)) (by rfl) (da_cons (de_v 0 (pv 0)) (da_cons (de_v 3 (pv 3)) (da_cons (de_callH h__law_inverse (RoomG.mono hr (by decide)) (by rfl) (da_cons (de_v 0 (pv 0)) (da_cons (de_ix (de_v 3 (pv 3)) (de_v 5 (pv 5)) (fun _ _ => rfl)) da_nil)) (len_cons (len_cons (len_nil)))) da_nil))) (len_cons (len_cons (len_cons (len_nil))))))
    (dss_cons (ds_set (i := 2) sc__law_plain.nd rfl (by first | exact .inl rfl | exact .inr rfl) (de_op oa_add (de_new (df_lc (own := [("other", 4)]) (js := [4]) rfl sc__law_plain.nd (di_seq (de_v 2 (pv 2))) (blk_ok (by kernel_rfl) (by kernel_rfl)) (by decide) (fun _ _ _ _ _ => (dg_name (pg_name (i := 4) sc__law_plain.nd rfl (by first | exact .inl rfl | exact .inr rfl)))) (fun _ _ _ _ _ => dts_nil) (fun _ _ _ _ _ => (de_callH h__law_plus (RoomG.mono hr (by decide)) (by rfl) (da_cons (de_v 0 (pv 0)) (da_cons (de_v 4 (pv 4)) (da_cons (de_v 3 (pv 3)) (da_cons (de_neg (de_ix (de_v 4 (pv 4)) (de_v 5 (pv 5)) (fun _ _ => rfl))) da_nil)))) (len_cons (len_cons (len_cons (len_cons (len_nil))))))))) (de_new (df_lst (da_cons (de_v 3 (pv 3)) da_nil)))))
    dss_nil))) dss_nil)
    dss_nil)))
    (dss_cons (ds_ret (de_callTy ca_tuple (by rfl) b_tuple (by decide +kernel) (da_cons (de_sortR (by rfl) b_sorted (by decide +kernel) (da_cons (de_v 2 (pv 2)) da_nil) (pk_cons pe_bl pk_nil)) da_nil)))
    dss_nil)))
abbrev s__law_sums : Stmt := topS 48
theorem sc__law_sums : FnScope ["q", "n", "rows", "found", "row", "later", "times_v", "some"] ["q", "n", "rows"] (defScope s__law_sums) := ⟨rfl, rfl, rfl, by decide +kernel, rfl, by decide +kernel, by decide +kernel⟩
def B__law_sums : M Fl :=
  (sCons (sAsg (dF (dLst (aCons (dOp mulD (dTup (aCons (dC (.int 0)) aNil)) (dV 1)) aNil))) (gN 3))
    (sCons (dFor (iItems (dV 2)) (gN 4) (sCons (sOwn 5 (dLst aNil))
    (sCons (dFor (iR1 (aCons (dV 0) aNil)) (gN 6) (sCons (sExt 5 (dF (dLc (iItems (dV 3)) [7] (gN 7) tAll (dCall F__law_plus (aCons (dV 0) (aCons (dV 7) (aCons (dV 4) (aCons (dV 6) aNil))))))))
    sNil))
    (sCons (sPre 5 (sAsg (dV 5) (gN 3)))
    sNil))))
    (sCons (sRet (dB sortedD (aCons (dV 3) aNil)))
    sNil)))
def F__law_sums : FD := runD 8 B__law_sums
theorem ok__law_sums {f : Addr} {fd : FuncData} (F : Fun K "_law_sums" "_law_sums" s__law_sums f fd) (h__law_plus : Has T P w K mg base 1 "_law_plus" s__law_plus ["q", "one", "other", "times_v"] F__law_plus) (b_range : mg "range" = none) (b_sorted : mg "sorted" = none) : FnD T P w K mg base 2 f fd ["q", "n", "rows"] F__law_sums :=
  fn_d F sc__law_sums fun cdv A outer s H E hr =>
    (dss_cons (ds_set (i := 3) sc__law_sums.nd rfl (by first | exact .inl rfl | exact .inr rfl) (de_new (df_lst (da_cons (de_op oa_mul (de_tup (da_cons (de_c pe_int fun _ => .int _) da_nil)) (de_v 1 (pv 1))) da_nil))))
    (dss_cons (ds_for PassesOwn.never rfl (di_seq (de_v 2 (pv 2))) (dg_name (pg_name (i := 4) sc__law_sums.nd rfl (by first | exact .inl rfl | exact .inr rfl))) (dss_cons (ds_own (i := 5) sc__law_sums.nd rfl (by first | exact .inl rfl | exact .inr rfl) (df_lst da_nil))
    (dss_cons (ds_for PassesOwn.never rfl (di_range1 (by rfl) b_range (da_cons (de_v 0 (pv 0)) da_nil)) (dg_name (pg_name (i := 6) sc__law_sums.nd rfl (by first | exact .inl rfl | exact .inr rfl))) (dss_cons (ds_ext (i := 5) (de_new (df_lc (own := [("some", 7)]) (js := [7]) rfl sc__law_sums.nd (di_seq (de_v 3 (pv 3))) (blk_ok (by kernel_rfl) (by kernel_rfl)) (by decide) (fun _ _ _ _ _ => (dg_name (pg_name (i := 7) sc__law_sums.nd rfl (by first | exact .inl rfl | exact .inr rfl)))) (fun _ _ _ _ _ => dts_nil) (fun _ _ _ _ _ => (de_callH h__law_plus (RoomG.mono hr (by decide)) (by rfl) (da_cons (de_v 0 (pv 0)) (da_cons (de_v 7 (pv 7)) (da_cons (de_v 4 (pv 4)) (da_cons (de_v 6 (pv 6)) da_nil)))) (len_cons (len_cons (len_cons (len_cons (len_nil))))))))) (fun t h => pe_bm PySem.F.plainAttrs_list PySem.F.slot_list_extend PySem.F.type_list_extend mt_extR (pv 5) h))
    dss_nil))
    (dss_cons (ds_pre 5 (ds_set (i := 3) sc__law_sums.nd rfl (by first | exact .inl rfl | exact .inr rfl) (de_v 5 (pv 5))))
    dss_nil))))
    (dss_cons (ds_ret (de_callB ca_sorted (by rfl) b_sorted (by decide +kernel) (da_cons (de_v 3 (pv 3)) da_nil)))
    dss_nil)))
abbrev s__law_drawn_row : Stmt := topS 49
theorem sc__law_drawn_row : FnScope ["deck", "q", "n", "share", "i"] ["deck", "q", "n"] (defScope s__law_drawn_row) := ⟨rfl, rfl, rfl, by decide +kernel, rfl, by decide +kernel, by decide +kernel⟩
def B__law_drawn_row : M Fl :=
  (sCons (sAsg (dCall F__law_pick (aCons (dV 0) (aCons (dF (dLst (aCons (dC (.int 1)) (aCons (dC (.int 2)) (aCons (dC (.int 3)) aNil))))) aNil))) (gN 3))
    (sCons (sRet (dB tupD (aCons (dF (dLc (iR1 (aCons (dV 2) aNil)) [4] (gN 4) tAll (dIf (tB' (dOp eqD (dCall F__law_draw (aCons (dV 0) (aCons (dV 3) aNil))) (dC (.int 0)))) (dCall F__law_draw (aCons (dV 0) (aCons (dV 1) aNil))) (dC (.int 0))))) aNil)))
    sNil))
def F__law_drawn_row : FD := runD 5 B__law_drawn_row
theorem ok__law_drawn_row {f : Addr} {fd : FuncData} (F : Fun K "_law_drawn_row" "_law_drawn_row" s__law_drawn_row f fd) (h__law_pick : Has T P w K mg base 2 "_law_pick" s__law_pick ["deck", "some"] F__law_pick) (h__law_draw : Has T P w K mg base 1 "_law_draw" s__law_draw ["deck", "many"] F__law_draw) (b_range : mg "range" = none) (b_tuple : mg "tuple" = none) : FnD T P w K mg base 3 f fd ["deck", "q", "n"] F__law_drawn_row :=
  fn_d F sc__law_drawn_row fun cdv A outer s H E hr =>
    (dss_cons (ds_set (i := 3) sc__law_drawn_row.nd rfl (by first | exact .inl rfl | exact .inr rfl) (de_callH h__law_pick (RoomG.mono hr (by decide)) (by rfl) (da_cons (de_v 0 (pv 0)) (da_cons (de_new (df_lst (da_cons (de_c pe_int fun _ => .int _) (da_cons (de_c pe_int fun _ => .int _) (da_cons (de_c pe_int fun _ => .int _) da_nil))))) da_nil)) (len_cons (len_cons (len_nil)))))
    (dss_cons (ds_ret (de_callTy ca_tuple (by rfl) b_tuple (by decide +kernel) (da_cons (de_new (df_lc (own := [("i", 4)]) (js := [4]) rfl sc__law_drawn_row.nd (di_range1 (by rfl) b_range (da_cons (de_v 2 (pv 2)) da_nil)) (blk_ok (by kernel_rfl) (by kernel_rfl)) (by decide) (fun _ _ _ _ _ => (dg_name (pg_name (i := 4) sc__law_drawn_row.nd rfl (by first | exact .inl rfl | exact .inr rfl)))) (fun _ _ _ _ _ => dts_nil) (fun _ _ _ _ _ => (de_if (dt_cmp (oa_eq hr.rm.units) (de_callH h__law_draw (RoomG.mono hr (by decide)) (by rfl) (da_cons (de_v 0 (pv 0)) (da_cons (de_v 3 (pv 3)) da_nil)) (len_cons (len_cons (len_nil)))) (de_c pe_int fun _ => .int _) (nomark _)) (de_callH h__law_draw (RoomG.mono hr (by decide)) (by rfl) (da_cons (de_v 0 (pv 0)) (da_cons (de_v 1 (pv 1)) da_nil)) (len_cons (len_cons (len_nil)))) (de_c pe_int fun _ => .int _))))) da_nil)))
    dss_nil))
abbrev s__law_sizes : Stmt := topS 50
theorem sc__law_sizes : FnScope ["deck", "some"] ["deck"] (defScope s__law_sizes) := ⟨rfl, rfl, rfl, by decide +kernel, rfl, by decide +kernel, by decide +kernel⟩
def B__law_sizes : M Fl :=
  (sCons (sAsg (dF (dLst (aCons (dTup (aCons (dC (.int 2)) (aCons (dC (.int 4)) aNil))) (aCons (dTup (aCons (dC (.int 2)) (aCons (dC (.int 5)) aNil))) (aCons (dTup (aCons (dC (.int 2)) (aCons (dC (.int 3)) aNil))) (aCons (dTup (aCons (dC (.int 3)) (aCons (dC (.int 3)) aNil))) (aCons (dTup (aCons (dC (.int 2)) (aCons (dC (.int 6)) aNil))) (aCons (dTup (aCons (dC (.int 3)) (aCons (dC (.int 4)) aNil))) (aCons (dTup (aCons (dC (.int 2)) (aCons (dC (.int 4)) aNil))) (aCons (dTup (aCons (dC (.int 5)) (aCons (dC (.int 2)) aNil))) (aCons (dTup (aCons (dC (.int 2)) (aCons (dC (.int 5)) aNil))) (aCons (dTup (aCons (dC (.int 5)) (aCons (dC (.int 3)) aNil))) (aCons (dTup (aCons (dC (.int 3)) (aCons (dC (.int 2)) aNil))) aNil))))))))))))) (gN 1))
    (sCons (sRet (dCall F__law_pick (aCons (dV 0) (aCons (dOp addD (dV 1) (dF (dLst (aCons (dTup (aCons (dC (.int 2)) (aCons (dC (.int 2)) aNil))) (aCons (dTup (aCons (dC (.int 2)) (aCons (dC (.int 7)) aNil))) (aCons (dTup (aCons (dC (.int 3)) (aCons (dC (.int 5)) aNil))) aNil)))))) aNil))))
    sNil))
def F__law_sizes : FD := runD 2 B__law_sizes
theorem ok__law_sizes {f : Addr} {fd : FuncData} (F : Fun K "_law_sizes" "_law_sizes" s__law_sizes f fd) (h__law_pick : Has T P w K mg base 2 "_law_pick" s__law_pick ["deck", "some"] F__law_pick) : FnD T P w K mg base 3 f fd ["deck"] F__law_sizes :=
  fn_d F sc__law_sizes fun cdv A outer s H E hr =>
    (dss_cons (ds_set (i := 1) sc__law_sizes.nd rfl (by first | exact .inl rfl | exact .inr rfl) (de_new (df_lst (da_cons (de_tup (da_cons (de_c pe_int fun _ => .int _) (da_cons (de_c pe_int fun _ => .int _) da_nil))) (da_cons (de_tup (da_cons (de_c pe_int fun _ => .int _) (da_cons (de_c pe_int fun _ => .int _) da_nil))) (da_cons (de_tup (da_cons (de_c pe_int fun _ => .int _) (da_cons (de_c pe_int fun _ => .int _) da_nil))) (da_cons (de_tup (da_cons (de_c pe_int fun _ => .int _) (da_cons (de_c pe_int fun _ => .int _) da_nil))) (da_cons (de_tup (da_cons (de_c pe_int fun _ => .int _) (da_cons (de_c pe_int fun _ => .int _) da_nil))) (da_cons (de_tup (da_cons (de_c pe_int fun _ => .int _) (da_cons (de_c pe_int fun _ => .int _) da_nil))) (da_cons (de_tup (da_cons (de_c pe_int fun _ => .int _) (da_cons (de_c pe_int fun _ => .int _) da_nil))) (da_cons (de_tup (da_cons (de_c pe_int fun _ => .int _) (da_cons (de_c pe_int fun _ => .int _) da_nil))) (da_cons (de_tup (da_cons (de_c pe_int fun _ => .int _) (da_cons (de_c pe_int fun _ => .int _) da_nil))) (da_cons (de_tup (da_cons (de_c pe_int fun _ => .int _) (da_cons (de_c pe_int fun _ => .int _) da_nil))) (da_cons (de_tup (da_cons (de_c pe_int fun _ => .int _) (da_cons (de_c pe_int fun _ => .int _) da_nil))) da_nil))))))))))))))
    (dss_cons (ds_ret (de_callH h__law_pick (RoomG.mono hr (by decide)) (by rfl) (da_cons (de_v 0 (pv 0)) (da_cons (de_op oa_add (de_v 1 (pv 1)) (de_new (df_lst (da_cons (de_tup (da_cons (de_c pe_int fun _ => .int _) (da_cons (de_c pe_int fun _ => .int _) da_nil))) (da_cons (de_tup (da_cons (de_c pe_int fun _ => .int _) (da_cons (de_c pe_int fun _ => .int _) da_nil))) (da_cons (de_tup (da_cons (de_c pe_int fun _ => .int _) (da_cons (de_c pe_int fun _ => .int _) da_nil))) da_nil)))))) da_nil)) (len_cons (len_cons (len_nil)))))
    dss_nil))
abbrev s__law_drawn_book : Stmt := topS 51
theorem sc__law_drawn_book : FnScope ["deck", "q", "n", "rows", "go"] ["deck", "q", "n"] (defScope s__law_drawn_book) := ⟨rfl, rfl, rfl, by decide +kernel, rfl, by decide +kernel, by decide +kernel⟩
def B__law_drawn_book : M Fl :=
  (sCons (sFrz 3 (sOwn 3 (dLc (iR1 (aCons (dCall F__law_draw (aCons (dV 0) (aCons (dOp addD (dV 2) (dC (.int 1))) aNil))) aNil)) [4] (gN 4) tAll (dCall F__law_drawn_row (aCons (dV 0) (aCons (dV 1) (aCons (dV 2) aNil)))))))
    (sCons (sRet (dTup (aCons (dV 1) (aCons (dV 2) (aCons (dCall F__law_plain (aCons (dV 1) (aCons (dV 3) aNil))) aNil)))))
    sNil))
def F__law_drawn_book : FD := runD 5 B__law_drawn_book
theorem ok__law_drawn_book {f : Addr} {fd : FuncData} (F : Fun K "_law_drawn_book" "_law_drawn_book" s__law_drawn_book f fd) (h__law_draw : Has T P w K mg base 1 "_law_draw" s__law_draw ["deck", "many"] F__law_draw) (h__law_drawn_row : Has T P w K mg base 3 "_law_drawn_row" s__law_drawn_row ["deck", "q", "n"] F__law_drawn_row) (h__law_plain : Has T P w K mg base 2 "_law_plain" s__law_plain ["q", "rows"] F__law_plain) (b_range : mg "range" = none) : FnD T P w K mg base 4 f fd ["deck", "q", "n"] F__law_drawn_book :=
  fn_d F sc__law_drawn_book fun cdv A outer s H E hr =>
    (dss_cons (ds_frz 3 (ds_ownLc (i := 3) (own := [("go", 4)]) (js := [4]) rfl sc__law_drawn_book.nd rfl rfl (by kernel_rfl) (di_range1 (by rfl) b_range (da_cons (de_callH h__law_draw (RoomG.mono hr (by decide)) (by rfl) (da_cons (de_v 0 (pv 0)) (da_cons (de_op oa_add (de_v 2 (pv 2)) (de_c pe_int fun _ => .int _)) da_nil)) (len_cons (len_cons (len_nil)))) da_nil)) (blk_ok (by kernel_rfl) (by kernel_rfl)) (by decide) (fun _ _ _ _ _ => (dg_name (pg_name (i := 4) sc__law_drawn_book.nd rfl (by first | exact .inl rfl | exact .inr rfl)))) (fun _ _ _ _ _ => dts_nil) (fun _ _ _ _ _ => (de_callH h__law_drawn_row (RoomG.mono hr (by decide)) (by rfl) (da_cons (de_v 0 (pv 0)) (da_cons (de_v 1 (pv 1)) (da_cons (de_v 2 (pv 2)) da_nil))) (len_cons (len_cons (len_cons (len_nil))))))))
    (dss_cons (ds_ret (de_tup (da_cons (de_v 1 (pv 1)) (da_cons (de_v 2 (pv 2)) (da_cons (de_callH h__law_plain (RoomG.mono hr (by decide)) (by rfl) (da_cons (de_v 1 (pv 1)) (da_cons (de_v 3 (pv 3)) da_nil)) (len_cons (len_cons (len_nil)))) da_nil)))))
    dss_nil))
abbrev s__law_within : Stmt := topS 52
theorem sc__law_within : FnScope ["q", "n", "words", "places", "word", "at", "x"] ["q", "n", "words", "places"] (defScope s__law_within) := ⟨rfl, rfl, rfl, by decide +kernel, rfl, by decide +kernel, by decide +kernel⟩
def B__law_within : M Fl :=
  (sCons (sRet (dCall F__law_plain (aCons (dV 0) (aCons (dF (dLc (iItems (dV 2)) [4] (gN 4) (tB' (dOp eqD (dF (dLc (iEnumD (aCons (dV 4) aNil)) [5, 6] (gT 2 (gsCons (gN 5) (gsCons (gN 6) gsNil))) (tAndD (tB' (dOp neD (dV 6) (dC (.int 0)))) (tB' (dOp ninD (dV 5) (dV 3)))) (dC (.int 1)))) (dF (dLst aNil)))) (dV 4))) aNil))))
    sNil)
def F__law_within : FD := runD 7 B__law_within
theorem ok__law_within {f : Addr} {fd : FuncData} (F : Fun K "_law_within" "_law_within" s__law_within f fd) (h__law_plain : Has T P w K mg base 2 "_law_plain" s__law_plain ["q", "rows"] F__law_plain) (b_enumerate : mg "enumerate" = none) : FnD T P w K mg base 3 f fd ["q", "n", "words", "places"] F__law_within :=
  fn_d F sc__law_within fun cdv A outer s H E hr =>
    (dss_cons (ds_ret (de_callH h__law_plain (RoomG.mono hr (by decide)) (by rfl) (da_cons (de_v 0 (pv 0)) (da_cons (de_new (df_lc (own := [("word", 4)]) (js := [4]) rfl sc__law_within.nd (di_seq (de_v 2 (pv 2))) (blk_ok (by kernel_rfl) (by kernel_rfl)) (by decide) (fun _ _ _ _ _ => (dg_name (pg_name (i := 4) sc__law_within.nd rfl (by first | exact .inl rfl | exact .inr rfl)))) (fun _ _ _ _ _ => (dts_one (dt_cmp (oa_eq hr.rm.units) (de_new (df_lc (own := [("at", 5), ("x", 6)]) (js := [5, 6]) rfl sc__law_within.nd (di_enum (by rfl) b_enumerate (da_cons (de_v 4 (pv 4)) da_nil)) (blk_ok (by kernel_rfl) (by kernel_rfl)) (by decide) (fun _ _ _ _ _ => (dg_tup rfl (dgs_cons (dg_name (pg_name (i := 5) sc__law_within.nd rfl (by first | exact .inl rfl | exact .inr rfl))) (dgs_cons (dg_name (pg_name (i := 6) sc__law_within.nd rfl (by first | exact .inl rfl | exact .inr rfl))) dgs_nil)))) (fun _ _ _ _ _ => (dts_one (PW.pt (dw_and (dt_cmp (oa_ne hr.rm.units) (de_v 6 (pv 6)) (de_c pe_int fun _ => .int _) (nomark _)) (dw_and1 (dt_cmp (oa_nin (units65 hr)) (de_v 5 (pv 5)) (de_v 3 (pv 3)) (by rfl))))))) (fun _ _ _ _ _ => (de_c pe_int fun _ => .int _)))) (de_new (df_lst da_nil)) (nomark _)))) (fun _ _ _ _ _ => (de_v 4 (pv 4))))) da_nil)) (len_cons (len_cons (len_nil)))))
    dss_nil)
abbrev s__law_drawn_places : Stmt := topS 53
theorem sc__law_drawn_places : FnScope ["deck", "n", "share", "at"] ["deck", "n"] (defScope s__law_drawn_places) := ⟨rfl, rfl, rfl, by decide +kernel, rfl, by decide +kernel, by decide +kernel⟩
def B__law_drawn_places : M Fl :=
  (sCons (sAsg (dCall F__law_pick (aCons (dV 0) (aCons (dF (dLst (aCons (dC (.int 0)) (aCons (dC (.int 1)) (aCons (dC (.int 2)) (aCons (dC (.int 3)) (aCons (dC (.int 4)) aNil))))))) aNil))) (gN 2))
    (sCons (sRet (dB tupD (aCons (dF (dLc (iR1 (aCons (dV 1) aNil)) [3] (gN 3) (tB' (dOp ltD (dCall F__law_draw (aCons (dV 0) (aCons (dC (.int 4)) aNil))) (dV 2))) (dV 3))) aNil)))
    sNil))
def F__law_drawn_places : FD := runD 4 B__law_drawn_places
theorem ok__law_drawn_places {f : Addr} {fd : FuncData} (F : Fun K "_law_drawn_places" "_law_drawn_places" s__law_drawn_places f fd) (h__law_pick : Has T P w K mg base 2 "_law_pick" s__law_pick ["deck", "some"] F__law_pick) (h__law_draw : Has T P w K mg base 1 "_law_draw" s__law_draw ["deck", "many"] F__law_draw) (b_range : mg "range" = none) (b_tuple : mg "tuple" = none) : FnD T P w K mg base 3 f fd ["deck", "n"] F__law_drawn_places :=
  fn_d F sc__law_drawn_places fun cdv A outer s H E hr =>
    (dss_cons (ds_set (i := 2) sc__law_drawn_places.nd rfl (by first | exact .inl rfl | exact .inr rfl) (de_callH h__law_pick (RoomG.mono hr (by decide)) (by rfl) (da_cons (de_v 0 (pv 0)) (da_cons (de_new (df_lst (da_cons (de_c pe_int fun _ => .int _) (da_cons (de_c pe_int fun _ => .int _) (da_cons (de_c pe_int fun _ => .int _) (da_cons (de_c pe_int fun _ => .int _) (da_cons (de_c pe_int fun _ => .int _) da_nil))))))) da_nil)) (len_cons (len_cons (len_nil)))))
    (dss_cons (ds_ret (de_callTy ca_tuple (by rfl) b_tuple (by decide +kernel) (da_cons (de_new (df_lc (own := [("at", 3)]) (js := [3]) rfl sc__law_drawn_places.nd (di_range1 (by rfl) b_range (da_cons (de_v 1 (pv 1)) da_nil)) (blk_ok (by kernel_rfl) (by kernel_rfl)) (by decide) (fun _ _ _ _ _ => (dg_name (pg_name (i := 3) sc__law_drawn_places.nd rfl (by first | exact .inl rfl | exact .inr rfl)))) (fun _ _ _ _ _ => (dts_one (dt_cmp oa_lt (de_callH h__law_draw (RoomG.mono hr (by decide)) (by rfl) (da_cons (de_v 0 (pv 0)) (da_cons (de_c pe_int fun _ => .int _) da_nil)) (len_cons (len_cons (len_nil)))) (de_v 2 (pv 2)) (nomark _)))) (fun _ _ _ _ _ => (de_v 3 (pv 3))))) da_nil)))
    dss_nil))
abbrev s_plain_of : Stmt := topS 23
theorem sc_plain_of : FnScope ["q", "rows", "basis", "row", "rest"] ["q", "rows"] (defScope s_plain_of) := ⟨rfl, rfl, rfl, by decide +kernel, rfl, by decide +kernel, by decide +kernel⟩
def B_plain_of : M Fl :=
  (sCons (sAsg (dTup aNil) (gN 2))
    (sCons (dFor (iItems (dV 1)) (gN 3) (sCons (sAsg (dCall F_rest_of (aCons (dV 0) (aCons (dV 2) (aCons (dV 3) aNil)))) (gN 4))
    (sCons (dIf (dTru (dB anyD (aCons (dV 4) aNil))) (sCons (sAsg (dCall F_plain_with (aCons (dV 0) (aCons (dV 2) (aCons (dV 4) aNil)))) (gN 2))
    sNil) sNil)
    sNil)))
    (sCons (sRet (dV 2))
    sNil)))
def F_plain_of : FD := runD 5 B_plain_of
theorem ok_plain_of {f : Addr} {fd : FuncData} (F : Fun K "plain_of" "plain_of" s_plain_of f fd) (h_rest_of : Has T P w K mg base 2 "rest_of" s_rest_of ["q", "basis", "row"] F_rest_of) (h_plain_with : Has T P w K mg base 2 "plain_with" s_plain_with ["q", "basis", "rest"] F_plain_with) (b_any : mg "any" = none) : FnD T P w K mg base 3 f fd ["q", "rows"] F_plain_of :=
  fn_d F sc_plain_of fun cdv A outer s H E hr =>
    (dss_cons (ds_set (i := 2) sc_plain_of.nd rfl (by first | exact .inl rfl | exact .inr rfl) (de_tup da_nil))
    (dss_cons (ds_for PassesOwn.never rfl (di_seq (de_v 1 (pv 1))) (dg_name (pg_name (i := 3) sc_plain_of.nd rfl (by first | exact .inl rfl | exact .inr rfl))) (dss_cons (ds_set (i := 4) sc_plain_of.nd rfl (by first | exact .inl rfl | exact .inr rfl) (de_callH h_rest_of (RoomG.mono hr (by decide)) (by rfl) (da_cons (de_v 0 (pv 0)) (da_cons (de_v 2 (pv 2)) (da_cons (de_v 3 (pv 3)) da_nil))) (len_cons (len_cons (len_cons (len_nil))))))
    (dss_cons (ds_if (dt_tru (de_callB (ca_any rfl) (by rfl) b_any (by decide +kernel) (da_cons (de_v 4 (pv 4)) da_nil))) (dss_cons (ds_set (i := 2) sc_plain_of.nd rfl (by first | exact .inl rfl | exact .inr rfl) (de_callH h_plain_with (RoomG.mono hr (by decide)) (by rfl) (da_cons (de_v 0 (pv 0)) (da_cons (de_v 2 (pv 2)) (da_cons (de_v 4 (pv 4)) da_nil))) (len_cons (len_cons (len_cons (len_nil))))))
    dss_nil) dss_nil)
    dss_nil)))
    (dss_cons (ds_ret (de_v 2 (pv 2)))
    dss_nil)))
abbrev s_partner_rows : Stmt := topS 25
theorem sc_partner_rows : FnScope ["q", "n", "rows", "basis", "heads", "found", "place", "row", "head", "line"] ["q", "n", "rows"] (defScope s_partner_rows) := ⟨rfl, rfl, rfl, by decide +kernel, rfl, by decide +kernel, by decide +kernel⟩
def B_partner_rows : M Fl :=
  (sCons (sAsg (dCall F_plain_of (aCons (dV 0) (aCons (dV 2) aNil))) (gN 3))
    (sCons (sFrz 4 (sOwn 4 (dLc (iItems (dV 3)) [9] (gN 9) tAll (dCall F_head_of (aCons (dV 9) aNil)))))
    (sCons (sOwn 5 (dLst aNil))
    (sCons (dFor (iR1 (aCons (dV 1) aNil)) (gN 6) (sCons (dIf (tB' (dOp ninD (dV 6) (dV 4))) (sCons (sOwn 7 (dRep (dF (dLst (aCons (dC (.int 0)) aNil))) (dV 1)))
    (sCons (sSet 7 (dV 6) (dC (.int 1)))
    (sCons (dFor (iZip (aCons (dV 4) (aCons (dV 3) aNil))) (gT 2 (gsCons (gN 8) (gsCons (gN 9) gsNil))) (sCons (sSet 7 (dV 8) (dOp modD (dNeg (dOp ixD (dV 9) (dV 6))) (dV 0)))
    sNil))
    (sCons (sApp 5 (dB tupD (aCons (dV 7) aNil)))
    sNil)))) sNil)
    sNil))
    (sCons (sPre 5 (sRet (dCall F_plain_of (aCons (dV 0) (aCons (dV 5) aNil)))))
    sNil)))))
def F_partner_rows : FD := runD 10 B_partner_rows
theorem ok_partner_rows {f : Addr} {fd : FuncData} (F : Fun K "partner_rows" "partner_rows" s_partner_rows f fd) (h_plain_of : Has T P w K mg base 3 "plain_of" s_plain_of ["q", "rows"] F_plain_of) (h_head_of : Has T P w K mg base 1 "head_of" s_head_of ["row"] F_head_of) (b_range : mg "range" = none) (b_zip : mg "zip" = none) (b_tuple : mg "tuple" = none) : FnD T P w K mg base 4 f fd ["q", "n", "rows"] F_partner_rows :=
  fn_d F sc_partner_rows fun cdv A outer s H E hr =>
    (dss_cons (ds_set (i := 3) sc_partner_rows.nd rfl (by first | exact .inl rfl | exact .inr rfl) (de_callH h_plain_of (RoomG.mono hr (by decide)) (by rfl) (da_cons (de_v 0 (pv 0)) (da_cons (de_v 2 (pv 2)) da_nil)) (len_cons (len_cons (len_nil)))))
    (dss_cons (ds_frz 4 (ds_ownLc (i := 4) (own := [("line", 9)]) (js := [9]) rfl sc_partner_rows.nd rfl rfl (by kernel_rfl) (di_seq (de_v 3 (pv 3))) (blk_ok (by kernel_rfl) (by kernel_rfl)) (by decide) (fun _ _ _ _ _ => (dg_name (pg_name (i := 9) sc_partner_rows.nd rfl (by first | exact .inl rfl | exact .inr rfl)))) (fun _ _ _ _ _ => dts_nil) (fun _ _ _ _ _ => (de_callH h_head_of (RoomG.mono hr (by decide)) (by rfl) (da_cons (de_v 9 (pv 9)) da_nil) (len_cons (len_nil))))))
    (dss_cons (ds_own (i := 5) sc_partner_rows.nd rfl (by first | exact .inl rfl | exact .inr rfl) (df_lst da_nil))
    (dss_cons (ds_for PassesOwn.never rfl (di_range1 (by rfl) b_range (da_cons (de_v 1 (pv 1)) da_nil)) (dg_name (pg_name (i := 6) sc_partner_rows.nd rfl (by first | exact .inl rfl | exact .inr rfl))) (dss_cons (ds_if (dt_cmp (oa_nin (units65 hr)) (de_v 6 (pv 6)) (de_v 4 (pv 4)) (by rfl)) (dss_cons (ds_own (i := 7) sc_partner_rows.nd rfl (by first | exact .inl rfl | exact .inr rfl) (df_rep (de_new (df_lst (da_cons (de_c pe_int fun _ => .int _) da_nil))) (de_v 1 (pv 1))))
    (dss_cons (ds_setItem (i := 7) (pv 7) (de_v 6 (pv 6)) (de_c pe_int fun _ => .int _))
    (dss_cons (ds_for PassesOwn.never rfl (di_zip (by rfl) b_zip (da_cons (de_v 4 (pv 4)) (da_cons (de_v 3 (pv 3)) da_nil))) (dg_tup rfl (dgs_cons (dg_name (pg_name (i := 8) sc_partner_rows.nd rfl (by first | exact .inl rfl | exact .inr rfl))) (dgs_cons (dg_name (pg_name (i := 9) sc_partner_rows.nd rfl (by first | exact .inl rfl | exact .inr rfl))) dgs_nil))) (dss_cons (ds_setItem (i := 7) (pv 7) (de_v 8 (pv 8)) (de_op oa_mod (de_neg (de_ix (de_v 9 (pv 9)) (de_v 6 (pv 6)) (fun _ _ => rfl))) (de_v 0 (pv 0))))
    dss_nil))
    (dss_cons (ds_app (i := 5) (pv 5) (de_callTy ca_tuple (by rfl) b_tuple (by decide +kernel) (da_cons (de_v 7 (pv 7)) da_nil)) (fun t h => pe_bm PySem.F.plainAttrs_list PySem.F.slot_list_append PySem.F.type_list_append mt_append (pv 5) h))
    dss_nil)))) dss_nil)
    dss_nil))
    (dss_cons (ds_pre 5 (ds_ret (de_callH h_plain_of (RoomG.mono hr (by decide)) (by rfl) (da_cons (de_v 0 (pv 0)) (da_cons (de_v 5 (pv 5)) da_nil)) (len_cons (len_cons (len_nil))))))
    dss_nil)))))
abbrev s_book_of : Stmt := topS 33
theorem sc_book_of : FnScope ["q", "n", "rows", "row"] ["q", "n", "rows"] (defScope s_book_of) := ⟨rfl, rfl, rfl, by decide +kernel, rfl, by decide +kernel, by decide +kernel⟩
def B_book_of : M Fl :=
  (sCons (dIf (tNotD (dTru (dCall F_is_field (aCons (dV 0) aNil)))) (sCons fail
    sNil) sNil)
    (sCons (dIf (tNotD (dTru (dCall F_is_length (aCons (dV 1) aNil)))) (sCons fail
    sNil) sNil)
    (sCons (dIf (tNotD (dTru (dIsi "tuple" (dV 2)))) (sCons fail
    sNil) sNil)
    (sCons (dFor (iItems (dV 2)) (gN 3) (sCons (dIf (tNotD (dTru (dCall F_is_row (aCons (dV 0) (aCons (dV 1) (aCons (dV 3) aNil)))))) (sCons fail
    sNil) sNil)
    sNil))
    (sCons (sRet (dTup (aCons (dV 0) (aCons (dV 1) (aCons (dCall F_plain_of (aCons (dV 0) (aCons (dV 2) aNil))) aNil)))))
    sNil)))))
def F_book_of : FD := runD 4 B_book_of
theorem ok_book_of {f : Addr} {fd : FuncData} (F : Fun K "book_of" "book_of" s_book_of f fd) (h_is_field : Has T P w K mg base 2 "is_field" s_is_field ["thing"] F_is_field) (h_is_length : Has T P w K mg base 3 "is_length" s_is_length ["thing"] F_is_length) (h_is_row : Has T P w K mg base 4 "is_row" s_is_row ["q", "n", "thing"] F_is_row) (h_plain_of : Has T P w K mg base 3 "plain_of" s_plain_of ["q", "rows"] F_plain_of) (b_isinstance : mg "isinstance" = none) (b_tuple : mg "tuple" = none) : FnD T P w K mg base 5 f fd ["q", "n", "rows"] F_book_of :=
  fn_d F sc_book_of fun cdv A outer s H E hr =>
    (dss_cons (ds_if (dt_not (dt_tru (de_callH h_is_field (RoomG.mono hr (by decide)) (by rfl) (da_cons (de_v 0 (pv 0)) da_nil) (len_cons (len_nil))))) (dss_cons ds_never
    dss_nil) dss_nil)
    (dss_cons (ds_if (dt_not (dt_tru (de_callH h_is_length (RoomG.mono hr (by decide)) (by rfl) (da_cons (de_v 1 (pv 1)) da_nil) (len_cons (len_nil))))) (dss_cons ds_never
    dss_nil) dss_nil)
    (dss_cons (ds_if (dt_not (dt_tru (de_isi (by rfl) b_isinstance (by rfl) b_tuple (by decide +kernel) (de_v 2 (pv 2))))) (dss_cons ds_never
    dss_nil) dss_nil)
    (dss_cons (ds_for PassesOwn.never rfl (di_seq (de_v 2 (pv 2))) (dg_name (pg_name (i := 3) sc_book_of.nd rfl (by first | exact .inl rfl | exact .inr rfl))) (dss_cons (ds_if (dt_not (dt_tru (de_callH h_is_row (RoomG.mono hr (by decide)) (by rfl) (da_cons (de_v 0 (pv 0)) (da_cons (de_v 1 (pv 1)) (da_cons (de_v 3 (pv 3)) da_nil))) (len_cons (len_cons (len_cons (len_nil))))))) (dss_cons ds_never
    dss_nil) dss_nil)
    dss_nil))
    (dss_cons (ds_ret (de_tup (da_cons (de_v 0 (pv 0)) (da_cons (de_v 1 (pv 1)) (da_cons (de_callH h_plain_of (RoomG.mono hr (by decide)) (by rfl) (da_cons (de_v 0 (pv 0)) (da_cons (de_v 2 (pv 2)) da_nil)) (len_cons (len_cons (len_nil)))) da_nil)))))
    dss_nil)))))
abbrev s_is_plain : Stmt := topS 14
theorem sc_is_plain : FnScope ["q", "n", "thing", "row"] ["q", "n", "thing"] (defScope s_is_plain) := ⟨rfl, rfl, rfl, by decide +kernel, rfl, by decide +kernel, by decide +kernel⟩
def B_is_plain : M Fl :=
  (sCons (dIf (tOrD (tNotD (dTru (dIsi "tuple" (dV 2)))) (tNotD (dTru (dAll (iItems (dV 2)) [3] (gN 3) (dCall F_is_row (aCons (dV 0) (aCons (dV 1) (aCons (dV 3) aNil)))))))) (sCons (sRet (dC (.bool false)))
    sNil) sNil)
    (sCons (sRet (dOp eqD (dCall F_plain_of (aCons (dV 0) (aCons (dV 2) aNil))) (dV 2)))
    sNil))
def F_is_plain : FD := runD 4 B_is_plain
theorem ok_is_plain {c Pt f : Addr} {fd : FuncData} (F : FunC K "is_plain" "is_plain" s_is_plain c f fd) (TBx : TabB base mg c Pt) (hP : Pt ∈ T.g) (hPl : ∀ y ∈ T.l, y.1 ≠ Pt) (h_is_row : Has T P w K mg base 4 "is_row" s_is_row ["q", "n", "thing"] F_is_row) (h_plain_of : Has T P w K mg base 3 "plain_of" s_plain_of ["q", "rows"] F_plain_of) (b_all : mg "all" = none) (b_isinstance : mg "isinstance" = none) (b_tuple : mg "tuple" = none) : FnD T P w K mg base 6 f fd ["q", "n", "thing"] F_is_plain :=
  fn_dC F sc_is_plain fun A outer s H E hr =>
    (dss_cons (ds_if (PW.pt (dw_or (dt_not (dt_tru (de_isi (by rfl) b_isinstance (by rfl) b_tuple (by decide +kernel) (de_v 2 (pv 2))))) (dw_or1 (dt_not (dt_tru (de_all (own := [("row", 3)]) (js := [3]) (k := 4) (RoomG.mono hr (by decide)) (by rfl) b_all (by decide +kernel) TBx hP hPl rfl sc_is_plain.nd (blk_ok (by kernel_rfl) (by kernel_rfl)) (by kernel_rfl) (by decide +kernel) (by kernel_rfl) (di_seq (de_v 2 (pv 2))) (by decide) (fun _ _ _ _ _ _ _ _ hr2 => (dg_name (pg_name (i := 3) sc_is_plain.nd rfl (by first | exact .inl rfl | exact .inr rfl)))) (fun _ _ _ _ _ _ _ _ hr2 => (de_callH h_is_row (RoomG.mono hr2 (by decide)) (by rfl) (da_cons (de_v 0 (pv 0)) (da_cons (de_v 1 (pv 1)) (da_cons (de_v 3 (pv 3)) da_nil))) (len_cons (len_cons (len_cons (len_nil)))))) (by intro _; rfl))))))) (dss_cons (ds_ret (de_c pe_bl fun _ => .bl _))
    dss_nil) dss_nil)
    (dss_cons (ds_ret (de_cmp (oa_eq hr.rm.units) (de_callH h_plain_of (RoomG.mono hr (by decide)) (by rfl) (da_cons (de_v 0 (pv 0)) (da_cons (de_v 2 (pv 2)) da_nil)) (len_cons (len_cons (len_nil)))) (de_v 2 (pv 2)) (nomark _)))
    dss_nil))
abbrev s_is_book : Stmt := topS 31
theorem sc_is_book : FnScope ["thing", "q", "n", "basis"] ["thing"] (defScope s_is_book) := ⟨rfl, rfl, rfl, by decide +kernel, rfl, by decide +kernel, by decide +kernel⟩
def B_is_book : M Fl :=
  (sCons (dIf (tNotD (dTru (dCall F_is_tuple_of (aCons (dC (.int 3)) (aCons (dV 0) aNil))))) (sCons (sRet (dC (.bool false)))
    sNil) sNil)
    (sCons (sAsg (dV 0) (gT 3 (gsCons (gN 1) (gsCons (gN 2) (gsCons (gN 3) gsNil)))))
    (sCons (sRet (vAndD (dCall F_is_field (aCons (dV 1) aNil)) (vAndD (dCall F_is_length (aCons (dV 2) aNil)) (dCall F_is_plain (aCons (dV 1) (aCons (dV 2) (aCons (dV 3) aNil)))))))
    sNil)))
def F_is_book : FD := runD 4 B_is_book
theorem ok_is_book {f : Addr} {fd : FuncData} (F : Fun K "is_book" "is_book" s_is_book f fd) (h_is_tuple_of : Has T P w K mg base 1 "is_tuple_of" s_is_tuple_of ["length", "thing"] F_is_tuple_of) (h_is_plain : Has T P w K mg base 6 "is_plain" s_is_plain ["q", "n", "thing"] F_is_plain) (h_is_length : Has T P w K mg base 3 "is_length" s_is_length ["thing"] F_is_length) (h_is_field : Has T P w K mg base 2 "is_field" s_is_field ["thing"] F_is_field) : FnD T P w K mg base 7 f fd ["thing"] F_is_book :=
  fn_d F sc_is_book fun cdv A outer s H E hr =>
    (dss_cons (ds_if (dt_not (dt_tru (de_callH h_is_tuple_of (RoomG.mono hr (by decide)) (by rfl) (da_cons (de_c pe_int fun _ => .int _) (da_cons (de_v 0 (pv 0)) da_nil)) (len_cons (len_cons (len_nil)))))) (dss_cons (ds_ret (de_c pe_bl fun _ => .bl _))
    dss_nil) dss_nil)
    (dss_cons (ds_asg (de_v 0 (pv 0)) (dg_tup rfl (dgs_cons (dg_name (pg_name (i := 1) sc_is_book.nd rfl (by first | exact .inl rfl | exact .inr rfl))) (dgs_cons (dg_name (pg_name (i := 2) sc_is_book.nd rfl (by first | exact .inl rfl | exact .inr rfl))) (dgs_cons (dg_name (pg_name (i := 3) sc_is_book.nd rfl (by first | exact .inl rfl | exact .inr rfl))) dgs_nil)))))
    (dss_cons (ds_ret (de_and (de_callH h_is_field (RoomG.mono hr (by decide)) (by rfl) (da_cons (de_v 1 (pv 1)) da_nil) (len_cons (len_nil))) (de_and (de_callH h_is_length (RoomG.mono hr (by decide)) (by rfl) (da_cons (de_v 2 (pv 2)) da_nil) (len_cons (len_nil))) (de_one (de_callH h_is_plain (RoomG.mono hr (by decide)) (by rfl) (da_cons (de_v 1 (pv 1)) (da_cons (de_v 2 (pv 2)) (da_cons (de_v 3 (pv 3)) da_nil))) (len_cons (len_cons (len_cons (len_nil)))))))))
    dss_nil)))
abbrev s_check_book : Stmt := topS 32
theorem sc_check_book : FnScope ["book"] ["book"] (defScope s_check_book) := ⟨rfl, rfl, rfl, by decide +kernel, rfl, by decide +kernel, by decide +kernel⟩
def B_check_book : M Fl :=
  (sCons (dIf (tNotD (dTru (dCall F_is_book (aCons (dV 0) aNil)))) (sCons fail
    sNil) sNil)
    sNil)
def F_check_book : FD := runD 1 B_check_book
theorem ok_check_book {f : Addr} {fd : FuncData} (F : Fun K "check_book" "check_book" s_check_book f fd) (h_is_book : Has T P w K mg base 7 "is_book" s_is_book ["thing"] F_is_book) : FnD T P w K mg base 8 f fd ["book"] F_check_book :=
  fn_d F sc_check_book fun cdv A outer s H E hr =>
    (dss_cons (ds_if (dt_not (dt_tru (de_callH h_is_book (RoomG.mono hr (by decide)) (by rfl) (da_cons (de_v 0 (pv 0)) da_nil) (len_cons (len_nil))))) (dss_cons ds_never
    dss_nil) dss_nil)
    dss_nil)
abbrev s_dimension : Stmt := topS 34
theorem sc_dimension : FnScope ["book"] ["book"] (defScope s_dimension) := ⟨rfl, rfl, rfl, by decide +kernel, rfl, by decide +kernel, by decide +kernel⟩
def B_dimension : M Fl :=
  (sCons (sDrop (dCall F_check_book (aCons (dV 0) aNil)))
    (sCons (sRet (dB lenD (aCons (dOp ixD (dV 0) (dC (.int 2))) aNil)))
    sNil))
def F_dimension : FD := runD 1 B_dimension
theorem ok_dimension {f : Addr} {fd : FuncData} (F : Fun K "dimension" "dimension" s_dimension f fd) (h_check_book : Has T P w K mg base 8 "check_book" s_check_book ["book"] F_check_book) (b_len : mg "len" = none) : FnD T P w K mg base 9 f fd ["book"] F_dimension :=
  fn_d F sc_dimension fun cdv A outer s H E hr =>
    (dss_cons (ds_drop (de_callH h_check_book (RoomG.mono hr (by decide)) (by rfl) (da_cons (de_v 0 (pv 0)) da_nil) (len_cons (len_nil))))
    (dss_cons (ds_ret (de_callB ca_len (by rfl) b_len (by decide +kernel) (da_cons (de_ix (de_v 0 (pv 0)) (de_c pe_int fun _ => .int _) (fun _ _ => rfl)) da_nil)))
    dss_nil))
abbrev s_words_of : Stmt := topS 35
theorem sc_words_of : FnScope ["book", "q", "n", "basis"] ["book"] (defScope s_words_of) := ⟨rfl, rfl, rfl, by decide +kernel, rfl, by decide +kernel, by decide +kernel⟩
def B_words_of : M Fl :=
  (sCons (sDrop (dCall F_check_book (aCons (dV 0) aNil)))
    (sCons (sAsg (dV 0) (gT 3 (gsCons (gN 1) (gsCons (gN 2) (gsCons (gN 3) gsNil)))))
    (sCons (sRet (dCall F_sums_of (aCons (dV 1) (aCons (dV 2) (aCons (dV 3) aNil)))))
    sNil)))
def F_words_of : FD := runD 4 B_words_of
theorem ok_words_of {f : Addr} {fd : FuncData} (F : Fun K "words_of" "words_of" s_words_of f fd) (h_check_book : Has T P w K mg base 8 "check_book" s_check_book ["book"] F_check_book) (h_sums_of : Has T P w K mg base 2 "sums_of" s_sums_of ["q", "n", "rows"] F_sums_of) : FnD T P w K mg base 9 f fd ["book"] F_words_of :=
  fn_d F sc_words_of fun cdv A outer s H E hr =>
    (dss_cons (ds_drop (de_callH h_check_book (RoomG.mono hr (by decide)) (by rfl) (da_cons (de_v 0 (pv 0)) da_nil) (len_cons (len_nil))))
    (dss_cons (ds_asg (de_v 0 (pv 0)) (dg_tup rfl (dgs_cons (dg_name (pg_name (i := 1) sc_words_of.nd rfl (by first | exact .inl rfl | exact .inr rfl))) (dgs_cons (dg_name (pg_name (i := 2) sc_words_of.nd rfl (by first | exact .inl rfl | exact .inr rfl))) (dgs_cons (dg_name (pg_name (i := 3) sc_words_of.nd rfl (by first | exact .inl rfl | exact .inr rfl))) dgs_nil)))))
    (dss_cons (ds_ret (de_callH h_sums_of (RoomG.mono hr (by decide)) (by rfl) (da_cons (de_v 1 (pv 1)) (da_cons (de_v 2 (pv 2)) (da_cons (de_v 3 (pv 3)) da_nil))) (len_cons (len_cons (len_cons (len_nil))))))
    dss_nil)))
abbrev s_has_word : Stmt := topS 36
theorem sc_has_word : FnScope ["book", "row", "q", "n", "basis"] ["book", "row"] (defScope s_has_word) := ⟨rfl, rfl, rfl, by decide +kernel, rfl, by decide +kernel, by decide +kernel⟩
def B_has_word : M Fl :=
  (sCons (sDrop (dCall F_check_book (aCons (dV 0) aNil)))
    (sCons (sAsg (dV 0) (gT 3 (gsCons (gN 2) (gsCons (gN 3) (gsCons (gN 4) gsNil)))))
    (sCons (dIf (tNotD (dTru (dCall F_is_row (aCons (dV 2) (aCons (dV 3) (aCons (dV 1) aNil)))))) (sCons fail
    sNil) sNil)
    (sCons (sRet (dCall F_is_sum (aCons (dV 2) (aCons (dV 4) (aCons (dV 1) aNil)))))
    sNil))))
def F_has_word : FD := runD 5 B_has_word
theorem ok_has_word {f : Addr} {fd : FuncData} (F : Fun K "has_word" "has_word" s_has_word f fd) (h_check_book : Has T P w K mg base 8 "check_book" s_check_book ["book"] F_check_book) (h_is_row : Has T P w K mg base 4 "is_row" s_is_row ["q", "n", "thing"] F_is_row) (h_is_sum : Has T P w K mg base 3 "is_sum" s_is_sum ["q", "basis", "row"] F_is_sum) : FnD T P w K mg base 9 f fd ["book", "row"] F_has_word :=
  fn_d F sc_has_word fun cdv A outer s H E hr =>
    (dss_cons (ds_drop (de_callH h_check_book (RoomG.mono hr (by decide)) (by rfl) (da_cons (de_v 0 (pv 0)) da_nil) (len_cons (len_nil))))
    (dss_cons (ds_asg (de_v 0 (pv 0)) (dg_tup rfl (dgs_cons (dg_name (pg_name (i := 2) sc_has_word.nd rfl (by first | exact .inl rfl | exact .inr rfl))) (dgs_cons (dg_name (pg_name (i := 3) sc_has_word.nd rfl (by first | exact .inl rfl | exact .inr rfl))) (dgs_cons (dg_name (pg_name (i := 4) sc_has_word.nd rfl (by first | exact .inl rfl | exact .inr rfl))) dgs_nil)))))
    (dss_cons (ds_if (dt_not (dt_tru (de_callH h_is_row (RoomG.mono hr (by decide)) (by rfl) (da_cons (de_v 2 (pv 2)) (da_cons (de_v 3 (pv 3)) (da_cons (de_v 1 (pv 1)) da_nil))) (len_cons (len_cons (len_cons (len_nil))))))) (dss_cons ds_never
    dss_nil) dss_nil)
    (dss_cons (ds_ret (de_callH h_is_sum (RoomG.mono hr (by decide)) (by rfl) (da_cons (de_v 2 (pv 2)) (da_cons (de_v 4 (pv 4)) (da_cons (de_v 1 (pv 1)) da_nil))) (len_cons (len_cons (len_cons (len_nil))))))
    dss_nil))))
abbrev s_within : Stmt := topS 38
theorem sc_within : FnScope ["book", "places", "q", "n", "basis", "others", "bars", "place"] ["book", "places"] (defScope s_within) := ⟨rfl, rfl, rfl, by decide +kernel, rfl, by decide +kernel, by decide +kernel⟩
def B_within : M Fl :=
  (sCons (sDrop (dCall F_check_book (aCons (dV 0) aNil)))
    (sCons (sAsg (dV 0) (gT 3 (gsCons (gN 2) (gsCons (gN 3) (gsCons (gN 4) gsNil)))))
    (sCons (dIf (tNotD (dTru (dCall F_is_places (aCons (dV 3) (aCons (dV 1) aNil))))) (sCons fail
    sNil) sNil)
    (sCons (sFrz 5 (sOwn 5 (dLc (iR1 (aCons (dV 3) aNil)) [7] (gN 7) (tB' (dOp ninD (dV 7) (dV 1))) (dV 7))))
    (sCons (sAsg (dOp addD (dB lstD (aCons (dCall F_partner_rows (aCons (dV 2) (aCons (dV 3) (aCons (dV 4) aNil)))) aNil)) (dCall F_unit_rows (aCons (dV 3) (aCons (dV 5) aNil)))) (gN 6))
    (sCons (sRet (dTup (aCons (dV 2) (aCons (dV 3) (aCons (dCall F_partner_rows (aCons (dV 2) (aCons (dV 3) (aCons (dV 6) aNil)))) aNil)))))
    sNil))))))
def F_within : FD := runD 8 B_within
theorem ok_within {f : Addr} {fd : FuncData} (F : Fun K "within" "within" s_within f fd) (h_check_book : Has T P w K mg base 8 "check_book" s_check_book ["book"] F_check_book) (h_is_places : Has T P w K mg base 4 "is_places" s_is_places ["n", "thing"] F_is_places) (h_partner_rows : Has T P w K mg base 4 "partner_rows" s_partner_rows ["q", "n", "rows"] F_partner_rows) (h_unit_rows : Has T P w K mg base 2 "unit_rows" s_unit_rows ["n", "places"] F_unit_rows) (b_range : mg "range" = none) (b_list : mg "list" = none) : FnD T P w K mg base 9 f fd ["book", "places"] F_within :=
  fn_d F sc_within fun cdv A outer s H E hr =>
    (dss_cons (ds_drop (de_callH h_check_book (RoomG.mono hr (by decide)) (by rfl) (da_cons (de_v 0 (pv 0)) da_nil) (len_cons (len_nil))))
    (dss_cons (ds_asg (de_v 0 (pv 0)) (dg_tup rfl (dgs_cons (dg_name (pg_name (i := 2) sc_within.nd rfl (by first | exact .inl rfl | exact .inr rfl))) (dgs_cons (dg_name (pg_name (i := 3) sc_within.nd rfl (by first | exact .inl rfl | exact .inr rfl))) (dgs_cons (dg_name (pg_name (i := 4) sc_within.nd rfl (by first | exact .inl rfl | exact .inr rfl))) dgs_nil)))))
    (dss_cons (ds_if (dt_not (dt_tru (de_callH h_is_places (RoomG.mono hr (by decide)) (by rfl) (da_cons (de_v 3 (pv 3)) (da_cons (de_v 1 (pv 1)) da_nil)) (len_cons (len_cons (len_nil)))))) (dss_cons ds_never
    dss_nil) dss_nil)
    (dss_cons (ds_frz 5 (ds_ownLc (i := 5) (own := [("place", 7)]) (js := [7]) rfl sc_within.nd rfl rfl (by kernel_rfl) (di_range1 (by rfl) b_range (da_cons (de_v 3 (pv 3)) da_nil)) (blk_ok (by kernel_rfl) (by kernel_rfl)) (by decide) (fun _ _ _ _ _ => (dg_name (pg_name (i := 7) sc_within.nd rfl (by first | exact .inl rfl | exact .inr rfl)))) (fun _ _ _ _ _ => (dts_one (dt_cmp (oa_nin (units65 hr)) (de_v 7 (pv 7)) (de_v 1 (pv 1)) (by rfl)))) (fun _ _ _ _ _ => (de_v 7 (pv 7)))))
    (dss_cons (ds_set (i := 6) sc_within.nd rfl (by first | exact .inl rfl | exact .inr rfl) (de_op oa_add (de_callTy ca_list (by rfl) b_list (by decide +kernel) (da_cons (de_callH h_partner_rows (RoomG.mono hr (by decide)) (by rfl) (da_cons (de_v 2 (pv 2)) (da_cons (de_v 3 (pv 3)) (da_cons (de_v 4 (pv 4)) da_nil))) (len_cons (len_cons (len_cons (len_nil))))) da_nil)) (de_callH h_unit_rows (RoomG.mono hr (by decide)) (by rfl) (da_cons (de_v 3 (pv 3)) (da_cons (de_v 5 (pv 5)) da_nil)) (len_cons (len_cons (len_nil))))))
    (dss_cons (ds_ret (de_tup (da_cons (de_v 2 (pv 2)) (da_cons (de_v 3 (pv 3)) (da_cons (de_callH h_partner_rows (RoomG.mono hr (by decide)) (by rfl) (da_cons (de_v 2 (pv 2)) (da_cons (de_v 3 (pv 3)) (da_cons (de_v 6 (pv 6)) da_nil))) (len_cons (len_cons (len_cons (len_nil))))) da_nil)))))
    dss_nil))))))
theorem kb_words_of_0_book {K : PySem.W.Frag} (a : Addr) (fd : FuncData) (F : Fun K "words_of" "words_of" s_words_of a fd) : KwB K fd ["book"] 0 ["book"] [0] :=
  kwb F fun _ _ _ _ _ _ us ws h1 h2 => match us, ws, h1, h2 with | [], [_], _, _ => rfl
theorem kb_has_word_0_row_book {K : PySem.W.Frag} (a : Addr) (fd : FuncData) (F : Fun K "has_word" "has_word" s_has_word a fd) : KwB K fd ["book", "row"] 0 ["row", "book"] [1, 0] :=
  kwb F fun _ _ _ _ _ _ us ws h1 h2 => match us, ws, h1, h2 with | [], [_, _], _, _ => rfl
abbrev s__law_are_words_right : Stmt := topS 54
theorem sc__law_are_words_right : FnScope ["deck", "book", "words", "q", "n", "known", "go", "row", "at", "told", "word"] ["deck", "book", "words"] (defScope s__law_are_words_right) := ⟨rfl, rfl, rfl, by decide +kernel, rfl, by decide +kernel, by decide +kernel⟩
def B__law_are_words_right : M Fl :=
  (sCons (sPar 3 4 (aCons (dOp ixD (dV 1) (dC (.int 0))) (aCons (dOp ixD (dV 1) (dC (.int 1))) aNil)))
    (sCons (dIf (tB' (dOp neD (dB reprD (aCons (dTup (aCons (dCall F_words_of (aCons (dV 1) aNil)) (aCons (dCallK F_words_of [0] aNil (aCons (dV 1) aNil)) aNil))) aNil)) (dB reprD (aCons (dTup (aCons (dB tupD (aCons (dV 2) aNil)) (aCons (dB tupD (aCons (dV 2) aNil)) aNil))) aNil)))) (sCons (sRet (dC (.bool false)))
    sNil) sNil)
    (sCons (sAsg (dB dictTD (aCons (dF (dLc (iItems (dV 2)) [10] (gN 10) tAll (dTup (aCons (dV 10) (aCons (dC (.bool true)) aNil))))) aNil)) (gN 5))
    (sCons (dFor (iR1 (aCons (dC (.int 8)) aNil)) (gN 6) (sCons (sAsg (dCall F__law_pick (aCons (dV 0) (aCons (dV 2) aNil))) (gN 7))
    (sCons (dIf (tB' (dOp gtD (dV 6) (dC (.int 1)))) (sCons (sAsg (dCall F__law_draw (aCons (dV 0) (aCons (dV 4) aNil))) (gN 8))
    (sCons (sAsg (dOp addD (dOp addD (dSl (dV 7) oN (oS (dV 8))) (dTup (aCons (dCall F__law_draw (aCons (dV 0) (aCons (dV 3) aNil))) aNil))) (dSl (dV 7) (oS (dOp addD (dV 8) (dC (.int 1)))) oN)) (gN 7))
    sNil)) sNil)
    (sCons (dIf (tB' (dOp gtD (dV 6) (dC (.int 5)))) (sCons (sAsg (dCall F__law_drawn_row (aCons (dV 0) (aCons (dV 3) (aCons (dV 4) aNil)))) (gN 7))
    sNil) sNil)
    (sCons (sAsg (dIf (tB' (dOp eqD (dOp andD (dV 6) (dC (.int 1))) (dC (.int 0)))) (dCall F_has_word (aCons (dV 1) (aCons (dV 7) aNil))) (dCallK F_has_word [1, 0] aNil (aCons (dV 7) (aCons (dV 1) aNil)))) (gN 9))
    (sCons (dIf (tB' (dOp neD (dB reprD (aCons (dV 9) aNil)) (dB reprD (aCons (dOp inKD (dV 7) (dV 5)) aNil)))) (sCons (sRet (dC (.bool false)))
    sNil) sNil)
    sNil))))))
    (sCons (sRet (dC (.bool true)))
    sNil)))))
def F__law_are_words_right : FD := runD 11 B__law_are_words_right
theorem ok__law_are_words_right {f : Addr} {fd : FuncData} (F : Fun K "_law_are_words_right" "_law_are_words_right" s__law_are_words_right f fd) (h_words_of : Has T P w K mg base 9 "words_of" s_words_of ["book"] F_words_of) (h__law_pick : Has T P w K mg base 2 "_law_pick" s__law_pick ["deck", "some"] F__law_pick) (h__law_draw : Has T P w K mg base 1 "_law_draw" s__law_draw ["deck", "many"] F__law_draw) (h__law_drawn_row : Has T P w K mg base 3 "_law_drawn_row" s__law_drawn_row ["deck", "q", "n"] F__law_drawn_row) (h_has_word : Has T P w K mg base 9 "has_word" s_has_word ["book", "row"] F_has_word) (b_repr : mg "repr" = none) (b_tuple : mg "tuple" = none) (b_dict : mg "dict" = none) (b_range : mg "range" = none) : FnD T P w K mg base 10 f fd ["deck", "book", "words"] F__law_are_words_right :=
  fn_d F sc__law_are_words_right fun cdv A outer s H E hr =>
    (dss_cons (ds_par (i := 3) (j := 4) rfl sc__law_are_words_right.nd rfl rfl (by decide) rfl rfl (da_cons (de_ix (de_v 1 (pv 1)) (de_c pe_int fun _ => .int _) (fun _ _ => rfl)) (da_cons (de_ix (de_v 1 (pv 1)) (de_c pe_int fun _ => .int _) (fun _ _ => rfl)) da_nil)) (by kernel_rfl))
    (dss_cons (ds_if (dt_cmp (oa_ne hr.rm.units) (de_callB (ca_repr hr.gd hr.rm.units) (by rfl) b_repr (by decide +kernel) (da_cons (de_tup (da_cons (de_callH h_words_of (RoomG.mono hr (by decide)) (by rfl) (da_cons (de_v 1 (pv 1)) da_nil) (len_cons (len_nil))) (da_cons (de_callK0 h_words_of (RoomG.mono hr (by decide)) (by rfl) kb_words_of_0_book (dk_cons (de_v 1 (pv 1)) dk_nil) (len_cons (len_nil)) (fun hs e => pick_len hs e (by decide))) da_nil))) da_nil)) (de_callB (ca_repr hr.gd hr.rm.units) (by rfl) b_repr (by decide +kernel) (da_cons (de_tup (da_cons (de_callTy ca_tuple (by rfl) b_tuple (by decide +kernel) (da_cons (de_v 2 (pv 2)) da_nil)) (da_cons (de_callTy ca_tuple (by rfl) b_tuple (by decide +kernel) (da_cons (de_v 2 (pv 2)) da_nil)) da_nil))) da_nil)) (nomark _)) (dss_cons (ds_ret (de_c pe_bl fun _ => .bl _))
    dss_nil) dss_nil)
    (dss_cons (ds_set (i := 5) sc__law_are_words_right.nd rfl (by first | exact .inl rfl | exact .inr rfl) (de_callTy (ca_dictT rfl (units65 hr)) (by rfl) b_dict (by decide +kernel) (da_cons (de_new (df_lc (own := [("word", 10)]) (js := [10]) rfl sc__law_are_words_right.nd (di_seq (de_v 2 (pv 2))) (blk_ok (by kernel_rfl) (by kernel_rfl)) (by decide) (fun _ _ _ _ _ => (dg_name (pg_name (i := 10) sc__law_are_words_right.nd rfl (by first | exact .inl rfl | exact .inr rfl)))) (fun _ _ _ _ _ => dts_nil) (fun _ _ _ _ _ => (de_tup (da_cons (de_v 10 (pv 10)) (da_cons (de_c pe_bl fun _ => .bl _) da_nil)))))) da_nil)))
    (dss_cons (ds_for PassesOwn.never rfl (di_range1 (by rfl) b_range (da_cons (de_c pe_int fun _ => .int _) da_nil)) (dg_name (pg_name (i := 6) sc__law_are_words_right.nd rfl (by first | exact .inl rfl | exact .inr rfl))) (dss_cons (ds_set (i := 7) sc__law_are_words_right.nd rfl (by first | exact .inl rfl | exact .inr rfl) (de_callH h__law_pick (RoomG.mono hr (by decide)) (by rfl) (da_cons (de_v 0 (pv 0)) (da_cons (de_v 2 (pv 2)) da_nil)) (len_cons (len_cons (len_nil)))))
    (dss_cons (ds_if (dt_cmp oa_gt (de_v 6 (pv 6)) (de_c pe_int fun _ => .int _) (nomark _)) (dss_cons (ds_set (i := 8) sc__law_are_words_right.nd rfl (by first | exact .inl rfl | exact .inr rfl) (de_callH h__law_draw (RoomG.mono hr (by decide)) (by rfl) (da_cons (de_v 0 (pv 0)) (da_cons (de_v 4 (pv 4)) da_nil)) (len_cons (len_cons (len_nil)))))
    (dss_cons (ds_set (i := 7) sc__law_are_words_right.nd rfl (by first | exact .inl rfl | exact .inr rfl) (de_op oa_add (de_op oa_add (de_sl (de_v 7 (pv 7)) do_none (do_some (de_v 8 (pv 8)))) (de_tup (da_cons (de_callH h__law_draw (RoomG.mono hr (by decide)) (by rfl) (da_cons (de_v 0 (pv 0)) (da_cons (de_v 3 (pv 3)) da_nil)) (len_cons (len_cons (len_nil)))) da_nil))) (de_sl (de_v 7 (pv 7)) (do_some (de_op oa_add (de_v 8 (pv 8)) (de_c pe_int fun _ => .int _))) do_none)))
    dss_nil)) dss_nil)
    (dss_cons (ds_if (dt_cmp oa_gt (de_v 6 (pv 6)) (de_c pe_int fun _ => .int _) (nomark _)) (dss_cons (ds_set (i := 7) sc__law_are_words_right.nd rfl (by first | exact .inl rfl | exact .inr rfl) (de_callH h__law_drawn_row (RoomG.mono hr (by decide)) (by rfl) (da_cons (de_v 0 (pv 0)) (da_cons (de_v 3 (pv 3)) (da_cons (de_v 4 (pv 4)) da_nil))) (len_cons (len_cons (len_cons (len_nil))))))
    dss_nil) dss_nil)
    (dss_cons (ds_set (i := 9) sc__law_are_words_right.nd rfl (by first | exact .inl rfl | exact .inr rfl) (de_if (dt_cmp (oa_eq hr.rm.units) (de_op oa_and (de_v 6 (pv 6)) (de_c pe_int fun _ => .int _)) (de_c pe_int fun _ => .int _) (nomark _)) (de_callH h_has_word (RoomG.mono hr (by decide)) (by rfl) (da_cons (de_v 1 (pv 1)) (da_cons (de_v 7 (pv 7)) da_nil)) (len_cons (len_cons (len_nil)))) (de_callK0 h_has_word (RoomG.mono hr (by decide)) (by rfl) kb_has_word_0_row_book (dk_cons (de_v 7 (pv 7)) (dk_cons (de_v 1 (pv 1)) dk_nil)) (len_cons (len_cons (len_nil))) (fun hs e => pick_len hs e (by decide)))))
    (dss_cons (ds_if (dt_cmp (oa_ne hr.rm.units) (de_callB (ca_repr hr.gd hr.rm.units) (by rfl) b_repr (by decide +kernel) (da_cons (de_v 9 (pv 9)) da_nil)) (de_callB (ca_repr hr.gd hr.rm.units) (by rfl) b_repr (by decide +kernel) (da_cons (de_cmp (oa_ink (units65 hr)) (de_v 7 (pv 7)) (de_v 5 (pv 5)) (by rfl)) da_nil)) (nomark _)) (dss_cons (ds_ret (de_c pe_bl fun _ => .bl _))
    dss_nil) dss_nil)
    dss_nil))))))
    (dss_cons (ds_ret (de_c pe_bl fun _ => .bl _))
    dss_nil)))))
theorem kb_within_0_places_book {K : PySem.W.Frag} (a : Addr) (fd : FuncData) (F : Fun K "within" "within" s_within a fd) : KwB K fd ["book", "places"] 0 ["places", "book"] [1, 0] :=
  kwb F fun _ _ _ _ _ _ us ws h1 h2 => match us, ws, h1, h2 with | [], [_, _], _, _ => rfl
abbrev s_law : Stmt := topS 55
theorem sc_law : FnScope ["script", "deck", "turn", "q", "n", "book", "words", "go", "places", "due", "told", "few", "near", "at"] ["script"] (defScope s_law) := ⟨rfl, rfl, rfl, by decide +kernel, rfl, by decide +kernel, by decide +kernel⟩
def B_law : M Fl :=
  (sCons (dFor (iR1 (aCons (dC (.int 2)) aNil)) (gN 2) (sCons (sAsg (dCall F__law_sizes (aCons (dV 1) aNil)) (gT 2 (gsCons (gN 3) (gsCons (gN 4) gsNil))))
    (sCons (dIf (tB' (dOp eqD (dCall F__law_draw (aCons (dV 1) (aCons (dC (.int 12)) aNil))) (dC (.int 0)))) (sCons (sPar 3 4 (aCons (dC (.int 2)) (aCons (dOp addD (dC (.int 8)) (dCall F__law_draw (aCons (dV 1) (aCons (dC (.int 5)) aNil)))) aNil)))
    sNil) sNil)
    (sCons (sAsg (dCall F__law_drawn_book (aCons (dV 1) (aCons (dV 3) (aCons (dV 4) aNil)))) (gN 5))
    (sCons (sAsg (dIf (tB' (dOp gtD (dV 4) (dC (.int 7)))) (dTup (aCons (dV 3) (aCons (dV 4) (aCons (dSl (dOp ixD (dV 5) (dC (.int 2))) oN (oS (dC (.int 4)))) aNil)))) (dV 5)) (gN 5))
    (sCons (sAsg (dCall F__law_sums (aCons (dV 3) (aCons (dV 4) (aCons (dOp ixD (dV 5) (dC (.int 2))) aNil)))) (gN 6))
    (sCons (dIf (tOrD (tNotD (dTru (dCall F__law_are_words_right (aCons (dV 1) (aCons (dV 5) (aCons (dV 6) aNil)))))) (tB' (dOp neD (dB reprD (aCons (dCall F_dimension (aCons (dV 5) aNil)) aNil)) (dB reprD (aCons (dB lenD (aCons (dOp ixD (dV 5) (dC (.int 2))) aNil)) aNil))))) (sCons (sRet (dC (.bool false)))
    sNil) sNil)
    (sCons (dIf (tB' (dOp neD (dB reprD (aCons (dTup (aCons (dCall F_within (aCons (dV 5) (aCons (dTRg (rg1 (dV 4))) aNil))) (aCons (dCall F_within (aCons (dV 5) (aCons (dTup aNil) aNil))) aNil))) aNil)) (dB reprD (aCons (dTup (aCons (dV 5) (aCons (dTup (aCons (dV 3) (aCons (dV 4) (aCons (dTup aNil) aNil)))) aNil))) aNil)))) (sCons (sRet (dC (.bool false)))
    sNil) sNil)
    (sCons (dFor (iR1 (aCons (dC (.int 4)) aNil)) (gN 7) (sCons (sAsg (dCall F__law_drawn_places (aCons (dV 1) (aCons (dV 4) aNil))) (gN 8))
    (sCons (sAsg (dTup (aCons (dV 3) (aCons (dV 4) (aCons (dCall F__law_within (aCons (dV 3) (aCons (dV 4) (aCons (dV 6) (aCons (dV 8) aNil))))) aNil)))) (gN 9))
    (sCons (sAsg (dIf (tB' (dOp eqD (dOp andD (dV 7) (dC (.int 1))) (dC (.int 0)))) (dCall F_within (aCons (dV 5) (aCons (dV 8) aNil))) (dCallK F_within [1, 0] aNil (aCons (dV 8) (aCons (dV 5) aNil)))) (gN 10))
    (sCons (dIf (tB' (dOp neD (dB reprD (aCons (dV 10) aNil)) (dB reprD (aCons (dV 9) aNil)))) (sCons (sRet (dC (.bool false)))
    sNil) sNil)
    (sCons (sAsg (dB tupD (aCons (dF (dLc (iItems (dV 8)) [13] (gN 13) (tB' (dOp gtD (dCall F__law_draw (aCons (dV 1) (aCons (dC (.int 3)) aNil))) (dC (.int 0)))) (dV 13))) aNil)) (gN 11))
    (sCons (sAsg (dTup (aCons (dV 3) (aCons (dV 4) (aCons (dCall F__law_within (aCons (dV 3) (aCons (dV 4) (aCons (dV 6) (aCons (dV 11) aNil))))) aNil)))) (gN 12))
    (sCons (dIf (tB' (dOp neD (dB reprD (aCons (dTup (aCons (dCall F_within (aCons (dV 9) (aCons (dV 11) aNil))) (aCons (dCall F_within (aCons (dV 5) (aCons (dV 11) aNil))) (aCons (dCall F_book_of (aCons (dV 3) (aCons (dV 4) (aCons (dOp addD (dOp ixD (dV 12) (dC (.int 2))) (dOp ixD (dV 9) (dC (.int 2)))) aNil)))) aNil)))) aNil)) (dB reprD (aCons (dTup (aCons (dV 12) (aCons (dV 12) (aCons (dV 9) aNil)))) aNil)))) (sCons (sRet (dC (.bool false)))
    sNil) sNil)
    sNil))))))))
    sNil)))))))))
    (sCons (sRet (dC (.bool true)))
    sNil))
theorem ok_law {f : Addr} {fd : FuncData} (F : Fun K "law" "law" s_law f fd) (h_deck : HasS P w K mg base 1 "_law_deck" s__law_deck ["script"] (spDeck K T mk_deck)) (h__law_sizes : Has T P w K mg base 3 "_law_sizes" s__law_sizes ["deck"] F__law_sizes) (h__law_draw : Has T P w K mg base 1 "_law_draw" s__law_draw ["deck", "many"] F__law_draw) (h__law_drawn_book : Has T P w K mg base 4 "_law_drawn_book" s__law_drawn_book ["deck", "q", "n"] F__law_drawn_book) (h__law_sums : Has T P w K mg base 2 "_law_sums" s__law_sums ["q", "n", "rows"] F__law_sums) (h_dimension : Has T P w K mg base 9 "dimension" s_dimension ["book"] F_dimension) (h__law_are_words_right : Has T P w K mg base 10 "_law_are_words_right" s__law_are_words_right ["deck", "book", "words"] F__law_are_words_right) (h_within : Has T P w K mg base 9 "within" s_within ["book", "places"] F_within) (h__law_drawn_places : Has T P w K mg base 3 "_law_drawn_places" s__law_drawn_places ["deck", "n"] F__law_drawn_places) (h__law_within : Has T P w K mg base 3 "_law_within" s__law_within ["q", "n", "words", "places"] F__law_within) (h_book_of : Has T P w K mg base 5 "book_of" s_book_of ["q", "n", "rows"] F_book_of) (b_range : mg "range" = none) (b_repr : mg "repr" = none) (b_len : mg "len" = none) (b_tuple : mg "tuple" = none)
    (main : ∀ ns : List Int, ns.length ≤ 63 → ∃ y, B_law (lawSlots 14 1, mk_deck ns) = some (.rt (.bool true), y)) : FnG P w K mg base CX0 11 f fd ["script"] (spLaw K T) := by
  obtain ⟨oc, od, kV, doc, pm, an, cdv, ct, osl, rfl, lk, hcd⟩ := F.ex
  obtain ⟨fk, fdk, FK, mdk, bdk, GK⟩ := h_deck
  refine fnG_of (k := 10) lk hcd sc_law (fun vs H Q E h => ?_) fun A outer s H vs Q E hr h => ⟨_, PSs.nox (pss_cons (ps_set (i := 1) sc_law.nd rfl (by first | exact .inl rfl | exact .inr rfl) (pe_callG GK (RoomG.mono hr (by decide)) (by rfl) mdk FK.kp bdk pass0 (pa_cons (pv 0) pa_nil)))
    ((dss_cons (ds_for PassesOwn.never rfl (di_range1 (by rfl) b_range (da_cons (de_c pe_int fun _ => .int _) da_nil)) (dg_name (pg_name (i := 2) sc_law.nd rfl (by first | exact .inl rfl | exact .inr rfl))) (dss_cons (ds_asg (de_callH h__law_sizes (RoomG.mono hr (by decide)) (by rfl) (da_cons (de_v 1 (pv 1)) da_nil) (len_cons (len_nil))) (dg_tup rfl (dgs_cons (dg_name (pg_name (i := 3) sc_law.nd rfl (by first | exact .inl rfl | exact .inr rfl))) (dgs_cons (dg_name (pg_name (i := 4) sc_law.nd rfl (by first | exact .inl rfl | exact .inr rfl))) dgs_nil))))
    (dss_cons (ds_if (dt_cmp (oa_eq hr.rm.units) (de_callH h__law_draw (RoomG.mono hr (by decide)) (by rfl) (da_cons (de_v 1 (pv 1)) (da_cons (de_c pe_int fun _ => .int _) da_nil)) (len_cons (len_cons (len_nil)))) (de_c pe_int fun _ => .int _) (nomark _)) (dss_cons (ds_par (i := 3) (j := 4) rfl sc_law.nd rfl rfl (by decide) rfl rfl (da_cons (de_c pe_int fun _ => .int _) (da_cons (de_op oa_add (de_c pe_int fun _ => .int _) (de_callH h__law_draw (RoomG.mono hr (by decide)) (by rfl) (da_cons (de_v 1 (pv 1)) (da_cons (de_c pe_int fun _ => .int _) da_nil)) (len_cons (len_cons (len_nil))))) da_nil)) (by kernel_rfl))
    dss_nil) dss_nil)
    (dss_cons (ds_set (i := 5) sc_law.nd rfl (by first | exact .inl rfl | exact .inr rfl) (de_callH h__law_drawn_book (RoomG.mono hr (by decide)) (by rfl) (da_cons (de_v 1 (pv 1)) (da_cons (de_v 3 (pv 3)) (da_cons (de_v 4 (pv 4)) da_nil))) (len_cons (len_cons (len_cons (len_nil))))))
    (dss_cons (ds_set (i := 5) sc_law.nd rfl (by first | exact .inl rfl | exact .inr rfl) (de_if (dt_cmp oa_gt (de_v 4 (pv 4)) (de_c pe_int fun _ => .int _) (nomark _)) (de_tup (da_cons (de_v 3 (pv 3)) (da_cons (de_v 4 (pv 4)) (da_cons (de_sl (de_ix (de_v 5 (pv 5)) (de_c pe_int fun _ => .int _) (fun _ _ => rfl)) do_none (do_some (de_c pe_int fun _ => .int _))) da_nil)))) (de_v 5 (pv 5))))
    (dss_cons (ds_set (i := 6) sc_law.nd rfl (by first | exact .inl rfl | exact .inr rfl) (de_callH h__law_sums (RoomG.mono hr (by decide)) (by rfl) (da_cons (de_v 3 (pv 3)) (da_cons (de_v 4 (pv 4)) (da_cons (de_ix (de_v 5 (pv 5)) (de_c pe_int fun _ => .int _) (fun _ _ => rfl)) da_nil))) (len_cons (len_cons (len_cons (len_nil))))))
    (dss_cons (ds_if (PW.pt (dw_or (dt_not (dt_tru (de_callH h__law_are_words_right (RoomG.mono hr (by decide)) (by rfl) (da_cons (de_v 1 (pv 1)) (da_cons (de_v 5 (pv 5)) (da_cons (de_v 6 (pv 6)) da_nil))) (len_cons (len_cons (len_cons (len_nil))))))) (dw_or1 (dt_cmp (oa_ne hr.rm.units) (de_callB (ca_repr hr.gd hr.rm.units) (by rfl) b_repr (by decide +kernel) (da_cons (de_callH h_dimension (RoomG.mono hr (by decide)) (by rfl) (da_cons (de_v 5 (pv 5)) da_nil) (len_cons (len_nil))) da_nil)) (de_callB (ca_repr hr.gd hr.rm.units) (by rfl) b_repr (by decide +kernel) (da_cons (de_callB ca_len (by rfl) b_len (by decide +kernel) (da_cons (de_ix (de_v 5 (pv 5)) (de_c pe_int fun _ => .int _) (fun _ _ => rfl)) da_nil)) da_nil)) (nomark _))))) (dss_cons (ds_ret (de_c pe_bl fun _ => .bl _))
    dss_nil) dss_nil)
    (dss_cons (ds_if (dt_cmp (oa_ne hr.rm.units) (de_callB (ca_repr hr.gd hr.rm.units) (by rfl) b_repr (by decide +kernel) (da_cons (de_tup (da_cons (de_callH h_within (RoomG.mono hr (by decide)) (by rfl) (da_cons (de_v 5 (pv 5)) (da_cons (de_tupRg rfl (by rfl) b_tuple (drg_1 (by rfl) b_range (de_v 4 (pv 4)))) da_nil)) (len_cons (len_cons (len_nil)))) (da_cons (de_callH h_within (RoomG.mono hr (by decide)) (by rfl) (da_cons (de_v 5 (pv 5)) (da_cons (de_tup da_nil) da_nil)) (len_cons (len_cons (len_nil)))) da_nil))) da_nil)) (de_callB (ca_repr hr.gd hr.rm.units) (by rfl) b_repr (by decide +kernel) (da_cons (de_tup (da_cons (de_v 5 (pv 5)) (da_cons (de_tup (da_cons (de_v 3 (pv 3)) (da_cons (de_v 4 (pv 4)) (da_cons (de_tup da_nil) da_nil)))) da_nil))) da_nil)) (nomark _)) (dss_cons (ds_ret (de_c pe_bl fun _ => .bl _))
    dss_nil) dss_nil)
    (dss_cons (ds_for PassesOwn.never rfl (di_range1 (by rfl) b_range (da_cons (de_c pe_int fun _ => .int _) da_nil)) (dg_name (pg_name (i := 7) sc_law.nd rfl (by first | exact .inl rfl | exact .inr rfl))) (dss_cons (ds_set (i := 8) sc_law.nd rfl (by first | exact .inl rfl | exact .inr rfl) (de_callH h__law_drawn_places (RoomG.mono hr (by decide)) (by rfl) (da_cons (de_v 1 (pv 1)) (da_cons (de_v 4 (pv 4)) da_nil)) (len_cons (len_cons (len_nil)))))
    (dss_cons (ds_set (i := 9) sc_law.nd rfl (by first | exact .inl rfl | exact .inr rfl) (de_tup (da_cons (de_v 3 (pv 3)) (da_cons (de_v 4 (pv 4)) (da_cons (de_callH h__law_within (RoomG.mono hr (by decide)) (by rfl) (da_cons (de_v 3 (pv 3)) (da_cons (de_v 4 (pv 4)) (da_cons (de_v 6 (pv 6)) (da_cons (de_v 8 (pv 8)) da_nil)))) (len_cons (len_cons (len_cons (len_cons (len_nil)))))) da_nil)))))
    (dss_cons (ds_set (i := 10) sc_law.nd rfl (by first | exact .inl rfl | exact .inr rfl) (de_if (dt_cmp (oa_eq hr.rm.units) (de_op oa_and (de_v 7 (pv 7)) (de_c pe_int fun _ => .int _)) (de_c pe_int fun _ => .int _) (nomark _)) (de_callH h_within (RoomG.mono hr (by decide)) (by rfl) (da_cons (de_v 5 (pv 5)) (da_cons (de_v 8 (pv 8)) da_nil)) (len_cons (len_cons (len_nil)))) (de_callK0 h_within (RoomG.mono hr (by decide)) (by rfl) kb_within_0_places_book (dk_cons (de_v 8 (pv 8)) (dk_cons (de_v 5 (pv 5)) dk_nil)) (len_cons (len_cons (len_nil))) (fun hs e => pick_len hs e (by decide)))))
    (dss_cons (ds_if (dt_cmp (oa_ne hr.rm.units) (de_callB (ca_repr hr.gd hr.rm.units) (by rfl) b_repr (by decide +kernel) (da_cons (de_v 10 (pv 10)) da_nil)) (de_callB (ca_repr hr.gd hr.rm.units) (by rfl) b_repr (by decide +kernel) (da_cons (de_v 9 (pv 9)) da_nil)) (nomark _)) (dss_cons (ds_ret (de_c pe_bl fun _ => .bl _))
    dss_nil) dss_nil)
    (dss_cons (ds_set (i := 11) sc_law.nd rfl (by first | exact .inl rfl | exact .inr rfl) (de_callTy ca_tuple (by rfl) b_tuple (by decide +kernel) (da_cons (de_new (df_lc (own := [("at", 13)]) (js := [13]) rfl sc_law.nd (di_seq (de_v 8 (pv 8))) (blk_ok (by kernel_rfl) (by kernel_rfl)) (by decide) (fun _ _ _ _ _ => (dg_name (pg_name (i := 13) sc_law.nd rfl (by first | exact .inl rfl | exact .inr rfl)))) (fun _ _ _ _ _ => (dts_one (dt_cmp oa_gt (de_callH h__law_draw (RoomG.mono hr (by decide)) (by rfl) (da_cons (de_v 1 (pv 1)) (da_cons (de_c pe_int fun _ => .int _) da_nil)) (len_cons (len_cons (len_nil)))) (de_c pe_int fun _ => .int _) (nomark _)))) (fun _ _ _ _ _ => (de_v 13 (pv 13))))) da_nil)))
    (dss_cons (ds_set (i := 12) sc_law.nd rfl (by first | exact .inl rfl | exact .inr rfl) (de_tup (da_cons (de_v 3 (pv 3)) (da_cons (de_v 4 (pv 4)) (da_cons (de_callH h__law_within (RoomG.mono hr (by decide)) (by rfl) (da_cons (de_v 3 (pv 3)) (da_cons (de_v 4 (pv 4)) (da_cons (de_v 6 (pv 6)) (da_cons (de_v 11 (pv 11)) da_nil)))) (len_cons (len_cons (len_cons (len_cons (len_nil)))))) da_nil)))))
    (dss_cons (ds_if (dt_cmp (oa_ne hr.rm.units) (de_callB (ca_repr hr.gd hr.rm.units) (by rfl) b_repr (by decide +kernel) (da_cons (de_tup (da_cons (de_callH h_within (RoomG.mono hr (by decide)) (by rfl) (da_cons (de_v 9 (pv 9)) (da_cons (de_v 11 (pv 11)) da_nil)) (len_cons (len_cons (len_nil)))) (da_cons (de_callH h_within (RoomG.mono hr (by decide)) (by rfl) (da_cons (de_v 5 (pv 5)) (da_cons (de_v 11 (pv 11)) da_nil)) (len_cons (len_cons (len_nil)))) (da_cons (de_callH h_book_of (RoomG.mono hr (by decide)) (by rfl) (da_cons (de_v 3 (pv 3)) (da_cons (de_v 4 (pv 4)) (da_cons (de_op oa_add (de_ix (de_v 12 (pv 12)) (de_c pe_int fun _ => .int _) (fun _ _ => rfl)) (de_ix (de_v 9 (pv 9)) (de_c pe_int fun _ => .int _) (fun _ _ => rfl))) da_nil))) (len_cons (len_cons (len_cons (len_nil))))) da_nil)))) da_nil)) (de_callB (ca_repr hr.gd hr.rm.units) (by rfl) b_repr (by decide +kernel) (da_cons (de_tup (da_cons (de_v 12 (pv 12)) (da_cons (de_v 12 (pv 12)) (da_cons (de_v 9 (pv 9)) da_nil)))) da_nil)) (nomark _)) (dss_cons (ds_ret (de_c pe_bl fun _ => .bl _))
    dss_nil) dss_nil)
    dss_nil))))))))
    dss_nil)))))))))
    (dss_cons (ds_ret (de_c pe_bl fun _ => .bl _))
    dss_nil)) : DSs T _ _ B_law)), law_read (by decide) (by decide) main h⟩
  obtain ⟨a, ns, rfl, _⟩ := h
  rfl
end
/-! ### the end -/
def dd (x : Str) (st : Stmt) : He.DefD := ⟨(x, none), x, x, defArgs st, defBody st, defScope st, [], []⟩
def fns0 : List He.DefD := [dd "is_int" s_is_int, dd "is_int_from" s_is_int_from, dd "is_field" s_is_field, dd "is_tuple_of" s_is_tuple_of, dd "is_row" s_is_row, dd "noughts" s_noughts, dd "unit_rows" s_unit_rows, dd "times" s_times, dd "plus" s_plus, dd "inverse_of" s_inverse_of, dd "head_of" s_head_of, dd "rest_of" s_rest_of, dd "is_sum" s_is_sum, dd "plain_with" s_plain_with, dd "sums_of" s_sums_of, dd "is_length" s_is_length, dd "is_places" s_is_places, dd "_law_draw" s__law_draw, dd "_law_pick" s__law_pick, dd "_law_inverse" s__law_inverse, dd "_law_plus" s__law_plus, dd "_law_times" s__law_times, dd "_law_first" s__law_first, dd "_law_plain" s__law_plain, dd "_law_sums" s__law_sums, dd "_law_drawn_row" s__law_drawn_row, dd "_law_sizes" s__law_sizes, dd "_law_drawn_book" s__law_drawn_book, dd "_law_within" s__law_within, dd "_law_drawn_places" s__law_drawn_places]
def fns1 : List He.DefD := [dd "plain_of" s_plain_of, dd "partner_rows" s_partner_rows, dd "book_of" s_book_of, dd "is_plain" s_is_plain, dd "is_book" s_is_book, dd "check_book" s_check_book, dd "dimension" s_dimension, dd "words_of" s_words_of, dd "has_word" s_has_word, dd "within" s_within, dd "_law_are_words_right" s__law_are_words_right, dd "_law_deck" s__law_deck, dd "law" s_law]
def fns : List He.DefD := fns0 ++ fns1
def fas0 : List He.Fa := [.glo "is_int", .glo "is_int_from", .glo "is_field", .glo "is_tuple_of", .glo "is_row", .glo "noughts", .glo "unit_rows", .glo "times", .glo "plus", .glo "inverse_of", .glo "head_of", .glo "rest_of", .glo "is_sum", .glo "plain_with", .glo "sums_of", .glo "is_length", .glo "is_places", .glo "_law_draw", .glo "_law_pick", .glo "_law_inverse", .glo "_law_plus", .glo "_law_times", .glo "_law_first", .glo "_law_plain", .glo "_law_sums", .glo "_law_drawn_row", .glo "_law_sizes", .glo "_law_drawn_book", .glo "_law_within", .glo "_law_drawn_places"]
def fas1 : List He.Fa := [.glo "plain_of", .glo "partner_rows", .glo "book_of", .glo "is_plain", .glo "is_book", .glo "check_book", .glo "dimension", .glo "words_of", .glo "has_word", .glo "within", .glo "_law_are_words_right", .glo "_law_deck", .glo "law", .free "all", .free "any", .free "bool", .free "dict", .free "enumerate", .free "int", .free "isinstance", .free "len", .free "list", .free "max", .free "range", .free "repr", .free "sorted", .free "tuple", .free "zip", .int "FEWEST_PLACES" 2, .int "MOST_PLACES" 12]
def fas2 : List He.Fa := [.glo "FIELDS"]
def fas : List He.Fa := fas0 ++ fas1 ++ fas2
def gts : List He.Defn := [("is_row", none), ("is_places", none), ("is_plain", none)]
def lts : List He.Defn := []
def tbs : List He.Defn := gts ++ lts
def exB (K : PySem.W.Frag) : Bool := lamB K gts lts && He.tupB K "FIELDS" (([2, 3, 5] : List Int).map He.Dv.int)
abbrev R : PySem.W.OpenRow := PySem.W.OpenLaw.row PySem.Challenge.rw_roundstairs_k01_whole_words_and_words_wi
abbrev hk : PySem.W.Hook := He.hookX 6 fas fns [] tbs exB
def ob (s : PySem.W.SharedT) : He.AlX := He.obsX 6 fas fns [] tbs exB (HandSHeadRun.getT s)
theorem ob_eq (s : PySem.W.SharedT) : ob s = hk.obs s.abs := He.obsX_eq (HandSHeadRun.getT_eq s)
def names0 : List PySem.Str := ["StairError", "BadField", "BadLength", "BadRow", "BadBook", "BadPlaces", "FIELDS", "is_int", "is_int_from", "is_field", "is_tuple_of", "is_row", "is_plain", "noughts", "unit_rows", "times", "plus", "inverse_of", "head_of", "rest_of", "is_sum", "plain_of", "plain_with", "partner_rows", "sums_of", "FEWEST_PLACES", "MOST_PLACES", "is_length", "is_book", "check_book"]
def names1 : List PySem.Str := ["book_of", "dimension", "words_of", "has_word", "is_places", "within", "_law_deck", "_law_draw", "_law_pick", "_law_inverse", "_law_plus", "_law_times", "_law_first", "_law_plain", "_law_sums", "_law_drawn_row", "_law_sizes", "_law_drawn_book", "_law_within", "_law_drawn_places", "_law_are_words_right"]
def names : List PySem.Str := names0 ++ names1
theorem run (w : World) : HandSHeadRun.RunEq R (PySem.W.view R.prog [55]) hk ob 20000 names w := by
  intro os
  kernel_rfl
abbrev TT (K : PySem.W.Frag) : TB := { g := (gts.map (He.cT K)).map (·.2), l := lts.map fun p => ((He.cT K p).2, lamQ p.1), dn := "draws" }
theorem facts (main : ∀ ns : List Int, ns.length ≤ 63 → ∃ y, B_law (lawSlots 14 1, mk_deck ns) = some (.rt (.bool true), y)) {w : World} {K : PySem.W.Frag} {h : Heap} {mg : Str → Option Value} {f : Addr} (X : K.In h) (G : h.Ns mainGlobals mg)
    (hfa : mg ("law" : Str) = some (.ref f)) (c : He.SaysX fas fns [] tbs exB w h K) : LawG PySem.Challenge.rw_roundstairs_k01_whole_words_and_words_wi w K 11 63 "script" mg f h := by
  have D := c.t.d
  obtain ⟨d_is_int, D_is_int⟩ := D.def_ 0 (d := dd "is_int" s_is_int) rfl
  obtain ⟨d_is_int_from, D_is_int_from⟩ := D.def_ 1 (d := dd "is_int_from" s_is_int_from) rfl
  obtain ⟨d_is_field, D_is_field⟩ := D.def_ 2 (d := dd "is_field" s_is_field) rfl
  obtain ⟨d_is_tuple_of, D_is_tuple_of⟩ := D.def_ 3 (d := dd "is_tuple_of" s_is_tuple_of) rfl
  obtain ⟨d_is_row, D_is_row⟩ := D.def_ 4 (d := dd "is_row" s_is_row) rfl
  obtain ⟨d_noughts, D_noughts⟩ := D.def_ 5 (d := dd "noughts" s_noughts) rfl
  obtain ⟨d_unit_rows, D_unit_rows⟩ := D.def_ 6 (d := dd "unit_rows" s_unit_rows) rfl
  obtain ⟨d_times, D_times⟩ := D.def_ 7 (d := dd "times" s_times) rfl
  obtain ⟨d_plus, D_plus⟩ := D.def_ 8 (d := dd "plus" s_plus) rfl
  obtain ⟨d_inverse_of, D_inverse_of⟩ := D.def_ 9 (d := dd "inverse_of" s_inverse_of) rfl
  obtain ⟨d_head_of, D_head_of⟩ := D.def_ 10 (d := dd "head_of" s_head_of) rfl
  obtain ⟨d_rest_of, D_rest_of⟩ := D.def_ 11 (d := dd "rest_of" s_rest_of) rfl
  obtain ⟨d_is_sum, D_is_sum⟩ := D.def_ 12 (d := dd "is_sum" s_is_sum) rfl
  obtain ⟨d_plain_with, D_plain_with⟩ := D.def_ 13 (d := dd "plain_with" s_plain_with) rfl
  obtain ⟨d_sums_of, D_sums_of⟩ := D.def_ 14 (d := dd "sums_of" s_sums_of) rfl
  obtain ⟨d_is_length, D_is_length⟩ := D.def_ 15 (d := dd "is_length" s_is_length) rfl
  obtain ⟨d_is_places, D_is_places⟩ := D.def_ 16 (d := dd "is_places" s_is_places) rfl
  obtain ⟨d__law_draw, D__law_draw⟩ := D.def_ 17 (d := dd "_law_draw" s__law_draw) rfl
  obtain ⟨d__law_pick, D__law_pick⟩ := D.def_ 18 (d := dd "_law_pick" s__law_pick) rfl
  obtain ⟨d__law_inverse, D__law_inverse⟩ := D.def_ 19 (d := dd "_law_inverse" s__law_inverse) rfl
  obtain ⟨d__law_plus, D__law_plus⟩ := D.def_ 20 (d := dd "_law_plus" s__law_plus) rfl
  obtain ⟨d__law_times, D__law_times⟩ := D.def_ 21 (d := dd "_law_times" s__law_times) rfl
  obtain ⟨d__law_first, D__law_first⟩ := D.def_ 22 (d := dd "_law_first" s__law_first) rfl
  obtain ⟨d__law_plain, D__law_plain⟩ := D.def_ 23 (d := dd "_law_plain" s__law_plain) rfl
  obtain ⟨d__law_sums, D__law_sums⟩ := D.def_ 24 (d := dd "_law_sums" s__law_sums) rfl
  obtain ⟨d__law_drawn_row, D__law_drawn_row⟩ := D.def_ 25 (d := dd "_law_drawn_row" s__law_drawn_row) rfl
  obtain ⟨d__law_sizes, D__law_sizes⟩ := D.def_ 26 (d := dd "_law_sizes" s__law_sizes) rfl
  obtain ⟨d__law_drawn_book, D__law_drawn_book⟩ := D.def_ 27 (d := dd "_law_drawn_book" s__law_drawn_book) rfl
  obtain ⟨d__law_within, D__law_within⟩ := D.def_ 28 (d := dd "_law_within" s__law_within) rfl
  obtain ⟨d__law_drawn_places, D__law_drawn_places⟩ := D.def_ 29 (d := dd "_law_drawn_places" s__law_drawn_places) rfl
  obtain ⟨d_plain_of, D_plain_of⟩ := D.def_ 30 (d := dd "plain_of" s_plain_of) rfl
  obtain ⟨d_partner_rows, D_partner_rows⟩ := D.def_ 31 (d := dd "partner_rows" s_partner_rows) rfl
  obtain ⟨d_book_of, D_book_of⟩ := D.def_ 32 (d := dd "book_of" s_book_of) rfl
  obtain ⟨d_is_plain, D_is_plain⟩ := D.def_ 33 (d := dd "is_plain" s_is_plain) rfl
  obtain ⟨d_is_book, D_is_book⟩ := D.def_ 34 (d := dd "is_book" s_is_book) rfl
  obtain ⟨d_check_book, D_check_book⟩ := D.def_ 35 (d := dd "check_book" s_check_book) rfl
  obtain ⟨d_dimension, D_dimension⟩ := D.def_ 36 (d := dd "dimension" s_dimension) rfl
  obtain ⟨d_words_of, D_words_of⟩ := D.def_ 37 (d := dd "words_of" s_words_of) rfl
  obtain ⟨d_has_word, D_has_word⟩ := D.def_ 38 (d := dd "has_word" s_has_word) rfl
  obtain ⟨d_within, D_within⟩ := D.def_ 39 (d := dd "within" s_within) rfl
  obtain ⟨d__law_are_words_right, D__law_are_words_right⟩ := D.def_ 40 (d := dd "_law_are_words_right" s__law_are_words_right) rfl
  obtain ⟨d__law_deck, D__law_deck⟩ := D.def_ 41 (d := dd "_law_deck" s__law_deck) rfl
  obtain ⟨d_law, D_law⟩ := D.def_ 42 (d := dd "law" s_law) rfl
  have g_is_int := He.glo_ok X G (D.fact 0 (f := .glo "is_int") rfl)
  have g_is_int_from := He.glo_ok X G (D.fact 1 (f := .glo "is_int_from") rfl)
  have g_is_field := He.glo_ok X G (D.fact 2 (f := .glo "is_field") rfl)
  have g_is_tuple_of := He.glo_ok X G (D.fact 3 (f := .glo "is_tuple_of") rfl)
  have g_is_row := He.glo_ok X G (D.fact 4 (f := .glo "is_row") rfl)
  have g_noughts := He.glo_ok X G (D.fact 5 (f := .glo "noughts") rfl)
  have g_unit_rows := He.glo_ok X G (D.fact 6 (f := .glo "unit_rows") rfl)
  have g_times := He.glo_ok X G (D.fact 7 (f := .glo "times") rfl)
  have g_plus := He.glo_ok X G (D.fact 8 (f := .glo "plus") rfl)
  have g_inverse_of := He.glo_ok X G (D.fact 9 (f := .glo "inverse_of") rfl)
  have g_head_of := He.glo_ok X G (D.fact 10 (f := .glo "head_of") rfl)
  have g_rest_of := He.glo_ok X G (D.fact 11 (f := .glo "rest_of") rfl)
  have g_is_sum := He.glo_ok X G (D.fact 12 (f := .glo "is_sum") rfl)
  have g_plain_with := He.glo_ok X G (D.fact 13 (f := .glo "plain_with") rfl)
  have g_sums_of := He.glo_ok X G (D.fact 14 (f := .glo "sums_of") rfl)
  have g_is_length := He.glo_ok X G (D.fact 15 (f := .glo "is_length") rfl)
  have g_is_places := He.glo_ok X G (D.fact 16 (f := .glo "is_places") rfl)
  have g__law_draw := He.glo_ok X G (D.fact 17 (f := .glo "_law_draw") rfl)
  have g__law_pick := He.glo_ok X G (D.fact 18 (f := .glo "_law_pick") rfl)
  have g__law_inverse := He.glo_ok X G (D.fact 19 (f := .glo "_law_inverse") rfl)
  have g__law_plus := He.glo_ok X G (D.fact 20 (f := .glo "_law_plus") rfl)
  have g__law_times := He.glo_ok X G (D.fact 21 (f := .glo "_law_times") rfl)
  have g__law_first := He.glo_ok X G (D.fact 22 (f := .glo "_law_first") rfl)
  have g__law_plain := He.glo_ok X G (D.fact 23 (f := .glo "_law_plain") rfl)
  have g__law_sums := He.glo_ok X G (D.fact 24 (f := .glo "_law_sums") rfl)
  have g__law_drawn_row := He.glo_ok X G (D.fact 25 (f := .glo "_law_drawn_row") rfl)
  have g__law_sizes := He.glo_ok X G (D.fact 26 (f := .glo "_law_sizes") rfl)
  have g__law_drawn_book := He.glo_ok X G (D.fact 27 (f := .glo "_law_drawn_book") rfl)
  have g__law_within := He.glo_ok X G (D.fact 28 (f := .glo "_law_within") rfl)
  have g__law_drawn_places := He.glo_ok X G (D.fact 29 (f := .glo "_law_drawn_places") rfl)
  have g_plain_of := He.glo_ok X G (D.fact 30 (f := .glo "plain_of") rfl)
  have g_partner_rows := He.glo_ok X G (D.fact 31 (f := .glo "partner_rows") rfl)
  have g_book_of := He.glo_ok X G (D.fact 32 (f := .glo "book_of") rfl)
  have g_is_plain := He.glo_ok X G (D.fact 33 (f := .glo "is_plain") rfl)
  have g_is_book := He.glo_ok X G (D.fact 34 (f := .glo "is_book") rfl)
  have g_check_book := He.glo_ok X G (D.fact 35 (f := .glo "check_book") rfl)
  have g_dimension := He.glo_ok X G (D.fact 36 (f := .glo "dimension") rfl)
  have g_words_of := He.glo_ok X G (D.fact 37 (f := .glo "words_of") rfl)
  have g_has_word := He.glo_ok X G (D.fact 38 (f := .glo "has_word") rfl)
  have g_within := He.glo_ok X G (D.fact 39 (f := .glo "within") rfl)
  have g__law_are_words_right := He.glo_ok X G (D.fact 40 (f := .glo "_law_are_words_right") rfl)
  have g__law_deck := He.glo_ok X G (D.fact 41 (f := .glo "_law_deck") rfl)
  have g_law := He.glo_ok X G (D.fact 42 (f := .glo "law") rfl)
  have b_all := He.free_ok X G (D.fact 43 (f := .free "all") rfl)
  have b_any := He.free_ok X G (D.fact 44 (f := .free "any") rfl)
  have b_bool := He.free_ok X G (D.fact 45 (f := .free "bool") rfl)
  have b_dict := He.free_ok X G (D.fact 46 (f := .free "dict") rfl)
  have b_enumerate := He.free_ok X G (D.fact 47 (f := .free "enumerate") rfl)
  have b_int := He.free_ok X G (D.fact 48 (f := .free "int") rfl)
  have b_isinstance := He.free_ok X G (D.fact 49 (f := .free "isinstance") rfl)
  have b_len := He.free_ok X G (D.fact 50 (f := .free "len") rfl)
  have b_list := He.free_ok X G (D.fact 51 (f := .free "list") rfl)
  have b_max := He.free_ok X G (D.fact 52 (f := .free "max") rfl)
  have b_range := He.free_ok X G (D.fact 53 (f := .free "range") rfl)
  have b_repr := He.free_ok X G (D.fact 54 (f := .free "repr") rfl)
  have b_sorted := He.free_ok X G (D.fact 55 (f := .free "sorted") rfl)
  have b_tuple := He.free_ok X G (D.fact 56 (f := .free "tuple") rfl)
  have b_zip := He.free_ok X G (D.fact 57 (f := .free "zip") rfl)
  have c_FEWEST_PLACES : GlobC K mg "FEWEST_PLACES" C_FEWEST_PLACES := glob_int X G (D.fact 58 (f := .int "FEWEST_PLACES" 2) rfl)
  have c_MOST_PLACES : GlobC K mg "MOST_PLACES" C_MOST_PLACES := glob_int X G (D.fact 59 (f := .int "MOST_PLACES" 12) rfl)
  have ex : exB K = true := c.more
  unfold exB at ex
  rw [Bool.and_eq_true] at ex
  obtain ⟨lx, ex⟩ := ex
  obtain ⟨lx1, lx2, lx3⟩ := lam_apart lx
  have c_FIELDS : GlobC K mg "FIELDS" C_FIELDS := glob_tup (ns := [2, 3, 5]) X G (D.fact 60 (f := .glo "FIELDS") rfl) ex
  have e := hfa.symm.trans g_law
  cases e
  refine ⟨d_law, tbs.map (He.cT K), spLaw K (TT K), fun p hp => ?_, fun p hp => ?_, fun p hp => ?_, fun s v => FunD.bindsA (ps := ["script"]) D_law (fun _ _ _ _ _ _ us hl => match us, hl with | [_], _ => rfl) s [v] rfl, fun H a ns hl hH hS => ⟨a, ns, rfl, hS, hl, ⟨fun P hP => ?_, fun y hy => ?_⟩, fun _ => rfl⟩, fun base hK hG tb => ?_⟩
  · obtain ⟨y, hy, rfl⟩ := List.mem_map.mp hp
    exact c.empty y hy
  · obtain ⟨y, hy, rfl⟩ := List.mem_map.mp hp
    exact c.out y hy
  · obtain ⟨y, hy, rfl⟩ := List.mem_map.mp hp
    exact PySem.W.codeHd_of_K X (c.hd y hy)
  · obtain ⟨p0, hp0, rfl⟩ := List.mem_map.mp hP
    obtain ⟨p, hp, rfl⟩ := List.mem_map.mp hp0
    exact ⟨#[], hH _ (List.mem_map.mpr ⟨p, List.mem_append.mpr (.inl hp), rfl⟩), trivial⟩
  · obtain ⟨p, hp, rfl⟩ := List.mem_map.mp hy
    exact LamX.TabS.nil (hH _ (List.mem_map.mpr ⟨p, List.mem_append.mpr (.inr hp), rfl⟩))
  have hd : DnOk (TT K) := ⟨(by decide : ("cells" : Str) ≠ "draws"), (by decide : ("mixed" : Str) ≠ "draws")⟩
  have h_is_int : Has (TT K) PySem.Challenge.rw_roundstairs_k01_whole_words_and_words_wi.prog w K mg base 1 "is_int" s_is_int ["thing"] F_is_int := has_mk (fun_ofD D_is_int) g_is_int (fun _ _ _ _ _ _ us hl => match us, hl with | [_], _ => rfl) (ok_is_int (fun_ofD D_is_int) b_isinstance b_bool b_int)
  have h_is_int_from : Has (TT K) PySem.Challenge.rw_roundstairs_k01_whole_words_and_words_wi.prog w K mg base 2 "is_int_from" s_is_int_from ["low", "high", "thing"] F_is_int_from := has_mk (fun_ofD D_is_int_from) g_is_int_from (fun _ _ _ _ _ _ us hl => match us, hl with | [_, _, _], _ => rfl) (ok_is_int_from (fun_ofD D_is_int_from) h_is_int)
  have h_is_field : Has (TT K) PySem.Challenge.rw_roundstairs_k01_whole_words_and_words_wi.prog w K mg base 2 "is_field" s_is_field ["thing"] F_is_field := has_mk (fun_ofD D_is_field) g_is_field (fun _ _ _ _ _ _ us hl => match us, hl with | [_], _ => rfl) (ok_is_field (fun_ofD D_is_field) h_is_int c_FIELDS)
  have h_is_tuple_of : Has (TT K) PySem.Challenge.rw_roundstairs_k01_whole_words_and_words_wi.prog w K mg base 1 "is_tuple_of" s_is_tuple_of ["length", "thing"] F_is_tuple_of := has_mk (fun_ofD D_is_tuple_of) g_is_tuple_of (fun _ _ _ _ _ _ us hl => match us, hl with | [_, _], _ => rfl) (ok_is_tuple_of (fun_ofD D_is_tuple_of) b_len b_isinstance b_tuple)
  have h_is_row : Has (TT K) PySem.Challenge.rw_roundstairs_k01_whole_words_and_words_wi.prog w K mg base 4 "is_row" s_is_row ["q", "n", "thing"] F_is_row := has_mk (funC_ofD (p := ("is_row", none)) D_is_row).fun g_is_row (fun _ _ _ _ _ _ us hl => match us, hl with | [_, _, _], _ => rfl) (ok_is_row (funC_ofD (p := ("is_row", none)) D_is_row) (tb _ (List.mem_map.mpr ⟨("is_row", none), List.mem_of_getElem? (i := 0) rfl, rfl⟩)) (List.mem_map.mpr ⟨_, List.mem_map.mpr ⟨_, (List.mem_of_getElem? (i := 0) rfl : ((("is_row" : Str), none) : He.Defn) ∈ gts), rfl⟩, rfl⟩) (lx1 _ (List.mem_of_getElem? (i := 0) rfl : ((("is_row" : Str), none) : He.Defn) ∈ gts)) h_is_int_from h_is_tuple_of b_all)
  have h_noughts : Has (TT K) PySem.Challenge.rw_roundstairs_k01_whole_words_and_words_wi.prog w K mg base 1 "noughts" s_noughts ["n"] F_noughts := has_mk (fun_ofD D_noughts) g_noughts (fun _ _ _ _ _ _ us hl => match us, hl with | [_], _ => rfl) (ok_noughts (fun_ofD D_noughts) )
  have h_unit_rows : Has (TT K) PySem.Challenge.rw_roundstairs_k01_whole_words_and_words_wi.prog w K mg base 2 "unit_rows" s_unit_rows ["n", "places"] F_unit_rows := has_mk (fun_ofD D_unit_rows) g_unit_rows (fun _ _ _ _ _ _ us hl => match us, hl with | [_, _], _ => rfl) (ok_unit_rows (fun_ofD D_unit_rows) h_noughts)
  have h_times : Has (TT K) PySem.Challenge.rw_roundstairs_k01_whole_words_and_words_wi.prog w K mg base 1 "times" s_times ["q", "factor", "row"] F_times := has_mk (fun_ofD D_times) g_times (fun _ _ _ _ _ _ us hl => match us, hl with | [_, _, _], _ => rfl) (ok_times (fun_ofD D_times) b_tuple)
  have h_plus : Has (TT K) PySem.Challenge.rw_roundstairs_k01_whole_words_and_words_wi.prog w K mg base 1 "plus" s_plus ["q", "row", "factor", "other"] F_plus := has_mk (fun_ofD D_plus) g_plus (fun _ _ _ _ _ _ us hl => match us, hl with | [_, _, _, _], _ => rfl) (ok_plus (fun_ofD D_plus) b_zip b_tuple)
  have h_inverse_of : Has (TT K) PySem.Challenge.rw_roundstairs_k01_whole_words_and_words_wi.prog w K mg base 1 "inverse_of" s_inverse_of ["q", "mark"] F_inverse_of := has_mk (fun_ofD D_inverse_of) g_inverse_of (fun _ _ _ _ _ _ us hl => match us, hl with | [_, _], _ => rfl) (ok_inverse_of (fun_ofD D_inverse_of) )
  have h_head_of : Has (TT K) PySem.Challenge.rw_roundstairs_k01_whole_words_and_words_wi.prog w K mg base 1 "head_of" s_head_of ["row"] F_head_of := has_mk (fun_ofD D_head_of) g_head_of (fun _ _ _ _ _ _ us hl => match us, hl with | [_], _ => rfl) (ok_head_of (fun_ofD D_head_of) b_enumerate b_len)
  have h_rest_of : Has (TT K) PySem.Challenge.rw_roundstairs_k01_whole_words_and_words_wi.prog w K mg base 2 "rest_of" s_rest_of ["q", "basis", "row"] F_rest_of := has_mk (fun_ofD D_rest_of) g_rest_of (fun _ _ _ _ _ _ us hl => match us, hl with | [_, _, _], _ => rfl) (ok_rest_of (fun_ofD D_rest_of) h_head_of h_plus)
  have h_is_sum : Has (TT K) PySem.Challenge.rw_roundstairs_k01_whole_words_and_words_wi.prog w K mg base 3 "is_sum" s_is_sum ["q", "basis", "row"] F_is_sum := has_mk (fun_ofD D_is_sum) g_is_sum (fun _ _ _ _ _ _ us hl => match us, hl with | [_, _, _], _ => rfl) (ok_is_sum (fun_ofD D_is_sum) h_rest_of b_any)
  have h_plain_with : Has (TT K) PySem.Challenge.rw_roundstairs_k01_whole_words_and_words_wi.prog w K mg base 2 "plain_with" s_plain_with ["q", "basis", "rest"] F_plain_with := has_mk (fun_ofD D_plain_with) g_plain_with (fun _ _ _ _ _ _ us hl => match us, hl with | [_, _, _], _ => rfl) (ok_plain_with (fun_ofD D_plain_with) h_head_of h_times h_inverse_of h_plus b_sorted b_tuple)
  have h_sums_of : Has (TT K) PySem.Challenge.rw_roundstairs_k01_whole_words_and_words_wi.prog w K mg base 2 "sums_of" s_sums_of ["q", "n", "rows"] F_sums_of := has_mk (fun_ofD D_sums_of) g_sums_of (fun _ _ _ _ _ _ us hl => match us, hl with | [_, _, _], _ => rfl) (ok_sums_of (fun_ofD D_sums_of) h_noughts h_plus b_range b_sorted b_tuple)
  have h_is_length : Has (TT K) PySem.Challenge.rw_roundstairs_k01_whole_words_and_words_wi.prog w K mg base 3 "is_length" s_is_length ["thing"] F_is_length := has_mk (fun_ofD D_is_length) g_is_length (fun _ _ _ _ _ _ us hl => match us, hl with | [_], _ => rfl) (ok_is_length (fun_ofD D_is_length) h_is_int_from c_FEWEST_PLACES c_MOST_PLACES)
  have h_is_places : Has (TT K) PySem.Challenge.rw_roundstairs_k01_whole_words_and_words_wi.prog w K mg base 4 "is_places" s_is_places ["n", "thing"] F_is_places := has_mk (funC_ofD (p := ("is_places", none)) D_is_places).fun g_is_places (fun _ _ _ _ _ _ us hl => match us, hl with | [_, _], _ => rfl) (ok_is_places (funC_ofD (p := ("is_places", none)) D_is_places) (tb _ (List.mem_map.mpr ⟨("is_places", none), List.mem_of_getElem? (i := 1) rfl, rfl⟩)) (List.mem_map.mpr ⟨_, List.mem_map.mpr ⟨_, (List.mem_of_getElem? (i := 1) rfl : ((("is_places" : Str), none) : He.Defn) ∈ gts), rfl⟩, rfl⟩) (lx1 _ (List.mem_of_getElem? (i := 1) rfl : ((("is_places" : Str), none) : He.Defn) ∈ gts)) h_is_int_from b_all b_isinstance b_tuple b_zip)
  have h__law_draw : Has (TT K) PySem.Challenge.rw_roundstairs_k01_whole_words_and_words_wi.prog w K mg base 1 "_law_draw" s__law_draw ["deck", "many"] F__law_draw := has_mk (fun_ofD D__law_draw) g__law_draw (fun _ _ _ _ _ _ us hl => match us, hl with | [_, _], _ => rfl) (ok__law_draw (fun_ofD D__law_draw) b_max b_int hd rfl)
  have h__law_pick : Has (TT K) PySem.Challenge.rw_roundstairs_k01_whole_words_and_words_wi.prog w K mg base 2 "_law_pick" s__law_pick ["deck", "some"] F__law_pick := has_mk (fun_ofD D__law_pick) g__law_pick (fun _ _ _ _ _ _ us hl => match us, hl with | [_, _], _ => rfl) (ok__law_pick (fun_ofD D__law_pick) h__law_draw b_len)
  have h__law_inverse : Has (TT K) PySem.Challenge.rw_roundstairs_k01_whole_words_and_words_wi.prog w K mg base 1 "_law_inverse" s__law_inverse ["q", "x"] F__law_inverse := has_mk (fun_ofD D__law_inverse) g__law_inverse (fun _ _ _ _ _ _ us hl => match us, hl with | [_, _], _ => rfl) (ok__law_inverse (fun_ofD D__law_inverse) b_range b_int)
  have h__law_plus : Has (TT K) PySem.Challenge.rw_roundstairs_k01_whole_words_and_words_wi.prog w K mg base 1 "_law_plus" s__law_plus ["q", "one", "other", "times_v"] F__law_plus := has_mk (fun_ofD D__law_plus) g__law_plus (fun _ _ _ _ _ _ us hl => match us, hl with | [_, _, _, _], _ => rfl) (ok__law_plus (fun_ofD D__law_plus) b_zip b_int b_tuple)
  have h__law_times : Has (TT K) PySem.Challenge.rw_roundstairs_k01_whole_words_and_words_wi.prog w K mg base 1 "_law_times" s__law_times ["q", "row", "times_v"] F__law_times := has_mk (fun_ofD D__law_times) g__law_times (fun _ _ _ _ _ _ us hl => match us, hl with | [_, _, _], _ => rfl) (ok__law_times (fun_ofD D__law_times) b_int b_tuple)
  have h__law_first : Has (TT K) PySem.Challenge.rw_roundstairs_k01_whole_words_and_words_wi.prog w K mg base 1 "_law_first" s__law_first ["row"] F__law_first := has_mk (fun_ofD D__law_first) g__law_first (fun _ _ _ _ _ _ us hl => match us, hl with | [_], _ => rfl) (ok__law_first (fun_ofD D__law_first) b_enumerate)
  have h__law_plain : Has (TT K) PySem.Challenge.rw_roundstairs_k01_whole_words_and_words_wi.prog w K mg base 2 "_law_plain" s__law_plain ["q", "rows"] F__law_plain := has_mk (fun_ofD D__law_plain) g__law_plain (fun _ _ _ _ _ _ us hl => match us, hl with | [_, _], _ => rfl) (ok__law_plain (fun_ofD D__law_plain) h__law_plus h__law_first h__law_times h__law_inverse b_sorted b_tuple)
  have h__law_sums : Has (TT K) PySem.Challenge.rw_roundstairs_k01_whole_words_and_words_wi.prog w K mg base 2 "_law_sums" s__law_sums ["q", "n", "rows"] F__law_sums := has_mk (fun_ofD D__law_sums) g__law_sums (fun _ _ _ _ _ _ us hl => match us, hl with | [_, _, _], _ => rfl) (ok__law_sums (fun_ofD D__law_sums) h__law_plus b_range b_sorted)
  have h__law_drawn_row : Has (TT K) PySem.Challenge.rw_roundstairs_k01_whole_words_and_words_wi.prog w K mg base 3 "_law_drawn_row" s__law_drawn_row ["deck", "q", "n"] F__law_drawn_row := has_mk (fun_ofD D__law_drawn_row) g__law_drawn_row (fun _ _ _ _ _ _ us hl => match us, hl with | [_, _, _], _ => rfl) (ok__law_drawn_row (fun_ofD D__law_drawn_row) h__law_pick h__law_draw b_range b_tuple)
  have h__law_sizes : Has (TT K) PySem.Challenge.rw_roundstairs_k01_whole_words_and_words_wi.prog w K mg base 3 "_law_sizes" s__law_sizes ["deck"] F__law_sizes := has_mk (fun_ofD D__law_sizes) g__law_sizes (fun _ _ _ _ _ _ us hl => match us, hl with | [_], _ => rfl) (ok__law_sizes (fun_ofD D__law_sizes) h__law_pick)
  have h__law_drawn_book : Has (TT K) PySem.Challenge.rw_roundstairs_k01_whole_words_and_words_wi.prog w K mg base 4 "_law_drawn_book" s__law_drawn_book ["deck", "q", "n"] F__law_drawn_book := has_mk (fun_ofD D__law_drawn_book) g__law_drawn_book (fun _ _ _ _ _ _ us hl => match us, hl with | [_, _, _], _ => rfl) (ok__law_drawn_book (fun_ofD D__law_drawn_book) h__law_draw h__law_drawn_row h__law_plain b_range)
  have h__law_within : Has (TT K) PySem.Challenge.rw_roundstairs_k01_whole_words_and_words_wi.prog w K mg base 3 "_law_within" s__law_within ["q", "n", "words", "places"] F__law_within := has_mk (fun_ofD D__law_within) g__law_within (fun _ _ _ _ _ _ us hl => match us, hl with | [_, _, _, _], _ => rfl) (ok__law_within (fun_ofD D__law_within) h__law_plain b_enumerate)
  have h__law_drawn_places : Has (TT K) PySem.Challenge.rw_roundstairs_k01_whole_words_and_words_wi.prog w K mg base 3 "_law_drawn_places" s__law_drawn_places ["deck", "n"] F__law_drawn_places := has_mk (fun_ofD D__law_drawn_places) g__law_drawn_places (fun _ _ _ _ _ _ us hl => match us, hl with | [_, _], _ => rfl) (ok__law_drawn_places (fun_ofD D__law_drawn_places) h__law_pick h__law_draw b_range b_tuple)
  have h_plain_of : Has (TT K) PySem.Challenge.rw_roundstairs_k01_whole_words_and_words_wi.prog w K mg base 3 "plain_of" s_plain_of ["q", "rows"] F_plain_of := has_mk (fun_ofD D_plain_of) g_plain_of (fun _ _ _ _ _ _ us hl => match us, hl with | [_, _], _ => rfl) (ok_plain_of (fun_ofD D_plain_of) h_rest_of h_plain_with b_any)
  have h_partner_rows : Has (TT K) PySem.Challenge.rw_roundstairs_k01_whole_words_and_words_wi.prog w K mg base 4 "partner_rows" s_partner_rows ["q", "n", "rows"] F_partner_rows := has_mk (fun_ofD D_partner_rows) g_partner_rows (fun _ _ _ _ _ _ us hl => match us, hl with | [_, _, _], _ => rfl) (ok_partner_rows (fun_ofD D_partner_rows) h_plain_of h_head_of b_range b_zip b_tuple)
  have h_book_of : Has (TT K) PySem.Challenge.rw_roundstairs_k01_whole_words_and_words_wi.prog w K mg base 5 "book_of" s_book_of ["q", "n", "rows"] F_book_of := has_mk (fun_ofD D_book_of) g_book_of (fun _ _ _ _ _ _ us hl => match us, hl with | [_, _, _], _ => rfl) (ok_book_of (fun_ofD D_book_of) h_is_field h_is_length h_is_row h_plain_of b_isinstance b_tuple)
  have h_is_plain : Has (TT K) PySem.Challenge.rw_roundstairs_k01_whole_words_and_words_wi.prog w K mg base 6 "is_plain" s_is_plain ["q", "n", "thing"] F_is_plain := has_mk (funC_ofD (p := ("is_plain", none)) D_is_plain).fun g_is_plain (fun _ _ _ _ _ _ us hl => match us, hl with | [_, _, _], _ => rfl) (ok_is_plain (funC_ofD (p := ("is_plain", none)) D_is_plain) (tb _ (List.mem_map.mpr ⟨("is_plain", none), List.mem_of_getElem? (i := 2) rfl, rfl⟩)) (List.mem_map.mpr ⟨_, List.mem_map.mpr ⟨_, (List.mem_of_getElem? (i := 2) rfl : ((("is_plain" : Str), none) : He.Defn) ∈ gts), rfl⟩, rfl⟩) (lx1 _ (List.mem_of_getElem? (i := 2) rfl : ((("is_plain" : Str), none) : He.Defn) ∈ gts)) h_is_row h_plain_of b_all b_isinstance b_tuple)
  have h_is_book : Has (TT K) PySem.Challenge.rw_roundstairs_k01_whole_words_and_words_wi.prog w K mg base 7 "is_book" s_is_book ["thing"] F_is_book := has_mk (fun_ofD D_is_book) g_is_book (fun _ _ _ _ _ _ us hl => match us, hl with | [_], _ => rfl) (ok_is_book (fun_ofD D_is_book) h_is_tuple_of h_is_plain h_is_length h_is_field)
  have h_check_book : Has (TT K) PySem.Challenge.rw_roundstairs_k01_whole_words_and_words_wi.prog w K mg base 8 "check_book" s_check_book ["book"] F_check_book := has_mk (fun_ofD D_check_book) g_check_book (fun _ _ _ _ _ _ us hl => match us, hl with | [_], _ => rfl) (ok_check_book (fun_ofD D_check_book) h_is_book)
  have h_dimension : Has (TT K) PySem.Challenge.rw_roundstairs_k01_whole_words_and_words_wi.prog w K mg base 9 "dimension" s_dimension ["book"] F_dimension := has_mk (fun_ofD D_dimension) g_dimension (fun _ _ _ _ _ _ us hl => match us, hl with | [_], _ => rfl) (ok_dimension (fun_ofD D_dimension) h_check_book b_len)
  have h_words_of : Has (TT K) PySem.Challenge.rw_roundstairs_k01_whole_words_and_words_wi.prog w K mg base 9 "words_of" s_words_of ["book"] F_words_of := has_mk (fun_ofD D_words_of) g_words_of (fun _ _ _ _ _ _ us hl => match us, hl with | [_], _ => rfl) (ok_words_of (fun_ofD D_words_of) h_check_book h_sums_of)
  have h_has_word : Has (TT K) PySem.Challenge.rw_roundstairs_k01_whole_words_and_words_wi.prog w K mg base 9 "has_word" s_has_word ["book", "row"] F_has_word := has_mk (fun_ofD D_has_word) g_has_word (fun _ _ _ _ _ _ us hl => match us, hl with | [_, _], _ => rfl) (ok_has_word (fun_ofD D_has_word) h_check_book h_is_row h_is_sum)
  have h_within : Has (TT K) PySem.Challenge.rw_roundstairs_k01_whole_words_and_words_wi.prog w K mg base 9 "within" s_within ["book", "places"] F_within := has_mk (fun_ofD D_within) g_within (fun _ _ _ _ _ _ us hl => match us, hl with | [_, _], _ => rfl) (ok_within (fun_ofD D_within) h_check_book h_is_places h_partner_rows h_unit_rows b_range b_list)
  have h__law_are_words_right : Has (TT K) PySem.Challenge.rw_roundstairs_k01_whole_words_and_words_wi.prog w K mg base 10 "_law_are_words_right" s__law_are_words_right ["deck", "book", "words"] F__law_are_words_right := has_mk (fun_ofD D__law_are_words_right) g__law_are_words_right (fun _ _ _ _ _ _ us hl => match us, hl with | [_, _, _], _ => rfl) (ok__law_are_words_right (fun_ofD D__law_are_words_right) h_words_of h__law_pick h__law_draw h__law_drawn_row h_has_word b_repr b_tuple b_dict b_range)
  have h_deck : HasS PySem.Challenge.rw_roundstairs_k01_whole_words_and_words_wi.prog w K mg base 1 "_law_deck" s__law_deck ["script"] (spDeck K (TT K) mk_deck) := ⟨_, _, fun_ofD (st := s__law_deck) D__law_deck, g__law_deck, Fun.binds (ps := ["script"]) (fun_ofD (x := "_law_deck") (q := "_law_deck") (st := s__law_deck) D__law_deck) (fun _ _ _ _ _ _ us hl => match us, hl with | [_], _ => rfl), ok__law_deck (fun_ofD D__law_deck) hd rfl b_int b_list⟩
  exact ok_law (fun_ofD D_law) h_deck h__law_sizes h__law_draw h__law_drawn_book h__law_sums h_dimension h__law_are_words_right h_within h__law_drawn_places h__law_within h_book_of b_range b_repr b_len b_tuple main
end K01
open PySem PySem.W PySem.Calls PyProof.Rows DD in
theorem K01_holds (main : ∀ ns : List Int, ns.length ≤ 63 → ∃ y, K01.B_law (lawSlots 14 1, K01.mk_deck ns) = some (.rt (.bool true), y)) : PySem.Challenge.rw_roundstairs_k01_whole_words_and_words_wi.Holds := by
  w_on; o_law
  refine HandSHeadRun.head_any (r := OpenLaw.row PySem.Challenge.rw_roundstairs_k01_whole_words_and_words_wi) (q := view (OpenLaw.row PySem.Challenge.rw_roundstairs_k01_whole_words_and_words_wi).prog [55]) (H := K01.hk) (ob := K01.ob) (M := 20000) (loose := K01.names) (d := HandSHeadRun.topDef (OpenLaw.row PySem.Challenge.rw_roundstairs_k01_whole_words_and_words_wi).prog 55) (kwd := []) K01.ob_eq
    (by kernel_rfl) (fun s => by kernel_rfl) K01.run (by kernel_rfl) (by kernel_rfl) (by kernel_rfl) (by rfl) (by first | assumption | decide +kernel) (by decide +kernel) ⟨rfl, rfl, rfl, rfl, rfl, by decide +kernel⟩ ?hw ?hc
  case hw => w_witness2
  case hc =>
    refine walk_ofGE (l := PySem.Challenge.rw_roundstairs_k01_whole_words_and_words_wi) (n := 63) (k := 11) (x := "script") rfl (by decide) (by kernel_rfl) (roomG_caller ⟨rfl, by decide, by decide⟩) ?F
    intro w mg fa h Y G hmg0
    obtain ⟨K, KX, c⟩ := Y
    have hmg : mg ("law" : PySem.Str) = some (.ref fa) := by
      have e : (HandSHeadRun.topDef (OpenLaw.row PySem.Challenge.rw_roundstairs_k01_whole_words_and_words_wi).prog 55).name = ("law" : PySem.Str) := by kernel_rfl
      rw [← e]
      exact hmg0
    exact ⟨K, KX, K01.facts main KX G hmg c⟩
namespace K01
open PySem PyProof.Rows L2 DD LA
def isInt : PyData → Bool
  | .int _ => true
  | _ => false
@[simp] theorem fp_is_int (d : PyData) (k : Dk) (Q : PyData → Dk → Prop) : Fp F_is_int [.val d] k Q ↔ Q (.bool (isInt d)) k := by
  unfold F_is_int B_is_int
  cases d <;> simp [fp_runD, kit_int, kit_bool, isInt]
def intIn (lo hi : Int) : PyData → Bool
  | .int i => decide (lo ≤ i ∧ i ≤ hi)
  | _ => false
@[simp] theorem fp_is_int_from (lo hi : Int) (d : PyData) (k : Dk) (Q : PyData → Dk → Prop) : Fp F_is_int_from [.val (.int lo), .val (.int hi), .val d] k Q ↔ Q (.bool (intIn lo hi d)) k := by
  unfold F_is_int_from B_is_int_from
  cases d with
  | int i =>
    simp [fp_runD, isInt, intIn]
    by_cases h : lo ≤ i <;> simp [h]
  | _ => simp [fp_runD, isInt, intIn]
def fieldB : PyData → Bool
  | .int i => decide (i = 2 ∨ i = 3 ∨ i = 5)
  | _ => false
@[simp] theorem fp_is_field (d : PyData) (k : Dk) (Q : PyData → Dk → Prop) : Fp F_is_field [.val d] k Q ↔ Q (.bool (fieldB d)) k := by
  unfold F_is_field B_is_field
  cases d with
  | int i =>
    have e : inD (.int i) C_FIELDS = some (.bool (decide (i ∈ [2, 3, 5]))) := inD_ints i [2, 3, 5]
    simp [fp_runD, isInt, fieldB, e]
  | _ => simp [fp_runD, isInt, fieldB]
def tupN (n : Int) : PyData → Bool
  | .tuple ds => decide ((ds.length : Int) = n)
  | _ => false
@[simp] theorem fp_is_tuple_of (n : Int) (d : PyData) (k : Dk) (Q : PyData → Dk → Prop) : Fp F_is_tuple_of [.val (.int n), .val d] k Q ↔ Q (.bool (tupN n d)) k := by
  unfold F_is_tuple_of B_is_tuple_of
  cases d <;> simp [fp_runD, kit_tuple, tupN]
def itemsOf : PyData → List PyData
  | .tuple ds => ds
  | .list ds => ds
  | _ => []
def rowB (q n : Int) (d : PyData) : Bool := tupN n d && (itemsOf d).all (intIn 0 (q - 1))
@[simp] theorem fp_is_row (q n : Int) (d : PyData) (k : Dk) (Q : PyData → Dk → Prop) : Fp F_is_row [.val (.int q), .val (.int n), .val d] k Q ↔ Q (.bool (rowB q n d)) k := by
  unfold F_is_row B_is_row
  cases d with
  | tuple ds =>
    simp [fp_runD, rowB, tupN, itemsOf]
    by_cases h : (ds.length : Int) = n
    · simp [h]
      rw [wp_all (intIn 0 (q - 1)) (fun a ha => by simp)]
    · simp [h]
  | _ => simp [fp_runD, rowB, tupN]
theorem rowB_iff {q n : Int} {d : PyData} : rowB q n d = true ↔ ∃ r : Row, d = rowD r ∧ (r.length : Int) = n ∧ ∀ x ∈ r, 0 ≤ x ∧ x < q := by
  constructor
  · intro h
    unfold rowB at h
    rw [Bool.and_eq_true] at h
    obtain ⟨h1, h2⟩ := h
    cases d with
    | tuple ds =>
      simp [tupN] at h1
      simp only [itemsOf, List.all_eq_true] at h2
      have : ∃ r : Row, ds = r.map .int ∧ ∀ x ∈ r, 0 ≤ x ∧ x < q := by
        clear h1
        induction ds with
        | nil => exact ⟨[], rfl, by simp⟩
        | cons d ds ih =>
          obtain ⟨r, e, hr⟩ := ih fun z hz => h2 z (List.mem_cons_of_mem _ hz)
          have h3 := h2 d List.mem_cons_self
          cases d with
          | int i =>
            simp [intIn] at h3
            refine ⟨i :: r, by rw [e]; rfl, fun x hx => ?_⟩
            rcases List.mem_cons.mp hx with rfl | hx
            · omega
            · exact hr x hx
          | _ => simp [intIn] at h3
      obtain ⟨r, rfl, hr⟩ := this
      exact ⟨r, rfl, by rw [List.length_map] at h1; exact h1, hr⟩
    | _ => simp [tupN] at h1
  · rintro ⟨r, rfl, h1, h2⟩
    simp [rowB, rowD, tupN, itemsOf, intIn, h1]
    intro x hx
    have := h2 x hx
    omega
theorem rowB_rw {q : Int} {n : Nat} {r : Row} (h : Rw q n r) : rowB q n (rowD r) = true := rowB_iff.mpr ⟨r, rfl, by rw [h.1], h.2⟩
/-- a bound that products may have -/
def Bd (t : Int) : Prop := -18446744073709551616 < t ∧ t < 18446744073709551616
theorem fp_noughts {n : Nat} (hn : n ≤ 1000) (k : Dk) (Q : PyData → Dk → Prop) : Fp F_noughts [.val (.int n)] k Q ↔ Q (rowD (nou n)) k := by
  unfold F_noughts B_noughts
  have e : repL (n : Int) [PyData.int 0] = (nou n).map .int := by
    unfold repL nou
    rw [Int.toNat_natCast, List.map_replicate]
    induction n with
    | zero => rfl
    | succ n ih => rw [List.replicate_succ, List.flatten_cons, ih (by omega), List.replicate_succ]; rfl
  simp [fp_runD]
  rw [mulD_tup (by simp; omega)]
  simp [e, rowD]
theorem zip_rows (r s : Row) : zipD (r.map .int) (s.map .int) = (List.zip r s).map fun p => .tuple [.int p.1, .int p.2] := by
  unfold zipD List.zip
  rw [List.zipWith_map, List.map_zipWith]
theorem fp_times {q t : Int} {r : Row} (hq : 0 < q) (ht : Bd t) (hl : r.length ≤ 1000) (k : Dk) (Q : PyData → Dk → Prop) : Fp F_times [.val (.int q), .val (.int t), .val (rowD r)] k Q ↔ Q (rowD (tms q r t)) k := by
  refine Fp.all ?_ Q
  unfold F_times B_times
  simp [fp_runD, rowD]
  refine ⟨by omega, ?_⟩
  rw [wp_lc_map (f := fun x => .int (t * x % q)) (fun x hx => by simp [mulD_l ht, modD_int hq])]
  simp [tms, Function.comp_def, Int.mul_comm]
theorem fp_plus {q t : Int} {r s : Row} (hq : 0 < q) (ht : Bd t) (hl : r.length ≤ 1000) (k : Dk) (Q : PyData → Dk → Prop) : Fp F_plus [.val (.int q), .val (rowD r), .val (.int t), .val (rowD s)] k Q ↔ Q (rowD (pls q r s t)) k := by
  refine Fp.all ?_ Q
  unfold F_plus B_plus
  simp [fp_runD, rowD]
  rw [zip_rows]
  refine ⟨by simp; omega, ?_⟩
  rw [wp_lc_map (f := fun p => .int ((p.1 + t * p.2) % q)) (fun x hx => by simp [mulD_l ht, modD_int hq])]
  simp [pls, List.zip, List.map_zipWith]
theorem inv_cases {q x : Int} (hq : Pq q) (h0 : 0 < x) (h1 : x < q) : (q = 2 ∧ x = 1) ∨ (q = 3 ∧ x = 1) ∨ (q = 3 ∧ x = 2) ∨ (q = 5 ∧ x = 1) ∨ (q = 5 ∧ x = 2) ∨ (q = 5 ∧ x = 3) ∨ (q = 5 ∧ x = 4) := by
  rcases hq with rfl | rfl | rfl <;> omega
theorem fp_inverse {q x : Int} (hq : Pq q) (h0 : 0 < x) (h1 : x < q) (k : Dk) (Q : PyData → Dk → Prop) : Fp F_inverse_of [.val (.int q), .val (.int x)] k Q ↔ Q (.int (inv q x)) k := by
  refine Fp.of ?_
  rcases inv_cases hq h0 h1 with ⟨rfl, rfl⟩ | ⟨rfl, rfl⟩ | ⟨rfl, rfl⟩ | ⟨rfl, rfl⟩ | ⟨rfl, rfl⟩ | ⟨rfl, rfl⟩ | ⟨rfl, rfl⟩ <;> with_unfolding_all rfl
theorem hd_nou : ∀ (r : Row), (∀ x ∈ r, x = 0) → hd r = r.length := fun r h => by
  unfold hd
  rw [List.findIdx_eq_length]
  intro x hx
  rw [h x hx]; rfl
theorem enum_row (r : Row) : enumD (r.map PyData.int) = r.zipIdx.map fun p => .tuple [.int (p.2 : Int), .int p.1] := enumD_map PyData.int r
theorem fp_head {r : Row} (k : Dk) (Q : PyData → Dk → Prop) : Fp F_head_of [.val (rowD r)] k Q ↔ Q (.int (hd r)) k := by
  refine Fp.all ?_ Q
  unfold F_head_of B_head_of
  simp [fp_runD, rowD, enum_row]
  refine wp_forR (fun l y => ∃ (pre suf : Row) (s1 s2 : Slot), r = pre ++ suf ∧ (∀ x ∈ pre, x = 0) ∧ l = (suf.zipIdx pre.length).map (fun p => PyData.tuple [.int (p.2 : Int), .int p.1]) ∧ y = ([.val (.tuple (r.map .int)), s1, s2], k)) ⟨[], r, .no, .no, rfl, by simp, rfl, rfl⟩ ?_ ?_
  · rintro d l y R ⟨pre, suf, s1, s2, e, hz, hl, rfl⟩ h1 - - h4
    cases suf with
    | nil => simp at hl
    | cons x suf =>
      simp [List.zipIdx_cons] at hl
      obtain ⟨rfl, rfl⟩ := hl
      simp
      by_cases hx : x = 0
      · subst hx
        simp
        refine h1 _ ⟨pre ++ [0], suf, _, _, by rw [e, List.append_assoc]; rfl, ?_, by simp, rfl⟩
        intro y hy
        rcases List.mem_append.mp hy with hy | hy
        · exact hz y hy
        · simpa using hy
      · simp [hx]
        refine h4 _ _ ?_
        simp
        symm
        refine congrArg (fun n : Nat => (n : Int)) (hd_eq ?_ fun j hj => ?_)
        · rw [ev_lt (by rw [e]; simp)]
          simp [e, hx]
        · rw [ev_lt (by rw [e]; simp; omega)]
          have : r[j]'(by rw [e]; simp; omega) = pre[j] := by simp [e, List.getElem_append_left hj]
          rw [this]
          exact hz _ (List.getElem_mem hj)
  · rintro y ⟨pre, suf, s1, s2, e, hz, hl, rfl⟩
    have : suf = [] := by cases suf <;> simp at hl ⊢
    subst this
    simp
    rw [List.append_nil] at e
    subst e
    exact congrArg (fun n : Nat => (n : Int)) (hd_nou _ hz).symm
end K01
namespace K01
open PySem PyProof.Rows L2 DD LA
variable {q : Int} {n : Nat}
theorem inv_lt {q x : Int} : inv q x < 6 ∧ 0 < inv q x := by
  unfold inv
  by_cases h1 : x * 1 % q = 1
  · rw [if_pos h1]; omega
  · rw [if_neg h1]
    by_cases h2 : x * 2 % q = 1
    · rw [if_pos h2]; omega
    · rw [if_neg h2]
      by_cases h3 : x * 3 % q = 1
      · rw [if_pos h3]; omega
      · rw [if_neg h3]; omega
theorem bd_mark (hq : Pq q) {t : Int} (h : -6 < t ∧ t < 6) : Bd t := ⟨by omega, by omega⟩
theorem fp_rest (hq : Pq q) (hn : n ≤ 1000) {B : List Row} (P : Pl q n B) {v : Row} (hv : Rw q n v) (k : Dk) (Q : PyData → Dk → Prop) :
    Fp F_rest_of [.val (.int q), .val (rsD B), .val (rowD v)] k Q ↔ Q (rowD (red q B v)) k := by
  have hq0 := hq.pos
  have h5 := hq.le5
  refine Fp.all ?_ Q
  unfold F_rest_of B_rest_of
  simp [fp_runD, rsD]
  refine wp_forR (fun l y => ∃ (suf : List Row) (w : Row) (s1 s2 : Slot), l = suf.map rowD ∧ (∀ b ∈ suf, b ∈ B) ∧ Rw q n w ∧ red q suf w = red q B v ∧ y = ([.val (.int q), .val (.tuple (B.map rowD)), .val (rowD v), .val (rowD w), s1, s2], k)) ⟨B, v, .no, .no, rfl, fun _ h => h, hv, rfl, rfl⟩ ?_ ?_
  · rintro d l y R ⟨suf, w, s1, s2, hl, hm, hw, e, rfl⟩ h1 - - -
    cases suf with
    | nil => cases hl
    | cons b suf =>
      rw [List.map_cons, List.cons.injEq] at hl
      obtain ⟨rfl, rfl⟩ := hl
      have hb := hm b List.mem_cons_self
      have rb := P.row b hb
      have lb := P.lt b hb
      have ix : ixD (rowD w) (.int (hd b : Int)) = some (.int (ev w (hd b))) := ix_row (by rw [hw.1]; exact lb)
      have ew := hw.ev hq0 (hd b)
      simp [fp_head, ix]
      have hm' : ∀ c ∈ suf, c ∈ B := fun c hc => hm c (List.mem_cons_of_mem _ hc)
      by_cases hz : ev w (hd b) = 0
      · simp [hz]
        refine h1 _ ⟨suf, w, _, _, rfl, hm', hw, ?_, rfl⟩
        rw [← e]
        show red q suf w = red q suf (pls q w b (-(ev w (hd b))))
        rw [hz]
        exact congrArg (red q suf) (pls_zero hq0 hw rb.1).symm
      · simp [hz]
        rw [fp_plus hq0 ⟨by omega, by omega⟩ (by rw [hw.1]; exact hn)]
        exact h1 _ ⟨suf, _, _, _, rfl, hm', hw.pls hq0 rb _, e, rfl⟩
  · rintro y ⟨suf, w, s1, s2, hl, hm, hw, e, rfl⟩
    have : suf = [] := by cases suf with
      | nil => rfl
      | cons _ _ => cases hl
    subst this
    simp
    exact congrArg rowD e
theorem fp_is_sum (hq : Pq q) (hn : n ≤ 1000) {B : List Row} (P : Pl q n B) {v : Row} (hv : Rw q n v) (k : Dk) (Q : PyData → Dk → Prop) :
    Fp F_is_sum [.val (.int q), .val (rsD B), .val (rowD v)] k Q ↔ Q (.bool (decide (red q B v = nou n))) k := by
  refine Fp.all ?_ Q
  unfold F_is_sum B_is_sum
  simp [fp_runD, fp_rest hq hn P hv, any_row, (red_row hq.pos P.row hv).1]
theorem fp_plain_with (hq : Pq q) (h0 : 0 < n) (hn : n ≤ 1000) {B : List Row} (P : Pl q n B) (hl : B.length ≤ 1000000) {r : Row} (hr : Rw q n r) (hz : r ≠ nou n) (k : Dk) (Q : PyData → Dk → Prop) :
    Fp F_plain_with [.val (.int q), .val (rsD B), .val (rowD r)] k Q ↔ Q (rsD (srt (put q B (nrm q r)))) k := by
  have hq0 := hq.pos
  have h5 := hq.le5
  obtain ⟨l1, l2⟩ := hd_ne (r := r) (by rw [hr.1]; exact hz)
  obtain ⟨n1, n2, n3, n4, n5⟩ := nrm_ok hq hr hz
  have ix : ixD (rowD r) (.int (hd r : Int)) = some (.int (ev r (hd r))) := ix_row l1
  have er := hr.ev hq0 (hd r)
  have iv : inv q (ev r (hd r)) < 6 ∧ 0 < inv q (ev r (hd r)) := inv_lt
  refine Fp.all ?_ Q
  unfold F_plain_with B_plain_with
  simp [fp_runD, fp_head, ix]
  rw [fp_inverse hq (by omega) er.2]
  rw [fp_times hq0 ⟨by omega, by omega⟩ (by rw [hr.1]; exact hn)]
  rw [show tms q r (inv q (ev r (hd r))) = nrm q r from rfl]
  simp [rsD]
  rw [wp_lc_map (f := fun b => rowD (pls q b (nrm q r) (-(ev b (hd r))))) (fun b hb => by
    have rb := P.row b hb
    have ixb : ixD (rowD b) (.int (hd r : Int)) = some (.int (ev b (hd r))) := ix_row (by rw [rb.1]; exact n3)
    have eb := rb.ev hq0 (hd r)
    simp [ixb]
    rw [fp_plus hq0 ⟨by omega, by omega⟩ (by rw [rb.1]; exact hn)]
    simp)]
  have e : (B.map fun b => rowD (pls q b (nrm q r) (-(ev b (hd r))))) ++ [rowD (nrm q r)] = (put q B (nrm q r)).map rowD := by
    unfold put
    rw [List.map_append, List.map_map, n2]; rfl
  have rows : ∀ x ∈ put q B (nrm q r), x ≠ [] := fun x hx z => by
    have : x.length = n := by
      unfold put at hx
      rcases List.mem_append.mp hx with hx | hx
      · obtain ⟨b, hb, rfl⟩ := List.mem_map.mp hx
        exact ((P.row b hb).pls hq0 n1 _).1
      · rw [List.mem_singleton.mp hx]; exact n1.1
    rw [z] at this
    simp at this
    omega
  simp
  refine ⟨by omega, ?_⟩
  rw [addD_lst (by simp; omega), e]
  simp
  rw [sortD_rows (.inr rows)]
  simp
end K01
namespace K01
open PySem PyProof.Rows L2 DD LA
variable {q : Int} {n : Nat}
theorem fp_plain_of (hq : Pq q) (h0 : 0 < n) (hn : n ≤ 1000) {rows : List Row} (h : ∀ r ∈ rows, Rw q n r) {d : PyData} (hd : itemsD d = some (rows.map rowD)) (k : Dk) (Q : PyData → Dk → Prop) :
    Fp F_plain_of [.val (.int q), .val d] k Q ↔ Q (rsD (can q rows)) k := by
  have hq0 := hq.pos
  refine Fp.all ?_ Q
  unfold F_plain_of B_plain_of
  simp [fp_runD, hd]
  refine wp_forR (fun l y => ∃ (dn suf C : List Row) (s1 s2 : Slot), rows = dn ++ suf ∧ l = suf.map rowD ∧ Pl q n C ∧ (∀ v, Sp q n C v ↔ Sp q n dn v) ∧ srt C = C ∧ y = ([.val (.int q), .val d, .val (rsD C), s1, s2], k)) ⟨[], rows, [], .no, .no, rfl, rfl, Pl.nil, fun _ => Iff.rfl, by simp [srt, sortL], rfl⟩ ?_ ?_
  · rintro z l y R ⟨dn, suf, C, s1, s2, er, hl, P, S, so, rfl⟩ h1 - - -
    cases suf with
    | nil => cases hl
    | cons r suf =>
      rw [List.map_cons, List.cons.injEq] at hl
      obtain ⟨rfl, rfl⟩ := hl
      have rr : Rw q n r := h r (by rw [er]; simp)
      have r1 := red_row hq0 P.row rr
      obtain ⟨P2, S2⟩ := stp_ok hq P rr
      have hdn : ∀ x ∈ dn, Rw q n x := fun x hx => h x (by rw [er]; simp [hx])
      have S3 : ∀ v, Sp q n (stp q C r) v ↔ Sp q n (dn ++ [r]) v := fun v => by
        rw [S2 v, sp_snoc hq0 P.row rr, sp_snoc hq0 hdn rr]
        simp only [S]
      simp [fp_rest hq hn P rr, any_row, r1.1]
      by_cases hz : red q C r = nou n
      · have e : stp q C r = C := by
          unfold stp
          rw [if_pos (by rw [hz, rr.1])]
        rw [e] at S3
        simp [hz]
        exact h1 _ ⟨dn ++ [r], suf, C, _, _, by rw [er]; simp, rfl, P, S3, so, rfl⟩
      · have e : stp q C r = put q C (nrm q (red q C r)) := by
          unfold stp
          rw [if_neg (by rw [rr.1]; exact hz)]
        rw [e] at P2 S3
        simp [hz]
        rw [fp_plain_with hq h0 hn P (by have := pl_len P; omega) r1 hz]
        exact h1 _ ⟨dn ++ [r], suf, _, _, _, by rw [er]; simp, rfl, P2.perm (srt_perm _).symm, fun v => (Sp.perm (srt_perm _) v).trans (S3 v), srt_srt _, rfl⟩
  · rintro y ⟨dn, suf, C, s1, s2, er, hl, P, S, so, rfl⟩
    have : suf = [] := by cases suf with
      | nil => rfl
      | cons _ _ => cases hl
    subst this
    rw [List.append_nil] at er
    subst er
    simp
    rw [← can_uniq hq h P S, so]
theorem items_rsD (B : List Row) : itemsD (rsD B) = some (B.map rowD) := rfl
/-! ## the partner's rows -/
theorem mem_int_list (i : Int) (ns : List Int) : ninD (.int i) (.list (ns.map .int)) = some (.bool (decide (i ∉ ns))) := by
  have h1 : SeqAt.shaped (.int i) = true := shaped_iD (by simp [iD]) (by simp [PyData.depth])
  have h2 : SeqAt.shaped (.list (ns.map PyData.int)) = true := shaped_iD (by
    simp only [iD]
    exact iDs_iff.mpr fun d hd => by obtain ⟨j, _, rfl⟩ := List.mem_map.mp hd; simp [iD]) (by
    simp only [PyData.depth]
    have : PyData.depthAll (ns.map PyData.int) ≤ 0 := depthAll_le.mpr fun d hd => by obtain ⟨j, _, rfl⟩ := List.mem_map.mp hd; simp [PyData.depth]
    omega)
  unfold ninD
  simp only [h1, h2, Bool.and_self, if_true]
  have : ((ns.map PyData.int).any fun z => PyData.eqv z (.int i)) = decide (i ∈ ns) := by
    have a := any_eqv (d := .int i) (ds := ns.map PyData.int) (m := 0) (n := 0) (Idm.int i 0) fun e he => by obtain ⟨j, _, rfl⟩ := List.mem_map.mp he; exact Idm.int j 0
    by_cases hm : i ∈ ns
    · rw [decide_eq_true hm]
      exact a.mpr (List.mem_map.mpr ⟨i, hm, rfl⟩)
    · rw [decide_eq_false hm]
      refine Bool.eq_false_iff.mpr fun z => hm ?_
      obtain ⟨j, hj, e⟩ := List.mem_map.mp (a.mp z)
      cases e; exact hj
  rw [this]
  by_cases hm : i ∈ ns <;> simp [hm]
/-- a row built up: 1 at j, and for the heads of the rows done what they ask -/
def bld (q : Int) (n : Nat) (dn : List Row) (j : Nat) : Row := dn.foldl (fun r b => r.set (hd b) ((-(ev b j)) % q)) ((nou n).set j 1)
theorem bld_len (dn : List Row) (j : Nat) : (bld q n dn j).length = n := by
  unfold bld
  have : ∀ (dn : List Row) (r : Row), (dn.foldl (fun r b => r.set (hd b) ((-(ev b j)) % q)) r).length = r.length := fun dn => by
    induction dn with
    | nil => intro r; rfl
    | cons b dn ih => intro r; rw [List.foldl_cons, ih, List.length_set]
  rw [this, List.length_set]
  exact List.length_replicate
theorem ev_set (r : Row) (i : Nat) (x : Int) (j : Nat) : ev (r.set i x) j = if i = j ∧ j < r.length then x else ev r j := by
  unfold ev
  rw [List.getD_eq_getElem?_getD, List.getD_eq_getElem?_getD, List.getElem?_set]
  by_cases h : i = j
  · subst h
    by_cases hl : i < r.length
    · simp [hl]
    · simp [hl]
  · simp [h]
theorem bld_ok {B : List Row} (P : Pl q n B) {j : Nat} (hj : j ∈ frees n B) : bld q n B j = prow q n B j := by
  have fj := mem_frees.mp hj
  have go : ∀ (suf dn : List Row) (r : Row), B = dn ++ suf → r.length = n → (∀ i, i < n → ev r i = if i = j then 1 else match headOf dn i with
      | some b => (-(ev b j)) % q
      | none => 0) → ∀ i, i < n → ev (suf.foldl (fun r b => r.set (hd b) ((-(ev b j)) % q)) r) i = if i = j then 1 else match headOf B i with
      | some b => (-(ev b j)) % q
      | none => 0 := fun suf => by
    induction suf with
    | nil => intro dn r e hl h i hi; rw [List.append_nil] at e; subst e; exact h i hi
    | cons b suf ih =>
      intro dn r e hl h i hi
      rw [List.foldl_cons]
      refine ih (dn ++ [b]) _ (by rw [e]; simp) (by rw [List.length_set]; exact hl) (fun i hi => ?_) i hi
      have hb : b ∈ B := by rw [e]; simp
      rw [ev_set, h i hi, hl]
      have hbj := fj.2 b hb
      by_cases h1 : hd b = i
      · subst h1
        rw [if_pos ⟨rfl, hi⟩, if_neg hbj]
        have : headOf (dn ++ [b]) (hd b) = some b := by
          unfold headOf
          rw [List.find?_append]
          have : dn.find? (fun x => hd x == hd b) = none := by
            rw [List.find?_eq_none]
            intro x hx z
            have z : hd x = hd b := by simpa using z
            have nd := pl_heads P
            rw [e, List.map_append, List.map_cons] at nd
            have := (List.nodup_append.mp nd).2.2 (hd x) (List.mem_map.mpr ⟨x, hx, rfl⟩) (hd b) List.mem_cons_self
            exact this z
          rw [this]; simp
        rw [this]
      · rw [if_neg (fun z => h1 z.1)]
        have : headOf (dn ++ [b]) i = headOf dn i := by
          unfold headOf
          rw [List.find?_append]
          have : [b].find? (fun x => hd x == i) = none := by simp [h1]
          rw [this, Option.or_none]
        rw [this]
  refine row_ext (n := n) (bld_len B j) (by unfold prow; rw [List.length_map, List.length_range]) fun i hi => ?_
  rw [ev_prow hi]
  refine go B [] ((nou n).set j 1) rfl (by rw [List.length_set]; exact List.length_replicate) (fun i hi => ?_) i hi
  rw [ev_set, ev_nou]
  by_cases h : i = j
  · subst h; rw [if_pos ⟨rfl, by unfold nou; rw [List.length_replicate]; exact hi⟩, if_pos rfl]
  · rw [if_neg (fun z => h z.1.symm), if_neg h]; rfl
theorem repL_nou (n : Nat) : repL (n : Int) [PyData.int 0] = (nou n).map .int := by
  unfold repL nou
  rw [Int.toNat_natCast, List.map_replicate]
  induction n with
  | zero => rfl
  | succ n ih => rw [List.replicate_succ, List.flatten_cons, ih, List.replicate_succ]; rfl
theorem nin_heads {C : List Row} {j : Nat} (hj : j < n) : ninD (.int (j : Int)) (.list (C.map fun b => .int (LA.hd b : Int))) = some (.bool (decide (j ∈ frees n C))) := by
  have := mem_int_list (j : Int) (C.map fun b => (LA.hd b : Int))
  rw [List.map_map] at this
  refine this.trans ?_
  congr 2
  by_cases h : j ∈ frees n C
  · rw [decide_eq_true h]
    refine decide_eq_true fun z => ?_
    obtain ⟨b, hb, e⟩ := List.mem_map.mp z
    exact (mem_frees.mp h).2 b hb (by omega)
  · rw [decide_eq_false h]
    refine decide_eq_false fun z => h (mem_frees.mpr ⟨hj, fun b hb e => z (List.mem_map.mpr ⟨b, hb, by rw [e]⟩)⟩)
theorem fp_partner_rows (hq : Pq q) (h0 : 0 < n) (hn : n ≤ 1000) {rows : List Row} (h : ∀ r ∈ rows, Rw q n r) {d : PyData} (hd : itemsD d = some (rows.map rowD)) (k : Dk) (Q : PyData → Dk → Prop) :
    Fp F_partner_rows [.val (.int q), .val (.int n), .val d] k Q ↔ Q (rsD (pcan q n rows)) k := by
  have hq0 := hq.pos
  obtain ⟨P, S⟩ := can_ok hq h
  have lP := pl_len P
  refine Fp.all ?_ Q
  unfold F_partner_rows B_partner_rows
  simp [fp_runD, fp_plain_of hq h0 hn h hd, items_rsD]
  generalize hC : can q rows = C at P S lP
  rw [wp_lc_map (f := fun b => PyData.int (LA.hd b : Int)) (fun b hb => by simp [fp_head])]
  simp
  refine ⟨by omega, by omega, ?_⟩
  rw [upTo0]
  have li : ∀ j, j < n → j ∈ frees n C → ∀ (y : Sx) (s8 s9 : Slot), True := fun _ _ _ _ _ _ => trivial
  refine wp_forR (fun l y => ∃ (dn suf : List Nat) (s6 s7 s8 s9 : Slot), List.range n = dn ++ suf ∧ l = suf.map (fun (i : Nat) => PyData.int (i : Int)) ∧ y = ([.val (.int q), .val (.int n), .val d, .val (rsD C), .val (.list (C.map fun b => .int (LA.hd b : Int))), .own ((dn.filter fun j => (headOf C j).isNone).map fun j => rowD (prow q n C j)), s6, s7, s8, s9], k)) ⟨[], List.range n, .no, .no, .no, .no, rfl, rfl, rfl⟩ ?_ ?_
  · rintro z l y R ⟨dn, suf, s6, s7, s8, s9, er, hl, rfl⟩ h1 - - -
    cases suf with
    | nil => cases hl
    | cons j suf =>
      rw [List.map_cons, List.cons.injEq] at hl
      obtain ⟨rfl, rfl⟩ := hl
      have hj : j < n := List.mem_range.mp (by rw [er]; simp)
      have ldn : dn.length ≤ n := by
        have := congrArg List.length er
        rw [List.length_range, List.length_append] at this
        omega
      have er2 : List.range n = (dn ++ [j]) ++ suf := by rw [er]; simp
      simp [nin_heads hj]
      by_cases hf : (headOf C j).isNone = true
      · have hjf : j ∈ frees n C := List.mem_filter.mpr ⟨List.mem_range.mpr hj, hf⟩
        simp [hjf]
        rw [repQ_lst (by simp; omega)]
        simp [repL_len, hj, items_rsD]
        have ez : zipD (C.map fun b => PyData.int (LA.hd b : Int)) (C.map rowD) = C.map fun b => .tuple [.int (LA.hd b : Int), rowD b] := by
          unfold zipD
          rw [List.zipWith_map, List.zipWith_self]
        have e0 : (repL (n : Int) [PyData.int 0]).set j (.int 1) = (bld q n [] j).map .int := by
          unfold bld
          rw [List.foldl_nil, List.map_set, repL_nou]
        rw [ez, e0]
        refine wp_forR (fun l y => ∃ (dn2 suf2 : List Row) (s8 s9 : Slot), C = dn2 ++ suf2 ∧ l = suf2.map (fun b => PyData.tuple [.int (LA.hd b : Int), rowD b]) ∧ y = ([.val (.int q), .val (.int n), .val d, .val (rsD C), .val (.list (C.map fun b => .int (LA.hd b : Int))), .own ((dn.filter fun j => (headOf C j).isNone).map fun j => rowD (prow q n C j)), .val (.int (j : Int)), .own ((bld q n dn2 j).map .int), s8, s9], k)) ⟨[], C, s8, s9, rfl, rfl, rfl⟩ ?_ ?_
        · rintro z l y R2 ⟨dn2, suf2, s8, s9, er3, hl, rfl⟩ g1 - - -
          cases suf2 with
          | nil => cases hl
          | cons b suf2 =>
            rw [List.map_cons, List.cons.injEq] at hl
            obtain ⟨rfl, rfl⟩ := hl
            have hb : b ∈ C := by rw [er3]; simp
            have rb := P.row b hb
            have lb := P.lt b hb
            have ixb : ixD (rowD b) (.int (j : Int)) = some (.int (ev b j)) := ix_row (by rw [rb.1]; exact hj)
            simp [ixb, modD_int hq0, bld_len, lb]
            refine g1 _ ⟨dn2 ++ [b], suf2, .val (.int (LA.hd b : Int)), .val (rowD b), by rw [er3]; simp, rfl, ?_⟩
            have : bld q n (dn2 ++ [b]) j = (bld q n dn2 j).set (LA.hd b) ((-(ev b j)) % q) := by
              unfold bld
              rw [List.foldl_append]; rfl
            rw [this, List.map_set]
        · rintro y ⟨dn2, suf2, s8, s9, er3, hl, rfl⟩
          have : suf2 = [] := by cases suf2 with
            | nil => rfl
            | cons _ _ => cases hl
          subst this
          rw [List.append_nil] at er3
          subst er3
          simp
          have lf := List.length_filter_le (fun j => (headOf C j).isNone) dn
          refine ⟨by omega, h1 _ ⟨dn ++ [j], suf, .val (.int (j : Int)), .own ((bld q n C j).map .int), s8, s9, er2, rfl, ?_⟩⟩
          rw [List.filter_append]
          simp [hf, bld_ok P hjf, rowD]
      · have hjf : j ∉ frees n C := fun z => hf (List.mem_filter.mp z).2
        simp [hjf]
        refine h1 _ ⟨dn ++ [j], suf, .val (.int (j : Int)), s7, s8, s9, er2, rfl, ?_⟩
        rw [List.filter_append]
        simp [hf]
  · rintro y ⟨dn, suf, s6, s7, s8, s9, er, hl, rfl⟩
    have : suf = [] := by cases suf with
      | nil => rfl
      | cons _ _ => cases hl
    subst this
    rw [List.append_nil] at er
    subst er
    simp
    rw [fp_plain_of hq h0 hn (rows := part q n C) (part_row hq.one) (by unfold part frees; rw [List.map_map]; rfl)]
    unfold pcan
    rw [hC]
    exact ⟨rfl, rfl⟩
end K01
namespace K01
open PySem PyProof.Rows L2 DD LA
variable {q : Int} {n : Nat}
theorem c_fewest : C_FEWEST_PLACES = .int 2 := rfl
theorem c_most : C_MOST_PLACES = .int 12 := rfl
@[simp] theorem fp_is_length (d : PyData) (k : Dk) (Q : PyData → Dk → Prop) : Fp F_is_length [.val d] k Q ↔ Q (.bool (intIn 2 12 d)) k := by
  unfold F_is_length B_is_length
  simp [fp_runD, c_fewest, c_most]
theorem fp_unit_rows (hn : n ≤ 1000) {l : List Nat} (ll : l.length ≤ 1000) (hl : ∀ i ∈ l, i < n) (k : Dk) (Q : PyData → Dk → Prop) :
    Fp F_unit_rows [.val (.int n), .val (.list (l.map fun (i : Nat) => .int (i : Int)))] k Q ↔ Q (.list (l.map fun i => rowD (unit n i))) k := by
  refine Fp.all ?_ Q
  unfold F_unit_rows B_unit_rows
  simp [fp_runD]
  rw [wp_lc_map (f := fun i => rowD (unit n i)) (fun i hi => by
    have hin := hl i hi
    simp [fp_noughts (show i ≤ 1000 by omega)]
    rw [show rowD (nou i) = .tuple ((nou i).map .int) from rfl, addD_tup (by simp [nou]; omega)]
    simp
    have e : (n : Int) - i - 1 = ((n - i - 1 : Nat) : Int) := by omega
    rw [e, fp_noughts (by omega)]
    simp
    rw [show rowD (nou (n - i - 1)) = .tuple ((nou (n - i - 1)).map .int) from rfl, addD_tup (by simp [nou]; omega)]
    simp
    have : unit n i = nou i ++ 1 :: nou (n - i - 1) := by
      unfold unit nou
      refine List.ext_getElem (by simp; omega) fun j h1 h2 => ?_
      rw [List.getElem_set]
      by_cases h : i = j
      · subst h
        simp
      · rw [if_neg h, List.getElem_replicate]
        by_cases hj : j < i
        · rw [List.getElem_append_left (by simpa using hj), List.getElem_replicate]
        · rw [List.getElem_append_right (by simp; omega)]
          simp only [List.length_replicate]
          obtain ⟨m, hm⟩ : ∃ m, j - i = m + 1 := ⟨j - i - 1, by omega⟩
          simp [hm]
    rw [this]
    simp [rowD])]
  simp
  omega
theorem eqv_rows {A B : List Row} : PyData.eqv (rsD A) (rsD B) = decide (A = B) := by
  have i1 : ∀ A : List Row, iD (rsD A) = true := fun A => by
    unfold rsD
    simp only [iD]
    exact iDs_iff.mpr fun d hd => by obtain ⟨r, _, rfl⟩ := List.mem_map.mp hd; exact (Idm.row r).1
  have := eqv_iD (rsD A) (rsD B) (i1 A) (i1 B)
  have inj : rsD A = rsD B ↔ A = B := by
    constructor
    · intro h
      unfold rsD at h
      injection h with h
      have : ∀ (A B : List Row), A.map rowD = B.map rowD → A = B := fun A => by
        induction A with
        | nil => intro B h; cases B with
          | nil => rfl
          | cons _ _ => cases h
        | cons a A ih =>
          intro B h
          cases B with
          | nil => cases h
          | cons b B =>
            rw [List.map_cons, List.map_cons, List.cons.injEq] at h
            obtain ⟨h1, h2⟩ := h
            rw [ih B h2]
            congr 1
            unfold rowD at h1
            injection h1 with h1
            clear ih h2
            induction a generalizing b with
            | nil => cases b with
              | nil => rfl
              | cons _ _ => cases h1
            | cons x a ih => cases b with
              | nil => cases h1
              | cons y b =>
                rw [List.map_cons, List.map_cons, List.cons.injEq] at h1
                obtain ⟨h3, h4⟩ := h1
                cases h3
                rw [ih b h4]
      exact this A B h
    · rintro rfl; rfl
  by_cases h : A = B
  · rw [decide_eq_true h]; exact this.mpr (inj.mpr h)
  · rw [decide_eq_false h]
    exact Bool.eq_false_iff.mpr fun z => h (inj.mp (this.mp z))
theorem idm_rs (A : List Row) : Idm 2 (rsD A) := Idm.tup fun d hd => by obtain ⟨r, _, rfl⟩ := List.mem_map.mp hd; exact Idm.row r
theorem fp_is_plain (hq : Pq q) (h0 : 0 < n) (hn : n ≤ 1000) {rows : List Row} (h : ∀ r ∈ rows, Rw q n r) (k : Dk) (Q : PyData → Dk → Prop) :
    Fp F_is_plain [.val (.int q), .val (.int n), .val (rsD rows)] k Q ↔ Q (.bool (decide (can q rows = rows))) k := by
  refine Fp.all ?_ Q
  unfold F_is_plain B_is_plain
  simp [fp_runD, items_rsD]
  have kt : kitB (tyN (rsD rows)) "tuple" = some true := kit_tuple (rsD rows)
  simp [kt]
  rw [wp_all (rowB q n) (fun a ha => by simp)]
  have : (rows.map rowD).all (rowB q n) = true := List.all_eq_true.mpr fun d hd => by obtain ⟨r, hr, rfl⟩ := List.mem_map.mp hd; exact rowB_rw (h r hr)
  simp [this, fp_plain_of hq h0 hn h (items_rsD rows), eqD_id (idm_rs (can q rows)) (idm_rs rows) (by omega) (by omega), eqv_rows]
def bkD (q : Int) (n : Nat) (B : List Row) : PyData := .tuple [.int q, .int n, rsD B]
/-- a book -/
structure Bk (q : Int) (n : Nat) (B : List Row) : Prop where
  hq : Pq q
  h2 : 2 ≤ n
  h12 : n ≤ 12
  can : Can q n B
theorem Bk.pos {B : List Row} (h : Bk q n B) : 0 < n := by have := h.h2; omega
theorem Bk.le {B : List Row} (h : Bk q n B) : n ≤ 1000 := by have := h.h12; omega
theorem fp_is_book {B : List Row} (h : Bk q n B) (k : Dk) (Q : PyData → Dk → Prop) : Fp F_is_book [.val (bkD q n B)] k Q ↔ Q (.bool true) k := by
  refine Fp.all ?_ Q
  unfold F_is_book B_is_book
  have f : fieldB (.int q) = true := decide_eq_true h.hq
  have l : intIn 2 12 (.int n) = true := decide_eq_true (by have := h.h2; have := h.h12; omega)
  simp [fp_runD, bkD, tupN, f, l, fp_is_plain h.hq h.pos h.le h.can.1.row, h.can.can h.hq]
theorem fp_check_book {B : List Row} (h : Bk q n B) (k : Dk) (Q : PyData → Dk → Prop) : Fp F_check_book [.val (bkD q n B)] k Q ↔ Q .none k := by
  refine Fp.all ?_ Q
  unfold F_check_book B_check_book
  simp [fp_runD, fp_is_book h]
theorem fp_dimension {B : List Row} (h : Bk q n B) (k : Dk) (Q : PyData → Dk → Prop) : Fp F_dimension [.val (bkD q n B)] k Q ↔ Q (.int B.length) k := by
  refine Fp.all ?_ Q
  unfold F_dimension B_dimension
  simp [fp_runD, fp_check_book h]
  simp [bkD, atI_nat', rsD]
theorem fp_has_word {B : List Row} (h : Bk q n B) {v : Row} (hv : Rw q n v) (k : Dk) (Q : PyData → Dk → Prop) : Fp F_has_word [.val (bkD q n B), .val (rowD v)] k Q ↔ Q (.bool (decide (red q B v = nou n))) k := by
  refine Fp.all ?_ Q
  unfold F_has_word B_has_word
  simp [fp_runD, fp_check_book h]
  simp [bkD, rowB_rw hv, fp_is_sum h.hq h.le h.can.1 hv]
theorem Bk.partner {B : List Row} (h : Bk q n B) : Bk q n (pcan q n B) := ⟨h.hq, h.h2, h.h12, pcan_Can h.hq B⟩
def natsD (l : List Nat) : List PyData := l.map fun (i : Nat) => .int (i : Int)
theorem fp_is_places {l : List Nat} (hl : l.length ≤ 1000) (h : ∀ i ∈ l, i < n) (hs : l.Pairwise (· < ·)) (k : Dk) (Q : PyData → Dk → Prop) : Fp F_is_places [.val (.int n), .val (.tuple (natsD l))] k Q ↔ Q (.bool true) k := by
  refine Fp.all ?_ Q
  unfold F_is_places B_is_places
  simp [fp_runD]
  have kt : kitB (tyN (.tuple (natsD l))) "tuple" = some true := kit_tuple _
  simp [kt]
  rw [wp_all (intIn 0 (n - 1)) (fun a ha => by simp)]
  have : (natsD l).all (intIn 0 (n - 1)) = true := List.all_eq_true.mpr fun d hd => by
    obtain ⟨i, hi, rfl⟩ := List.mem_map.mp hd
    have := h i hi
    exact decide_eq_true (by omega)
  simp [this]
  have ez : zipD (natsD l) (natsD l).tail = (List.zip l l.tail).map fun p => .tuple [.int (p.1 : Int), .int (p.2 : Int)] := by
    unfold zipD natsD List.zip
    rw [← List.map_tail, List.zipWith_map, List.map_zipWith]
  rw [ez]
  refine ⟨by simp; omega, ?_⟩
  rw [wp_lc_map (f := fun p => .bool true) (fun p hp => by
    have : p.1 < p.2 := by
      obtain ⟨i, hi, rfl⟩ := List.mem_iff_getElem.mp hp
      rw [List.getElem_zip]
      simp only [List.getElem_tail]
      exact List.pairwise_iff_getElem.mp hs i (i + 1) _ _ (by omega)
    simp
    omega)]
  have : ∀ m : List (Nat × Nat), allD [.list (m.map fun _ => .bool true)] = some (.bool true) := fun m => by
    unfold allD
    have a : (m.map fun _ => PyData.bool true).all flatD = true := List.all_eq_true.mpr fun d hd => by obtain ⟨_, _, rfl⟩ := List.mem_map.mp hd; rfl
    have b : (m.map fun _ => PyData.bool true).all PyData.truthy = true := List.all_eq_true.mpr fun d hd => by obtain ⟨_, _, rfl⟩ := List.mem_map.mp hd; rfl
    simp only [a, b, if_true]
  simp [this]
theorem nin_nats (j : Nat) (l : List Nat) : ninD (.int (j : Int)) (.tuple (natsD l)) = some (.bool (decide (j ∉ l))) := by
  have := mem_int_list (j : Int) (l.map fun (i : Nat) => (i : Int))
  rw [List.map_map] at this
  have e : ninD (.int (j : Int)) (.tuple (natsD l)) = ninD (.int (j : Int)) (.list (natsD l)) := rfl
  rw [e]
  refine Eq.trans this ?_
  congr 2
  by_cases h : j ∈ l
  · rw [decide_eq_false fun z => z (List.mem_map.mpr ⟨j, h, rfl⟩), decide_eq_false fun z => z h]
  · rw [decide_eq_true h]
    refine decide_eq_true fun z => h ?_
    obtain ⟨i, hi, e⟩ := List.mem_map.mp z
    have : i = j := by omega
    rwa [← this]
def others (n : Nat) (l : List Nat) : List Nat := (List.range n).filter fun j => !decide (j ∈ l)
theorem others_lt {l : List Nat} : ∀ i ∈ others n l, i < n := fun i hi => List.mem_range.mp (List.mem_filter.mp hi).1
theorem others_len (l : List Nat) : (others n l).length ≤ n := by
  have := List.length_filter_le (fun j => !decide (j ∈ l)) (List.range n)
  rwa [List.length_range] at this
theorem bars_row {B : List Row} (h : Bk q n B) (l : List Nat) : ∀ r ∈ pcan q n B ++ (others n l).map (unit n), Rw q n r := fun r hr => by
  rcases List.mem_append.mp hr with hr | hr
  · exact h.partner.can.1.row r hr
  · obtain ⟨i, _, rfl⟩ := List.mem_map.mp hr; exact rw_unit h.hq.one i
theorem fp_within {B : List Row} (h : Bk q n B) {l : List Nat} (hl : ∀ i ∈ l, i < n) (hs : l.Pairwise (· < ·)) (ll : l.length ≤ 1000) (k : Dk) (Q : PyData → Dk → Prop) :
    Fp F_within [.val (bkD q n B), .val (.tuple (natsD l))] k Q ↔ Q (bkD q n (pcan q n (pcan q n B ++ (others n l).map (unit n)))) k := by
  have h12 := h.h12
  have P := h.partner.can.1
  have lP := pl_len P
  have lo := others_len (n := n) l
  refine Fp.all ?_ Q
  unfold F_within B_within
  simp [fp_runD, fp_check_book h]
  simp [bkD, fp_is_places ll hl hs]
  refine ⟨by omega, ?_⟩
  rw [upTo0, wp_lc_filter (p := fun j => !decide (j ∈ l)) (f := fun (i : Nat) => PyData.int (i : Int)) (fun j hj => by
    simp [nin_nats])]
  simp
  rw [fp_partner_rows h.hq h.pos h.le h.can.1.row (items_rsD B)]
  refine ⟨by omega, ?_⟩
  have el : lstD [rsD (pcan q n B)] = some (.list ((pcan q n B).map rowD)) := rfl
  rw [el]
  simp
  rw [show (List.range n).filter (fun j => !decide (j ∈ l)) = others n l from rfl, fp_unit_rows h.le (by omega) others_lt]
  rw [addD_lst (by simp; omega)]
  simp
  rw [fp_partner_rows h.hq h.pos h.le (bars_row h l) (by simp [itemsD])]
  exact ⟨rfl, rfl⟩
theorem fp_book_of (hq : Pq q) (h2 : 2 ≤ n) (h12 : n ≤ 12) {rows : List Row} (h : ∀ r ∈ rows, Rw q n r) (k : Dk) (Q : PyData → Dk → Prop) :
    Fp F_book_of [.val (.int q), .val (.int n), .val (rsD rows)] k Q ↔ Q (bkD q n (can q rows)) k := by
  refine Fp.all ?_ Q
  unfold F_book_of B_book_of
  have f : fieldB (.int q) = true := decide_eq_true hq
  have l : intIn 2 12 (.int n) = true := decide_eq_true (by omega)
  have kt : kitB (tyN (rsD rows)) "tuple" = some true := kit_tuple _
  simp [fp_runD, f, l, kt, items_rsD]
  refine wp_forR (fun l y => ∃ (suf : List Row) (s : Slot), l = suf.map rowD ∧ (∀ r ∈ suf, r ∈ rows) ∧ y = ([.val (.int q), .val (.int n), .val (rsD rows), s], k)) ⟨rows, .no, rfl, fun _ h => h, rfl⟩ ?_ ?_
  · rintro z l y R ⟨suf, s, hl, hm, rfl⟩ h1 - - -
    cases suf with
    | nil => cases hl
    | cons r suf =>
      rw [List.map_cons, List.cons.injEq] at hl
      obtain ⟨rfl, rfl⟩ := hl
      simp [rowB_rw (h r (hm r List.mem_cons_self))]
      exact h1 _ ⟨suf, _, rfl, fun x hx => hm x (List.mem_cons_of_mem _ hx), rfl⟩
  · rintro y ⟨suf, s, hl, hm, rfl⟩
    simp [fp_plain_of hq (by omega) (by omega) h (items_rsD rows), bkD]
end K01
namespace K01
open PySem PyProof.Rows L2 DD LA
variable {q : Int} {n : Nat}
def Dok (k : Dk) : Prop := k.cells.length ≤ 63
theorem fp_draw {m : Int} (hm : 0 < m) (hm2 : m < 1073741824) {k : Dk} (hk : Dok k) {Q : PyData → Dk → Prop} (h : ∀ i k', 0 ≤ i → i < m → Dok k' → Q (.int i) k') : Fp F__law_draw [.deck, .val (.int m)] k Q := by
  unfold Dok at hk h
  have fin : ∀ (z : Int) (k' : Dk), k'.cells.length ≤ 63 → Q (.int (z % m)) k' := fun z k' hk' => h _ k' (Int.emod_nonneg _ (by omega)) (Int.emod_lt_of_pos _ hm) hk'
  unfold F__law_draw B__law_draw
  simp [fp_runD, mulD_l, mulD_r, modD_int]
  rcases List.eq_nil_or_concat k.cells with hc | ⟨l, c, hc⟩
  · simp [hc, mulD_l, mulD_r, modD_int, divD_int, hm]
    generalize hz : ((k.mixed + 54181 * (k.draws + 1)) * 48271 + 37) % 2147483647 = z
    have b1 : 0 ≤ z := by rw [← hz]; exact Int.emod_nonneg _ (by decide)
    have b2 : z < 2147483647 := by rw [← hz]; exact Int.emod_lt_of_pos _ (by decide)
    rw [mulD_l ⟨by omega, by omega⟩]
    simp [mulD_l, mulD_r, modD_int, divD_int, hm]
    exact fin _ _ (by simp)
  · have hl : l.length ≤ 62 := by rw [hc] at hk; simp at hk; omega
    simp [hc, modD_int, divD_int, hm]
    by_cases hb : 1000000000000000000 ≤ c
    · simp [hb]
      have e : divD (.int c) (.int (if 2 < m then m else 2)) = some (.int (c / (if 2 < m then m else 2))) := divD_int (by split <;> omega) (by split <;> omega)
      rw [e]
      simp [modD_int, hm]
      exact ⟨by omega, fin _ _ (by simp; omega)⟩
    · simp [hb, mulD_l, mulD_r, modD_int, divD_int, hm]
      generalize hz : ((k.mixed + 54181 * (k.draws + 1) + c % 2147483587) * 48271 + 37) % 2147483647 = z
      have b1 : 0 ≤ z := by rw [← hz]; exact Int.emod_nonneg _ (by decide)
      have b2 : z < 2147483647 := by rw [← hz]; exact Int.emod_lt_of_pos _ (by decide)
      rw [mulD_l ⟨by omega, by omega⟩]
      simp [mulD_l, mulD_r, modD_int, divD_int, hm]
      exact fin _ _ (by simp; omega)
theorem fp_pick {l : List PyData} (h0 : l ≠ []) (h1 : l.length < 1073741824) {k : Dk} (hk : Dok k) {Q : PyData → Dk → Prop} (h : ∀ d ∈ l, ∀ k', Dok k' → Q d k') {t : PyData} (ht : t = .list l ∨ t = .tuple l) : Fp F__law_pick [.deck, .val t] k Q := by
  have hp := List.length_pos_iff.mpr h0
  have key : ∀ {R : PyData → Dk → Prop}, (∀ i k', 0 ≤ i → i < (l.length : Int) → Dok k' → R (.int i) k') → Fp F__law_draw [.deck, .val (.int l.length)] k R := fun hR => fp_draw (by omega) (by omega) hk hR
  have at' : ∀ i : Int, 0 ≤ i → i < (l.length : Int) → ∃ d, atI l i = some d ∧ d ∈ l := fun i h2 h3 => by
    rw [atI_nat' h2]
    exact ⟨l[i.toNat]'(by omega), List.getElem?_eq_getElem _, List.getElem_mem _⟩
  unfold F__law_pick B__law_pick
  rcases ht with rfl | rfl
  · simp [fp_runD]
    refine key fun i k' h2 h3 hk' => ?_
    obtain ⟨d, e, hd⟩ := at' i h2 h3
    simp [e]
    exact h d hd k' hk'
  · simp [fp_runD]
    refine key fun i k' h2 h3 hk' => ?_
    obtain ⟨d, e, hd⟩ := at' i h2 h3
    simp [e]
    exact h d hd k' hk'
theorem fp_linv {x : Int} (hq : Pq q) (h0 : 0 < x) (h1 : x < q) (k : Dk) (Q : PyData → Dk → Prop) : Fp F__law_inverse [.val (.int q), .val (.int x)] k Q ↔ Q (.int (inv q x)) k := by
  refine Fp.of ?_
  rcases inv_cases hq h0 h1 with ⟨rfl, rfl⟩ | ⟨rfl, rfl⟩ | ⟨rfl, rfl⟩ | ⟨rfl, rfl⟩ | ⟨rfl, rfl⟩ | ⟨rfl, rfl⟩ | ⟨rfl, rfl⟩ <;> with_unfolding_all rfl
theorem fp_ltimes {t : Int} {r : Row} (hq : 0 < q) (ht : Bd t) (hl : r.length ≤ 1000) (k : Dk) (Q : PyData → Dk → Prop) : Fp F__law_times [.val (.int q), .val (rowD r), .val (.int t)] k Q ↔ Q (rowD (tms q r t)) k := by
  refine Fp.all ?_ Q
  unfold F__law_times B__law_times
  simp [fp_runD, rowD]
  refine ⟨by omega, ?_⟩
  rw [wp_lc_map (f := fun x => .int (x * t % q)) (fun x hx => by simp [mulD_r ht, modD_int hq])]
  simp [tms, Function.comp_def]
theorem fp_lplus {t : Int} {r s : Row} (hq : 0 < q) (ht : Bd t) (hl : r.length ≤ 1000) (k : Dk) (Q : PyData → Dk → Prop) : Fp F__law_plus [.val (.int q), .val (rowD r), .val (rowD s), .val (.int t)] k Q ↔ Q (rowD (pls q r s t)) k := by
  refine Fp.all ?_ Q
  unfold F__law_plus B__law_plus
  simp [fp_runD, rowD]
  rw [zip_rows]
  refine ⟨by simp; omega, ?_⟩
  rw [wp_lc_map (f := fun p => .int ((p.1 + t * p.2) % q)) (fun x hx => by simp [mulD_l ht, modD_int hq])]
  simp [pls, List.zip, List.map_zipWith]
/-- what is not 0 comes first at hd -/
theorem first_at : ∀ (r : Row) (m : Nat), hd r < r.length → ((r.zipIdx m).filter fun p => !(p.1 == 0)).head? = some (ev r (hd r), m + hd r)
  | [], m, h => by simp [hd] at h
  | x :: r, m, h => by
    rw [List.zipIdx_cons]
    by_cases hx : x = 0
    · subst hx
      have e : hd ((0 : Int) :: r) = hd r + 1 := by
        unfold hd
        rw [List.findIdx_cons]; rfl
      rw [e] at h ⊢
      rw [List.filter_cons, if_neg (by simp), first_at r (m + 1) (by simpa using h)]
      have : ev ((0 : Int) :: r) (hd r + 1) = ev r (hd r) := rfl
      rw [this]
      congr 2
      omega
    · have e : hd (x :: r) = 0 := by
        unfold hd
        rw [List.findIdx_cons]
        have : (x == 0) = false := by simpa using hx
        rw [this]; rfl
      rw [e, List.filter_cons, if_pos (by simpa using hx), List.head?_cons]; rfl
theorem fp_first {r : Row} (hl : r.length ≤ 1000) (h : hd r < r.length) (k : Dk) (Q : PyData → Dk → Prop) : Fp F__law_first [.val (rowD r)] k Q ↔ Q (.int (hd r)) k := by
  refine Fp.all ?_ Q
  unfold F__law_first B__law_first
  simp [fp_runD, rowD, enum_row]
  rw [wp_lc_filter (p := fun p => !(p.1 == 0)) (f := fun p => PyData.int (p.2 : Int)) (fun x hx => by
    simp)]
  have := first_at r 0 h
  generalize hf : (r.zipIdx 0).filter (fun p => !(p.1 == 0)) = l at this
  cases l with
  | nil => cases this
  | cons p l =>
    rw [List.head?_cons] at this
    cases this
    simp [atI_nat']
    omega
theorem idm_ints (l : List Int) : Idm 1 (.list (l.map .int)) := Idm.lst fun d hd => by obtain ⟨i, _, rfl⟩ := List.mem_map.mp hd; exact Idm.int i 0
theorem eqv_nil (l : List Int) : PyData.eqv (.list (l.map .int)) (.list []) = decide (l = []) := by
  have := eqv_iD (.list (l.map .int)) (.list []) (idm_ints l).1 (idm_ints []).1
  by_cases h : l = []
  · rw [decide_eq_true h]; exact this.mpr (by rw [h]; rfl)
  · rw [decide_eq_false h]
    refine Bool.eq_false_iff.mpr fun z => h ?_
    have := this.mp z
    injection this with this
    exact List.map_eq_nil_iff.mp this
theorem ne_nil (l : List Int) : neD (.list (l.map .int)) (.list []) = some (.bool (!decide (l = []))) := by
  rw [neD_id (idm_ints l) (show Idm 1 (.list []) from idm_ints []) (by omega) (by omega), eqv_nil]
theorem eq_nil (l : List Int) : eqD (.list (l.map .int)) (.list []) = some (.bool (decide (l = []))) := by
  rw [eqD_id (idm_ints l) (show Idm 1 (.list []) from idm_ints []) (by omega) (by omega), eqv_nil]
theorem nz_nil {w : Row} (hw : w.length = n) : (w.filter fun x => !(x == 0)) = [] ↔ w = nou n := by
  rw [List.filter_eq_nil_iff]
  constructor
  · intro h
    refine List.eq_replicate_iff.mpr ⟨hw, fun x hx => ?_⟩
    have := h x hx
    simpa using this
  · intro h x hx
    rw [h] at hx
    rw [List.eq_of_mem_replicate hx]; simp
theorem items_row (w : Row) : itemsD (rowD w) = some (w.map .int) := rfl
theorem hd_of {r : Row} (hr : Rw q n r) (h : hd r < n) : hd r < r.length := by rw [hr.1]; exact h
theorem st_eq {q : Int} {d : PyData} {X Y : List Row} {a b c e : Slot} {k : Dk} (h : X = Y) : (([.val (.int q), .val d, .val (.list (X.map rowD)), a, b, c, e], k) : Sx) = ([.val (.int q), .val d, .val (.list (Y.map rowD)), a, b, c, e], k) := by rw [h]
theorem fp_lplain (hq : Pq q) (h0 : 0 < n) (hn : n ≤ 1000) {rows : List Row} (h : ∀ r ∈ rows, Rw q n r) {d : PyData} (hd : itemsD d = some (rows.map rowD)) (k : Dk) (Q : PyData → Dk → Prop) :
    Fp F__law_plain [.val (.int q), .val d] k Q ↔ Q (rsD (can q rows)) k := by
  have hq0 := hq.pos
  have h5 := hq.le5
  refine Fp.all ?_ Q
  unfold F__law_plain B__law_plain
  simp [fp_runD, hd]
  refine wp_forR (fun l y => ∃ (dn suf : List Row) (s1 s2 s3 s4 : Slot), rows = dn ++ suf ∧ l = suf.map rowD ∧ Pl q n (dn.foldl (stp q) []) ∧ y = ([.val (.int q), .val d, .val (.list ((dn.foldl (stp q) []).map rowD)), s1, s2, s3, s4], k)) ⟨[], rows, .no, .no, .no, .no, rfl, rfl, Pl.nil, rfl⟩ ?_ ?_
  · rintro z l y R ⟨dn, suf, s1, s2, s3, s4, er, hl, P, rfl⟩ h1 - - -
    cases suf with
    | nil => cases hl
    | cons r suf =>
      rw [List.map_cons, List.cons.injEq] at hl
      obtain ⟨rfl, rfl⟩ := hl
      have rr : Rw q n r := h r (by rw [er]; simp)
      have r1 := red_row hq0 P.row rr
      have es : (dn ++ [r]).foldl (stp q) [] = stp q (dn.foldl (stp q) []) r := by rw [List.foldl_append]; rfl
      have P2 := (stp_ok hq P rr).1
      rw [← es] at P2
      generalize hC : dn.foldl (stp q) [] = C at P r1 es
      have lP := pl_len P
      simp
      refine wp_forR (fun l y => ∃ (suf2 : List Row) (w : Row) (s2 : Slot), l = suf2.map rowD ∧ (∀ b ∈ suf2, b ∈ C) ∧ Rw q n w ∧ red q suf2 w = red q C r ∧ y = ([.val (.int q), .val d, .val (.list (C.map rowD)), .val (rowD w), s2, s3, s4], k)) ⟨C, r, s2, rfl, fun _ h => h, rr, rfl, rfl⟩ ?_ ?_
      · rintro z l y R2 ⟨suf2, w, s2, hl, hm, hw, e, rfl⟩ g1 - - -
        cases suf2 with
        | nil => cases hl
        | cons b suf2 =>
          rw [List.map_cons, List.cons.injEq] at hl
          obtain ⟨rfl, rfl⟩ := hl
          have hb := hm b List.mem_cons_self
          have rb := P.row b hb
          have lb := P.lt b hb
          have ix : ixD (rowD w) (.int (LA.hd b : Int)) = some (.int (ev w (LA.hd b))) := ix_row (by rw [hw.1]; exact lb)
          have ew := hw.ev hq0 (LA.hd b)
          simp [fp_first (r := b) (by rw [rb.1]; exact hn) (hd_of rb lb), ix]
          rw [fp_lplus hq0 ⟨by omega, by omega⟩ (by rw [hw.1]; exact hn)]
          exact g1 _ ⟨suf2, _, _, rfl, fun c hc => hm c (List.mem_cons_of_mem _ hc), hw.pls hq0 rb _, e, rfl⟩
      · rintro y ⟨suf2, w, s2, hl, hm, hw, e, rfl⟩
        have : suf2 = [] := by cases suf2 with
          | nil => rfl
          | cons _ _ => cases hl
        subst this
        have e : w = red q C r := e
        subst e
        have lw : (red q C r).length = n := r1.1
        simp [items_row]
        refine ⟨by rw [lw]; omega, ?_⟩
        rw [wp_lc_filter (p := fun x => !(x == 0)) (f := fun x => PyData.int x) (fun x hx => by simp)]
        simp [ne_nil, nz_nil lw]
        by_cases hz : red q C r = nou n
        · have e : stp q C r = C := by
            unfold stp
            rw [if_pos (by rw [hz, rr.1])]
          simp [hz]
          exact h1 _ ⟨dn ++ [r], suf, _, _, _, _, by rw [er]; simp, rfl, P2, st_eq (es.trans e).symm⟩
        · have e : stp q C r = put q C (nrm q (red q C r)) := by
            unfold stp
            rw [if_neg (by rw [rr.1]; exact hz)]
          obtain ⟨l1, l2⟩ := hd_ne (r := red q C r) (by rw [lw]; exact hz)
          obtain ⟨n1, n2, n3, n4, n5⟩ := nrm_ok hq r1 hz
          have ix : ixD (rowD (red q C r)) (.int (LA.hd (red q C r) : Int)) = some (.int (ev (red q C r) (LA.hd (red q C r)))) := ix_row l1
          have ew := r1.ev hq0 (LA.hd (red q C r))
          have iv : inv q (ev (red q C r) (LA.hd (red q C r))) < 6 ∧ 0 < inv q (ev (red q C r) (LA.hd (red q C r))) := inv_lt
          simp [hz, fp_first (by rw [lw]; exact hn) l1, ix]
          rw [fp_linv hq (by omega) ew.2]
          rw [fp_ltimes hq0 ⟨by omega, by omega⟩ (by rw [lw]; exact hn)]
          rw [show tms q (red q C r) (inv q (ev (red q C r) (LA.hd (red q C r)))) = nrm q (red q C r) from rfl]
          refine ⟨by omega, ?_⟩
          rw [wp_lc_map (f := fun b => rowD (pls q b (nrm q (red q C r)) (-(ev b (LA.hd (red q C r)))))) (fun b hb => by
            have rb := P.row b hb
            have ixb : ixD (rowD b) (.int (LA.hd (red q C r) : Int)) = some (.int (ev b (LA.hd (red q C r)))) := ix_row (by rw [rb.1]; exact n3)
            have eb := rb.ev hq0 (LA.hd (red q C r))
            simp [ixb]
            rw [fp_lplus hq0 ⟨by omega, by omega⟩ (by rw [rb.1]; exact hn)]
            simp)]
          have ep : (C.map fun b => rowD (pls q b (nrm q (red q C r)) (-(ev b (LA.hd (red q C r)))))) ++ [rowD (nrm q (red q C r))] = (stp q C r).map rowD := by
            rw [e]
            unfold put
            rw [List.map_append, List.map_map, n2]; rfl
          simp
          rw [addD_lst (by simp; omega), ep]
          simp
          exact h1 _ ⟨dn ++ [r], suf, _, _, _, _, by rw [er]; simp, rfl, P2, st_eq es.symm⟩
  · rintro y ⟨dn, suf, s1, s2, s3, s4, er, hl, P, rfl⟩
    have : suf = [] := by cases suf with
      | nil => rfl
      | cons _ _ => cases hl
    subst this
    rw [List.append_nil] at er
    subst er
    simp
    rw [sortD_rows (.inr fun r hr z => by have := (P.row r hr).1; rw [z] at this; simp at this; omega)]
    simp
    rfl
end K01
namespace K01
open PySem PyProof.Rows L2 DD LA
variable {q : Int} {n : Nat}
theorem upTo_q : DD.upTo 0 q.toNat = (zqs q).map .int := by
  rw [upTo0]
  unfold zqs
  rw [List.map_map]; rfl
theorem flat_len (L : List Int) (found : List Row) (r : Row) : (L.flatMap fun t => found.map fun s => pls q s r t).length = L.length * found.length := by
  induction L with
  | nil => simp
  | cons t L ih => rw [List.flatMap_cons, List.length_append, ih, List.length_map, List.length_cons, Nat.succ_mul, Nat.add_comm]
theorem ints_len : (zqs q).length = q.toNat := by unfold zqs; rw [List.length_map, List.length_range]
theorem st_eq8 {q n : Int} {d : PyData} {X Y : List PyData} {a b c e : Slot} {k : Dk} (h : X = Y) : (([.val (.int q), .val (.int n), .val d, .val (.list X), a, b, c, e], k) : Sx) = ([.val (.int q), .val (.int n), .val d, .val (.list Y), a, b, c, e], k) := by rw [h]
theorem st_own8 {q n : Int} {d : PyData} {X Y F : List PyData} {a c e : Slot} {k : Dk} (h : X = Y) : (([.val (.int q), .val (.int n), .val d, .val (.list F), a, .own X, c, e], k) : Sx) = ([.val (.int q), .val (.int n), .val d, .val (.list F), a, .own Y, c, e], k) := by rw [h]
theorem fp_lsums (hq : Pq q) (h0 : 0 < n) (hn : n ≤ 1000) {rows : List Row} (h : ∀ r ∈ rows, Rw q n r) (hb : q.toNat ^ rows.length ≤ 1000000) {d : PyData} (hd : itemsD d = some (rows.map rowD)) (k : Dk) (Q : PyData → Dk → Prop) :
    Fp F__law_sums [.val (.int q), .val (.int n), .val d] k Q ↔ Q (.list ((sortL (sums q n rows)).map rowD)) k := by
  have hq0 := hq.pos
  have h5 := hq.le5
  refine Fp.all ?_ Q
  unfold F__law_sums B__law_sums
  simp [fp_runD, hd]
  rw [mulD_tup (by simp; omega), repL_nou]
  simp
  rw [show PyData.tuple ((nou n).map .int) = rowD (nou n) from rfl]
  refine wp_forR (fun l y => ∃ (dn suf : List Row) (s1 s2 s3 s4 : Slot), rows = dn ++ suf ∧ l = suf.map rowD ∧ y = ([.val (.int q), .val (.int n), .val d, .val (.list ((dn.foldl (more q) [nou n]).map rowD)), s1, s2, s3, s4], k)) ⟨[], rows, .no, .no, .no, .no, rfl, rfl, rfl⟩ ?_ ?_
  · rintro z l y R ⟨dn, suf, s1, s2, s3, s4, er, hl, rfl⟩ h1 - - -
    cases suf with
    | nil => cases hl
    | cons r suf =>
      rw [List.map_cons, List.cons.injEq] at hl
      obtain ⟨rfl, rfl⟩ := hl
      have rr : Rw q n r := h r (by rw [er]; simp)
      have es : (dn ++ [r]).foldl (more q) [nou n] = more q (dn.foldl (more q) [nou n]) r := by rw [List.foldl_append]; rfl
      have lf : (dn.foldl (more q) [nou n]).length * q.toNat ≤ 1000000 := by
        rw [sums_len, List.length_singleton, Nat.one_mul, ← Nat.pow_succ]
        refine Nat.le_trans (Nat.pow_le_pow_right (by omega) ?_) hb
        rw [er, List.length_append, List.length_cons]; omega
      have rf : ∀ s ∈ dn.foldl (more q) [nou n], Rw q n s := fun s hs => by
        have hdn : ∀ r ∈ dn, Rw q n r := fun x hx => h x (by rw [er]; simp [hx])
        exact ((mem_sums hq0 hdn).mp hs).row hq0 hdn
      generalize hF : dn.foldl (more q) [nou n] = found at es lf rf
      have l1 : found.length ≤ 1000000 := by
        have : found.length * 1 ≤ found.length * q.toNat := Nat.mul_le_mul_left _ (by omega)
        omega
      simp
      refine ⟨by omega, ?_⟩
      rw [upTo_q]
      refine wp_forR (fun l y => ∃ (dn3 suf3 : List Int) (s3 s4 : Slot), zqs q = dn3 ++ suf3 ∧ l = suf3.map .int ∧ y = ([.val (.int q), .val (.int n), .val d, .val (.list (found.map rowD)), .val (rowD r), .own ((dn3.flatMap fun t => found.map fun s => pls q s r t).map rowD), s3, s4], k)) ⟨[], zqs q, s3, s4, rfl, rfl, rfl⟩ ?_ ?_
      · rintro z l y R2 ⟨dn3, suf3, s3, s4, er3, hl, rfl⟩ g1 - - -
        cases suf3 with
        | nil => cases hl
        | cons t suf3 =>
          rw [List.map_cons, List.cons.injEq] at hl
          obtain ⟨rfl, rfl⟩ := hl
          have ht := mem_ints.mp (show t ∈ zqs q by rw [er3]; simp)
          have l3 : dn3.length + 1 ≤ q.toNat := by
            have := congrArg List.length er3
            rw [ints_len, List.length_append, List.length_cons] at this
            omega
          simp
          refine ⟨by omega, ?_⟩
          rw [wp_lc_map (f := fun s => rowD (pls q s r t)) (fun s hs => by
            simp
            rw [fp_lplus hq0 ⟨by omega, by omega⟩ (by rw [(rf s hs).1]; exact hn)]
            simp)]
          have e1 := flat_len (q := q) dn3 found r
          have e2 : dn3.length * found.length ≤ found.length * q.toNat := by
            rw [Nat.mul_comm]
            exact Nat.mul_le_mul_left _ (by omega)
          simp
          have e3 : (dn3.map fun _ => found.length).sum = dn3.length * found.length := by
            rw [← e1, List.length_flatMap]; simp
          refine ⟨by rw [e3]; omega, ?_⟩
          exact g1 _ ⟨dn3 ++ [t], suf3, _, _, by rw [er3]; simp, rfl, st_own8 (by rw [List.flatMap_append]; simp)⟩
      · rintro y ⟨dn3, suf3, s3, s4, er3, hl, rfl⟩
        have : suf3 = [] := by cases suf3 with
          | nil => rfl
          | cons _ _ => cases hl
        subst this
        rw [List.append_nil] at er3
        subst er3
        simp
        exact h1 _ ⟨dn ++ [r], suf, _, _, _, _, by rw [er]; simp, rfl, st_eq8 (by rw [es]; rfl)⟩
  · rintro y ⟨dn, suf, s1, s2, s3, s4, er, hl, rfl⟩
    have : suf = [] := by cases suf with
      | nil => rfl
      | cons _ _ => cases hl
    subst this
    rw [List.append_nil] at er
    subst er
    simp
    have : sortedD [.list ((rows.foldl (more q) [nou n]).map rowD)] = some (.list ((sortL (sums q n rows)).map rowD)) := by
      show (sortD false ((rows.foldl (more q) [nou n]).map rowD)).map PyData.list = _
      rw [sortD_rows (.inr fun r hr z => by
        have := (((mem_sums hq0 h).mp hr).row hq0 h).1
        rw [z] at this; simp at this; omega)]
      rfl
    simp [this]
theorem intsOf_map (l : List Int) : intsOf (l.map .int) = some l := by
  induction l with
  | nil => rfl
  | cons x l ih => show (intsOf (l.map .int)).map _ = _; rw [ih]; rfl
def szs : List (Int × Nat) := [(2, 4), (2, 5), (2, 3), (3, 3), (2, 6), (3, 4), (2, 4), (5, 2), (2, 5), (5, 3), (3, 2), (2, 2), (2, 7), (3, 5)]
theorem szs_ok : ∀ p ∈ szs, Pq p.1 ∧ 2 ≤ p.2 ∧ p.2 ≤ 7 ∧ p.1.toNat ^ p.2 ≤ 1000 := by
  unfold szs Pq
  decide
theorem fp_sizes {k : Dk} (hk : Dok k) {Q : PyData → Dk → Prop} (h : ∀ p ∈ szs, ∀ k', Dok k' → Q (.tuple [.int p.1, .int (p.2 : Int)]) k') : Fp F__law_sizes [.deck] k Q := by
  unfold F__law_sizes B__law_sizes
  simp [fp_runD]
  rw [addD_lst (by simp)]
  refine fp_pick (l := szs.map fun p => .tuple [.int p.1, .int (p.2 : Int)]) (by simp [szs]) (by simp [szs]) hk (fun d hd k' hk' => ?_) (.inl (by simp [szs]))
  obtain ⟨p, hp, rfl⟩ := List.mem_map.mp hd
  exact h p hp k' hk'
theorem fp_drow (hq : Pq q) (hn : n ≤ 1000) {k : Dk} (hk : Dok k) {Q : PyData → Dk → Prop} (h : ∀ r k', Rw q n r → Dok k' → Q (rowD r) k') : Fp F__law_drawn_row [.deck, .val (.int q), .val (.int n)] k Q := by
  have hq0 := hq.pos
  have h5 := hq.le5
  unfold F__law_drawn_row B__law_drawn_row
  simp [fp_runD]
  refine fp_pick (l := [.int 1, .int 2, .int 3]) (by simp) (by simp) hk (fun d hd k1 hk1 => ?_) (.inl rfl)
  obtain ⟨m, rfl, m0, m3⟩ : ∃ m : Int, d = .int m ∧ 0 < m ∧ m < 4 := by
    simp at hd
    rcases hd with rfl | rfl | rfl <;> exact ⟨_, rfl, by omega, by omega⟩
  rw [upTo0]
  refine ⟨by omega, by simp; omega, ?_⟩
  refine (wp_lc_inv (I := Dok) (P := fun d => ∃ i : Int, d = .int i ∧ 0 ≤ i ∧ i < q) hk1 fun d hd k2 hk2 => ?_).mono ?_
  · simp
    refine fp_draw m0 (by omega) hk2 fun i k3 i0 i1 hk3 => ?_
    simp
    by_cases hi : i = 0
    · simp [hi]
      refine fp_draw hq0 (by omega) hk3 fun j k4 j0 j1 hk4 => ?_
      simp
      exact ⟨⟨j0, j1⟩, hk4⟩
    · simp [hi]
      exact ⟨hq0, hk3⟩
  · rintro out ⟨σ, k3⟩ ⟨g1, g2, rfl, g4⟩
    have : ∃ r : Row, out = r.map .int ∧ ∀ x ∈ r, 0 ≤ x ∧ x < q := by
      clear g1
      induction out with
      | nil => exact ⟨[], rfl, fun _ h => by cases h⟩
      | cons d out ih =>
        obtain ⟨r, e, hr⟩ := ih fun z hz => g2 z (List.mem_cons_of_mem _ hz)
        obtain ⟨i, rfl, hi⟩ := g2 d List.mem_cons_self
        refine ⟨i :: r, by rw [e]; rfl, fun x hx => ?_⟩
        rcases List.mem_cons.mp hx with rfl | hx
        · exact hi
        · exact hr x hx
    obtain ⟨r, rfl, hr⟩ := this
    simp
    refine h r k3 ⟨?_, hr⟩ g4
    rw [List.length_map] at g1
    rw [g1]
    simp
end K01
namespace K01
open PySem PyProof.Rows L2 DD LA
variable {q : Int} {n : Nat}
theorem eqv_ones {α : Type} (l : List α) : PyData.eqv (.list (l.map fun _ => .int 1)) (.list []) = decide (l = []) := by
  have e : (l.map fun _ => PyData.int 1) = (l.map fun _ => (1 : Int)).map .int := by rw [List.map_map]; rfl
  rw [e, eqv_nil]
  by_cases h : l = []
  · rw [decide_eq_true h, decide_eq_true (by rw [h]; rfl)]
  · rw [decide_eq_false h, decide_eq_false (by simpa using h)]
theorem eq_ones {α : Type} (l : List α) : eqD (.list (l.map fun _ => .int 1)) (.list []) = some (.bool (decide (l = []))) := by
  have e : (l.map fun _ => PyData.int 1) = (l.map fun _ => (1 : Int)).map .int := by rw [List.map_map]; rfl
  rw [eqD_id (by rw [e]; exact idm_ints _) (show Idm 1 (.list []) from idm_ints []) (by omega) (by omega), eqv_ones]
def annB (q : Int) (B : List Row) (r : Row) : Bool := decide (∀ b ∈ B, dot r b % q = 0)
theorem annB_iff {B : List Row} {r : Row} : annB q B r = true ↔ Ann q B r := by
  unfold annB Ann Cg
  rw [decide_eq_true_iff]
  simp
theorem fp_dbook (hq : Pq q) (h0 : 2 ≤ n) (hn : n ≤ 12) {k : Dk} (hk : Dok k) {Q : PyData → Dk → Prop} (h : ∀ B k', Bk q n B → Dok k' → Q (bkD q n B) k') : Fp F__law_drawn_book [.deck, .val (.int q), .val (.int n)] k Q := by
  have hq0 := hq.pos
  unfold F__law_drawn_book B__law_drawn_book
  simp [fp_runD]
  refine fp_draw (by omega) (by omega) hk fun i k1 i0 i1 hk1 => ?_
  simp
  rw [upTo0]
  refine ⟨by omega, by simp; omega, ?_⟩
  refine (wp_lc_inv (I := Dok) (P := fun d => ∃ r : Row, d = rowD r ∧ Rw q n r) hk1 fun d hd k2 hk2 => ?_).mono ?_
  · simp
    refine fp_drow hq (by omega) hk2 fun r k3 hr hk3 => ?_
    exact ⟨⟨r, rfl, hr⟩, hk3⟩
  · rintro out ⟨σ, k3⟩ ⟨g1, g2, rfl, g4⟩
    have : ∃ R : List Row, out = R.map rowD ∧ ∀ r ∈ R, Rw q n r := by
      clear g1
      induction out with
      | nil => exact ⟨[], rfl, fun _ h => by cases h⟩
      | cons d out ih =>
        obtain ⟨R, e, hR⟩ := ih fun z hz => g2 z (List.mem_cons_of_mem _ hz)
        obtain ⟨r, rfl, hr⟩ := g2 d List.mem_cons_self
        refine ⟨r :: R, by rw [e]; rfl, fun x hx => ?_⟩
        rcases List.mem_cons.mp hx with rfl | hx
        · exact hr
        · exact hR x hx
    obtain ⟨R, rfl, hR⟩ := this
    simp
    rw [fp_lplain hq (by omega) (by omega) hR rfl]
    exact h _ _ ⟨hq, h0, hn, can_Can hq hR⟩ g4
theorem fit_row {r : Row} (hq : Pq q) (hn : n ≤ 12) (hr : Rw q n r) : Fit 12 1 (rowD r) := by
  have h5 := hq.le5
  show Fit 12 1 (.tuple (r.map .int))
  exact Fit.tupLe (n := 0) (m := 0) (N := 12) (fun d hd => by
    obtain ⟨i, hi, rfl⟩ := List.mem_map.mp hd
    have := hr.2 i hi
    exact Fit.int (by omega)) (by rw [List.length_map, hr.1]; exact hn)
theorem fit_bk {B : List Row} (h : Bk q n B) : Fit 471 3 (bkD q n B) := by
  have h12 := h.h12
  have h5 := h.hq.le5
  have hq0 := h.hq.pos
  have f1 : Fit 156 2 (.tuple (B.map rowD)) := Fit.tupLe (n := 12) (m := 1) (N := 12) (fun d hd => by
    obtain ⟨r, hr, rfl⟩ := List.mem_map.mp hd
    exact fit_row h.hq h12 (h.can.1.row r hr)) (by rw [List.length_map]; have := pl_len h.can.1; omega)
  exact Fit.tupLe (n := 156) (m := 2) (N := 3) (fun d hd => by
    simp at hd
    rcases hd with rfl | rfl | rfl
    · exact (Fit.int (by omega)).le (by omega) (by omega)
    · exact (Fit.int (by omega)).le (by omega) (by omega)
    · exact f1) (by simp)
theorem fit_pair {N m : Nat} {d e : PyData} (hd : Fit N m d) (he : Fit N m e) : Fit (2 * (N + 1)) (m + 1) (.tuple [d, e]) :=
  Fit.tupLe (N := 2) (fun x hx => by
    simp at hx
    rcases hx with rfl | rfl
    · exact hd
    · exact he) (by simp)
end K01
namespace K01
open PySem PyProof.Rows L2 DD LA
variable {q : Int} {n : Nat}
theorem wp_lc_sub {α : Type} {t : PyData → M (Option PyData)} {σ : List Slot} {I : Dk → Prop} {enc : α → PyData} : ∀ {l : List α} {k : Dk}, I k → (∀ a ∈ l, ∀ k, I k → Wp (t (enc a)) (σ, k) fun o y => (o = none ∨ o = some (enc a)) ∧ y.1 = σ ∧ I y.2) →
    Wp (lcGo t (l.map enc)) (σ, k) fun out y => ∃ l' : List α, l'.Sublist l ∧ out = l'.map enc ∧ y.1 = σ ∧ I y.2
  | [], k, hk, _ => ⟨[], (σ, k), rfl, [], .slnil, rfl, rfl, hk⟩
  | d :: l, k, hk, h => by
    obtain ⟨o, ⟨σ', k'⟩, e, ho, h2, h3⟩ := h d List.mem_cons_self k hk
    cases h2
    obtain ⟨out, y, e2, l', g1, rfl, g3, g4⟩ := wp_lc_sub (l := l) h3 fun b hb => h b (List.mem_cons_of_mem _ hb)
    rcases ho with rfl | rfl
    · refine ⟨l'.map enc, y, ?_, l', g1.cons d, rfl, g3, g4⟩
      rw [List.map_cons]
      unfold lcGo
      rw [bnd_eq e, bnd_eq e2]
      rfl
    · refine ⟨enc d :: l'.map enc, y, ?_, d :: l', g1.cons_cons d, rfl, g3, g4⟩
      rw [List.map_cons]
      unfold lcGo
      rw [bnd_eq e, bnd_eq e2]
      rfl
/-- 0 but at some places -/
def zin (l : List Nat) (w : Row) : Bool := decide (∀ p ∈ w.zipIdx, p.1 = 0 ∨ p.2 ∈ l)
theorem mem_others {l : List Nat} {i : Nat} : i ∈ others n l ↔ i < n ∧ i ∉ l := by
  unfold others
  rw [List.mem_filter, List.mem_range]
  simp
theorem zin_iff {l : List Nat} {w : Row} (hw : w.length = n) : zin l w = true ↔ ∀ i ∈ others n l, ev w i = 0 := by
  unfold zin
  rw [decide_eq_true_iff]
  constructor
  · intro h i hi
    obtain ⟨h1, h2⟩ := mem_others.mp hi
    have := h (w[i]'(by omega), i) (by
      rw [List.mem_zipIdx_iff_getElem?]
      exact List.getElem?_eq_getElem _)
    rcases this with h | h
    · rw [ev_lt (by omega)]; exact h
    · exact absurd h h2
  · rintro h ⟨x, i⟩ hp
    rw [List.mem_zipIdx_iff_getElem?] at hp
    obtain ⟨hi, e⟩ := List.getElem?_eq_some_iff.mp hp
    by_cases hl : i ∈ l
    · exact .inr hl
    · have := h i (mem_others.mpr ⟨by have : i < w.length := hi; omega, hl⟩)
      rw [ev_lt hi] at this
      exact .inl (e ▸ this)
theorem words_rw {B : List Row} (h : Bk q n B) : ∀ r ∈ sortL (sums q n B), Rw q n r := fun r hr =>
  ((mem_sums h.hq.pos h.can.1.row).mp ((sortL_perm _).mem_iff.mp hr)).row h.hq.pos h.can.1.row
theorem few_eq {B : List Row} (h : Bk q n B) (l : List Nat) : can q ((sortL (sums q n B)).filter (zin l)) = pcan q n (pcan q n B ++ (others n l).map (unit n)) := by
  have hq := h.hq
  have hq0 := hq.pos
  have hr := words_rw h
  have rf : ∀ r ∈ (sortL (sums q n B)).filter (zin l), Rw q n r := fun r hx => hr r (List.mem_filter.mp hx).1
  have key : ∀ v, Rw q n v → (Ann q (pcan q n B ++ (others n l).map (unit n)) v ↔ Sp q n B v ∧ zin l v = true) := fun v hv => by
    rw [ann_app, pcan_pcan hq h.can.1.row hv, ann_units hq0 others_lt hv, zin_iff hv.1]
  refine pcan_uniq hq rf (bars_row h l) fun v hv => ?_
  rw [key v hv]
  have ms : ∀ v, v ∈ sortL (sums q n B) ↔ Sp q n B v := fun v => (sortL_perm _).mem_iff.trans (mem_sums hq0 h.can.1.row)
  constructor
  · intro s
    obtain ⟨s1, s2⟩ := sp_filter hq0 hr (p := zin l) ((zin_iff (rw_nou hq0).1).mpr fun i _ => ev_nou i) (fun a b t ra rb ha hb => by
      have za := (zin_iff ra.1).mp ha
      have zb := (zin_iff rb.1).mp hb
      refine (zin_iff (ra.pls hq0 rb t).1).mpr fun i hi => ?_
      rw [ev_pls ra.1 rb.1 t (mem_others.mp hi).1, za i hi, zb i hi, Int.mul_zero]
      exact Int.zero_emod q) s
    exact ⟨Sp.trans hq0 h.can.1.row (fun a ha => (ms a).mp ha) s1, s2⟩
  · rintro ⟨s1, s2⟩
    exact Sp.of_mem hq0 rf (List.mem_filter.mpr ⟨(ms v).mpr s1, s2⟩)
theorem wide_eq {B : List Row} (h : Bk q n B) (l : List Nat) : can q (pcan q n B ++ (others n l).map (unit n)) = pcan q n (pcan q n (pcan q n B ++ (others n l).map (unit n))) :=
  pcan_uniq h.hq (bars_row h l) (pcan_Can h.hq _).1.row fun v hv => (pcan_pcan h.hq (bars_row h l) hv).symm
theorem ones_eq (l : List Nat) : ((((List.range n).map (unit n)).zipIdx).filter (fun p => !decide (p.2 ∈ l))).map (fun p => rowD p.1) = ((others n l).map (unit n)).map rowD := by
  have e : ((List.range n).map (unit n)).zipIdx = (List.range n).map fun i => (unit n i, i) := by
    refine List.ext_getElem (by simp) fun i h1 h2 => ?_
    simp
  rw [e, List.filter_map, List.map_map, List.map_map]
  rfl
theorem fit_bool (b : Bool) : Fit 0 0 (.bool b) := ⟨by cases b <;> rfl, by cases b <;> rfl, by cases b <;> exact Nat.le_refl _, by cases b <;> exact Nat.le_refl _⟩
theorem has_ann {B : List Row} (h : Bk q n B) {v : Row} (hv : Rw q n v) : decide (red q (pcan q n B) v = nou n) = annB q B v := by
  have hp := h.partner
  have a : red q (pcan q n B) v = nou n ↔ annB q B v = true := by
    rw [← sp_red h.hq.pos hp.can.1 hv, (pcan_ok h.hq h.can.1.row).2 hv, annB_iff]
  by_cases z : red q (pcan q n B) v = nou n
  · rw [decide_eq_true z]; exact (a.mp z).symm
  · rw [decide_eq_false z]; exact (Bool.eq_false_iff.mpr fun w => z (a.mpr w)).symm
end K01
namespace LA
variable {q : Int} {n : Nat}
/-- the same sums of multiples -/
def SpE (q : Int) (n : Nat) (A B : List Row) : Prop := ∀ v, Sp q n A v ↔ Sp q n B v
theorem SpE.refl (A : List Row) : SpE q n A A := fun _ => Iff.rfl
theorem SpE.symm {A B : List Row} (h : SpE q n A B) : SpE q n B A := fun v => (h v).symm
theorem SpE.trans {A B C : List Row} (h : SpE q n A B) (g : SpE q n B C) : SpE q n A C := fun v => (h v).trans (g v)
theorem SpE.of (hq : 0 < q) {A B : List Row} (hA : ∀ b ∈ A, Rw q n b) (hB : ∀ b ∈ B, Rw q n b) (h1 : ∀ a ∈ A, Sp q n B a) (h2 : ∀ b ∈ B, Sp q n A b) : SpE q n A B := fun v => ⟨Sp.trans hq hB h1, Sp.trans hq hA h2⟩
theorem SpE.can (hq : Pq q) {A B : List Row} (hA : ∀ b ∈ A, Rw q n b) (hB : ∀ b ∈ B, Rw q n b) (h : SpE q n A B) : LA.can q A = LA.can q B := can_eq hq hA hB h
theorem SpE.perm {A B : List Row} (h : A.Perm B) : SpE q n A B := Sp.perm h
theorem tms_inv (hq : Pq q) {r : Row} (hr : Rw q n r) {c : Int} (h0 : 0 < c) (h1 : c < q) : tms q (tms q r c) (inv q c) = r := by
  refine row_ext ((hr.tms hq.pos c).tms hq.pos _).1 hr.1 fun i hi => ?_
  rw [ev_tms, ev_tms]
  refine Cg.eq ?_ ⟨Int.emod_nonneg _ (by have := hq.pos; omega), Int.emod_lt_of_pos _ hq.pos⟩ (hr.ev hq.pos i)
  refine (Cg.mod _).trans ?_
  have e : ev r i * c % q * inv q c = (ev r i * c % q) * inv q c := rfl
  refine ((Cg.mod (ev r i * c)).mul (Cg.refl (inv q c))).trans ?_
  have e2 : ev r i * c * inv q c = ev r i * (c * inv q c) := Int.mul_assoc _ _ _
  rw [e2]
  have h3 : Cg q (c * inv q c) 1 := by
    have := inv_ok hq h0 h1
    unfold Cg
    rw [this]
    exact (Int.emod_eq_of_lt (by omega) hq.one).symm
  have := (Cg.refl (ev r i)).mul h3
  rw [Int.mul_one] at this
  exact this
/-- a row times a mark other than 0 in its place -/
theorem SpE.tms (hq : Pq q) {A : List Row} (hA : ∀ b ∈ A, Rw q n b) {r : Row} (hr : Rw q n r) {c : Int} (h0 : 0 < c) (h1 : c < q) : SpE q n (LA.tms q r c :: A) (r :: A) := by
  have r1 : ∀ b ∈ LA.tms q r c :: A, Rw q n b := fun b hb => by
    rcases List.mem_cons.mp hb with rfl | hb
    · exact hr.tms hq.pos c
    · exact hA b hb
  have r2 : ∀ b ∈ r :: A, Rw q n b := fun b hb => by
    rcases List.mem_cons.mp hb with rfl | hb
    · exact hr
    · exact hA b hb
  refine SpE.of hq.pos r1 r2 (fun a ha => ?_) fun a ha => ?_
  · rcases List.mem_cons.mp ha with rfl | ha
    · exact (Sp.of_mem hq.pos r2 List.mem_cons_self).times hq.pos r2 c
    · exact Sp.of_mem hq.pos r2 (List.mem_cons_of_mem _ ha)
  · rcases List.mem_cons.mp ha with rfl | ha
    · have := (Sp.of_mem hq.pos r1 (List.mem_cons_self)).times hq.pos r1 (inv q c)
      rwa [tms_inv hq hr h0 h1] at this
    · exact Sp.of_mem hq.pos r1 (List.mem_cons_of_mem _ ha)
theorem pls_back (hq : 0 < q) {r s : Row} (hr : Rw q n r) (hs : Rw q n s) (t : Int) : pls q (pls q r s t) s (-t) = r := by
  refine row_extC hq ((hr.pls hq hs t).pls hq hs _) hr fun i hi => ?_
  refine (ev_plsC (hr.pls hq hs t).1 hs.1 (-t) hi).trans ?_
  refine ((ev_plsC hr.1 hs.1 t hi).add (Cg.refl _)).trans ?_
  refine Cg.of_eq ?_
  rw [Int.neg_mul]; omega
/-- a row and another one added -/
theorem SpE.set (hq : 0 < q) {A : List Row} (hA : ∀ b ∈ A, Rw q n b) {i j : Nat} (hi : i < A.length) (hj : j < A.length) (hij : i ≠ j) (t : Int) : SpE q n (A.set i (pls q A[i] A[j] t)) A := by
  have ri := hA _ (List.getElem_mem hi)
  have rj := hA _ (List.getElem_mem hj)
  have r1 : ∀ b ∈ A.set i (pls q A[i] A[j] t), Rw q n b := fun b hb => by
    rcases List.mem_or_eq_of_mem_set hb with hb | rfl
    · exact hA b hb
    · exact ri.pls hq rj t
  refine SpE.of hq r1 hA (fun a ha => ?_) fun a ha => ?_
  · rcases List.mem_or_eq_of_mem_set ha with hb | rfl
    · exact Sp.of_mem hq hA hb
    · exact (Sp.of_mem hq hA (List.getElem_mem hi)).plus hq hA (Sp.of_mem hq hA (List.getElem_mem hj)) t
  · obtain ⟨k, hk, rfl⟩ := List.getElem_of_mem ha
    have mi : pls q A[i] A[j] t ∈ A.set i (pls q A[i] A[j] t) := List.mem_set hi _
    have mk : ∀ l (hl : l < A.length), l ≠ i → A[l] ∈ A.set i (pls q A[i] A[j] t) := fun l hl hn => by
      have : (A.set i (pls q A[i] A[j] t))[l]'(by rw [List.length_set]; exact hl) = A[l] := List.getElem_set_ne (Ne.symm hn) _
      rw [← this]
      exact List.getElem_mem _
    by_cases e : k = i
    · subst e
      have := (Sp.of_mem hq r1 mi).plus hq r1 (Sp.of_mem hq r1 (mk j hj (Ne.symm hij))) (-t)
      rwa [pls_back hq ri rj] at this
    · exact Sp.of_mem hq r1 (mk k hk e)
end LA
namespace LA
theorem map_eras {α β : Type} (f : α → β) : ∀ (l : List α) (i : Nat), (l.map f).eraseIdx i = (l.eraseIdx i).map f
  | [], _ => rfl
  | _ :: _, 0 => rfl
  | a :: l, i + 1 => by
    rw [List.map_cons, List.eraseIdx_cons_succ, List.eraseIdx_cons_succ, List.map_cons, map_eras f l i]
theorem eras_perm {α : Type} : ∀ (l : List α) (i : Nat) (h : i < l.length), (l[i] :: l.eraseIdx i).Perm l
  | a :: l, 0, _ => List.Perm.refl _
  | a :: l, i + 1, h => by
    rw [List.eraseIdx_cons_succ, List.getElem_cons_succ]
    exact (List.Perm.swap a _ _).trans ((eras_perm l i (by simpa using h)).cons a)
end LA
/-! # rules for comprehensions with two clauses, and any(..) -/
namespace DD
open PySem PySem.Spec PyProof.Rows L2
section
variable {x : Sx}
@[simp] theorem wp_dLc2 {src src1 : M (List PyData)} {vs vs1 : List Nat} {g g1 : PyData → M Unit} {tt tt1 : M Bool} {te : M Hd} {Q : List PyData → Sx → Prop} : Wp (dLc2 src vs vs1 g tt src1 g1 tt1 te) x Q ↔ Wp src x fun ds y => onN (wipeD y.1 vs) fun ρ => Wp (lcGo2 (lcTurn2 vs vs1 g tt src1 g1 tt1 te) ds) (ρ, y.2) fun r z => r.length ≤ 16777216 ∧ onN (unw y.1 z.1 vs) fun ρ => Q r (ρ, z.2) :=
  wp_step fun ds y => by
    rw [wp_opt, onN_is, wp_opt]
    rcases lcGo2 (lcTurn2 vs vs1 g tt src1 g1 tt1 te) ds (wipeD y.1 vs, y.2) with _ | ⟨r, z⟩
    · exact Iff.rfl
    · by_cases e : r.length ≤ 16777216
      · simp only [e, if_true, true_and, onN_is, onS_some]
      · simp only [e, if_false, false_and, onS_some, onS_none]
@[simp] theorem wp_lcTurn2 {src1 : M (List PyData)} {vs vs1 : List Nat} {g g1 : PyData → M Unit} {tt tt1 : M Bool} {te : M Hd} {d : PyData} {Q : List PyData → Sx → Prop} : Wp (lcTurn2 vs vs1 g tt src1 g1 tt1 te d) x Q ↔ Wp (g d) x fun _ y => Wp tt y fun b z => if b = true then Wp src1 z fun ds1 w => onN (wipeD w.1 vs1) fun ρ => Wp (lcGo (lcTurn vs1 g1 tt1 te) ds1) (ρ, w.2) fun r u => onN (wipeD u.1 vs) fun ρ => Q r (ρ, u.2) else onN (wipeD z.1 vs) fun ρ => Q [] (ρ, z.2) :=
  wp_step fun _ y => wp_step fun b z => by
    cases b with
    | true =>
      simp only [if_true]
      refine Iff.trans (wp_step (R := fun o u => onN (wipeD u.1 vs) fun ρ => Q o (ρ, u.2)) fun o u => by rw [wp_opt]; exact Iff.rfl) ?_
      refine wp_step fun ds1 w => ?_
      rw [wp_opt, onN_is, wp_opt]
    | false =>
      simp only [Bool.false_eq_true, if_false]
      refine Iff.trans (wp_step (R := fun o u => onN (wipeD u.1 vs) fun ρ => Q o (ρ, u.2)) fun o u => by rw [wp_opt]; exact Iff.rfl) ?_
      exact wp_ret
/-- each turn's items joined -/
theorem wp_lc2_map {α : Type} {t : PyData → M (List PyData)} {enc : α → PyData} {f : α → List PyData} {l : List α} {Q : List PyData → Sx → Prop} (h : ∀ a ∈ l, Wp (t (enc a)) x fun o y => o = f a ∧ y = x) : Wp (lcGo2 t (l.map enc)) x Q ↔ Q (l.flatMap f) x := by
  refine Wp.of ?_
  induction l with
  | nil => rfl
  | cons a l ih =>
    rw [List.map_cons]
    unfold lcGo2
    obtain ⟨o, y, e, rfl, rfl⟩ := h a List.mem_cons_self
    rw [bnd_eq e, bnd_eq (ih fun b hb => h b (List.mem_cons_of_mem _ hb))]
    rfl
@[simp] theorem wp_dAny {src : M (List PyData)} {vs : List Nat} {g : PyData → M Unit} {te : M Hd} {Q : Hd → Sx → Prop} : Wp (dAny src vs g te) x Q ↔ Wp src x fun ds y => onN (wipeD y.1 vs) fun ρ => Wp (anyGo g te vs ds) (ρ, y.2) fun b z => onN (unw y.1 z.1 vs) fun ρ => Q (.val (.bool b)) (ρ, z.2) :=
  wp_step fun ds y => by
    rw [wp_opt, onN_is, wp_opt]
    cases anyGo g te vs ds (wipeD y.1 vs, y.2) <;> exact Iff.rfl
theorem wp_anyGo {α : Type} {g : PyData → M Unit} {te : M Hd} {vs : List Nat} {enc : α → PyData} {p : α → Bool} {l : List α} {Q : Bool → Sx → Prop} (h : ∀ a ∈ l, Wp (g (enc a)) x fun _ y => Wp te y fun h z => h = .val (.bool (p a)) ∧ (wipeD z.1 vs, z.2) = x) :
    Wp (anyGo g te vs (l.map enc)) x Q ↔ Q (l.any p) x := by
  refine Wp.of ?_
  induction l with
  | nil => rfl
  | cons a l ih =>
    rw [List.map_cons]
    unfold anyGo
    obtain ⟨_, y, e, hh, z, e2, rfl, e3⟩ := h a List.mem_cons_self
    rw [bnd_eq e, bnd_eq e2]
    cases hp : p a with
    | true =>
      show some (true, (wipeD z.1 vs, z.2)) = _
      rw [e3, List.any_cons, hp]; rfl
    | false =>
      show anyGo g te vs (l.map enc) (wipeD z.1 vs, z.2) = _
      rw [e3, ih fun b hb => h b (List.mem_cons_of_mem _ hb), List.any_cons, hp]; rfl
theorem wp_any {g : PyData → M Unit} {te : M Hd} {vs : List Nat} {l : List PyData} {Q : Bool → Sx → Prop} (p : PyData → Bool) (h : ∀ a ∈ l, Wp (g a) x fun _ y => Wp te y fun h z => h = .val (.bool (p a)) ∧ (wipeD z.1 vs, z.2) = x) : Wp (anyGo g te vs l) x Q ↔ Q (l.any p) x := by
  have := wp_anyGo (enc := id) (l := l) (Q := Q) h
  rw [List.map_id] at this
  exact this
@[simp] theorem wp_sParOO {i j : Nat} {f g : M (List PyData)} {Q : Fl → Sx → Prop} : Wp (sParOO i j f g) x Q ↔ Wp f x fun ds y => Wp g y fun es z => (i < z.1.length ∧ j < z.1.length) ∧ onN ((z.1.set i (.own ds)).set j (.own es)) fun ρ => Q .nx (ρ, z.2) :=
  wp_step fun ds y => wp_step fun es z => by
    rw [wp_opt]
    by_cases e : i < z.1.length ∧ j < z.1.length <;> simp [e, putS]
@[simp] theorem wp_sParOV {i j : Nat} {f : M (List PyData)} {g : M Hd} {Q : Fl → Sx → Prop} : Wp (sParOV i j f g) x Q ↔ Wp f x fun ds y => Wp g y fun h z => onS (esc h) fun d => i < z.1.length ∧ onN ((z.1.set i (.own ds)).set j (.val d)) fun ρ => Q .nx (ρ, z.2) :=
  wp_step fun ds y => wp_step fun h z => (wp_step (R := fun d w => i < w.1.length ∧ onN ((w.1.set i (.own ds)).set j (.val d)) fun ρ => Q .nx (ρ, w.2)) fun d w => by
    rw [wp_opt]
    by_cases e : i < w.1.length <;> simp [e, putS]).trans wp_lift
@[simp] theorem wp_dPop {i : Nat} {f : M Hd} {Q : Hd → Sx → Prop} : Wp (dPop i f) x Q ↔ onOwn x.1[i]? fun _ => Wp f x fun h y => onI h fun k => onOwn y.1[i]? fun ds => (0 ≤ k ∧ k < ds.length ∧ k < 2 ^ 63) ∧ onS ds[k.toNat]? fun d => onN (y.1.set i (.own (ds.eraseIdx k.toNat))) fun ρ => Q (.val d) (ρ, y.2) := by
  rw [wp_opt]
  unfold dPop
  rcases x.1[i]? with _ | s
  · exact Iff.rfl
  · cases s with
    | own es =>
      simp only [onOwn_own]
      rw [wp_opt]
      rcases f x with _ | ⟨h, y⟩
      · exact Iff.rfl
      · simp only [onS_some]
        cases h with
        | val d =>
          cases d with
          | int k =>
            simp only [onI_val]
            rcases y.1[i]? with _ | t
            · exact Iff.rfl
            · cases t with
              | own ds =>
                simp only [onOwn_own]
                by_cases z : 0 ≤ k ∧ k < ds.length ∧ k < 2 ^ 63
                · rw [if_pos z]
                  rcases ds[k.toNat]? with _ | d
                  · exact ⟨False.elim, fun h => h.2⟩
                  · exact ⟨fun h => ⟨z, h⟩, fun h => h.2⟩
                · rw [if_neg z]
                  exact ⟨False.elim, fun h => z h.1⟩
              | _ => exact Iff.rfl
          | _ => exact Iff.rfl
        | _ => exact Iff.rfl
    | _ => exact Iff.rfl
end
end DD
namespace K01
open PySem PyProof.Rows L2 DD LA
variable {q : Int} {n : Nat}
/-! # all sums, as the program makes them -/
def pmore (q : Int) (found : List Row) (r : Row) : List Row := found.flatMap fun s => (zqs q).map fun t => pls q s r t
theorem pmore_perm (r : Row) : ∀ (found : List Row), (pmore q found r).Perm (more q found r)
  | [] => by
    unfold pmore more
    simp
  | s :: found => by
    have ih := pmore_perm r found
    unfold pmore more at ih ⊢
    rw [List.flatMap_cons]
    refine (List.Perm.append_left _ ih).trans ?_
    have : ∀ l : List Int, (l.map (fun t => pls q s r t) ++ l.flatMap fun t => found.map fun s => pls q s r t).Perm (l.flatMap fun t => (s :: found).map fun s => pls q s r t) := by
      intro l
      induction l with
      | nil => simp
      | cons t l ih =>
        rw [List.map_cons, List.flatMap_cons, List.flatMap_cons, List.cons_append, List.map_cons, List.cons_append]
        refine List.Perm.cons _ ?_
        rw [← List.append_assoc]
        refine (List.Perm.append_right _ List.perm_append_comm).trans ?_
        rw [List.append_assoc]
        exact List.Perm.append_left _ ih
    exact this _
theorem more_perm {a b : List Row} (h : a.Perm b) (r : Row) : (more q a r).Perm (more q b r) := by
  unfold more
  induction zqs q with
  | nil => exact List.Perm.refl _
  | cons t l ih => rw [List.flatMap_cons, List.flatMap_cons]; exact List.Perm.append (h.map _) ih
theorem pfold_perm : ∀ (rows : List Row) {a b : List Row}, a.Perm b → (rows.foldl (pmore q) a).Perm (rows.foldl (more q) b)
  | [], _, _, h => h
  | r :: rows, a, b, h => by
    rw [List.foldl_cons, List.foldl_cons]
    exact pfold_perm rows ((pmore_perm r a).trans (more_perm h r))
theorem sortL_eq {a b : List Row} (h : a.Perm b) : sortL a = sortL b := by
  have := srt_of_perm h
  unfold srt at this
  exact List.reverse_inj.mp this
theorem ints_len0 : (zqs q).length = q.toNat := ints_len
theorem fp_sums_of (hq : Pq q) (hn : n ≤ 1000) {rows : List Row} (h : ∀ r ∈ rows, Rw q n r) (h0 : 0 < n ∨ rows = []) (hb : q.toNat ^ rows.length ≤ 1000000) {d : PyData} (hd : itemsD d = some (rows.map rowD)) (k : Dk) (Q : PyData → Dk → Prop) :
    Fp F_sums_of [.val (.int q), .val (.int n), .val d] k Q ↔ Q (.tuple ((sortL (sums q n rows)).map rowD)) k := by
  have hq0 := hq.pos
  have h5 := hq.le5
  refine Fp.all ?_ Q
  unfold F_sums_of B_sums_of
  simp [fp_runD, hd, fp_noughts hn]
  refine wp_forR (fun l y => ∃ (dn suf : List Row) (s1 s2 s3 : Slot), rows = dn ++ suf ∧ l = suf.map rowD ∧ y = ([.val (.int q), .val (.int n), .val d, .val (.list ((dn.foldl (pmore q) [nou n]).map rowD)), s1, s2, s3], k)) ⟨[], rows, .no, .no, .no, rfl, rfl, rfl⟩ ?_ ?_
  · rintro z l y R ⟨dn, suf, s1, s2, s3, er, hl, rfl⟩ h1 - - -
    cases suf with
    | nil => cases hl
    | cons r suf =>
      rw [List.map_cons, List.cons.injEq] at hl
      obtain ⟨rfl, rfl⟩ := hl
      have rr : Rw q n r := h r (by rw [er]; simp)
      have hdn : ∀ r ∈ dn, Rw q n r := fun x hx => h x (by rw [er]; simp [hx])
      have es : (dn ++ [r]).foldl (pmore q) [nou n] = pmore q (dn.foldl (pmore q) [nou n]) r := by rw [List.foldl_append]; rfl
      have pp := pfold_perm (q := q) dn (List.Perm.refl [nou n])
      have lf : (dn.foldl (pmore q) [nou n]).length * q.toNat ≤ 1000000 := by
        rw [pp.length_eq, sums_len, List.length_singleton, Nat.one_mul, ← Nat.pow_succ]
        refine Nat.le_trans (Nat.pow_le_pow_right (by omega) ?_) hb
        rw [er, List.length_append, List.length_cons]; omega
      have rf : ∀ s ∈ dn.foldl (pmore q) [nou n], Rw q n s := fun s hs => ((mem_sums hq0 hdn).mp (pp.mem_iff.mp hs)).row hq0 hdn
      generalize hF : dn.foldl (pmore q) [nou n] = found at es lf rf
      have l1 : found.length ≤ 1000000 := by
        have : found.length * 1 ≤ found.length * q.toNat := Nat.mul_le_mul_left _ (by omega)
        omega
      simp
      rw [wp_lc2_map (f := fun s => ((zqs q).map fun t => rowD (pls q s r t))) (fun s hs => by
        simp
        refine ⟨by omega, ?_⟩
        rw [upTo_q, wp_lc_map (f := fun t => rowD (pls q s r t)) (fun t ht => by
          have ht := mem_ints.mp ht
          simp
          rw [fp_plus hq0 ⟨by omega, by omega⟩ (by rw [(rf s hs).1]; exact hn)]
          simp)]
        simp)]
      have e1 : (found.flatMap fun s => (zqs q).map fun t => rowD (pls q s r t)) = (pmore q found r).map rowD := by
        unfold pmore
        rw [List.map_flatMap]
        simp [Function.comp_def]
      rw [e1]
      have l2 : (pmore q found r).length ≤ 1000000 := by
        rw [(pmore_perm r found).length_eq]
        unfold more
        rw [flat_len, ints_len, Nat.mul_comm]
        exact lf
      simp
      refine ⟨by omega, ?_⟩
      exact h1 _ ⟨dn ++ [r], suf, _, _, _, by rw [er]; simp, rfl, by rw [es]⟩
  · rintro y ⟨dn, suf, s1, s2, s3, er, hl, rfl⟩
    have : suf = [] := by cases suf with
      | nil => rfl
      | cons _ _ => cases hl
    subst this
    rw [List.append_nil] at er
    subst er
    have pp := pfold_perm (q := q) rows (List.Perm.refl [nou n])
    have : sortedD [.list ((rows.foldl (pmore q) [nou n]).map rowD)] = some (.list ((sortL (sums q n rows)).map rowD)) := by
      show (sortD false ((rows.foldl (pmore q) [nou n]).map rowD)).map PyData.list = _
      rw [sortD_rows]
      · show some (PyData.list ((sortL (rows.foldl (pmore q) [nou n])).map rowD)) = _
        rw [sortL_eq pp]; rfl
      · rcases h0 with h0 | rfl
        · refine .inr fun r hr z => ?_
          have := (((mem_sums hq0 h).mp (pp.mem_iff.mp hr)).row hq0 h).1
          rw [z] at this; simp at this; omega
        · exact .inl (by simp)
    simp [this]
end K01
namespace K01
open PySem PyProof.Rows L2 DD LA
variable {q : Int} {n : Nat}
/-! # words of a book, within places -/
theorem can_take {B : List Row} (h : Can q n B) (m : Nat) : Can q n (B.take m) := by
  refine ⟨?_, ?_⟩
  · obtain ⟨h1, h2⟩ := pl_iff.mp h.1
    exact pl_iff.mpr ⟨fun b hb => h1 b (List.mem_of_mem_take hb), List.Pairwise.sublist (List.take_sublist m B) h2⟩
  · have e : sortL B = B.reverse := by
      have := congrArg List.reverse (show (sortL B).reverse = B from h.2)
      rwa [List.reverse_reverse] at this
    have s : (B.take m).reverse.Pairwise fun a b => lexL b a = false := by
      refine List.Pairwise.sublist (List.Sublist.reverse (List.take_sublist m B)) ?_
      rw [← e]
      exact sortL_asc B
    have : (B.take m).reverse = sortL (B.take m) := sortL_uniq (List.reverse_perm _) s
    show (sortL (B.take m)).reverse = B.take m
    rw [← this, List.reverse_reverse]
theorem bk_ext {A B : List Row} (hA : Bk q n A) (hB : Bk q n B) (S : ∀ v, Rw q n v → (Sp q n A v ↔ Sp q n B v)) : A = B := by
  have hq0 := hA.hq.pos
  rw [← hA.can.can hA.hq, ← hB.can.can hA.hq]
  exact can_eq hA.hq hA.can.1.row hB.can.1.row fun v => ⟨fun s => (S v (s.row hq0 hA.can.1.row)).mp s, fun s => (S v (s.row hq0 hB.can.1.row)).mpr s⟩
/-- the book of the words that are 0 at other places -/
def wn (q : Int) (n : Nat) (B : List Row) (l : List Nat) : List Row := pcan q n (pcan q n B ++ (others n l).map (unit n))
theorem wn_bk {B : List Row} (h : Bk q n B) (l : List Nat) : Bk q n (wn q n B l) := ⟨h.hq, h.h2, h.h12, pcan_Can h.hq _⟩
theorem sp_wn {B : List Row} (h : Bk q n B) (l : List Nat) {v : Row} (hv : Rw q n v) : Sp q n (wn q n B l) v ↔ Sp q n B v ∧ zin l v = true := by
  unfold wn
  rw [(pcan_ok h.hq (bars_row h l)).2 hv, ann_app, pcan_pcan h.hq h.can.1.row hv, ann_units h.hq.pos others_lt hv, zin_iff hv.1]
theorem nil_bk {B : List Row} (h : Bk q n B) : Bk q n [] := ⟨h.hq, h.h2, h.h12, Pl.nil, by unfold srt sortL; simp⟩
theorem sp_nil (hq : 0 < q) {v : Row} : Sp q n [] v ↔ v = nou n := by
  rw [← mem_sums hq (rows := []) (by simp)]
  show v ∈ [nou n] ↔ _
  simp
theorem wn_all {B : List Row} (h : Bk q n B) : wn q n B (List.range n) = B := by
  refine bk_ext (wn_bk h _) h fun v hv => ?_
  rw [sp_wn h _ hv]
  refine ⟨fun z => z.1, fun s => ⟨s, (zin_iff hv.1).mpr fun i hi => ?_⟩⟩
  obtain ⟨h1, h2⟩ := mem_others.mp hi
  exact absurd (List.mem_range.mpr h1) h2
theorem wn_none {B : List Row} (h : Bk q n B) : wn q n B [] = [] := by
  refine bk_ext (wn_bk h _) (nil_bk h) fun v hv => ?_
  rw [sp_wn h _ hv, sp_nil h.hq.pos]
  constructor
  · rintro ⟨-, z⟩
    refine row_ext hv.1 (rw_nou h.hq.pos).1 fun i hi => ?_
    rw [ev_nou, (zin_iff hv.1).mp z i (mem_others.mpr ⟨hi, by simp⟩)]
  · rintro rfl
    exact ⟨.zero, (zin_iff hv.1).mpr fun i _ => ev_nou i⟩
theorem wn_wn {B : List Row} (h : Bk q n B) {l f : List Nat} (hf : ∀ i ∈ f, i ∈ l) : wn q n (wn q n B l) f = wn q n B f := by
  refine bk_ext (wn_bk (wn_bk h _) _) (wn_bk h _) fun v hv => ?_
  rw [sp_wn (wn_bk h l) _ hv, sp_wn h _ hv, sp_wn h _ hv]
  refine ⟨fun z => ⟨z.1.1, z.2⟩, fun z => ⟨⟨z.1, ?_⟩, z.2⟩⟩
  refine (zin_iff hv.1).mpr fun i hi => (zin_iff hv.1).mp z.2 i ?_
  obtain ⟨h1, h2⟩ := mem_others.mp hi
  exact mem_others.mpr ⟨h1, fun z => h2 (hf i z)⟩
theorem wn_add {B : List Row} (h : Bk q n B) {l f : List Nat} (hf : ∀ i ∈ f, i ∈ l) : can q (wn q n B f ++ wn q n B l) = wn q n B l := by
  have hq0 := h.hq.pos
  have hl := wn_bk h l
  have hff := wn_bk h f
  have hr : ∀ r ∈ wn q n B f ++ wn q n B l, Rw q n r := fun r hr => (List.mem_append.mp hr).elim (hff.can.1.row r) (hl.can.1.row r)
  have e := can_eq h.hq hr hl.can.1.row fun v => ⟨fun s => Sp.trans hq0 hl.can.1.row (fun a ha => ?_) s, fun s => Sp.mono (fun a ha => List.mem_append_right _ ha) s⟩
  · rw [e, hl.can.can h.hq]
  · rcases List.mem_append.mp ha with ha | ha
    · have ra := hff.can.1.row a ha
      have := (sp_wn h f ra).mp (Sp.of_mem hq0 hff.can.1.row ha)
      refine (sp_wn h l ra).mpr ⟨this.1, (zin_iff ra.1).mpr fun i hi => (zin_iff ra.1).mp this.2 i ?_⟩
      obtain ⟨h1, h2⟩ := mem_others.mp hi
      exact mem_others.mpr ⟨h1, fun z => h2 (hf i z)⟩
    · exact Sp.of_mem hq0 hl.can.1.row ha
theorem fp_words_of {B : List Row} (h : Bk q n B) (hb : q.toNat ^ B.length ≤ 1000000) (k : Dk) (Q : PyData → Dk → Prop) : Fp F_words_of [.val (bkD q n B)] k Q ↔ Q (.tuple ((sortL (sums q n B)).map rowD)) k := by
  refine Fp.all ?_ Q
  unfold F_words_of B_words_of
  simp [fp_runD, fp_check_book h]
  simp [bkD, fp_sums_of h.hq h.le h.can.1.row (.inl h.pos) hb (items_rsD B)]
theorem fp_lwithin {B : List Row} (h : Bk q n B) {l : List Nat} (lL : (sortL (sums q n B)).length ≤ 1000000) (k : Dk) (Q : PyData → Dk → Prop) :
    Fp F__law_within [.val (.int q), .val (.int n), .val (.list ((sortL (sums q n B)).map rowD)), .val (.tuple (natsD l))] k Q ↔ Q (rsD (wn q n B l)) k := by
  have h12 := h.h12
  have hw := words_rw h
  have hfew := few_eq h l
  refine Fp.all ?_ Q
  unfold F__law_within B__law_within
  simp [fp_runD]
  generalize sortL (sums q n B) = L at lL hw hfew
  refine ⟨by omega, ?_⟩
  rw [wp_lc_filter (p := zin l) (f := rowD) (fun w hwL => by
    have rw' := hw w hwL
    have lw : w.length = n := rw'.1
    simp [items_row, enum_row]
    refine ⟨by omega, ?_⟩
    rw [wp_lc_filter (p := fun p => !(p.1 == 0) && !(decide (p.2 ∈ l))) (f := fun _ => PyData.int 1) (fun p hp => by
      simp [nin_nats]
      by_cases hz : p.1 = 0 <;> simp [hz])]
    simp [eq_ones]
    have ez : decide ((w.zipIdx.filter fun p => !(p.1 == 0) && !(decide (p.2 ∈ l))) = []) = zin l w := by
      unfold zin
      have : (w.zipIdx.filter fun p => !(p.1 == 0) && !(decide (p.2 ∈ l))) = [] ↔ ∀ p ∈ w.zipIdx, p.1 = 0 ∨ p.2 ∈ l := by
        rw [List.filter_eq_nil_iff]
        refine forall_congr' fun p => forall_congr' fun _ => ?_
        by_cases h1 : p.1 = 0 <;> by_cases h2 : p.2 ∈ l <;> simp [h1, h2]
      by_cases h : ∀ p ∈ w.zipIdx, p.1 = 0 ∨ p.2 ∈ l
      · rw [decide_eq_true h]; exact decide_eq_true (this.mpr h)
      · rw [decide_eq_false h]; exact decide_eq_false fun z => h (this.mp z)
    rw [ez]
    cases zin l w <;> simp)]
  simp
  rw [fp_lplain h.hq h.pos h.le (rows := L.filter (zin l)) (fun r hr => hw r (List.mem_filter.mp hr).1) (by simp [itemsD])]
  rw [hfew]
  exact ⟨rfl, rfl⟩
theorem fp_dplaces (hn : n ≤ 1000) {k : Dk} (hk : Dok k) {Q : PyData → Dk → Prop} (hQ : ∀ (pl : List Nat) k', pl.Sublist (List.range n) → Dok k' → Q (.tuple (natsD pl)) k') : Fp F__law_drawn_places [.deck, .val (.int n)] k Q := by
  unfold F__law_drawn_places B__law_drawn_places
  simp [fp_runD]
  refine fp_pick (l := [.int 0, .int 1, .int 2, .int 3, .int 4]) (by simp) (by simp) hk (fun d hd k1 hk1 => ?_) (.inl rfl)
  obtain ⟨m, rfl⟩ : ∃ m : Int, d = .int m := by
    simp at hd
    rcases hd with rfl | rfl | rfl | rfl | rfl <;> exact ⟨_, rfl⟩
  rw [upTo0]
  refine ⟨by omega, by simp; omega, ?_⟩
  refine (wp_lc_sub (I := Dok) hk1 fun a ha k3 hk3 => ?_).mono ?_
  · simp
    refine fp_draw (by omega) (by omega) hk3 fun i k4 i0 i1 hk4 => ?_
    by_cases hi : i < m
    · simp [hi]; exact hk4
    · simp [hi]; exact hk4
  rintro out ⟨σ, k4⟩ ⟨pl, hsub, rfl, rfl, hk4⟩
  simp
  exact hQ pl k4 hsub hk4
theorem dict_rows {L : List Row} (h0 : L ≠ []) (hn : L.Nodup) : dictTD [.list (L.map fun w => .tuple [rowD w, .bool true])] = some (.dict (L.map fun w => (rowD w, .bool true))) := by
  have e : ∀ L : List Row, (L.map fun w => PyData.tuple [rowD w, .bool true]).mapM pairT = some (L.map fun w => (w, true)) := by
    intro L
    induction L with
    | nil => rfl
    | cons w L ih =>
      rw [List.map_cons, List.mapM_cons, ih]
      have : pairT (.tuple [rowD w, .bool true]) = some (w, true) := by
        unfold pairT
        show (rowOf (rowD w)).map _ = _
        rw [show rowOf (rowD w) = some w from rowOf_rowD w]
        rfl
      rw [this]; rfl
  unfold dictTD
  simp only [e]
  rw [if_pos ⟨by simpa using h0, by rw [List.map_map]; simpa [Function.comp_def] using hn⟩, List.map_map]
  rfl
theorem in_rows {L : List Row} (h0 : L ≠ []) (r : Row) : inKD (rowD r) (.dict (L.map fun w => (rowD w, .bool true))) = some (.bool (decide (r ∈ L))) := by
  have e1 : (r.map PyData.int).mapM intOf = some r := rowOf_rowD r
  have e2 : tkB (L.map fun w => (rowD w, PyData.bool true)) = true := by
    cases L with
    | nil => exact absurd rfl h0
    | cons w L => rfl
  show (match (r.map PyData.int).mapM intOf with
    | some r => if tkB (L.map fun w => (rowD w, PyData.bool true)) = true then some (PyData.bool ((L.map fun w => (rowD w, PyData.bool true)).any fun p => decide (rowOf p.1 = some r))) else none
    | none => none) = _
  rw [e1]
  simp only [e2, if_true]
  congr 2
  rw [List.any_map]
  have : ∀ L : List Row, (L.any ((fun p : PyData × PyData => decide (rowOf p.1 = some r)) ∘ fun w => (rowD w, PyData.bool true))) = decide (r ∈ L) := by
    intro L
    induction L with
    | nil => simp
    | cons w L ih =>
      rw [List.any_cons, ih]
      have : decide (rowOf (rowD w) = some r) = decide (w = r) := by
        rw [show rowOf (rowD w) = some w from rowOf_rowD w]
        by_cases h : w = r <;> simp [h]
      show (decide (rowOf (rowD w) = some r) || _) = _
      rw [this]
      by_cases h : w = r
      · subst h; simp
      · have h' : ¬ r = w := fun z => h z.symm
        simp [h, h']
  exact this L
end K01
namespace K01
open PySem PyProof.Rows L2 DD LA
variable {q : Int} {n : Nat}
theorem fit_words (hq : Pq q) (hn : n ≤ 12) {L : List Row} (h : ∀ r ∈ L, Rw q n r) (l : L.length ≤ 1000) : Fit 13000 2 (.tuple (L.map rowD)) :=
  Fit.tupLe (n := 12) (m := 1) (N := 1000) (fun d hd => by
    obtain ⟨r, hr, rfl⟩ := List.mem_map.mp hd
    exact fit_row hq hn (h r hr)) (by rw [List.length_map]; exact l)
theorem has_eq {B : List Row} (h : Bk q n B) {v : Row} (hv : Rw q n v) : decide (red q B v = nou n) = decide (v ∈ sortL (sums q n B)) := by
  have a : red q B v = nou n ↔ v ∈ sortL (sums q n B) := by
    rw [← sp_red h.hq.pos h.can.1 hv, (sortL_perm _).mem_iff, mem_sums h.hq.pos h.can.1.row]
  by_cases z : red q B v = nou n
  · rw [decide_eq_true z, decide_eq_true (a.mp z)]
  · rw [decide_eq_false z, decide_eq_false fun w => z (a.mpr w)]
theorem fp_wright {B : List Row} (h : Bk q n B) (hb : q.toNat ^ B.length ≤ 1000) {k : Dk} (hk : Dok k) {Q : PyData → Dk → Prop} (hQ : ∀ k', Dok k' → Q (.bool true) k') :
    Fp F__law_are_words_right [.deck, .val (bkD q n B), .val (.list ((sortL (sums q n B)).map rowD))] k Q := by
  have hq0 := h.hq.pos
  have h5 := h.hq.le5
  have h12 := h.h12
  have hp := h.pos
  have hw := words_rw h
  have lL : (sortL (sums q n B)).length ≤ 1000 := by
    rw [(sortL_perm _).length_eq]
    unfold sums
    rw [sums_len]
    simpa using hb
  have nd : (sortL (sums q n B)).Nodup := (sortL_perm _).nodup_iff.mpr (pl_sums_nd hq0 h.can.1)
  have ne : sortL (sums q n B) ≠ [] := fun z => by
    have : nou n ∈ sortL (sums q n B) := (sortL_perm _).mem_iff.mpr ((mem_sums hq0 h.can.1.row).mpr .zero)
    rw [z] at this
    cases this
  have ih : ∀ v, Rw q n v → decide (red q B v = nou n) = decide (v ∈ sortL (sums q n B)) := fun v hv => has_eq h hv
  have wof := fun k Q => fp_words_of h (by omega) k Q
  have rp := (fit_pair (fit_words h.hq h12 hw lL) (fit_words h.hq h12 hw lL)).repr (by omega) (by omega)
  have dr := dict_rows ne nd
  have inr := fun r => in_rows ne r
  have i0 : ixD (bkD q n B) (.int 0) = some (.int q) := rfl
  have i1 : ixD (bkD q n B) (.int 1) = some (.int n) := rfl
  generalize hL : sortL (sums q n B) = L at lL hw nd ne ih wof rp dr inr
  unfold F__law_are_words_right B__law_are_words_right
  simp only [fp_runD]
  refine wp_seq1 fun R n1 => ?_
  simp [i0, i1]
  refine n1 _ ?_
  clear n1 R
  refine wp_seq1 fun R n1 => ?_
  simp [wof, rp]
  refine n1 _ ?_
  clear n1 R
  refine wp_seq1 fun R n1 => ?_
  simp
  refine ⟨by omega, ?_⟩
  rw [wp_lc_map (f := fun w => .tuple [rowD w, .bool true]) (fun w hw => by simp)]
  simp [dr]
  refine n1 _ ?_
  clear n1 R
  generalize hD : PyData.dict (L.map fun w => (rowD w, .bool true)) = D at inr
  refine wp_seq1 fun R n1 => ?_
  simp
  refine wp_forR (fun l y => (∀ d ∈ l, ∃ i : Int, d = .int i) ∧ ∃ s6 s7 s8 s9 k, y = ([.deck, .val (bkD q n B), .val (.list (L.map rowD)), .val (.int q), .val (.int n), .val D, s6, s7, s8, s9, .no], k) ∧ Dok k) ⟨fun d hd => by
    unfold DD.upTo at hd
    obtain ⟨i, _, rfl⟩ := List.mem_map.mp hd
    exact ⟨_, rfl⟩, _, _, _, _, _, rfl, hk⟩ ?_ ?_
  · rintro d l y R2 ⟨hd, s6, s7, s8, s9, k1, rfl, hk1⟩ g1 - - -
    obtain ⟨go, rfl⟩ := hd d List.mem_cons_self
    have hd' : ∀ d ∈ l, ∃ i : Int, d = .int i := fun d h => hd d (List.mem_cons_of_mem _ h)
    clear hd
    obtain ⟨w, hway⟩ : ∃ w, andD (.int go) (.int 1) = some (.int w) := ⟨_, rfl⟩
    simp only [wp_gN, onN_is, List.set_cons_succ, List.set_cons_zero]
    -- a word
    refine wp_seq1 fun R3 n3 => ?_
    simp
    refine fp_pick (l := L.map rowD) (by simpa using ne) (by rw [List.length_map]; omega) hk1 (fun d hd k2 hk2 => ?_) (.inl rfl)
    obtain ⟨r, hr, rfl⟩ := List.mem_map.mp hd
    refine n3 _ ?_
    clear n3 R3
    have rr := hw r hr
    -- a place otherwise
    refine wp_seq1 fun R3 n3 => ?_
    have key : ∀ (v : Row) (s8 : Slot) (k3 : Dk), Rw q n v → Dok k3 → R3 .nx ([.deck, .val (bkD q n B), .val (.list (L.map rowD)), .val (.int q), .val (.int n), .val D, .val (.int go), .val (rowD v), s8, s9, .no], k3) := by
      intro v s8 k3 hv hk3
      refine n3 _ ?_
      clear n3 R3
      refine wp_seq1 fun R3 n3 => ?_
      have key2 : ∀ (v : Row) (k3 : Dk), Rw q n v → Dok k3 → R3 .nx ([.deck, .val (bkD q n B), .val (.list (L.map rowD)), .val (.int q), .val (.int n), .val D, .val (.int go), .val (rowD v), s8, s9, .no], k3) := by
        intro v k3 hv hk3
        refine n3 _ ?_
        clear n3 R3
        refine wp_seq1 fun R3 n3 => ?_
        simp [hway, fp_has_word h hv, ih v hv]
        refine n3 _ ?_
        clear n3 R3
        simp [inr]
        have rb : ∀ b : Bool, reprD [.bool b] = some (.str (if b = true then "True" else "False")) := fun _ => rfl
        simp [rb]
        exact g1 _ ⟨hd', _, _, _, _, _, rfl, hk3⟩
      by_cases h6 : (5 : Int) < go
      · simp [h6]
        exact fp_drow h.hq h.le hk3 fun v k4 hv hk4 => key2 v k4 hv hk4
      · simp [h6]
        exact key2 v k3 hv hk3
    by_cases h2 : (1 : Int) < go
    · simp [h2]
      refine fp_draw (by omega) (by omega) hk2 fun j k3 j0 j1 hk3 => ?_
      have es : ∀ lo hi, slD (rowD r) lo hi = some (.tuple (DD.cutD (r.map .int) lo hi)) := fun _ _ => rfl
      simp only [onI_val, es, onS_some]
      refine fp_draw hq0 (by omega) hk3 fun c k4 c0 c1 hk4 => ?_
      have lr : r.length = n := rr.1
      rw [cutD_toI _ j0, ← List.map_take, addD_tup (by simp; omega)]
      rw [show (PyData.tuple ((r.take j.toNat).map .int ++ [.int c])) = .tuple ((r.take j.toNat ++ [c]).map .int) by rw [List.map_append]; rfl]
      rw [show addD (.int j) (.int 1) = some (.int (j + 1)) from rfl]
      simp only [onI_val, onS_some]
      rw [cutD_fromI _ (show 0 ≤ j + 1 by omega), ← List.map_drop]
      rw [addD_tup (by simp; omega), ← List.map_append]
      simp only [onI_val, onS_some]
      refine key (r.take j.toNat ++ [c] ++ r.drop (j + 1).toNat) _ k4 ⟨?_, ?_⟩ hk4
      · simp; omega
      · intro x hx
        rcases List.mem_append.mp hx with hx | hx
        · rcases List.mem_append.mp hx with hx | hx
          · exact rr.2 x (List.mem_of_mem_take hx)
          · rw [List.mem_singleton.mp hx]; exact ⟨c0, c1⟩
        · exact rr.2 x (List.mem_of_mem_drop hx)
    · simp [h2]
      exact key r _ k2 rr hk2
  · rintro y ⟨-, s6, s7, s8, s9, k1, rfl, hk1⟩
    refine n1 _ ?_
    simp
    exact hQ _ hk1
theorem andD_one (i : Int) : ∃ w, andD (.int i) (.int 1) = some (.int w) := ⟨_, rfl⟩
theorem bk_fold (q : Int) (n : Nat) (B : List Row) : PyData.tuple [.int q, .int (n : Int), rsD B] = bkD q n B := rfl
theorem upTo_int {m : Nat} : ∀ d ∈ DD.upTo 0 m, ∃ i : Int, d = .int i := fun d hd => by
  unfold DD.upTo at hd
  obtain ⟨i, _, rfl⟩ := List.mem_map.mp hd
  exact ⟨_, rfl⟩
theorem fp_wn {B : List Row} (h : Bk q n B) {l : List Nat} (hs : l.Sublist (List.range n)) (k : Dk) (Q : PyData → Dk → Prop) : Fp F_within [.val (bkD q n B), .val (.tuple (natsD l))] k Q ↔ Q (bkD q n (wn q n B l)) k :=
  fp_within h (fun i hi => List.mem_range.mp (hs.mem hi)) (List.Pairwise.sublist hs List.pairwise_lt_range) (by
    have := hs.length_le
    rw [List.length_range] at this
    have := h.h12
    omega) k Q
theorem law_ok (ns : List Int) (hn : ns.length ≤ 63) : ∃ y, B_law (lawSlots 14 1, mk_deck ns) = some (.rt (.bool true), y) := by
  suffices h : Wp B_law (lawSlots 14 1, mk_deck ns) (fun fl _ => fl = .rt (.bool true)) by
    obtain ⟨fl, y, e, rfl⟩ := h
    exact ⟨y, e⟩
  have hk0 : Dok (mk_deck ns) := by
    show ns.reverse.length ≤ 63
    rw [List.length_reverse]; exact hn
  generalize mk_deck ns = k0 at hk0 ⊢
  have e0 : lawSlots 14 1 = [.no, .deck, .no, .no, .no, .no, .no, .no, .no, .no, .no, .no, .no, .no] := rfl
  rw [e0]
  unfold B_law
  simp
  refine wp_forR (fun l y => (∀ d ∈ l, ∃ i : Int, d = .int i) ∧ ∃ s2 s3 s4 s5 s6 s7 s8 s9 s10 s11 s12 k, y = ([.no, .deck, s2, s3, s4, s5, s6, s7, s8, s9, s10, s11, s12, .no], k) ∧ Dok k) ⟨upTo_int, _, _, _, _, _, _, _, _, _, _, _, _, rfl, hk0⟩ ?_ ?_
  · rintro d l y R ⟨hd, s2, s3, s4, s5, s6, s7, s8, s9, s10, s11, s12, k, rfl, hk⟩ Rn - - Rr
    obtain ⟨turn, rfl⟩ := hd d List.mem_cons_self
    have hd' : ∀ d ∈ l, ∃ i : Int, d = .int i := fun d h => hd d (List.mem_cons_of_mem _ h)
    clear hd
    simp only [wp_gN, onN_is, List.set_cons_succ, List.set_cons_zero]
    -- sizes
    refine wp_seq1 fun R2 n2 => ?_
    simp
    refine fp_sizes hk fun p hp k1 hk1 => ?_
    obtain ⟨hq, h2, h7, hb⟩ := szs_ok p hp
    obtain ⟨q, n⟩ := p
    simp only at hq h2 h7 hb
    clear hp
    simp
    refine n2 _ ?_
    clear n2 R2
    refine wp_seq1 fun R2 n2 => ?_
    have key : ∀ (q : Int) (n : Nat) (k : Dk), Pq q → 2 ≤ n → n ≤ 12 → ((n ≤ 7 ∧ q.toNat ^ n ≤ 1000) ∨ (7 < n ∧ q = 2)) → Dok k → R2 .nx ([.no, .deck, .val (.int turn), .val (.int q), .val (.int n), s5, s6, s7, s8, s9, s10, s11, s12, .no], k) := by
      clear hb h7 h2 hq q n hk1 k1 hk k
      intro q n k hq h2 h12 hb hk
      refine n2 _ ?_
      clear n2 R2
      -- the book
      refine wp_seq1 fun R2 n2 => ?_
      simp
      refine fp_dbook hq h2 h12 hk fun B k2 hB hk2 => n2 _ ?_
      clear n2 R2
      refine wp_seq1 fun R2 n2 => ?_
      have i2 : ∀ C : List Row, ixD (bkD q n C) (.int 2) = some (rsD C) := fun _ => rfl
      have key2 : ∀ (B : List Row), Bk q n B → q.toNat ^ B.length ≤ 1000 → R2 .nx ([.no, .deck, .val (.int turn), .val (.int q), .val (.int n), .val (bkD q n B), s6, s7, s8, s9, s10, s11, s12, .no], k2) := by
        clear hB B
        intro B hB hbB
        refine n2 _ ?_
        clear n2 R2
        have lB := pl_len hB.can.1
        have lL : (sortL (sums q n B)).length ≤ 1000000 := by
          rw [(sortL_perm _).length_eq]
          unfold sums
          rw [sums_len]
          simp; omega
        -- words
        refine wp_seq1 fun R2 n2 => ?_
        simp [i2]
        rw [fp_lsums hq hB.pos hB.le hB.can.1.row (by omega) (items_rsD B)]
        refine n2 _ ?_
        clear n2 R2
        -- words are right
        refine wp_seq1 fun R2 n2 => ?_
        simp
        refine fp_wright hB hbB hk2 fun k3 hk3 => ?_
        have rl := ((Fit.int (i := (B.length : Int)) (by omega)).le (Nat.zero_le 471) (Nat.zero_le 3)).repr (by omega) (by omega)
        have ll : lenD [rsD B] = some (.int B.length) := by unfold rsD; rw [lenD_tuple, List.length_map]
        simp [fp_dimension hB, i2, ll, rl]
        refine n2 _ ?_
        clear n2 R2
        -- all places, none
        refine wp_seq1 fun R2 n2 => ?_
        have wa : ∀ k Q, Fp F_within [.val (bkD q n B), .val (.tuple (DD.upTo 0 n))] k Q ↔ Q (bkD q n B) k := fun k Q => by
          have := fp_wn hB (List.Sublist.refl (List.range n)) k Q
          rw [wn_all hB] at this
          rw [upTo0]
          exact this
        have w0 : ∀ k Q, Fp F_within [.val (bkD q n B), .val (.tuple [])] k Q ↔ Q (bkD q n []) k := fun k Q => by
          have := fp_wn hB (List.nil_sublist (List.range n)) k Q
          rw [wn_none hB] at this
          exact this
        have bn : PyData.tuple [.int q, .int (n : Int), .tuple []] = bkD q n [] := rfl
        have rp := (fit_pair (fit_bk hB) (fit_bk (nil_bk hB))).repr (by omega) (by omega)
        have ok : okRg 0 (n : Int) = true := by unfold okRg; simp; omega
        simp [wa, w0, bn, rp, ok]
        refine n2 _ ?_
        clear n2 R2
        refine wp_seq1 fun R2 n2 => ?_
        simp
        refine wp_forR (fun l y => (∀ d ∈ l, ∃ i : Int, d = .int i) ∧ ∃ s7 s8 s9 s10 s11 s12 k, y = ([.no, .deck, .val (.int turn), .val (.int q), .val (.int n), .val (bkD q n B), .val (.list ((sortL (sums q n B)).map rowD)), s7, s8, s9, s10, s11, s12, .no], k) ∧ Dok k) ⟨upTo_int, _, _, _, _, _, _, _, rfl, hk3⟩ ?_ ?_
        · rintro d l2 y R3 ⟨hd, s7, s8, s9, s10, s11, s12, k5, rfl, hk5⟩ g1 - - -
          obtain ⟨go, rfl⟩ := hd d List.mem_cons_self
          have hd2 : ∀ d ∈ l2, ∃ i : Int, d = .int i := fun d h => hd d (List.mem_cons_of_mem _ h)
          clear hd
          obtain ⟨way, hway⟩ := andD_one go
          simp only [wp_gN, onN_is, List.set_cons_succ, List.set_cons_zero]
          -- places
          refine wp_seq1 fun R4 n4 => ?_
          simp
          refine fp_dplaces hB.le hk5 fun pl k6 hpl hk6 => n4 _ ?_
          clear n4 R4
          -- due
          have wB := wn_bk hB pl
          refine wp_seq1 fun R4 n4 => ?_
          simp
          rw [fp_lwithin hB lL, bk_fold]
          refine n4 _ ?_
          clear n4 R4
          refine wp_seq1 fun R4 n4 => ?_
          simp [hway, fp_wn hB hpl]
          refine n4 _ ?_
          clear n4 R4
          refine wp_seq1 fun R4 n4 => ?_
          simp [(fit_bk wB).repr (by omega) (by omega)]
          refine n4 _ ?_
          clear n4 R4
          -- few
          refine wp_seq1 fun R4 n4 => ?_
          simp
          have lpl : pl.length ≤ n := by
            have := hpl.length_le
            rwa [List.length_range] at this
          refine ⟨by simp [natsD]; omega, ?_⟩
          refine (wp_lc_sub (l := pl) (enc := fun (i : Nat) => PyData.int (i : Int)) (I := Dok) hk6 fun a ha k7 hk7 => ?_).mono ?_
          · simp
            refine fp_draw (by omega) (by omega) hk7 fun i k8 i0 i1 hk8 => ?_
            by_cases hi : 0 < i
            · simp [hi]; exact hk8
            · simp [hi]; exact hk8
          rintro out ⟨σ, k7⟩ ⟨fw, hfw, rfl, rfl, hk7⟩
          simp
          rw [show (fw.map fun (i : Nat) => PyData.int (i : Int)) = natsD fw from rfl]
          refine n4 _ ?_
          clear n4 R4
          have hfr : fw.Sublist (List.range n) := hfw.trans hpl
          -- near
          have wF := wn_bk hB fw
          refine wp_seq1 fun R4 n4 => ?_
          simp
          rw [fp_lwithin hB lL, bk_fold]
          refine n4 _ ?_
          clear n4 R4
          have ea : addD (rsD (wn q n B fw)) (rsD (wn q n B pl)) = some (rsD (wn q n B fw ++ wn q n B pl)) := by
            show addD (.tuple ((wn q n B fw).map rowD)) (.tuple ((wn q n B pl).map rowD)) = _
            have l1 := pl_len wF.can.1
            have l2 := pl_len wB.can.1
            rw [addD_tup (by simp; omega)]
            unfold rsD
            rw [List.map_append]
          have hr : ∀ r ∈ wn q n B fw ++ wn q n B pl, Rw q n r := fun r hr => (List.mem_append.mp hr).elim (wF.can.1.row r) (wB.can.1.row r)
          have ew := wn_wn hB (fun i hi => hfw.mem hi)
          have eb := wn_add hB (fun i hi => hfw.mem hi)
          have f3 : Fit 1416 4 (.tuple [bkD q n (wn q n B fw), bkD q n (wn q n B fw), bkD q n (wn q n B pl)]) := Fit.tupLe (n := 471) (m := 3) (N := 3) (fun x hx => by
            simp at hx
            rcases hx with rfl | rfl
            · exact fit_bk wF
            · exact fit_bk wB) (by simp)
          refine wp_seq1 fun R4 n4 => ?_
          simp [fp_wn wB hfr, fp_wn hB hfr, i2, ea, fp_book_of hq h2 h12 hr, ew, eb, f3.repr (by omega) (by omega)]
          refine n4 _ ?_
          simp
          exact g1 _ ⟨hd2, _, _, _, _, _, _, _, rfl, hk7⟩
        · rintro y ⟨-, s7, s8, s9, s10, s11, s12, k5, rfl, hk5⟩
          refine n2 _ ?_
          simp
          exact Rn _ ⟨hd', _, _, _, _, _, _, _, _, _, _, _, _, rfl, hk5⟩
      have q1 : 1 ≤ q.toNat := by have := hq.pos; omega
      by_cases h7 : (7 : Int) < n
      · simp [h7, i2]
        have es : slD (rsD B) none (some 4) = some (rsD (B.take 4)) := by
          show some (PyData.tuple (DD.cutD (B.map rowD) none (some 4))) = _
          rw [cutD_toI _ (by omega), ← List.map_take]
          rfl
        simp [es]
        refine key2 (B.take 4) ⟨hq, h2, h12, can_take hB.can 4⟩ ?_
        rcases hb with hb | ⟨_, rfl⟩
        · omega
        · have : (B.take 4).length ≤ 4 := by rw [List.length_take]; omega
          exact Nat.le_trans (Nat.pow_le_pow_right (by omega) this) (by decide)
      · simp [h7]
        refine key2 B hB ?_
        rcases hb with ⟨_, hb⟩ | ⟨h8, _⟩
        · exact Nat.le_trans (Nat.pow_le_pow_right q1 (pl_len hB.can.1)) hb
        · omega
    simp
    refine fp_draw (by omega) (by omega) hk1 fun i k2 i0 i1 hk2 => ?_
    by_cases hi : i = 0
    · simp [hi]
      refine fp_draw (by omega) (by omega) hk2 fun j k3 j0 j1 hk3 => ?_
      obtain ⟨m, rfl⟩ := Int.eq_ofNat_of_zero_le j0
      have e8 : addD (.int 8) (.int (m : Int)) = some (.int ((8 + m : Nat) : Int)) := by
        show some (PyData.int (8 + (m : Int))) = _
        congr 2
      simp [e8]
      have := key 2 (8 + m) k3 (.inl rfl) (by omega) (by omega) (.inr ⟨by omega, rfl⟩) hk3
      simpa using this
    · simp [hi]
      exact key q n k2 hq h2 (by omega) (.inl ⟨h7, hb⟩) hk2
  · rintro y ⟨-, s2, s3, s4, s5, s6, s7, s8, s9, s10, s11, s12, k, rfl, hk⟩
    simp
end K01
theorem PySem.Challenge.cw_roundstairs_k01_whole_words_and_words_wi_holds : PySem.Challenge.rw_roundstairs_k01_whole_words_and_words_wi.Holds :=
  K01_holds K01.law_ok
