import PyProof.Rows.All
import Wide.All
import OpenK.AllK
import Wide.FinOn
import PyProof.EqAt
import PyProof.EqKinds
import PyProof.TupleCall
import PyProof.Rows.ListStrD
import HandS.ForMost
import HandS.IsInst
import HandS.RaiseMore
import HandS.Codes
import HandS.Walk
import PyProof.ReprRoads
import HandS.TupAny
import HandS.TupMul
import HandS.ExcInit
import HandS.ExcField
import HandS.TryMany
import HandS.WordsExc
import KE.KExcSuper
import HandS.ExcValue
import HandS.More
import KE.KExcIs
import HandS.ExcIs
import KE.KExcStr
import PySem.Challenge.RW_restwise_k00_errors_and_what_they_keep
set_option Elab.async false
set_option linter.all false
set_option maxRecDepth 100000
set_option maxHeartbeats 4000000
namespace Rw
open PySem PySem.Spec PyProof.Rows L2
theorem bt_len : bootBuiltins "len" = some (.builtin "len") := by decide +kernel
theorem bt_abs : bootBuiltins "abs" = some (.builtin "abs") := by decide +kernel
theorem bt_max : bootBuiltins "max" = some (.builtin "max") := by decide +kernel
theorem bt_min : bootBuiltins "min" = some (.builtin "min") := by decide +kernel
theorem bt_all : bootBuiltins "all" = some (.builtin "all") := by decide +kernel
theorem bt_any : bootBuiltins "any" = some (.builtin "any") := by decide +kernel
theorem bt_repr : bootBuiltins "repr" = some (.builtin "repr") := by decide +kernel
theorem bt_isinstance : bootBuiltins "isinstance" = some (.builtin "isinstance") := by decide +kernel
theorem bt_sorted : bootBuiltins "sorted" = some (.builtin "sorted") := by decide +kernel
theorem bt_int : bootBuiltins "int" = some (.type "int") := by decide +kernel
theorem bt_str : bootBuiltins "str" = some (.type "str") := by decide +kernel
theorem bt_list : bootBuiltins "list" = some (.type "list") := by decide +kernel
theorem bt_tuple : bootBuiltins "tuple" = some (.type "tuple") := by decide +kernel
theorem bt_bool : bootBuiltins "bool" = some (.type "bool") := by decide +kernel
theorem bt_dict : bootBuiltins "dict" = some (.type "dict") := by decide +kernel
theorem bt_set : bootBuiltins "set" = some (.type "set") := by decide +kernel
theorem bt_range : bootBuiltins "range" = some (.type "range") := by decide +kernel
theorem bt_zip : bootBuiltins "zip" = some (.type "zip") := by decide +kernel
section
variable {X : Cx}
def CPowW (i j : Int) : Prop := 0 ≤ j ∧ (Builtin.Int.intBits i : Int) * j ≤ 2 ^ 27
theorem op_powW : OpR X (binaryOp .Pow) (rI CPowW fun i j => .int (i ^ j.toNat)) := opI fun _ _ _ _ _ _ _ hc q => PyProof.Rows.pow_int hc.1 hc.2 q
theorem call_repr_bool : CallR X (.builtin "repr") (fun xs H Q => ∃ b, xs = [.bl b] ∧ Q (.str (if b then "True" else "False")) H) := by
  intro pins s σ H xs us Q I r h
  obtain ⟨b, rfl, q⟩ := h
  obtain ⟨u, rfl, rfl⟩ := vals1 r
  exact PySem.P.repr_of_bool ⟨.str _, H, I.tok _, ⟨_, rfl⟩, q⟩
/-- the signs of a text, each as a text -/
def sgn (z : Str) : List V := z.cps.toList.map fun c => V.str ⟨#[c]⟩
theorem call_list_str (hc : X.calm = true) : CallR X (.type "list") (fun xs H Q => ∃ z, xs = [.str z] ∧ z.length ≤ sizeLine ∧ ∀ l, H l = none → Q (.ref l) (upd H l (.lst (sgn z)))) := by
  intro pins s σ H xs us Q I r h
  obtain ⟨z, rfl, hz, q⟩ := h
  obtain ⟨u, rfl, t, rfl⟩ := vals1 r
  refine PySem.call_list_str (I.ok.hd hc) z t (hn := hz) fun h' tk acc' c' hk hS' hacc => ?_
  have hv : ∀ (ys : List Value) (cs : List Nat), ys.length = cs.length → (∀ (j : Nat) (v : Value), ys[j]? = some v → ∃ (c : Nat) (u : Tok), cs[j]? = some c ∧ v = Value.str ⟨#[c]⟩ u) → Vals (cs.map fun c => V.str ⟨#[c]⟩) ys := by
    intro ys
    induction ys with
    | nil =>
      intro cs hl _
      cases cs with
      | nil => exact .nil
      | cons c cs => simp at hl
    | cons y ys ih =>
      intro cs hl hg
      cases cs with
      | nil => simp at hl
      | cons c cs =>
        obtain ⟨c', u, e1, e2⟩ := hg 0 y rfl
        have e3 : c = c' := by simpa using e1
        subst e3
        exact .cons ⟨u, e2⟩ (ih cs (by simpa using hl) fun j v hj => hg (j + 1) v (by simpa using hj))
  have hvv : Vals (sgn z) acc'.toList := by
    refine hv acc'.toList z.cps.toList ?_ fun j v hj => ?_
    · have := hacc.1
      simpa using this
    · obtain ⟨c, u, hc', rfl⟩ := hacc.2 j v (by simpa using hj)
      exact ⟨c, u, by simpa using hc', rfl⟩
  refine ⟨.ref s.heap.objs.size, _, I.laid (t' := tk) hk (Nat.le_refl _) (show ObjOk X.prog X.w _ h' _ (.lst (sgn z)) from ⟨?_, acc'.toList, c', hvv, by simpa using hS'⟩), rfl, q _ (I.hok.fresh (Nat.le_refl _))⟩
  have : (sgn z).length = z.cps.size := by simp [sgn]
  rw [this]; exact hz
end
theorem small1000000 {n : Nat} (h : n ≤ 1000000) : n < sizeLine := Nat.lt_of_le_of_lt h (by decide)
theorem erase_perm {α : Type} : ∀ {l : List α} {i : Nat} (h : i < l.length), (l[i] :: l.eraseIdx i).Perm l
  | [], _, h => absurd h (Nat.not_lt_zero _)
  | a :: l, 0, _ => List.Perm.refl _
  | a :: l, i + 1, h => by
    have h' : i < l.length := Nat.lt_of_succ_lt_succ h
    have ih := erase_perm (l := l) (i := i) h'
    show (l[i] :: a :: l.eraseIdx i).Perm (a :: l)
    exact (List.Perm.swap _ _ _).trans (ih.cons a)
/-! ### dice and heaps -/
def Dice (H : Hp) (d : Addr) : Prop := ∃ x y z : Int, 0 ≤ x ∧ 0 ≤ y ∧ 0 ≤ z ∧ H d = some (.lst [.int x, .int y, .int z])
/-- what a def that throws the dice at d leaves: all else that was tracked is as it was -/
def SB (d : Addr) (H H' : Hp) : Prop := ∀ b o, b ≠ d → H b = some o → H' b = some o
theorem SB.refl (d : Addr) (H : Hp) : SB d H H := fun _ _ _ h => h
theorem SB.trans {d : Addr} {H H1 H2 : Hp} (a : SB d H H1) (b : SB d H1 H2) : SB d H H2 := fun c o n h => b c o n (a c o n h)
theorem SB.of {d : Addr} {H H1 : Hp} (a : Same H H1) : SB d H H1 := fun c o _ h => a c o h
theorem SB.upd {d : Addr} {H : Hp} {o : HO} : SB d H (upd H d o) := fun c u n h => by rw [upd_ne n]; exact h
theorem SB.new {d p : Addr} {H : Hp} {o : HO} (h : H p = none) : SB d H (L2.upd H p o) := fun c u _ e => by rw [upd_ne (ne_of_none e h)]; exact e
theorem Same.new {p : Addr} {H : Hp} {o : HO} (h : H p = none) : Same H (L2.upd H p o) := fun c u e => by rw [upd_ne (ne_of_none e h)]; exact e
theorem Dice.new {d p : Addr} {H : Hp} {o : HO} (D : Dice H d) (h : H p = none) : Dice (L2.upd H p o) d := by
  obtain ⟨x, y, z, h1, h2, h3, e⟩ := D
  exact ⟨x, y, z, h1, h2, h3, by rw [upd_ne (ne_of_none e h)]; exact e⟩
theorem Dice.same {d : Addr} {H H' : Hp} (D : Dice H d) (h : Same H H') : Dice H' d := by
  obtain ⟨x, y, z, h1, h2, h3, e⟩ := D
  exact ⟨x, y, z, h1, h2, h3, h _ _ e⟩
theorem Dice.ne {d p : Addr} {H : Hp} (D : Dice H d) (h : H p = none) : d ≠ p := by
  obtain ⟨x, y, z, h1, h2, h3, e⟩ := D
  exact ne_of_none e h
/-- an object that is no such list stands elsewhere -/
theorem Dice.ne' {d p : Addr} {H : Hp} {o : HO} (D : Dice H d) (h : H p = some o) (n : ∀ x y z : Int, o ≠ .lst [.int x, .int y, .int z]) : p ≠ d := by
  obtain ⟨x, y, z, h1, h2, h3, e⟩ := D
  intro q
  rw [q, e] at h
  exact n x y z (Option.some.inj h).symm
/-- a name that holds the address of a def, the def there with what it keeps -/
def Ok (P : Program) (w : World) (K : PySem.W.Frag) (mg : Str → Option Value) (base : Heap) (k : Nat) (x : Str) (ps : List Str) (sp : Sp) : Prop :=
  ∃ f fd, mg x = some (.ref f) ∧ PySem.W.keepIn K (.ref f) = true ∧ L2.Binds K fd ps [] ∧ FnOk P w K mg base CX0 k f fd ps sp
/-- the def of the text at its name -/
def Has (K : PySem.W.Frag) (mg : Str → Option Value) (x : Str) (st : Stmt) (ps : List Str) : Prop :=
  ∃ f fd, mg x = some (.ref f) ∧ Fun K x x st f fd ∧ L2.Binds K fd ps []
/-! ### the rules with the written part K by its own name (within comprehensions the context is not the def's) -/
section
variable {X : Cx} {K : PySem.W.Frag}
def rLen (K : PySem.W.Frag) : List V → Hp → VK → Prop := fun xs H Q => ∃ p ys, xs = [.ref p] ∧ (SqL K H p ys ∨ SqT K H p ys) ∧ Q (.int ys.length) H
theorem k_len (hK : X.K = K := by rfl) : CallR X (.builtin "len") (rLen K) := by subst hK; exact call_len_seq
def rList (K : PySem.W.Frag) : List V → Hp → VK → Prop := fun xs H Q => ∃ p ys, xs = [.ref p] ∧ (SqL K H p ys ∨ SqT K H p ys) ∧ ∀ l, H l = none → Q (.ref l) (upd H l (.lst ys))
theorem k_listof (hK : X.K = K := by rfl) : CallR X (.type "list") (rList K) := by subst hK; exact call_list_of
def rTuple (K : PySem.W.Frag) : List V → Hp → VK → Prop := fun xs H Q => ∃ p ys, xs = [.ref p] ∧ ((SqL K H p ys ∧ ∀ l, H l = none → Q (.ref l) (upd H l (.tup ys))) ∨ (SqT K H p ys ∧ Q (.ref p) H))
theorem k_tupleof (hK : X.K = K := by rfl) : CallR X (.type "tuple") (rTuple K) := by subst hK; exact call_tuple_of
theorem k_sortedS (hK : X.K = K := by rfl) : CallR X (.builtin "sorted") (rSortedS K) := by subst hK; exact cr_sortedS
theorem k_isi (hK : X.K = K := by rfl) : CallR X (.builtin "isinstance") (rIsi K) := by subst hK; exact call_isi
theorem k_all (hc : X.calm = true := by rfl) (hK : X.K = K := by rfl) : CallR X (.builtin "all") (rAll K) := by subst hK; exact cr_all hc
theorem k_any (hc : X.calm = true := by rfl) (hK : X.K = K := by rfl) : CallR X (.builtin "any") (rAny K) := by subst hK; exact cr_any hc
theorem k_in (hK : X.K = K := by rfl) : OpR X (compareOp .In) (rIn K false) := by subst hK; exact op_in_seq
theorem k_notIn (hK : X.K = K := by rfl) : OpR X (compareOp .NotIn) (rIn K true) := by subst hK; exact op_notIn_seq
theorem k_eqD (hu : X.A.units + 64 < cLine) (hK : X.K = K := by rfl) : OpR X (compareOp .Eq) (rEqD K) := by subst hK; exact op_eqD hu
theorem k_neD (hu : X.A.units + 64 < cLine) (hK : X.K = K := by rfl) : OpR X (compareOp .NotEq) (rNeD K) := by subst hK; exact op_neD hu
theorem k_catT (hK : X.K = K := by rfl) : OpR X (binaryOp .Add) (rCatT K) := by subst hK; exact op_catT
theorem k_ixL (hK : X.K = K := by rfl) : IxR X (rIxL K) := by subst hK; exact ix_list
theorem k_ixT (hK : X.K = K := by rfl) : IxR X (rIxT K) := by subst hK; exact ix_tup
theorem k_ix (hK : X.K = K := by rfl) : IxR X (rIx K) := by subst hK; exact ix_seq
theorem k_slL (hK : X.K = K := by rfl) : SlR X (rSlL K) := by subst hK; exact sl_list
theorem k_slT (hK : X.K = K := by rfl) : SlR X (rSlT K) := by subst hK; exact sl_tup
theorem k_pl {tg l : Expr} {tl : TE} (h : PE X l tl) (hK : X.K = K := by rfl) : PI X tg l (iList K tl) := by subst hK; exact pi_list h
theorem k_pt {tg l : Expr} {tl : TE} (h : PE X l tl) (hK : X.K = K := by rfl) : PI X tg l (iTup K tl) := by subst hK; exact pi_tup h
theorem k_bm {e : Expr} {T : String} {r : V → List V → Hp → VK → Prop} {to : TE} {t : TA} (h : PE X e (tBM X.K T r to t)) (hK : X.K = K := by rfl) : PE X e (tBM K T r to t) := by subst hK; exact h
theorem k_bm0 {e : Expr} {T : String} {r : V → List V → Hp → VK → Prop} {to : TE} (h : PE X e (tBM0 X.K T r to)) (hK : X.K = K := by rfl) : PE X e (tBM0 K T r to) := by subst hK; exact h
def rJoin (K : PySem.W.Frag) : V → List V → Hp → VK → Prop := fun x xs H Q => ∃ a p, ∃ ys : List Str, x = .str a ∧ xs = [.ref p] ∧ (SqL K H p (ys.map V.str) ∨ SqT K H p (ys.map V.str)) ∧ (ys.map (·.length)).sum + ys.length * a.length ≤ 16777216 ∧ Q (.str (Txt.join a ys)) H
theorem k_join {e : Expr} {to te : TE} (h : PE X e (tM1 (rJoin X.K) to te)) (hK : X.K = K := by rfl) : PE X e (tM1 (rJoin K) to te) := by subst hK; exact h
theorem k_truth {e : Expr} {te : TE} (h : PT X e (fun σ H Q => te σ H fun x H' => ∃ k, TruV X.K x H' k ∧ Q k H')) (hK : X.K = K := by rfl) : PT X e (fun σ H Q => te σ H fun x H' => ∃ k, TruV K x H' k ∧ Q k H') := by subst hK; exact h
theorem k_gtup {tg : Expr} {n : Nat} {t : TGs} (h : PG X tg (gTup X.K n t)) (hK : X.K = K := by rfl) : PG X tg (gTup K n t) := by subst hK; exact h
end

/-! ### comprehensions that leave all that was tracked: behind i turns the new list at D holds acc i -/
def PvA (H1 : Hp) (D : Addr) (acc : Nat → List V) (i : Nat) (H : Hp) : Prop := Same H1 H ∧ H D = some (.lst (acc i))
section
variable {H1 H4 : Hp} {D : Addr} {acc : Nat → List V} {i : Nat} {y : V}
theorem PvA.start (nD : H1 D = none) (a0 : acc 0 = []) : PvA H1 D acc 0 (upd H1 D (.lst [])) := ⟨Same.new nD, by rw [a0]; exact upd_same⟩
theorem PvA.put (nD : H1 D = none) (s : Same H1 H4) (e : H4 D = some (.lst (acc i))) (hz : (acc i).length < sizeLine) (ha : acc (i + 1) = acc i ++ [y]) :
    ∃ a, H4 D = some (.lst a) ∧ a.length < sizeLine ∧ PvA H1 D acc (i + 1) (upd H4 D (.lst (a ++ [y]))) :=
  ⟨acc i, e, hz, fun b o hb => by rw [upd_ne (ne_of_none hb nD)]; exact s b o hb, by rw [ha]; exact upd_same⟩
theorem PvA.skip (p : PvA H1 D acc i H4) (ha : acc (i + 1) = acc i) : PvA H1 D acc (i + 1) H4 := ⟨p.1, by rw [ha]; exact p.2⟩
end
theorem take_put {α : Type} {l : List α} {i : Nat} {x : α} (h : l[i]? = some x) : l.take (i + 1) = l.take i ++ [x] := by
  rw [List.take_add_one, h]
  rfl
theorem take_lt {α : Type} {l : List α} {i : Nat} (h : i < l.length) (hz : l.length ≤ sizeLine) : (l.take i).length < sizeLine := by
  rw [List.length_take]
  omega
/-- what a filter keeps of the first i -/
theorem filter_put {α : Type} {l : List α} {i : Nat} {x : α} (p : α → Bool) (h : l[i]? = some x) : (l.take (i + 1)).filter p = (l.take i).filter p ++ (if p x then [x] else []) := by
  rw [take_put h, List.filter_append]
  cases e : p x <;> simp [e]

/-! ### data -/
theorem canAll_map {α : Type} (f : α → PyData) : ∀ l : List α, (∀ x ∈ l, (f x).canLay0 = true) → PyData.canLayAll0 (l.map f) = true
  | [], _ => by simp [PyData.canLayAll0]
  | x :: l, h => by
    have ih := canAll_map f l fun y hy => h y (List.mem_cons_of_mem _ hy)
    simp only [List.map_cons, PyData.canLayAll0, ih, h x List.mem_cons_self, Bool.and_self]
theorem depthAll_map {α : Type} (f : α → PyData) (n : Nat) : ∀ l : List α, (∀ x ∈ l, (f x).depth ≤ n) → PyData.depthAll (l.map f) ≤ n
  | [], _ => by simp [PyData.depthAll]
  | x :: l, h => by
    have ih := depthAll_map f n l fun y hy => h y (List.mem_cons_of_mem _ hy)
    have := h x List.mem_cons_self
    simp only [List.map_cons, PyData.depthAll]
    omega
theorem shaped_list {ds : List PyData} (h : PyData.canLayAll0 ds = true) (d : PyData.depthAll ds ≤ 63) : SeqAt.shaped (.list ds) = true := by
  refine Bool.and_eq_true_iff.mpr ⟨?_, decide_eq_true ?_⟩
  · simp only [PyData.canLay0]
    exact h
  · simp only [PyData.depth]
    omega
theorem shaped_tuple {ds : List PyData} (h : PyData.canLayAll0 ds = true) (d : PyData.depthAll ds ≤ 63) : SeqAt.shaped (.tuple ds) = true := by
  refine Bool.and_eq_true_iff.mpr ⟨?_, decide_eq_true ?_⟩
  · simp only [PyData.canLay0]
    exact h
  · simp only [PyData.depth]
    omega
/-- a text whose signs are signs -/
def okS (z : Str) : Prop := ∀ c ∈ z.cps.toList, c < 0x110000
theorem okS.can {z : Str} (h : okS z) : (PyData.str z).canLay0 = true := by
  simp only [PyData.canLay0, PyData.strOk]
  rw [← Array.all_toList, List.all_eq_true]
  intro c hc
  exact decide_eq_true (h c hc)
theorem shaped_strs {zs : List Str} (h : ∀ z ∈ zs, okS z) : SeqAt.shaped (.list (zs.map PyData.str)) = true :=
  shaped_list (canAll_map _ _ fun z hz => (h z hz).can) (Nat.le_trans (depthAll_map _ 0 _ fun z _ => by simp [PyData.depth]) (by decide))
theorem shaped_strsT {zs : List Str} (h : ∀ z ∈ zs, okS z) : SeqAt.shaped (.tuple (zs.map PyData.str)) = true :=
  shaped_tuple (canAll_map _ _ fun z hz => (h z hz).can) (Nat.le_trans (depthAll_map _ 0 _ fun z _ => by simp [PyData.depth]) (by decide))
section
variable {K : PySem.W.Frag} {H : Hp}
theorem dp_map {α : Type} (f : α → V) (g : α → PyData) : ∀ l : List α, (∀ x ∈ l, Dp K H (f x) (g x)) → DpAll K H (l.map f) (l.map g)
  | [], _ => .nil
  | x :: l, h => .cons (h x List.mem_cons_self) (dp_map f g l fun y hy => h y (List.mem_cons_of_mem _ hy))
theorem dp_strs (zs : List Str) : DpAll K H (zs.map V.str) (zs.map PyData.str) := dp_map _ _ _ fun z _ => .str z
theorem dp_bls (bs : List Bool) : DpAll K H (bs.map V.bl) (bs.map PyData.bool) := dp_map _ _ _ fun z _ => .bl z
theorem dp_ints (ns : List Int) : DpAll K H (ns.map V.int) (ns.map PyData.int) := dp_map _ _ _ fun z _ => .int z
end
theorem shaped_bls (bs : List Bool) : SeqAt.shaped (.list (bs.map PyData.bool)) = true :=
  shaped_list (canAll_map _ _ fun _ _ => by simp [PyData.canLay0]) (Nat.le_trans (depthAll_map _ 0 _ fun z _ => by simp [PyData.depth]) (by decide))
theorem shaped_blsT (bs : List Bool) : SeqAt.shaped (.tuple (bs.map PyData.bool)) = true :=
  shaped_tuple (canAll_map _ _ fun _ _ => by simp [PyData.canLay0]) (Nat.le_trans (depthAll_map _ 0 _ fun z _ => by simp [PyData.depth]) (by decide))
theorem eqv_nil : ∀ ds : List PyData, PyData.eqv (.list ds) (.list []) = ds.isEmpty
  | [] => by simp [PyData.eqv, PyData.eqvAll]
  | d :: ds => by simp [PyData.eqv, PyData.eqvAll]

/-! ### texts -/
theorem okS.app {a b : Str} (ha : okS a) (hb : okS b) : okS (a ++ b) := by
  intro c hc
  have : c ∈ a.cps.toList ++ b.cps.toList := by
    have e : (a ++ b).cps.toList = a.cps.toList ++ b.cps.toList := by rw [Str.cps_append, Array.toList_append]
    rw [← e]
    exact hc
  rcases List.mem_append.mp this with h | h
  · exact ha c h
  · exact hb c h
theorem okS.sg {c : Nat} (h : c < 0x110000) : okS ⟨#[c]⟩ := by
  intro c' hc'
  have e9 : c' = c := by simpa using hc'
  rw [e9]
  exact h
/-- the texts one behind another -/
def cat : List Str → Str
  | [] => Str.empty
  | z :: zs => z ++ cat zs
theorem cat_len : ∀ zs : List Str, (cat zs).length = (zs.map (·.length)).sum
  | [] => rfl
  | z :: zs => by
    show (z ++ cat zs).length = _
    rw [Str.length_append, cat_len zs, List.map_cons, List.sum_cons]
theorem cat_ok : ∀ {zs : List Str}, (∀ z ∈ zs, okS z) → okS (cat zs)
  | [], _ => fun c hc => by simp [cat, Str.empty] at hc
  | z :: zs, h => (h z List.mem_cons_self).app (cat_ok fun y hy => h y (List.mem_cons_of_mem _ hy))
theorem cat_list : ∀ zs : List Str, (cat zs).cps.toList = (zs.map (·.cps.toList)).flatten
  | [] => rfl
  | z :: zs => by
    show (z ++ cat zs).cps.toList = _
    rw [Str.cps_append, Array.toList_append, cat_list zs, List.map_cons, List.flatten_cons]
theorem join_nil (zs : List Str) : Txt.join (Str.ofString "") zs = cat zs := by
  rw [TL.join_eq]
  have e : Str.ofString "" = Str.empty := rfl
  rw [e]
  have h : ∀ ys : List Str, Str.join Str.empty ys = cat ys := by
    intro ys
    induction ys with
    | nil => rfl
    | cons y ys ih =>
      cases ys with
      | nil =>
        show y = y ++ Str.empty
        rw [Str.append_empty]
      | cons w ys =>
        show y ++ Str.empty ++ Str.join Str.empty (w :: ys) = y ++ cat (w :: ys)
        rw [ih, Str.append_empty]
  exact h zs
theorem sum_ones : ∀ {zs : List Str}, (∀ z ∈ zs, z.length = 1) → (zs.map (·.length)).sum = zs.length
  | [], _ => rfl
  | z :: zs, h => by
    rw [List.map_cons, List.sum_cons, h z List.mem_cons_self, sum_ones fun y hy => h y (List.mem_cons_of_mem _ hy), List.length_cons]
    omega
theorem sgn_mem {z : Str} {v : V} (h : v ∈ sgn z) : ∃ c, c ∈ z.cps.toList ∧ v = .str ⟨#[c]⟩ := by
  obtain ⟨c, hc, rfl⟩ := List.mem_map.mp h
  exact ⟨c, hc, rfl⟩
theorem sgn_len (z : Str) : (sgn z).length = z.length := by
  unfold sgn
  rw [List.length_map, Array.length_toList]
  rfl
/-- a new object: the heap behind it by what is known of it -/
theorem newly {H : Hp} {p : Addr} {o : HO} {G : Hp → Prop} (np : H p = none) (h : ∀ H', Same H H' → H' p = some o → G H') : G (upd H p o) := h _ (Same.new np) upd_same
theorem newly2 {α β : Type} {H : Hp} {p : Addr} {o : HO} {t : β → Hp → α → Prop} {b : β} {k : α} (np : H p = none) (h : ∀ H', Same H H' → H' p = some o → t b H' k) : t b (upd H p o) k := h _ (Same.new np) upd_same
/-! ### defs that are called while no repr is under way -/
structure FnG (P : Program) (w : World) (K : PySem.W.Frag) (mg : Str → Option Value) (base : Heap) (CX : CXT) (k : Nat) (f : Addr) (fd : FuncData) (ps : List Str) (sp : Sp) : Prop where
  few : ∀ as G Y Z, sp as G Y Z → as.length = ps.length
  go : ∀ (B : Around), B.guards = some [] → Room k B → ∀ (fs : List Env) (t : Shared) (G : Hp) (ar : Args) (xs : List Value) (as : List V) (Y : VK) (Z : XK),
    Env0 P w K mg base B fs t G → BindsTo t fd ar (ps.zip xs) → Vals as xs → sp as G Y Z → codeAny (model P w) B (.call (.ref f) ar) (CR CX fs P w G t Y Z) t
section
variable {P : Program} {w : World} {K : PySem.W.Frag} {mg : Str → Option Value} {base : Heap} {CX : CXT} {k j : Nat} {f : Addr} {fd : FuncData} {ps : List Str} {sp : Sp}
theorem FnG.of (F : FnOk P w K mg base CX k f fd ps sp) : FnG P w K mg base CX k f fd ps sp :=
  ⟨F.len, fun B _ r fs t G ar xs as Y Z e0 b v h => F.run B fs t G ar xs as Y Z r e0 b v h⟩
theorem FnG.mono (F : FnG P w K mg base CX j f fd ps sp) (h : j ≤ k) : FnG P w K mg base CX k f fd ps sp :=
  ⟨F.few, fun B g r => F.go B g (r.mono h)⟩
theorem fng_of {name qual : Str} {params : Arguments} {body : List Stmt} {scope : Scope} {dV kV doc pm cdv ct oc : Value} {an od : Option Addr} {osl : Array (Option Value)} {N : List Str}
    (at_ : K.lookup f = some ⟨oc, od, .func (PySem.W.fnOf name qual params body scope dV kV doc pm an cdv ct), osl⟩) (code : PySem.W.codeIn K cdv qual = true) (S : FnScope N ps scope) (few : ∀ as G Y Z, sp as G Y Z → as.length = ps.length)
    (walk : ∀ (B : Around) (fs : List Env) (t : Shared) (G : Hp) (as : List V) (Y : VK) (Z : XK), B.guards = some [] → Room k (B.deeper (envOfC qual scope t.heap.objs.size f cdv)) → sp as G Y Z →
      ∃ r, PSs (cxOf CX P w K mg base N qual scope f cdv B fs t G Z) body r ∧ r { nx := fun _ G' => Y .non G', rt := Y } (start N as) G) :
    FnG P w K mg base CX (k + 1) f (PySem.W.fnOf name qual params body scope dV kV doc pm an cdv ct) ps sp := by
  refine ⟨few, fun B gd room fs t G ar xs as Y Z e0 binds vals pr => ?_⟩
  have ins : K.In t.heap := e0.mod.kin.keeps fun b o q => (e0.bs b o q).1
  have nolim : t.heap.NoLimit := e0.mod.nolimit.keeps fun b o q => (e0.bs b o q).1
  have kinds : ∀ y ∈ ps.zip xs, scope.names.lookup y.1 = some .local ∨ (scope.names.lookup y.1 = some .cell ∧ ((cellsFrom (t.heap.objs.size + 1) scope.names []).lookup y.1).isSome = true) := by
    rintro ⟨n, v⟩ hy
    cases S.par n (List.of_mem_zip hy).1 with
    | inl q => exact .inl q
    | inr q => exact .inr ⟨q, PySem.W.cellsFrom_some _ _ _ (.inl q)⟩
  refine codeAny_call_function room.depth (ins _ _ at_) rfl S.co S.gen rfl (PySem.W.codeRec_of ins code) (binds _ _ _ _ ?_)
  refine wpAny_newFunctionEnv_cells S.kind kinds fun env he t1 x => ?_
  subst he
  refine ⟨nolim.keeps x.toInCall.keep, codeAny_func ?_⟩
  obtain ⟨r, hr, hq⟩ := walk B fs t G as Y Z gd (room.deeper _) pr
  have J0 := inv_start (CX := CX) (E := Z) S room.hd e0 (few _ _ _ _ pr) vals x
  refine wpAny_mono (hr.run [] t1 (start N as) G _ J0 hq) (fun fl t' hs => ?_) fun e t' hs => hs
  cases fl with
  | ret u =>
    obtain ⟨v, σ', G', J, rv, q⟩ := hs
    exact ⟨v, G', J.os, J.bare, J.base, J.hok, rv, q⟩
  | next =>
    obtain ⟨σ', G', J, q⟩ := hs
    exact ⟨V.non, G', J.os, J.bare, J.base, J.hok, rfl, q⟩
  | brk =>
    obtain ⟨_, _, _, q⟩ := hs
    exact q.elim
  | cont =>
    obtain ⟨_, _, _, q⟩ := hs
    exact q.elim
end
theorem Fun.okG {P : Program} {w : World} {K : PySem.W.Frag} {mg : Str → Option Value} {base : Heap} {x qual : Str} {st : Stmt} {f : Addr} {fd : FuncData} {N ps : List Str} {k : Nat} {sp : Sp} (F : Fun K x qual st f fd) (S : FnScope N ps (defScope st)) (few : ∀ as G Y Z, sp as G Y Z → as.length = ps.length)
    (walk : ∀ (cdv : Value) (B : Around) (fs : List Env) (t : Shared) (G : Hp) (as : List V) (Y : VK) (Z : XK), B.guards = some [] → Room k (B.deeper (envOfC qual (defScope st) t.heap.objs.size f cdv)) → sp as G Y Z →
      ∃ r, PSs (cxOf CX0 P w K mg base N qual (defScope st) f cdv B fs t G Z).nox (defBody st) r ∧ r { nx := fun _ G' => Y .non G', rt := Y } (start N as) G) : FnG P w K mg base CX0 (k + 1) f fd ps sp := by
  obtain ⟨oc, od, kV, doc, pm, an, cdv, ct, osl, rfl, lk, hcd⟩ := F.ex
  refine fng_of lk hcd S few fun B fs t G as Y Z gd room pr => ?_
  obtain ⟨r, h, q⟩ := walk cdv B fs t G as Y Z gd room pr
  exact ⟨r, h.nox, q⟩
section
variable {X : Cx} {CX : CXT} {k : Nat} {f : Addr} {fd : FuncData} {ps : List Str} {sp : Sp} {ds : List Value} {dvs : List V} {E : XK}
theorem run_g {pins : List (Addr × Obj)} {σ : L2.St} {H : Hp} {s : Shared} {Q : VK} {us : List Value} {vs : List V} (F : FnG X.prog X.w X.K X.mg X.base CX k f fd ps sp) (gd : X.A.guards = some []) (room : Room k X.A) (binds : L2.Binds X.K fd ps ds) (dv : Vals dvs ds) (pass : Passes CX X E)
    (I : Inv X pins σ H s) (v : Vals vs us) (pr : sp (vs ++ dvs) H Q E) : wpAny (model X.prog X.w) X.A (call (.ref f) us) (EP X pins σ Q) X.xe s := by
  have all : Vals (vs ++ dvs) (us ++ ds) := v.append dv
  have len : (us ++ ds).length = ps.length := all.length.symm.trans (F.few _ _ _ _ pr)
  refine wpAny_call (codeAny_mono (F.go X.A gd room X.stack s H ⟨us, []⟩ (us ++ ds) (vs ++ dvs) Q E I.env0 (binds s us I.kIn len) all pr) fun r s' q => ?_)
  cases r with
  | error e => exact pass pins σ H s e s' I q
  | ok fl =>
    cases fl with
    | ret u => exact I.after q
    | next => exact q.elim
    | brk => exact q.elim
    | cont => exact q.elim
variable {x : Str} {e : Expr} {es : List Expr} {t : TA} {p pos : Pos}
theorem pe_callG (F : FnG X.prog X.w X.K X.mg X.base CX k f fd ps sp) (gd : X.A.guards = some []) (room : Room k X.A) (glob : Gl X x) (at_ : X.mg x = some (.ref f)) (keep : PySem.W.keepIn X.K (.ref f) = true) (binds : L2.Binds X.K fd ps ds) (dv : Vals dvs ds) (pass : Passes CX X E)
    (args : PA X (e :: es) t) (nodbg : (x == ("__debug__" : Str)) = false := by decide) (h1 : starEach (e :: es) X.env = (false, eval e X.env) :: starEach es X.env := by rfl) (h2 : (backTo pos (starEach es X.env)).any (·.1) = false := by rfl) :
    PE X (.Call (.Name x p) (e :: es) [] pos) (tCall sp dvs E t) :=
  ⟨fun pins s σ H Q I h => wpAny_Call_Name_kw (ld_glob I glob at_ (PySem.W.callWith_K (h₀ := X.base) I.ok.mod.kin keep (thn (args.run pos pins s σ H _ I h) fun us s1 ⟨vs, H1, I1, r, q⟩ => ⟨I1.kIn, run_g F gd room binds dv pass I1 r q⟩) h1 h2) nodbg)⟩
theorem pe_callG0 (F : FnG X.prog X.w X.K X.mg X.base CX k f fd ps sp) (gd : X.A.guards = some []) (room : Room k X.A) (glob : Gl X x) (at_ : X.mg x = some (.ref f)) (keep : PySem.W.keepIn X.K (.ref f) = true) (binds : L2.Binds X.K fd ps ds) (dv : Vals dvs ds) (pass : Passes CX X E)
    (nodbg : (x == ("__debug__" : Str)) = false := by decide) : PE X (.Call (.Name x p) [] [] pos) (tCall sp dvs E tNil) :=
  ⟨fun pins s σ H Q I h => wpAny_Call_Name_kw (ld_glob I glob at_ (PySem.W.callWith_K0 I.kIn keep (run_g (us := []) F gd room binds dv pass I .nil h)) nodbg)⟩
end
/-! ### repr of data -/
section
variable {X : Cx} {K : PySem.W.Frag}
def rRepr (K : PySem.W.Frag) : List V → Hp → VK → Prop := fun xs H Q => ∃ v d, xs = [v] ∧ Dp K H v d ∧ d.showable = true ∧ d.hasDict = false ∧ d.depth ≤ 60 ∧ d.shown.length ≤ sizeLine ∧ Q (.str d.shown) H
theorem k_repr (gd : X.A.guards = some []) (hu : X.A.units + 64 < cLine) (hK : X.K = K := by rfl) : CallR X (.builtin "repr") (rRepr K) := by
  subst hK
  intro pins s σ H xs us Q I r h
  obtain ⟨v, d, rfl, dp, sh, nd, de, sz, q⟩ := h
  obtain ⟨u, rfl, rv⟩ := vals1 r
  have ends : ∀ h' tk t, (∀ b o, s.heap.get? b = some o → h'.get? b = some o) → EP X pins σ Q (.str d.shown t) { s with heap := h', toks := tk } := fun h' tk t k => ⟨.str d.shown, H, I.kept k, ⟨_, rfl⟩, q⟩
  cases dp with
  | non =>
    cases rv
    exact PySem.P.repr_of_none (ends s.heap _ _ fun _ _ q => q)
  | bl b =>
    cases rv
    exact PySem.P.repr_of_bool (ends s.heap _ _ fun _ _ q => q)
  | int i =>
    obtain ⟨t, rfl⟩ := rv
    exact PySem.P.repr_of_int (of_decide_eq_true sh) (ends s.heap _ _ fun _ _ q => q)
  | str x =>
    obtain ⟨t, rfl⟩ := rv
    exact PySem.P.repr_of_str (ends s.heap _ _ fun _ _ q => q) sz
  | lst hq hs =>
    obtain ⟨as, rd⟩ := Dp.reads I _ _ _ (.lst hq hs) rv
    cases rv
    exact repr_of_reads' rd sh (PyData.noDict_hsm nd) gd (by omega) (fun _ _ q => q) (fun h' t tk k => ends h' tk t k) sz
  | tup hq hs =>
    obtain ⟨as, rd⟩ := Dp.reads I _ _ _ (.tup hq hs) rv
    cases rv
    exact repr_of_reads' rd sh (PyData.noDict_hsm nd) gd (by omega) (fun _ _ q => q) (fun h' t tk k => ends h' tk t k) sz
end
/-! ### the law's call -/
theorem law_callG {P : Program} {w : World} {K : PySem.W.Frag} {mg mb : Str → Option Value} {CX : CXT} {k : Nat} {fa a : Addr} {fd : FuncData} {x : Str} {sp : Sp} {t : Shared} {us : List Value} {zs : List Int}
    (ins : K.In t.heap) (gl : t.heap.Ns mainGlobals mg) (bl : t.heap.Ns builtinsNs mb) (boot : ∀ x : Str, x ≠ "__name__" → mb x = bootBuiltins x) (nolim : t.heap.NoLimit) (nogen : t.gens = #[])
    (obj : t.heap.get? a = some { cls := .type "list", data := .seq us.toArray }) (nums : IntsAre us zs) (few : zs.length ≤ sizeLine) (room : Room k callerA)
    (F : ∀ base : Heap, K.In base → base.Ns mainGlobals mg → FnG P w K mg base CX k fa fd [x] sp) (binds : ∀ (s : Shared) (u : Value), BindsTo s fd ⟨[u], []⟩ [(x, u)])
    (pr : ∀ H : Hp, Only H → SqL K H a (zs.map V.int) → sp [.ref a] H (fun v _ => v = .bl true) fun _ _ _ => False) (noerr : ∀ H e s', CX [] H t (fun _ _ _ => False) e s' → False) :
    codeAny (model P w) callerA (.call (.ref fa) ⟨[.ref a], []⟩) (fun r s' => r = .ok (.ret (.bool true)) ∧ OldK t.heap s'.heap ∧ s'.os = t.os ∧ AllBare s'.gens) t := by
  have vi := vals_ints nums
  have key : ∀ Z : Hp, Only Z → SqL K Z a (zs.map V.int) → HOk P w Z t.heap → (∀ b, Z b ≠ none → b = a) → (Z a ≠ none → K.lookup a = none) →
      codeAny (model P w) callerA (.call (.ref fa) ⟨[.ref a], []⟩) (fun r s' => r = .ok (.ret (.bool true)) ∧ OldK t.heap s'.heap ∧ s'.os = t.os ∧ AllBare s'.gens) t := by
    intro Z only seq zok one notK
    have keep : ∀ {b : Addr} {o : Obj}, t.heap.get? b = some o → Z b = none → (hidT t.heap Z).get? b = some o := fun e n => hidT_get e n
    have nod : ∀ {b : Addr} {o : Obj} {es : Array DictEntry} {ep : Nat}, t.heap.get? b = some o → o.data = .dict es ep → Z b = none := by
      intro b o es ep g d
      cases q : Z b with
      | none => rfl
      | some u =>
        obtain rfl := one b (by rw [q]; exact Option.some_ne_none u)
        rw [obj] at g
        cases g
        cases (show Data.seq us.toArray _ = Data.dict es ep from d)
    have nsZ : ∀ {b : Addr} {m : Str → Option Value}, t.heap.Ns b m → (hidT t.heap Z).Ns b m := by
      rintro b m ⟨o, es, ep, g, d, r⟩
      exact ⟨o, es, ep, keep g (nod g d), d, r⟩
    have insZ : K.In (hidT t.heap Z) := by
      intro b o g
      refine keep (ins b o g) ?_
      cases q : Z b with
      | none => rfl
      | some u =>
        obtain rfl := one b (by rw [q]; exact Option.some_ne_none u)
        rw [notK (by rw [q]; exact Option.some_ne_none u)] at g
        cases g
    have md : Mod K mg (hidT t.heap Z) := by
      obtain ⟨mc, l1, l2⟩ := nolim
      exact ⟨insZ, nsZ gl, ⟨mb, nsZ bl, boot⟩, mc, nsZ l1, l2⟩
    have env : Env0 P w K mg (hidT t.heap Z) callerA [] t Z :=
      { frames := rfl, mod := md, bs := fun b o g => of_hidT g, bsz := Nat.le_of_eq (hidT_size _ _), funs := trivial, frf := (fun b hb => nomatch (show b ∈ ([] : List Addr) from hb)), hok := zok, bare := .of_eq nogen }
    refine codeAny_mono ((F _ insZ (nsZ gl)).go callerA rfl room [] t Z ⟨[.ref a], []⟩ [.ref a] [.ref a] _ _ env (binds t (.ref a)) (.cons rfl .nil) (pr Z only seq)) fun r s' h => ?_
    cases r with
    | error e => exact (noerr Z e s' h).elim
    | ok fl =>
      cases fl with
      | next => exact h.elim
      | brk => exact h.elim
      | cont => exact h.elim
      | ret u =>
        obtain ⟨v, Z', os, bare, un, zok', rel, q⟩ := h
        obtain rfl : v = .bl true := q
        cases rel
        refine ⟨rfl, OldK.of_keep fun b o g => ?_, os, bare⟩
        rcases only b with n | ⟨ob, xs, n⟩
        · exact un.keep b o g n (by intro z; cases z) (by intro z; cases z)
        · have g1 := (zok b _ n).1
          have g2 := (zok' b _ (un.frzs b ob _ n)).1
          rw [g] at g1
          cases g1
          exact g2
  cases q : K.lookup a with
  | some o =>
    have g := ins a o q
    rw [obj] at g
    cases g
    refine key (fun _ => none) (fun _ => .inl rfl) (.inr ⟨_, us.toArray, _, q, rfl, rfl, rfl, ?_, vi⟩) (fun b u z => by cases z) (fun b z => absurd rfl z) fun z => absurd rfl z
    rw [List.size_toArray, nums.length]
    exact few
  | none =>
    let ob : Obj := { cls := .type "list", data := .seq us.toArray }
    have here : ∀ b, b ≠ a → (fun b => if b = a then some (HO.frz ob (.lst (zs.map V.int))) else none) b = none := fun b n => if_neg n
    refine key (fun b => if b = a then some (.frz ob (.lst (zs.map V.int))) else none) (fun b => ?_) (.inl (.inr ⟨ob, if_pos rfl⟩)) (fun b u z => ?_) (fun b z => ?_) fun _ => q
    · by_cases n : b = a
      · exact .inr ⟨_, _, if_pos n⟩
      · exact .inl (if_neg n)
    · by_cases n : b = a
      · subst n
        have z' := (if_pos rfl).symm.trans z
        cases z'
        exact ⟨obj, by rw [List.length_map]; exact few, us, _, vi, obj⟩
      · have z' := (if_neg n).symm.trans z
        cases z'
    · by_cases n : b = a
      · exact n
      · exact absurd (if_neg n) z
theorem walk_ofG {l : PySem.W.OpenLaw} {k : Nat} {q : Program} {loose : List Str} {XP : (Str → Option Value) → Heap → Prop} {YP : World → Heap → Prop} {d : DefRec} {K : Params → PySem.W.Frag} {sp : PySem.W.Frag → Sp} {x : Str}
    (most : l.most = some 63) (nodef : d.params.defaults = []) (room : Room k callerA) (ins : ∀ (w : World) (h : Heap), YP w h → (K w.params).In h)
    (F : ∀ (w : World) (mg : Str → Option Value) (fa : Addr) (h : Heap), (K w.params).In h → h.Ns mainGlobals mg → mg d.name = some (.ref fa) →
      ∃ fd : FuncData, (∀ (s : Shared) (u : Value), BindsTo s fd ⟨[u], []⟩ [(x, u)]) ∧ ∀ base : Heap, (K w.params).In base → base.Ns mainGlobals mg → FnG l.prog w (K w.params) mg base CX0 k fa fd [x] (sp (K w.params)))
    (pr : ∀ (K : PySem.W.Frag) (H : Hp) (a : Addr) (ns : List Int), ns.length ≤ 63 → SqL K H a (ns.map V.int) → sp K [.ref a] H (fun v _ => v = .bl true) fun _ _ _ => False) :
    PySem.W.WalkO q loose XP YP l.row.toRowW d [] (fun f vs => PySem.call f vs) := by
  refine Att.attach_call most nodef fun w s₀ t mg mb fa o pm cd doc a us zs G Y ho hd hcd hmg obj nums few nogen => ?_
  obtain ⟨fd, hb, hF⟩ := F w mg fa _ (ins w _ Y) G.T.g hmg
  exact law_callG (ins w _ Y) G.T.g G.T.b G.T.builtins G.T.nolimit nogen obj nums (Nat.le_trans few (by decide)) room hF hb (fun H _ S => pr _ H a zs few S) fun _ _ _ z => z
/-! ### more operators -/
section
variable {X : Cx} {K : PySem.W.Frag}
def repS (z : Str) (n : Int) : Str := ⟨(List.replicate n.toNat z.cps).foldl (· ++ ·) #[]⟩
def rRepS : R2 := fun x y H Q => ∃ z n, x = .str z ∧ y = .int n ∧ z.length = 1 ∧ 2 ≤ n ∧ n ≤ 1000 ∧ Q (.str (repS z n)) H
theorem repS_len (z : Str) (n : Int) : (repS z n).length = n.toNat * z.length := by
  have h : ∀ (k : Nat) (acc : Array Nat), ((List.replicate k z.cps).foldl (· ++ ·) acc).size = acc.size + k * z.cps.size := by
    intro k
    induction k with
    | zero => intro acc; simp
    | succ k ih =>
      intro acc
      rw [List.replicate_succ, List.foldl_cons, ih, Array.size_append, Nat.succ_mul]
      omega
  show ((List.replicate n.toNat z.cps).foldl (· ++ ·) #[]).size = _
  rw [h]
  simp [Str.length]
theorem op_repS : OpR X (binaryOp .Mult) rRepS := by
  intro pins s σ H x y v u Q I rx ry h
  obtain ⟨z, n, rfl, rfl, hz, h2, h3, q⟩ := h
  obtain ⟨t, rfl⟩ := rx
  obtain ⟨t', rfl⟩ := ry
  have e1 : ¬ n < 1 := by omega
  have e2 : (n == 1 || z.length == 0) = false := by
    rw [hz]
    have : n ≠ 1 := by omega
    simp [this]
  refine PySem.P.mul_str ?_ (fun _ _ => ?_) (fun _ _ => ?_) ?_
  · have a1 : ¬ n < -(2 ^ 63 : Int) := by omega
    have a2 : ¬ n ≥ 2 ^ 63 := by omega
    rw [decide_eq_false a1, decide_eq_false a2]
    rfl
  · rw [hz]
    have : (2 ^ 63 - 1) / n ≥ 1 := by
      have h5 : (1 : Int) * n ≤ 2 ^ 63 - 1 := by omega
      exact Int.le_ediv_of_mul_le (by omega) h5
    omega
  · rw [hz]
    refine decide_eq_false (Nat.not_lt.mpr ?_)
    exact Nat.le_of_lt (small1000 (by omega))
  · rw [if_neg e1, e2]
    exact ⟨by
      show (repS z n).length ≤ sizeLine
      rw [repS_len, hz]
      exact Nat.le_of_lt (small1000 (by omega)), ⟨.str (repS z n), H, I.tok _, ⟨_, rfl⟩, q⟩⟩
theorem k_catA (hK : X.K = K := by rfl) : OpR X (binaryOp .Add) (rCatA K) := by subst hK; exact op_catA
theorem k_repT (hK : X.K = K := by rfl) : OpR X (binaryOp .Mult) (rRepT K) := by subst hK; exact op_repT
end
theorem seqT_same {K : PySem.W.Frag} {H H' : Hp} {a : Addr} {xs : List V} (e : Same H H') (h : SqT K H a xs) : SqT K H' a xs := by
  rcases h with (h | ⟨o, h⟩) | h
  · exact .inl (.inl (e _ _ h))
  · exact .inl (.inr ⟨o, e _ _ h⟩)
  · exact .inr h
theorem tyTup {K : PySem.W.Frag} {H : Hp} {a : Addr} {xs : List V} (h : SqT K H a xs) : TyX K H (.ref a) (.type "tuple") := by
  rcases h with (h | ⟨o, h⟩) | ⟨o, its, n, h, c, _⟩
  · exact .base (.tup h)
  · exact .fTuple h
  · exact .kTuple h c
theorem tyx_same {K : PySem.W.Frag} {H H' : Hp} {v : V} {t : Value} (s : Same H H') (h : TyX K H v t) : TyX K H' v t := by
  cases h with
  | base b =>
    cases b with
    | non => exact .base .non
    | bl y => exact .base (.bl y)
    | int i => exact .base (.int i)
    | str y => exact .base (.str y)
    | flt y => exact .base (.flt y)
    | lst e => exact .base (.lst (s _ _ e))
    | frz e => exact .base (.frz (s _ _ e))
    | tup e => exact .base (.tup (s _ _ e))
    | dK e => exact .base (.dK (s _ _ e))
    | dT e => exact .base (.dT (s _ _ e))
    | ins e cl ha hn htk hm => exact .base (.ins (s _ _ e) cl ha hn htk hm)
  | byt y => exact .byt y
  | set e => exact .set (s _ _ e)
  | kList e c => exact .kList e c
  | kTuple e c => exact .kTuple e c
  | kDict e c => exact .kDict e c
  | fTuple e => exact .fTuple (s _ _ e)
  | fDict e => exact .fDict (s _ _ e)
/-- what isinstance(.., T) answers of a value -/
def Isi (K : PySem.W.Frag) (T : String) (H : Hp) (v : V) (b : Bool) : Prop := ∃ t, TyX K H v t ∧ PySem.W.kitOne K t (.type T) = some b
theorem Isi.same {K : PySem.W.Frag} {T : String} {H H' : Hp} {v : V} {b : Bool} (s : Same H H') (h : Isi K T H v b) : Isi K T H' v b := by
  obtain ⟨t, ty, e⟩ := h
  exact ⟨t, tyx_same s ty, e⟩
theorem isi_ty {K : PySem.W.Frag} {T t : String} {H : Hp} {v : V} {b : Bool} (h : TyX K H v (.type t)) (hb : kitB t T = some b) : Isi K T H v b := ⟨_, h, kit_ty hb⟩
/-- an object that was tracked ahead is not at a place that was free -/
theorem SB.same {d : Addr} {H0 H H' : Hp} (s : Same H0 H) (n : H0 d = none) (b : SB d H H') : Same H0 H' := fun c o h => b c o (ne_of_none h n) (s c o h)
theorem cat_any {K : PySem.W.Frag} {a b : Addr} {xs ys : List V} {H : Hp} {Q : VK} (ha : SqT K H a xs) (hb : SqT K H b ys) (hz : xs.length + ys.length ≤ sizeLine) (h : ∀ r H', Same H H' → SqT K H' r (xs ++ ys) → Q (.ref r) H') : rCatA K (.ref a) (.ref b) H Q := by
  refine ⟨a, b, xs, ys, rfl, rfl, ha, hb, hz, fun e => ?_, fun _ e => ?_, fun _ _ p np => ?_⟩
  · exact h b H (Same.refl H) (by rw [e, List.nil_append]; exact hb)
  · exact h a H (Same.refl H) (by rw [e, List.append_nil]; exact ha)
  · exact h p _ (Same.new np) (SqT.of upd_same)
/-- an item of a mapped list -/
theorem map_at {α β : Type} {f : α → β} {l : List α} {i : Nat} {y : β} (h : (l.map f)[i]? = some y) : ∃ x, l[i]? = some x ∧ y = f x := by
  rw [List.getElem?_map] at h
  cases e : l[i]? with
  | none => rw [e] at h; cases h
  | some x => rw [e] at h; exact ⟨x, rfl, (Option.some.inj h).symm⟩
theorem at_map {α β : Type} (f : α → β) {l : List α} {i : Nat} {x : α} (h : l[i]? = some x) : (l.map f)[i]? = some (f x) := by
  rw [List.getElem?_map, h]
  rfl
theorem eqv_refl_shaped {d : PyData} (h : SeqAt.shaped d = true) : PyData.eqv d d = true := SeqAt.eqv_refl d (SeqAt.canLay_of_shaped h)
/-! ### what repr may be asked of -/
def RepOk (d : PyData) : Prop := d.showable = true ∧ d.hasDict = false ∧ d.depth ≤ 60 ∧ d.shown.length ≤ sizeLine
theorem repr_ok {K : PySem.W.Frag} {H : Hp} {v : V} {d : PyData} {Q : VK} (dp : Dp K H v d) (r : RepOk d) (q : Q (.str d.shown) H) : rRepr K [v] H Q := ⟨v, d, rfl, dp, r.1, r.2.1, r.2.2.1, r.2.2.2, q⟩
theorem repOk_of {d : PyData} (c : d.canLay0 = true) (sh : d.showable = true) (i : d.intsShort 13 = true) (dp : d.depth ≤ 60) (w : d.weight ≤ 2 ^ 20) : RepOk d := by
  have hl : d.layable0 = true := by
    refine Bool.and_eq_true_iff.mpr ⟨Bool.and_eq_true_iff.mpr ⟨c, decide_eq_true (by omega)⟩, decide_eq_true w⟩
  refine ⟨sh, PyData.hasDict_of_layable hl, dp, ?_⟩
  have := shown_le13 hl i
  exact Nat.le_trans this (by decide)
theorem intsShort_map {α : Type} (f : α → PyData) (B : Nat) : ∀ l : List α, (∀ x ∈ l, (f x).intsShort B = true) → PyData.intsShortAll B (l.map f) = true
  | [], _ => by simp [PyData.intsShortAll]
  | x :: l, h => by
    have ih := intsShort_map f B l fun y hy => h y (List.mem_cons_of_mem _ hy)
    simp only [List.map_cons, PyData.intsShortAll, ih, h x List.mem_cons_self, Bool.and_self]
theorem weight_map {α : Type} (f : α → PyData) (n : Nat) : ∀ l : List α, (∀ x ∈ l, (f x).weight ≤ n) → PyData.weightAll (l.map f) ≤ l.length * (n + 1)
  | [], _ => by simp [PyData.weightAll]
  | x :: l, h => by
    have ih := weight_map f n l fun y hy => h y (List.mem_cons_of_mem _ hy)
    have := h x List.mem_cons_self
    simp only [List.map_cons, PyData.weightAll, List.length_cons, Nat.succ_mul]
    omega
theorem repOk_boolsT {bs : List Bool} (h : bs.length ≤ 100000) : RepOk (.tuple (bs.map PyData.bool)) := by
  refine repOk_of ?_ ?_ ?_ ?_ ?_
  · simp only [PyData.canLay0]
    exact canAll_map _ _ fun _ _ => by simp [PyData.canLay0]
  · simp only [PyData.showable]
    exact PyData.showableAll_bools bs
  · simp only [PyData.intsShort]
    exact intsShort_map _ _ _ fun _ _ => by simp [PyData.intsShort]
  · simp only [PyData.depth]
    have := depthAll_map PyData.bool 0 bs fun _ _ => by simp [PyData.depth]
    omega
  · simp only [PyData.weight]
    have := weight_map PyData.bool 0 bs fun _ _ => by simp [PyData.weight]
    omega
theorem seqT_sb {K : PySem.W.Frag} {d : Addr} {H H' : Hp} {a : Addr} {xs : List V} (n : a ≠ d) (e : SB d H H') (h : SqT K H a xs) : SqT K H' a xs := by
  rcases h with (h | ⟨o, h⟩) | h
  · exact .inl (.inl (e _ _ n h))
  · exact .inl (.inr ⟨o, e _ _ n h⟩)
  · exact .inr h
theorem dp_boolsT {K : PySem.W.Frag} {H : Hp} {p : Addr} {bs : List Bool} (h : SqT K H p (bs.map V.bl)) : Dp K H (.ref p) (.tuple (bs.map PyData.bool)) := .tup h (dp_bls _)
theorem dp_boolsL {K : PySem.W.Frag} {H : Hp} {p : Addr} {bs : List Bool} (h : SqL K H p (bs.map V.bl)) : Dp K H (.ref p) (.list (bs.map PyData.bool)) := .lst h (dp_bls _)
/-- the dice behind an item put to another list -/
theorem Dice.put {d D : Addr} {H : Hp} {o : HO} (h : Dice H d) (n : d ≠ D) : Dice (L2.upd H D o) d := by
  obtain ⟨x, y, z, g1, g2, g3, e⟩ := h
  exact ⟨x, y, z, g1, g2, g3, by rw [upd_ne n]; exact e⟩
/-- what was tracked ahead of a list at D, behind an item put to it -/
theorem SB.put {d D : Addr} {H0 H : Hp} {o : HO} (n : H0 D = none) (h : SB d H0 H) : SB d H0 (L2.upd H D o) := fun b u nb hb => by
  rw [upd_ne (ne_of_none hb n)]
  exact h b u nb hb
/-! ### an own exception whose __init__ says super().__init__('text'), then self.f = argument -/
section
variable {prog : Program} {w : World} {M : Model} {A : Around} {E : Value → Shared → Prop} {h : Heap} {g : Array GenState} {d : Drawn} {t : Nat} {os : OsState} {B i newId : String} {bmB : List Value}
variable {nm q : Str} {C N : Addr} {bs bm : List Value} {hdct : Bool} {sn : List Str} {sub : List Value} {ab : Bool} {col : Option Bool} {dd : Option Addr} {k0 k1 k2 k3 k5 : Option Value}
theorem call_mw {u e t0 : Addr} {rest : List Value} {Q : Value → Shared → Prop} (FB : ExcBaseFacts B newId i bmB)
    (hC : h.get? C = some (excClassObj nm q C N bs bm hdct sn sub ab col dd k0 k1 k2 k3 k5 newId)) (he : h.get? e = some (HandSPX.excO C t0)) (hu : h.get? u = some (PySem.W.kxs_mw i e)) (hrest : rest.length ≤ sizeLine)
    (hq : ∀ h' t1, (∀ b o, b ≠ e → h.get? b = some o → h'.get? b = some o) → h'.get? e = some (HandSPX.excO C t1) → Q .none ⟨h', g, d, t, os⟩) :
    wpAny (model prog w) A (call (.ref u) rest) Q E ⟨h, g, d, t, os⟩ := by
  refine wpAny_call (codeAny_of_tree ?_)
  show wpAny _ A.in1 (callAny (.ref u) ⟨rest, []⟩) _ _ _
  simp only [callAny]
  refine wpAny_bind (wpAny_load hu ?_)
  simp only [PySem.W.kxs_mw, show (Value.type "method-wrapper" == Value.type "method" || Value.type "method-wrapper" == Value.type "builtin_function_or_method" || Value.type "method-wrapper" == Value.type "method-wrapper") = true by decide, if_true]
  refine PySem.W.KFB.if_so (by decide) ?_
  refine wpAny_bind (PySem.W.check_bound_init FB.toExcCallFacts hC he rfl ?_)
  refine wpAny_bind (wpAny_pure (wpAny_pure ?_))
  refine ⟨plainId_quiet FB.init.plain _, codeAny_builtin FB.initEntry ?_⟩
  exact PySem.W.exc_init_tree (cls := .ref C) (t0 := t0) (dv := none) (c2 := .none) (c3 := .none) (b4 := .bool false) he hrest fun h' k e1 _ => hq h' _ k e1
end
/-- the promise of such an __init__ -/
def spSup (C : Addr) (f : Str) : Sp := fun vs H Q _ => ∃ a v, vs = [.ref a, v] ∧ H a = some (exo a C none) ∧ ∀ dx, H dx = none → dx ≠ a → Q .non (upd (upd H dx (exd dx [(f, v)])) a (exo a C (some dx)))
section
variable {CX : CXT} {P : Program} {w : World} {K : PySem.W.Frag} {mg : Str → Option Value} {base : Heap}
theorem fn_sup {fi C cc cda : Addr} {name qual arg f m file : Str} {params : Arguments} {scope : Scope} {dV kV doc pm ct oc ccl cl : Value} {an od cdd cld : Option Addr} {osl ccs csl : Array (Option Value)} {cvs : Array Value} {tf : Tok} {ar : Arg}
    {j : Nat} {p0 p1 p2 p3 p4 p5 p6 p7 p8 p9 : Pos}
    (lk : K.lookup fi = some ⟨oc, od, .func (PySem.W.ksFn name qual params [.Expr (.Call (.Attribute (.Call (.Name "super" p0) [] [] p1) "__init__" p2) [.Constant (.str m) j p3] [] p4) p5, .Assign [.Attribute (.Name "self" p6) f p7] (.Name arg p8) p9] scope dV kV doc pm an (.ref cda) ct cc), osl⟩)
    (hcd : PySem.W.codeIn K (.ref cda) qual = true)
    (hcode : K.lookup cda = some ⟨ccl, cdd, .fields cvs, ccs⟩) (hvs : cvs[2]? = some (.str file tf)) (hfile : ((P.main.file : Str) == file) = true)
    (hcell : K.lookup cc = some ⟨cl, cld, .cell (some (.ref C)), csl⟩) (T : OexC K C)
    (hm : PySem.W.ks_superIn K C C "__init__" = some (some (.builtin "ValueError.__init__"))) (hB : PySem.W.subIn K (.ref C) (.type "ValueError") = some true) (hsub : PySem.W.mroIn K C (.ref C) = some true)
    (hst : PySem.W.nsIn K cStatics "thirdparty.any" = some none) (hno : PySem.W.findIn K (.ref C) f = some none) (hgs : mg "super" = none) (htop : (P.main.scope.names.lookup ("super" : Str)).isSome = false)
    (hco : scope.isCoroutine = false) (hgen : scope.isGenerator = false) (hk : scope.kind = .function) (hcl : ∀ x ∈ scope.names, x.2 ≠ .cell)
    (hks : scope.names.lookup ("super" : Str) = some .globalImplicit) (hkc : scope.names.lookup ("__class__" : Str) = some .free) (hkS : scope.names.lookup ("self" : Str) = some .local) (hka : scope.names.lookup arg = some .local)
    (hp : (params.posonlyargs ++ params.args).head? = some ar) (har : ar.arg = "self") (hne : arg ≠ "self") (hdb : (arg == ("__debug__" : Str)) = false)
    (hboot : bootBuiltins "super" = some (.type "super"))
    (hi : ∀ L, interactive (PySem.W.ksEnv qual scope L fi (.ref cda) cc) = false)
    (hev : ∀ L, ∃ pl : Sem Bool, eval (.Call (.Attribute (.Call (.Name "super" p0) [] [] p1) "__init__" p2) [.Constant (.str m) j p3] [] p4) (PySem.W.ksEnv qual scope L fi (.ref cda) cc) = (do
      let ov ← attributeBase (.Call (.Name "super" p0) [] [] p1) "__init__" (PySem.W.ksEnv qual scope L fi (.ref cda) cc) (eval (.Call (.Name "super" p0) [] [] p1) (PySem.W.ksEnv qual scope L fi (.ref cda) cc))
      standAt p2.atName
      let (f, first) ← holding [ov] (getMethod ov "__init__" pl)
      callWith p4 f first (backTo p4 (starEach [.Constant (.str m) j p3] (PySem.W.ksEnv qual scope L fi (.ref cda) cc))) [])) : FnOk P w K mg base CX 1 fi (PySem.W.ksFn name qual params [.Expr (.Call (.Attribute (.Call (.Name "super" p0) [] [] p1) "__init__" p2) [.Constant (.str m) j p3] [] p4) p5, .Assign [.Attribute (.Name "self" p6) f p7] (.Name arg p8) p9] scope dV kV doc pm an (.ref cda) ct cc) ["self", arg] (spSup C f) := by
  refine ⟨fun vs H Q E h => by obtain ⟨a, v, rfl, _⟩ := h; rfl, fun A outer s H args us vs Q E hr e0 hb r hsp => ?_⟩
  obtain ⟨a, v, rfl, ea, q⟩ := hsp
  obtain ⟨u0, u, rfl, r0, ru⟩ := r.two
  obtain rfl : u0 = Value.ref a := r0
  have KX : K.In s.heap := e0.mod.kin.keeps fun b o e => (e0.bs b o e).1
  have lim : s.heap.NoLimit := e0.mod.nolimit.keeps fun b o e => (e0.bs b o e).1
  refine PySem.ks_codeAny_call_defAt (binds := [("self", .ref a), (arg, u)]) hr.depth (KX _ _ lk) rfl lim (PySem.W.codeRec_of KX hcd) rfl hb hcl (fun y hy => ?_) (fun h₁ hns kp => ?_) hco hgen hk
  · rcases List.mem_cons.mp hy with rfl | hy
    · exact hkS
    · rw [List.mem_singleton.mp hy]
      exact hka
  have KX1 : K.In h₁ := KX.keeps kp
  let sc' : Scope := { scope with names := [("self", .local), (arg, .local)] }
  have lS : ∀ y : Str, sc'.names.lookup y = if y = "self" then some .local else if y = arg then some .local else none := fun y => by
    show List.lookup y [((Str.ofString "self"), NameKind.local), (arg, NameKind.local)] = _
    by_cases h1 : y = "self"
    · subst h1
      simp [List.lookup]
    · by_cases h2 : y = arg
      · subst h2
        simp [List.lookup, hne, h1, beq_eq_false_iff_ne.mpr h1]
      · simp [List.lookup, h1, h2, beq_eq_false_iff_ne.mpr h1, beq_eq_false_iff_ne.mpr h2]
  have S' : FnScope ["self", arg] ["self", arg] sc' := ⟨hk, hco, hgen, by
      refine List.nodup_cons.mpr ⟨fun z => hne (List.mem_singleton.mp z).symm, List.nodup_cons.mpr ⟨by simp, List.nodup_nil⟩⟩, rfl, fun y hy => .inl (by
      rw [lS]
      rcases List.mem_cons.mp hy with rfl | hy
      · rw [if_pos rfl]
      · rw [List.mem_singleton.mp hy, if_neg hne, if_pos rfl]), fun y hy => by
      rcases List.mem_cons.mp hy with rfl | hy
      · decide
      · rw [List.mem_singleton.mp hy]
        show NameKind.local ≠ NameKind.free
        decide⟩
  have kS : (envOfC qual sc' s.heap.objs.size fi (.ref cda)).kindOf "self" = some .local := (lS _).trans (if_pos rfl)
  have kA : (envOfC qual sc' s.heap.objs.size fi (.ref cda)).kindOf arg = some .local := (lS _).trans (by rw [if_neg hne, if_pos rfl])
  have mE : (fun y => ([("self", .ref a), (arg, u)] : List (Str × Value)).reverse.lookup y) = bindL (envOfC qual sc' s.heap.objs.size fi (.ref cda)).kindOf ((["self", arg] : List Str).zip [.ref a, u]) fun _ => none := by
    funext y
    show List.lookup y [(arg, u), (Str.ofString "self", Value.ref a)] = bindL _ [(Str.ofString "self", Value.ref a), (arg, u)] (fun _ => none) y
    unfold bindL
    rw [kS, if_pos rfl]
    unfold bindL
    rw [kA, if_pos rfl]
    unfold bindL
    by_cases h2 : y = arg
    · subst h2
      simp [List.lookup]
    · by_cases h1 : y = "self"
      · subst h1
        simp [List.lookup, h2, beq_eq_false_iff_ne.mpr h2]
      · simp [List.lookup, h1, h2, beq_eq_false_iff_ne.mpr h1, beq_eq_false_iff_ne.mpr h2]
  have x : InCallC s s.heap.objs.size (bindL (envOfC qual sc' s.heap.objs.size fi (.ref cda)).kindOf ((["self", arg] : List Str).zip [.ref a, u]) fun _ => none) (cellsFrom (s.heap.objs.size + 1) sc'.names []) (bindC (envOfC qual sc' s.heap.objs.size fi (.ref cda)).kindOf ((["self", arg] : List Str).zip [.ref a, u]) fun _ => none) { s with heap := h₁, toks := s.toks + 2 } :=
    ⟨⟨⟨h₁, _, rfl⟩, by rw [← mE]; exact hns, kp, Nat.le_refl _⟩, fun n c z => (nomatch z), .nil, fun n c z => (nomatch z)⟩
  have I0 : Inv (cxOf CX P w K mg base ["self", arg] qual sc' fi (.ref cda) A outer s H E) [] (start ["self", arg] [.ref a, v]) H { s with heap := h₁, toks := s.toks + 2 } := inv_start S' hr.hd e0 rfl r x
  obtain ⟨nm, qn, NC, bs, bm, sn, sub, ab, col, dd, k0, k1, k2, k3, k5, hC, hbm⟩ := T.cls
  have hcl1 : PySem.W.clsIn K C = some { name := nm, bases := bs, mro := .ref C :: bm, ns := NC, qualname := qn, hasDict := true, slotNames := sn, subclasses := sub, abstract := ab, collection := col, hasDel := false } := by
    unfold PySem.W.clsIn
    rw [hC] <;> rfl
  obtain ⟨t1, he1⟩ := exo_at I0.hok ea
  have hC1 := KX1 _ _ hC
  obtain ⟨mb, hb1, hb2⟩ := e0.mod.blt
  have bk : ∀ b o, base.get? b = some o → h₁.get? b = some o := fun b o e => kp b o (e0.bs b o e).1
  have aC : a ≠ C := fun z => by
    rw [z, hC1] at he1
    cases he1
  have nsS : (fun y => ([("self", .ref a), (arg, u)] : List (Str × Value)).reverse.lookup y) "self" = some (.ref a) := by
    show List.lookup (Str.ofString "self") [(arg, u), (Str.ofString "self", Value.ref a)] = _
    simp [List.lookup, beq_eq_false_iff_ne.mpr (Ne.symm hne)]
  have nsA : (fun y => ([("self", .ref a), (arg, u)] : List (Str × Value)).reverse.lookup y) arg = some u := by
    show List.lookup arg [(arg, u), (Str.ofString "self", Value.ref a)] = _
    simp [List.lookup]
  obtain ⟨hp0, gn, dr, tk, os⟩ := s
  obtain ⟨pl, hev⟩ := hev hp0.objs.size
  refine PySem.ks_wpAt_execs_cons (PySem.ks_wpAt_Expr_any (PySem.ks_wpAt_MethodCall (pl := pl) ?_ hev) (hi _))
  refine PySem.ks_wpAt_super_base (env := PySem.W.ksEnv qual scope hp0.objs.size fi (.ref cda) cc) hks hkc rfl rfl (KX1 _ _ lk) rfl hp rfl (KX1 _ _ hcode) rfl hvs hfile htop ?_
  refine PySem.W.ks_loadName_global hk hks (Calls.loadGlobal_builtin (env := PySem.W.ksEnv qual scope hp0.objs.size fi (.ref cda) cc) (e0.mod.glob.keeps bk) hgs (hb1.keeps bk) ((hb2 _ (by decide)).trans hboot) ⟨rfl, ?_⟩)
  refine wpAny_loadName_free hk hkc rfl ⟨_, KX1 _ _ hcell, rfl⟩ ?_
  rw [har]
  refine wpAny_loadName_local hk hkS hns nsS ?_
  refine PySem.ks_wpAny_isType_cls hC1 rfl ⟨rfl, ?_⟩
  refine PySem.ks_wpAny_call_super hC1 rfl he1 rfl (fun c e => by cases e) (PySem.W.looks_mroIn KX1 hsub) (fun h2 e2 k2 => ?_)
  have KX2 : K.In h2 := KX1.keeps k2
  have I2 : PySem.W.InstAt h2 a ({ cls := .ref C, data := .fields #[.ref t1, .none, .none, .none, .bool false, .none] } : Obj) C none := ⟨k2 _ _ he1, rfl, rfl, trivial⟩
  have hm' := hm
  unfold PySem.W.ks_superIn at hm'
  rw [hcl1] at hm'
  refine PySem.W.kxs_getMethod PySem.W.kxs_ValueError e2 (PySem.W.looks_opaque KX2 hst) (l₀ := .ref C :: bm) (fun A Q E s k q => wpAny_bind ((PySem.W.looks_clsIn KX2 hcl1) A _ E s k (wpAny_pure q))) rfl KX2 hm' (I2.type.andThen (PySem.W.looks_subIn KX2 hB)) aC (by decide) ?_
  have k3 : ∀ b o, h2.get? b = some o → (h2.push (PySem.W.kxs_mw "ValueError.__init__" a)).get? b = some o := fun b o e => Heap.get?_push_of_some _ e
  have hu3 : (h2.push (PySem.W.kxs_mw "ValueError.__init__" a)).get? h2.objs.size = some (PySem.W.kxs_mw "ValueError.__init__" a) := Heap.get?_push_at rfl rfl
  have k13 : ∀ b o, h₁.get? b = some o → (h2.push (PySem.W.kxs_mw "ValueError.__init__" a)).get? b = some o := fun b o e => k3 b o (k2 b o e)
  generalize h2.push (PySem.W.kxs_mw "ValueError.__init__" a) = h3 at k3 hu3 k13 ⊢
  refine PySem.W.kxs_callWith (i := "ValueError.__init__") (x := a) rfl ?_
  refine Calls.evalArgs_plain ?_
  refine Calls.spliced_cons (Calls.Constant_str (x := m) (k := j) (pos := p3) (env := PySem.W.ksEnv qual scope hp0.objs.size fi (.ref cda) cc) ?_)
  refine Calls.spliced_nil ⟨hu3, ?_⟩
  refine call_mw PySem.F.excBase_ValueError (k13 _ _ hC1) (k13 _ _ he1) hu3 (by show 1 ≤ sizeLine; rw [sizeLine_eq]; omega) (fun h5 t5 k5 e5 => ?_)
  have k15 : ∀ b o, b ≠ a → h₁.get? b = some o → h5.get? b = some o := fun b o n e => k5 b o n (k13 b o e)
  have I5 := I0.write (t' := tk + 2 + 1 + 1) (x := a) (e := a) (o := exo a C none) (by rw [ea]; exact True.intro) (.inl rfl) k15 ⟨_, e5⟩ (exo_ok e5)
  have eu : upd H a (exo a C none) = H := by
    funext b
    by_cases hb : b = a
    · rw [hb, upd_same, ea]
    · rw [upd_ne hb]
  rw [eu] at I5
  have ns5 : h5.Ns hp0.objs.size (fun y => ([("self", .ref a), (arg, u)] : List (Str × Value)).reverse.lookup y) := hns.at fun o e => k15 _ o (fun z => by
    have y := e0.hok.fresh (Nat.le_refl _) (a := hp0.objs.size)
    rw [z, ea] at y
    cases y) e
  refine wpAt_of_wpAny (wpAny_execs_cons (plainObj_wpAny_Assign_Attribute ?_))
  refine wpAny_Name (wpAny_loadName_local (env := PySem.W.ksEnv qual scope hp0.objs.size fi (.ref cda) cc) hk hka ns5 nsA ?_) hdb
  refine wpAny_Name (wpAny_loadName_local (env := PySem.W.ksEnv qual scope hp0.objs.size fi (.ref cda) cc) hk hkS ns5 nsS ?_) (by decide)
  refine ost_new T I5 ea hno ru (fun dx s' n ne J => ?_)
  exact wpAny_execs_nil ⟨.non, _, J.os, J.bare, J.base, J.hok, rfl, q dx n ne⟩
end
/-! ### KeyError as a base: made by LookupError's __new__, laid by its own __init__ -/
/-- what of a class's mro its making asks: the giver of __new__ is in it, the two bases with fields of their own are not -/
structure Under (Bn : String) (C : Addr) (bm : List Value) : Prop where
  b : (Value.ref C :: bm).contains (.type Bn) = true
  a : (Value.ref C :: bm).contains (.type "AttributeError") = false
  n : (Value.ref C :: bm).contains (.type "NameError") = false
section
variable {prog : Program} {w : World} {A : Around} {E : Value → Shared → Prop} {R : Result → Shared → Prop} {h : Heap} {g : Array GenState} {d : Drawn} {t : Nat} {os : OsState}
variable {nm q : Str} {C N : Addr} {bs bm bmB : List Value} {hdct : Bool} {sn : List Str} {sub : List Value} {ab : Bool} {col : Option Bool} {dd : Option Addr} {k0 k1 k2 k3 k5 : Option Value} {B newId initId : String}
theorem made_under (F : ExcBaseFacts B newId initId bmB) (U : Under B C bm) {rest : List Value} (hC : h.get? C = some (excClassObj nm q C N bs bm hdct sn sub ab col dd k0 k1 k2 k3 k5 newId)) (few : rest.length ≤ sizeLine)
    (hq : R (.ok (.ret (.ref (h.objs.size + 1)))) ⟨(h.push (PySem.W.kdv_tup rest)).push (PySem.HandSPX.excO C h.objs.size), g, d, t, os⟩) : codeAny (model prog w) A (.builtin newId ⟨.ref C :: rest, []⟩) R ⟨h, g, d, t, os⟩ := by
  have ub := U.b
  have ua := U.a
  have un := U.n
  have ends := F.ends
  refine PySem.codeAny_builtinAt F.entry ?_
  unfold Builtin.«BaseException.__new__»
  refine PySem.wpAt_bind ?_
  show PySem.wpAt _ _ _ (stack >>= _) _ _ _
  refine PySem.wpAt_bind (PySem.wpAt_stack fun p below => PySem.wpAt_of_wpAny ?_)
  wp_walk
  refine PySem.wpAt_of_wpAny ?_
  rw [F.owner]
  repeat (first | with_reducible refine wpAny_madeHere_exc F.canon hC ?_ | with_reducible refine wpAny_loadPart_at hC ?_ | (with_reducible refine wpAny_isSubtype_exc hC ?_; first | rw [ub] | rw [ua] | rw [un]) | wp_step)
  show R _ _
  rw [Heap.size_push]
  exact hq
theorem called_under (F : ExcBaseFacts B newId initId bmB) (U : Under B C bm) {rest : List Value} {fI : Addr} (hC : h.get? C = some (excClassObj nm q C N bs bm hdct sn sub ab col dd k0 k1 k2 k3 k5 newId))
    (hi : PySem.W.Looks (model prog w) h (typeLookup (.ref C) "__init__") (some (.ref fI))) (hb : ∀ self, PySem.W.Looks (model prog w) h (bindSpecial (.ref fI) self) (.ref fI, [self])) (few : rest.length ≤ sizeLine)
    (hq : codeAny (model prog w) (A.under (.builtin "type.__call__" ⟨.ref C :: rest, []⟩)) (.call (.ref fI) ⟨.ref (h.objs.size + 1) :: rest, []⟩) (PySem.W.InitBack (h.objs.size + 1) R)
      ⟨(h.push (PySem.W.kdv_tup rest)).push (PySem.HandSPX.excO C h.objs.size), g, d, t, os⟩) :
    codeAny (model prog w) A (.call (.ref C) ⟨rest, []⟩) R ⟨h, g, d, t, os⟩ := by
  have f1 := tc_lookup
  have f2 := tc_bind (.ref C)
  have ub := U.b
  have star := F.noStar
  have hTy : (⟨h, g, d, t, os⟩ : Shared).TypeIs (.ref C) "type" := ⟨_, hC, rfl⟩
  refine codeAny_of_tree ?_
  show wpAny _ _ (callAny (.ref C) _) _ _ _
  repeat (any_goals (first | assumption | with_reducible refine wpAny_loadPart_at hC ?_ | wp_step))
  refine ⟨rfl, ?_⟩
  refine codeAny_call_builtin_at (Code.quiet_builtin _ (by decide +kernel)) entry_typeCall (wpAny_check_type_call_sub hC ?_)
  -- type.__call__: its __new__, then its __init__
  repeat (first | with_reducible refine wpAny_loadPart_at hC ?_ | with_reducible refine wpAny_madeBy_exc hC ?_ | wp_step)
  refine codeAny_call_builtin_code (Code.quiet_builtin _ F.quiet) ?_
  simp only [checkBuiltinCall, F.newKind, F.newSplit, F.newRow]
  repeat (first | refine wpAny_loadPart_at hC ?_ | (refine wpAny_isSubtype_exc hC ?_; rw [ub]) | refine wpAny_staticBase_exc hC ?_ | refine wpAny_madeBy_exc hC ?_ | simp only [bne_self_eq_false, Bool.false_eq_true, if_false] | wp_step)
  refine made_under F U hC few ?_
  show wpAny _ _ _ _ _ _
  have k : ∀ b o, h.get? b = some o → ((h.push (PySem.W.kdv_tup rest)).push (PySem.HandSPX.excO C h.objs.size)).get? b = some o := fun b o e => Heap.get?_push_of_some _ (Heap.get?_push_of_some _ e)
  have hC₁ := k _ _ hC
  have hget : ((h.push (PySem.W.kdv_tup rest)).push (PySem.HandSPX.excO C h.objs.size)).get? (h.objs.size + 1) = some (PySem.HandSPX.excO C h.objs.size) := by heap_get
  have itself : (Value.ref C :: bm).contains (.ref C) = true := by simp
  unfold isInstance
  repeat (first | with_reducible refine wpAny_loadPart_at hget ?_ | (with_reducible refine wpAny_isSubtype_exc hC₁ ?_; rw [itself]) | wp_step)
  show wpAny _ _ (isSubtype (.ref C) (.ref C)) _ _ ⟨(h.push (PySem.W.kdv_tup rest)).push (PySem.HandSPX.excO C h.objs.size), g, d, t, os⟩
  refine wpAny_isSubtype_exc hC₁ ?_
  rw [itself]
  repeat (first | with_reducible refine wpAny_loadPart_at hget ?_ | wp_step)
  show wpAny _ _ (typeLookup (.ref C) _) _ _ _
  refine (hi.keeps k).at ?_
  refine wpAny_holding (wpAny_bind (((hb (.ref (h.objs.size + 1))).keeps k).at ?_))
  refine wpAny_bind (wpAny_call (codeAny_mono hq fun r s' z => ?_))
  cases r with
  | error er => exact z
  | ok fl =>
    cases fl with
    | ret v =>
      obtain ⟨rfl, z⟩ := z
      first
        | exact wpAny_pure (wpAny_pure z)
        | (wp_walk; exact z)
    | _ => exact z.elim
end
/-- what of an __init__ of its own the base's row says -/
structure InitE (B i : String) : Prop where
  kind : builtinKind i = some .slot
  row : Manifest.signature? i = some ⟨.positional, "*", B, .self, [⟨"args", .varPos, false⟩]⟩
  star : (B != "*") = true
  entry : entryFor table i = some Builtin.«BaseException.__init__»
  plain : plainId i = true
section
variable {prog : Program} {w : World} {A : Around} {E : Value → Shared → Prop} {h : Heap} {g : Array GenState} {d : Drawn} {t : Nat} {os : OsState}
variable {nm q : Str} {C N : Addr} {bs bm : List Value} {hdct : Bool} {sn : List Str} {sub : List Value} {ab : Bool} {col : Option Bool} {dd : Option Addr} {k0 k1 k2 k3 k5 : Option Value} {B i newId : String}
/-- the bound __init__ called: the arguments are laid anew -/
theorem call_mwI {u e t0 : Addr} {rest : List Value} {Q : Value → Shared → Prop} (FB : InitE B i)
    (hC : h.get? C = some (excClassObj nm q C N bs bm hdct sn sub ab col dd k0 k1 k2 k3 k5 newId)) (he : h.get? e = some (HandSPX.excO C t0)) (hu : h.get? u = some (PySem.W.kxs_mw i e)) (hrest : rest.length ≤ sizeLine)
    (hq : ∀ h' t1, (∀ b o, b ≠ e → h.get? b = some o → h'.get? b = some o) → h'.get? e = some (HandSPX.excO C t1) → Q .none ⟨h', g, d, t, os⟩) :
    wpAny (model prog w) A (call (.ref u) rest) Q E ⟨h, g, d, t, os⟩ := by
  have star := FB.star
  refine wpAny_call (codeAny_of_tree ?_)
  show wpAny _ A.in1 (callAny (.ref u) ⟨rest, []⟩) _ _ _
  simp only [callAny]
  refine wpAny_bind (wpAny_load hu ?_)
  simp only [PySem.W.kxs_mw, show (Value.type "method-wrapper" == Value.type "method" || Value.type "method-wrapper" == Value.type "builtin_function_or_method" || Value.type "method-wrapper" == Value.type "method-wrapper") = true by decide, if_true]
  refine PySem.W.KFB.if_so (by decide) ?_
  refine wpAny_bind ?_
  simp only [checkBoundCall, FB.kind, FB.row]
  repeat (first | (with_reducible refine wpAny_loadPart_at he ?_) | with_reducible refine wpAny_loadPart_at hC ?_ | wp_step)
  refine wpAny_onRaise ?_
  have fine : ∀ (a b : String) (n : Nat), Bind.check ⟨.positional, "*", B, .self, [⟨"args", .varPos, false⟩]⟩ a b n [] = pure () := fun a b n => check_star_args _ _ _ _ _ _
  refine wpAny_of_eq (fine _ _ _) ?_
  refine wpAny_bind (wpAny_pure (wpAny_pure ?_))
  refine ⟨plainId_quiet FB.plain _, codeAny_builtin FB.entry ?_⟩
  exact PySem.W.exc_init_tree (cls := .ref C) (t0 := t0) (dv := none) (c2 := .none) (c3 := .none) (b4 := .bool false) he hrest fun h' k e1 _ => hq h' _ k e1
end
theorem init_KeyError : InitE "KeyError" "KeyError.__init__" where
  kind := by kernel_rfl
  row := by kernel_rfl
  star := by decide +kernel
  entry := entryFor_alias (id' := "BaseException.__init__") (by rw [fastTable_eq_tree]; kernel_rfl) (by first | rfl | decide +kernel) (by decide +kernel) (by rw [fastTable_eq_tree]; kernel_rfl)
  plain := by decide +kernel
theorem nac_KeyError : PySem.W.KxsFacts "KeyError" "KeyError.__init__" := ⟨by show builtinType _ = _; rw [builtinType_eq_fast]; kernel_rfl, by first | kernel_rfl | rfl⟩
theorem pass_KeyError (self : Value) : refuseLoop self "__setattr__" [.type "KeyError", .type "LookupError", .type "Exception", .type "BaseException", .type "object"] = pure () := by kernel_rfl
/-! ### own exceptions over any built-in one: what is asked of the built-in base -/
/-- B, its __init__, its mro tl, and Bn, the base that gives __new__ (B itself, but for KeyError) -/
structure BaseE (B newId initId : String) (tl : List Value) : Prop where
  new : ∃ Bn initN bmN, ExcBaseFacts Bn newId initN bmN ∧ tl.contains (.type Bn) = true
  noA : tl.contains (.type "AttributeError") = false
  noN : tl.contains (.type "NameError") = false
  I : InitE B initId
  KF : PySem.W.KxsFacts B initId
  pass : ∀ self : Value, refuseLoop self "__setattr__" tl = pure ()
  obj : tl.contains (.type "object") = true
theorem BaseE.of {B newId initId : String} {tl : List Value} (F : ExcBaseFacts B newId initId tl) (KF : PySem.W.KxsFacts B initId) (pass : ∀ self : Value, refuseLoop self "__setattr__" tl = pure ()) (obj : tl.contains (.type "object") = true) : BaseE B newId initId tl :=
  ⟨⟨_, _, _, F, F.hasB⟩, F.noAttr, F.noName, ⟨F.initKind, F.initRow, F.noStar, F.initEntry, F.init.plain⟩, KF, pass, obj⟩
/-- own classes ahead, then the base's mro -/
def ahead (tl : List Value) : List Value → Bool
  | .ref _ :: r => ahead tl r
  | l => l == tl
theorem ahead_or (tl : List Value) : ∀ l, ahead tl l = true → (∃ c r, l = .ref c :: r ∧ ahead tl r = true) ∨ l = tl := by
  intro l h
  cases l with
  | nil => exact .inr (beq_iff_eq.mp h)
  | cons a r =>
    cases a with
    | ref c => exact .inl ⟨c, r, rfl, h⟩
    | _ => exact .inr (beq_iff_eq.mp h)
theorem ahead_pass {tl : List Value} (hp : ∀ self : Value, refuseLoop self "__setattr__" tl = pure ()) (self : Value) : ∀ l, ahead tl l = true → refuseLoop self "__setattr__" l = pure ()
  | [], h => by
    rcases ahead_or tl _ h with ⟨_, _, e, _⟩ | e
    · cases e
    · rw [e]
      exact hp self
  | a :: r, h => by
    rcases ahead_or tl _ h with ⟨c, r', e, h'⟩ | e
    · obtain ⟨rfl, rfl⟩ := List.cons.inj e
      rw [refuseLoop_ref]
      exact ahead_pass hp self _ h'
    · rw [e]
      exact hp self
theorem ahead_has {tl : List Value} (Y : String) : ∀ l, ahead tl l = true → l.contains (.type Y) = tl.contains (.type Y)
  | [], h => by
    rcases ahead_or tl _ h with ⟨_, _, e, _⟩ | e
    · cases e
    · rw [e]
  | a :: r, h => by
    rcases ahead_or tl _ h with ⟨c, r', e, h'⟩ | e
    · obtain ⟨rfl, rfl⟩ := List.cons.inj e
      rw [List.contains_cons, ahead_has Y _ h']
      rfl
    · rw [e]
/-- what the written part says of an own class over such a base -/
structure OexB (K : PySem.W.Frag) (C : Addr) (newId : String) (tl : List Value) : Prop where
  cls : ∃ nm q N bs bm sn sub ab col dd k0 k1 k2 k3 k5, K.lookup C = some (excClassObj nm q C N bs bm true sn sub ab col dd k0 k1 k2 k3 k5 newId) ∧ ahead tl bm = true
  sa : PySem.W.findIn K (.ref C) "__setattr__" = some (some (.builtin "object.__setattr__"))
  exC : PySem.W.subIn K (.ref C) (.type "BaseException") = some true
  tyC : PySem.W.typeIn K (.ref C) = some (.type "type")
  kC : PySem.W.keepIn K (.ref C) = true
section
open Builtin Builtin.ObjectAttr
variable {prog : Program} {w : World} {A : Around} {R : Result → Shared → Prop} {hp : Heap} {g : Array GenState} {d : Drawn} {t : Nat} {os : OsState}
/-- object.__setattr__ on such an exception that has no dict yet -/
theorem sets_new {K : PySem.W.Frag} {tl : List Value} {name : Str} {tk : Tok} {v : Value} {x C : Addr} {fv : Array Value} {cd : ClassData} (hpass : ∀ self : Value, refuseLoop self "__setattr__" tl = pure ()) (hobj : tl.contains (.type "object") = true)
    (X : K.In hp) (hx : hp.get? x = some { cls := .ref C, data := .fields fv }) (hcd : PySem.W.clsIn K C = some cd) (hm : ahead tl cd.mro = true) (hne : cd.mro.isEmpty = false) (hh : cd.hasDict = true) (ha : PySem.W.findIn K (.ref C) name = some none)
    (hq : ∀ h' tk' dx, (∀ b o, b ≠ x → hp.get? b = some o → h'.get? b = some o) → hp.objs.size ≤ dx → dx ≠ x → h'.get? x = some { cls := .ref C, dict := some dx, data := .fields fv } →
      h'.Ns1 dx (fun y => if y = name then some v else none) → R (.ok (.ret .none)) ⟨h', g, d, tk', os⟩) :
    codeAny (model prog w) A (.call (.builtin "object.__setattr__") ⟨[.ref x, .str name tk, v], []⟩) R ⟨hp, g, d, t, os⟩ := by
  have I : PySem.W.InstAt hp x { cls := .ref C, data := .fields fv } C none := ⟨hx, rfl, rfl, trivial⟩
  have SF := PySem.F.store_object
  have hxs : x ≠ hp.objs.size := Nat.ne_of_lt (Heap.lt_size hx)
  have ho : cd.mro.contains (.type "object") = true := (ahead_has "object" _ hm).trans hobj
  have sub : PySem.W.Looks (model prog w) hp (isInstance (.ref x) (.type "object")) true := I.type.andThen (PySem.W.looks_mroIn X (by unfold PySem.W.mroIn; rw [hcd, Option.bind_some, if_neg (by rw [hne]; decide), ho]))
  refine codeAny_call_builtin SF.slot.plain SF.entry (@PySem.W.check_slot (model prog w) _ _ ⟨hp, g, d, t, os⟩ "object.__setattr__" "object" "__setattr__" (.ref x) [.str name tk, v] [] _ SF.kind SF.split sub (SF.args (.ref x) (.str name tk) v) ?_)
  have hmr : PySem.W.Looks (model prog w) hp (mroOf (.ref C)) cd.mro := (PySem.W.looks_clsIn X hcd).andThen .now
  have hcls : PySem.W.Looks (model prog w) hp (classData C) cd := PySem.W.looks_clsIn X hcd
  have L3 : PySem.W.Looks (model prog w) hp (storeTaker? none) none := .now
  rw [PySem.W.osa_eq, refuse_eq]
  refine wpAny_bind (wpAny_bind (I.type.at (wpAny_bind (hmr.at ?_))))
  rw [ahead_pass hpass _ _ hm]
  refine wpAny_pure (wpAny_bind (I.type.at (wpAny_bind ((PySem.W.looks_findIn X ha).at (wpAny_bind (L3.at ?_))))))
  show wpAny _ _ (storeInOwnDict (.ref x) (.ref C) (.str name tk) name v false) _ _ _
  obtain ⟨nm, bs, mro, ns, qn, hd, sn, sb, ab, col, del⟩ := cd
  dsimp only at hh
  subst hh
  unfold storeInOwnDict ownDictForStores
  repeat (first | with_reducible refine PySem.HandSPX.store_in_new ?_ ?_ | with_reducible refine wpAny_loadPart_at hx ?_ | with_reducible refine hcls.at ?_ | wp_step)
  · exact ⟨_, #[], _, (Heap.get?_update_ne _ _ _ _ hxs.symm).trans (Heap.get?_push_at rfl rfl), rfl, fun e he => absurd he (by simp), fun _ => rfl⟩
  · intro h' tk' hn' hs
    have hx₁ : (hp.push { cls := .type "dict", data := .dict #[] }).get? x = some { cls := .ref C, data := .fields fv } := Heap.get?_push_of_some _ hx
    refine hq h' tk' hp.objs.size (fun b o hb ho => ?_) (Nat.le_refl _) hxs.symm ?_ hn'
    · exact (hs.2 b (Nat.ne_of_lt (Heap.lt_size ho))).trans ((Heap.get?_update_ne _ _ _ _ hb).trans (Heap.get?_push_of_some _ ho))
    · exact (hs.2 x hxs).trans (Heap.get?_update_self _ hx₁ rfl)
end
section
variable {X : Cx} {pins : List (Addr × Obj)} {σ : L2.St} {H : Hp} {s : Shared} {a C : Addr} {f : Str} {y : V} {u : Value} {Q : Unit → Shared → Prop} {E : Value → Shared → Prop} {A : Around} {B newId initId : String} {tl : List Value}
/-- self.f = y, the first field -/
theorem field_new (BE : BaseE B newId initId tl) (T : OexB X.K C newId tl) (I : Inv X pins σ H s) (e : H a = some (exo a C none)) (hno : PySem.W.findIn X.K (.ref C) f = some none) (ry : L2.RelV y u)
    (h : ∀ dx s', H dx = none → dx ≠ a → Inv X pins σ (upd (upd H dx (exd dx [(f, y)])) a (exo a C (some dx))) s' → Q () s') : wpAny (model X.prog X.w) A (setAttr (.ref a) f u) Q E s := by
  obtain ⟨nm, q, N, bs, bm, sn, sub, ab, col, dd, k0, k1, k2, k3, k5, hC, hbm⟩ := T.cls
  have hcl : PySem.W.clsIn X.K C = some { name := nm, bases := bs, mro := .ref C :: bm, ns := N, qualname := q, hasDict := true, slotNames := sn, subclasses := sub, abstract := ab, collection := col, hasDel := false } := by unfold PySem.W.clsIn; rw [hC] <;> rfl
  obtain ⟨t1, ho⟩ := exo_at I.hok e
  obtain ⟨hp, g, d, t, os⟩ := s
  refine PySem.W.set_plain I.kIn (ox := { cls := .ref C, dict := none, data := .fields #[.ref t1, .none, .none, .none, .bool false, .none] }) (od := none) ⟨ho, rfl, rfl, trivial⟩ T.sa ?_
  refine sets_new BE.pass BE.obj I.kIn ho hcl (show ahead tl (.ref C :: bm) = true from hbm) rfl rfl hno (fun h' tk' dx k fresh nda hx hn => ?_)
  have hnd : H dx = none := I.hok.fresh fresh
  -- what stood before is neither the dict, nor, where it was free, the exception
  have old : ∀ {b : Addr} {o : Obj}, hp.get? b = some o → b ≠ dx := fun {b o} z => Nat.ne_of_lt (Nat.lt_of_lt_of_le (Heap.lt_size z) fresh)
  have free : ∀ {b : Addr}, H b = none → b ≠ a := fun {b} n z => by rw [z, e] at n; cases n
  have apart : ∀ {b : Addr} {o : HO}, H b = some o → exo a C none ≠ o → (upd (upd H dx (exd dx [(f, y)])) a (exo a C (some dx))) b = some o := fun {b o} z ne => by
    rw [upd_ne (at_ne e z ne), upd_ne (ne_of_none z hnd)]
    exact z
  have U : Un X.fs [] H (upd (upd H dx (exd dx [(f, y)])) a (exo a C (some dx))) hp h' := {
    keep := fun b o z n _ _ => k b o (free n) z
    slot := fun b o z n _ _ => ⟨o.slots, k b o (free n) z⟩
    free := fun b o z n _ => by rw [upd_ne (free n), upd_ne (old z)]; exact n
    there := fun b o z _ => by
      by_cases hb : b = a
      · exact ⟨_, by rw [hb]; exact hx⟩
      · exact ⟨o, k b o hb z⟩
    tups := fun b xs z => apart z exo_tup
    frzs := fun b o v z => apart z exo_frz
    tbls := fun b ps z => ⟨#[], by rw [apart z exo_tbl]; simp⟩ }
  refine h dx _ hnd nda (I.un (t' := tk') U fun b o z => ?_)
  by_cases hb : b = a
  · subst hb
    rw [upd_same] at z
    cases z
    exact exo_ok hx
  rw [upd_ne hb] at z
  by_cases hd : b = dx
  · subst hd
    rw [upd_same] at z
    cases z
    exact exd_ok hn (relO_put (fs := []) ry fun g => True.intro)
  rw [upd_ne hd] at z
  refine (I.hok b o z).stay (fun c v hc y => k c v ?_ y) (fun c hc => apart hc exo_own) fun c xs hc => apart hc exo_tup
  rcases hc with hc | hc
  · rw [hc]
    exact hb
  · exact at_ne e hc exo_own
end
section
variable {CX : CXT} {P : Program} {w : World} {K : PySem.W.Frag} {mg : Str → Option Value} {base : Heap}
theorem fn_supB {B newId initId : String} {tl : List Value} {fi C cc cda : Addr} {name qual arg f m file : Str} {params : Arguments} {scope : Scope} {dV kV doc pm ct oc ccl cl : Value} {an od cdd cld : Option Addr} {osl ccs csl : Array (Option Value)} {cvs : Array Value} {tf : Tok} {ar : Arg}
    {j : Nat} {p0 p1 p2 p3 p4 p5 p6 p7 p8 p9 : Pos}
    (lk : K.lookup fi = some ⟨oc, od, .func (PySem.W.ksFn name qual params [.Expr (.Call (.Attribute (.Call (.Name "super" p0) [] [] p1) "__init__" p2) [.Constant (.str m) j p3] [] p4) p5, .Assign [.Attribute (.Name "self" p6) f p7] (.Name arg p8) p9] scope dV kV doc pm an (.ref cda) ct cc), osl⟩)
    (hcd : PySem.W.codeIn K (.ref cda) qual = true)
    (hcode : K.lookup cda = some ⟨ccl, cdd, .fields cvs, ccs⟩) (hvs : cvs[2]? = some (.str file tf)) (hfile : ((P.main.file : Str) == file) = true)
    (hcell : K.lookup cc = some ⟨cl, cld, .cell (some (.ref C)), csl⟩) (BE : BaseE B newId initId tl) (T : OexB K C newId tl)
    (hm : PySem.W.ks_superIn K C C "__init__" = some (some (.builtin initId))) (hB : PySem.W.subIn K (.ref C) (.type B) = some true) (hsub : PySem.W.mroIn K C (.ref C) = some true)
    (hst : PySem.W.nsIn K cStatics "thirdparty.any" = some none) (hno : PySem.W.findIn K (.ref C) f = some none) (hgs : mg "super" = none) (htop : (P.main.scope.names.lookup ("super" : Str)).isSome = false)
    (hco : scope.isCoroutine = false) (hgen : scope.isGenerator = false) (hk : scope.kind = .function) (hcl : ∀ x ∈ scope.names, x.2 ≠ .cell)
    (hks : scope.names.lookup ("super" : Str) = some .globalImplicit) (hkc : scope.names.lookup ("__class__" : Str) = some .free) (hkS : scope.names.lookup ("self" : Str) = some .local) (hka : scope.names.lookup arg = some .local)
    (hp : (params.posonlyargs ++ params.args).head? = some ar) (har : ar.arg = "self") (hne : arg ≠ "self") (hdb : (arg == ("__debug__" : Str)) = false)
    (hboot : bootBuiltins "super" = some (.type "super"))
    (hi : ∀ L, interactive (PySem.W.ksEnv qual scope L fi (.ref cda) cc) = false)
    (hev : ∀ L, ∃ pl : Sem Bool, eval (.Call (.Attribute (.Call (.Name "super" p0) [] [] p1) "__init__" p2) [.Constant (.str m) j p3] [] p4) (PySem.W.ksEnv qual scope L fi (.ref cda) cc) = (do
      let ov ← attributeBase (.Call (.Name "super" p0) [] [] p1) "__init__" (PySem.W.ksEnv qual scope L fi (.ref cda) cc) (eval (.Call (.Name "super" p0) [] [] p1) (PySem.W.ksEnv qual scope L fi (.ref cda) cc))
      standAt p2.atName
      let (f, first) ← holding [ov] (getMethod ov "__init__" pl)
      callWith p4 f first (backTo p4 (starEach [.Constant (.str m) j p3] (PySem.W.ksEnv qual scope L fi (.ref cda) cc))) [])) : FnOk P w K mg base CX 1 fi (PySem.W.ksFn name qual params [.Expr (.Call (.Attribute (.Call (.Name "super" p0) [] [] p1) "__init__" p2) [.Constant (.str m) j p3] [] p4) p5, .Assign [.Attribute (.Name "self" p6) f p7] (.Name arg p8) p9] scope dV kV doc pm an (.ref cda) ct cc) ["self", arg] (spSup C f) := by
  refine ⟨fun vs H Q E h => by obtain ⟨a, v, rfl, _⟩ := h; rfl, fun A outer s H args us vs Q E hr e0 hb r hsp => ?_⟩
  obtain ⟨a, v, rfl, ea, q⟩ := hsp
  obtain ⟨u0, u, rfl, r0, ru⟩ := r.two
  obtain rfl : u0 = Value.ref a := r0
  have KX : K.In s.heap := e0.mod.kin.keeps fun b o e => (e0.bs b o e).1
  have lim : s.heap.NoLimit := e0.mod.nolimit.keeps fun b o e => (e0.bs b o e).1
  refine PySem.ks_codeAny_call_defAt (binds := [("self", .ref a), (arg, u)]) hr.depth (KX _ _ lk) rfl lim (PySem.W.codeRec_of KX hcd) rfl hb hcl (fun y hy => ?_) (fun h₁ hns kp => ?_) hco hgen hk
  · rcases List.mem_cons.mp hy with rfl | hy
    · exact hkS
    · rw [List.mem_singleton.mp hy]
      exact hka
  have KX1 : K.In h₁ := KX.keeps kp
  let sc' : Scope := { scope with names := [("self", .local), (arg, .local)] }
  have lS : ∀ y : Str, sc'.names.lookup y = if y = "self" then some .local else if y = arg then some .local else none := fun y => by
    show List.lookup y [((Str.ofString "self"), NameKind.local), (arg, NameKind.local)] = _
    by_cases h1 : y = "self"
    · subst h1
      simp [List.lookup]
    · by_cases h2 : y = arg
      · subst h2
        simp [List.lookup, hne, h1, beq_eq_false_iff_ne.mpr h1]
      · simp [List.lookup, h1, h2, beq_eq_false_iff_ne.mpr h1, beq_eq_false_iff_ne.mpr h2]
  have S' : FnScope ["self", arg] ["self", arg] sc' := ⟨hk, hco, hgen, by
      refine List.nodup_cons.mpr ⟨fun z => hne (List.mem_singleton.mp z).symm, List.nodup_cons.mpr ⟨by simp, List.nodup_nil⟩⟩, rfl, fun y hy => .inl (by
      rw [lS]
      rcases List.mem_cons.mp hy with rfl | hy
      · rw [if_pos rfl]
      · rw [List.mem_singleton.mp hy, if_neg hne, if_pos rfl]), fun y hy => by
      rcases List.mem_cons.mp hy with rfl | hy
      · decide
      · rw [List.mem_singleton.mp hy]
        show NameKind.local ≠ NameKind.free
        decide⟩
  have kS : (envOfC qual sc' s.heap.objs.size fi (.ref cda)).kindOf "self" = some .local := (lS _).trans (if_pos rfl)
  have kA : (envOfC qual sc' s.heap.objs.size fi (.ref cda)).kindOf arg = some .local := (lS _).trans (by rw [if_neg hne, if_pos rfl])
  have mE : (fun y => ([("self", .ref a), (arg, u)] : List (Str × Value)).reverse.lookup y) = bindL (envOfC qual sc' s.heap.objs.size fi (.ref cda)).kindOf ((["self", arg] : List Str).zip [.ref a, u]) fun _ => none := by
    funext y
    show List.lookup y [(arg, u), (Str.ofString "self", Value.ref a)] = bindL _ [(Str.ofString "self", Value.ref a), (arg, u)] (fun _ => none) y
    unfold bindL
    rw [kS, if_pos rfl]
    unfold bindL
    rw [kA, if_pos rfl]
    unfold bindL
    by_cases h2 : y = arg
    · subst h2
      simp [List.lookup]
    · by_cases h1 : y = "self"
      · subst h1
        simp [List.lookup, h2, beq_eq_false_iff_ne.mpr h2]
      · simp [List.lookup, h1, h2, beq_eq_false_iff_ne.mpr h1, beq_eq_false_iff_ne.mpr h2]
  have x : InCallC s s.heap.objs.size (bindL (envOfC qual sc' s.heap.objs.size fi (.ref cda)).kindOf ((["self", arg] : List Str).zip [.ref a, u]) fun _ => none) (cellsFrom (s.heap.objs.size + 1) sc'.names []) (bindC (envOfC qual sc' s.heap.objs.size fi (.ref cda)).kindOf ((["self", arg] : List Str).zip [.ref a, u]) fun _ => none) { s with heap := h₁, toks := s.toks + 2 } :=
    ⟨⟨⟨h₁, _, rfl⟩, by rw [← mE]; exact hns, kp, Nat.le_refl _⟩, fun n c z => (nomatch z), .nil, fun n c z => (nomatch z)⟩
  have I0 : Inv (cxOf CX P w K mg base ["self", arg] qual sc' fi (.ref cda) A outer s H E) [] (start ["self", arg] [.ref a, v]) H { s with heap := h₁, toks := s.toks + 2 } := inv_start S' hr.hd e0 rfl r x
  obtain ⟨nm, qn, NC, bs, bm, sn, sub, ab, col, dd, k0, k1, k2, k3, k5, hC, hbm⟩ := T.cls
  have hcl1 : PySem.W.clsIn K C = some { name := nm, bases := bs, mro := .ref C :: bm, ns := NC, qualname := qn, hasDict := true, slotNames := sn, subclasses := sub, abstract := ab, collection := col, hasDel := false } := by
    unfold PySem.W.clsIn
    rw [hC] <;> rfl
  obtain ⟨t1, he1⟩ := exo_at I0.hok ea
  have hC1 := KX1 _ _ hC
  obtain ⟨mb, hb1, hb2⟩ := e0.mod.blt
  have bk : ∀ b o, base.get? b = some o → h₁.get? b = some o := fun b o e => kp b o (e0.bs b o e).1
  have aC : a ≠ C := fun z => by
    rw [z, hC1] at he1
    cases he1
  have nsS : (fun y => ([("self", .ref a), (arg, u)] : List (Str × Value)).reverse.lookup y) "self" = some (.ref a) := by
    show List.lookup (Str.ofString "self") [(arg, u), (Str.ofString "self", Value.ref a)] = _
    simp [List.lookup, beq_eq_false_iff_ne.mpr (Ne.symm hne)]
  have nsA : (fun y => ([("self", .ref a), (arg, u)] : List (Str × Value)).reverse.lookup y) arg = some u := by
    show List.lookup arg [(arg, u), (Str.ofString "self", Value.ref a)] = _
    simp [List.lookup]
  obtain ⟨hp0, gn, dr, tk, os⟩ := s
  obtain ⟨pl, hev⟩ := hev hp0.objs.size
  refine PySem.ks_wpAt_execs_cons (PySem.ks_wpAt_Expr_any (PySem.ks_wpAt_MethodCall (pl := pl) ?_ hev) (hi _))
  refine PySem.ks_wpAt_super_base (env := PySem.W.ksEnv qual scope hp0.objs.size fi (.ref cda) cc) hks hkc rfl rfl (KX1 _ _ lk) rfl hp rfl (KX1 _ _ hcode) rfl hvs hfile htop ?_
  refine PySem.W.ks_loadName_global hk hks (Calls.loadGlobal_builtin (env := PySem.W.ksEnv qual scope hp0.objs.size fi (.ref cda) cc) (e0.mod.glob.keeps bk) hgs (hb1.keeps bk) ((hb2 _ (by decide)).trans hboot) ⟨rfl, ?_⟩)
  refine wpAny_loadName_free hk hkc rfl ⟨_, KX1 _ _ hcell, rfl⟩ ?_
  rw [har]
  refine wpAny_loadName_local hk hkS hns nsS ?_
  refine PySem.ks_wpAny_isType_cls hC1 rfl ⟨rfl, ?_⟩
  refine PySem.ks_wpAny_call_super hC1 rfl he1 rfl (fun c e => by cases e) (PySem.W.looks_mroIn KX1 hsub) (fun h2 e2 k2 => ?_)
  have KX2 : K.In h2 := KX1.keeps k2
  have I2 : PySem.W.InstAt h2 a ({ cls := .ref C, data := .fields #[.ref t1, .none, .none, .none, .bool false, .none] } : Obj) C none := ⟨k2 _ _ he1, rfl, rfl, trivial⟩
  have hm' := hm
  unfold PySem.W.ks_superIn at hm'
  rw [hcl1] at hm'
  refine PySem.W.kxs_getMethod BE.KF e2 (PySem.W.looks_opaque KX2 hst) (l₀ := .ref C :: bm) (fun A Q E s k q => wpAny_bind ((PySem.W.looks_clsIn KX2 hcl1) A _ E s k (wpAny_pure q))) rfl KX2 hm' (I2.type.andThen (PySem.W.looks_subIn KX2 hB)) aC (by decide) ?_
  have k3 : ∀ b o, h2.get? b = some o → (h2.push (PySem.W.kxs_mw initId a)).get? b = some o := fun b o e => Heap.get?_push_of_some _ e
  have hu3 : (h2.push (PySem.W.kxs_mw initId a)).get? h2.objs.size = some (PySem.W.kxs_mw initId a) := Heap.get?_push_at rfl rfl
  have k13 : ∀ b o, h₁.get? b = some o → (h2.push (PySem.W.kxs_mw initId a)).get? b = some o := fun b o e => k3 b o (k2 b o e)
  generalize h2.push (PySem.W.kxs_mw initId a) = h3 at k3 hu3 k13 ⊢
  refine PySem.W.kxs_callWith (i := initId) (x := a) rfl ?_
  refine Calls.evalArgs_plain ?_
  refine Calls.spliced_cons (Calls.Constant_str (x := m) (k := j) (pos := p3) (env := PySem.W.ksEnv qual scope hp0.objs.size fi (.ref cda) cc) ?_)
  refine Calls.spliced_nil ⟨hu3, ?_⟩
  refine call_mwI BE.I (k13 _ _ hC1) (k13 _ _ he1) hu3 (by show 1 ≤ sizeLine; rw [sizeLine_eq]; omega) (fun h5 t5 k5 e5 => ?_)
  have k15 : ∀ b o, b ≠ a → h₁.get? b = some o → h5.get? b = some o := fun b o n e => k5 b o n (k13 b o e)
  have I5 := I0.write (t' := tk + 2 + 1 + 1) (x := a) (e := a) (o := exo a C none) (by rw [ea]; exact True.intro) (.inl rfl) k15 ⟨_, e5⟩ (exo_ok e5)
  have eu : upd H a (exo a C none) = H := by
    funext b
    by_cases hb : b = a
    · rw [hb, upd_same, ea]
    · rw [upd_ne hb]
  rw [eu] at I5
  have ns5 : h5.Ns hp0.objs.size (fun y => ([("self", .ref a), (arg, u)] : List (Str × Value)).reverse.lookup y) := hns.at fun o e => k15 _ o (fun z => by
    have y := e0.hok.fresh (Nat.le_refl _) (a := hp0.objs.size)
    rw [z, ea] at y
    cases y) e
  refine wpAt_of_wpAny (wpAny_execs_cons (plainObj_wpAny_Assign_Attribute ?_))
  refine wpAny_Name (wpAny_loadName_local (env := PySem.W.ksEnv qual scope hp0.objs.size fi (.ref cda) cc) hk hka ns5 nsA ?_) hdb
  refine wpAny_Name (wpAny_loadName_local (env := PySem.W.ksEnv qual scope hp0.objs.size fi (.ref cda) cc) hk hkS ns5 nsS ?_) (by decide)
  refine field_new BE T I5 ea hno ru (fun dx s' n ne J => ?_)
  exact wpAny_execs_nil ⟨.non, _, J.os, J.bare, J.base, J.hok, rfl, q dx n ne⟩
end
section
variable {X : Cx} {e : Expr} {es : List Expr} {ta : TA} {p pos : Pos} {B newId initId : String} {tl : List Value}
/-- C(e, ..), C's own __init__ keeping sp: the exception is made -/
theorem pmk_oexB {CX : CXT} {x : Str} {C fI : Addr} {k : Nat} {fd : FuncData} {ps : List Str} {sp : Sp} {ds : List Value} {dvs : List V} (BE : BaseE B newId initId tl) (T : OexB X.K C newId tl) (iC : PySem.W.findIn X.K (.ref C) "__init__" = some (some (.ref fI)))
    (tI : PySem.W.typeIn X.K (.ref fI) = some (.type "function")) (G : FnOk X.prog X.w X.K X.mg X.base CX k fI fd ps sp) (hr : Room (k + 1) X.A) (hb : L2.Binds X.K fd ps ds) (hd : Vals dvs ds) (hx : Passes CX X (fun _ _ _ => False)) (hg : Gl X x) (hm : X.mg x = some (.ref C)) (ha : PA X (e :: es) ta)
    (hdb : (x == ("__debug__" : Str)) = false := by decide) (he : starEach (e :: es) X.env = (false, eval e X.env) :: starEach es X.env := by rfl) (hpl : (backTo pos (starEach es X.env)).any (·.1) = false := by rfl) :
    PMk X (.Call (.Name x p) (e :: es) [] pos) (tMkO C sp dvs ta) := by
  intro pins s σ H Q I h
  obtain ⟨nm, q, N, bs, bm, sn, sub, ab, col, dd, k0, k1, k2, k3, k5, hC, hbm⟩ := T.cls
  refine wpAny_Call_Name_kw (ld_glob I hg hm ?_ hdb)
  refine PySem.W.callWith_K (h₀ := X.base) I.ok.mod.kin T.kC (thn (ha.run pos pins s σ H _ I h) fun us s1 ⟨vs, H1, I1, rv, hz, wish⟩ => ⟨I1.kIn, ?_⟩) he hpl
  show wpAny _ _ (call (.ref C) us) _ _ _
  obtain ⟨hp, g, dr, tk, os⟩ := s1
  -- the new exception stands behind the tuple of its arguments
  have above : hp.objs.size ≤ hp.objs.size + 1 := Nat.le_succ _
  have run := wish (hp.objs.size + 1) (I1.hok.fresh above)
  have kept : ∀ b o, hp.get? b = some o → ((hp.push (PySem.W.kdv_tup us)).push (PySem.HandSPX.excO C hp.objs.size)).get? b = some o := fun b o z => Heap.get?_push_of_some _ (Heap.get?_push_of_some _ z)
  have there : ((hp.push (PySem.W.kdv_tup us)).push (PySem.HandSPX.excO C hp.objs.size)).get? (hp.objs.size + 1) = some (PySem.HandSPX.excO C hp.objs.size) := by heap_get
  have I2 := I1.laid (t' := tk) (a := hp.objs.size + 1) (o := exo (hp.objs.size + 1) C none) kept above (exo_ok there)
  have r2 : Vals (V.ref (hp.objs.size + 1) :: (vs ++ dvs)) (Value.ref (hp.objs.size + 1) :: (us ++ ds)) := .cons rfl (rv.append hd)
  have len : (Value.ref (hp.objs.size + 1) :: us ++ ds).length = ps.length := by
    have z := r2.length
    rw [G.len _ _ _ _ run] at z
    exact z.symm
  have few : us.length ≤ sizeLine := by
    rw [← Paired.length rv, sizeLine_eq]
    omega
  obtain ⟨Bn, initN, bmN, NF, hB⟩ := BE.new
  have U : Under Bn C bm := ⟨by rw [List.contains_cons, ahead_has Bn bm hbm, hB, Bool.or_true], by rw [List.contains_cons, ahead_has _ bm hbm, BE.noA]; rfl, by rw [List.contains_cons, ahead_has _ bm hbm, BE.noN]; rfl⟩
  refine wpAny_call (called_under NF U (I1.kIn _ _ hC) (PySem.W.looks_findIn I1.kIn iC) (fun self => PySem.W.bind_fn I1.kIn self tI) few
    (codeAny_mono (G.run _ X.stack _ _ ⟨Value.ref (hp.objs.size + 1) :: us, []⟩ (Value.ref (hp.objs.size + 1) :: (us ++ ds)) _ _ (fun _ _ _ => False) (hr.make C us []) (I2.env0.make C us []) (hb _ (Value.ref (hp.objs.size + 1) :: us) I2.kIn len) r2 run) fun r s' back => ?_))
  cases r with
  | error er => exact hx pins σ _ _ er s' I2 back
  | ok fl =>
    cases fl with
    | ret u =>
      obtain ⟨v, H2, os2, bare2, un2, hok2, ru, ev, d, fs, ea, ed, hd1, q2⟩ := back
      subst ev
      obtain ⟨h2, g2, d2, t2, os'⟩ := s'
      exact ⟨ru, mk_end (raises_own T.exC T.tyC) I1 above kept un2 hok2 os2 bare2 ea ed hd1 q2⟩
    | next => exact False.elim back
    | brk => exact False.elim back
    | cont => exact False.elim back
end
/-! ### the built-in bases -/
theorem base_ValueError : BaseE "ValueError" "ValueError.__new__" "ValueError.__init__" [.type "ValueError", .type "Exception", .type "BaseException", .type "object"] := .of PySem.F.excBase_ValueError PySem.W.kxs_ValueError PySem.F.store_ValueError.passes (by decide +kernel)
theorem base_LookupError : BaseE "LookupError" "LookupError.__new__" "LookupError.__init__" [.type "LookupError", .type "Exception", .type "BaseException", .type "object"] := .of PySem.F.excBase_LookupError PySem.W.kxs_LookupError PySem.F.store_LookupError.passes (by decide +kernel)
theorem base_IndexError : BaseE "IndexError" "IndexError.__new__" "IndexError.__init__" [.type "IndexError", .type "LookupError", .type "Exception", .type "BaseException", .type "object"] := .of PySem.F.excBase_IndexError PySem.W.kxs_IndexError PySem.F.store_IndexError.passes (by decide +kernel)
theorem base_OverflowError : BaseE "OverflowError" "OverflowError.__new__" "OverflowError.__init__" [.type "OverflowError", .type "ArithmeticError", .type "Exception", .type "BaseException", .type "object"] := .of PySem.F.excBase_OverflowError PySem.W.kxs_OverflowError PySem.F.store_OverflowError.passes (by decide +kernel)
theorem base_ArithmeticError : BaseE "ArithmeticError" "ArithmeticError.__new__" "ArithmeticError.__init__" [.type "ArithmeticError", .type "Exception", .type "BaseException", .type "object"] := .of PySem.F.excBase_ArithmeticError PySem.W.kxs_ArithmeticError PySem.F.store_ArithmeticError.passes (by decide +kernel)
theorem base_RuntimeError : BaseE "RuntimeError" "RuntimeError.__new__" "RuntimeError.__init__" [.type "RuntimeError", .type "Exception", .type "BaseException", .type "object"] := .of PySem.F.excBase_RuntimeError PySem.W.kxs_RuntimeError PySem.F.store_RuntimeError.passes (by decide +kernel)
theorem base_KeyError : BaseE "KeyError" "LookupError.__new__" "KeyError.__init__" [.type "KeyError", .type "LookupError", .type "Exception", .type "BaseException", .type "object"] :=
  ⟨⟨_, _, _, PySem.F.excBase_LookupError, by decide +kernel⟩, by decide +kernel, by decide +kernel, init_KeyError, nac_KeyError, pass_KeyError, by decide +kernel⟩
/-! ### exceptions as values: made, never raised -/
/-- at e: an exception of the class at C without attributes, its arguments at t -/
def exm (e C t : Addr) : HO := .ext fun h => h.get? e = some (PySem.HandSPX.excO C t)
theorem exm_ok {P : Program} {w : World} {H : Hp} {h : Heap} {e C t : Addr} (g : h.get? e = some (PySem.HandSPX.excO C t)) : ObjOk P w H h e (exm e C t) := ⟨g, ⟨_, g⟩, fun _ _ z k => k _ z⟩
theorem exm_at {P : Program} {w : World} {H : Hp} {h : Heap} {e C t : Addr} (ok : HOk P w H h) (g : H e = some (exm e C t)) : h.get? e = some (PySem.HandSPX.excO C t) := by
  have x : ObjOk P w H h e (.ext fun h => h.get? e = some (PySem.HandSPX.excO C t)) := ok e _ g
  exact x.1
/-- two new objects, new by the heap's own look -/
theorem un_two {fs ex : List Addr} {H : Hp} {h h' : Heap} {a b : Addr} {o u : HO} (k : ∀ c v, h.get? c = some v → h'.get? c = some v) (ha : h.get? a = none) (hb : h.get? b = none) (na : H a = none) (nb : H b = none) : Un fs ex H (upd (upd H b u) a o) h h' where
  keep := fun c v g _ _ _ => k c v g
  slot := fun c v g _ _ _ => ⟨v.slots, k c v g⟩
  free := fun c v g n _ => by
    rw [upd_ne (fun z => by rw [z, ha] at g; cases g), upd_ne (fun z => by rw [z, hb] at g; cases g)]
    exact n
  there := fun c v g _ => ⟨v, k c v g⟩
  tups := fun c xs g => by
    rw [upd_ne (ne_of_none g na), upd_ne (ne_of_none g nb)]
    exact g
  frzs := fun c v xs g => by
    rw [upd_ne (ne_of_none g na), upd_ne (ne_of_none g nb)]
    exact g
  tbls := fun c ps g => ⟨#[], by rw [upd_ne (ne_of_none g na), upd_ne (ne_of_none g nb), g]; simp⟩
theorem hok_two {P : Program} {w : World} {H : Hp} {h h' : Heap} {a b : Addr} {o u : HO} (x : HOk P w H h) (k : ∀ c v, h.get? c = some v → h'.get? c = some v) (na : H a = none) (nb : H b = none) (ab : a ≠ b)
    (ma : ObjOk P w (upd (upd H b u) a o) h' a o) (mb : ObjOk P w (upd (upd H b u) a o) h' b u) : HOk P w (upd (upd H b u) a o) h' := fun c v e => by
  by_cases ca : c = a
  · subst ca
    rw [upd_same] at e
    cases e
    exact ma
  · rw [upd_ne ca] at e
    by_cases cb : c = b
    · subst cb
      rw [upd_same] at e
      cases e
      exact mb
    · rw [upd_ne cb] at e
      refine (x c v e).stay (fun d v _ g => k d v g) (fun d g => ?_) fun d xs g => ?_
      · rw [upd_ne (ne_of_none g na), upd_ne (ne_of_none g nb)]
        exact g
      · rw [upd_ne (ne_of_none g na), upd_ne (ne_of_none g nb)]
        exact g
section
variable {X : Cx}
/-- C(e), an own class without own __init__: its argument a text -/
def tExm (C : Addr) (te : TE) : TE := fun σ H Q => te σ H fun y H1 => ∃ z, y = .str z ∧ ∀ a t, H1 a = none → H1 t = none → a ≠ t → Q (.ref a) (upd (upd H1 t (.tup [.str z])) a (exm a C t))
theorem pe_exm {C : Addr} {bmB : List Value} {B newId initId : String} {x : Str} {e : Expr} {te : TE} {p pos : Pos} (F : ExcBaseFacts B newId initId bmB) (q : PySem.W.excIn X.K C bmB newId = true) (at_ : X.mg x = some (.ref C)) (keep : PySem.W.keepIn X.K (.ref C) = true) (glob : Gl X x)
    (he : PE X e te) (hs : starEach [e] X.env = (false, eval e X.env) :: starEach [] X.env := by rfl) (nodbg : (x == ("__debug__" : Str)) = false := by decide) : PE X (.Call (.Name x p) [e] [] pos) (tExm C te) := by
  refine ⟨fun pins s σ H Q I h => wpAny_Call_Name_kw (ld_glob I glob at_ ?_ nodbg)⟩
  refine PySem.W.callWith_K (h₀ := X.base) I.ok.mod.kin keep ?_ hs (by rfl)
  rw [hs]
  show wpAny _ _ (spliced ((false, eval e X.env) :: backTo pos (starEach [] X.env))) _ _ s
  refine Calls.spliced_cons (thn (he.run pins s σ H _ I h) fun u s1 ⟨v, H1, I1, r1, q1⟩ => ?_)
  refine Calls.spliced_nil ⟨I1.kIn, ?_⟩
  show wpAny _ _ (call (.ref C) [u]) _ _ _
  obtain ⟨z, rfl, q2⟩ := q1
  obtain ⟨tk, rfl⟩ := r1
  obtain ⟨bm, N, nm, qn, bs, hdct, sn, sub, ab, col, dd, k0, k1, k2, k3, k5, mN, hC, hN, hni, T⟩ := exc_obj I1.kIn q
  refine wpAny_call_exc_subT F T hC hN hni (fun h' a hm => ?_) (by show 1 ≤ sizeLine; rw [sizeLine_eq]; omega)
  obtain ⟨t, ht, nt, tt⟩ := hm.there
  have na : H1 a = none := I1.hok.gone hm.new
  have nt' : H1 t = none := I1.hok.gone nt
  have ab : a ≠ t := fun z => by
    rw [z, tt] at ht
    cases ht
  refine ⟨.ref a, _, I1.un (un_two hm.keeps hm.new nt na nt') (hok_two I1.hok hm.keeps na nt' ab (exm_ok ht) ?_), rfl, q2 a t na nt' ab⟩
  exact ⟨by rw [sizeLine_eq]; show 1 ≤ _; decide, [_], .cons ⟨tk, rfl⟩ .nil, _, tt, rfl, _, rfl⟩
/-- C(e), an own class with its own __init__, as a value -/
def tExv (C : Addr) (sp : Sp) (ta : TA) : TE := fun σ H Q => ta σ H fun vs H1 => vs.length ≤ 1000 ∧ ∀ a, H1 a = none → sp (.ref a :: vs) (upd H1 a (exo a C none)) (fun v H2 => v = .non ∧ Q (.ref a) H2) fun _ _ _ => False
variable {CX : CXT} {x : Str} {C fI : Addr} {k : Nat} {fd : FuncData} {ps : List Str} {sp : Sp} {B newId initId : String} {tl : List Value} {e : Expr} {es : List Expr} {ta : TA} {p pos : Pos}
theorem pe_exv (BE : BaseE B newId initId tl) (T : OexB X.K C newId tl) (iC : PySem.W.findIn X.K (.ref C) "__init__" = some (some (.ref fI)))
    (tI : PySem.W.typeIn X.K (.ref fI) = some (.type "function")) (G : FnOk X.prog X.w X.K X.mg X.base CX k fI fd ps sp) (room : Room (k + 1) X.A) (binds : L2.Binds X.K fd ps []) (pass : Passes CX X (fun _ _ _ => False)) (glob : Gl X x) (at_ : X.mg x = some (.ref C)) (ha : PA X (e :: es) ta)
    (nodbg : (x == ("__debug__" : Str)) = false := by decide) (he : starEach (e :: es) X.env = (false, eval e X.env) :: starEach es X.env := by rfl) (hpl : (backTo pos (starEach es X.env)).any (·.1) = false := by rfl) :
    PE X (.Call (.Name x p) (e :: es) [] pos) (tExv C sp ta) := by
  refine ⟨fun pins s σ H Q I h => ?_⟩
  obtain ⟨nm, q, N, bs, bm, sn, sub, ab, col, dd, k0, k1, k2, k3, k5, hC, hbm⟩ := T.cls
  refine wpAny_Call_Name_kw (ld_glob I glob at_ ?_ nodbg)
  refine PySem.W.callWith_K (h₀ := X.base) I.ok.mod.kin T.kC (thn (ha.run pos pins s σ H _ I h) fun us s1 ⟨vs, H1, I1, rv, hz, wish⟩ => ⟨I1.kIn, ?_⟩) he hpl
  show wpAny _ _ (call (.ref C) us) _ _ _
  obtain ⟨hp, g, dr, tk, os⟩ := s1
  have above : hp.objs.size ≤ hp.objs.size + 1 := Nat.le_succ _
  have run := wish (hp.objs.size + 1) (I1.hok.fresh above)
  have kept : ∀ b o, hp.get? b = some o → ((hp.push (PySem.W.kdv_tup us)).push (PySem.HandSPX.excO C hp.objs.size)).get? b = some o := fun b o z => Heap.get?_push_of_some _ (Heap.get?_push_of_some _ z)
  have there : ((hp.push (PySem.W.kdv_tup us)).push (PySem.HandSPX.excO C hp.objs.size)).get? (hp.objs.size + 1) = some (PySem.HandSPX.excO C hp.objs.size) := by heap_get
  have I2 := I1.laid (t' := tk) (a := hp.objs.size + 1) (o := exo (hp.objs.size + 1) C none) kept above (exo_ok there)
  have r2 : Vals (V.ref (hp.objs.size + 1) :: vs) (Value.ref (hp.objs.size + 1) :: us) := .cons rfl rv
  have len : (Value.ref (hp.objs.size + 1) :: us ++ []).length = ps.length := by
    have z := r2.length
    rw [G.len _ _ _ _ run] at z
    rw [List.append_nil]
    exact z.symm
  have few : us.length ≤ sizeLine := by
    rw [← Paired.length rv, sizeLine_eq]
    omega
  obtain ⟨Bn, initN, bmN, NF, hB⟩ := BE.new
  have U : Under Bn C bm := ⟨by rw [List.contains_cons, ahead_has Bn bm hbm, hB, Bool.or_true], by rw [List.contains_cons, ahead_has _ bm hbm, BE.noA]; rfl, by rw [List.contains_cons, ahead_has _ bm hbm, BE.noN]; rfl⟩
  have bd := binds _ (Value.ref (hp.objs.size + 1) :: us) I2.kIn len
  rw [List.append_nil] at bd
  refine wpAny_call (called_under NF U (I1.kIn _ _ hC) (PySem.W.looks_findIn I1.kIn iC) (fun self => PySem.W.bind_fn I1.kIn self tI) few
    (codeAny_mono (G.run _ X.stack _ _ ⟨Value.ref (hp.objs.size + 1) :: us, []⟩ (Value.ref (hp.objs.size + 1) :: us) _ _ (fun _ _ _ => False) (room.make C us []) (I2.env0.make C us []) bd r2 run) fun r s' back => ?_))
  cases r with
  | error er => exact pass pins σ _ _ er s' I2 back
  | ok fl =>
    cases fl with
    | ret u =>
      obtain ⟨v, H2, I3, ru, ev, q2⟩ := I2.after back
      obtain ⟨ev, q2⟩ := (show v = .non ∧ _ from ⟨ev, q2⟩)
      subst ev
      exact ⟨ru, ⟨V.ref (hp.objs.size + 1), H2, I3, rfl, q2⟩⟩
    | next => exact False.elim back
    | brk => exact False.elim back
    | cont => exact False.elim back
end
/-! ### what is asked of them -/
/-- a tracked exception of the class at C: without attributes, or with a dict -/
def ExAt (H : Hp) (a C : Addr) : Prop := (∃ t, H a = some (exm a C t)) ∨ ∃ dx fs, H a = some (exo a C (some dx)) ∧ H dx = some (exd dx fs)
theorem exAt_inst {X : Cx} {pins : List (Addr × Obj)} {σ : L2.St} {H : Hp} {s : Shared} {a C : Addr} (I : Inv X pins σ H s) (h : ExAt H a C) : ∃ ox od, PySem.W.InstAt s.heap a ox C od := by
  rcases h with ⟨t, g⟩ | ⟨dx, fs, g, gd⟩
  · exact ⟨_, none, exm_at I.hok g, rfl, rfl, trivial⟩
  · obtain ⟨t1, g1⟩ := exo_at I.hok g
    obtain ⟨mA, n, _⟩ := exd_at I.hok gd
    obtain ⟨od, ho, _⟩ := lookIn_ns n
    exact ⟨_, some od, g1, rfl, rfl, ho⟩
def rIsX (K : PySem.W.Frag) : List V → Hp → VK → Prop := fun xs H Q => ∃ (a C : Addr) (c : V) (u : Value) (b : Bool), xs = [.ref a, c] ∧ ClsV c u ∧ ExAt H a C ∧ L2.ExcC K C ∧ PySem.W.kitOne K (.ref C) u = some b ∧ Q (.bl b) H
section
variable {X : Cx} {K : PySem.W.Frag}
theorem call_isX : CallR X (.builtin "isinstance") (rIsX X.K) := by
  intro pins s σ H xs us Q I r h
  obtain ⟨a, C, c, u, b, rfl, kc, ex, E, e, q⟩ := h
  obtain ⟨u1, u2, rfl, r1, r2⟩ := vals2 r
  have e2 := kc.eq r2
  subst e2
  cases (show u1 = Value.ref a from r1)
  obtain ⟨ox, od, J⟩ := exAt_inst I ex
  have cl : (PySem.W.clsIn X.K C).isSome = true := by
    obtain ⟨cd, hc, _⟩ := PySem.W.any_some E.hd
    rw [hc]
    rfl
  exact PySem.W.kia_one (PySem.W.kitx_exc cl E.hg E.hk E.hs E.ha E.hn E.ht E.hm) I.kIn J e (fun z => nomatch z) fun tk => ⟨.bl b, H, I.tok tk, rfl, q⟩
theorem k_isX (hK : X.K = K := by rfl) : CallR X (.builtin "isinstance") (rIsX K) := by subst hK; exact call_isX
/-- str(e) of an exception that was made with one text -/
def rStrX (K : PySem.W.Frag) : List V → Hp → VK → Prop := fun xs H Q => ∃ (a C t : Addr) (z : Str), xs = [.ref a] ∧ H a = some (exm a C t) ∧ H t = some (.tup [.str z]) ∧ PySem.W.findIn K (.ref C) "__str__" = some (some (.builtin "BaseException.__str__")) ∧ PySem.W.subIn K (.ref C) (.type "BaseException") = some true ∧ Q (.str z) H
theorem call_strX (hu : X.A.units + 64 < cLine) : CallR X (.type "str") (rStrX X.K) := by
  intro pins s σ H xs us Q I r h
  obtain ⟨a, C, t, z, rfl, g, gt, f1, f2, q⟩ := h
  obtain ⟨u, rfl, rx⟩ := vals1 r
  cases (show u = Value.ref a from rx)
  obtain ⟨_, its, rv, o, h1, h2, n, h3⟩ := (show ObjOk X.prog X.w H s.heap t (.tup [.str z]) from I.hok t _ gt)
  obtain ⟨w, rfl, tk, rfl⟩ := vals1 rv
  have E : PySem.ExcC X.K C a t s.heap := ⟨I.kIn, _, _, exm_at I.hok g, rfl, rfl, rfl⟩
  exact PySem.P.str_of_C_one (by omega) E ⟨o, n, h1, h2, h3⟩ f1 f2 ⟨.str z, H, I, ⟨_, rfl⟩, q⟩
theorem k_strX (hu : X.A.units + 64 < cLine) (hK : X.K = K := by rfl) : CallR X (.type "str") (rStrX K) := by subst hK; exact call_strX hu
/-- e.f, e an exception that is held as a value -/
def tXv (K : PySem.W.Frag) (f : Str) (te : TE) : TE := fun σ H Q => te σ H fun x H1 => ∃ (a C dx : Addr) (fs : List (Str × V)) (v : V), x = .ref a ∧ H1 a = some (exo a C (some dx)) ∧ H1 dx = some (exd dx fs) ∧ fs.lookup f = some v ∧ XfC K C ∧ PySem.W.findIn K (.ref C) f = some none ∧ Q v H1
theorem pe_xv {e : Expr} {te : TE} {pos : Pos} {n : Str} (he : PE X e te) (hb : attributeBase e n X.env (eval e X.env) = eval e X.env := by rfl) (hK : X.K = K := by rfl) : PE X (.Attribute e n pos) (tXv K n te) := by
  subst hK
  refine ⟨fun pins s σ H Q I h => ?_⟩
  refine attr_of hb (thn (he.run pins s σ H _ I h) fun u s1 hh => ?_)
  obtain ⟨x, H1, I1, rx, a, C, dx, fs, v, rfl, ga, gd, l, T, hno, q⟩ := hh
  obtain rfl : u = Value.ref a := rx
  obtain ⟨t1, g1⟩ := exo_at I1.hok ga
  obtain ⟨mA, hns, hr⟩ := exd_at I1.hok gd
  obtain ⟨od, ho, hl⟩ := lookIn_ns hns
  obtain ⟨u, hu, ru⟩ := RelO.some_of (v := v) (o := mA n) (by rw [← l]; exact hr n)
  have J : PySem.W.InstAt s1.heap a _ C (some od) := ⟨g1, rfl, rfl, ho⟩
  exact HandSPX.exc_get I1.kIn J T.ga T.gg T.exC (PySem.W.findObj_own T.hdC hno rfl (by rw [hl, hu])) (handed_of ru) ⟨v, H1, I1.tok _, ru, q⟩
end
/-! ### repr where a dict lies among the data -/
/-- data without a dict, or a dict of one text to () -/
inductive DR (K : PySem.W.Frag) (H : Hp) : V → PyData → Prop
  | dat {v : V} {d : PyData} (h : Dp K H v d) (n : d.hasDict = false) : DR K H v d
  | box {a p : Addr} {x : Str} (h : H a = some (.dK [(.inr x, .ref p)])) (hp : SqT K H p []) : DR K H (.ref a) (.dict [(.str x, .tuple [])])
section
variable {X : Cx} {pins : List (Addr × Obj)} {σ : L2.St} {H : Hp} {s : Shared}
theorem dr_reads (I : Inv X pins σ H s) {v : V} {d : PyData} {u : Value} (h : DR X.K H v d) (r : RelV v u) : ∃ as, Reads s.heap u d as ∧ (d.hasDict = true → sysModules ∉ as) := by
  cases h with
  | dat h n =>
    obtain ⟨as, rd⟩ := Dp.reads I _ _ _ h r
    exact ⟨as, rd, PyData.noDict_hsm n⟩
  | box h hp =>
    rename_i a p x
    cases (show u = Value.ref a from r)
    obtain ⟨few, ns, vs, kv, o, es, ep, g, ex, hd, ks, ps, uniq⟩ := (show ObjOk X.prog X.w H s.heap a (.dK [(.inr x, .ref p)]) from I.hok a _ h)
    cases kv with
    | cons k1 k2 =>
      cases k2
      obtain ⟨e1, e2⟩ := k1
      rename_i q
      obtain ⟨qk, qv⟩ := q
      dsimp only at e1 e2
      subst e1
      cases (show qv = Value.ref p from e2)
      obtain ⟨el⟩ := es
      dsimp only at ps
      cases ps with
      | cons a1 a2 a3 =>
        cases a3
        rename_i e
        obtain ⟨eh, ek, ev⟩ := e
        dsimp only at a1 a2
        subst a2
        rcases keyIs_shape (show keyIs (Sum.inr x) ek = true from a1) with ⟨i, t, z, _⟩ | ⟨y, t, z, rfl⟩
        · cases z
        · cases z
          obtain ⟨as, rd⟩ := Dp.reads I _ _ _ (.tup hp .nil : Dp X.K H (.ref p) (.tuple [])) (show RelV (.ref p) (.ref p) from rfl)
          cases rd with
          | tuple h1 h2 h3 h4 =>
            have nil : ∀ {us : List Value} {as : List Addr}, ReadsAll s.heap us [] as → as = [] := fun z => by
              cases z
              rfl
            have e4 := nil h4
            subst e4
            refine ⟨_, .dict g ex.1 hd (.cons (.str x t) .nil) (.cons (.tuple h1 h2 h3 h4) .nil), fun _ m => ?_⟩
            simp at m
            subst m
            simp at ns
theorem box_all (I : Inv X pins σ H s) {a p : Addr} {x : Str} (h : H a = some (.dK [(.inr x, .ref p)])) (hp : SqT X.K H p []) : ∀ (n : Nat) (us : List Value), Vals (List.replicate n (V.ref a)) us →
    ∃ as, ReadsAll s.heap us (List.replicate n (.dict [(.str x, .tuple [])])) as ∧ sysModules ∉ as
  | 0, _, r => by
    cases r
    exact ⟨_, .nil, fun z => by simp at z⟩
  | n + 1, us, r => by
    rw [List.replicate_succ] at r
    cases r with
    | cons r1 r2 =>
      obtain ⟨as, a1, a2⟩ := dr_reads I (.box h hp) r1
      obtain ⟨bs, b1, b2⟩ := box_all I h hp n _ r2
      refine ⟨as ++ bs, by rw [List.replicate_succ]; exact .cons a1 b1, fun m => ?_⟩
      rcases List.mem_append.mp m with m | m
      · exact a2 (by simp [PyData.hasDict]) m
      · exact b2 m
end
section
variable {X : Cx} {K : PySem.W.Frag}
/-- repr(v); repr([v, v, ..]) -/
def rReprD (K : PySem.W.Frag) : List V → Hp → VK → Prop := fun xs H Q =>
  (∃ v d, xs = [v] ∧ DR K H v d ∧ d.showable = true ∧ d.depth ≤ 60 ∧ d.shown.length ≤ sizeLine ∧ Q (.str d.shown) H) ∨
  ∃ l a p n x d, xs = [.ref l] ∧ SqL K H l (List.replicate (n + 1) (.ref a)) ∧ H a = some (.dK [(.inr x, .ref p)]) ∧ SqT K H p [] ∧ d = PyData.list (List.replicate (n + 1) (.dict [(.str x, .tuple [])])) ∧ d.showable = true ∧ d.depth ≤ 60 ∧ d.shown.length ≤ sizeLine ∧ Q (.str d.shown) H
theorem call_reprD (gd : X.A.guards = some []) (hu : X.A.units + 64 < cLine) : CallR X (.builtin "repr") (rReprD X.K) := by
  intro pins s σ H xs us Q I r h
  rcases h with ⟨v, d, rfl, dr, sh, de, sz, q⟩ | ⟨l, a, p, n, x, d, rfl, hl, ha, hp, rfl, sh, de, sz, q⟩
  · cases dr with
    | dat dp nd => exact k_repr gd hu rfl pins s σ H _ us Q I r ⟨v, d, rfl, dp, sh, nd, de, sz, q⟩
    | box h hp =>
      rename_i a p x
      obtain ⟨u, rfl, rv⟩ := vals1 r
      obtain ⟨as, rd, ns⟩ := dr_reads I (.box h hp) rv
      cases (show u = Value.ref a from rv)
      exact repr_of_reads' rd sh ns gd (by omega) (fun _ _ q => q) (fun h' t tk k => ⟨.str _, H, I.kept k, ⟨_, rfl⟩, q⟩) sz
  · obtain ⟨u, rfl, rv⟩ := vals1 r
    cases (show u = Value.ref l from rv)
    obtain ⟨o, its, n2, g, c, dt, vi⟩ : ∃ o its n2, s.heap.get? l = some o ∧ o.cls = .type "list" ∧ o.data = .seq its n2 ∧ Vals (List.replicate (n + 1) (V.ref a)) its.toList := by
      rcases hl with (e | ⟨o, e⟩) | ⟨o, its, n2, e, c, _, dt, _, vi⟩
      · obtain ⟨_, its, n2, vi, g⟩ := (show ObjOk X.prog X.w H s.heap l (.lst _) from I.hok l _ e)
        exact ⟨_, its.toArray, n2, g, rfl, rfl, by simpa using vi⟩
      · obtain ⟨g, _, its, n2, vi, g2⟩ := (show ObjOk X.prog X.w H s.heap l (.frz o (.lst _)) from I.hok l _ e)
        exact ⟨_, its.toArray, n2, g2, rfl, rfl, by simpa using vi⟩
      · exact ⟨o, its, n2, I.kIn _ _ e, c, dt, vi⟩
    obtain ⟨as, ra, ns⟩ := box_all I ha hp (n + 1) its.toList vi
    have rd : Reads s.heap (.ref l) (.list (List.replicate (n + 1) (.dict [(.str x, .tuple [])]))) (l :: as) := .list g c dt ra
    have sz' : (listText (PyData.shownAll (List.replicate (n + 1) (.dict [(.str x, .tuple [])])))).length ≤ sizeLine := by simpa only [PyData.shown] using sz
    obtain ⟨bs, hb, hk⟩ := ReprAllK.of_readsAll (prog := X.prog) (w := X.w) ra (by simpa [PyData.showable] using sh) (fun _ m => ns m) (fun t ht => Nat.le_trans (listText_mem_le ht) sz')
    have hna : l ∉ bs := not_mem_of_deeper rd (by simp only [PyData.depth]; omega) hb
    simp only [PyData.depth] at de
    refine PySem.call_repr_slot (by omega) ⟨o, g, c⟩ PySem.F.slot_list_repr.toG ?_
    obtain ⟨il⟩ := its
    cases il with
    | nil => cases vi
    | cons y ys =>
      exact call_list_reprK g c dt hna (by simpa using hk.length_eq) (fun i y e => hk.item i y (by simpa using e)) gd (fun b _ => Clear.nil b) (by show X.A.units + 1 + _ < cLine; omega) (fun _ _ z => z) (fun h' u tk k => ⟨_, _, rfl, .str _, H, I.kept k, ⟨_, rfl⟩, by simpa only [PyData.shown] using q⟩) sz'
theorem k_reprD (gd : X.A.guards = some []) (hu : X.A.units + 64 < cLine) (hK : X.K = K := by rfl) : CallR X (.builtin "repr") (rReprD K) := by
  subst hK
  exact call_reprD gd hu
end
/-! ### a sign, repeated any number of times -/
section
variable {X : Cx}
def rRepS0 : R2 := fun x y H Q => ∃ z n, x = .str z ∧ y = .int n ∧ z.length = 1 ∧ 0 ≤ n ∧ n ≤ 1000 ∧ Q (.str (repS z n)) H
theorem op_repS0 : OpR X (binaryOp .Mult) rRepS0 := by
  intro pins s σ H x y v u Q I rx ry h
  obtain ⟨z, n, rfl, rfl, hz, h2, h3, q⟩ := h
  by_cases big : 2 ≤ n
  · exact op_repS pins s σ H _ _ v u Q I rx ry ⟨z, n, rfl, rfl, hz, big, h3, q⟩
  obtain ⟨t, rfl⟩ := rx
  obtain ⟨t', rfl⟩ := ry
  refine PySem.P.mul_str ?_ (fun _ _ => ?_) (fun _ _ => ?_) ?_
  · have a1 : ¬ n < -(2 ^ 63 : Int) := by omega
    have a2 : ¬ n ≥ 2 ^ 63 := by omega
    rw [decide_eq_false a1, decide_eq_false a2]
    rfl
  · rename_i c1 c2
    have e : n = 1 := by omega
    subst e
    rw [hz]
    decide
  · rename_i c1 c2
    have e : n = 1 := by omega
    subst e
    rw [hz]
    exact decide_eq_false (by decide)
  · by_cases c : n < 1
    · have e : n = 0 := by omega
      subst e
      rw [if_pos c]
      exact ⟨by rw [sizeLine_eq]; decide, .str (repS z 0), H, I.tok _, ⟨_, rfl⟩, q⟩
    · have e : n = 1 := by omega
      subst e
      rw [if_neg c]
      have e1 : repS z 1 = z := by
        obtain ⟨c⟩ := z
        show (⟨(List.replicate 1 c).foldl (· ++ ·) #[]⟩ : Str) = ⟨c⟩
        simp
      rw [e1] at q
      exact ⟨.str z, H, I.tok _, ⟨_, rfl⟩, q⟩
end
def topS (i : Nat) : Stmt := PySem.Challenge.pw_restwise_k00_errors_and_what_they_keep.main.body.getD i (.Pass ⟨0, 0, 0, 0⟩)

local macro_rules | `(tactic| walk_at "rd1") => `(tactic| first
  | refine ⟨_, rfl, ?_⟩ | refine ⟨_, _, rfl, rfl, ?_⟩ | refine .inl ⟨_, rfl, ?_⟩ | refine .inr ⟨_, rfl, ?_⟩
  | refine And.intro rfl ?_ | refine And.intro ⟨_, rfl⟩ ?_ | refine And.intro (by assumption) ?_ | refine And.intro (by decide) ?_ | refine And.intro (.inl ⟨by decide, by decide⟩) ?_ | refine And.intro (.inr ⟨by decide, by decide⟩) ?_ | refine And.intro ⟨by decide, by decide⟩ ?_ | refine And.intro ⟨by decide, by decide, by decide⟩ ?_
  | refine And.intro (by show (0:Int) < _; first | decide | decide +kernel | assumption | omega) ?_ | refine And.intro (by simp only [List.length_cons, List.length_nil]; decide) ?_ | refine And.intro (by decide +kernel) ?_ | refine And.intro ⟨by decide, by decide +kernel⟩ ?_)
local macro_rules | `(tactic| walk_at "rd") => `(tactic| repeat (walk_at "rd1"))

abbrev s__law_dice : Stmt := topS 20
abbrev N__law_dice : List Str := ["script", "spot", "cell", "great", "blend"]
theorem sc__law_dice : FnScope N__law_dice ["script", "spot"] (defScope s__law_dice) := ⟨rfl, rfl, rfl, by decide +kernel, rfl, by decide +kernel, by decide +kernel⟩

def spDice (K : PySem.W.Frag) : Sp := fun vs H Q _ => ∃ (a : Addr) (ns : List Int) (n : Nat), vs = [.ref a, .int n] ∧ SqL K H a (ns.map V.int) ∧ ns.length ≤ 63 ∧ ∀ H' p, Same H H' → H p = none → Dice H' p → Q (.ref p) H'
section
variable {P : Program} {w : World} {K : PySem.W.Frag} {mg : Str → Option Value} {base : Heap}
theorem ok_dice (h : Has K mg "_law_dice" s__law_dice ["script", "spot"]) (z_len : mg "len" = none) (z_int : mg "int" = none) (z_abs : mg "abs" = none) (z_max : mg "max" = none) : Ok P w K mg base 1 "_law_dice" ["script", "spot"] (spDice K) := by
  obtain ⟨f, fd, g, F, b⟩ := h
  refine ⟨f, fd, g, F.kp, b, F.ok sc__law_dice (fun vs H Q E h => ?_) (fun cdv A outer s H vs Q E hr h => ?_)⟩
  · obtain ⟨a, ns, n, rfl, _⟩ := h
    rfl
  · obtain ⟨a, ns, n, rfl, hS, hlen, q⟩ := h
    refine ⟨_, (pss_cons (ps_set (i := 2) sc__law_dice.nd rfl (.inl rfl) (pe_op op_add (pe_op op_mul pe_int (pv 1)) pe_int))
  (pss_cons (ps_if (pt_cmpR op_lt (pv 1) (pe_callB (Rw.k_len (K := K)) (by rfl) z_len Rw.bt_len (pa_cons (pv 0) pa_nil)) (nomark _)) (pss_one (ps_set (i := 2) sc__law_dice.nd rfl (.inl rfl) (pe_ix (Rw.k_ixL (K := K)) (pv 0) (pv 1) (fun _ _ => rfl)))) pss_nil)
  (pss_cons (ps_set (i := 3) sc__law_dice.nd rfl (.inl rfl) (pe_op op_mod (pe_callTy call_int1 (by rfl) z_int Rw.bt_int (pa_cons (pe_callB call_abs (by rfl) z_abs Rw.bt_abs (pa_cons (pv 2) pa_nil)) pa_nil)) (pe_op Rw.op_powW (pe_op op_pow pe_int pe_int) pe_int)))
  (pss_cons (ps_set (i := 4) sc__law_dice.nd rfl (.inl rfl) (pe_op op_add (pe_op op_add (pe_op op_add (pe_op op_mul (pe_op op_mod (pe_callTy call_int1 (by rfl) z_int Rw.bt_int (pa_cons (pv 3) pa_nil)) pe_int) pe_int) (pe_op op_mul pe_int (pv 1))) (pe_op op_mul pe_int (pe_callTy call_int1 (by rfl) z_int Rw.bt_int (pa_cons (pe_cmpR op_lt (pv 2) pe_int (nomark _)) pa_nil)))) pe_int))
  (pss_one (ps_ret (pe_lst (pa_cons (pe_callB (call_max2 rfl) (by rfl) z_max Rw.bt_max (pa_cons pe_int (pa_cons (pe_op op_sub (pv 3) (pe_op op_pow pe_int pe_int)) pa_nil))) (pa_cons (pe_op op_mod (pe_callTy call_int1 (by rfl) z_int Rw.bt_int (pa_cons (pv 4) pa_nil)) pe_int) (pa_cons pe_int pa_nil)))))))))), ?_⟩
    walk_at "rd"
    refine ⟨a, _, rfl, .inl hS, ?_⟩
    walk_at "rd"
    refine ite2 (fun c => ?_) (fun c => ?_)
    · have hn : n < (ns.map V.int).length := by
        have := of_decide_eq_true c
        omega
      have hn' : n < ns.length := by simpa using hn
      have ha : atI (ns.map V.int) (n : Int) = some (.int ns[n]) := atI_nat (by rw [List.getElem?_map, List.getElem?_eq_getElem hn']; rfl)
      walk_at "rd"
      refine ⟨a, _, _, _, rfl, rfl, hS, ha, ?_⟩
      walk_at "rd"
      refine ⟨_, _, rfl, ?_⟩
      walk_at "rd"
      intro p hp
      refine q _ p (Same.new hp) hp ⟨_, _, _, ?_, ?_, ?_, upd_same⟩
      · split <;> omega
      · exact Int.emod_nonneg _ (by decide)
      · decide
    · walk_at "rd"
      refine ⟨_, _, rfl, ?_⟩
      walk_at "rd"
      intro p hp
      refine q _ p (Same.new hp) hp ⟨_, _, _, ?_, ?_, ?_, upd_same⟩
      · split <;> omega
      · exact Int.emod_nonneg _ (by decide)
      · decide
end

abbrev s__law_roll : Stmt := topS 21
abbrev N__law_roll : List Str := ["dice", "total", "found", "one", "two"]
theorem sc__law_roll : FnScope N__law_roll ["dice", "total"] (defScope s__law_roll) := ⟨rfl, rfl, rfl, by decide +kernel, rfl, by decide +kernel, by decide +kernel⟩

def spRoll : Sp := fun vs H Q _ => ∃ (d : Addr) (n : Int), vs = [.ref d, .int n] ∧ 0 < n ∧ n < 1073741824 ∧ Dice H d ∧ ∀ H' r, SB d H H' → Dice H' d → 0 ≤ r → r < n → Q (.int r) H'
section
variable {P : Program} {w : World} {K : PySem.W.Frag} {mg : Str → Option Value} {base : Heap}
theorem ok_roll (h : Has K mg "_law_roll" s__law_roll ["dice", "total"]) (z_int : mg "int" = none) : Ok P w K mg base 1 "_law_roll" ["dice", "total"] spRoll := by
  obtain ⟨f, fd, g, F, b⟩ := h
  refine ⟨f, fd, g, F.kp, b, F.ok sc__law_roll (fun vs H Q E h => ?_) (fun cdv A outer s H vs Q E hr h => ?_)⟩
  · obtain ⟨d, n, rfl, _⟩ := h
    rfl
  · obtain ⟨d, n, rfl, hn, hn2, ⟨x, y, z, h1, h2, h3, hd⟩, q⟩ := h
    have hL : SqL K H d [.int x, .int y, .int z] := SqL.of hd
    refine ⟨_, (pss_cons (ps_if (pt_cmpR op_gt (pe_ix (Rw.k_ixL (K := K)) (pv 0) pe_int (fun _ _ => rfl)) pe_int (nomark _)) (pss_cons (ps_set (i := 2) sc__law_roll.nd rfl (.inl rfl) (pe_op op_mod (pe_callTy call_int1 (by rfl) z_int Rw.bt_int (pa_cons (pe_ix (Rw.k_ixL (K := K)) (pv 0) pe_int (fun _ _ => rfl)) pa_nil)) (pv 1)))
  (pss_cons (ps_asg (pe_op op_fdiv (pe_ix (Rw.k_ixL (K := K)) (pv 0) pe_int (fun _ _ => rfl)) (pv 1)) (pg_sub (pv 0) pe_int set_list))
  (pss_one (ps_ret (pv 2))))) pss_nil)
  (pss_cons (ps_asg (pe_op op_add (pe_ix (Rw.k_ixL (K := K)) (pv 0) pe_int (fun _ _ => rfl)) pe_int) (pg_sub (pv 0) pe_int set_list))
  (pss_cons (ps_set (i := 3) sc__law_roll.nd rfl (.inl rfl) (pe_op op_mod (pe_callTy call_int1 (by rfl) z_int Rw.bt_int (pa_cons (pe_op op_add (pe_ix (Rw.k_ixL (K := K)) (pv 0) pe_int (fun _ _ => rfl)) (pe_op op_mul pe_int (pe_ix (Rw.k_ixL (K := K)) (pv 0) pe_int (fun _ _ => rfl)))) pa_nil)) pe_int))
  (pss_cons (ps_set (i := 4) sc__law_roll.nd rfl (.inl rfl) (pe_op op_add (pe_op op_mul (pe_op op_mod (pe_callTy call_int1 (by rfl) z_int Rw.bt_int (pa_cons (pe_op op_mul (pv 3) (pv 3)) pa_nil)) pe_int) (pv 3)) (pe_op op_mul pe_int (pe_ix (Rw.k_ixL (K := K)) (pv 0) pe_int (fun _ _ => rfl)))))
  (pss_cons (ps_set (i := 4) sc__law_roll.nd rfl (.inl rfl) (pe_op op_mod (pe_callTy call_int1 (by rfl) z_int Rw.bt_int (pa_cons (pv 4) pa_nil)) pe_int))
  (pss_one (ps_ret (pe_op op_mod (pe_callTy call_int1 (by rfl) z_int Rw.bt_int (pa_cons (pe_op op_fdiv (pv 4) pe_int) pa_nil)) (pv 1))))))))), ?_⟩
    walk_at "rd"
    refine ⟨d, _, _, _, rfl, rfl, hL, rfl, ?_⟩
    walk_at "rd"
    refine ite2 (fun c => ?_) (fun c => ?_)
    · walk_at "rd"
      refine ⟨d, _, _, _, rfl, rfl, hL, rfl, ?_⟩
      walk_at "rd"
      refine ⟨d, _, _, _, rfl, rfl, hL, rfl, ?_⟩
      walk_at "rd"
      refine ⟨⟨hn, hn2⟩, ?_⟩
      walk_at "rd"
      refine ⟨d, _, _, 0, rfl, rfl, hd, rfl, ?_⟩
      walk_at "rd"
      have hx : 0 ≤ x / n := Int.ediv_nonneg h1 (by omega)
      exact q _ _ SB.upd ⟨x / n, y, z, hx, h2, h3, upd_same⟩ (Int.emod_nonneg _ (by omega)) (Int.emod_lt_of_pos _ hn)
    · walk_at "rd"
      refine ⟨d, _, _, _, rfl, rfl, hL, rfl, ?_⟩
      walk_at "rd"
      refine ⟨d, _, _, 2, rfl, rfl, hd, rfl, ?_⟩
      have hL2 : SqL K (upd H d (.lst [.int x, .int y, .int (z + 1)])) d [.int x, .int y, .int (z + 1)] := SqL.of upd_same
      walk_at "rd"
      refine ⟨d, _, _, _, rfl, rfl, hL2, rfl, ?_⟩
      walk_at "rd"
      refine ⟨d, _, _, _, rfl, rfl, hL2, rfl, ?_⟩
      walk_at "rd"
      have p1 : ∀ t : Int, 0 ≤ t % 2305843009213693951 ∧ t % 2305843009213693951 < 2305843009213693951 := fun t => ⟨Int.emod_nonneg _ (by decide), Int.emod_lt_of_pos _ (by decide)⟩
      have p2 : ∀ t : Int, 0 ≤ t % 2305843009213693907 ∧ t % 2305843009213693907 < 2305843009213693907 := fun t => ⟨Int.emod_nonneg _ (by decide), Int.emod_lt_of_pos _ (by decide)⟩
      obtain ⟨o1, o2⟩ := p1 (y + 998244391 * (z + 1))
      refine ⟨.inl ⟨by omega, by omega⟩, ?_⟩
      walk_at "rd"
      obtain ⟨t1, t2⟩ := p2 ((y + 998244391 * (z + 1)) % 2305843009213693951 * ((y + 998244391 * (z + 1)) % 2305843009213693951))
      refine ⟨.inl ⟨Int.lt_of_lt_of_le (by decide) t1, Int.lt_trans t2 (by decide)⟩, ?_⟩
      walk_at "rd"
      refine ⟨d, _, _, _, rfl, rfl, hL2, rfl, ?_⟩
      walk_at "rd"
      exact q _ _ SB.upd ⟨x, y, z + 1, h1, h2, by omega, upd_same⟩ (Int.emod_nonneg _ (by omega)) (Int.emod_lt_of_pos _ hn)
end

abbrev s__law_pick : Stmt := topS 22
abbrev N__law_pick : List Str := ["dice", "items"]
theorem sc__law_pick : FnScope N__law_pick ["dice", "items"] (defScope s__law_pick) := ⟨rfl, rfl, rfl, by decide +kernel, rfl, by decide +kernel, by decide +kernel⟩

def spPick (K : PySem.W.Frag) : Sp := fun vs H Q _ => ∃ (d l : Addr) (xs : List V), vs = [.ref d, .ref l] ∧ 0 < xs.length ∧ xs.length < 1073741824 ∧ Dice H d ∧ (∀ H', SB d H H' → SqL K H' l xs ∨ SqT K H' l xs) ∧ ∀ H' v, SB d H H' → Dice H' d → v ∈ xs → Q v H'
section
variable {P : Program} {w : World} {K : PySem.W.Frag} {mg : Str → Option Value} {base : Heap}
theorem ok_pick (h : Has K mg "_law_pick" s__law_pick ["dice", "items"]) (R : Ok P w K mg base 1 "_law_roll" ["dice", "total"] spRoll) (z_len : mg "len" = none) : Ok P w K mg base 2 "_law_pick" ["dice", "items"] (spPick K) := by
  obtain ⟨f, fd, g, F, b⟩ := h
  obtain ⟨fR, fdR, g__law_roll, k__law_roll, b__law_roll, G__law_roll⟩ := R
  refine ⟨f, fd, g, F.kp, b, F.ok sc__law_pick (fun vs H Q E h => ?_) (fun cdv A outer s H vs Q E hr h => ?_)⟩
  · obtain ⟨d, l, xs, rfl, _⟩ := h
    rfl
  · obtain ⟨d, l, xs, rfl, h0, h1, hD, hS, q⟩ := h
    have hr__law_roll := hr
    refine ⟨_, (pss_one (ps_ret (pe_ix (Rw.k_ix (K := K)) (pv 1) (pe_call G__law_roll hr__law_roll (by rfl) g__law_roll k__law_roll b__law_roll .nil pass0 (pa_cons (pv 0) (pa_cons (pe_callB (Rw.k_len (K := K)) (by rfl) z_len Rw.bt_len (pa_cons (pv 1) pa_nil)) pa_nil))) (fun _ _ => rfl)))), ?_⟩
    walk_at "rd"
    refine ⟨l, xs, rfl, hS H (SB.refl _ _), ?_⟩
    refine ⟨d, (xs.length : Int), rfl, by omega, by omega, hD, fun H' r sb hD' r0 r1 => ?_⟩
    have hr' : r.toNat < xs.length := by omega
    have ha : atI xs r = some xs[r.toNat] := by
      have := atI_nat (xs := xs) (j := r.toNat) (List.getElem?_eq_getElem hr')
      rwa [Int.toNat_of_nonneg r0] at this
    have hq := q H' _ sb hD' (List.getElem_mem hr')
    rcases hS H' sb with hl | ht
    · exact .inl ⟨l, xs, _, _, rfl, rfl, hl, ha, hq⟩
    · exact .inr (.inl ⟨l, xs, _, _, rfl, rfl, ht, ha, hq⟩)
end


/-! ### what kinds are told -/
theorem bt_ValueError : bootBuiltins "ValueError" = some (.type "ValueError") := by decide +kernel
theorem bt_KeyError : bootBuiltins "KeyError" = some (.type "KeyError") := by decide +kernel
theorem bt_IndexError : bootBuiltins "IndexError" = some (.type "IndexError") := by decide +kernel
theorem bt_LookupError : bootBuiltins "LookupError" = some (.type "LookupError") := by decide +kernel
theorem bt_OverflowError : bootBuiltins "OverflowError" = some (.type "OverflowError") := by decide +kernel
theorem bt_ArithmeticError : bootBuiltins "ArithmeticError" = some (.type "ArithmeticError") := by decide +kernel
theorem bt_RuntimeError : bootBuiltins "RuntimeError" = some (.type "RuntimeError") := by decide +kernel

def kx (b : Bool) : Str := if b then "x" else "."
def ktxt (bs : List Bool) : Str := cat (bs.map kx)
theorem kx_len (b : Bool) : (kx b).length = 1 := by cases b <;> rfl
theorem kit_cons {α : Type} {f : α → Option Bool} {v : α} {vs : List α} {bs : List Bool} (h : (v :: vs).map f = bs.map some) : ∃ b r, bs = b :: r ∧ f v = some b ∧ vs.map f = r.map some := by
  cases bs with
  | nil => cases h
  | cons b r =>
    rw [List.map_cons, List.map_cons] at h
    injection h with h1 h2
    exact ⟨b, r, rfl, h1, h2⟩
theorem kit_nil {α : Type} {f : α → Option Bool} {bs : List Bool} (h : ([] : List α).map f = bs.map some) : bs = [] := by
  cases bs with
  | nil => rfl
  | cons b r => cases h
theorem ExAt.same {H H' : Hp} {a C : Addr} (s : Same H H') (h : ExAt H a C) : ExAt H' a C := by
  rcases h with ⟨t, g⟩ | ⟨dx, fs, g, gd⟩
  · exact .inl ⟨t, s _ _ g⟩
  · exact .inr ⟨dx, fs, s _ _ g, s _ _ gd⟩
/-- an exception told by its classes: those of vals -/
def spTold (K : PySem.W.Frag) (vals : List Value) : Sp := fun vs H Q _ => ∃ (a C : Addr) (bs : List Bool), vs = [.ref a] ∧ ExAt H a C ∧ L2.ExcC K C ∧ vals.map (PySem.W.kitOne K (.ref C)) = bs.map some ∧ ∀ H', Same H H' → Q (.str (ktxt bs)) H'

abbrev s__law_kinds : Stmt := topS 23
abbrev N__law_kinds : List Str := ["error", "told", "one"]
theorem sc__law_kinds : FnScope N__law_kinds ["error"] (defScope s__law_kinds) := ⟨rfl, rfl, rfl, by decide +kernel, rfl, by decide +kernel, by decide +kernel⟩
section
variable {P : Program} {w : World} {K : PySem.W.Frag} {mg : Str → Option Value} {base : Heap}
theorem ok_kinds {C_InvalidWord C_InvalidCode C_InvalidProgram C_InvalidWorld C_InvalidFact C_InvalidTable C_InvalidLines C_InvalidContext C_InvalidMarking C_InvalidOperation C_ParseError C_RestError : Addr} (h : Has K mg "_law_kinds" s__law_kinds ["error"]) (gP_InvalidWord : mg "InvalidWord" = some (.ref C_InvalidWord)) (gP_InvalidCode : mg "InvalidCode" = some (.ref C_InvalidCode)) (gP_InvalidProgram : mg "InvalidProgram" = some (.ref C_InvalidProgram)) (gP_InvalidWorld : mg "InvalidWorld" = some (.ref C_InvalidWorld)) (gP_InvalidFact : mg "InvalidFact" = some (.ref C_InvalidFact)) (gP_InvalidTable : mg "InvalidTable" = some (.ref C_InvalidTable)) (gP_InvalidLines : mg "InvalidLines" = some (.ref C_InvalidLines)) (gP_InvalidContext : mg "InvalidContext" = some (.ref C_InvalidContext)) (gP_InvalidMarking : mg "InvalidMarking" = some (.ref C_InvalidMarking)) (gP_InvalidOperation : mg "InvalidOperation" = some (.ref C_InvalidOperation)) (gP_ParseError : mg "ParseError" = some (.ref C_ParseError)) (gP_RestError : mg "RestError" = some (.ref C_RestError)) (z_ValueError : mg "ValueError" = none) (z_isinstance : mg "isinstance" = none) : Ok P w K mg base 1 "_law_kinds" ["error"] (spTold K [.ref C_InvalidWord, .ref C_InvalidCode, .ref C_InvalidProgram, .ref C_InvalidWorld, .ref C_InvalidFact, .ref C_InvalidTable, .ref C_InvalidLines, .ref C_InvalidContext, .ref C_InvalidMarking, .ref C_InvalidOperation, .ref C_ParseError, .ref C_RestError, .type "ValueError"]) := by
  obtain ⟨f, fd, g, F, b⟩ := h
  refine ⟨f, fd, g, F.kp, b, F.ok sc__law_kinds (fun vs H Q E h => ?_) (fun cdv A outer s H vs Q E hr h => ?_)⟩
  · obtain ⟨a, C, bs, rfl, _⟩ := h
    rfl
  · obtain ⟨a, C, bs, rfl, ex, EC, hk, q⟩ := h
    obtain ⟨b0, bs, rfl, e0, hk⟩ := kit_cons hk
    obtain ⟨b1, bs, rfl, e1, hk⟩ := kit_cons hk
    obtain ⟨b2, bs, rfl, e2, hk⟩ := kit_cons hk
    obtain ⟨b3, bs, rfl, e3, hk⟩ := kit_cons hk
    obtain ⟨b4, bs, rfl, e4, hk⟩ := kit_cons hk
    obtain ⟨b5, bs, rfl, e5, hk⟩ := kit_cons hk
    obtain ⟨b6, bs, rfl, e6, hk⟩ := kit_cons hk
    obtain ⟨b7, bs, rfl, e7, hk⟩ := kit_cons hk
    obtain ⟨b8, bs, rfl, e8, hk⟩ := kit_cons hk
    obtain ⟨b9, bs, rfl, e9, hk⟩ := kit_cons hk
    obtain ⟨b10, bs, rfl, e10, hk⟩ := kit_cons hk
    obtain ⟨b11, bs, rfl, e11, hk⟩ := kit_cons hk
    obtain ⟨b12, bs, rfl, e12, hk⟩ := kit_cons hk
    obtain rfl := kit_nil hk
    clear hk
    refine ⟨_, (pss_cons (ps_set (i := 1) sc__law_kinds.nd rfl (.inl rfl) (pe_lst (pa_cons (pe_callB (Rw.k_isX (K := K)) (by rfl) z_isinstance Rw.bt_isinstance (pa_cons (pv 0) (pa_cons (pe_glob (v := .ref C_InvalidWord) rfl gP_InvalidWord rfl) pa_nil))) (pa_cons (pe_callB (Rw.k_isX (K := K)) (by rfl) z_isinstance Rw.bt_isinstance (pa_cons (pv 0) (pa_cons (pe_glob (v := .ref C_InvalidCode) rfl gP_InvalidCode rfl) pa_nil))) (pa_cons (pe_callB (Rw.k_isX (K := K)) (by rfl) z_isinstance Rw.bt_isinstance (pa_cons (pv 0) (pa_cons (pe_glob (v := .ref C_InvalidProgram) rfl gP_InvalidProgram rfl) pa_nil))) pa_nil)))))
  (pss_cons (ps_set (i := 1) sc__law_kinds.nd rfl (.inl rfl) (pe_op op_cat (pv 1) (pe_lst (pa_cons (pe_callB (Rw.k_isX (K := K)) (by rfl) z_isinstance Rw.bt_isinstance (pa_cons (pv 0) (pa_cons (pe_glob (v := .ref C_InvalidWorld) rfl gP_InvalidWorld rfl) pa_nil))) (pa_cons (pe_callB (Rw.k_isX (K := K)) (by rfl) z_isinstance Rw.bt_isinstance (pa_cons (pv 0) (pa_cons (pe_glob (v := .ref C_InvalidFact) rfl gP_InvalidFact rfl) pa_nil))) (pa_cons (pe_callB (Rw.k_isX (K := K)) (by rfl) z_isinstance Rw.bt_isinstance (pa_cons (pv 0) (pa_cons (pe_glob (v := .ref C_InvalidTable) rfl gP_InvalidTable rfl) pa_nil))) pa_nil))))))
  (pss_cons (ps_set (i := 1) sc__law_kinds.nd rfl (.inl rfl) (pe_op op_cat (pv 1) (pe_lst (pa_cons (pe_callB (Rw.k_isX (K := K)) (by rfl) z_isinstance Rw.bt_isinstance (pa_cons (pv 0) (pa_cons (pe_glob (v := .ref C_InvalidLines) rfl gP_InvalidLines rfl) pa_nil))) (pa_cons (pe_callB (Rw.k_isX (K := K)) (by rfl) z_isinstance Rw.bt_isinstance (pa_cons (pv 0) (pa_cons (pe_glob (v := .ref C_InvalidContext) rfl gP_InvalidContext rfl) pa_nil))) pa_nil)))))
  (pss_cons (ps_set (i := 1) sc__law_kinds.nd rfl (.inl rfl) (pe_op op_cat (pv 1) (pe_lst (pa_cons (pe_callB (Rw.k_isX (K := K)) (by rfl) z_isinstance Rw.bt_isinstance (pa_cons (pv 0) (pa_cons (pe_glob (v := .ref C_InvalidMarking) rfl gP_InvalidMarking rfl) pa_nil))) (pa_cons (pe_callB (Rw.k_isX (K := K)) (by rfl) z_isinstance Rw.bt_isinstance (pa_cons (pv 0) (pa_cons (pe_glob (v := .ref C_InvalidOperation) rfl gP_InvalidOperation rfl) pa_nil))) pa_nil)))))
  (pss_cons (ps_set (i := 1) sc__law_kinds.nd rfl (.inl rfl) (pe_op op_cat (pv 1) (pe_lst (pa_cons (pe_callB (Rw.k_isX (K := K)) (by rfl) z_isinstance Rw.bt_isinstance (pa_cons (pv 0) (pa_cons (pe_glob (v := .ref C_ParseError) rfl gP_ParseError rfl) pa_nil))) (pa_cons (pe_callB (Rw.k_isX (K := K)) (by rfl) z_isinstance Rw.bt_isinstance (pa_cons (pv 0) (pa_cons (pe_glob (v := .ref C_RestError) rfl gP_RestError rfl) pa_nil))) (pa_cons (pe_callB (Rw.k_isX (K := K)) (by rfl) z_isinstance Rw.bt_isinstance (pa_cons (pv 0) (pa_cons (pe_bltn (v := .ty "ValueError") (by rfl) z_ValueError Rw.bt_ValueError rfl) pa_nil))) pa_nil))))))
  (pss_one (ps_ret (Rw.k_join (K := K) (pe_join pe_str (pe_lc (own := [("one", 2)]) rfl sc__law_kinds.nd (Rw.k_pl (K := K) (pv 1)) (blkOk_by (own := [("one", 2)]) (N := N__law_kinds) (sc := defScope s__law_kinds) (by decide +kernel)) (fun _ _ _ _ _ => (pg_name (i := 2) sc__law_kinds.nd rfl (.inl rfl))) (fun _ _ _ _ _ => pts_nil) (fun _ _ _ _ _ => (pe_ifExp (pt_val (pv 2)) pe_str pe_str)))))))))))), ?_⟩
    walk_at "rd"
    refine ⟨a, C, _, _, b0, rfl, .own _, ex, EC, e0, ?_⟩
    walk_at "rd"
    refine ⟨a, C, _, _, b1, rfl, .own _, ex, EC, e1, ?_⟩
    walk_at "rd"
    refine ⟨a, C, _, _, b2, rfl, .own _, ex, EC, e2, ?_⟩
    walk_at "rd"
    intro p1 n1
    first | refine newly n1 fun H1 s1 f1 => ?_ | refine newly2 n1 fun H1 s1 f1 => ?_
    replace ex := ex.same s1
    walk_at "rd"
    refine ⟨a, C, _, _, b3, rfl, .own _, ex, EC, e3, ?_⟩
    walk_at "rd"
    refine ⟨a, C, _, _, b4, rfl, .own _, ex, EC, e4, ?_⟩
    walk_at "rd"
    refine ⟨a, C, _, _, b5, rfl, .own _, ex, EC, e5, ?_⟩
    walk_at "rd"
    intro p2 n2
    first | refine newly n2 fun H2 s2 f2 => ?_ | refine newly2 n2 fun H2 s2 f2 => ?_
    replace ex := ex.same s2
    walk_at "rd"
    refine ⟨p1, p2, _, _, rfl, rfl, s2 _ _ f1, f2, by simp only [List.length_append, List.length_cons, List.length_nil]; decide, fun p3 n3 => ?_⟩
    first | refine newly n3 fun H3 s3 f3 => ?_ | refine newly2 n3 fun H3 s3 f3 => ?_
    replace ex := ex.same s3
    walk_at "rd"
    refine ⟨a, C, _, _, b6, rfl, .own _, ex, EC, e6, ?_⟩
    walk_at "rd"
    refine ⟨a, C, _, _, b7, rfl, .own _, ex, EC, e7, ?_⟩
    walk_at "rd"
    intro p4 n4
    first | refine newly n4 fun H4 s4 f4 => ?_ | refine newly2 n4 fun H4 s4 f4 => ?_
    replace ex := ex.same s4
    walk_at "rd"
    refine ⟨p3, p4, _, _, rfl, rfl, s4 _ _ f3, f4, by simp only [List.length_append, List.length_cons, List.length_nil]; decide, fun p5 n5 => ?_⟩
    first | refine newly n5 fun H5 s5 f5 => ?_ | refine newly2 n5 fun H5 s5 f5 => ?_
    replace ex := ex.same s5
    walk_at "rd"
    refine ⟨a, C, _, _, b8, rfl, .own _, ex, EC, e8, ?_⟩
    walk_at "rd"
    refine ⟨a, C, _, _, b9, rfl, .own _, ex, EC, e9, ?_⟩
    walk_at "rd"
    intro p6 n6
    first | refine newly n6 fun H6 s6 f6 => ?_ | refine newly2 n6 fun H6 s6 f6 => ?_
    replace ex := ex.same s6
    walk_at "rd"
    refine ⟨p5, p6, _, _, rfl, rfl, s6 _ _ f5, f6, by simp only [List.length_append, List.length_cons, List.length_nil]; decide, fun p7 n7 => ?_⟩
    first | refine newly n7 fun H7 s7 f7 => ?_ | refine newly2 n7 fun H7 s7 f7 => ?_
    replace ex := ex.same s7
    walk_at "rd"
    refine ⟨a, C, _, _, b10, rfl, .own _, ex, EC, e10, ?_⟩
    walk_at "rd"
    refine ⟨a, C, _, _, b11, rfl, .own _, ex, EC, e11, ?_⟩
    walk_at "rd"
    refine ⟨a, C, _, _, b12, rfl, .ty _, ex, EC, e12, ?_⟩
    walk_at "rd"
    intro p8 n8
    first | refine newly n8 fun H8 s8 f8 => ?_ | refine newly2 n8 fun H8 s8 f8 => ?_
    replace ex := ex.same s8
    walk_at "rd"
    refine ⟨p7, p8, _, _, rfl, rfl, s8 _ _ f7, f8, by simp only [List.length_append, List.length_cons, List.length_nil]; decide, fun p9 n9 => ?_⟩
    first | refine newly n9 fun H9 s9 f9 => ?_ | refine newly2 n9 fun H9 s9 f9 => ?_
    replace ex := ex.same s9
    have sm : Same H H9 := ((((((((s1.trans s2).trans s3).trans s4).trans s5).trans s6).trans s7).trans s8).trans s9)
    have fl : H9 p9 = some (.lst ([b0, b1, b2, b3, b4, b5, b6, b7, b8, b9, b10, b11, b12].map V.bl)) := f9
    clear ex
    generalize hb : [b0, b1, b2, b3, b4, b5, b6, b7, b8, b9, b10, b11, b12] = bs at fl q
    have lb : bs.length = 13 := by rw [← hb]; rfl
    walk_at "rd"
    refine ⟨⟨_, SqL.of fl⟩, fun D nD => ?_⟩
    refine lc_list (K := K) (a := p9) (xs := bs.map V.bl) (PvA H9 D fun i => ((bs.map kx).map V.str).take i) (PvA.start nD rfl) (fun i H2 _ p => SqL.of (p.1 _ _ fl)) (fun i x H2 hx p => ?_) (fun H2 p => ?_)
    · obtain ⟨b, hbi, rfl⟩ := map_at hx
      have hb' : ((bs.map kx).map V.str)[i]? = some (V.str (kx b)) := at_map _ (at_map _ hbi)
      have hz' := take_lt (List.getElem?_eq_some_iff.mp hb').1 (by rw [List.length_map, List.length_map, lb]; decide)
      refine ⟨rfl, ?_⟩
      walk_at "rd"
      cases b with
      | true => exact PvA.put nD p.1 p.2 hz' (take_put hb')
      | false => exact PvA.put nD p.1 p.2 hz' (take_put hb')
    · have e2 : H2 D = some (.lst ((bs.map kx).map V.str)) := by
        have h4 : H2 D = some (.lst (((bs.map kx).map V.str).take (bs.map V.bl).length)) := p.2
        rwa [List.take_of_length_le (by rw [List.length_map, List.length_map, List.length_map]; exact Nat.le_refl _)] at h4
      have hs1 := sum_ones (zs := bs.map kx) (by
        intro z hz
        obtain ⟨b, _, rfl⟩ := List.mem_map.mp hz
        exact kx_len b)
      refine ⟨Str.ofString "", D, bs.map kx, rfl, rfl, .inl (SqL.of e2), ?_, ?_⟩
      · rw [hs1, List.length_map, lb]
        decide
      · rw [join_nil]
        exact q H2 (sm.trans p.1)
end

abbrev s__law_others : Stmt := topS 24
abbrev N__law_others : List Str := ["error", "told", "one"]
theorem sc__law_others : FnScope N__law_others ["error"] (defScope s__law_others) := ⟨rfl, rfl, rfl, by decide +kernel, rfl, by decide +kernel, by decide +kernel⟩
section
variable {P : Program} {w : World} {K : PySem.W.Frag} {mg : Str → Option Value} {base : Heap}
theorem ok_others {C_UnknownName C_UnknownPlace C_NothingToUndo C_TooMany C_Refused C_InvalidNumber : Addr} (h : Has K mg "_law_others" s__law_others ["error"]) (gP_UnknownName : mg "UnknownName" = some (.ref C_UnknownName)) (gP_UnknownPlace : mg "UnknownPlace" = some (.ref C_UnknownPlace)) (gP_NothingToUndo : mg "NothingToUndo" = some (.ref C_NothingToUndo)) (gP_TooMany : mg "TooMany" = some (.ref C_TooMany)) (gP_Refused : mg "Refused" = some (.ref C_Refused)) (gP_InvalidNumber : mg "InvalidNumber" = some (.ref C_InvalidNumber)) (z_KeyError : mg "KeyError" = none) (z_IndexError : mg "IndexError" = none) (z_LookupError : mg "LookupError" = none) (z_OverflowError : mg "OverflowError" = none) (z_ArithmeticError : mg "ArithmeticError" = none) (z_RuntimeError : mg "RuntimeError" = none) (z_isinstance : mg "isinstance" = none) : Ok P w K mg base 1 "_law_others" ["error"] (spTold K [.ref C_UnknownName, .ref C_UnknownPlace, .ref C_NothingToUndo, .ref C_TooMany, .ref C_Refused, .ref C_InvalidNumber, .type "KeyError", .type "IndexError", .type "LookupError", .type "OverflowError", .type "ArithmeticError", .type "RuntimeError"]) := by
  obtain ⟨f, fd, g, F, b⟩ := h
  refine ⟨f, fd, g, F.kp, b, F.ok sc__law_others (fun vs H Q E h => ?_) (fun cdv A outer s H vs Q E hr h => ?_)⟩
  · obtain ⟨a, C, bs, rfl, _⟩ := h
    rfl
  · obtain ⟨a, C, bs, rfl, ex, EC, hk, q⟩ := h
    obtain ⟨b0, bs, rfl, e0, hk⟩ := kit_cons hk
    obtain ⟨b1, bs, rfl, e1, hk⟩ := kit_cons hk
    obtain ⟨b2, bs, rfl, e2, hk⟩ := kit_cons hk
    obtain ⟨b3, bs, rfl, e3, hk⟩ := kit_cons hk
    obtain ⟨b4, bs, rfl, e4, hk⟩ := kit_cons hk
    obtain ⟨b5, bs, rfl, e5, hk⟩ := kit_cons hk
    obtain ⟨b6, bs, rfl, e6, hk⟩ := kit_cons hk
    obtain ⟨b7, bs, rfl, e7, hk⟩ := kit_cons hk
    obtain ⟨b8, bs, rfl, e8, hk⟩ := kit_cons hk
    obtain ⟨b9, bs, rfl, e9, hk⟩ := kit_cons hk
    obtain ⟨b10, bs, rfl, e10, hk⟩ := kit_cons hk
    obtain ⟨b11, bs, rfl, e11, hk⟩ := kit_cons hk
    obtain rfl := kit_nil hk
    clear hk
    refine ⟨_, (pss_cons (ps_set (i := 1) sc__law_others.nd rfl (.inl rfl) (pe_lst (pa_cons (pe_callB (Rw.k_isX (K := K)) (by rfl) z_isinstance Rw.bt_isinstance (pa_cons (pv 0) (pa_cons (pe_glob (v := .ref C_UnknownName) rfl gP_UnknownName rfl) pa_nil))) (pa_cons (pe_callB (Rw.k_isX (K := K)) (by rfl) z_isinstance Rw.bt_isinstance (pa_cons (pv 0) (pa_cons (pe_glob (v := .ref C_UnknownPlace) rfl gP_UnknownPlace rfl) pa_nil))) (pa_cons (pe_callB (Rw.k_isX (K := K)) (by rfl) z_isinstance Rw.bt_isinstance (pa_cons (pv 0) (pa_cons (pe_glob (v := .ref C_NothingToUndo) rfl gP_NothingToUndo rfl) pa_nil))) pa_nil)))))
  (pss_cons (ps_set (i := 1) sc__law_others.nd rfl (.inl rfl) (pe_op op_cat (pv 1) (pe_lst (pa_cons (pe_callB (Rw.k_isX (K := K)) (by rfl) z_isinstance Rw.bt_isinstance (pa_cons (pv 0) (pa_cons (pe_glob (v := .ref C_TooMany) rfl gP_TooMany rfl) pa_nil))) (pa_cons (pe_callB (Rw.k_isX (K := K)) (by rfl) z_isinstance Rw.bt_isinstance (pa_cons (pv 0) (pa_cons (pe_glob (v := .ref C_Refused) rfl gP_Refused rfl) pa_nil))) (pa_cons (pe_callB (Rw.k_isX (K := K)) (by rfl) z_isinstance Rw.bt_isinstance (pa_cons (pv 0) (pa_cons (pe_glob (v := .ref C_InvalidNumber) rfl gP_InvalidNumber rfl) pa_nil))) pa_nil))))))
  (pss_cons (ps_set (i := 1) sc__law_others.nd rfl (.inl rfl) (pe_op op_cat (pv 1) (pe_lst (pa_cons (pe_callB (Rw.k_isX (K := K)) (by rfl) z_isinstance Rw.bt_isinstance (pa_cons (pv 0) (pa_cons (pe_bltn (v := .ty "KeyError") (by rfl) z_KeyError Rw.bt_KeyError rfl) pa_nil))) (pa_cons (pe_callB (Rw.k_isX (K := K)) (by rfl) z_isinstance Rw.bt_isinstance (pa_cons (pv 0) (pa_cons (pe_bltn (v := .ty "IndexError") (by rfl) z_IndexError Rw.bt_IndexError rfl) pa_nil))) (pa_cons (pe_callB (Rw.k_isX (K := K)) (by rfl) z_isinstance Rw.bt_isinstance (pa_cons (pv 0) (pa_cons (pe_bltn (v := .ty "LookupError") (by rfl) z_LookupError Rw.bt_LookupError rfl) pa_nil))) pa_nil))))))
  (pss_cons (ps_set (i := 1) sc__law_others.nd rfl (.inl rfl) (pe_op op_cat (pv 1) (pe_lst (pa_cons (pe_callB (Rw.k_isX (K := K)) (by rfl) z_isinstance Rw.bt_isinstance (pa_cons (pv 0) (pa_cons (pe_bltn (v := .ty "OverflowError") (by rfl) z_OverflowError Rw.bt_OverflowError rfl) pa_nil))) (pa_cons (pe_callB (Rw.k_isX (K := K)) (by rfl) z_isinstance Rw.bt_isinstance (pa_cons (pv 0) (pa_cons (pe_bltn (v := .ty "ArithmeticError") (by rfl) z_ArithmeticError Rw.bt_ArithmeticError rfl) pa_nil))) pa_nil)))))
  (pss_one (ps_ret (Rw.k_join (K := K) (pe_join pe_str (pe_lc (own := [("one", 2)]) rfl sc__law_others.nd (Rw.k_pl (K := K) (pe_op op_cat (pv 1) (pe_lst (pa_cons (pe_callB (Rw.k_isX (K := K)) (by rfl) z_isinstance Rw.bt_isinstance (pa_cons (pv 0) (pa_cons (pe_bltn (v := .ty "RuntimeError") (by rfl) z_RuntimeError Rw.bt_RuntimeError rfl) pa_nil))) pa_nil)))) (blkOk_by (own := [("one", 2)]) (N := N__law_others) (sc := defScope s__law_others) (by decide +kernel)) (fun _ _ _ _ _ => (pg_name (i := 2) sc__law_others.nd rfl (.inl rfl))) (fun _ _ _ _ _ => pts_nil) (fun _ _ _ _ _ => (pe_ifExp (pt_val (pv 2)) pe_str pe_str))))))))))), ?_⟩
    walk_at "rd"
    refine ⟨a, C, _, _, b0, rfl, .own _, ex, EC, e0, ?_⟩
    walk_at "rd"
    refine ⟨a, C, _, _, b1, rfl, .own _, ex, EC, e1, ?_⟩
    walk_at "rd"
    refine ⟨a, C, _, _, b2, rfl, .own _, ex, EC, e2, ?_⟩
    walk_at "rd"
    intro p1 n1
    first | refine newly n1 fun H1 s1 f1 => ?_ | refine newly2 n1 fun H1 s1 f1 => ?_
    replace ex := ex.same s1
    walk_at "rd"
    refine ⟨a, C, _, _, b3, rfl, .own _, ex, EC, e3, ?_⟩
    walk_at "rd"
    refine ⟨a, C, _, _, b4, rfl, .own _, ex, EC, e4, ?_⟩
    walk_at "rd"
    refine ⟨a, C, _, _, b5, rfl, .own _, ex, EC, e5, ?_⟩
    walk_at "rd"
    intro p2 n2
    first | refine newly n2 fun H2 s2 f2 => ?_ | refine newly2 n2 fun H2 s2 f2 => ?_
    replace ex := ex.same s2
    walk_at "rd"
    refine ⟨p1, p2, _, _, rfl, rfl, s2 _ _ f1, f2, by simp only [List.length_append, List.length_cons, List.length_nil]; decide, fun p3 n3 => ?_⟩
    first | refine newly n3 fun H3 s3 f3 => ?_ | refine newly2 n3 fun H3 s3 f3 => ?_
    replace ex := ex.same s3
    walk_at "rd"
    refine ⟨a, C, _, _, b6, rfl, .ty _, ex, EC, e6, ?_⟩
    walk_at "rd"
    refine ⟨a, C, _, _, b7, rfl, .ty _, ex, EC, e7, ?_⟩
    walk_at "rd"
    refine ⟨a, C, _, _, b8, rfl, .ty _, ex, EC, e8, ?_⟩
    walk_at "rd"
    intro p4 n4
    first | refine newly n4 fun H4 s4 f4 => ?_ | refine newly2 n4 fun H4 s4 f4 => ?_
    replace ex := ex.same s4
    walk_at "rd"
    refine ⟨p3, p4, _, _, rfl, rfl, s4 _ _ f3, f4, by simp only [List.length_append, List.length_cons, List.length_nil]; decide, fun p5 n5 => ?_⟩
    first | refine newly n5 fun H5 s5 f5 => ?_ | refine newly2 n5 fun H5 s5 f5 => ?_
    replace ex := ex.same s5
    walk_at "rd"
    refine ⟨a, C, _, _, b9, rfl, .ty _, ex, EC, e9, ?_⟩
    walk_at "rd"
    refine ⟨a, C, _, _, b10, rfl, .ty _, ex, EC, e10, ?_⟩
    walk_at "rd"
    intro p6 n6
    first | refine newly n6 fun H6 s6 f6 => ?_ | refine newly2 n6 fun H6 s6 f6 => ?_
    replace ex := ex.same s6
    walk_at "rd"
    refine ⟨p5, p6, _, _, rfl, rfl, s6 _ _ f5, f6, by simp only [List.length_append, List.length_cons, List.length_nil]; decide, fun p7 n7 => ?_⟩
    first | refine newly n7 fun H7 s7 f7 => ?_ | refine newly2 n7 fun H7 s7 f7 => ?_
    replace ex := ex.same s7
    walk_at "rd"
    refine ⟨a, C, _, _, b11, rfl, .ty _, ex, EC, e11, ?_⟩
    walk_at "rd"
    intro p8 n8
    first | refine newly n8 fun H8 s8 f8 => ?_ | refine newly2 n8 fun H8 s8 f8 => ?_
    replace ex := ex.same s8
    walk_at "rd"
    refine ⟨p7, p8, _, _, rfl, rfl, s8 _ _ f7, f8, by simp only [List.length_append, List.length_cons, List.length_nil]; decide, fun p9 n9 => ?_⟩
    generalize hX : upd H8 p9 _ = H9
    have s9 : Same H8 H9 := hX ▸ Same.new n9
    have f9 : H9 p9 = some (.lst ([b0, b1, b2, b3, b4, b5, b6, b7, b8, b9, b10, b11].map V.bl)) := by
      rw [← hX]
      exact upd_same
    clear hX
    have sm : Same H H9 := ((((((((s1.trans s2).trans s3).trans s4).trans s5).trans s6).trans s7).trans s8).trans s9)
    have fl : H9 p9 = some (.lst ([b0, b1, b2, b3, b4, b5, b6, b7, b8, b9, b10, b11].map V.bl)) := f9
    clear ex
    generalize hb : [b0, b1, b2, b3, b4, b5, b6, b7, b8, b9, b10, b11] = bs at fl q
    have lb : bs.length = 12 := by rw [← hb]; rfl
    walk_at "rd"
    refine ⟨⟨_, SqL.of fl⟩, fun D nD => ?_⟩
    refine lc_list (K := K) (a := p9) (xs := bs.map V.bl) (PvA H9 D fun i => ((bs.map kx).map V.str).take i) (PvA.start nD rfl) (fun i H2 _ p => SqL.of (p.1 _ _ fl)) (fun i x H2 hx p => ?_) (fun H2 p => ?_)
    · obtain ⟨b, hbi, rfl⟩ := map_at hx
      have hb' : ((bs.map kx).map V.str)[i]? = some (V.str (kx b)) := at_map _ (at_map _ hbi)
      have hz' := take_lt (List.getElem?_eq_some_iff.mp hb').1 (by rw [List.length_map, List.length_map, lb]; decide)
      refine ⟨rfl, ?_⟩
      walk_at "rd"
      cases b with
      | true => exact PvA.put nD p.1 p.2 hz' (take_put hb')
      | false => exact PvA.put nD p.1 p.2 hz' (take_put hb')
    · have e2 : H2 D = some (.lst ((bs.map kx).map V.str)) := by
        have h4 : H2 D = some (.lst (((bs.map kx).map V.str).take (bs.map V.bl).length)) := p.2
        rwa [List.take_of_length_le (by rw [List.length_map, List.length_map, List.length_map]; exact Nat.le_refl _)] at h4
      have hs1 := sum_ones (zs := bs.map kx) (by
        intro z hz
        obtain ⟨b, _, rfl⟩ := List.mem_map.mp hz
        exact kx_len b)
      refine ⟨Str.ofString "", D, bs.map kx, rfl, rfl, .inl (SqL.of e2), ?_, ?_⟩
      · rw [hs1, List.length_map, lb]
        decide
      · rw [join_nil]
        exact q H2 (sm.trans p.1)
end




abbrev s__law_right : Stmt := topS 25
abbrev N__law_right : List Str := ["dice", "thing", "words", "base", "due", "others", "kept", "one", "at"]
theorem sc__law_right : FnScope N__law_right ["dice"] (defScope s__law_right) := ⟨rfl, rfl, rfl, by decide +kernel, rfl, by decide +kernel, by decide +kernel⟩

def words8 : List Str := ["", "no code", "a", "rest 3"]
abbrev bmVE : List Value := [.type "ValueError", .type "Exception", .type "BaseException", .type "object"]
/-! ### things and what is kept of them -/
/-- all of SB, for the dice at d -/
theorem DR.same {K : PySem.W.Frag} {H H' : Hp} {v : V} {d : PyData} (h : DR K H v d) (q : ∀ x e, Dp K H x e → Dp K H' x e) (qd : ∀ a o, H a = some (.dK o) → H' a = some (.dK o)) (qt : ∀ a xs, SqT K H a xs → SqT K H' a xs) : DR K H' v d := by
  cases h with
  | dat h n => exact .dat (q _ _ h) n
  | box h hp => exact .box (qd _ _ h) (qt _ _ hp)
def six (d : PyData) : PyData := .list (List.replicate 6 d)
def okd (d : PyData) : Bool := d.showable && (decide (d.depth ≤ 50) && (decide (d.shown.length ≤ 1000) && ((six d).showable && (decide ((six d).depth ≤ 50) && decide ((six d).shown.length ≤ 1000)))))
/-- a drawn thing: as data, whatever comes -/
def ThingOk (K : PySem.W.Frag) (d : Addr) (H : Hp) (v : V) : Prop := ∃ t, okd t = true ∧ ∀ H', SB d H H' → DR K H' v t
theorem ThingOk.on {K : PySem.W.Frag} {d : Addr} {H H' : Hp} {v : V} (h : ThingOk K d H v) (s : SB d H H') : ThingOk K d H' v := by
  obtain ⟨t, o, f⟩ := h
  exact ⟨t, o, fun H2 s2 => f H2 (s.trans s2)⟩
theorem okd_parts {d : PyData} (h : okd d = true) : d.showable = true ∧ d.depth ≤ 50 ∧ d.shown.length ≤ 1000 ∧ (six d).showable = true ∧ (six d).depth ≤ 50 ∧ (six d).shown.length ≤ 1000 := by
  unfold okd at h
  simp only [Bool.and_eq_true, decide_eq_true_eq] at h
  exact h
/-- what one of the others keeps -/
def Kept (H : Hp) (x : V) (C : Addr) (f : Str) (v : V) : Prop := ∃ a dx, x = .ref a ∧ H a = some (exo a C (some dx)) ∧ H dx = some (exd dx [(f, v)])
theorem Kept.same {H H' : Hp} {x v : V} {C : Addr} {f : Str} (s : Same H H') (h : Kept H x C f v) : Kept H' x C f v := by
  obtain ⟨a, dx, e, g, gd⟩ := h
  exact ⟨a, dx, e, s _ _ g, s _ _ gd⟩
theorem Kept.at {H : Hp} {x v : V} {C : Addr} {f : Str} (h : Kept H x C f v) : ∃ a, x = .ref a ∧ ExAt H a C := by
  obtain ⟨a, dx, e, g, gd⟩ := h
  exact ⟨a, e, .inr ⟨dx, _, g, gd⟩⟩
theorem madeE {H : Hp} {a dx C : Addr} {o : HO} {fs : List (Str × V)} (na : H a = none) (nd : upd H a o dx = none) (ne : dx ≠ a) :
    Same H (upd (upd (upd H a o) dx (exd dx fs)) a (exo a C (some dx))) ∧ upd (upd (upd H a o) dx (exd dx fs)) a (exo a C (some dx)) a = some (exo a C (some dx)) ∧ upd (upd (upd H a o) dx (exd dx fs)) a (exo a C (some dx)) dx = some (exd dx fs) := by
  refine ⟨fun b u hb => ?_, upd_same, ?_⟩
  · have h1 := ne_of_none hb na
    have h2 : b ≠ dx := by
      rw [upd_ne ne] at nd
      exact ne_of_none hb nd
    rw [upd_ne h1, upd_ne h2, upd_ne h1]
    exact hb
  · rw [upd_ne ne]
    exact upd_same
theorem rep6 {K : PySem.W.Frag} {H : Hp} {p : Addr} {v : V} {t : PyData} {Q : VK} (h : DR K H v t) (ok : okd t = true) (e : H p = some (.lst [v, v, v, v, v, v])) (q : Q (.str (six t).shown) H) : rReprD K [.ref p] H Q := by
  obtain ⟨_, _, _, p4, p5, p6⟩ := okd_parts ok
  cases h with
  | dat h n =>
    refine .inl ⟨.ref p, six t, rfl, .dat (.lst (SqL.of e) (.cons h (.cons h (.cons h (.cons h (.cons h (.cons h .nil))))))) ?_, p4, by omega, Nat.le_of_lt (small1000 p6), q⟩
    simp [six, List.replicate, PyData.hasDict, PyData.hasDictAll, n]
  | box h hp => exact .inr ⟨p, _, _, 5, _, six _, rfl, SqL.of e, h, hp, rfl, p4, by omega, Nat.le_of_lt (small1000 p6), q⟩
/-- x is an exception that these classes tell as z -/
def ToldAs (K : PySem.W.Frag) (vals : List Value) (H : Hp) (x : V) (z : Str) : Prop := ∃ a C bs, x = .ref a ∧ ExAt H a C ∧ L2.ExcC K C ∧ vals.map (PySem.W.kitOne K (.ref C)) = List.map some bs ∧ ktxt bs = z
theorem ToldAs.same {K : PySem.W.Frag} {vals : List Value} {H H' : Hp} {x : V} {z : Str} (s : Same H H') (h : ToldAs K vals H x z) : ToldAs K vals H' x z := by
  obtain ⟨a, C, bs, e, ex, r⟩ := h
  exact ⟨a, C, bs, e, ex.same s, r⟩
theorem paired_mono {α β : Type} {F G : α → β → Prop} {xs : List α} {ys : List β} (h : ∀ x y, F x y → G x y) (p : Paired F xs ys) : Paired G xs ys := by
  induction p with
  | nil => exact .nil
  | cons r _ ih => exact .cons (h _ _ r) ih
theorem Kept.told {K : PySem.W.Frag} {vals : List Value} {H : Hp} {x v : V} {C : Addr} {f z : Str} {bs : List Bool} (h : Kept H x C f v) (ec : L2.ExcC K C) (kk : vals.map (PySem.W.kitOne K (.ref C)) = bs.map some) (e : ktxt bs = z) : ToldAs K vals H x z := by
  obtain ⟨a, e1, ex⟩ := h.at
  exact ⟨a, C, bs, e1, ex, ec, kk, e⟩
theorem Kept.put {H : Hp} {x v : V} {C p : Addr} {f : Str} {o : HO} (h : Kept H x C f v) (n : ∀ b u, H b = some u → (∃ φ, u = .ext φ) → b ≠ p) : Kept (upd H p o) x C f v := by
  obtain ⟨a, dx, e, g, gd⟩ := h
  exact ⟨a, dx, e, by rw [upd_ne (n _ _ g ⟨_, rfl⟩)]; exact g, by rw [upd_ne (n _ _ gd ⟨_, rfl⟩)]; exact gd⟩

def kdue : List Str := ["x..........xx", ".x.........xx", "..x........xx", "...x.......xx", "....x......xx", ".....x.....xx", "......x....xx", ".......x...xx", "........x..xx", ".........x.xx", "..........xxx"]
theorem kdue_at : ∀ i : Nat, i < 11 → kdue[i]? = some (repS "." (0 + (i : Int)) ++ "x" ++ repS "." (10 - (0 + (i : Int))) ++ "xx") := by decide +kernel
theorem ExAt.put {H : Hp} {a C p : Addr} {o : HO} (h : ExAt H a C) (n : ∀ b u, H b = some u → (∃ φ, u = .ext φ) → b ≠ p) : ExAt (upd H p o) a C := by
  rcases h with ⟨t, g⟩ | ⟨dx, fs, g, gd⟩
  · exact .inl ⟨t, by rw [upd_ne (n _ _ g ⟨_, rfl⟩)]; exact g⟩
  · exact .inr ⟨dx, fs, by rw [upd_ne (n _ _ g ⟨_, rfl⟩)]; exact g, by rw [upd_ne (n _ _ gd ⟨_, rfl⟩)]; exact gd⟩
theorem ExAt.sb {H H' : Hp} {d a C : Addr} (D : Dice H d) (s : SB d H H') (h : ExAt H a C) : ExAt H' a C := by
  obtain ⟨x, y, z, _, _, _, e⟩ := D
  have ne : ∀ b u, H b = some u → (∃ φ, u = HO.ext φ) → b ≠ d := fun b u e1 hu z => by
    obtain ⟨φ, hu⟩ := hu
    rw [z, e] at e1
    cases e1
    cases hu
  rcases h with ⟨t, g⟩ | ⟨dx, fs, g, gd⟩
  · exact .inl ⟨t, s _ _ (ne _ _ g ⟨_, rfl⟩) g⟩
  · exact .inr ⟨dx, fs, s _ _ (ne _ _ g ⟨_, rfl⟩) g, s _ _ (ne _ _ gd ⟨_, rfl⟩) gd⟩
theorem ExAt.told {K : PySem.W.Frag} {vals : List Value} {H : Hp} {a C : Addr} {z : Str} {bs : List Bool} (h : ExAt H a C) (ec : L2.ExcC K C) (kk : vals.map (PySem.W.kitOne K (.ref C)) = bs.map some) (e : ktxt bs = z) : ToldAs K vals H (.ref a) z := ⟨a, C, bs, rfl, h, ec, kk, e⟩
/-- made with one text, told anew -/
def Made (H : Hp) (b C t : Addr) (ws : Str) : Prop := H b = some (exm b C t) ∧ H t = some (.tup [.str ws])
theorem Made.same {H H' : Hp} {b C t : Addr} {ws : Str} (s : Same H H') (h : Made H b C t ws) : Made H' b C t ws := ⟨s _ _ h.1, s _ _ h.2⟩
def StrAs (K : PySem.W.Frag) (H : Hp) (x : V) (z : Str) : Prop := ∃ a C t, x = .ref a ∧ Made H a C t z ∧ PySem.W.findIn K (.ref C) "__str__" = some (some (.builtin "BaseException.__str__")) ∧ PySem.W.subIn K (.ref C) (.type "BaseException") = some true
theorem Made.str {K : PySem.W.Frag} {H : Hp} {b C t : Addr} {ws : Str} (h : Made H b C t ws) (f1 : PySem.W.findIn K (.ref C) "__str__" = some (some (.builtin "BaseException.__str__"))) (f2 : L2.ExcC K C) : StrAs K H (.ref b) ws := ⟨b, C, t, rfl, h, f1, f2.hs⟩
theorem madeX {H : Hp} {a t C : Addr} {z : Str} (na : H a = none) (nt : H t = none) (ne : a ≠ t) : Same H (upd (upd H t (.tup [.str z])) a (exm a C t)) ∧ Made (upd (upd H t (.tup [.str z])) a (exm a C t)) a C t z :=
  ⟨(Same.new nt).trans (Same.new (by rw [upd_ne ne]; exact na)), upd_same, by rw [upd_ne ne.symm]; exact upd_same⟩
theorem boxX {H : Hp} {a p : Addr} {x : Str} (na : H a = none) (np : upd H a (.dK []) p = none) :
    Same H (upd (upd (upd H a (.dK [])) p (.tup [])) a (.dK (mergeK [] [(.inr x, .ref p)]))) ∧ upd (upd (upd H a (.dK [])) p (.tup [])) a (.dK (mergeK [] [(.inr x, .ref p)])) a = some (.dK [(.inr x, .ref p)]) ∧
      upd (upd (upd H a (.dK [])) p (.tup [])) a (.dK (mergeK [] [(.inr x, .ref p)])) p = some (.tup []) := by
  have ne : a ≠ p := ne_of_none upd_same np
  refine ⟨fun b u hb => ?_, upd_same, ?_⟩
  · have h1 := ne_of_none hb na
    have h2 : b ≠ p := by
      rw [upd_ne ne.symm] at np
      exact ne_of_none hb np
    rw [upd_ne h1, upd_ne h2, upd_ne h1]
    exact hb
  · rw [upd_ne ne.symm, upd_same]
theorem sh_words : ∀ ws ∈ words8, SeqAt.shaped (.list ((List.replicate 11 ws).map PyData.str)) = true := by
  have h : words8.all (fun ws => SeqAt.shaped (.list ((List.replicate 11 ws).map PyData.str))) = true := by decide +kernel
  exact fun ws hw => List.all_eq_true.mp h ws hw
def spRight8 : Sp := fun vs H Q _ => ∃ d, vs = [.ref d] ∧ Dice H d ∧ ∀ H', SB d H H' → Dice H' d → Q (.bl true) H'
section
variable {P : Program} {w : World} {K : PySem.W.Frag} {mg : Str → Option Value} {base : Heap}
theorem ok_right {C_InvalidWord C_InvalidCode C_InvalidProgram C_InvalidWorld C_InvalidFact C_InvalidTable C_InvalidLines C_InvalidContext C_InvalidMarking C_InvalidOperation C_ParseError C_RestError C_UnknownName C_UnknownPlace C_NothingToUndo C_TooMany C_Refused C_InvalidNumber fI_ParseError fI_UnknownName fI_UnknownPlace fI_NothingToUndo fI_TooMany fI_Refused fI_InvalidNumber : Addr} {fd_ParseError fd_UnknownName fd_UnknownPlace fd_NothingToUndo fd_TooMany fd_Refused fd_InvalidNumber : FuncData} (h : Has K mg "_law_right" s__law_right ["dice"]) (R : Ok P w K mg base 1 "_law_roll" ["dice", "total"] spRoll) (RP : Ok P w K mg base 2 "_law_pick" ["dice", "items"] (spPick K)) (RK : Ok P w K mg base 1 "_law_kinds" ["error"] (spTold K [.ref C_InvalidWord, .ref C_InvalidCode, .ref C_InvalidProgram, .ref C_InvalidWorld, .ref C_InvalidFact, .ref C_InvalidTable, .ref C_InvalidLines, .ref C_InvalidContext, .ref C_InvalidMarking, .ref C_InvalidOperation, .ref C_ParseError, .ref C_RestError, .type "ValueError"])) (RO : Ok P w K mg base 1 "_law_others" ["error"] (spTold K [.ref C_UnknownName, .ref C_UnknownPlace, .ref C_NothingToUndo, .ref C_TooMany, .ref C_Refused, .ref C_InvalidNumber, .type "KeyError", .type "IndexError", .type "LookupError", .type "OverflowError", .type "ArithmeticError", .type "RuntimeError"]))
    (xP_InvalidWord : PySem.W.excIn K C_InvalidWord bmVE "ValueError.__new__" = true)
    (gP_InvalidWord : mg "InvalidWord" = some (.ref C_InvalidWord))
    (kP_InvalidWord : PySem.W.keepIn K (.ref C_InvalidWord) = true)
    (st_InvalidWord : PySem.W.findIn K (.ref C_InvalidWord) "__str__" = some (some (.builtin "BaseException.__str__")))
    (xP_InvalidCode : PySem.W.excIn K C_InvalidCode bmVE "ValueError.__new__" = true)
    (gP_InvalidCode : mg "InvalidCode" = some (.ref C_InvalidCode))
    (kP_InvalidCode : PySem.W.keepIn K (.ref C_InvalidCode) = true)
    (st_InvalidCode : PySem.W.findIn K (.ref C_InvalidCode) "__str__" = some (some (.builtin "BaseException.__str__")))
    (xP_InvalidProgram : PySem.W.excIn K C_InvalidProgram bmVE "ValueError.__new__" = true)
    (gP_InvalidProgram : mg "InvalidProgram" = some (.ref C_InvalidProgram))
    (kP_InvalidProgram : PySem.W.keepIn K (.ref C_InvalidProgram) = true)
    (st_InvalidProgram : PySem.W.findIn K (.ref C_InvalidProgram) "__str__" = some (some (.builtin "BaseException.__str__")))
    (xP_InvalidWorld : PySem.W.excIn K C_InvalidWorld bmVE "ValueError.__new__" = true)
    (gP_InvalidWorld : mg "InvalidWorld" = some (.ref C_InvalidWorld))
    (kP_InvalidWorld : PySem.W.keepIn K (.ref C_InvalidWorld) = true)
    (st_InvalidWorld : PySem.W.findIn K (.ref C_InvalidWorld) "__str__" = some (some (.builtin "BaseException.__str__")))
    (xP_InvalidFact : PySem.W.excIn K C_InvalidFact bmVE "ValueError.__new__" = true)
    (gP_InvalidFact : mg "InvalidFact" = some (.ref C_InvalidFact))
    (kP_InvalidFact : PySem.W.keepIn K (.ref C_InvalidFact) = true)
    (st_InvalidFact : PySem.W.findIn K (.ref C_InvalidFact) "__str__" = some (some (.builtin "BaseException.__str__")))
    (xP_InvalidTable : PySem.W.excIn K C_InvalidTable bmVE "ValueError.__new__" = true)
    (gP_InvalidTable : mg "InvalidTable" = some (.ref C_InvalidTable))
    (kP_InvalidTable : PySem.W.keepIn K (.ref C_InvalidTable) = true)
    (st_InvalidTable : PySem.W.findIn K (.ref C_InvalidTable) "__str__" = some (some (.builtin "BaseException.__str__")))
    (xP_InvalidLines : PySem.W.excIn K C_InvalidLines bmVE "ValueError.__new__" = true)
    (gP_InvalidLines : mg "InvalidLines" = some (.ref C_InvalidLines))
    (kP_InvalidLines : PySem.W.keepIn K (.ref C_InvalidLines) = true)
    (st_InvalidLines : PySem.W.findIn K (.ref C_InvalidLines) "__str__" = some (some (.builtin "BaseException.__str__")))
    (xP_InvalidContext : PySem.W.excIn K C_InvalidContext bmVE "ValueError.__new__" = true)
    (gP_InvalidContext : mg "InvalidContext" = some (.ref C_InvalidContext))
    (kP_InvalidContext : PySem.W.keepIn K (.ref C_InvalidContext) = true)
    (st_InvalidContext : PySem.W.findIn K (.ref C_InvalidContext) "__str__" = some (some (.builtin "BaseException.__str__")))
    (xP_InvalidMarking : PySem.W.excIn K C_InvalidMarking bmVE "ValueError.__new__" = true)
    (gP_InvalidMarking : mg "InvalidMarking" = some (.ref C_InvalidMarking))
    (kP_InvalidMarking : PySem.W.keepIn K (.ref C_InvalidMarking) = true)
    (st_InvalidMarking : PySem.W.findIn K (.ref C_InvalidMarking) "__str__" = some (some (.builtin "BaseException.__str__")))
    (xP_InvalidOperation : PySem.W.excIn K C_InvalidOperation bmVE "ValueError.__new__" = true)
    (gP_InvalidOperation : mg "InvalidOperation" = some (.ref C_InvalidOperation))
    (kP_InvalidOperation : PySem.W.keepIn K (.ref C_InvalidOperation) = true)
    (st_InvalidOperation : PySem.W.findIn K (.ref C_InvalidOperation) "__str__" = some (some (.builtin "BaseException.__str__")))
    (xP_RestError : PySem.W.excIn K C_RestError bmVE "ValueError.__new__" = true)
    (gP_RestError : mg "RestError" = some (.ref C_RestError))
    (kP_RestError : PySem.W.keepIn K (.ref C_RestError) = true)
    (st_RestError : PySem.W.findIn K (.ref C_RestError) "__str__" = some (some (.builtin "BaseException.__str__")))
    (T_ParseError : OexB K C_ParseError "ValueError.__new__" [.type "ValueError", .type "Exception", .type "BaseException", .type "object"])
    (iC_ParseError : PySem.W.findIn K (.ref C_ParseError) "__init__" = some (some (.ref fI_ParseError)))
    (tI_ParseError : PySem.W.typeIn K (.ref fI_ParseError) = some (.type "function"))
    (F_ParseError : FnOk P w K mg base CX0 1 fI_ParseError fd_ParseError ["self", "line"] (spSup C_ParseError "line"))
    (b_ParseError : L2.Binds K fd_ParseError ["self", "line"] [])
    (gP_ParseError : mg "ParseError" = some (.ref C_ParseError))
    (XF_ParseError : XfC K C_ParseError)
    (no_ParseError : PySem.W.findIn K (.ref C_ParseError) "line" = some none)
    (T_UnknownName : OexB K C_UnknownName "LookupError.__new__" [.type "KeyError", .type "LookupError", .type "Exception", .type "BaseException", .type "object"])
    (iC_UnknownName : PySem.W.findIn K (.ref C_UnknownName) "__init__" = some (some (.ref fI_UnknownName)))
    (tI_UnknownName : PySem.W.typeIn K (.ref fI_UnknownName) = some (.type "function"))
    (F_UnknownName : FnOk P w K mg base CX0 1 fI_UnknownName fd_UnknownName ["self", "wanted"] (spSup C_UnknownName "wanted"))
    (b_UnknownName : L2.Binds K fd_UnknownName ["self", "wanted"] [])
    (gP_UnknownName : mg "UnknownName" = some (.ref C_UnknownName))
    (XF_UnknownName : XfC K C_UnknownName)
    (no_UnknownName : PySem.W.findIn K (.ref C_UnknownName) "wanted" = some none)
    (T_UnknownPlace : OexB K C_UnknownPlace "LookupError.__new__" [.type "LookupError", .type "Exception", .type "BaseException", .type "object"])
    (iC_UnknownPlace : PySem.W.findIn K (.ref C_UnknownPlace) "__init__" = some (some (.ref fI_UnknownPlace)))
    (tI_UnknownPlace : PySem.W.typeIn K (.ref fI_UnknownPlace) = some (.type "function"))
    (F_UnknownPlace : FnOk P w K mg base CX0 1 fI_UnknownPlace fd_UnknownPlace ["self", "spot"] (spSup C_UnknownPlace "spot"))
    (b_UnknownPlace : L2.Binds K fd_UnknownPlace ["self", "spot"] [])
    (gP_UnknownPlace : mg "UnknownPlace" = some (.ref C_UnknownPlace))
    (XF_UnknownPlace : XfC K C_UnknownPlace)
    (no_UnknownPlace : PySem.W.findIn K (.ref C_UnknownPlace) "spot" = some none)
    (T_NothingToUndo : OexB K C_NothingToUndo "IndexError.__new__" [.type "IndexError", .type "LookupError", .type "Exception", .type "BaseException", .type "object"])
    (iC_NothingToUndo : PySem.W.findIn K (.ref C_NothingToUndo) "__init__" = some (some (.ref fI_NothingToUndo)))
    (tI_NothingToUndo : PySem.W.typeIn K (.ref fI_NothingToUndo) = some (.type "function"))
    (F_NothingToUndo : FnOk P w K mg base CX0 1 fI_NothingToUndo fd_NothingToUndo ["self", "many"] (spSup C_NothingToUndo "many"))
    (b_NothingToUndo : L2.Binds K fd_NothingToUndo ["self", "many"] [])
    (gP_NothingToUndo : mg "NothingToUndo" = some (.ref C_NothingToUndo))
    (XF_NothingToUndo : XfC K C_NothingToUndo)
    (no_NothingToUndo : PySem.W.findIn K (.ref C_NothingToUndo) "many" = some none)
    (T_TooMany : OexB K C_TooMany "OverflowError.__new__" [.type "OverflowError", .type "ArithmeticError", .type "Exception", .type "BaseException", .type "object"])
    (iC_TooMany : PySem.W.findIn K (.ref C_TooMany) "__init__" = some (some (.ref fI_TooMany)))
    (tI_TooMany : PySem.W.typeIn K (.ref fI_TooMany) = some (.type "function"))
    (F_TooMany : FnOk P w K mg base CX0 1 fI_TooMany fd_TooMany ["self", "limit"] (spSup C_TooMany "limit"))
    (b_TooMany : L2.Binds K fd_TooMany ["self", "limit"] [])
    (gP_TooMany : mg "TooMany" = some (.ref C_TooMany))
    (XF_TooMany : XfC K C_TooMany)
    (no_TooMany : PySem.W.findIn K (.ref C_TooMany) "limit" = some none)
    (T_Refused : OexB K C_Refused "ArithmeticError.__new__" [.type "ArithmeticError", .type "Exception", .type "BaseException", .type "object"])
    (iC_Refused : PySem.W.findIn K (.ref C_Refused) "__init__" = some (some (.ref fI_Refused)))
    (tI_Refused : PySem.W.typeIn K (.ref fI_Refused) = some (.type "function"))
    (F_Refused : FnOk P w K mg base CX0 1 fI_Refused fd_Refused ["self", "reason"] (spSup C_Refused "reason"))
    (b_Refused : L2.Binds K fd_Refused ["self", "reason"] [])
    (gP_Refused : mg "Refused" = some (.ref C_Refused))
    (XF_Refused : XfC K C_Refused)
    (no_Refused : PySem.W.findIn K (.ref C_Refused) "reason" = some none)
    (T_InvalidNumber : OexB K C_InvalidNumber "RuntimeError.__new__" [.type "RuntimeError", .type "Exception", .type "BaseException", .type "object"])
    (iC_InvalidNumber : PySem.W.findIn K (.ref C_InvalidNumber) "__init__" = some (some (.ref fI_InvalidNumber)))
    (tI_InvalidNumber : PySem.W.typeIn K (.ref fI_InvalidNumber) = some (.type "function"))
    (F_InvalidNumber : FnOk P w K mg base CX0 1 fI_InvalidNumber fd_InvalidNumber ["self", "number"] (spSup C_InvalidNumber "number"))
    (b_InvalidNumber : L2.Binds K fd_InvalidNumber ["self", "number"] [])
    (gP_InvalidNumber : mg "InvalidNumber" = some (.ref C_InvalidNumber))
    (XF_InvalidNumber : XfC K C_InvalidNumber)
    (no_InvalidNumber : PySem.W.findIn K (.ref C_InvalidNumber) "number" = some none)
    (EC_InvalidWord : L2.ExcC K C_InvalidWord)
    (kk_InvalidWord : [.ref C_InvalidWord, .ref C_InvalidCode, .ref C_InvalidProgram, .ref C_InvalidWorld, .ref C_InvalidFact, .ref C_InvalidTable, .ref C_InvalidLines, .ref C_InvalidContext, .ref C_InvalidMarking, .ref C_InvalidOperation, .ref C_ParseError, .ref C_RestError, .type "ValueError"].map (PySem.W.kitOne K (.ref C_InvalidWord)) = [true, false, false, false, false, false, false, false, false, false, false, true, true].map some)
    (ko_InvalidWord : [.ref C_UnknownName, .ref C_UnknownPlace, .ref C_NothingToUndo, .ref C_TooMany, .ref C_Refused, .ref C_InvalidNumber, .type "KeyError", .type "IndexError", .type "LookupError", .type "OverflowError", .type "ArithmeticError", .type "RuntimeError"].map (PySem.W.kitOne K (.ref C_InvalidWord)) = [false, false, false, false, false, false, false, false, false, false, false, false].map some)
    (EC_InvalidCode : L2.ExcC K C_InvalidCode)
    (kk_InvalidCode : [.ref C_InvalidWord, .ref C_InvalidCode, .ref C_InvalidProgram, .ref C_InvalidWorld, .ref C_InvalidFact, .ref C_InvalidTable, .ref C_InvalidLines, .ref C_InvalidContext, .ref C_InvalidMarking, .ref C_InvalidOperation, .ref C_ParseError, .ref C_RestError, .type "ValueError"].map (PySem.W.kitOne K (.ref C_InvalidCode)) = [false, true, false, false, false, false, false, false, false, false, false, true, true].map some)
    (ko_InvalidCode : [.ref C_UnknownName, .ref C_UnknownPlace, .ref C_NothingToUndo, .ref C_TooMany, .ref C_Refused, .ref C_InvalidNumber, .type "KeyError", .type "IndexError", .type "LookupError", .type "OverflowError", .type "ArithmeticError", .type "RuntimeError"].map (PySem.W.kitOne K (.ref C_InvalidCode)) = [false, false, false, false, false, false, false, false, false, false, false, false].map some)
    (EC_InvalidProgram : L2.ExcC K C_InvalidProgram)
    (kk_InvalidProgram : [.ref C_InvalidWord, .ref C_InvalidCode, .ref C_InvalidProgram, .ref C_InvalidWorld, .ref C_InvalidFact, .ref C_InvalidTable, .ref C_InvalidLines, .ref C_InvalidContext, .ref C_InvalidMarking, .ref C_InvalidOperation, .ref C_ParseError, .ref C_RestError, .type "ValueError"].map (PySem.W.kitOne K (.ref C_InvalidProgram)) = [false, false, true, false, false, false, false, false, false, false, false, true, true].map some)
    (ko_InvalidProgram : [.ref C_UnknownName, .ref C_UnknownPlace, .ref C_NothingToUndo, .ref C_TooMany, .ref C_Refused, .ref C_InvalidNumber, .type "KeyError", .type "IndexError", .type "LookupError", .type "OverflowError", .type "ArithmeticError", .type "RuntimeError"].map (PySem.W.kitOne K (.ref C_InvalidProgram)) = [false, false, false, false, false, false, false, false, false, false, false, false].map some)
    (EC_InvalidWorld : L2.ExcC K C_InvalidWorld)
    (kk_InvalidWorld : [.ref C_InvalidWord, .ref C_InvalidCode, .ref C_InvalidProgram, .ref C_InvalidWorld, .ref C_InvalidFact, .ref C_InvalidTable, .ref C_InvalidLines, .ref C_InvalidContext, .ref C_InvalidMarking, .ref C_InvalidOperation, .ref C_ParseError, .ref C_RestError, .type "ValueError"].map (PySem.W.kitOne K (.ref C_InvalidWorld)) = [false, false, false, true, false, false, false, false, false, false, false, true, true].map some)
    (ko_InvalidWorld : [.ref C_UnknownName, .ref C_UnknownPlace, .ref C_NothingToUndo, .ref C_TooMany, .ref C_Refused, .ref C_InvalidNumber, .type "KeyError", .type "IndexError", .type "LookupError", .type "OverflowError", .type "ArithmeticError", .type "RuntimeError"].map (PySem.W.kitOne K (.ref C_InvalidWorld)) = [false, false, false, false, false, false, false, false, false, false, false, false].map some)
    (EC_InvalidFact : L2.ExcC K C_InvalidFact)
    (kk_InvalidFact : [.ref C_InvalidWord, .ref C_InvalidCode, .ref C_InvalidProgram, .ref C_InvalidWorld, .ref C_InvalidFact, .ref C_InvalidTable, .ref C_InvalidLines, .ref C_InvalidContext, .ref C_InvalidMarking, .ref C_InvalidOperation, .ref C_ParseError, .ref C_RestError, .type "ValueError"].map (PySem.W.kitOne K (.ref C_InvalidFact)) = [false, false, false, false, true, false, false, false, false, false, false, true, true].map some)
    (ko_InvalidFact : [.ref C_UnknownName, .ref C_UnknownPlace, .ref C_NothingToUndo, .ref C_TooMany, .ref C_Refused, .ref C_InvalidNumber, .type "KeyError", .type "IndexError", .type "LookupError", .type "OverflowError", .type "ArithmeticError", .type "RuntimeError"].map (PySem.W.kitOne K (.ref C_InvalidFact)) = [false, false, false, false, false, false, false, false, false, false, false, false].map some)
    (EC_InvalidTable : L2.ExcC K C_InvalidTable)
    (kk_InvalidTable : [.ref C_InvalidWord, .ref C_InvalidCode, .ref C_InvalidProgram, .ref C_InvalidWorld, .ref C_InvalidFact, .ref C_InvalidTable, .ref C_InvalidLines, .ref C_InvalidContext, .ref C_InvalidMarking, .ref C_InvalidOperation, .ref C_ParseError, .ref C_RestError, .type "ValueError"].map (PySem.W.kitOne K (.ref C_InvalidTable)) = [false, false, false, false, false, true, false, false, false, false, false, true, true].map some)
    (ko_InvalidTable : [.ref C_UnknownName, .ref C_UnknownPlace, .ref C_NothingToUndo, .ref C_TooMany, .ref C_Refused, .ref C_InvalidNumber, .type "KeyError", .type "IndexError", .type "LookupError", .type "OverflowError", .type "ArithmeticError", .type "RuntimeError"].map (PySem.W.kitOne K (.ref C_InvalidTable)) = [false, false, false, false, false, false, false, false, false, false, false, false].map some)
    (EC_InvalidLines : L2.ExcC K C_InvalidLines)
    (kk_InvalidLines : [.ref C_InvalidWord, .ref C_InvalidCode, .ref C_InvalidProgram, .ref C_InvalidWorld, .ref C_InvalidFact, .ref C_InvalidTable, .ref C_InvalidLines, .ref C_InvalidContext, .ref C_InvalidMarking, .ref C_InvalidOperation, .ref C_ParseError, .ref C_RestError, .type "ValueError"].map (PySem.W.kitOne K (.ref C_InvalidLines)) = [false, false, false, false, false, false, true, false, false, false, false, true, true].map some)
    (ko_InvalidLines : [.ref C_UnknownName, .ref C_UnknownPlace, .ref C_NothingToUndo, .ref C_TooMany, .ref C_Refused, .ref C_InvalidNumber, .type "KeyError", .type "IndexError", .type "LookupError", .type "OverflowError", .type "ArithmeticError", .type "RuntimeError"].map (PySem.W.kitOne K (.ref C_InvalidLines)) = [false, false, false, false, false, false, false, false, false, false, false, false].map some)
    (EC_InvalidContext : L2.ExcC K C_InvalidContext)
    (kk_InvalidContext : [.ref C_InvalidWord, .ref C_InvalidCode, .ref C_InvalidProgram, .ref C_InvalidWorld, .ref C_InvalidFact, .ref C_InvalidTable, .ref C_InvalidLines, .ref C_InvalidContext, .ref C_InvalidMarking, .ref C_InvalidOperation, .ref C_ParseError, .ref C_RestError, .type "ValueError"].map (PySem.W.kitOne K (.ref C_InvalidContext)) = [false, false, false, false, false, false, false, true, false, false, false, true, true].map some)
    (ko_InvalidContext : [.ref C_UnknownName, .ref C_UnknownPlace, .ref C_NothingToUndo, .ref C_TooMany, .ref C_Refused, .ref C_InvalidNumber, .type "KeyError", .type "IndexError", .type "LookupError", .type "OverflowError", .type "ArithmeticError", .type "RuntimeError"].map (PySem.W.kitOne K (.ref C_InvalidContext)) = [false, false, false, false, false, false, false, false, false, false, false, false].map some)
    (EC_InvalidMarking : L2.ExcC K C_InvalidMarking)
    (kk_InvalidMarking : [.ref C_InvalidWord, .ref C_InvalidCode, .ref C_InvalidProgram, .ref C_InvalidWorld, .ref C_InvalidFact, .ref C_InvalidTable, .ref C_InvalidLines, .ref C_InvalidContext, .ref C_InvalidMarking, .ref C_InvalidOperation, .ref C_ParseError, .ref C_RestError, .type "ValueError"].map (PySem.W.kitOne K (.ref C_InvalidMarking)) = [false, false, false, false, false, false, false, false, true, false, false, true, true].map some)
    (ko_InvalidMarking : [.ref C_UnknownName, .ref C_UnknownPlace, .ref C_NothingToUndo, .ref C_TooMany, .ref C_Refused, .ref C_InvalidNumber, .type "KeyError", .type "IndexError", .type "LookupError", .type "OverflowError", .type "ArithmeticError", .type "RuntimeError"].map (PySem.W.kitOne K (.ref C_InvalidMarking)) = [false, false, false, false, false, false, false, false, false, false, false, false].map some)
    (EC_InvalidOperation : L2.ExcC K C_InvalidOperation)
    (kk_InvalidOperation : [.ref C_InvalidWord, .ref C_InvalidCode, .ref C_InvalidProgram, .ref C_InvalidWorld, .ref C_InvalidFact, .ref C_InvalidTable, .ref C_InvalidLines, .ref C_InvalidContext, .ref C_InvalidMarking, .ref C_InvalidOperation, .ref C_ParseError, .ref C_RestError, .type "ValueError"].map (PySem.W.kitOne K (.ref C_InvalidOperation)) = [false, false, false, false, false, false, false, false, false, true, false, true, true].map some)
    (ko_InvalidOperation : [.ref C_UnknownName, .ref C_UnknownPlace, .ref C_NothingToUndo, .ref C_TooMany, .ref C_Refused, .ref C_InvalidNumber, .type "KeyError", .type "IndexError", .type "LookupError", .type "OverflowError", .type "ArithmeticError", .type "RuntimeError"].map (PySem.W.kitOne K (.ref C_InvalidOperation)) = [false, false, false, false, false, false, false, false, false, false, false, false].map some)
    (EC_ParseError : L2.ExcC K C_ParseError)
    (kk_ParseError : [.ref C_InvalidWord, .ref C_InvalidCode, .ref C_InvalidProgram, .ref C_InvalidWorld, .ref C_InvalidFact, .ref C_InvalidTable, .ref C_InvalidLines, .ref C_InvalidContext, .ref C_InvalidMarking, .ref C_InvalidOperation, .ref C_ParseError, .ref C_RestError, .type "ValueError"].map (PySem.W.kitOne K (.ref C_ParseError)) = [false, false, false, false, false, false, false, false, false, false, true, true, true].map some)
    (ko_ParseError : [.ref C_UnknownName, .ref C_UnknownPlace, .ref C_NothingToUndo, .ref C_TooMany, .ref C_Refused, .ref C_InvalidNumber, .type "KeyError", .type "IndexError", .type "LookupError", .type "OverflowError", .type "ArithmeticError", .type "RuntimeError"].map (PySem.W.kitOne K (.ref C_ParseError)) = [false, false, false, false, false, false, false, false, false, false, false, false].map some)
    (EC_RestError : L2.ExcC K C_RestError)
    (kk_RestError : [.ref C_InvalidWord, .ref C_InvalidCode, .ref C_InvalidProgram, .ref C_InvalidWorld, .ref C_InvalidFact, .ref C_InvalidTable, .ref C_InvalidLines, .ref C_InvalidContext, .ref C_InvalidMarking, .ref C_InvalidOperation, .ref C_ParseError, .ref C_RestError, .type "ValueError"].map (PySem.W.kitOne K (.ref C_RestError)) = [false, false, false, false, false, false, false, false, false, false, false, true, true].map some)
    (ko_RestError : [.ref C_UnknownName, .ref C_UnknownPlace, .ref C_NothingToUndo, .ref C_TooMany, .ref C_Refused, .ref C_InvalidNumber, .type "KeyError", .type "IndexError", .type "LookupError", .type "OverflowError", .type "ArithmeticError", .type "RuntimeError"].map (PySem.W.kitOne K (.ref C_RestError)) = [false, false, false, false, false, false, false, false, false, false, false, false].map some)
    (EC_UnknownName : L2.ExcC K C_UnknownName)
    (kk_UnknownName : [.ref C_InvalidWord, .ref C_InvalidCode, .ref C_InvalidProgram, .ref C_InvalidWorld, .ref C_InvalidFact, .ref C_InvalidTable, .ref C_InvalidLines, .ref C_InvalidContext, .ref C_InvalidMarking, .ref C_InvalidOperation, .ref C_ParseError, .ref C_RestError, .type "ValueError"].map (PySem.W.kitOne K (.ref C_UnknownName)) = [false, false, false, false, false, false, false, false, false, false, false, false, false].map some)
    (ko_UnknownName : [.ref C_UnknownName, .ref C_UnknownPlace, .ref C_NothingToUndo, .ref C_TooMany, .ref C_Refused, .ref C_InvalidNumber, .type "KeyError", .type "IndexError", .type "LookupError", .type "OverflowError", .type "ArithmeticError", .type "RuntimeError"].map (PySem.W.kitOne K (.ref C_UnknownName)) = [true, false, false, false, false, false, true, false, true, false, false, false].map some)
    (EC_UnknownPlace : L2.ExcC K C_UnknownPlace)
    (kk_UnknownPlace : [.ref C_InvalidWord, .ref C_InvalidCode, .ref C_InvalidProgram, .ref C_InvalidWorld, .ref C_InvalidFact, .ref C_InvalidTable, .ref C_InvalidLines, .ref C_InvalidContext, .ref C_InvalidMarking, .ref C_InvalidOperation, .ref C_ParseError, .ref C_RestError, .type "ValueError"].map (PySem.W.kitOne K (.ref C_UnknownPlace)) = [false, false, false, false, false, false, false, false, false, false, false, false, false].map some)
    (ko_UnknownPlace : [.ref C_UnknownName, .ref C_UnknownPlace, .ref C_NothingToUndo, .ref C_TooMany, .ref C_Refused, .ref C_InvalidNumber, .type "KeyError", .type "IndexError", .type "LookupError", .type "OverflowError", .type "ArithmeticError", .type "RuntimeError"].map (PySem.W.kitOne K (.ref C_UnknownPlace)) = [false, true, false, false, false, false, false, false, true, false, false, false].map some)
    (EC_NothingToUndo : L2.ExcC K C_NothingToUndo)
    (kk_NothingToUndo : [.ref C_InvalidWord, .ref C_InvalidCode, .ref C_InvalidProgram, .ref C_InvalidWorld, .ref C_InvalidFact, .ref C_InvalidTable, .ref C_InvalidLines, .ref C_InvalidContext, .ref C_InvalidMarking, .ref C_InvalidOperation, .ref C_ParseError, .ref C_RestError, .type "ValueError"].map (PySem.W.kitOne K (.ref C_NothingToUndo)) = [false, false, false, false, false, false, false, false, false, false, false, false, false].map some)
    (ko_NothingToUndo : [.ref C_UnknownName, .ref C_UnknownPlace, .ref C_NothingToUndo, .ref C_TooMany, .ref C_Refused, .ref C_InvalidNumber, .type "KeyError", .type "IndexError", .type "LookupError", .type "OverflowError", .type "ArithmeticError", .type "RuntimeError"].map (PySem.W.kitOne K (.ref C_NothingToUndo)) = [false, false, true, false, false, false, false, true, true, false, false, false].map some)
    (EC_TooMany : L2.ExcC K C_TooMany)
    (kk_TooMany : [.ref C_InvalidWord, .ref C_InvalidCode, .ref C_InvalidProgram, .ref C_InvalidWorld, .ref C_InvalidFact, .ref C_InvalidTable, .ref C_InvalidLines, .ref C_InvalidContext, .ref C_InvalidMarking, .ref C_InvalidOperation, .ref C_ParseError, .ref C_RestError, .type "ValueError"].map (PySem.W.kitOne K (.ref C_TooMany)) = [false, false, false, false, false, false, false, false, false, false, false, false, false].map some)
    (ko_TooMany : [.ref C_UnknownName, .ref C_UnknownPlace, .ref C_NothingToUndo, .ref C_TooMany, .ref C_Refused, .ref C_InvalidNumber, .type "KeyError", .type "IndexError", .type "LookupError", .type "OverflowError", .type "ArithmeticError", .type "RuntimeError"].map (PySem.W.kitOne K (.ref C_TooMany)) = [false, false, false, true, false, false, false, false, false, true, true, false].map some)
    (EC_Refused : L2.ExcC K C_Refused)
    (kk_Refused : [.ref C_InvalidWord, .ref C_InvalidCode, .ref C_InvalidProgram, .ref C_InvalidWorld, .ref C_InvalidFact, .ref C_InvalidTable, .ref C_InvalidLines, .ref C_InvalidContext, .ref C_InvalidMarking, .ref C_InvalidOperation, .ref C_ParseError, .ref C_RestError, .type "ValueError"].map (PySem.W.kitOne K (.ref C_Refused)) = [false, false, false, false, false, false, false, false, false, false, false, false, false].map some)
    (ko_Refused : [.ref C_UnknownName, .ref C_UnknownPlace, .ref C_NothingToUndo, .ref C_TooMany, .ref C_Refused, .ref C_InvalidNumber, .type "KeyError", .type "IndexError", .type "LookupError", .type "OverflowError", .type "ArithmeticError", .type "RuntimeError"].map (PySem.W.kitOne K (.ref C_Refused)) = [false, false, false, false, true, false, false, false, false, false, true, false].map some)
    (EC_InvalidNumber : L2.ExcC K C_InvalidNumber)
    (kk_InvalidNumber : [.ref C_InvalidWord, .ref C_InvalidCode, .ref C_InvalidProgram, .ref C_InvalidWorld, .ref C_InvalidFact, .ref C_InvalidTable, .ref C_InvalidLines, .ref C_InvalidContext, .ref C_InvalidMarking, .ref C_InvalidOperation, .ref C_ParseError, .ref C_RestError, .type "ValueError"].map (PySem.W.kitOne K (.ref C_InvalidNumber)) = [false, false, false, false, false, false, false, false, false, false, false, false, false].map some)
    (ko_InvalidNumber : [.ref C_UnknownName, .ref C_UnknownPlace, .ref C_NothingToUndo, .ref C_TooMany, .ref C_Refused, .ref C_InvalidNumber, .type "KeyError", .type "IndexError", .type "LookupError", .type "OverflowError", .type "ArithmeticError", .type "RuntimeError"].map (PySem.W.kitOne K (.ref C_InvalidNumber)) = [false, false, false, false, false, true, false, false, false, false, false, true].map some)
    (z_len : mg "len" = none) (z_str : mg "str" = none) (z_repr : mg "repr" = none) (z_range : mg "range" = none) :
    ∃ f fd, mg "_law_right" = some (.ref f) ∧ PySem.W.keepIn K (.ref f) = true ∧ L2.Binds K fd ["dice"] [] ∧ FnG P w K mg base CX0 3 f fd ["dice"] spRight8 := by
  obtain ⟨fV, fdV, g_, F, b_⟩ := h
  obtain ⟨fR, fdR, g__law_roll, k__law_roll, b__law_roll, G__law_roll⟩ := R
  obtain ⟨fP, fdP, g__law_pick, k__law_pick, b__law_pick, G__law_pick⟩ := RP
  obtain ⟨fK, fdK, g__law_kinds, k__law_kinds, b__law_kinds, G__law_kinds⟩ := RK
  obtain ⟨fO, fdO, g__law_others, k__law_others, b__law_others, G__law_others⟩ := RO
  refine ⟨fV, fdV, g_, F.kp, b_, Rw.Fun.okG F sc__law_right (fun vs H Q E h => ?_) (fun cdv B fs t H vs Q E hgd hr h => ?_)⟩
  · obtain ⟨d, rfl, _⟩ := h
    rfl
  · obtain ⟨d, rfl, hD, q⟩ := h
    have hr__law_pick : Room 2 _ := hr
    have hr_ex : Room 2 _ := hr
    have hr__law_roll : Room 1 _ := hr.mono (by decide)
    have hr__law_kinds := hr__law_roll
    have hr__law_others := hr__law_roll
    let D0 : Ends := { nx := fun _ H' => Q .non H', rt := Q }
    obtain ⟨t13, h13, k13⟩ : ∃ t13, PSs (cxOf CX0 P w K mg base N__law_right "_law_right" (defScope s__law_right) fV cdv B fs t H E).nox ((defBody s__law_right).drop 13) t13 ∧
        ∀ HV v (ws : Str) bl du ol (xs : List V) e10 (o0 o1 o2 o3 o4 o5 : V), Dice HV d → SB d H HV → ThingOk K d HV v → HV bl = some (.lst xs) → xs.length = 11 → xs[10]? = some (.ref e10) → ExAt HV e10 C_ParseError → HV ol = some (.lst [o0, o1, o2, o3, o4, o5]) →
          Kept HV o0 C_UnknownName "wanted" v → Kept HV o1 C_UnknownPlace "spot" v → Kept HV o2 C_NothingToUndo "many" v → Kept HV o3 C_TooMany "limit" v → Kept HV o4 C_Refused "reason" v → Kept HV o5 C_InvalidNumber "number" v → t13 D0 [some (.ref d), some v, some (.str ws), some (.ref bl), some (.ref du), some (.ref ol), none, none, none] HV := by
      refine ⟨_, (pss_cons (ps_if (PW.pt (pw_or (pt_cmpR op_ne (pe_call G__law_others hr__law_others (by rfl) g__law_others k__law_others b__law_others .nil pass0 (pa_cons (pe_ix (Rw.k_ixL (K := K)) (pv 3) pe_int (fun _ _ => rfl)) pa_nil)) (pe_op Rw.op_repS pe_str pe_int) (nomark _)) (pw_or1 (pt_cmpR op_ne (pe_callB (Rw.k_reprD (K := K) hgd hr.units) (by rfl) z_repr Rw.bt_repr (pa_cons (Rw.pe_xv (K := K) (Rw.pe_exv Rw.base_ValueError T_ParseError iC_ParseError tI_ParseError F_ParseError hr_ex b_ParseError pass0 (by rfl) gP_ParseError (pa_cons (pv 1) pa_nil)) rfl rfl) pa_nil)) (pe_callB (Rw.k_reprD (K := K) hgd hr.units) (by rfl) z_repr Rw.bt_repr (pa_cons (pv 1) pa_nil)) (nomark _))))) (pss_one (ps_ret pe_bl)) pss_nil)
  (pss_cons (ps_set (i := 6) sc__law_right.nd rfl (.inl rfl) (pe_lst (pa_cons (Rw.pe_xv (K := K) (pe_ix (Rw.k_ixL (K := K)) (pv 5) pe_int (fun _ _ => rfl)) rfl rfl) (pa_cons (Rw.pe_xv (K := K) (pe_ix (Rw.k_ixL (K := K)) (pv 5) pe_int (fun _ _ => rfl)) rfl rfl) (pa_cons (Rw.pe_xv (K := K) (pe_ix (Rw.k_ixL (K := K)) (pv 5) pe_int (fun _ _ => rfl)) rfl rfl) (pa_cons (Rw.pe_xv (K := K) (pe_ix (Rw.k_ixL (K := K)) (pv 5) pe_int (fun _ _ => rfl)) rfl rfl) (pa_cons (Rw.pe_xv (K := K) (pe_ix (Rw.k_ixL (K := K)) (pv 5) pe_int (fun _ _ => rfl)) rfl rfl) (pa_cons (Rw.pe_xv (K := K) (pe_ix (Rw.k_ixL (K := K)) (pv 5) pe_int (fun _ _ => rfl)) rfl rfl) pa_nil))))))))
  (pss_one (ps_ret (pe_cmpR op_eq (pe_callB (Rw.k_reprD (K := K) hgd hr.units) (by rfl) z_repr Rw.bt_repr (pa_cons (pv 6) pa_nil)) (pe_callB (Rw.k_reprD (K := K) hgd hr.units) (by rfl) z_repr Rw.bt_repr (pa_cons (pe_op op_rep (pe_lst (pa_cons (pv 1) pa_nil)) pe_int) pa_nil)) (nomark _)))))), ?_⟩
      intro HV v ws bl du ol xs e10 o0 o1 o2 o3 o4 o5 DV sV th hb lx h10 ex hol k0 k1 k2 k3 k4 k5
      walk_at "rd"
      refine ⟨bl, xs, 10, .ref e10, rfl, rfl, SqL.of hb, atI_nat (j := 10) h10, ?_⟩
      refine ⟨e10, C_ParseError, _, rfl, ex, EC_ParseError, ko_ParseError, fun H1 s1 => ?_⟩
      walk_at "rd"
      intro a na
      refine ⟨a, v, rfl, upd_same, fun dx nd ne => ⟨rfl, ?_⟩⟩
      obtain ⟨s2, ga, gd⟩ := madeE (C := C_ParseError) (fs := [("line", v)]) na nd ne
      generalize upd (upd (upd H1 a _) dx _) a _ = H2 at s2 ga gd ⊢
      refine ⟨a, C_ParseError, dx, _, v, rfl, ga, gd, rfl, XF_ParseError, no_ParseError, ?_⟩
      walk_at "rd"
      obtain ⟨dt, odt, ft⟩ := th
      obtain ⟨p1, p2, p3, p4, p5, p6⟩ := okd_parts odt
      have s12 := s1.trans s2
      refine .inl ⟨v, dt, rfl, ft _ (.of s12), p1, by omega, Nat.le_of_lt (small1000 p3), ?_⟩
      walk_at "rd"
      refine .inl ⟨v, dt, rfl, ft _ (.of s12), p1, by omega, Nat.le_of_lt (small1000 p3), ?_⟩
      walk_at "rd"
      rw [decide_eq_true rfl]
      have hol2 := s12 _ _ hol
      obtain ⟨a0, x0, rfl, ga0, gd0⟩ := k0.same s12
      obtain ⟨a1, x1, rfl, ga1, gd1⟩ := k1.same s12
      obtain ⟨a2, x2, rfl, ga2, gd2⟩ := k2.same s12
      obtain ⟨a3, x3, rfl, ga3, gd3⟩ := k3.same s12
      obtain ⟨a4, x4, rfl, ga4, gd4⟩ := k4.same s12
      obtain ⟨a5, x5, rfl, ga5, gd5⟩ := k5.same s12
      walk_at "rd"
      refine ⟨ol, _, 0, .ref a0, rfl, rfl, SqL.of hol2, rfl, ?_⟩
      refine ⟨a0, C_UnknownName, x0, _, v, rfl, ga0, gd0, rfl, XF_UnknownName, no_UnknownName, ?_⟩
      walk_at "rd"
      refine ⟨ol, _, 1, .ref a1, rfl, rfl, SqL.of hol2, rfl, ?_⟩
      refine ⟨a1, C_UnknownPlace, x1, _, v, rfl, ga1, gd1, rfl, XF_UnknownPlace, no_UnknownPlace, ?_⟩
      walk_at "rd"
      refine ⟨ol, _, 2, .ref a2, rfl, rfl, SqL.of hol2, rfl, ?_⟩
      refine ⟨a2, C_NothingToUndo, x2, _, v, rfl, ga2, gd2, rfl, XF_NothingToUndo, no_NothingToUndo, ?_⟩
      walk_at "rd"
      refine ⟨ol, _, 3, .ref a3, rfl, rfl, SqL.of hol2, rfl, ?_⟩
      refine ⟨a3, C_TooMany, x3, _, v, rfl, ga3, gd3, rfl, XF_TooMany, no_TooMany, ?_⟩
      walk_at "rd"
      refine ⟨ol, _, 4, .ref a4, rfl, rfl, SqL.of hol2, rfl, ?_⟩
      refine ⟨a4, C_Refused, x4, _, v, rfl, ga4, gd4, rfl, XF_Refused, no_Refused, ?_⟩
      walk_at "rd"
      refine ⟨ol, _, 5, .ref a5, rfl, rfl, SqL.of hol2, rfl, ?_⟩
      refine ⟨a5, C_InvalidNumber, x5, _, v, rfl, ga5, gd5, rfl, XF_InvalidNumber, no_InvalidNumber, ?_⟩
      walk_at "rd"
      intro pk nk
      first | refine newly nk fun H3 s3 f3 => ?_ | refine newly2 nk fun H3 s3 f3 => ?_
      walk_at "rd"
      have s13 := s12.trans s3
      simp only [tNil]
      refine rep6 (ft _ (.of s13)) odt f3 ?_
      walk_at "rd"
      intro p4 n4
      first | refine newly n4 fun H4 s4 f4 => ?_ | refine newly2 n4 fun H4 s4 f4 => ?_
      walk_at "rd"
      refine ⟨p4, 6, [v], rfl, rfl, f4, by decide, by decide, by show 6 ≤ sizeLine; decide, fun p5 n5 => ?_⟩
      generalize hX : upd H4 p5 _ = H5
      have s5 : Same H4 H5 := hX ▸ Same.new n5
      have f5 : H5 p5 = some (.lst [v, v, v, v, v, v]) := by
        rw [← hX]
        exact upd_same
      clear hX
      have s15 := (s13.trans s4).trans s5
      simp only [tNil]
      refine rep6 (ft _ (.of s15)) odt f5 ?_
      walk_at "rd"
      rw [decide_eq_true rfl]
      exact q H5 (sV.trans (.of s15)) (DV.same s15)
    obtain ⟨t9, h9, k9⟩ : ∃ t9, PSs (cxOf CX0 P w K mg base N__law_right "_law_right" (defScope s__law_right) fV cdv B fs t H E).nox ((defBody s__law_right).drop 9) t9 ∧
        ∀ HV v (ws : Str) bl du (xs : List V) e10, Dice HV d → SB d H HV → ThingOk K d HV v → HV bl = some (.lst xs) → xs.length = 11 → xs[10]? = some (.ref e10) → ExAt HV e10 C_ParseError → t9 D0 [some (.ref d), some v, some (.str ws), some (.ref bl), some (.ref du), none, none, none, none] HV := by
      refine ⟨_, (pss_cons (ps_set (i := 5) sc__law_right.nd rfl (.inl rfl) (pe_lst (pa_cons (Rw.pe_exv Rw.base_KeyError T_UnknownName iC_UnknownName tI_UnknownName F_UnknownName hr_ex b_UnknownName pass0 (by rfl) gP_UnknownName (pa_cons (pv 1) pa_nil)) (pa_cons (Rw.pe_exv Rw.base_LookupError T_UnknownPlace iC_UnknownPlace tI_UnknownPlace F_UnknownPlace hr_ex b_UnknownPlace pass0 (by rfl) gP_UnknownPlace (pa_cons (pv 1) pa_nil)) (pa_cons (Rw.pe_exv Rw.base_IndexError T_NothingToUndo iC_NothingToUndo tI_NothingToUndo F_NothingToUndo hr_ex b_NothingToUndo pass0 (by rfl) gP_NothingToUndo (pa_cons (pv 1) pa_nil)) (pa_cons (Rw.pe_exv Rw.base_OverflowError T_TooMany iC_TooMany tI_TooMany F_TooMany hr_ex b_TooMany pass0 (by rfl) gP_TooMany (pa_cons (pv 1) pa_nil)) (pa_cons (Rw.pe_exv Rw.base_ArithmeticError T_Refused iC_Refused tI_Refused F_Refused hr_ex b_Refused pass0 (by rfl) gP_Refused (pa_cons (pv 1) pa_nil)) pa_nil)))))))
  (pss_cons (ps_expr (Rw.k_bm (K := K) (pe_bm PySem.F.plainAttrs_list PySem.F.slot_list_append PySem.F.type_list_append mt_append (pv 5) (pa_cons (Rw.pe_exv Rw.base_RuntimeError T_InvalidNumber iC_InvalidNumber tI_InvalidNumber F_InvalidNumber hr_ex b_InvalidNumber pass0 (by rfl) gP_InvalidNumber (pa_cons (pv 1) pa_nil)) pa_nil))))
  (pss_cons (ps_set (i := 4) sc__law_right.nd rfl (.inl rfl) (pe_lst (pa_cons pe_str (pa_cons pe_str (pa_cons pe_str (pa_cons pe_str (pa_cons pe_str (pa_cons pe_str pa_nil))))))))
  (pss_cons (ps_if (PW.pt (pw_or (pt_cmpR (Rw.k_neD (K := K) hr.units) (pe_lc (own := [("one", 7)]) rfl sc__law_right.nd (Rw.k_pl (K := K) (pv 5)) (blkOk_by (own := [("one", 7)]) (N := N__law_right) (sc := defScope s__law_right) (by decide +kernel)) (fun _ _ _ _ _ => (pg_name (i := 7) sc__law_right.nd rfl (.inl rfl))) (fun _ _ _ _ _ => pts_nil) (fun _ _ _ _ _ => (pe_call G__law_others hr__law_others (by rfl) g__law_others k__law_others b__law_others .nil pass0 (pa_cons (pv 7) pa_nil)))) (pv 4) (nomark _)) (pw_or1 (pt_cmpR (Rw.k_neD (K := K) hr.units) (pe_lc (own := [("one", 7)]) rfl sc__law_right.nd (Rw.k_pl (K := K) (pv 5)) (blkOk_by (own := [("one", 7)]) (N := N__law_right) (sc := defScope s__law_right) (by decide +kernel)) (fun _ _ _ _ _ => (pg_name (i := 7) sc__law_right.nd rfl (.inl rfl))) (fun _ _ _ _ _ => pts_nil) (fun _ _ _ _ _ => (pe_call G__law_kinds hr__law_kinds (by rfl) g__law_kinds k__law_kinds b__law_kinds .nil pass0 (pa_cons (pv 7) pa_nil)))) (pe_op op_rep (pe_lst (pa_cons (pe_op Rw.op_repS pe_str pe_int) pa_nil)) pe_int) (nomark _))))) (pss_one (ps_ret pe_bl)) pss_nil)
  h13)))), ?_⟩
      intro HV v ws bl du xs e10 DV sV th hb lx h10 ex
      walk_at "rd"
      intro a0 na0
      refine ⟨a0, v, rfl, upd_same, fun x0 nd0 ne0 => ⟨rfl, ?_⟩⟩
      obtain ⟨s0, ga0, gd0⟩ := madeE (C := C_UnknownName) (fs := [("wanted", v)]) na0 nd0 ne0
      generalize upd (upd (upd HV a0 _) x0 _) a0 _ = H0 at s0 ga0 gd0 ⊢
      have k0 : Kept H0 (.ref a0) C_UnknownName "wanted" v := ⟨a0, x0, rfl, ga0, gd0⟩
      walk_at "rd"
      intro a1 na1
      refine ⟨a1, v, rfl, upd_same, fun x1 nd1 ne1 => ⟨rfl, ?_⟩⟩
      obtain ⟨s1, ga1, gd1⟩ := madeE (C := C_UnknownPlace) (fs := [("spot", v)]) na1 nd1 ne1
      generalize upd (upd (upd H0 a1 _) x1 _) a1 _ = H1 at s1 ga1 gd1 ⊢
      have k1 : Kept H1 (.ref a1) C_UnknownPlace "spot" v := ⟨a1, x1, rfl, ga1, gd1⟩
      walk_at "rd"
      intro a2 na2
      refine ⟨a2, v, rfl, upd_same, fun x2 nd2 ne2 => ⟨rfl, ?_⟩⟩
      obtain ⟨s2, ga2, gd2⟩ := madeE (C := C_NothingToUndo) (fs := [("many", v)]) na2 nd2 ne2
      generalize upd (upd (upd H1 a2 _) x2 _) a2 _ = H2 at s2 ga2 gd2 ⊢
      have k2 : Kept H2 (.ref a2) C_NothingToUndo "many" v := ⟨a2, x2, rfl, ga2, gd2⟩
      walk_at "rd"
      intro a3 na3
      refine ⟨a3, v, rfl, upd_same, fun x3 nd3 ne3 => ⟨rfl, ?_⟩⟩
      obtain ⟨s3, ga3, gd3⟩ := madeE (C := C_TooMany) (fs := [("limit", v)]) na3 nd3 ne3
      generalize upd (upd (upd H2 a3 _) x3 _) a3 _ = H3 at s3 ga3 gd3 ⊢
      have k3 : Kept H3 (.ref a3) C_TooMany "limit" v := ⟨a3, x3, rfl, ga3, gd3⟩
      walk_at "rd"
      intro a4 na4
      refine ⟨a4, v, rfl, upd_same, fun x4 nd4 ne4 => ⟨rfl, ?_⟩⟩
      obtain ⟨s4, ga4, gd4⟩ := madeE (C := C_Refused) (fs := [("reason", v)]) na4 nd4 ne4
      generalize upd (upd (upd H3 a4 _) x4 _) a4 _ = H4 at s4 ga4 gd4 ⊢
      have k4 : Kept H4 (.ref a4) C_Refused "reason" v := ⟨a4, x4, rfl, ga4, gd4⟩
      walk_at "rd"
      intro pl nl
      have npl : ∀ b u, H4 b = some u → b ≠ pl := fun b u e => ne_of_none e nl
      first | refine newly nl fun HL sL fL => ?_ | refine newly2 nl fun HL sL fL => ?_
      walk_at "rd"
      refine ⟨.inl ⟨rfl, _, SqL.of fL⟩, ?_⟩
      walk_at "rd"
      intro a5 na5
      refine ⟨a5, v, rfl, upd_same, fun x5 nd5 ne5 => ⟨rfl, ?_⟩⟩
      obtain ⟨s5, ga5, gd5⟩ := madeE (C := C_InvalidNumber) (fs := [("number", v)]) na5 nd5 ne5
      generalize upd (upd (upd HL a5 _) x5 _) a5 _ = H5 at s5 ga5 gd5 ⊢
      have k5 : Kept H5 (.ref a5) C_InvalidNumber "number" v := ⟨a5, x5, rfl, ga5, gd5⟩
      walk_at "rd"
      have fL5 := s5 _ _ fL
      refine ⟨pl, _, _, rfl, rfl, fL5, small1000 (by simp), ?_⟩
      have nx : ∀ b u, H5 b = some u → (∃ φ, u = .ext φ) → b ≠ pl := fun b u e hu z => by
        obtain ⟨φ, hu⟩ := hu
        rw [z, fL5] at e
        cases e
        cases hu
      have s45 : Same H4 H5 := sL.trans s5
      have s35 := s4.trans s45
      have s25 := s3.trans s35
      have s15 := s2.trans s25
      have s05 := s1.trans s15
      have sH5 := s0.trans s05
      have m0 := (k0.same s05).put (o := .lst ([.ref a0, .ref a1, .ref a2, .ref a3, .ref a4] ++ [.ref a5])) nx
      have m1 := (k1.same s15).put (o := .lst ([.ref a0, .ref a1, .ref a2, .ref a3, .ref a4] ++ [.ref a5])) nx
      have m2 := (k2.same s25).put (o := .lst ([.ref a0, .ref a1, .ref a2, .ref a3, .ref a4] ++ [.ref a5])) nx
      have m3 := (k3.same s35).put (o := .lst ([.ref a0, .ref a1, .ref a2, .ref a3, .ref a4] ++ [.ref a5])) nx
      have m4 := (k4.same s45).put (o := .lst ([.ref a0, .ref a1, .ref a2, .ref a3, .ref a4] ++ [.ref a5])) nx
      have m5 := k5.put (o := .lst ([.ref a0, .ref a1, .ref a2, .ref a3, .ref a4] ++ [.ref a5])) nx
      have mx : ExAt (upd H5 pl (.lst ([.ref a0, .ref a1, .ref a2, .ref a3, .ref a4] ++ [.ref a5]))) e10 C_ParseError := by
        rcases ex.same sH5 with ⟨t, g⟩ | ⟨dx, fs, g, gd⟩
        · exact .inl ⟨t, by rw [upd_ne (nx _ _ g ⟨_, rfl⟩)]; exact g⟩
        · exact .inr ⟨dx, fs, by rw [upd_ne (nx _ _ g ⟨_, rfl⟩)]; exact g, by rw [upd_ne (nx _ _ gd ⟨_, rfl⟩)]; exact gd⟩
      have mb : (upd H5 pl (.lst ([.ref a0, .ref a1, .ref a2, .ref a3, .ref a4] ++ [.ref a5]))) bl = some (.lst xs) := by
        rw [upd_ne (npl _ _ ((((s0.trans s1).trans s2).trans (s3.trans s4)) _ _ hb))]
        exact sH5 _ _ hb
      have nV : HV pl = none := (((s0.trans s1).trans s2).trans (s3.trans s4)).free nl
      have mS := SB.put (d := d) (o := .lst ([.ref a0, .ref a1, .ref a2, .ref a3, .ref a4] ++ [.ref a5])) nV (SB.of sH5)
      have mD := (DV.same sH5).put (o := .lst ([.ref a0, .ref a1, .ref a2, .ref a3, .ref a4] ++ [.ref a5])) (DV.ne nV)
      have fA : (upd H5 pl (.lst ([.ref a0, .ref a1, .ref a2, .ref a3, .ref a4] ++ [.ref a5]))) pl = some (.lst ([.ref a0, .ref a1, .ref a2, .ref a3, .ref a4] ++ [.ref a5])) := upd_same
      generalize upd H5 pl _ = HA at m0 m1 m2 m3 m4 m5 mx mb mS mD fA ⊢
      clear k0 k1 k2 k3 k4 k5 nx npl s45 s35 s25 s15 s05 sH5 fL5 fL
      walk_at "rd"
      intro pd npd
      first | refine newly npd fun HD sD fD => ?_ | refine newly2 npd fun HD sD fD => ?_
      have fo := sD _ _ fA
      have po : Paired (ToldAs K [.ref C_UnknownName, .ref C_UnknownPlace, .ref C_NothingToUndo, .ref C_TooMany, .ref C_Refused, .ref C_InvalidNumber, .type "KeyError", .type "IndexError", .type "LookupError", .type "OverflowError", .type "ArithmeticError", .type "RuntimeError"] HD) ([.ref a0, .ref a1, .ref a2, .ref a3, .ref a4] ++ [.ref a5]) (["x.....x.x...", ".x......x...", "..x....xx...", "...x.....xx.", "....x.....x.", ".....x.....x"] : List Str) :=
        .cons ((m0.same sD).told EC_UnknownName ko_UnknownName (by decide +kernel)) (.cons ((m1.same sD).told EC_UnknownPlace ko_UnknownPlace (by decide +kernel)) (.cons ((m2.same sD).told EC_NothingToUndo ko_NothingToUndo (by decide +kernel))
          (.cons ((m3.same sD).told EC_TooMany ko_TooMany (by decide +kernel)) (.cons ((m4.same sD).told EC_Refused ko_Refused (by decide +kernel)) (.cons ((m5.same sD).told EC_InvalidNumber ko_InvalidNumber (by decide +kernel)) .nil)))))
      walk_at "rd"
      refine ⟨⟨_, SqL.of fo⟩, fun D1 nD1 => ?_⟩
      refine lc_list (K := K) (a := pl) (xs := ([V.ref a0, V.ref a1, V.ref a2, V.ref a3, V.ref a4] ++ [V.ref a5])) (PvA HD D1 fun i => ((["x.....x.x...", ".x......x...", "..x....xx...", "...x.....xx.", "....x.....x.", ".....x.....x"] : List Str).map V.str).take i) (PvA.start nD1 rfl) (fun i H2 _ p => SqL.of (p.1 _ _ fo)) (fun i x H2 hx p => ?_) (fun HE1 pE1 => ?_)
      · obtain ⟨z, hz, a, C, bs, rfl, ex, ec, kk, rfl⟩ := paired_get po hx
        refine ⟨rfl, ?_⟩
        walk_at "rd"
        refine ⟨a, C, bs, rfl, ex.same p.1, ec, kk, fun H3 s3 => ?_⟩
        have hzi := at_map V.str hz
        exact PvA.put nD1 (p.1.trans s3) (s3 _ _ p.2) (take_lt (List.getElem?_eq_some_iff.mp hzi).1 (by rw [List.length_map]; exact small1000 (by simp))) (take_put hzi)
      have sE1 : Same HD HE1 := pE1.1
      have eE1 : HE1 D1 = some (.lst ((["x.....x.x...", ".x......x...", "..x....xx...", "...x.....xx.", "....x.....x.", ".....x.....x"] : List Str).map V.str)) := by
        have h4 : HE1 D1 = some (.lst (((["x.....x.x...", ".x......x...", "..x....xx...", "...x.....xx.", "....x.....x.", ".....x.....x"] : List Str).map V.str).take (([V.ref a0, V.ref a1, V.ref a2, V.ref a3, V.ref a4] ++ [V.ref a5])).length)) := pE1.2
        rwa [List.take_of_length_le (by rw [List.length_map]; exact Nat.le_of_eq (Paired.length po).symm)] at h4
      clear pE1
      walk_at "rd"
      have shO : SeqAt.shaped (.list ((["x.....x.x...", ".x......x...", "..x....xx...", "...x.....xx.", "....x.....x.", ".....x.....x"] : List Str).map PyData.str)) = true := by decide +kernel
      refine ⟨_, _, .lst (SqL.of eE1) (dp_strs ["x.....x.x...", ".x......x...", "..x....xx...", "...x.....xx.", "....x.....x.", ".....x.....x"]), .lst (SqL.of (sE1 _ _ fD)) (dp_strs ["x.....x.x...", ".x......x...", "..x....xx...", "...x.....xx.", "....x.....x.", ".....x.....x"]), shO, shO, ?_⟩
      rw [eqv_refl_shaped shO]
      have sDE := sD.trans sE1
      have fo2 := sDE _ _ fA
      have pk : Paired (ToldAs K [.ref C_InvalidWord, .ref C_InvalidCode, .ref C_InvalidProgram, .ref C_InvalidWorld, .ref C_InvalidFact, .ref C_InvalidTable, .ref C_InvalidLines, .ref C_InvalidContext, .ref C_InvalidMarking, .ref C_InvalidOperation, .ref C_ParseError, .ref C_RestError, .type "ValueError"] HE1) ([V.ref a0, V.ref a1, V.ref a2, V.ref a3, V.ref a4] ++ [V.ref a5]) (List.replicate 6 (repS "." 13)) :=
        .cons ((m0.same sDE).told EC_UnknownName kk_UnknownName (by decide +kernel)) (.cons ((m1.same sDE).told EC_UnknownPlace kk_UnknownPlace (by decide +kernel)) (.cons ((m2.same sDE).told EC_NothingToUndo kk_NothingToUndo (by decide +kernel))
          (.cons ((m3.same sDE).told EC_TooMany kk_TooMany (by decide +kernel)) (.cons ((m4.same sDE).told EC_Refused kk_Refused (by decide +kernel)) (.cons ((m5.same sDE).told EC_InvalidNumber kk_InvalidNumber (by decide +kernel)) .nil)))))
      walk_at "rd"
      refine ⟨⟨_, SqL.of fo2⟩, fun D2 nD2 => ?_⟩
      refine lc_list (K := K) (a := pl) (xs := ([V.ref a0, V.ref a1, V.ref a2, V.ref a3, V.ref a4] ++ [V.ref a5])) (PvA HE1 D2 fun i => ((List.replicate 6 (repS "." 13) : List Str).map V.str).take i) (PvA.start nD2 rfl) (fun i H2 _ p => SqL.of (p.1 _ _ fo2)) (fun i x H2 hx p => ?_) (fun HE2 pE2 => ?_)
      · obtain ⟨z, hz, a, C, bs, rfl, ex, ec, kk, rfl⟩ := paired_get pk hx
        refine ⟨rfl, ?_⟩
        walk_at "rd"
        refine ⟨a, C, bs, rfl, ex.same p.1, ec, kk, fun H3 s3 => ?_⟩
        have hzi := at_map V.str hz
        exact PvA.put nD2 (p.1.trans s3) (s3 _ _ p.2) (take_lt (List.getElem?_eq_some_iff.mp hzi).1 (by rw [List.length_map]; exact small1000 (by simp))) (take_put hzi)
      have sE2 : Same HE1 HE2 := pE2.1
      have eE2 : HE2 D2 = some (.lst ((List.replicate 6 (repS "." 13) : List Str).map V.str)) := by
        have h4 : HE2 D2 = some (.lst (((List.replicate 6 (repS "." 13) : List Str).map V.str).take (([V.ref a0, V.ref a1, V.ref a2, V.ref a3, V.ref a4] ++ [V.ref a5])).length)) := pE2.2
        rwa [List.take_of_length_le (by rw [List.length_map]; exact Nat.le_of_eq (Paired.length pk).symm)] at h4
      clear pE2
      walk_at "rd"
      intro pq nq
      first | refine newly nq fun HF sF fF => ?_ | refine newly2 nq fun HF sF fF => ?_
      walk_at "rd"
      refine ⟨pq, 6, [.str (repS "." 13)], rfl, rfl, fF, by decide, by decide, by show 6 ≤ sizeLine; decide, fun pr nr => ?_⟩
      generalize hX : upd HF pr _ = HG
      have sG : Same HF HG := hX ▸ Same.new nr
      have fG : HG pr = some (.lst ((List.replicate 6 (repS "." 13)).map V.str)) := by
        rw [← hX]
        exact upd_same
      clear hX
      have sE2G := sF.trans sG
      have shK : SeqAt.shaped (.list ((List.replicate 6 (repS "." 13)).map PyData.str)) = true := by decide +kernel
      refine ⟨_, _, .lst (SqL.of (sE2G _ _ eE2)) (dp_strs _), .lst (SqL.of fG) (dp_strs _), shK, shK, ?_⟩
      rw [eqv_refl_shaped shK]
      walk_at "rd"
      have sAll := (sDE.trans sE2).trans sE2G
      have sHG : SB d HV HG := mS.trans (.of sAll)
      exact k13 HG v ws bl pd pl xs e10 _ _ _ _ _ _ (mD.same sAll) (sV.trans sHG) (th.on sHG) (sAll _ _ mb) lx h10 (mx.same sAll) (sAll _ _ fA)
        (m0.same sAll) (m1.same sAll) (m2.same sAll) (m3.same sAll) (m4.same sAll) (m5.same sAll)
    obtain ⟨t6, h6, k6⟩ : ∃ t6, PSs (cxOf CX0 P w K mg base N__law_right "_law_right" (defScope s__law_right) fV cdv B fs t H E).nox ((defBody s__law_right).drop 6) t6 ∧
        ∀ HT HV v (ws : Str) bl b0 b1 b2 b3 b4 b5 b6 b7 b8 b9 b10, SB d H HT → ThingOk K d HT v → HT bl = none → SB d HT HV → Dice HV d → HV bl = some (.lst [V.ref b0, V.ref b1, V.ref b2, V.ref b3, V.ref b4, V.ref b5, V.ref b6, V.ref b7, V.ref b8, V.ref b9, V.ref b10]) →
          ExAt HV b0 C_InvalidWord → ExAt HV b1 C_InvalidCode → ExAt HV b2 C_InvalidProgram → ExAt HV b3 C_InvalidWorld → ExAt HV b4 C_InvalidFact → ExAt HV b5 C_InvalidTable → ExAt HV b6 C_InvalidLines → ExAt HV b7 C_InvalidContext → ExAt HV b8 C_InvalidMarking → ExAt HV b9 C_InvalidOperation → t6 D0 [some (.ref d), some v, some (.str ws), some (.ref bl), none, none, none, none, none] HV := by
      refine ⟨_, (pss_cons (ps_asg (Rw.pe_exv Rw.base_ValueError T_ParseError iC_ParseError tI_ParseError F_ParseError hr_ex b_ParseError pass0 (by rfl) gP_ParseError (pa_cons (pe_call G__law_pick hr__law_pick (by rfl) g__law_pick k__law_pick b__law_pick .nil pass0 (pa_cons (pv 0) (pa_cons (pe_lst (pa_cons pe_non (pa_cons pe_int (pa_cons pe_int (pa_cons (pe_op op_pow pe_int pe_int) pa_nil))))) pa_nil))) pa_nil)) (pg_sub (pv 3) pe_int set_list))
  (pss_cons (ps_setLc (i := 4) (own := [("at", 8)]) rfl sc__law_right.nd rfl rfl (sw_true rfl rfl rfl (by decide +kernel)) (pi_range1 (by rfl) z_range (pa_cons pe_int pa_nil)) (blkOk_by (own := [("at", 8)]) (N := N__law_right) (sc := defScope s__law_right) (by decide +kernel)) (fun _ _ _ _ _ => (pg_name (i := 8) sc__law_right.nd rfl (.inl rfl))) (fun _ _ _ _ _ => pts_nil) (fun _ _ _ _ _ => (pe_op op_add_str (pe_op op_add_str (pe_op op_add_str (pe_op Rw.op_repS0 pe_str (pv 8)) pe_str) (pe_op Rw.op_repS0 pe_str (pe_op op_sub pe_int (pv 8)))) pe_str)))
  (pss_cons (ps_if (PW.pt (pw_or (pt_cmpR (Rw.k_neD (K := K) hr.units) (pe_lc (own := [("one", 7)]) rfl sc__law_right.nd (Rw.k_pl (K := K) (pv 3)) (blkOk_by (own := [("one", 7)]) (N := N__law_right) (sc := defScope s__law_right) (by decide +kernel)) (fun _ _ _ _ _ => (pg_name (i := 7) sc__law_right.nd rfl (.inl rfl))) (fun _ _ _ _ _ => pts_nil) (fun _ _ _ _ _ => (pe_call G__law_kinds hr__law_kinds (by rfl) g__law_kinds k__law_kinds b__law_kinds .nil pass0 (pa_cons (pv 7) pa_nil)))) (pv 4) (nomark _)) (pw_or1 (pt_cmpR op_ne (pe_call G__law_kinds hr__law_kinds (by rfl) g__law_kinds k__law_kinds b__law_kinds .nil pass0 (pa_cons (Rw.pe_exm PySem.F.excBase_ValueError xP_RestError gP_RestError kP_RestError (by rfl) (pv 2)) pa_nil)) (pe_op op_add_str (pe_op Rw.op_repS pe_str pe_int) pe_str) (nomark _))))) (pss_one (ps_ret pe_bl)) pss_nil)
  h9))), ?_⟩
      intro HT HV v ws bl b0 b1 b2 b3 b4 b5 b6 b7 b8 b9 b10 sHT th nbl sV DV hb x0 x1 x2 x3 x4 x5 x6 x7 x8 x9
      walk_at "rd"
      intro pl nl
      first | refine newly nl fun H1 s1 f1 => ?_ | refine newly2 nl fun H1 s1 f1 => ?_
      have D1 := DV.same s1
      walk_at "rd"
      refine ⟨d, pl, _, rfl, by simp, by simp, D1, fun H' sb => .inl (SqL.of (sb _ _ (DV.ne nl).symm f1)), fun H2 u sb2 D2 hu => ?_⟩
      clear hu
      walk_at "rd"
      intro e ne'
      refine ⟨e, u, rfl, upd_same, fun dx nd ne => ⟨rfl, ?_⟩⟩
      obtain ⟨s3, ge, gd⟩ := madeE (C := C_ParseError) (fs := [("line", u)]) ne' nd ne
      generalize upd (upd (upd H2 e _) dx _) e _ = H3 at s3 ge gd ⊢
      have s13 : SB d HV H3 := ((SB.of s1).trans sb2).trans (.of s3)
      have dbl : bl ≠ d := fun z => by
        obtain ⟨x, y, z', _, _, _, e'⟩ := DV
        rw [z, e'] at hb
        cases hb
      have hb3 := s13 _ _ dbl hb
      walk_at "rd"
      refine ⟨bl, _, _, 10, rfl, rfl, hb3, rfl, ?_⟩
      have nx : ∀ b u, H3 b = some u → (∃ φ, u = HO.ext φ) → b ≠ bl := fun b u e' hu z => by
        obtain ⟨φ, hu⟩ := hu
        rw [z, hb3] at e'
        cases e'
        cases hu
      have y0 := (x0.sb DV s13).put (o := .lst [V.ref b0, V.ref b1, V.ref b2, V.ref b3, V.ref b4, V.ref b5, V.ref b6, V.ref b7, V.ref b8, V.ref b9, V.ref e]) nx
      have y1 := (x1.sb DV s13).put (o := .lst [V.ref b0, V.ref b1, V.ref b2, V.ref b3, V.ref b4, V.ref b5, V.ref b6, V.ref b7, V.ref b8, V.ref b9, V.ref e]) nx
      have y2 := (x2.sb DV s13).put (o := .lst [V.ref b0, V.ref b1, V.ref b2, V.ref b3, V.ref b4, V.ref b5, V.ref b6, V.ref b7, V.ref b8, V.ref b9, V.ref e]) nx
      have y3 := (x3.sb DV s13).put (o := .lst [V.ref b0, V.ref b1, V.ref b2, V.ref b3, V.ref b4, V.ref b5, V.ref b6, V.ref b7, V.ref b8, V.ref b9, V.ref e]) nx
      have y4 := (x4.sb DV s13).put (o := .lst [V.ref b0, V.ref b1, V.ref b2, V.ref b3, V.ref b4, V.ref b5, V.ref b6, V.ref b7, V.ref b8, V.ref b9, V.ref e]) nx
      have y5 := (x5.sb DV s13).put (o := .lst [V.ref b0, V.ref b1, V.ref b2, V.ref b3, V.ref b4, V.ref b5, V.ref b6, V.ref b7, V.ref b8, V.ref b9, V.ref e]) nx
      have y6 := (x6.sb DV s13).put (o := .lst [V.ref b0, V.ref b1, V.ref b2, V.ref b3, V.ref b4, V.ref b5, V.ref b6, V.ref b7, V.ref b8, V.ref b9, V.ref e]) nx
      have y7 := (x7.sb DV s13).put (o := .lst [V.ref b0, V.ref b1, V.ref b2, V.ref b3, V.ref b4, V.ref b5, V.ref b6, V.ref b7, V.ref b8, V.ref b9, V.ref e]) nx
      have y8 := (x8.sb DV s13).put (o := .lst [V.ref b0, V.ref b1, V.ref b2, V.ref b3, V.ref b4, V.ref b5, V.ref b6, V.ref b7, V.ref b8, V.ref b9, V.ref e]) nx
      have y9 := (x9.sb DV s13).put (o := .lst [V.ref b0, V.ref b1, V.ref b2, V.ref b3, V.ref b4, V.ref b5, V.ref b6, V.ref b7, V.ref b8, V.ref b9, V.ref e]) nx
      have y10 : ExAt (upd H3 bl (.lst [V.ref b0, V.ref b1, V.ref b2, V.ref b3, V.ref b4, V.ref b5, V.ref b6, V.ref b7, V.ref b8, V.ref b9, V.ref e])) e C_ParseError := ExAt.put (.inr ⟨dx, _, ge, gd⟩) nx
      have sT : SB d HT (upd H3 bl (.lst [V.ref b0, V.ref b1, V.ref b2, V.ref b3, V.ref b4, V.ref b5, V.ref b6, V.ref b7, V.ref b8, V.ref b9, V.ref e])) := SB.put nbl (sV.trans s13)
      have DX : Dice (upd H3 bl (.lst [V.ref b0, V.ref b1, V.ref b2, V.ref b3, V.ref b4, V.ref b5, V.ref b6, V.ref b7, V.ref b8, V.ref b9, V.ref e])) d := (D2.same s3).put dbl.symm
      have fb : (upd H3 bl (.lst [V.ref b0, V.ref b1, V.ref b2, V.ref b3, V.ref b4, V.ref b5, V.ref b6, V.ref b7, V.ref b8, V.ref b9, V.ref e])) bl = some (.lst [V.ref b0, V.ref b1, V.ref b2, V.ref b3, V.ref b4, V.ref b5, V.ref b6, V.ref b7, V.ref b8, V.ref b9, V.ref e]) := upd_same
      show ({ nx := _, rt := _ } : Ends).nx _ (upd H3 bl (.lst [V.ref b0, V.ref b1, V.ref b2, V.ref b3, V.ref b4, V.ref b5, V.ref b6, V.ref b7, V.ref b8, V.ref b9, V.ref e]))
      generalize upd H3 bl (.lst [V.ref b0, V.ref b1, V.ref b2, V.ref b3, V.ref b4, V.ref b5, V.ref b6, V.ref b7, V.ref b8, V.ref b9, V.ref e]) = HX at y0 y1 y2 y3 y4 y5 y6 y7 y8 y9 y10 sT DX fb ⊢
      clear x0 x1 x2 x3 x4 x5 x6 x7 x8 x9 nx ge gd hb3 s13 s3 D2 D1 sb2
      walk_at "rd"
      intro D nD
      refine lc_range (lo := 0) (n := 11) (PvA HX D fun i => (kdue.map V.str).take i) (PvA.start nD rfl) (fun i H2 hi p => ?_) (fun HK pK => ?_)
      · have hzi := at_map V.str (kdue_at i hi)
        have ql : ∀ n : Int, 0 ≤ n → n ≤ 20 → (repS (Str.ofString ".") n).length ≤ 20 := fun n n0 n1 => by
          rw [repS_len]
          show n.toNat * 1 ≤ 20
          omega
        have q1 := ql (0 + (i : Int)) (by omega) (by omega)
        have q2 := ql (10 - (0 + (i : Int))) (by omega) (by omega)
        refine ⟨rfl, ?_⟩
        walk_at "rd"
        refine ⟨by omega, by omega, ?_⟩
        walk_at "rd"
        refine ⟨Nat.le_of_lt (small1000 (by show _ + 1 ≤ 1000; omega)), ?_⟩
        walk_at "rd"
        refine ⟨by omega, by omega, ?_⟩
        walk_at "rd"
        refine ⟨Nat.le_of_lt (small1000 (by rw [Str.length_append]; show _ + 1 + _ ≤ 1000; omega)), ?_⟩
        walk_at "rd"
        refine ⟨Nat.le_of_lt (small1000 (by rw [Str.length_append, Str.length_append]; show _ + 1 + _ + 2 ≤ 1000; omega)), ?_⟩
        exact PvA.put nD p.1 p.2 (take_lt (List.getElem?_eq_some_iff.mp hzi).1 (by rw [List.length_map]; exact small1000 (by decide))) (take_put hzi)
      have fK : HK D = some (.lst (kdue.map V.str)) := by
        have h4 : HK D = some (.lst ((kdue.map V.str).take 11)) := pK.2
        rwa [List.take_of_length_le (by rw [List.length_map]; decide)] at h4
      have sK : Same HX HK := pK.1
      clear pK
      have fb2 := sK _ _ fb
      have pt : Paired (ToldAs K [.ref C_InvalidWord, .ref C_InvalidCode, .ref C_InvalidProgram, .ref C_InvalidWorld, .ref C_InvalidFact, .ref C_InvalidTable, .ref C_InvalidLines, .ref C_InvalidContext, .ref C_InvalidMarking, .ref C_InvalidOperation, .ref C_ParseError, .ref C_RestError, .type "ValueError"] HK) [V.ref b0, V.ref b1, V.ref b2, V.ref b3, V.ref b4, V.ref b5, V.ref b6, V.ref b7, V.ref b8, V.ref b9, V.ref e] kdue := (.cons ((y0.same sK).told EC_InvalidWord kk_InvalidWord (by decide +kernel)) (.cons ((y1.same sK).told EC_InvalidCode kk_InvalidCode (by decide +kernel)) (.cons ((y2.same sK).told EC_InvalidProgram kk_InvalidProgram (by decide +kernel)) (.cons ((y3.same sK).told EC_InvalidWorld kk_InvalidWorld (by decide +kernel)) (.cons ((y4.same sK).told EC_InvalidFact kk_InvalidFact (by decide +kernel)) (.cons ((y5.same sK).told EC_InvalidTable kk_InvalidTable (by decide +kernel)) (.cons ((y6.same sK).told EC_InvalidLines kk_InvalidLines (by decide +kernel)) (.cons ((y7.same sK).told EC_InvalidContext kk_InvalidContext (by decide +kernel)) (.cons ((y8.same sK).told EC_InvalidMarking kk_InvalidMarking (by decide +kernel)) (.cons ((y9.same sK).told EC_InvalidOperation kk_InvalidOperation (by decide +kernel)) (.cons ((y10.same sK).told EC_ParseError kk_ParseError (by decide +kernel)) .nil)))))))))))
      walk_at "rd"
      refine ⟨⟨_, SqL.of fb2⟩, fun D1 nD1 => ?_⟩
      refine lc_list (K := K) (a := bl) (xs := [V.ref b0, V.ref b1, V.ref b2, V.ref b3, V.ref b4, V.ref b5, V.ref b6, V.ref b7, V.ref b8, V.ref b9, V.ref e]) (PvA HK D1 fun i => ((kdue : List Str).map V.str).take i) (PvA.start nD1 rfl) (fun i H2 _ p => SqL.of (p.1 _ _ fb2)) (fun i x H2 hx p => ?_) (fun HL1 pL1 => ?_)
      · obtain ⟨z, hz, a, C, bs, rfl, ex, ec, kk, rfl⟩ := paired_get pt hx
        refine ⟨rfl, ?_⟩
        walk_at "rd"
        refine ⟨a, C, bs, rfl, ex.same p.1, ec, kk, fun H3 s3 => ?_⟩
        have hzi := at_map V.str hz
        exact PvA.put nD1 (p.1.trans s3) (s3 _ _ p.2) (take_lt (List.getElem?_eq_some_iff.mp hzi).1 (by rw [List.length_map]; exact small1000 (by simp))) (take_put hzi)
      have sL1 : Same HK HL1 := pL1.1
      have eL1 : HL1 D1 = some (.lst ((kdue : List Str).map V.str)) := by
        have h4 : HL1 D1 = some (.lst (((kdue : List Str).map V.str).take ([V.ref b0, V.ref b1, V.ref b2, V.ref b3, V.ref b4, V.ref b5, V.ref b6, V.ref b7, V.ref b8, V.ref b9, V.ref e]).length)) := pL1.2
        rwa [List.take_of_length_le (by rw [List.length_map]; exact Nat.le_of_eq (Paired.length pt).symm)] at h4
      clear pL1
      walk_at "rd"
      have shK : SeqAt.shaped (.list (kdue.map PyData.str)) = true := by decide +kernel
      refine ⟨_, _, .lst (SqL.of eL1) (dp_strs _), .lst (SqL.of (sL1 _ _ fK)) (dp_strs _), shK, shK, ?_⟩
      rw [eqv_refl_shaped shK]
      walk_at "rd"
      intro a9 t9' na9 nt9 ne9
      have sM : Same HL1 (upd (upd HL1 t9' (.tup [.str ws])) a9 (exm a9 C_RestError t9')) := (Same.new nt9).trans (Same.new (by rw [upd_ne ne9]; exact na9))
      refine ⟨a9, C_RestError, _, rfl, .inl ⟨t9', upd_same⟩, EC_RestError, kk_RestError, fun HZ sZ => ?_⟩
      walk_at "rd"
      have sXZ := ((sK.trans sL1).trans sM).trans sZ
      have sTZ := sT.trans (.of sXZ)
      exact k9 HZ v ws bl D _ e (DX.same sXZ) (sHT.trans sTZ) (th.on sTZ) (sXZ _ _ fb) rfl rfl (y10.same sXZ)
    obtain ⟨t5, h5, k5⟩ : ∃ t5, PSs (cxOf CX0 P w K mg base N__law_right "_law_right" (defScope s__law_right) fV cdv B fs t H E).nox ((defBody s__law_right).drop 5) t5 ∧
        ∀ HT HV v (ws : Str) bl b0 b1 b2 b3 b4 b5 b6 b7 b8 b9 b10 tt0 tt1 tt2 tt3 tt4 tt5 tt6 tt7 tt8 tt9 tt10, SeqAt.shaped (.list ((List.replicate 11 ws).map PyData.str)) = true → SB d H HT → ThingOk K d HT v → HT bl = none → SB d HT HV → Dice HV d → HV bl = some (.lst [V.ref b0, V.ref b1, V.ref b2, V.ref b3, V.ref b4, V.ref b5, V.ref b6, V.ref b7, V.ref b8, V.ref b9, V.ref b10]) →
          Made HV b0 C_InvalidWord tt0 ws → Made HV b1 C_InvalidCode tt1 ws → Made HV b2 C_InvalidProgram tt2 ws → Made HV b3 C_InvalidWorld tt3 ws → Made HV b4 C_InvalidFact tt4 ws → Made HV b5 C_InvalidTable tt5 ws → Made HV b6 C_InvalidLines tt6 ws → Made HV b7 C_InvalidContext tt7 ws → Made HV b8 C_InvalidMarking tt8 ws → Made HV b9 C_InvalidOperation tt9 ws → Made HV b10 C_RestError tt10 ws → t5 D0 [some (.ref d), some v, some (.str ws), some (.ref bl), none, none, none, none, none] HV := by
      refine ⟨_, (pss_cons (ps_if (PW.pt (pw_or (pt_cmpR (Rw.k_neD (K := K) hr.units) (pe_lc (own := [("one", 7)]) rfl sc__law_right.nd (Rw.k_pl (K := K) (pv 3)) (blkOk_by (own := [("one", 7)]) (N := N__law_right) (sc := defScope s__law_right) (by decide +kernel)) (fun _ _ _ _ _ => (pg_name (i := 7) sc__law_right.nd rfl (.inl rfl))) (fun _ _ _ _ _ => pts_nil) (fun _ _ _ _ _ => (pe_callTy (Rw.k_strX (K := K) hr.units) (by rfl) z_str Rw.bt_str (pa_cons (pv 7) pa_nil)))) (pe_op op_rep (pe_lst (pa_cons (pv 2) pa_nil)) pe_int) (nomark _)) (pw_or1 (pt_cmpR (Rw.k_neD (K := K) hr.units) (pe_lc (own := [("one", 7)]) rfl sc__law_right.nd (Rw.k_pl (K := K) (pv 3)) (blkOk_by (own := [("one", 7)]) (N := N__law_right) (sc := defScope s__law_right) (by decide +kernel)) (fun _ _ _ _ _ => (pg_name (i := 7) sc__law_right.nd rfl (.inl rfl))) (fun _ _ _ _ _ => pts_nil) (fun _ _ _ _ _ => (pe_call G__law_others hr__law_others (by rfl) g__law_others k__law_others b__law_others .nil pass0 (pa_cons (pv 7) pa_nil)))) (pe_op op_rep (pe_lst (pa_cons (pe_op Rw.op_repS pe_str pe_int) pa_nil)) pe_int) (nomark _))))) (pss_one (ps_ret pe_bl)) pss_nil)
  h6), ?_⟩
      intro HT HV v ws bl b0 b1 b2 b3 b4 b5 b6 b7 b8 b9 b10 tt0 tt1 tt2 tt3 tt4 tt5 tt6 tt7 tt8 tt9 tt10 shw sHT th nbl sV DV hb m0 m1 m2 m3 m4 m5 m6 m7 m8 m9 m10
      have ps : Paired (StrAs K HV) [V.ref b0, V.ref b1, V.ref b2, V.ref b3, V.ref b4, V.ref b5, V.ref b6, V.ref b7, V.ref b8, V.ref b9, V.ref b10] (List.replicate 11 ws) := (.cons (m0.str st_InvalidWord EC_InvalidWord) (.cons (m1.str st_InvalidCode EC_InvalidCode) (.cons (m2.str st_InvalidProgram EC_InvalidProgram) (.cons (m3.str st_InvalidWorld EC_InvalidWorld) (.cons (m4.str st_InvalidFact EC_InvalidFact) (.cons (m5.str st_InvalidTable EC_InvalidTable) (.cons (m6.str st_InvalidLines EC_InvalidLines) (.cons (m7.str st_InvalidContext EC_InvalidContext) (.cons (m8.str st_InvalidMarking EC_InvalidMarking) (.cons (m9.str st_InvalidOperation EC_InvalidOperation) (.cons (m10.str st_RestError EC_RestError) .nil)))))))))))
      walk_at "rd"
      refine ⟨⟨_, SqL.of hb⟩, fun D nD => ?_⟩
      refine lc_list (K := K) (a := bl) (xs := [V.ref b0, V.ref b1, V.ref b2, V.ref b3, V.ref b4, V.ref b5, V.ref b6, V.ref b7, V.ref b8, V.ref b9, V.ref b10]) (PvA HV D fun i => ((List.replicate 11 ws).map V.str).take i) (PvA.start nD rfl) (fun i H2 _ p => SqL.of (p.1 _ _ hb)) (fun i x H2 hx p => ?_) (fun H1 p1 => ?_)
      · obtain ⟨z, hz, a, C, t, rfl, mk, f1, f2⟩ := paired_get ps hx
        have hzi := at_map V.str hz
        refine ⟨rfl, ?_⟩
        walk_at "rd"
        refine ⟨a, C, t, z, rfl, p.1 _ _ mk.1, p.1 _ _ mk.2, f1, f2, ?_⟩
        exact PvA.put nD p.1 p.2 (take_lt (List.getElem?_eq_some_iff.mp hzi).1 (by rw [List.length_map]; exact small1000 (by simp))) (take_put hzi)
      have s1 : Same HV H1 := p1.1
      have e1 : H1 D = some (.lst ((List.replicate 11 ws).map V.str)) := by
        have h4 : H1 D = some (.lst (((List.replicate 11 ws).map V.str).take ([V.ref b0, V.ref b1, V.ref b2, V.ref b3, V.ref b4, V.ref b5, V.ref b6, V.ref b7, V.ref b8, V.ref b9, V.ref b10]).length)) := p1.2
        rwa [List.take_of_length_le (by rw [List.length_map]; exact Nat.le_of_eq (Paired.length ps).symm)] at h4
      clear p1
      walk_at "rd"
      intro p2 n2
      first | refine newly n2 fun H2 s2 f2 => ?_ | refine newly2 n2 fun H2 s2 f2 => ?_
      walk_at "rd"
      refine ⟨p2, 11, [.str ws], rfl, rfl, f2, by decide, by decide, by show 11 ≤ sizeLine; decide, fun p3 n3 => ?_⟩
      generalize hX : upd H2 p3 _ = H3
      have s3 : Same H2 H3 := hX ▸ Same.new n3
      have f3 : H3 p3 = some (.lst ((List.replicate 11 ws).map V.str)) := by
        rw [← hX]
        exact upd_same
      clear hX
      refine ⟨_, _, .lst (SqL.of ((s2.trans s3) _ _ e1)) (dp_strs _), .lst (SqL.of f3) (dp_strs _), shw, shw, ?_⟩
      rw [eqv_refl_shaped shw]
      have sA := (s1.trans s2).trans s3
      have hb3 := sA _ _ hb
      have pt : Paired (ToldAs K [.ref C_UnknownName, .ref C_UnknownPlace, .ref C_NothingToUndo, .ref C_TooMany, .ref C_Refused, .ref C_InvalidNumber, .type "KeyError", .type "IndexError", .type "LookupError", .type "OverflowError", .type "ArithmeticError", .type "RuntimeError"] H3) [V.ref b0, V.ref b1, V.ref b2, V.ref b3, V.ref b4, V.ref b5, V.ref b6, V.ref b7, V.ref b8, V.ref b9, V.ref b10] (List.replicate 11 (repS "." 12)) := (.cons (ExAt.told (.inl ⟨tt0, (m0.same sA).1⟩) EC_InvalidWord ko_InvalidWord (by decide +kernel)) (.cons (ExAt.told (.inl ⟨tt1, (m1.same sA).1⟩) EC_InvalidCode ko_InvalidCode (by decide +kernel)) (.cons (ExAt.told (.inl ⟨tt2, (m2.same sA).1⟩) EC_InvalidProgram ko_InvalidProgram (by decide +kernel)) (.cons (ExAt.told (.inl ⟨tt3, (m3.same sA).1⟩) EC_InvalidWorld ko_InvalidWorld (by decide +kernel)) (.cons (ExAt.told (.inl ⟨tt4, (m4.same sA).1⟩) EC_InvalidFact ko_InvalidFact (by decide +kernel)) (.cons (ExAt.told (.inl ⟨tt5, (m5.same sA).1⟩) EC_InvalidTable ko_InvalidTable (by decide +kernel)) (.cons (ExAt.told (.inl ⟨tt6, (m6.same sA).1⟩) EC_InvalidLines ko_InvalidLines (by decide +kernel)) (.cons (ExAt.told (.inl ⟨tt7, (m7.same sA).1⟩) EC_InvalidContext ko_InvalidContext (by decide +kernel)) (.cons (ExAt.told (.inl ⟨tt8, (m8.same sA).1⟩) EC_InvalidMarking ko_InvalidMarking (by decide +kernel)) (.cons (ExAt.told (.inl ⟨tt9, (m9.same sA).1⟩) EC_InvalidOperation ko_InvalidOperation (by decide +kernel)) (.cons (ExAt.told (.inl ⟨tt10, (m10.same sA).1⟩) EC_RestError ko_RestError (by decide +kernel)) .nil)))))))))))
      walk_at "rd"
      refine ⟨⟨_, SqL.of hb3⟩, fun D4 nD4 => ?_⟩
      refine lc_list (K := K) (a := bl) (xs := [V.ref b0, V.ref b1, V.ref b2, V.ref b3, V.ref b4, V.ref b5, V.ref b6, V.ref b7, V.ref b8, V.ref b9, V.ref b10]) (PvA H3 D4 fun i => ((List.replicate 11 (repS "." 12) : List Str).map V.str).take i) (PvA.start nD4 rfl) (fun i H2 _ p => SqL.of (p.1 _ _ hb3)) (fun i x H2 hx p => ?_) (fun H4 p4 => ?_)
      · obtain ⟨z, hz, a, C, bs, rfl, ex, ec, kk, rfl⟩ := paired_get pt hx
        refine ⟨rfl, ?_⟩
        walk_at "rd"
        refine ⟨a, C, bs, rfl, ex.same p.1, ec, kk, fun H3 s3 => ?_⟩
        have hzi := at_map V.str hz
        exact PvA.put nD4 (p.1.trans s3) (s3 _ _ p.2) (take_lt (List.getElem?_eq_some_iff.mp hzi).1 (by rw [List.length_map]; exact small1000 (by simp))) (take_put hzi)
      have s4 : Same H3 H4 := p4.1
      have e4 : H4 D4 = some (.lst ((List.replicate 11 (repS "." 12) : List Str).map V.str)) := by
        have h4 : H4 D4 = some (.lst (((List.replicate 11 (repS "." 12) : List Str).map V.str).take ([V.ref b0, V.ref b1, V.ref b2, V.ref b3, V.ref b4, V.ref b5, V.ref b6, V.ref b7, V.ref b8, V.ref b9, V.ref b10]).length)) := p4.2
        rwa [List.take_of_length_le (by rw [List.length_map]; exact Nat.le_of_eq (Paired.length pt).symm)] at h4
      clear p4
      walk_at "rd"
      intro p5 n5
      first | refine newly n5 fun H5 s5 f5 => ?_ | refine newly2 n5 fun H5 s5 f5 => ?_
      walk_at "rd"
      refine ⟨p5, 11, [.str (repS "." 12)], rfl, rfl, f5, by decide, by decide, by show 11 ≤ sizeLine; decide, fun p6 n6 => ?_⟩
      generalize hX : upd H5 p6 _ = H6
      have s6 : Same H5 H6 := hX ▸ Same.new n6
      have f6 : H6 p6 = some (.lst ((List.replicate 11 (repS "." 12)).map V.str)) := by
        rw [← hX]
        exact upd_same
      clear hX
      have shD : SeqAt.shaped (.list ((List.replicate 11 (repS "." 12)).map PyData.str)) = true := by decide +kernel
      refine ⟨_, _, .lst (SqL.of ((s5.trans s6) _ _ e4)) (dp_strs _), .lst (SqL.of f6) (dp_strs _), shD, shD, ?_⟩
      rw [eqv_refl_shaped shD]
      walk_at "rd"
      have sZ := ((sA.trans s4).trans s5).trans s6
      exact k6 HT H6 v ws bl b0 b1 b2 b3 b4 b5 b6 b7 b8 b9 b10 sHT th nbl (sV.trans (.of sZ)) (DV.same sZ) (sZ _ _ hb) (.inl ⟨tt0, (m0.same sZ).1⟩) (.inl ⟨tt1, (m1.same sZ).1⟩) (.inl ⟨tt2, (m2.same sZ).1⟩) (.inl ⟨tt3, (m3.same sZ).1⟩) (.inl ⟨tt4, (m4.same sZ).1⟩) (.inl ⟨tt5, (m5.same sZ).1⟩) (.inl ⟨tt6, (m6.same sZ).1⟩) (.inl ⟨tt7, (m7.same sZ).1⟩) (.inl ⟨tt8, (m8.same sZ).1⟩) (.inl ⟨tt9, (m9.same sZ).1⟩)
    obtain ⟨t2, h2, k2⟩ : ∃ t2, PSs (cxOf CX0 P w K mg base N__law_right "_law_right" (defScope s__law_right) fV cdv B fs t H E).nox ((defBody s__law_right).drop 2) t2 ∧
        ∀ HV v (ws : Str), ws ∈ words8 → SB d H HV → Dice HV d → ThingOk K d HV v → t2 D0 [some (.ref d), some v, some (.str ws), none, none, none, none, none, none] HV := by
      refine ⟨_, (pss_cons (ps_set (i := 3) sc__law_right.nd rfl (.inl rfl) (pe_lst (pa_cons (Rw.pe_exm PySem.F.excBase_ValueError xP_InvalidWord gP_InvalidWord kP_InvalidWord (by rfl) (pv 2)) (pa_cons (Rw.pe_exm PySem.F.excBase_ValueError xP_InvalidCode gP_InvalidCode kP_InvalidCode (by rfl) (pv 2)) (pa_cons (Rw.pe_exm PySem.F.excBase_ValueError xP_InvalidProgram gP_InvalidProgram kP_InvalidProgram (by rfl) (pv 2)) (pa_cons (Rw.pe_exm PySem.F.excBase_ValueError xP_InvalidWorld gP_InvalidWorld kP_InvalidWorld (by rfl) (pv 2)) (pa_cons (Rw.pe_exm PySem.F.excBase_ValueError xP_InvalidFact gP_InvalidFact kP_InvalidFact (by rfl) (pv 2)) pa_nil)))))))
  (pss_cons (ps_set (i := 3) sc__law_right.nd rfl (.inl rfl) (pe_op op_cat (pv 3) (pe_lst (pa_cons (Rw.pe_exm PySem.F.excBase_ValueError xP_InvalidTable gP_InvalidTable kP_InvalidTable (by rfl) (pv 2)) (pa_cons (Rw.pe_exm PySem.F.excBase_ValueError xP_InvalidLines gP_InvalidLines kP_InvalidLines (by rfl) (pv 2)) (pa_cons (Rw.pe_exm PySem.F.excBase_ValueError xP_InvalidContext gP_InvalidContext kP_InvalidContext (by rfl) (pv 2)) (pa_cons (Rw.pe_exm PySem.F.excBase_ValueError xP_InvalidMarking gP_InvalidMarking kP_InvalidMarking (by rfl) (pv 2)) pa_nil)))))))
  (pss_cons (ps_set (i := 3) sc__law_right.nd rfl (.inl rfl) (pe_op op_cat (pv 3) (pe_lst (pa_cons (Rw.pe_exm PySem.F.excBase_ValueError xP_InvalidOperation gP_InvalidOperation kP_InvalidOperation (by rfl) (pv 2)) (pa_cons (Rw.pe_exm PySem.F.excBase_ValueError xP_RestError gP_RestError kP_RestError (by rfl) (pv 2)) pa_nil)))))
  h5))), ?_⟩
      intro HT v ws hw sT DT th
      walk_at "rd"
      intro b0 tt0 nb0 nt0 ne0
      obtain ⟨s0, m0⟩ := madeX (C := C_InvalidWord) (z := ws) nb0 nt0 ne0
      generalize upd (upd HT tt0 _) b0 _ = H0 at s0 m0 ⊢
      walk_at "rd"
      intro b1 tt1 nb1 nt1 ne1
      obtain ⟨s1, m1⟩ := madeX (C := C_InvalidCode) (z := ws) nb1 nt1 ne1
      generalize upd (upd H0 tt1 _) b1 _ = H1 at s1 m1 ⊢
      walk_at "rd"
      intro b2 tt2 nb2 nt2 ne2
      obtain ⟨s2, m2⟩ := madeX (C := C_InvalidProgram) (z := ws) nb2 nt2 ne2
      generalize upd (upd H1 tt2 _) b2 _ = H2 at s2 m2 ⊢
      walk_at "rd"
      intro b3 tt3 nb3 nt3 ne3
      obtain ⟨s3, m3⟩ := madeX (C := C_InvalidWorld) (z := ws) nb3 nt3 ne3
      generalize upd (upd H2 tt3 _) b3 _ = H3 at s3 m3 ⊢
      walk_at "rd"
      intro b4 tt4 nb4 nt4 ne4
      obtain ⟨s4, m4⟩ := madeX (C := C_InvalidFact) (z := ws) nb4 nt4 ne4
      generalize upd (upd H3 tt4 _) b4 _ = H4 at s4 m4 ⊢
      walk_at "rd"
      intro p1 np1
      first | refine newly np1 fun HA sp1 fp1 => ?_ | refine newly2 np1 fun HA sp1 fp1 => ?_
      walk_at "rd"
      intro b5 tt5 nb5 nt5 ne5
      obtain ⟨s5, m5⟩ := madeX (C := C_InvalidTable) (z := ws) nb5 nt5 ne5
      generalize upd (upd HA tt5 _) b5 _ = H5 at s5 m5 ⊢
      walk_at "rd"
      intro b6 tt6 nb6 nt6 ne6
      obtain ⟨s6, m6⟩ := madeX (C := C_InvalidLines) (z := ws) nb6 nt6 ne6
      generalize upd (upd H5 tt6 _) b6 _ = H6 at s6 m6 ⊢
      walk_at "rd"
      intro b7 tt7 nb7 nt7 ne7
      obtain ⟨s7, m7⟩ := madeX (C := C_InvalidContext) (z := ws) nb7 nt7 ne7
      generalize upd (upd H6 tt7 _) b7 _ = H7 at s7 m7 ⊢
      walk_at "rd"
      intro b8 tt8 nb8 nt8 ne8
      obtain ⟨s8, m8⟩ := madeX (C := C_InvalidMarking) (z := ws) nb8 nt8 ne8
      generalize upd (upd H7 tt8 _) b8 _ = H8 at s8 m8 ⊢
      walk_at "rd"
      intro p2 np2
      first | refine newly np2 fun HB sp2 fp2 => ?_ | refine newly2 np2 fun HB sp2 fp2 => ?_
      walk_at "rd"
      refine ⟨p1, p2, _, _, rfl, rfl, ((((s5.trans s6).trans s7).trans s8).trans sp2) _ _ fp1, fp2, by simp only [List.length_append, List.length_cons, List.length_nil]; decide, fun p3 np3 => ?_⟩
      first | refine newly np3 fun HC sp3 fp3 => ?_ | refine newly2 np3 fun HC sp3 fp3 => ?_
      walk_at "rd"
      intro b9 tt9 nb9 nt9 ne9
      obtain ⟨s9, m9⟩ := madeX (C := C_InvalidOperation) (z := ws) nb9 nt9 ne9
      generalize upd (upd HC tt9 _) b9 _ = H9 at s9 m9 ⊢
      walk_at "rd"
      intro b10 tt10 nb10 nt10 ne10
      obtain ⟨s10, m10⟩ := madeX (C := C_RestError) (z := ws) nb10 nt10 ne10
      generalize upd (upd H9 tt10 _) b10 _ = H10 at s10 m10 ⊢
      walk_at "rd"
      intro p4 np4
      first | refine newly np4 fun HE sp4 fp4 => ?_ | refine newly2 np4 fun HE sp4 fp4 => ?_
      walk_at "rd"
      refine ⟨p3, p4, _, _, rfl, rfl, ((s9.trans s10).trans sp4) _ _ fp3, fp4, by simp only [List.length_append, List.length_cons, List.length_nil]; decide, fun p5 np5 => ?_⟩
      first | refine newly np5 fun HF sp5 fp5 => ?_ | refine newly2 np5 fun HF sp5 fp5 => ?_
      have sF : Same HT HF := (((((((((((((((s0.trans s1).trans s2).trans s3).trans s4).trans sp1).trans s5).trans s6).trans s7).trans s8).trans sp2).trans sp3).trans s9).trans s10).trans sp4).trans sp5)
      have nbl : HT p5 = none := ((((((((((((((s0.trans s1).trans s2).trans s3).trans s4).trans sp1).trans s5).trans s6).trans s7).trans s8).trans sp2).trans sp3).trans s9).trans s10).trans sp4).free np5
      walk_at "rd"
      exact k5 HT HF v ws p5 b0 b1 b2 b3 b4 b5 b6 b7 b8 b9 b10 tt0 tt1 tt2 tt3 tt4 tt5 tt6 tt7 tt8 tt9 tt10 (sh_words ws hw) sT th nbl (.of sF) (DT.same sF) fp5
        (m0.same ((((((((((((((s1.trans s2).trans s3).trans s4).trans sp1).trans s5).trans s6).trans s7).trans s8).trans sp2).trans sp3).trans s9).trans s10).trans sp4).trans sp5)) (m1.same (((((((((((((s2.trans s3).trans s4).trans sp1).trans s5).trans s6).trans s7).trans s8).trans sp2).trans sp3).trans s9).trans s10).trans sp4).trans sp5)) (m2.same ((((((((((((s3.trans s4).trans sp1).trans s5).trans s6).trans s7).trans s8).trans sp2).trans sp3).trans s9).trans s10).trans sp4).trans sp5)) (m3.same (((((((((((s4.trans sp1).trans s5).trans s6).trans s7).trans s8).trans sp2).trans sp3).trans s9).trans s10).trans sp4).trans sp5)) (m4.same ((((((((((sp1.trans s5).trans s6).trans s7).trans s8).trans sp2).trans sp3).trans s9).trans s10).trans sp4).trans sp5)) (m5.same ((((((((s6.trans s7).trans s8).trans sp2).trans sp3).trans s9).trans s10).trans sp4).trans sp5)) (m6.same (((((((s7.trans s8).trans sp2).trans sp3).trans s9).trans s10).trans sp4).trans sp5)) (m7.same ((((((s8.trans sp2).trans sp3).trans s9).trans s10).trans sp4).trans sp5)) (m8.same (((((sp2.trans sp3).trans s9).trans s10).trans sp4).trans sp5)) (m9.same ((s10.trans sp4).trans sp5)) (m10.same (sp4.trans sp5))
    refine ⟨_, (pss_cons (ps_set (i := 1) sc__law_right.nd rfl (.inl rfl) (pe_call G__law_pick hr__law_pick (by rfl) g__law_pick k__law_pick b__law_pick .nil pass0 (pa_cons (pv 0) (pa_cons (pe_lst (pa_cons pe_int (pa_cons pe_str (pa_cons pe_str (pa_cons pe_non (pa_cons (pe_tup pa_nil) (pa_cons (pe_tup (pa_cons pe_str (pa_cons pe_int pa_nil))) (pa_cons (pe_op op_pow pe_int pe_int) (pa_cons pe_bl (pa_cons (pe_tup (pa_cons (pe_tup (pa_cons pe_str (pa_cons pe_int pa_nil))) (pa_cons (pe_tup (pa_cons pe_str pa_nil)) pa_nil))) (pa_cons (pe_lst (pa_cons pe_int pa_nil)) (pa_cons (pe_disp (pps_cons pe_str (pe_tup pa_nil) pps_nil) rfl rfl (by simp) (by decide)) pa_nil)))))))))))) pa_nil))))
  (pss_cons (ps_set (i := 2) sc__law_right.nd rfl (.inl rfl) (pe_call G__law_pick hr__law_pick (by rfl) g__law_pick k__law_pick b__law_pick .nil pass0 (pa_cons (pv 0) (pa_cons (pe_lst (pa_cons pe_str (pa_cons pe_str (pa_cons pe_str (pa_cons pe_str pa_nil))))) pa_nil))))
  h2)), ?_⟩
    walk_at "rd"
    intro p1 np1
    first | refine newly np1 fun H1 sp1 fp1 => ?_ | refine newly2 np1 fun H1 sp1 fp1 => ?_
    walk_at "rd"
    intro p2 np2
    first | refine newly np2 fun H2 sp2 fp2 => ?_ | refine newly2 np2 fun H2 sp2 fp2 => ?_
    walk_at "rd"
    intro p3 np3
    first | refine newly np3 fun H3 sp3 fp3 => ?_ | refine newly2 np3 fun H3 sp3 fp3 => ?_
    walk_at "rd"
    intro p4 np4
    first | refine newly np4 fun H4 sp4 fp4 => ?_ | refine newly2 np4 fun H4 sp4 fp4 => ?_
    walk_at "rd"
    intro p5 np5
    first | refine newly np5 fun H5 sp5 fp5 => ?_ | refine newly2 np5 fun H5 sp5 fp5 => ?_
    walk_at "rd"
    intro p6 np6
    first | refine newly np6 fun H6 sp6 fp6 => ?_ | refine newly2 np6 fun H6 sp6 fp6 => ?_
    walk_at "rd"
    intro pd npd
    walk_at "rd"
    intro p7 np7
    refine ⟨upd_ne (ne_of_none upd_same np7) |>.trans upd_same, [(.inr "a", .ref p7)], rfl, by simp, ?_⟩
    obtain ⟨s7, fd7, f7⟩ := boxX (x := "a") npd np7
    generalize upd (upd (upd H6 pd _) p7 _) pd _ = H7 at s7 fd7 f7 ⊢
    walk_at "rd"
    intro p8 n8
    first | refine newly n8 fun H8 s8 f8 => ?_ | refine newly2 n8 fun H8 s8 f8 => ?_
    have D1 := hD.same sp1
    have D2 := D1.same sp2
    have D3 := D2.same sp3
    have D4 := D3.same sp4
    have D5 := D4.same sp5
    have D6 := D5.same sp6
    have D7 := D6.same s7
    have D8 := D7.same s8
    have ne1 := (hD.ne np1).symm
    have ne2 := (D1.ne np2).symm
    have ne3 := (D2.ne np3).symm
    have ne4 := (D3.ne np4).symm
    have ne5 := (D4.ne np5).symm
    have ne6 := (D5.ne np6).symm
    have ned := (D6.ne npd).symm
    have ne7 : p7 ≠ d := fun z => by
      obtain ⟨x, y, z', _, _, _, e⟩ := D7
      rw [z, e] at f7
      cases f7
    have g6 := s8 _ _ (s7 _ _ fp6)
    have g5 := s8 _ _ (s7 _ _ (sp6 _ _ fp5))
    have g4 := s8 _ _ (s7 _ _ (sp6 _ _ (sp5 _ _ fp4)))
    have g3 := s8 _ _ (s7 _ _ (sp6 _ _ (sp5 _ _ (sp4 _ _ fp3))))
    have g2 := s8 _ _ (s7 _ _ (sp6 _ _ (sp5 _ _ (sp4 _ _ (sp3 _ _ fp2)))))
    have g1 := s8 _ _ (s7 _ _ (sp6 _ _ (sp5 _ _ (sp4 _ _ (sp3 _ _ (sp2 _ _ fp1))))))
    have g7 := s8 _ _ f7
    have gd := s8 _ _ fd7
    have s08 : Same H H8 := ((((((sp1.trans sp2).trans sp3).trans sp4).trans sp5).trans sp6).trans s7).trans s8
    walk_at "rd"
    refine ⟨d, p8, _, rfl, by simp, by simp, D8, fun H' sb => .inl (SqL.of (sb _ _ (D7.ne n8).symm f8)), fun HT v sbT DT hv => ?_⟩
    have th : ThingOk K d HT v := by
      have far : ∀ a o, H8 a = some o → a ≠ d → ∀ H', SB d HT H' → H' a = some o := fun a o e n H' s => s _ _ n (sbT _ _ n e)
      simp only [List.mem_cons, List.not_mem_nil, or_false] at hv
      rcases hv with rfl | rfl | rfl | rfl | rfl | rfl | rfl | rfl | rfl | rfl | rfl
      · exact ⟨.int 0, by decide +kernel, fun H' _ => .dat (.int _) (by decide +kernel)⟩
      · exact ⟨.str "", by decide +kernel, fun H' _ => .dat (.str _) (by decide +kernel)⟩
      · exact ⟨.str "a", by decide +kernel, fun H' _ => .dat (.str _) (by decide +kernel)⟩
      · exact ⟨.none, by decide +kernel, fun H' _ => .dat .non (by decide +kernel)⟩
      · exact ⟨.tuple [], by decide +kernel, fun H' s => .dat (.tup (SqT.of (far _ _ g1 ne1 H' s)) .nil) (by decide +kernel)⟩
      · exact ⟨.tuple [.str "f", .int 3], by decide +kernel, fun H' s => .dat (.tup (SqT.of (far _ _ g2 ne2 H' s)) (.cons (.str _) (.cons (.int _) .nil))) (by decide +kernel)⟩
      · exact ⟨.int (10 ^ 30), by decide +kernel, fun H' _ => .dat (.int _) (by decide +kernel)⟩
      · exact ⟨.bool true, by decide +kernel, fun H' _ => .dat (.bl _) (by decide +kernel)⟩
      · exact ⟨.tuple [.tuple [.str "f", .int 0], .tuple [.str "end"]], by decide +kernel, fun H' s => .dat (.tup (SqT.of (far _ _ g5 ne5 H' s)) (.cons (.tup (SqT.of (far _ _ g3 ne3 H' s)) (.cons (.str _) (.cons (.int _) .nil))) (.cons (.tup (SqT.of (far _ _ g4 ne4 H' s)) (.cons (.str _) .nil)) .nil))) (by decide +kernel)⟩
      · exact ⟨.list [.int 1], by decide +kernel, fun H' s => .dat (.lst (SqL.of (far _ _ g6 ne6 H' s)) (.cons (.int _) .nil)) (by decide +kernel)⟩
      · exact ⟨.dict [(.str "a", .tuple [])], by decide +kernel, fun H' s => .box (far _ _ gd ned H' s) (SqT.of (far _ _ g7 ne7 H' s))⟩
    clear hv
    walk_at "rd"
    intro p9 n9
    first | refine newly n9 fun H9 s9 f9 => ?_ | refine newly2 n9 fun H9 s9 f9 => ?_
    have D9 := DT.same s9
    walk_at "rd"
    refine ⟨d, p9, words8.map V.str, rfl, by decide, by decide, D9, fun H' sb => .inl (SqL.of (sb _ _ (DT.ne n9).symm f9)), fun HU u sbU DU hu => ?_⟩
    obtain ⟨ws, hw, rfl⟩ := List.mem_map.mp hu
    clear hu
    walk_at "rd"
    have sTU : SB d HT HU := (SB.of s9).trans sbU
    exact k2 HU v ws hw (((SB.of s08).trans sbT).trans sTU) DU (th.on sTU)
end




abbrev s_law : Stmt := topS 26
abbrev N_law : List Str := ["script", "spot", "dice", "turn"]
theorem sc_law : FnScope N_law ["script"] (defScope s_law) := ⟨rfl, rfl, rfl, by decide +kernel, rfl, by decide +kernel, by decide +kernel⟩

def spLaw (K : PySem.W.Frag) : Sp := fun vs H Q _ => ∃ (a : Addr) (ns : List Int), vs = [.ref a] ∧ SqL K H a (ns.map V.int) ∧ ns.length ≤ 63 ∧ ∀ H', Q (.bl true) H'
section
variable {P : Program} {w : World} {K : PySem.W.Frag} {mg : Str → Option Value} {base : Heap}
theorem ok_law {C_ParseError C_TooMany fI_ParseError fI_TooMany : Addr} {fd_ParseError fd_TooMany : FuncData} {f : Addr} {fd : FuncData} (F : Fun K "law" "law" s_law f fd) (RD : Ok P w K mg base 1 "_law_dice" ["script", "spot"] (spDice K)) (RR : ∃ f fd, mg "_law_right" = some (.ref f) ∧ PySem.W.keepIn K (.ref f) = true ∧ L2.Binds K fd ["dice"] [] ∧ FnG P w K mg base CX0 3 f fd ["dice"] spRight8)
    (T_ParseError : OexB K C_ParseError "ValueError.__new__" [.type "ValueError", .type "Exception", .type "BaseException", .type "object"])
    (iC_ParseError : PySem.W.findIn K (.ref C_ParseError) "__init__" = some (some (.ref fI_ParseError)))
    (tI_ParseError : PySem.W.typeIn K (.ref fI_ParseError) = some (.type "function"))
    (F_ParseError : FnOk P w K mg base CX0 1 fI_ParseError fd_ParseError ["self", "line"] (spSup C_ParseError "line"))
    (b_ParseError : L2.Binds K fd_ParseError ["self", "line"] [])
    (gP_ParseError : mg "ParseError" = some (.ref C_ParseError))
    (XF_ParseError : XfC K C_ParseError)
    (no_ParseError : PySem.W.findIn K (.ref C_ParseError) "line" = some none)
    (T_TooMany : OexB K C_TooMany "OverflowError.__new__" [.type "OverflowError", .type "ArithmeticError", .type "Exception", .type "BaseException", .type "object"])
    (iC_TooMany : PySem.W.findIn K (.ref C_TooMany) "__init__" = some (some (.ref fI_TooMany)))
    (tI_TooMany : PySem.W.typeIn K (.ref fI_TooMany) = some (.type "function"))
    (F_TooMany : FnOk P w K mg base CX0 1 fI_TooMany fd_TooMany ["self", "limit"] (spSup C_TooMany "limit"))
    (b_TooMany : L2.Binds K fd_TooMany ["self", "limit"] [])
    (gP_TooMany : mg "TooMany" = some (.ref C_TooMany))
    (XF_TooMany : XfC K C_TooMany)
    (no_TooMany : PySem.W.findIn K (.ref C_TooMany) "limit" = some none)
    (z_len : mg "len" = none) (z_range : mg "range" = none) (z_min : mg "min" = none) (z_max : mg "max" = none) : FnG P w K mg base CX0 4 f fd ["script"] (spLaw K) := by
  obtain ⟨fD, fdD, g__law_dice, k__law_dice, b__law_dice, G__law_dice⟩ := RD
  obtain ⟨fR, fdR, g__law_right, k__law_right, b__law_right, G__law_right⟩ := RR
  refine Rw.Fun.okG F sc_law (fun vs H Q E h => ?_) (fun cdv B fs t H vs Q E hgd hr h => ?_)
  · obtain ⟨a, ns, rfl, _⟩ := h
    rfl
  · obtain ⟨a, ns, rfl, hS, hl, q⟩ := h
    have hr__law_right := hr
    have hr__law_dice : Room 1 _ := hr.mono (by decide)
    have hr_ex : Room 2 _ := hr.mono (by decide)
    refine ⟨_, (pss_cons (ps_for PassesOwn.never rfl (pi_range1 (by rfl) z_range (pa_cons (pe_callB (call_max2 rfl) (by rfl) z_max Rw.bt_max (pa_cons pe_int (pa_cons (pe_callB (call_min2 rfl) (by rfl) z_min Rw.bt_min (pa_cons pe_int (pa_cons (pe_callB (Rw.k_len (K := K)) (by rfl) z_len Rw.bt_len (pa_cons (pv 0) pa_nil)) pa_nil))) pa_nil))) pa_nil)) (pg_name (i := 1) sc_law.nd rfl (.inl rfl))
   (pss_cons (ps_set (i := 2) sc_law.nd rfl (.inl rfl) (pe_call G__law_dice hr__law_dice (by rfl) g__law_dice k__law_dice b__law_dice .nil pass0 (pa_cons (pv 0) (pa_cons (pv 1) pa_nil))))
  (pss_one (ps_for PassesOwn.never rfl (pi_range1 (by rfl) z_range (pa_cons pe_int pa_nil)) (pg_name (i := 3) sc_law.nd rfl (.inl rfl))
   (pss_one (ps_if (pt_not (pt_val (Rw.pe_callG G__law_right hgd hr__law_right (by rfl) g__law_right k__law_right b__law_right .nil pass0 (pa_cons (pv 2) pa_nil)))) (pss_one (ps_ret pe_bl)) pss_nil))))))
  (pss_one (ps_ret (pe_cmpR (Rw.k_eqD (K := K) hr.units) (pe_lst (pa_cons (Rw.pe_xv (K := K) (Rw.pe_exv Rw.base_ValueError T_ParseError iC_ParseError tI_ParseError F_ParseError hr_ex b_ParseError pass0 (by rfl) gP_ParseError (pa_cons pe_non pa_nil)) rfl rfl) (pa_cons (Rw.pe_xv (K := K) (Rw.pe_exv Rw.base_ValueError T_ParseError iC_ParseError tI_ParseError F_ParseError hr_ex b_ParseError pass0 (by rfl) gP_ParseError (pa_cons pe_int pa_nil)) rfl rfl) (pa_cons (Rw.pe_xv (K := K) (Rw.pe_exv Rw.base_OverflowError T_TooMany iC_TooMany tI_TooMany F_TooMany hr_ex b_TooMany pass0 (by rfl) gP_TooMany (pa_cons pe_int pa_nil)) rfl rfl) pa_nil)))) (pe_lst (pa_cons pe_non (pa_cons pe_int (pa_cons pe_int pa_nil)))) (nomark _))))), ?_⟩
    walk_at "rd"
    refine ⟨a, _, rfl, .inl hS, ?_⟩
    refine ⟨_, _, rfl, ?_⟩
    refine ⟨_, _, rfl, ?_⟩
    generalize hm : (if (if ((ns.map V.int).length : Int) < 8 then ((ns.map V.int).length : Int) else 8) > 1 then (if ((ns.map V.int).length : Int) < 8 then ((ns.map V.int).length : Int) else 8) else 1) = m
    have hm2 : m ≤ 8 := by
      rw [← hm]
      split <;> split <;> omega
    have hm1 : 1 ≤ m := by
      rw [← hm]
      split <;> split <;> omega
    refine ⟨_, rfl, by omega, by omega, ?_⟩
    refine for_range (lo := 0) (n := _) (fun i σ H1 => ∃ y1 y2 y3, σ = [some (.ref a), y1, y2, y3] ∧ Same H H1) ⟨none, none, none, rfl, Same.refl H⟩ ?_ ?_
    · rintro i σ H1 hi ⟨y1, y2, y3, rfl, sm⟩
      walk_at "rd"
      refine ⟨a, ns, i, by rw [Int.zero_add]; rfl, sm.seq hS, hl, fun H2 d s2 nd D2 => ?_⟩
      have nd0 : H d = none := sm.free nd
      walk_at "rd"
      refine for_range (lo := 0) (n := _) (fun j σ H3 => ∃ y3, σ = [some (.ref a), some (.int (0 + i)), some (.ref d), y3] ∧ SB d H2 H3 ∧ Dice H3 d) ⟨y3, rfl, SB.refl _ _, D2⟩ ?_ ?_
      · rintro j σ H3 hj ⟨y3, rfl, sb3, D3⟩
        walk_at "rd"
        intro H4 sb4 D4
        walk_at "rd"
        first | exact ⟨_, rfl, sb3.trans sb4, D4⟩ | exact ⟨sb3.trans sb4, D4⟩ | exact D4
      · rintro σ H3 ⟨y3, rfl, sb3, D3⟩
        refine ⟨_, _, _, rfl, fun b o hb => sb3 b o (ne_of_none hb nd0) (s2 b o (sm b o hb))⟩
    rintro σ H1 ⟨y1, y2, y3, rfl, sm⟩
    walk_at "rd"
    intro a0 na0
    refine ⟨a0, V.non, rfl, upd_same, fun x0 nd0 ne0 => ⟨rfl, ?_⟩⟩
    obtain ⟨s0, ga0, gd0⟩ := madeE (C := C_ParseError) (fs := [("line", V.non)]) na0 nd0 ne0
    generalize upd (upd (upd H1 a0 _) x0 _) a0 _ = H0 at s0 ga0 gd0 ⊢
    refine ⟨a0, C_ParseError, x0, _, V.non, rfl, ga0, gd0, rfl, XF_ParseError, no_ParseError, ?_⟩
    walk_at "rd"
    intro a1 na1
    refine ⟨a1, V.int 3, rfl, upd_same, fun x1 nd1 ne1 => ⟨rfl, ?_⟩⟩
    obtain ⟨s1, ga1, gd1⟩ := madeE (C := C_ParseError) (fs := [("line", V.int 3)]) na1 nd1 ne1
    generalize upd (upd (upd H0 a1 _) x1 _) a1 _ = H1 at s1 ga1 gd1 ⊢
    refine ⟨a1, C_ParseError, x1, _, V.int 3, rfl, ga1, gd1, rfl, XF_ParseError, no_ParseError, ?_⟩
    walk_at "rd"
    intro a2 na2
    refine ⟨a2, V.int 4000, rfl, upd_same, fun x2 nd2 ne2 => ⟨rfl, ?_⟩⟩
    obtain ⟨s2, ga2, gd2⟩ := madeE (C := C_TooMany) (fs := [("limit", V.int 4000)]) na2 nd2 ne2
    generalize upd (upd (upd H1 a2 _) x2 _) a2 _ = H2 at s2 ga2 gd2 ⊢
    refine ⟨a2, C_TooMany, x2, _, V.int 4000, rfl, ga2, gd2, rfl, XF_TooMany, no_TooMany, ?_⟩
    walk_at "rd"
    intro p3 n3
    first | refine newly n3 fun H3 s3 f3 => ?_ | refine newly2 n3 fun H3 s3 f3 => ?_
    walk_at "rd"
    intro p4 n4
    first | refine newly n4 fun H4 s4 f4 => ?_ | refine newly2 n4 fun H4 s4 f4 => ?_
    have sh : SeqAt.shaped (.list [.none, .int 3, .int 4000]) = true := by decide +kernel
    refine ⟨_, _, .lst (SqL.of (s4 _ _ f3)) (.cons .non (.cons (.int _) (.cons (.int _) .nil))), .lst (SqL.of f4) (.cons .non (.cons (.int _) (.cons (.int _) .nil))), sh, sh, ?_⟩
    rw [eqv_refl_shaped sh]
    exact q _
end


def clsBody (s : Stmt) : List Stmt := match s with
  | .ClassDef _ _ _ b _ _ _ _ _ _ _ => b
  | _ => []
/-- what isinstance asks of an own class of exceptions, as one test -/
def ecB (K : PySem.W.Frag) (C : Addr) : Bool := decide (PySem.W.findIn K (.ref C) "__getattribute__" = some (some (.builtin "BaseException.__getattribute__"))) && (decide (PySem.W.findIn K (.ref C) "__getattr__" = some none) && (decide (PySem.W.subIn K (.ref C) (.type "BaseException") = some true) && (PySem.W.hasDictIn K C &&
  (decide (PySem.W.findIn K (.ref C) "__class__" = some (some (.builtin "object.__class__"))) && (decide (PySem.W.specialIn K (.builtin "object.__class__") "__get__" = some (some (.builtin "getset_descriptor.__get__"))) && (decide (PySem.W.takesIn K (.builtin "object.__class__") = some true) && decide (PySem.W.mroIn K C (.type "object") = some true)))))))
theorem ecB_ok {K : PySem.W.Frag} {C : Addr} (h : ecB K C = true) : L2.ExcC K C := by
  unfold ecB at h
  simp only [Bool.and_eq_true, decide_eq_true_eq] at h
  obtain ⟨h1, h2, h3, h4, h5, h6, h7, h8⟩ := h
  exact ⟨h1, h2, h3, h4, h5, h6, h7, h8⟩

def s_init_ParseError : Stmt := (clsBody (topS 12)).getD 0 (.Pass ⟨0, 0, 0, 0⟩)
def s_init_UnknownName : Stmt := (clsBody (topS 13)).getD 0 (.Pass ⟨0, 0, 0, 0⟩)
def s_init_UnknownPlace : Stmt := (clsBody (topS 14)).getD 0 (.Pass ⟨0, 0, 0, 0⟩)
def s_init_NothingToUndo : Stmt := (clsBody (topS 15)).getD 0 (.Pass ⟨0, 0, 0, 0⟩)
def s_init_TooMany : Stmt := (clsBody (topS 16)).getD 0 (.Pass ⟨0, 0, 0, 0⟩)
def s_init_Refused : Stmt := (clsBody (topS 17)).getD 0 (.Pass ⟨0, 0, 0, 0⟩)
def s_init_InvalidNumber : Stmt := (clsBody (topS 18)).getD 0 (.Pass ⟨0, 0, 0, 0⟩)
theorem all_mk {l : PySem.W.OpenLaw} {w : World} {K : PySem.W.Frag} {h : Heap} {mg : Str → Option Value} {fa : Addr} (X : K.In h) (G : h.Ns mainGlobals mg) (hfa : mg "law" = some (.ref fa))
    (hfile : ((l.prog.main.file : Str) == ("/claim/cut.py" : Str)) = true) (htop : (l.prog.main.scope.names.lookup ("super" : Str)).isSome = false)
    {f1 f2 f3 f4 f5 f6 f7 : Addr} {od1 an1 od2 an2 od3 an3 od4 an4 od5 an5 od6 an6 od7 an7 : Option Addr} {sl1 sl2 sl3 sl4 sl5 sl6 sl7 : Array (Option Value)} {oc1 kV1 dc1 pm1 cd1 ct1 oc2 kV2 dc2 pm2 cd2 ct2 oc3 kV3 dc3 pm3 cd3 ct3 oc4 kV4 dc4 pm4 cd4 ct4 oc5 kV5 dc5 pm5 cd5 ct5 oc6 kV6 dc6 pm6 cd6 ct6 oc7 kV7 dc7 pm7 cd7 ct7 : Value}
    (a1 : PySem.W.nsIn K mainGlobals "_law_dice" = some (some (.ref f1)))
    (l1 : K.lookup f1 = some ⟨oc1, od1, .func (PySem.W.fnOf "_law_dice" "_law_dice" (defArgs s__law_dice) (defBody s__law_dice) (defScope s__law_dice) .none kV1 dc1 pm1 an1 cd1 ct1), sl1⟩)
    (c1 : PySem.W.codeIn K cd1 "_law_dice" = true)
    (k1 : PySem.W.keepIn K (.ref f1) = true)
    (a2 : PySem.W.nsIn K mainGlobals "_law_roll" = some (some (.ref f2)))
    (l2 : K.lookup f2 = some ⟨oc2, od2, .func (PySem.W.fnOf "_law_roll" "_law_roll" (defArgs s__law_roll) (defBody s__law_roll) (defScope s__law_roll) .none kV2 dc2 pm2 an2 cd2 ct2), sl2⟩)
    (c2 : PySem.W.codeIn K cd2 "_law_roll" = true)
    (k2 : PySem.W.keepIn K (.ref f2) = true)
    (a3 : PySem.W.nsIn K mainGlobals "_law_pick" = some (some (.ref f3)))
    (l3 : K.lookup f3 = some ⟨oc3, od3, .func (PySem.W.fnOf "_law_pick" "_law_pick" (defArgs s__law_pick) (defBody s__law_pick) (defScope s__law_pick) .none kV3 dc3 pm3 an3 cd3 ct3), sl3⟩)
    (c3 : PySem.W.codeIn K cd3 "_law_pick" = true)
    (k3 : PySem.W.keepIn K (.ref f3) = true)
    (a4 : PySem.W.nsIn K mainGlobals "_law_kinds" = some (some (.ref f4)))
    (l4 : K.lookup f4 = some ⟨oc4, od4, .func (PySem.W.fnOf "_law_kinds" "_law_kinds" (defArgs s__law_kinds) (defBody s__law_kinds) (defScope s__law_kinds) .none kV4 dc4 pm4 an4 cd4 ct4), sl4⟩)
    (c4 : PySem.W.codeIn K cd4 "_law_kinds" = true)
    (k4 : PySem.W.keepIn K (.ref f4) = true)
    (a5 : PySem.W.nsIn K mainGlobals "_law_others" = some (some (.ref f5)))
    (l5 : K.lookup f5 = some ⟨oc5, od5, .func (PySem.W.fnOf "_law_others" "_law_others" (defArgs s__law_others) (defBody s__law_others) (defScope s__law_others) .none kV5 dc5 pm5 an5 cd5 ct5), sl5⟩)
    (c5 : PySem.W.codeIn K cd5 "_law_others" = true)
    (k5 : PySem.W.keepIn K (.ref f5) = true)
    (a6 : PySem.W.nsIn K mainGlobals "_law_right" = some (some (.ref f6)))
    (l6 : K.lookup f6 = some ⟨oc6, od6, .func (PySem.W.fnOf "_law_right" "_law_right" (defArgs s__law_right) (defBody s__law_right) (defScope s__law_right) .none kV6 dc6 pm6 an6 cd6 ct6), sl6⟩)
    (c6 : PySem.W.codeIn K cd6 "_law_right" = true)
    (k6 : PySem.W.keepIn K (.ref f6) = true)
    (a7 : PySem.W.nsIn K mainGlobals "law" = some (some (.ref f7)))
    (l7 : K.lookup f7 = some ⟨oc7, od7, .func (PySem.W.fnOf "law" "law" (defArgs s_law) (defBody s_law) (defScope s_law) .none kV7 dc7 pm7 an7 cd7 ct7), sl7⟩)
    (c7 : PySem.W.codeIn K cd7 "law" = true)
    (k7 : PySem.W.keepIn K (.ref f7) = true)
    (y_len : PySem.W.nsIn K mainGlobals "len" = some none)
    (y_int : PySem.W.nsIn K mainGlobals "int" = some none)
    (y_abs : PySem.W.nsIn K mainGlobals "abs" = some none)
    (y_max : PySem.W.nsIn K mainGlobals "max" = some none)
    (y_min : PySem.W.nsIn K mainGlobals "min" = some none)
    (y_range : PySem.W.nsIn K mainGlobals "range" = some none)
    (y_isinstance : PySem.W.nsIn K mainGlobals "isinstance" = some none)
    (y_str : PySem.W.nsIn K mainGlobals "str" = some none)
    (y_repr : PySem.W.nsIn K mainGlobals "repr" = some none)
    (y_super : PySem.W.nsIn K mainGlobals "super" = some none)
    (y_ValueError : PySem.W.nsIn K mainGlobals "ValueError" = some none)
    (y_KeyError : PySem.W.nsIn K mainGlobals "KeyError" = some none)
    (y_IndexError : PySem.W.nsIn K mainGlobals "IndexError" = some none)
    (y_LookupError : PySem.W.nsIn K mainGlobals "LookupError" = some none)
    (y_OverflowError : PySem.W.nsIn K mainGlobals "OverflowError" = some none)
    (y_ArithmeticError : PySem.W.nsIn K mainGlobals "ArithmeticError" = some none)
    (y_RuntimeError : PySem.W.nsIn K mainGlobals "RuntimeError" = some none)
    (hst : PySem.W.nsIn K cStatics "thirdparty.any" = some none)
    {C_InvalidWord C_InvalidCode C_InvalidProgram C_InvalidWorld C_InvalidFact C_InvalidTable C_InvalidLines C_InvalidContext C_InvalidMarking C_InvalidOperation C_ParseError C_RestError C_UnknownName C_UnknownPlace C_NothingToUndo C_TooMany C_Refused C_InvalidNumber : Addr}
    (aC_InvalidWord : PySem.W.nsIn K mainGlobals "InvalidWord" = some (some (.ref C_InvalidWord)))
    (aC_InvalidCode : PySem.W.nsIn K mainGlobals "InvalidCode" = some (some (.ref C_InvalidCode)))
    (aC_InvalidProgram : PySem.W.nsIn K mainGlobals "InvalidProgram" = some (some (.ref C_InvalidProgram)))
    (aC_InvalidWorld : PySem.W.nsIn K mainGlobals "InvalidWorld" = some (some (.ref C_InvalidWorld)))
    (aC_InvalidFact : PySem.W.nsIn K mainGlobals "InvalidFact" = some (some (.ref C_InvalidFact)))
    (aC_InvalidTable : PySem.W.nsIn K mainGlobals "InvalidTable" = some (some (.ref C_InvalidTable)))
    (aC_InvalidLines : PySem.W.nsIn K mainGlobals "InvalidLines" = some (some (.ref C_InvalidLines)))
    (aC_InvalidContext : PySem.W.nsIn K mainGlobals "InvalidContext" = some (some (.ref C_InvalidContext)))
    (aC_InvalidMarking : PySem.W.nsIn K mainGlobals "InvalidMarking" = some (some (.ref C_InvalidMarking)))
    (aC_InvalidOperation : PySem.W.nsIn K mainGlobals "InvalidOperation" = some (some (.ref C_InvalidOperation)))
    (aC_ParseError : PySem.W.nsIn K mainGlobals "ParseError" = some (some (.ref C_ParseError)))
    (aC_RestError : PySem.W.nsIn K mainGlobals "RestError" = some (some (.ref C_RestError)))
    (aC_UnknownName : PySem.W.nsIn K mainGlobals "UnknownName" = some (some (.ref C_UnknownName)))
    (aC_UnknownPlace : PySem.W.nsIn K mainGlobals "UnknownPlace" = some (some (.ref C_UnknownPlace)))
    (aC_NothingToUndo : PySem.W.nsIn K mainGlobals "NothingToUndo" = some (some (.ref C_NothingToUndo)))
    (aC_TooMany : PySem.W.nsIn K mainGlobals "TooMany" = some (some (.ref C_TooMany)))
    (aC_Refused : PySem.W.nsIn K mainGlobals "Refused" = some (some (.ref C_Refused)))
    (aC_InvalidNumber : PySem.W.nsIn K mainGlobals "InvalidNumber" = some (some (.ref C_InvalidNumber)))
    (ec_InvalidWord : ecB K C_InvalidWord = true)
    (ec_InvalidCode : ecB K C_InvalidCode = true)
    (ec_InvalidProgram : ecB K C_InvalidProgram = true)
    (ec_InvalidWorld : ecB K C_InvalidWorld = true)
    (ec_InvalidFact : ecB K C_InvalidFact = true)
    (ec_InvalidTable : ecB K C_InvalidTable = true)
    (ec_InvalidLines : ecB K C_InvalidLines = true)
    (ec_InvalidContext : ecB K C_InvalidContext = true)
    (ec_InvalidMarking : ecB K C_InvalidMarking = true)
    (ec_InvalidOperation : ecB K C_InvalidOperation = true)
    (ec_ParseError : ecB K C_ParseError = true)
    (ec_RestError : ecB K C_RestError = true)
    (ec_UnknownName : ecB K C_UnknownName = true)
    (ec_UnknownPlace : ecB K C_UnknownPlace = true)
    (ec_NothingToUndo : ecB K C_NothingToUndo = true)
    (ec_TooMany : ecB K C_TooMany = true)
    (ec_Refused : ecB K C_Refused = true)
    (ec_InvalidNumber : ecB K C_InvalidNumber = true)
    (xP_InvalidWord : PySem.W.excIn K C_InvalidWord bmVE "ValueError.__new__" = true)
    (kP_InvalidWord : PySem.W.keepIn K (.ref C_InvalidWord) = true)
    (st_InvalidWord : PySem.W.findIn K (.ref C_InvalidWord) "__str__" = some (some (.builtin "BaseException.__str__")))
    (xP_InvalidCode : PySem.W.excIn K C_InvalidCode bmVE "ValueError.__new__" = true)
    (kP_InvalidCode : PySem.W.keepIn K (.ref C_InvalidCode) = true)
    (st_InvalidCode : PySem.W.findIn K (.ref C_InvalidCode) "__str__" = some (some (.builtin "BaseException.__str__")))
    (xP_InvalidProgram : PySem.W.excIn K C_InvalidProgram bmVE "ValueError.__new__" = true)
    (kP_InvalidProgram : PySem.W.keepIn K (.ref C_InvalidProgram) = true)
    (st_InvalidProgram : PySem.W.findIn K (.ref C_InvalidProgram) "__str__" = some (some (.builtin "BaseException.__str__")))
    (xP_InvalidWorld : PySem.W.excIn K C_InvalidWorld bmVE "ValueError.__new__" = true)
    (kP_InvalidWorld : PySem.W.keepIn K (.ref C_InvalidWorld) = true)
    (st_InvalidWorld : PySem.W.findIn K (.ref C_InvalidWorld) "__str__" = some (some (.builtin "BaseException.__str__")))
    (xP_InvalidFact : PySem.W.excIn K C_InvalidFact bmVE "ValueError.__new__" = true)
    (kP_InvalidFact : PySem.W.keepIn K (.ref C_InvalidFact) = true)
    (st_InvalidFact : PySem.W.findIn K (.ref C_InvalidFact) "__str__" = some (some (.builtin "BaseException.__str__")))
    (xP_InvalidTable : PySem.W.excIn K C_InvalidTable bmVE "ValueError.__new__" = true)
    (kP_InvalidTable : PySem.W.keepIn K (.ref C_InvalidTable) = true)
    (st_InvalidTable : PySem.W.findIn K (.ref C_InvalidTable) "__str__" = some (some (.builtin "BaseException.__str__")))
    (xP_InvalidLines : PySem.W.excIn K C_InvalidLines bmVE "ValueError.__new__" = true)
    (kP_InvalidLines : PySem.W.keepIn K (.ref C_InvalidLines) = true)
    (st_InvalidLines : PySem.W.findIn K (.ref C_InvalidLines) "__str__" = some (some (.builtin "BaseException.__str__")))
    (xP_InvalidContext : PySem.W.excIn K C_InvalidContext bmVE "ValueError.__new__" = true)
    (kP_InvalidContext : PySem.W.keepIn K (.ref C_InvalidContext) = true)
    (st_InvalidContext : PySem.W.findIn K (.ref C_InvalidContext) "__str__" = some (some (.builtin "BaseException.__str__")))
    (xP_InvalidMarking : PySem.W.excIn K C_InvalidMarking bmVE "ValueError.__new__" = true)
    (kP_InvalidMarking : PySem.W.keepIn K (.ref C_InvalidMarking) = true)
    (st_InvalidMarking : PySem.W.findIn K (.ref C_InvalidMarking) "__str__" = some (some (.builtin "BaseException.__str__")))
    (xP_InvalidOperation : PySem.W.excIn K C_InvalidOperation bmVE "ValueError.__new__" = true)
    (kP_InvalidOperation : PySem.W.keepIn K (.ref C_InvalidOperation) = true)
    (st_InvalidOperation : PySem.W.findIn K (.ref C_InvalidOperation) "__str__" = some (some (.builtin "BaseException.__str__")))
    (xP_RestError : PySem.W.excIn K C_RestError bmVE "ValueError.__new__" = true)
    (kP_RestError : PySem.W.keepIn K (.ref C_RestError) = true)
    (st_RestError : PySem.W.findIn K (.ref C_RestError) "__str__" = some (some (.builtin "BaseException.__str__")))
    {nm_ParseError q_ParseError : Str} {N_ParseError fI_ParseError cd_ParseError cc_ParseError : Addr} {bs_ParseError bm_ParseError sub_ParseError : List Value} {sn_ParseError : List Str} {ab_ParseError : Bool} {col_ParseError : Option Bool} {dd_ParseError od_ParseError an_ParseError cdd_ParseError cld_ParseError : Option Addr} {m0_ParseError m1_ParseError m2_ParseError m3_ParseError m5_ParseError : Option Value}
    {oc_ParseError kV_ParseError dc_ParseError pm_ParseError ct_ParseError ccl_ParseError cl_ParseError : Value} {sl_ParseError ccs_ParseError csl_ParseError : Array (Option Value)} {cvs_ParseError : Array Value} {tf_ParseError : Tok}
    (xL_ParseError : K.lookup C_ParseError = some (excClassObj nm_ParseError q_ParseError C_ParseError N_ParseError bs_ParseError bm_ParseError true sn_ParseError sub_ParseError ab_ParseError col_ParseError dd_ParseError m0_ParseError m1_ParseError m2_ParseError m3_ParseError m5_ParseError "ValueError.__new__"))
    (rv_ParseError : ahead [.type "ValueError", .type "Exception", .type "BaseException", .type "object"] bm_ParseError = true)
    (sa_ParseError : PySem.W.findIn K (.ref C_ParseError) "__setattr__" = some (some (.builtin "object.__setattr__")))
    (bP_ParseError : PySem.W.subIn K (.ref C_ParseError) (.type "BaseException") = some true)
    (tP_ParseError : PySem.W.typeIn K (.ref C_ParseError) = some (.type "type"))
    (kP_ParseError : PySem.W.keepIn K (.ref C_ParseError) = true)
    (iC_ParseError : PySem.W.findIn K (.ref C_ParseError) "__init__" = some (some (.ref fI_ParseError)))
    (tI_ParseError : PySem.W.typeIn K (.ref fI_ParseError) = some (.type "function"))
    (lI_ParseError : K.lookup fI_ParseError = some ⟨oc_ParseError, od_ParseError, .func (PySem.W.ksFn "__init__" "ParseError.__init__" (defArgs s_init_ParseError) (defBody s_init_ParseError) (defScope s_init_ParseError) .none kV_ParseError dc_ParseError pm_ParseError an_ParseError (.ref cd_ParseError) ct_ParseError cc_ParseError), sl_ParseError⟩)
    (cI_ParseError : PySem.W.codeIn K (.ref cd_ParseError) "ParseError.__init__" = true)
    (hco_ParseError : K.lookup cd_ParseError = some ⟨ccl_ParseError, cdd_ParseError, .fields cvs_ParseError, ccs_ParseError⟩)
    (hvs_ParseError : cvs_ParseError[2]? = some (.str "/claim/cut.py" tf_ParseError))
    (hce_ParseError : K.lookup cc_ParseError = some ⟨cl_ParseError, cld_ParseError, .cell (some (.ref C_ParseError)), csl_ParseError⟩)
    (hm_ParseError : PySem.W.ks_superIn K C_ParseError C_ParseError "__init__" = some (some (.builtin "ValueError.__init__")))
    (hB_ParseError : PySem.W.subIn K (.ref C_ParseError) (.type "ValueError") = some true)
    (hsu_ParseError : PySem.W.mroIn K C_ParseError (.ref C_ParseError) = some true)
    (no_ParseError : PySem.W.findIn K (.ref C_ParseError) "line" = some none)
    (xf_ParseError : xfB K C_ParseError = true)
    {nm_UnknownName q_UnknownName : Str} {N_UnknownName fI_UnknownName cd_UnknownName cc_UnknownName : Addr} {bs_UnknownName bm_UnknownName sub_UnknownName : List Value} {sn_UnknownName : List Str} {ab_UnknownName : Bool} {col_UnknownName : Option Bool} {dd_UnknownName od_UnknownName an_UnknownName cdd_UnknownName cld_UnknownName : Option Addr} {m0_UnknownName m1_UnknownName m2_UnknownName m3_UnknownName m5_UnknownName : Option Value}
    {oc_UnknownName kV_UnknownName dc_UnknownName pm_UnknownName ct_UnknownName ccl_UnknownName cl_UnknownName : Value} {sl_UnknownName ccs_UnknownName csl_UnknownName : Array (Option Value)} {cvs_UnknownName : Array Value} {tf_UnknownName : Tok}
    (xL_UnknownName : K.lookup C_UnknownName = some (excClassObj nm_UnknownName q_UnknownName C_UnknownName N_UnknownName bs_UnknownName bm_UnknownName true sn_UnknownName sub_UnknownName ab_UnknownName col_UnknownName dd_UnknownName m0_UnknownName m1_UnknownName m2_UnknownName m3_UnknownName m5_UnknownName "LookupError.__new__"))
    (rv_UnknownName : ahead [.type "KeyError", .type "LookupError", .type "Exception", .type "BaseException", .type "object"] bm_UnknownName = true)
    (sa_UnknownName : PySem.W.findIn K (.ref C_UnknownName) "__setattr__" = some (some (.builtin "object.__setattr__")))
    (bP_UnknownName : PySem.W.subIn K (.ref C_UnknownName) (.type "BaseException") = some true)
    (tP_UnknownName : PySem.W.typeIn K (.ref C_UnknownName) = some (.type "type"))
    (kP_UnknownName : PySem.W.keepIn K (.ref C_UnknownName) = true)
    (iC_UnknownName : PySem.W.findIn K (.ref C_UnknownName) "__init__" = some (some (.ref fI_UnknownName)))
    (tI_UnknownName : PySem.W.typeIn K (.ref fI_UnknownName) = some (.type "function"))
    (lI_UnknownName : K.lookup fI_UnknownName = some ⟨oc_UnknownName, od_UnknownName, .func (PySem.W.ksFn "__init__" "UnknownName.__init__" (defArgs s_init_UnknownName) (defBody s_init_UnknownName) (defScope s_init_UnknownName) .none kV_UnknownName dc_UnknownName pm_UnknownName an_UnknownName (.ref cd_UnknownName) ct_UnknownName cc_UnknownName), sl_UnknownName⟩)
    (cI_UnknownName : PySem.W.codeIn K (.ref cd_UnknownName) "UnknownName.__init__" = true)
    (hco_UnknownName : K.lookup cd_UnknownName = some ⟨ccl_UnknownName, cdd_UnknownName, .fields cvs_UnknownName, ccs_UnknownName⟩)
    (hvs_UnknownName : cvs_UnknownName[2]? = some (.str "/claim/cut.py" tf_UnknownName))
    (hce_UnknownName : K.lookup cc_UnknownName = some ⟨cl_UnknownName, cld_UnknownName, .cell (some (.ref C_UnknownName)), csl_UnknownName⟩)
    (hm_UnknownName : PySem.W.ks_superIn K C_UnknownName C_UnknownName "__init__" = some (some (.builtin "KeyError.__init__")))
    (hB_UnknownName : PySem.W.subIn K (.ref C_UnknownName) (.type "KeyError") = some true)
    (hsu_UnknownName : PySem.W.mroIn K C_UnknownName (.ref C_UnknownName) = some true)
    (no_UnknownName : PySem.W.findIn K (.ref C_UnknownName) "wanted" = some none)
    (xf_UnknownName : xfB K C_UnknownName = true)
    {nm_UnknownPlace q_UnknownPlace : Str} {N_UnknownPlace fI_UnknownPlace cd_UnknownPlace cc_UnknownPlace : Addr} {bs_UnknownPlace bm_UnknownPlace sub_UnknownPlace : List Value} {sn_UnknownPlace : List Str} {ab_UnknownPlace : Bool} {col_UnknownPlace : Option Bool} {dd_UnknownPlace od_UnknownPlace an_UnknownPlace cdd_UnknownPlace cld_UnknownPlace : Option Addr} {m0_UnknownPlace m1_UnknownPlace m2_UnknownPlace m3_UnknownPlace m5_UnknownPlace : Option Value}
    {oc_UnknownPlace kV_UnknownPlace dc_UnknownPlace pm_UnknownPlace ct_UnknownPlace ccl_UnknownPlace cl_UnknownPlace : Value} {sl_UnknownPlace ccs_UnknownPlace csl_UnknownPlace : Array (Option Value)} {cvs_UnknownPlace : Array Value} {tf_UnknownPlace : Tok}
    (xL_UnknownPlace : K.lookup C_UnknownPlace = some (excClassObj nm_UnknownPlace q_UnknownPlace C_UnknownPlace N_UnknownPlace bs_UnknownPlace bm_UnknownPlace true sn_UnknownPlace sub_UnknownPlace ab_UnknownPlace col_UnknownPlace dd_UnknownPlace m0_UnknownPlace m1_UnknownPlace m2_UnknownPlace m3_UnknownPlace m5_UnknownPlace "LookupError.__new__"))
    (rv_UnknownPlace : ahead [.type "LookupError", .type "Exception", .type "BaseException", .type "object"] bm_UnknownPlace = true)
    (sa_UnknownPlace : PySem.W.findIn K (.ref C_UnknownPlace) "__setattr__" = some (some (.builtin "object.__setattr__")))
    (bP_UnknownPlace : PySem.W.subIn K (.ref C_UnknownPlace) (.type "BaseException") = some true)
    (tP_UnknownPlace : PySem.W.typeIn K (.ref C_UnknownPlace) = some (.type "type"))
    (kP_UnknownPlace : PySem.W.keepIn K (.ref C_UnknownPlace) = true)
    (iC_UnknownPlace : PySem.W.findIn K (.ref C_UnknownPlace) "__init__" = some (some (.ref fI_UnknownPlace)))
    (tI_UnknownPlace : PySem.W.typeIn K (.ref fI_UnknownPlace) = some (.type "function"))
    (lI_UnknownPlace : K.lookup fI_UnknownPlace = some ⟨oc_UnknownPlace, od_UnknownPlace, .func (PySem.W.ksFn "__init__" "UnknownPlace.__init__" (defArgs s_init_UnknownPlace) (defBody s_init_UnknownPlace) (defScope s_init_UnknownPlace) .none kV_UnknownPlace dc_UnknownPlace pm_UnknownPlace an_UnknownPlace (.ref cd_UnknownPlace) ct_UnknownPlace cc_UnknownPlace), sl_UnknownPlace⟩)
    (cI_UnknownPlace : PySem.W.codeIn K (.ref cd_UnknownPlace) "UnknownPlace.__init__" = true)
    (hco_UnknownPlace : K.lookup cd_UnknownPlace = some ⟨ccl_UnknownPlace, cdd_UnknownPlace, .fields cvs_UnknownPlace, ccs_UnknownPlace⟩)
    (hvs_UnknownPlace : cvs_UnknownPlace[2]? = some (.str "/claim/cut.py" tf_UnknownPlace))
    (hce_UnknownPlace : K.lookup cc_UnknownPlace = some ⟨cl_UnknownPlace, cld_UnknownPlace, .cell (some (.ref C_UnknownPlace)), csl_UnknownPlace⟩)
    (hm_UnknownPlace : PySem.W.ks_superIn K C_UnknownPlace C_UnknownPlace "__init__" = some (some (.builtin "LookupError.__init__")))
    (hB_UnknownPlace : PySem.W.subIn K (.ref C_UnknownPlace) (.type "LookupError") = some true)
    (hsu_UnknownPlace : PySem.W.mroIn K C_UnknownPlace (.ref C_UnknownPlace) = some true)
    (no_UnknownPlace : PySem.W.findIn K (.ref C_UnknownPlace) "spot" = some none)
    (xf_UnknownPlace : xfB K C_UnknownPlace = true)
    {nm_NothingToUndo q_NothingToUndo : Str} {N_NothingToUndo fI_NothingToUndo cd_NothingToUndo cc_NothingToUndo : Addr} {bs_NothingToUndo bm_NothingToUndo sub_NothingToUndo : List Value} {sn_NothingToUndo : List Str} {ab_NothingToUndo : Bool} {col_NothingToUndo : Option Bool} {dd_NothingToUndo od_NothingToUndo an_NothingToUndo cdd_NothingToUndo cld_NothingToUndo : Option Addr} {m0_NothingToUndo m1_NothingToUndo m2_NothingToUndo m3_NothingToUndo m5_NothingToUndo : Option Value}
    {oc_NothingToUndo kV_NothingToUndo dc_NothingToUndo pm_NothingToUndo ct_NothingToUndo ccl_NothingToUndo cl_NothingToUndo : Value} {sl_NothingToUndo ccs_NothingToUndo csl_NothingToUndo : Array (Option Value)} {cvs_NothingToUndo : Array Value} {tf_NothingToUndo : Tok}
    (xL_NothingToUndo : K.lookup C_NothingToUndo = some (excClassObj nm_NothingToUndo q_NothingToUndo C_NothingToUndo N_NothingToUndo bs_NothingToUndo bm_NothingToUndo true sn_NothingToUndo sub_NothingToUndo ab_NothingToUndo col_NothingToUndo dd_NothingToUndo m0_NothingToUndo m1_NothingToUndo m2_NothingToUndo m3_NothingToUndo m5_NothingToUndo "IndexError.__new__"))
    (rv_NothingToUndo : ahead [.type "IndexError", .type "LookupError", .type "Exception", .type "BaseException", .type "object"] bm_NothingToUndo = true)
    (sa_NothingToUndo : PySem.W.findIn K (.ref C_NothingToUndo) "__setattr__" = some (some (.builtin "object.__setattr__")))
    (bP_NothingToUndo : PySem.W.subIn K (.ref C_NothingToUndo) (.type "BaseException") = some true)
    (tP_NothingToUndo : PySem.W.typeIn K (.ref C_NothingToUndo) = some (.type "type"))
    (kP_NothingToUndo : PySem.W.keepIn K (.ref C_NothingToUndo) = true)
    (iC_NothingToUndo : PySem.W.findIn K (.ref C_NothingToUndo) "__init__" = some (some (.ref fI_NothingToUndo)))
    (tI_NothingToUndo : PySem.W.typeIn K (.ref fI_NothingToUndo) = some (.type "function"))
    (lI_NothingToUndo : K.lookup fI_NothingToUndo = some ⟨oc_NothingToUndo, od_NothingToUndo, .func (PySem.W.ksFn "__init__" "NothingToUndo.__init__" (defArgs s_init_NothingToUndo) (defBody s_init_NothingToUndo) (defScope s_init_NothingToUndo) .none kV_NothingToUndo dc_NothingToUndo pm_NothingToUndo an_NothingToUndo (.ref cd_NothingToUndo) ct_NothingToUndo cc_NothingToUndo), sl_NothingToUndo⟩)
    (cI_NothingToUndo : PySem.W.codeIn K (.ref cd_NothingToUndo) "NothingToUndo.__init__" = true)
    (hco_NothingToUndo : K.lookup cd_NothingToUndo = some ⟨ccl_NothingToUndo, cdd_NothingToUndo, .fields cvs_NothingToUndo, ccs_NothingToUndo⟩)
    (hvs_NothingToUndo : cvs_NothingToUndo[2]? = some (.str "/claim/cut.py" tf_NothingToUndo))
    (hce_NothingToUndo : K.lookup cc_NothingToUndo = some ⟨cl_NothingToUndo, cld_NothingToUndo, .cell (some (.ref C_NothingToUndo)), csl_NothingToUndo⟩)
    (hm_NothingToUndo : PySem.W.ks_superIn K C_NothingToUndo C_NothingToUndo "__init__" = some (some (.builtin "IndexError.__init__")))
    (hB_NothingToUndo : PySem.W.subIn K (.ref C_NothingToUndo) (.type "IndexError") = some true)
    (hsu_NothingToUndo : PySem.W.mroIn K C_NothingToUndo (.ref C_NothingToUndo) = some true)
    (no_NothingToUndo : PySem.W.findIn K (.ref C_NothingToUndo) "many" = some none)
    (xf_NothingToUndo : xfB K C_NothingToUndo = true)
    {nm_TooMany q_TooMany : Str} {N_TooMany fI_TooMany cd_TooMany cc_TooMany : Addr} {bs_TooMany bm_TooMany sub_TooMany : List Value} {sn_TooMany : List Str} {ab_TooMany : Bool} {col_TooMany : Option Bool} {dd_TooMany od_TooMany an_TooMany cdd_TooMany cld_TooMany : Option Addr} {m0_TooMany m1_TooMany m2_TooMany m3_TooMany m5_TooMany : Option Value}
    {oc_TooMany kV_TooMany dc_TooMany pm_TooMany ct_TooMany ccl_TooMany cl_TooMany : Value} {sl_TooMany ccs_TooMany csl_TooMany : Array (Option Value)} {cvs_TooMany : Array Value} {tf_TooMany : Tok}
    (xL_TooMany : K.lookup C_TooMany = some (excClassObj nm_TooMany q_TooMany C_TooMany N_TooMany bs_TooMany bm_TooMany true sn_TooMany sub_TooMany ab_TooMany col_TooMany dd_TooMany m0_TooMany m1_TooMany m2_TooMany m3_TooMany m5_TooMany "OverflowError.__new__"))
    (rv_TooMany : ahead [.type "OverflowError", .type "ArithmeticError", .type "Exception", .type "BaseException", .type "object"] bm_TooMany = true)
    (sa_TooMany : PySem.W.findIn K (.ref C_TooMany) "__setattr__" = some (some (.builtin "object.__setattr__")))
    (bP_TooMany : PySem.W.subIn K (.ref C_TooMany) (.type "BaseException") = some true)
    (tP_TooMany : PySem.W.typeIn K (.ref C_TooMany) = some (.type "type"))
    (kP_TooMany : PySem.W.keepIn K (.ref C_TooMany) = true)
    (iC_TooMany : PySem.W.findIn K (.ref C_TooMany) "__init__" = some (some (.ref fI_TooMany)))
    (tI_TooMany : PySem.W.typeIn K (.ref fI_TooMany) = some (.type "function"))
    (lI_TooMany : K.lookup fI_TooMany = some ⟨oc_TooMany, od_TooMany, .func (PySem.W.ksFn "__init__" "TooMany.__init__" (defArgs s_init_TooMany) (defBody s_init_TooMany) (defScope s_init_TooMany) .none kV_TooMany dc_TooMany pm_TooMany an_TooMany (.ref cd_TooMany) ct_TooMany cc_TooMany), sl_TooMany⟩)
    (cI_TooMany : PySem.W.codeIn K (.ref cd_TooMany) "TooMany.__init__" = true)
    (hco_TooMany : K.lookup cd_TooMany = some ⟨ccl_TooMany, cdd_TooMany, .fields cvs_TooMany, ccs_TooMany⟩)
    (hvs_TooMany : cvs_TooMany[2]? = some (.str "/claim/cut.py" tf_TooMany))
    (hce_TooMany : K.lookup cc_TooMany = some ⟨cl_TooMany, cld_TooMany, .cell (some (.ref C_TooMany)), csl_TooMany⟩)
    (hm_TooMany : PySem.W.ks_superIn K C_TooMany C_TooMany "__init__" = some (some (.builtin "OverflowError.__init__")))
    (hB_TooMany : PySem.W.subIn K (.ref C_TooMany) (.type "OverflowError") = some true)
    (hsu_TooMany : PySem.W.mroIn K C_TooMany (.ref C_TooMany) = some true)
    (no_TooMany : PySem.W.findIn K (.ref C_TooMany) "limit" = some none)
    (xf_TooMany : xfB K C_TooMany = true)
    {nm_Refused q_Refused : Str} {N_Refused fI_Refused cd_Refused cc_Refused : Addr} {bs_Refused bm_Refused sub_Refused : List Value} {sn_Refused : List Str} {ab_Refused : Bool} {col_Refused : Option Bool} {dd_Refused od_Refused an_Refused cdd_Refused cld_Refused : Option Addr} {m0_Refused m1_Refused m2_Refused m3_Refused m5_Refused : Option Value}
    {oc_Refused kV_Refused dc_Refused pm_Refused ct_Refused ccl_Refused cl_Refused : Value} {sl_Refused ccs_Refused csl_Refused : Array (Option Value)} {cvs_Refused : Array Value} {tf_Refused : Tok}
    (xL_Refused : K.lookup C_Refused = some (excClassObj nm_Refused q_Refused C_Refused N_Refused bs_Refused bm_Refused true sn_Refused sub_Refused ab_Refused col_Refused dd_Refused m0_Refused m1_Refused m2_Refused m3_Refused m5_Refused "ArithmeticError.__new__"))
    (rv_Refused : ahead [.type "ArithmeticError", .type "Exception", .type "BaseException", .type "object"] bm_Refused = true)
    (sa_Refused : PySem.W.findIn K (.ref C_Refused) "__setattr__" = some (some (.builtin "object.__setattr__")))
    (bP_Refused : PySem.W.subIn K (.ref C_Refused) (.type "BaseException") = some true)
    (tP_Refused : PySem.W.typeIn K (.ref C_Refused) = some (.type "type"))
    (kP_Refused : PySem.W.keepIn K (.ref C_Refused) = true)
    (iC_Refused : PySem.W.findIn K (.ref C_Refused) "__init__" = some (some (.ref fI_Refused)))
    (tI_Refused : PySem.W.typeIn K (.ref fI_Refused) = some (.type "function"))
    (lI_Refused : K.lookup fI_Refused = some ⟨oc_Refused, od_Refused, .func (PySem.W.ksFn "__init__" "Refused.__init__" (defArgs s_init_Refused) (defBody s_init_Refused) (defScope s_init_Refused) .none kV_Refused dc_Refused pm_Refused an_Refused (.ref cd_Refused) ct_Refused cc_Refused), sl_Refused⟩)
    (cI_Refused : PySem.W.codeIn K (.ref cd_Refused) "Refused.__init__" = true)
    (hco_Refused : K.lookup cd_Refused = some ⟨ccl_Refused, cdd_Refused, .fields cvs_Refused, ccs_Refused⟩)
    (hvs_Refused : cvs_Refused[2]? = some (.str "/claim/cut.py" tf_Refused))
    (hce_Refused : K.lookup cc_Refused = some ⟨cl_Refused, cld_Refused, .cell (some (.ref C_Refused)), csl_Refused⟩)
    (hm_Refused : PySem.W.ks_superIn K C_Refused C_Refused "__init__" = some (some (.builtin "ArithmeticError.__init__")))
    (hB_Refused : PySem.W.subIn K (.ref C_Refused) (.type "ArithmeticError") = some true)
    (hsu_Refused : PySem.W.mroIn K C_Refused (.ref C_Refused) = some true)
    (no_Refused : PySem.W.findIn K (.ref C_Refused) "reason" = some none)
    (xf_Refused : xfB K C_Refused = true)
    {nm_InvalidNumber q_InvalidNumber : Str} {N_InvalidNumber fI_InvalidNumber cd_InvalidNumber cc_InvalidNumber : Addr} {bs_InvalidNumber bm_InvalidNumber sub_InvalidNumber : List Value} {sn_InvalidNumber : List Str} {ab_InvalidNumber : Bool} {col_InvalidNumber : Option Bool} {dd_InvalidNumber od_InvalidNumber an_InvalidNumber cdd_InvalidNumber cld_InvalidNumber : Option Addr} {m0_InvalidNumber m1_InvalidNumber m2_InvalidNumber m3_InvalidNumber m5_InvalidNumber : Option Value}
    {oc_InvalidNumber kV_InvalidNumber dc_InvalidNumber pm_InvalidNumber ct_InvalidNumber ccl_InvalidNumber cl_InvalidNumber : Value} {sl_InvalidNumber ccs_InvalidNumber csl_InvalidNumber : Array (Option Value)} {cvs_InvalidNumber : Array Value} {tf_InvalidNumber : Tok}
    (xL_InvalidNumber : K.lookup C_InvalidNumber = some (excClassObj nm_InvalidNumber q_InvalidNumber C_InvalidNumber N_InvalidNumber bs_InvalidNumber bm_InvalidNumber true sn_InvalidNumber sub_InvalidNumber ab_InvalidNumber col_InvalidNumber dd_InvalidNumber m0_InvalidNumber m1_InvalidNumber m2_InvalidNumber m3_InvalidNumber m5_InvalidNumber "RuntimeError.__new__"))
    (rv_InvalidNumber : ahead [.type "RuntimeError", .type "Exception", .type "BaseException", .type "object"] bm_InvalidNumber = true)
    (sa_InvalidNumber : PySem.W.findIn K (.ref C_InvalidNumber) "__setattr__" = some (some (.builtin "object.__setattr__")))
    (bP_InvalidNumber : PySem.W.subIn K (.ref C_InvalidNumber) (.type "BaseException") = some true)
    (tP_InvalidNumber : PySem.W.typeIn K (.ref C_InvalidNumber) = some (.type "type"))
    (kP_InvalidNumber : PySem.W.keepIn K (.ref C_InvalidNumber) = true)
    (iC_InvalidNumber : PySem.W.findIn K (.ref C_InvalidNumber) "__init__" = some (some (.ref fI_InvalidNumber)))
    (tI_InvalidNumber : PySem.W.typeIn K (.ref fI_InvalidNumber) = some (.type "function"))
    (lI_InvalidNumber : K.lookup fI_InvalidNumber = some ⟨oc_InvalidNumber, od_InvalidNumber, .func (PySem.W.ksFn "__init__" "InvalidNumber.__init__" (defArgs s_init_InvalidNumber) (defBody s_init_InvalidNumber) (defScope s_init_InvalidNumber) .none kV_InvalidNumber dc_InvalidNumber pm_InvalidNumber an_InvalidNumber (.ref cd_InvalidNumber) ct_InvalidNumber cc_InvalidNumber), sl_InvalidNumber⟩)
    (cI_InvalidNumber : PySem.W.codeIn K (.ref cd_InvalidNumber) "InvalidNumber.__init__" = true)
    (hco_InvalidNumber : K.lookup cd_InvalidNumber = some ⟨ccl_InvalidNumber, cdd_InvalidNumber, .fields cvs_InvalidNumber, ccs_InvalidNumber⟩)
    (hvs_InvalidNumber : cvs_InvalidNumber[2]? = some (.str "/claim/cut.py" tf_InvalidNumber))
    (hce_InvalidNumber : K.lookup cc_InvalidNumber = some ⟨cl_InvalidNumber, cld_InvalidNumber, .cell (some (.ref C_InvalidNumber)), csl_InvalidNumber⟩)
    (hm_InvalidNumber : PySem.W.ks_superIn K C_InvalidNumber C_InvalidNumber "__init__" = some (some (.builtin "RuntimeError.__init__")))
    (hB_InvalidNumber : PySem.W.subIn K (.ref C_InvalidNumber) (.type "RuntimeError") = some true)
    (hsu_InvalidNumber : PySem.W.mroIn K C_InvalidNumber (.ref C_InvalidNumber) = some true)
    (no_InvalidNumber : PySem.W.findIn K (.ref C_InvalidNumber) "number" = some none)
    (xf_InvalidNumber : xfB K C_InvalidNumber = true)
    (kk_InvalidWord : [.ref C_InvalidWord, .ref C_InvalidCode, .ref C_InvalidProgram, .ref C_InvalidWorld, .ref C_InvalidFact, .ref C_InvalidTable, .ref C_InvalidLines, .ref C_InvalidContext, .ref C_InvalidMarking, .ref C_InvalidOperation, .ref C_ParseError, .ref C_RestError, .type "ValueError"].map (PySem.W.kitOne K (.ref C_InvalidWord)) = [true, false, false, false, false, false, false, false, false, false, false, true, true].map some)
    (ko_InvalidWord : [.ref C_UnknownName, .ref C_UnknownPlace, .ref C_NothingToUndo, .ref C_TooMany, .ref C_Refused, .ref C_InvalidNumber, .type "KeyError", .type "IndexError", .type "LookupError", .type "OverflowError", .type "ArithmeticError", .type "RuntimeError"].map (PySem.W.kitOne K (.ref C_InvalidWord)) = [false, false, false, false, false, false, false, false, false, false, false, false].map some)
    (kk_InvalidCode : [.ref C_InvalidWord, .ref C_InvalidCode, .ref C_InvalidProgram, .ref C_InvalidWorld, .ref C_InvalidFact, .ref C_InvalidTable, .ref C_InvalidLines, .ref C_InvalidContext, .ref C_InvalidMarking, .ref C_InvalidOperation, .ref C_ParseError, .ref C_RestError, .type "ValueError"].map (PySem.W.kitOne K (.ref C_InvalidCode)) = [false, true, false, false, false, false, false, false, false, false, false, true, true].map some)
    (ko_InvalidCode : [.ref C_UnknownName, .ref C_UnknownPlace, .ref C_NothingToUndo, .ref C_TooMany, .ref C_Refused, .ref C_InvalidNumber, .type "KeyError", .type "IndexError", .type "LookupError", .type "OverflowError", .type "ArithmeticError", .type "RuntimeError"].map (PySem.W.kitOne K (.ref C_InvalidCode)) = [false, false, false, false, false, false, false, false, false, false, false, false].map some)
    (kk_InvalidProgram : [.ref C_InvalidWord, .ref C_InvalidCode, .ref C_InvalidProgram, .ref C_InvalidWorld, .ref C_InvalidFact, .ref C_InvalidTable, .ref C_InvalidLines, .ref C_InvalidContext, .ref C_InvalidMarking, .ref C_InvalidOperation, .ref C_ParseError, .ref C_RestError, .type "ValueError"].map (PySem.W.kitOne K (.ref C_InvalidProgram)) = [false, false, true, false, false, false, false, false, false, false, false, true, true].map some)
    (ko_InvalidProgram : [.ref C_UnknownName, .ref C_UnknownPlace, .ref C_NothingToUndo, .ref C_TooMany, .ref C_Refused, .ref C_InvalidNumber, .type "KeyError", .type "IndexError", .type "LookupError", .type "OverflowError", .type "ArithmeticError", .type "RuntimeError"].map (PySem.W.kitOne K (.ref C_InvalidProgram)) = [false, false, false, false, false, false, false, false, false, false, false, false].map some)
    (kk_InvalidWorld : [.ref C_InvalidWord, .ref C_InvalidCode, .ref C_InvalidProgram, .ref C_InvalidWorld, .ref C_InvalidFact, .ref C_InvalidTable, .ref C_InvalidLines, .ref C_InvalidContext, .ref C_InvalidMarking, .ref C_InvalidOperation, .ref C_ParseError, .ref C_RestError, .type "ValueError"].map (PySem.W.kitOne K (.ref C_InvalidWorld)) = [false, false, false, true, false, false, false, false, false, false, false, true, true].map some)
    (ko_InvalidWorld : [.ref C_UnknownName, .ref C_UnknownPlace, .ref C_NothingToUndo, .ref C_TooMany, .ref C_Refused, .ref C_InvalidNumber, .type "KeyError", .type "IndexError", .type "LookupError", .type "OverflowError", .type "ArithmeticError", .type "RuntimeError"].map (PySem.W.kitOne K (.ref C_InvalidWorld)) = [false, false, false, false, false, false, false, false, false, false, false, false].map some)
    (kk_InvalidFact : [.ref C_InvalidWord, .ref C_InvalidCode, .ref C_InvalidProgram, .ref C_InvalidWorld, .ref C_InvalidFact, .ref C_InvalidTable, .ref C_InvalidLines, .ref C_InvalidContext, .ref C_InvalidMarking, .ref C_InvalidOperation, .ref C_ParseError, .ref C_RestError, .type "ValueError"].map (PySem.W.kitOne K (.ref C_InvalidFact)) = [false, false, false, false, true, false, false, false, false, false, false, true, true].map some)
    (ko_InvalidFact : [.ref C_UnknownName, .ref C_UnknownPlace, .ref C_NothingToUndo, .ref C_TooMany, .ref C_Refused, .ref C_InvalidNumber, .type "KeyError", .type "IndexError", .type "LookupError", .type "OverflowError", .type "ArithmeticError", .type "RuntimeError"].map (PySem.W.kitOne K (.ref C_InvalidFact)) = [false, false, false, false, false, false, false, false, false, false, false, false].map some)
    (kk_InvalidTable : [.ref C_InvalidWord, .ref C_InvalidCode, .ref C_InvalidProgram, .ref C_InvalidWorld, .ref C_InvalidFact, .ref C_InvalidTable, .ref C_InvalidLines, .ref C_InvalidContext, .ref C_InvalidMarking, .ref C_InvalidOperation, .ref C_ParseError, .ref C_RestError, .type "ValueError"].map (PySem.W.kitOne K (.ref C_InvalidTable)) = [false, false, false, false, false, true, false, false, false, false, false, true, true].map some)
    (ko_InvalidTable : [.ref C_UnknownName, .ref C_UnknownPlace, .ref C_NothingToUndo, .ref C_TooMany, .ref C_Refused, .ref C_InvalidNumber, .type "KeyError", .type "IndexError", .type "LookupError", .type "OverflowError", .type "ArithmeticError", .type "RuntimeError"].map (PySem.W.kitOne K (.ref C_InvalidTable)) = [false, false, false, false, false, false, false, false, false, false, false, false].map some)
    (kk_InvalidLines : [.ref C_InvalidWord, .ref C_InvalidCode, .ref C_InvalidProgram, .ref C_InvalidWorld, .ref C_InvalidFact, .ref C_InvalidTable, .ref C_InvalidLines, .ref C_InvalidContext, .ref C_InvalidMarking, .ref C_InvalidOperation, .ref C_ParseError, .ref C_RestError, .type "ValueError"].map (PySem.W.kitOne K (.ref C_InvalidLines)) = [false, false, false, false, false, false, true, false, false, false, false, true, true].map some)
    (ko_InvalidLines : [.ref C_UnknownName, .ref C_UnknownPlace, .ref C_NothingToUndo, .ref C_TooMany, .ref C_Refused, .ref C_InvalidNumber, .type "KeyError", .type "IndexError", .type "LookupError", .type "OverflowError", .type "ArithmeticError", .type "RuntimeError"].map (PySem.W.kitOne K (.ref C_InvalidLines)) = [false, false, false, false, false, false, false, false, false, false, false, false].map some)
    (kk_InvalidContext : [.ref C_InvalidWord, .ref C_InvalidCode, .ref C_InvalidProgram, .ref C_InvalidWorld, .ref C_InvalidFact, .ref C_InvalidTable, .ref C_InvalidLines, .ref C_InvalidContext, .ref C_InvalidMarking, .ref C_InvalidOperation, .ref C_ParseError, .ref C_RestError, .type "ValueError"].map (PySem.W.kitOne K (.ref C_InvalidContext)) = [false, false, false, false, false, false, false, true, false, false, false, true, true].map some)
    (ko_InvalidContext : [.ref C_UnknownName, .ref C_UnknownPlace, .ref C_NothingToUndo, .ref C_TooMany, .ref C_Refused, .ref C_InvalidNumber, .type "KeyError", .type "IndexError", .type "LookupError", .type "OverflowError", .type "ArithmeticError", .type "RuntimeError"].map (PySem.W.kitOne K (.ref C_InvalidContext)) = [false, false, false, false, false, false, false, false, false, false, false, false].map some)
    (kk_InvalidMarking : [.ref C_InvalidWord, .ref C_InvalidCode, .ref C_InvalidProgram, .ref C_InvalidWorld, .ref C_InvalidFact, .ref C_InvalidTable, .ref C_InvalidLines, .ref C_InvalidContext, .ref C_InvalidMarking, .ref C_InvalidOperation, .ref C_ParseError, .ref C_RestError, .type "ValueError"].map (PySem.W.kitOne K (.ref C_InvalidMarking)) = [false, false, false, false, false, false, false, false, true, false, false, true, true].map some)
    (ko_InvalidMarking : [.ref C_UnknownName, .ref C_UnknownPlace, .ref C_NothingToUndo, .ref C_TooMany, .ref C_Refused, .ref C_InvalidNumber, .type "KeyError", .type "IndexError", .type "LookupError", .type "OverflowError", .type "ArithmeticError", .type "RuntimeError"].map (PySem.W.kitOne K (.ref C_InvalidMarking)) = [false, false, false, false, false, false, false, false, false, false, false, false].map some)
    (kk_InvalidOperation : [.ref C_InvalidWord, .ref C_InvalidCode, .ref C_InvalidProgram, .ref C_InvalidWorld, .ref C_InvalidFact, .ref C_InvalidTable, .ref C_InvalidLines, .ref C_InvalidContext, .ref C_InvalidMarking, .ref C_InvalidOperation, .ref C_ParseError, .ref C_RestError, .type "ValueError"].map (PySem.W.kitOne K (.ref C_InvalidOperation)) = [false, false, false, false, false, false, false, false, false, true, false, true, true].map some)
    (ko_InvalidOperation : [.ref C_UnknownName, .ref C_UnknownPlace, .ref C_NothingToUndo, .ref C_TooMany, .ref C_Refused, .ref C_InvalidNumber, .type "KeyError", .type "IndexError", .type "LookupError", .type "OverflowError", .type "ArithmeticError", .type "RuntimeError"].map (PySem.W.kitOne K (.ref C_InvalidOperation)) = [false, false, false, false, false, false, false, false, false, false, false, false].map some)
    (kk_ParseError : [.ref C_InvalidWord, .ref C_InvalidCode, .ref C_InvalidProgram, .ref C_InvalidWorld, .ref C_InvalidFact, .ref C_InvalidTable, .ref C_InvalidLines, .ref C_InvalidContext, .ref C_InvalidMarking, .ref C_InvalidOperation, .ref C_ParseError, .ref C_RestError, .type "ValueError"].map (PySem.W.kitOne K (.ref C_ParseError)) = [false, false, false, false, false, false, false, false, false, false, true, true, true].map some)
    (ko_ParseError : [.ref C_UnknownName, .ref C_UnknownPlace, .ref C_NothingToUndo, .ref C_TooMany, .ref C_Refused, .ref C_InvalidNumber, .type "KeyError", .type "IndexError", .type "LookupError", .type "OverflowError", .type "ArithmeticError", .type "RuntimeError"].map (PySem.W.kitOne K (.ref C_ParseError)) = [false, false, false, false, false, false, false, false, false, false, false, false].map some)
    (kk_RestError : [.ref C_InvalidWord, .ref C_InvalidCode, .ref C_InvalidProgram, .ref C_InvalidWorld, .ref C_InvalidFact, .ref C_InvalidTable, .ref C_InvalidLines, .ref C_InvalidContext, .ref C_InvalidMarking, .ref C_InvalidOperation, .ref C_ParseError, .ref C_RestError, .type "ValueError"].map (PySem.W.kitOne K (.ref C_RestError)) = [false, false, false, false, false, false, false, false, false, false, false, true, true].map some)
    (ko_RestError : [.ref C_UnknownName, .ref C_UnknownPlace, .ref C_NothingToUndo, .ref C_TooMany, .ref C_Refused, .ref C_InvalidNumber, .type "KeyError", .type "IndexError", .type "LookupError", .type "OverflowError", .type "ArithmeticError", .type "RuntimeError"].map (PySem.W.kitOne K (.ref C_RestError)) = [false, false, false, false, false, false, false, false, false, false, false, false].map some)
    (kk_UnknownName : [.ref C_InvalidWord, .ref C_InvalidCode, .ref C_InvalidProgram, .ref C_InvalidWorld, .ref C_InvalidFact, .ref C_InvalidTable, .ref C_InvalidLines, .ref C_InvalidContext, .ref C_InvalidMarking, .ref C_InvalidOperation, .ref C_ParseError, .ref C_RestError, .type "ValueError"].map (PySem.W.kitOne K (.ref C_UnknownName)) = [false, false, false, false, false, false, false, false, false, false, false, false, false].map some)
    (ko_UnknownName : [.ref C_UnknownName, .ref C_UnknownPlace, .ref C_NothingToUndo, .ref C_TooMany, .ref C_Refused, .ref C_InvalidNumber, .type "KeyError", .type "IndexError", .type "LookupError", .type "OverflowError", .type "ArithmeticError", .type "RuntimeError"].map (PySem.W.kitOne K (.ref C_UnknownName)) = [true, false, false, false, false, false, true, false, true, false, false, false].map some)
    (kk_UnknownPlace : [.ref C_InvalidWord, .ref C_InvalidCode, .ref C_InvalidProgram, .ref C_InvalidWorld, .ref C_InvalidFact, .ref C_InvalidTable, .ref C_InvalidLines, .ref C_InvalidContext, .ref C_InvalidMarking, .ref C_InvalidOperation, .ref C_ParseError, .ref C_RestError, .type "ValueError"].map (PySem.W.kitOne K (.ref C_UnknownPlace)) = [false, false, false, false, false, false, false, false, false, false, false, false, false].map some)
    (ko_UnknownPlace : [.ref C_UnknownName, .ref C_UnknownPlace, .ref C_NothingToUndo, .ref C_TooMany, .ref C_Refused, .ref C_InvalidNumber, .type "KeyError", .type "IndexError", .type "LookupError", .type "OverflowError", .type "ArithmeticError", .type "RuntimeError"].map (PySem.W.kitOne K (.ref C_UnknownPlace)) = [false, true, false, false, false, false, false, false, true, false, false, false].map some)
    (kk_NothingToUndo : [.ref C_InvalidWord, .ref C_InvalidCode, .ref C_InvalidProgram, .ref C_InvalidWorld, .ref C_InvalidFact, .ref C_InvalidTable, .ref C_InvalidLines, .ref C_InvalidContext, .ref C_InvalidMarking, .ref C_InvalidOperation, .ref C_ParseError, .ref C_RestError, .type "ValueError"].map (PySem.W.kitOne K (.ref C_NothingToUndo)) = [false, false, false, false, false, false, false, false, false, false, false, false, false].map some)
    (ko_NothingToUndo : [.ref C_UnknownName, .ref C_UnknownPlace, .ref C_NothingToUndo, .ref C_TooMany, .ref C_Refused, .ref C_InvalidNumber, .type "KeyError", .type "IndexError", .type "LookupError", .type "OverflowError", .type "ArithmeticError", .type "RuntimeError"].map (PySem.W.kitOne K (.ref C_NothingToUndo)) = [false, false, true, false, false, false, false, true, true, false, false, false].map some)
    (kk_TooMany : [.ref C_InvalidWord, .ref C_InvalidCode, .ref C_InvalidProgram, .ref C_InvalidWorld, .ref C_InvalidFact, .ref C_InvalidTable, .ref C_InvalidLines, .ref C_InvalidContext, .ref C_InvalidMarking, .ref C_InvalidOperation, .ref C_ParseError, .ref C_RestError, .type "ValueError"].map (PySem.W.kitOne K (.ref C_TooMany)) = [false, false, false, false, false, false, false, false, false, false, false, false, false].map some)
    (ko_TooMany : [.ref C_UnknownName, .ref C_UnknownPlace, .ref C_NothingToUndo, .ref C_TooMany, .ref C_Refused, .ref C_InvalidNumber, .type "KeyError", .type "IndexError", .type "LookupError", .type "OverflowError", .type "ArithmeticError", .type "RuntimeError"].map (PySem.W.kitOne K (.ref C_TooMany)) = [false, false, false, true, false, false, false, false, false, true, true, false].map some)
    (kk_Refused : [.ref C_InvalidWord, .ref C_InvalidCode, .ref C_InvalidProgram, .ref C_InvalidWorld, .ref C_InvalidFact, .ref C_InvalidTable, .ref C_InvalidLines, .ref C_InvalidContext, .ref C_InvalidMarking, .ref C_InvalidOperation, .ref C_ParseError, .ref C_RestError, .type "ValueError"].map (PySem.W.kitOne K (.ref C_Refused)) = [false, false, false, false, false, false, false, false, false, false, false, false, false].map some)
    (ko_Refused : [.ref C_UnknownName, .ref C_UnknownPlace, .ref C_NothingToUndo, .ref C_TooMany, .ref C_Refused, .ref C_InvalidNumber, .type "KeyError", .type "IndexError", .type "LookupError", .type "OverflowError", .type "ArithmeticError", .type "RuntimeError"].map (PySem.W.kitOne K (.ref C_Refused)) = [false, false, false, false, true, false, false, false, false, false, true, false].map some)
    (kk_InvalidNumber : [.ref C_InvalidWord, .ref C_InvalidCode, .ref C_InvalidProgram, .ref C_InvalidWorld, .ref C_InvalidFact, .ref C_InvalidTable, .ref C_InvalidLines, .ref C_InvalidContext, .ref C_InvalidMarking, .ref C_InvalidOperation, .ref C_ParseError, .ref C_RestError, .type "ValueError"].map (PySem.W.kitOne K (.ref C_InvalidNumber)) = [false, false, false, false, false, false, false, false, false, false, false, false, false].map some)
    (ko_InvalidNumber : [.ref C_UnknownName, .ref C_UnknownPlace, .ref C_NothingToUndo, .ref C_TooMany, .ref C_Refused, .ref C_InvalidNumber, .type "KeyError", .type "IndexError", .type "LookupError", .type "OverflowError", .type "ArithmeticError", .type "RuntimeError"].map (PySem.W.kitOne K (.ref C_InvalidNumber)) = [false, false, false, false, false, true, false, false, false, false, false, true].map some)
    : ∃ fd : FuncData, (∀ (s : Shared) (v : Value), BindsTo s fd ⟨[v], []⟩ [("script", v)]) ∧ ∀ base : Heap, K.In base → base.Ns mainGlobals mg → FnG l.prog w K mg base CX0 4 fa fd ["script"] (spLaw K) := by
  have e := hfa.symm.trans (PySem.W.mg_of X G a7)
  cases e
  have H1 : Has K mg "_law_dice" s__law_dice ["script", "spot"] := ⟨f1, _, PySem.W.mg_of X G a1, fun_mk (st := s__law_dice) l1 c1 k1, (fun_mk (st := s__law_dice) l1 c1 k1).binds (ps := ["script", "spot"]) fun _ _ _ _ _ _ us hl => match us, hl with | [_, _], _ => rfl⟩
  have H2 : Has K mg "_law_roll" s__law_roll ["dice", "total"] := ⟨f2, _, PySem.W.mg_of X G a2, fun_mk (st := s__law_roll) l2 c2 k2, (fun_mk (st := s__law_roll) l2 c2 k2).binds (ps := ["dice", "total"]) fun _ _ _ _ _ _ us hl => match us, hl with | [_, _], _ => rfl⟩
  have H3 : Has K mg "_law_pick" s__law_pick ["dice", "items"] := ⟨f3, _, PySem.W.mg_of X G a3, fun_mk (st := s__law_pick) l3 c3 k3, (fun_mk (st := s__law_pick) l3 c3 k3).binds (ps := ["dice", "items"]) fun _ _ _ _ _ _ us hl => match us, hl with | [_, _], _ => rfl⟩
  have H4 : Has K mg "_law_kinds" s__law_kinds ["error"] := ⟨f4, _, PySem.W.mg_of X G a4, fun_mk (st := s__law_kinds) l4 c4 k4, (fun_mk (st := s__law_kinds) l4 c4 k4).binds (ps := ["error"]) fun _ _ _ _ _ _ us hl => match us, hl with | [_], _ => rfl⟩
  have H5 : Has K mg "_law_others" s__law_others ["error"] := ⟨f5, _, PySem.W.mg_of X G a5, fun_mk (st := s__law_others) l5 c5 k5, (fun_mk (st := s__law_others) l5 c5 k5).binds (ps := ["error"]) fun _ _ _ _ _ _ us hl => match us, hl with | [_], _ => rfl⟩
  have H6 : Has K mg "_law_right" s__law_right ["dice"] := ⟨f6, _, PySem.W.mg_of X G a6, fun_mk (st := s__law_right) l6 c6 k6, (fun_mk (st := s__law_right) l6 c6 k6).binds (ps := ["dice"]) fun _ _ _ _ _ _ us hl => match us, hl with | [_], _ => rfl⟩
  have z_len := PySem.W.mg_none_of X G y_len
  have z_int := PySem.W.mg_none_of X G y_int
  have z_abs := PySem.W.mg_none_of X G y_abs
  have z_max := PySem.W.mg_none_of X G y_max
  have z_min := PySem.W.mg_none_of X G y_min
  have z_range := PySem.W.mg_none_of X G y_range
  have z_isinstance := PySem.W.mg_none_of X G y_isinstance
  have z_str := PySem.W.mg_none_of X G y_str
  have z_repr := PySem.W.mg_none_of X G y_repr
  have z_super := PySem.W.mg_none_of X G y_super
  have z_ValueError := PySem.W.mg_none_of X G y_ValueError
  have z_KeyError := PySem.W.mg_none_of X G y_KeyError
  have z_IndexError := PySem.W.mg_none_of X G y_IndexError
  have z_LookupError := PySem.W.mg_none_of X G y_LookupError
  have z_OverflowError := PySem.W.mg_none_of X G y_OverflowError
  have z_ArithmeticError := PySem.W.mg_none_of X G y_ArithmeticError
  have z_RuntimeError := PySem.W.mg_none_of X G y_RuntimeError
  have gP_InvalidWord := PySem.W.mg_of X G aC_InvalidWord
  have EC_InvalidWord := ecB_ok ec_InvalidWord
  have gP_InvalidCode := PySem.W.mg_of X G aC_InvalidCode
  have EC_InvalidCode := ecB_ok ec_InvalidCode
  have gP_InvalidProgram := PySem.W.mg_of X G aC_InvalidProgram
  have EC_InvalidProgram := ecB_ok ec_InvalidProgram
  have gP_InvalidWorld := PySem.W.mg_of X G aC_InvalidWorld
  have EC_InvalidWorld := ecB_ok ec_InvalidWorld
  have gP_InvalidFact := PySem.W.mg_of X G aC_InvalidFact
  have EC_InvalidFact := ecB_ok ec_InvalidFact
  have gP_InvalidTable := PySem.W.mg_of X G aC_InvalidTable
  have EC_InvalidTable := ecB_ok ec_InvalidTable
  have gP_InvalidLines := PySem.W.mg_of X G aC_InvalidLines
  have EC_InvalidLines := ecB_ok ec_InvalidLines
  have gP_InvalidContext := PySem.W.mg_of X G aC_InvalidContext
  have EC_InvalidContext := ecB_ok ec_InvalidContext
  have gP_InvalidMarking := PySem.W.mg_of X G aC_InvalidMarking
  have EC_InvalidMarking := ecB_ok ec_InvalidMarking
  have gP_InvalidOperation := PySem.W.mg_of X G aC_InvalidOperation
  have EC_InvalidOperation := ecB_ok ec_InvalidOperation
  have gP_ParseError := PySem.W.mg_of X G aC_ParseError
  have EC_ParseError := ecB_ok ec_ParseError
  have gP_RestError := PySem.W.mg_of X G aC_RestError
  have EC_RestError := ecB_ok ec_RestError
  have gP_UnknownName := PySem.W.mg_of X G aC_UnknownName
  have EC_UnknownName := ecB_ok ec_UnknownName
  have gP_UnknownPlace := PySem.W.mg_of X G aC_UnknownPlace
  have EC_UnknownPlace := ecB_ok ec_UnknownPlace
  have gP_NothingToUndo := PySem.W.mg_of X G aC_NothingToUndo
  have EC_NothingToUndo := ecB_ok ec_NothingToUndo
  have gP_TooMany := PySem.W.mg_of X G aC_TooMany
  have EC_TooMany := ecB_ok ec_TooMany
  have gP_Refused := PySem.W.mg_of X G aC_Refused
  have EC_Refused := ecB_ok ec_Refused
  have gP_InvalidNumber := PySem.W.mg_of X G aC_InvalidNumber
  have EC_InvalidNumber := ecB_ok ec_InvalidNumber
  have T_ParseError : OexB K C_ParseError "ValueError.__new__" [.type "ValueError", .type "Exception", .type "BaseException", .type "object"] := ⟨⟨nm_ParseError, q_ParseError, N_ParseError, bs_ParseError, bm_ParseError, sn_ParseError, sub_ParseError, ab_ParseError, col_ParseError, dd_ParseError, m0_ParseError, m1_ParseError, m2_ParseError, m3_ParseError, m5_ParseError, xL_ParseError, rv_ParseError⟩, sa_ParseError, bP_ParseError, tP_ParseError, kP_ParseError⟩
  have XF_ParseError : XfC K C_ParseError := xfB_ok xf_ParseError
  have b_ParseError : L2.Binds K (PySem.W.ksFn "__init__" "ParseError.__init__" (defArgs s_init_ParseError) (defBody s_init_ParseError) (defScope s_init_ParseError) .none kV_ParseError dc_ParseError pm_ParseError an_ParseError (.ref cd_ParseError) ct_ParseError cc_ParseError) ["self", "line"] [] := .all fun us hl => match us, hl with | [_, _], _ => rfl
  have T_UnknownName : OexB K C_UnknownName "LookupError.__new__" [.type "KeyError", .type "LookupError", .type "Exception", .type "BaseException", .type "object"] := ⟨⟨nm_UnknownName, q_UnknownName, N_UnknownName, bs_UnknownName, bm_UnknownName, sn_UnknownName, sub_UnknownName, ab_UnknownName, col_UnknownName, dd_UnknownName, m0_UnknownName, m1_UnknownName, m2_UnknownName, m3_UnknownName, m5_UnknownName, xL_UnknownName, rv_UnknownName⟩, sa_UnknownName, bP_UnknownName, tP_UnknownName, kP_UnknownName⟩
  have XF_UnknownName : XfC K C_UnknownName := xfB_ok xf_UnknownName
  have b_UnknownName : L2.Binds K (PySem.W.ksFn "__init__" "UnknownName.__init__" (defArgs s_init_UnknownName) (defBody s_init_UnknownName) (defScope s_init_UnknownName) .none kV_UnknownName dc_UnknownName pm_UnknownName an_UnknownName (.ref cd_UnknownName) ct_UnknownName cc_UnknownName) ["self", "wanted"] [] := .all fun us hl => match us, hl with | [_, _], _ => rfl
  have T_UnknownPlace : OexB K C_UnknownPlace "LookupError.__new__" [.type "LookupError", .type "Exception", .type "BaseException", .type "object"] := ⟨⟨nm_UnknownPlace, q_UnknownPlace, N_UnknownPlace, bs_UnknownPlace, bm_UnknownPlace, sn_UnknownPlace, sub_UnknownPlace, ab_UnknownPlace, col_UnknownPlace, dd_UnknownPlace, m0_UnknownPlace, m1_UnknownPlace, m2_UnknownPlace, m3_UnknownPlace, m5_UnknownPlace, xL_UnknownPlace, rv_UnknownPlace⟩, sa_UnknownPlace, bP_UnknownPlace, tP_UnknownPlace, kP_UnknownPlace⟩
  have XF_UnknownPlace : XfC K C_UnknownPlace := xfB_ok xf_UnknownPlace
  have b_UnknownPlace : L2.Binds K (PySem.W.ksFn "__init__" "UnknownPlace.__init__" (defArgs s_init_UnknownPlace) (defBody s_init_UnknownPlace) (defScope s_init_UnknownPlace) .none kV_UnknownPlace dc_UnknownPlace pm_UnknownPlace an_UnknownPlace (.ref cd_UnknownPlace) ct_UnknownPlace cc_UnknownPlace) ["self", "spot"] [] := .all fun us hl => match us, hl with | [_, _], _ => rfl
  have T_NothingToUndo : OexB K C_NothingToUndo "IndexError.__new__" [.type "IndexError", .type "LookupError", .type "Exception", .type "BaseException", .type "object"] := ⟨⟨nm_NothingToUndo, q_NothingToUndo, N_NothingToUndo, bs_NothingToUndo, bm_NothingToUndo, sn_NothingToUndo, sub_NothingToUndo, ab_NothingToUndo, col_NothingToUndo, dd_NothingToUndo, m0_NothingToUndo, m1_NothingToUndo, m2_NothingToUndo, m3_NothingToUndo, m5_NothingToUndo, xL_NothingToUndo, rv_NothingToUndo⟩, sa_NothingToUndo, bP_NothingToUndo, tP_NothingToUndo, kP_NothingToUndo⟩
  have XF_NothingToUndo : XfC K C_NothingToUndo := xfB_ok xf_NothingToUndo
  have b_NothingToUndo : L2.Binds K (PySem.W.ksFn "__init__" "NothingToUndo.__init__" (defArgs s_init_NothingToUndo) (defBody s_init_NothingToUndo) (defScope s_init_NothingToUndo) .none kV_NothingToUndo dc_NothingToUndo pm_NothingToUndo an_NothingToUndo (.ref cd_NothingToUndo) ct_NothingToUndo cc_NothingToUndo) ["self", "many"] [] := .all fun us hl => match us, hl with | [_, _], _ => rfl
  have T_TooMany : OexB K C_TooMany "OverflowError.__new__" [.type "OverflowError", .type "ArithmeticError", .type "Exception", .type "BaseException", .type "object"] := ⟨⟨nm_TooMany, q_TooMany, N_TooMany, bs_TooMany, bm_TooMany, sn_TooMany, sub_TooMany, ab_TooMany, col_TooMany, dd_TooMany, m0_TooMany, m1_TooMany, m2_TooMany, m3_TooMany, m5_TooMany, xL_TooMany, rv_TooMany⟩, sa_TooMany, bP_TooMany, tP_TooMany, kP_TooMany⟩
  have XF_TooMany : XfC K C_TooMany := xfB_ok xf_TooMany
  have b_TooMany : L2.Binds K (PySem.W.ksFn "__init__" "TooMany.__init__" (defArgs s_init_TooMany) (defBody s_init_TooMany) (defScope s_init_TooMany) .none kV_TooMany dc_TooMany pm_TooMany an_TooMany (.ref cd_TooMany) ct_TooMany cc_TooMany) ["self", "limit"] [] := .all fun us hl => match us, hl with | [_, _], _ => rfl
  have T_Refused : OexB K C_Refused "ArithmeticError.__new__" [.type "ArithmeticError", .type "Exception", .type "BaseException", .type "object"] := ⟨⟨nm_Refused, q_Refused, N_Refused, bs_Refused, bm_Refused, sn_Refused, sub_Refused, ab_Refused, col_Refused, dd_Refused, m0_Refused, m1_Refused, m2_Refused, m3_Refused, m5_Refused, xL_Refused, rv_Refused⟩, sa_Refused, bP_Refused, tP_Refused, kP_Refused⟩
  have XF_Refused : XfC K C_Refused := xfB_ok xf_Refused
  have b_Refused : L2.Binds K (PySem.W.ksFn "__init__" "Refused.__init__" (defArgs s_init_Refused) (defBody s_init_Refused) (defScope s_init_Refused) .none kV_Refused dc_Refused pm_Refused an_Refused (.ref cd_Refused) ct_Refused cc_Refused) ["self", "reason"] [] := .all fun us hl => match us, hl with | [_, _], _ => rfl
  have T_InvalidNumber : OexB K C_InvalidNumber "RuntimeError.__new__" [.type "RuntimeError", .type "Exception", .type "BaseException", .type "object"] := ⟨⟨nm_InvalidNumber, q_InvalidNumber, N_InvalidNumber, bs_InvalidNumber, bm_InvalidNumber, sn_InvalidNumber, sub_InvalidNumber, ab_InvalidNumber, col_InvalidNumber, dd_InvalidNumber, m0_InvalidNumber, m1_InvalidNumber, m2_InvalidNumber, m3_InvalidNumber, m5_InvalidNumber, xL_InvalidNumber, rv_InvalidNumber⟩, sa_InvalidNumber, bP_InvalidNumber, tP_InvalidNumber, kP_InvalidNumber⟩
  have XF_InvalidNumber : XfC K C_InvalidNumber := xfB_ok xf_InvalidNumber
  have b_InvalidNumber : L2.Binds K (PySem.W.ksFn "__init__" "InvalidNumber.__init__" (defArgs s_init_InvalidNumber) (defBody s_init_InvalidNumber) (defScope s_init_InvalidNumber) .none kV_InvalidNumber dc_InvalidNumber pm_InvalidNumber an_InvalidNumber (.ref cd_InvalidNumber) ct_InvalidNumber cc_InvalidNumber) ["self", "number"] [] := .all fun us hl => match us, hl with | [_, _], _ => rfl
  have FL := fun_mk (st := s_law) l7 c7 k7
  refine ⟨PySem.W.fnOf "law" "law" (defArgs s_law) (defBody s_law) (defScope s_law) .none kV7 dc7 pm7 an7 cd7 ct7, fun s v => .of_eq rfl, fun base _ _ => ?_⟩
  have F_ParseError : FnOk l.prog w K mg base CX0 1 fI_ParseError _ ["self", "line"] (spSup C_ParseError "line") := fn_supB lI_ParseError cI_ParseError hco_ParseError hvs_ParseError hfile hce_ParseError base_ValueError T_ParseError hm_ParseError hB_ParseError hsu_ParseError hst no_ParseError z_super htop rfl rfl rfl (by decide +kernel) (by decide +kernel) (by decide +kernel) (by decide +kernel) (by decide +kernel) rfl rfl (by decide) (by decide) (by decide +kernel) (fun _ => rfl) (fun _ => ⟨_, rfl⟩)
  have F_UnknownName : FnOk l.prog w K mg base CX0 1 fI_UnknownName _ ["self", "wanted"] (spSup C_UnknownName "wanted") := fn_supB lI_UnknownName cI_UnknownName hco_UnknownName hvs_UnknownName hfile hce_UnknownName base_KeyError T_UnknownName hm_UnknownName hB_UnknownName hsu_UnknownName hst no_UnknownName z_super htop rfl rfl rfl (by decide +kernel) (by decide +kernel) (by decide +kernel) (by decide +kernel) (by decide +kernel) rfl rfl (by decide) (by decide) (by decide +kernel) (fun _ => rfl) (fun _ => ⟨_, rfl⟩)
  have F_UnknownPlace : FnOk l.prog w K mg base CX0 1 fI_UnknownPlace _ ["self", "spot"] (spSup C_UnknownPlace "spot") := fn_supB lI_UnknownPlace cI_UnknownPlace hco_UnknownPlace hvs_UnknownPlace hfile hce_UnknownPlace base_LookupError T_UnknownPlace hm_UnknownPlace hB_UnknownPlace hsu_UnknownPlace hst no_UnknownPlace z_super htop rfl rfl rfl (by decide +kernel) (by decide +kernel) (by decide +kernel) (by decide +kernel) (by decide +kernel) rfl rfl (by decide) (by decide) (by decide +kernel) (fun _ => rfl) (fun _ => ⟨_, rfl⟩)
  have F_NothingToUndo : FnOk l.prog w K mg base CX0 1 fI_NothingToUndo _ ["self", "many"] (spSup C_NothingToUndo "many") := fn_supB lI_NothingToUndo cI_NothingToUndo hco_NothingToUndo hvs_NothingToUndo hfile hce_NothingToUndo base_IndexError T_NothingToUndo hm_NothingToUndo hB_NothingToUndo hsu_NothingToUndo hst no_NothingToUndo z_super htop rfl rfl rfl (by decide +kernel) (by decide +kernel) (by decide +kernel) (by decide +kernel) (by decide +kernel) rfl rfl (by decide) (by decide) (by decide +kernel) (fun _ => rfl) (fun _ => ⟨_, rfl⟩)
  have F_TooMany : FnOk l.prog w K mg base CX0 1 fI_TooMany _ ["self", "limit"] (spSup C_TooMany "limit") := fn_supB lI_TooMany cI_TooMany hco_TooMany hvs_TooMany hfile hce_TooMany base_OverflowError T_TooMany hm_TooMany hB_TooMany hsu_TooMany hst no_TooMany z_super htop rfl rfl rfl (by decide +kernel) (by decide +kernel) (by decide +kernel) (by decide +kernel) (by decide +kernel) rfl rfl (by decide) (by decide) (by decide +kernel) (fun _ => rfl) (fun _ => ⟨_, rfl⟩)
  have F_Refused : FnOk l.prog w K mg base CX0 1 fI_Refused _ ["self", "reason"] (spSup C_Refused "reason") := fn_supB lI_Refused cI_Refused hco_Refused hvs_Refused hfile hce_Refused base_ArithmeticError T_Refused hm_Refused hB_Refused hsu_Refused hst no_Refused z_super htop rfl rfl rfl (by decide +kernel) (by decide +kernel) (by decide +kernel) (by decide +kernel) (by decide +kernel) rfl rfl (by decide) (by decide) (by decide +kernel) (fun _ => rfl) (fun _ => ⟨_, rfl⟩)
  have F_InvalidNumber : FnOk l.prog w K mg base CX0 1 fI_InvalidNumber _ ["self", "number"] (spSup C_InvalidNumber "number") := fn_supB lI_InvalidNumber cI_InvalidNumber hco_InvalidNumber hvs_InvalidNumber hfile hce_InvalidNumber base_RuntimeError T_InvalidNumber hm_InvalidNumber hB_InvalidNumber hsu_InvalidNumber hst no_InvalidNumber z_super htop rfl rfl rfl (by decide +kernel) (by decide +kernel) (by decide +kernel) (by decide +kernel) (by decide +kernel) rfl rfl (by decide) (by decide) (by decide +kernel) (fun _ => rfl) (fun _ => ⟨_, rfl⟩)
  have R := ok_roll (P := l.prog) (w := w) (base := base) H2 z_int
  have RP := ok_pick (P := l.prog) (w := w) (base := base) H3 R z_len
  have RK := ok_kinds (P := l.prog) (w := w) (base := base) H4 gP_InvalidWord gP_InvalidCode gP_InvalidProgram gP_InvalidWorld gP_InvalidFact gP_InvalidTable gP_InvalidLines gP_InvalidContext gP_InvalidMarking gP_InvalidOperation gP_ParseError gP_RestError z_ValueError z_isinstance
  have RO := ok_others (P := l.prog) (w := w) (base := base) H5 gP_UnknownName gP_UnknownPlace gP_NothingToUndo gP_TooMany gP_Refused gP_InvalidNumber z_KeyError z_IndexError z_LookupError z_OverflowError z_ArithmeticError z_RuntimeError z_isinstance
  have RD := ok_dice (P := l.prog) (w := w) (base := base) H1 z_len z_int z_abs z_max
  have RR := ok_right (P := l.prog) (w := w) (base := base) H6 R RP RK RO xP_InvalidWord gP_InvalidWord kP_InvalidWord st_InvalidWord xP_InvalidCode gP_InvalidCode kP_InvalidCode st_InvalidCode xP_InvalidProgram gP_InvalidProgram kP_InvalidProgram st_InvalidProgram xP_InvalidWorld gP_InvalidWorld kP_InvalidWorld st_InvalidWorld xP_InvalidFact gP_InvalidFact kP_InvalidFact st_InvalidFact xP_InvalidTable gP_InvalidTable kP_InvalidTable st_InvalidTable xP_InvalidLines gP_InvalidLines kP_InvalidLines st_InvalidLines xP_InvalidContext gP_InvalidContext kP_InvalidContext st_InvalidContext xP_InvalidMarking gP_InvalidMarking kP_InvalidMarking st_InvalidMarking xP_InvalidOperation gP_InvalidOperation kP_InvalidOperation st_InvalidOperation xP_RestError gP_RestError kP_RestError st_RestError T_ParseError iC_ParseError tI_ParseError F_ParseError b_ParseError gP_ParseError XF_ParseError no_ParseError T_UnknownName iC_UnknownName tI_UnknownName F_UnknownName b_UnknownName gP_UnknownName XF_UnknownName no_UnknownName T_UnknownPlace iC_UnknownPlace tI_UnknownPlace F_UnknownPlace b_UnknownPlace gP_UnknownPlace XF_UnknownPlace no_UnknownPlace T_NothingToUndo iC_NothingToUndo tI_NothingToUndo F_NothingToUndo b_NothingToUndo gP_NothingToUndo XF_NothingToUndo no_NothingToUndo T_TooMany iC_TooMany tI_TooMany F_TooMany b_TooMany gP_TooMany XF_TooMany no_TooMany T_Refused iC_Refused tI_Refused F_Refused b_Refused gP_Refused XF_Refused no_Refused T_InvalidNumber iC_InvalidNumber tI_InvalidNumber F_InvalidNumber b_InvalidNumber gP_InvalidNumber XF_InvalidNumber no_InvalidNumber EC_InvalidWord kk_InvalidWord ko_InvalidWord EC_InvalidCode kk_InvalidCode ko_InvalidCode EC_InvalidProgram kk_InvalidProgram ko_InvalidProgram EC_InvalidWorld kk_InvalidWorld ko_InvalidWorld EC_InvalidFact kk_InvalidFact ko_InvalidFact EC_InvalidTable kk_InvalidTable ko_InvalidTable EC_InvalidLines kk_InvalidLines ko_InvalidLines EC_InvalidContext kk_InvalidContext ko_InvalidContext EC_InvalidMarking kk_InvalidMarking ko_InvalidMarking EC_InvalidOperation kk_InvalidOperation ko_InvalidOperation EC_ParseError kk_ParseError ko_ParseError EC_RestError kk_RestError ko_RestError EC_UnknownName kk_UnknownName ko_UnknownName EC_UnknownPlace kk_UnknownPlace ko_UnknownPlace EC_NothingToUndo kk_NothingToUndo ko_NothingToUndo EC_TooMany kk_TooMany ko_TooMany EC_Refused kk_Refused ko_Refused EC_InvalidNumber kk_InvalidNumber ko_InvalidNumber z_len z_str z_repr z_range
  exact ok_law (P := l.prog) (w := w) (base := base) FL RD RR T_ParseError iC_ParseError tI_ParseError F_ParseError b_ParseError gP_ParseError XF_ParseError no_ParseError T_TooMany iC_TooMany tI_TooMany F_TooMany b_TooMany gP_TooMany XF_TooMany no_TooMany z_len z_range z_min z_max
end Rw
open PySem PySem.W PyProof.Rows in
set_option maxRecDepth 100000 in
set_option maxHeartbeats 0 in
theorem PySem.Challenge.cw_restwise_k00_errors_and_what_they_keep_holds : PySem.Challenge.rw_restwise_k00_errors_and_what_they_keep.Holds := by
  w_on; o_law; k_head; (case hw => w_witness2)
  k_fill
  refine Rw.walk_ofG (l := PySem.Challenge.rw_restwise_k00_errors_and_what_they_keep) (k := 4) (x := "script") (sp := Rw.spLaw) rfl rfl ⟨rfl, by decide, by decide⟩ (fun w h Y => PySem.W.kIn_of Y) ?F (fun _ _ a ns hl hS => ⟨a, ns, rfl, hS, hl, fun _ => rfl⟩)
  case F =>
    intro w mg fa h KX G hmg
    refine' Rw.all_mk (l := PySem.Challenge.rw_restwise_k00_errors_and_what_they_keep) KX G hmg (by decide +kernel) (by decide +kernel) ?a1 ?l1 ?c1 ?k1 ?a2 ?l2 ?c2 ?k2 ?a3 ?l3 ?c3 ?k3 ?a4 ?l4 ?c4 ?k4 ?a5 ?l5 ?c5 ?k5 ?a6 ?l6 ?c6 ?k6 ?a7 ?l7 ?c7 ?k7 ?y_len ?y_int ?y_abs ?y_max ?y_min ?y_range ?y_isinstance ?y_str ?y_repr ?y_super ?y_ValueError ?y_KeyError ?y_IndexError ?y_LookupError ?y_OverflowError ?y_ArithmeticError ?y_RuntimeError ?hst ?aC_InvalidWord ?aC_InvalidCode ?aC_InvalidProgram ?aC_InvalidWorld ?aC_InvalidFact ?aC_InvalidTable ?aC_InvalidLines ?aC_InvalidContext ?aC_InvalidMarking ?aC_InvalidOperation ?aC_ParseError ?aC_RestError ?aC_UnknownName ?aC_UnknownPlace ?aC_NothingToUndo ?aC_TooMany ?aC_Refused ?aC_InvalidNumber ?ec_InvalidWord ?ec_InvalidCode ?ec_InvalidProgram ?ec_InvalidWorld ?ec_InvalidFact ?ec_InvalidTable ?ec_InvalidLines ?ec_InvalidContext ?ec_InvalidMarking ?ec_InvalidOperation ?ec_ParseError ?ec_RestError ?ec_UnknownName ?ec_UnknownPlace ?ec_NothingToUndo ?ec_TooMany ?ec_Refused ?ec_InvalidNumber ?xP_InvalidWord ?kP_InvalidWord ?st_InvalidWord ?xP_InvalidCode ?kP_InvalidCode ?st_InvalidCode ?xP_InvalidProgram ?kP_InvalidProgram ?st_InvalidProgram ?xP_InvalidWorld ?kP_InvalidWorld ?st_InvalidWorld ?xP_InvalidFact ?kP_InvalidFact ?st_InvalidFact ?xP_InvalidTable ?kP_InvalidTable ?st_InvalidTable ?xP_InvalidLines ?kP_InvalidLines ?st_InvalidLines ?xP_InvalidContext ?kP_InvalidContext ?st_InvalidContext ?xP_InvalidMarking ?kP_InvalidMarking ?st_InvalidMarking ?xP_InvalidOperation ?kP_InvalidOperation ?st_InvalidOperation ?xP_RestError ?kP_RestError ?st_RestError ?xL_ParseError ?rv_ParseError ?sa_ParseError ?bP_ParseError ?tP_ParseError ?kP_ParseError ?iC_ParseError ?tI_ParseError ?lI_ParseError ?cI_ParseError ?hco_ParseError ?hvs_ParseError ?hce_ParseError ?hm_ParseError ?hB_ParseError ?hsu_ParseError ?no_ParseError ?xf_ParseError ?xL_UnknownName ?rv_UnknownName ?sa_UnknownName ?bP_UnknownName ?tP_UnknownName ?kP_UnknownName ?iC_UnknownName ?tI_UnknownName ?lI_UnknownName ?cI_UnknownName ?hco_UnknownName ?hvs_UnknownName ?hce_UnknownName ?hm_UnknownName ?hB_UnknownName ?hsu_UnknownName ?no_UnknownName ?xf_UnknownName ?xL_UnknownPlace ?rv_UnknownPlace ?sa_UnknownPlace ?bP_UnknownPlace ?tP_UnknownPlace ?kP_UnknownPlace ?iC_UnknownPlace ?tI_UnknownPlace ?lI_UnknownPlace ?cI_UnknownPlace ?hco_UnknownPlace ?hvs_UnknownPlace ?hce_UnknownPlace ?hm_UnknownPlace ?hB_UnknownPlace ?hsu_UnknownPlace ?no_UnknownPlace ?xf_UnknownPlace ?xL_NothingToUndo ?rv_NothingToUndo ?sa_NothingToUndo ?bP_NothingToUndo ?tP_NothingToUndo ?kP_NothingToUndo ?iC_NothingToUndo ?tI_NothingToUndo ?lI_NothingToUndo ?cI_NothingToUndo ?hco_NothingToUndo ?hvs_NothingToUndo ?hce_NothingToUndo ?hm_NothingToUndo ?hB_NothingToUndo ?hsu_NothingToUndo ?no_NothingToUndo ?xf_NothingToUndo ?xL_TooMany ?rv_TooMany ?sa_TooMany ?bP_TooMany ?tP_TooMany ?kP_TooMany ?iC_TooMany ?tI_TooMany ?lI_TooMany ?cI_TooMany ?hco_TooMany ?hvs_TooMany ?hce_TooMany ?hm_TooMany ?hB_TooMany ?hsu_TooMany ?no_TooMany ?xf_TooMany ?xL_Refused ?rv_Refused ?sa_Refused ?bP_Refused ?tP_Refused ?kP_Refused ?iC_Refused ?tI_Refused ?lI_Refused ?cI_Refused ?hco_Refused ?hvs_Refused ?hce_Refused ?hm_Refused ?hB_Refused ?hsu_Refused ?no_Refused ?xf_Refused ?xL_InvalidNumber ?rv_InvalidNumber ?sa_InvalidNumber ?bP_InvalidNumber ?tP_InvalidNumber ?kP_InvalidNumber ?iC_InvalidNumber ?tI_InvalidNumber ?lI_InvalidNumber ?cI_InvalidNumber ?hco_InvalidNumber ?hvs_InvalidNumber ?hce_InvalidNumber ?hm_InvalidNumber ?hB_InvalidNumber ?hsu_InvalidNumber ?no_InvalidNumber ?xf_InvalidNumber ?kk_InvalidWord ?ko_InvalidWord ?kk_InvalidCode ?ko_InvalidCode ?kk_InvalidProgram ?ko_InvalidProgram ?kk_InvalidWorld ?ko_InvalidWorld ?kk_InvalidFact ?ko_InvalidFact ?kk_InvalidTable ?ko_InvalidTable ?kk_InvalidLines ?ko_InvalidLines ?kk_InvalidContext ?ko_InvalidContext ?kk_InvalidMarking ?ko_InvalidMarking ?kk_InvalidOperation ?ko_InvalidOperation ?kk_ParseError ?ko_ParseError ?kk_RestError ?ko_RestError ?kk_UnknownName ?ko_UnknownName ?kk_UnknownPlace ?ko_UnknownPlace ?kk_NothingToUndo ?ko_NothingToUndo ?kk_TooMany ?ko_TooMany ?kk_Refused ?ko_Refused ?kk_InvalidNumber ?ko_InvalidNumber
    (case a1 => k_is)
    (case l1 => k_is)
    (case c1 => k_is)
    (case k1 => k_is)
    (case a2 => k_is)
    (case l2 => k_is)
    (case c2 => k_is)
    (case k2 => k_is)
    (case a3 => k_is)
    (case l3 => k_is)
    (case c3 => k_is)
    (case k3 => k_is)
    (case a4 => k_is)
    (case l4 => k_is)
    (case c4 => k_is)
    (case k4 => k_is)
    (case a5 => k_is)
    (case l5 => k_is)
    (case c5 => k_is)
    (case k5 => k_is)
    (case a6 => k_is)
    (case l6 => k_is)
    (case c6 => k_is)
    (case k6 => k_is)
    (case a7 => k_is)
    (case l7 => k_is)
    (case c7 => k_is)
    (case k7 => k_is)
    (case y_len => k_is)
    (case y_int => k_is)
    (case y_abs => k_is)
    (case y_max => k_is)
    (case y_min => k_is)
    (case y_range => k_is)
    (case y_isinstance => k_is)
    (case y_str => k_is)
    (case y_repr => k_is)
    (case y_super => k_is)
    (case y_ValueError => k_is)
    (case y_KeyError => k_is)
    (case y_IndexError => k_is)
    (case y_LookupError => k_is)
    (case y_OverflowError => k_is)
    (case y_ArithmeticError => k_is)
    (case y_RuntimeError => k_is)
    (case hst => k_is)
    (case aC_InvalidWord => k_is)
    (case aC_InvalidCode => k_is)
    (case aC_InvalidProgram => k_is)
    (case aC_InvalidWorld => k_is)
    (case aC_InvalidFact => k_is)
    (case aC_InvalidTable => k_is)
    (case aC_InvalidLines => k_is)
    (case aC_InvalidContext => k_is)
    (case aC_InvalidMarking => k_is)
    (case aC_InvalidOperation => k_is)
    (case aC_ParseError => k_is)
    (case aC_RestError => k_is)
    (case aC_UnknownName => k_is)
    (case aC_UnknownPlace => k_is)
    (case aC_NothingToUndo => k_is)
    (case aC_TooMany => k_is)
    (case aC_Refused => k_is)
    (case aC_InvalidNumber => k_is)
    (case ec_InvalidWord => kernel_rfl)
    (case ec_InvalidCode => kernel_rfl)
    (case ec_InvalidProgram => kernel_rfl)
    (case ec_InvalidWorld => kernel_rfl)
    (case ec_InvalidFact => kernel_rfl)
    (case ec_InvalidTable => kernel_rfl)
    (case ec_InvalidLines => kernel_rfl)
    (case ec_InvalidContext => kernel_rfl)
    (case ec_InvalidMarking => kernel_rfl)
    (case ec_InvalidOperation => kernel_rfl)
    (case ec_ParseError => kernel_rfl)
    (case ec_RestError => kernel_rfl)
    (case ec_UnknownName => kernel_rfl)
    (case ec_UnknownPlace => kernel_rfl)
    (case ec_NothingToUndo => kernel_rfl)
    (case ec_TooMany => kernel_rfl)
    (case ec_Refused => kernel_rfl)
    (case ec_InvalidNumber => kernel_rfl)
    (case xP_InvalidWord => kernel_rfl)
    (case kP_InvalidWord => k_is)
    (case st_InvalidWord => k_is)
    (case xP_InvalidCode => kernel_rfl)
    (case kP_InvalidCode => k_is)
    (case st_InvalidCode => k_is)
    (case xP_InvalidProgram => kernel_rfl)
    (case kP_InvalidProgram => k_is)
    (case st_InvalidProgram => k_is)
    (case xP_InvalidWorld => kernel_rfl)
    (case kP_InvalidWorld => k_is)
    (case st_InvalidWorld => k_is)
    (case xP_InvalidFact => kernel_rfl)
    (case kP_InvalidFact => k_is)
    (case st_InvalidFact => k_is)
    (case xP_InvalidTable => kernel_rfl)
    (case kP_InvalidTable => k_is)
    (case st_InvalidTable => k_is)
    (case xP_InvalidLines => kernel_rfl)
    (case kP_InvalidLines => k_is)
    (case st_InvalidLines => k_is)
    (case xP_InvalidContext => kernel_rfl)
    (case kP_InvalidContext => k_is)
    (case st_InvalidContext => k_is)
    (case xP_InvalidMarking => kernel_rfl)
    (case kP_InvalidMarking => k_is)
    (case st_InvalidMarking => k_is)
    (case xP_InvalidOperation => kernel_rfl)
    (case kP_InvalidOperation => k_is)
    (case st_InvalidOperation => k_is)
    (case xP_RestError => kernel_rfl)
    (case kP_RestError => k_is)
    (case st_RestError => k_is)
    (case xL_ParseError => k_is)
    (case rv_ParseError => decide +kernel)
    (case sa_ParseError => k_is)
    (case bP_ParseError => k_is)
    (case tP_ParseError => k_is)
    (case kP_ParseError => k_is)
    (case iC_ParseError => k_is)
    (case tI_ParseError => k_is)
    (case lI_ParseError => k_is)
    (case cI_ParseError => k_is)
    (case hco_ParseError => k_is)
    (case hvs_ParseError => rfl)
    (case hce_ParseError => k_is)
    (case hm_ParseError => kernel_rfl)
    (case hB_ParseError => k_is)
    (case hsu_ParseError => k_is)
    (case no_ParseError => k_is)
    (case xf_ParseError => kernel_rfl)
    (case xL_UnknownName => k_is)
    (case rv_UnknownName => decide +kernel)
    (case sa_UnknownName => k_is)
    (case bP_UnknownName => k_is)
    (case tP_UnknownName => k_is)
    (case kP_UnknownName => k_is)
    (case iC_UnknownName => k_is)
    (case tI_UnknownName => k_is)
    (case lI_UnknownName => k_is)
    (case cI_UnknownName => k_is)
    (case hco_UnknownName => k_is)
    (case hvs_UnknownName => rfl)
    (case hce_UnknownName => k_is)
    (case hm_UnknownName => kernel_rfl)
    (case hB_UnknownName => k_is)
    (case hsu_UnknownName => k_is)
    (case no_UnknownName => k_is)
    (case xf_UnknownName => kernel_rfl)
    (case xL_UnknownPlace => k_is)
    (case rv_UnknownPlace => decide +kernel)
    (case sa_UnknownPlace => k_is)
    (case bP_UnknownPlace => k_is)
    (case tP_UnknownPlace => k_is)
    (case kP_UnknownPlace => k_is)
    (case iC_UnknownPlace => k_is)
    (case tI_UnknownPlace => k_is)
    (case lI_UnknownPlace => k_is)
    (case cI_UnknownPlace => k_is)
    (case hco_UnknownPlace => k_is)
    (case hvs_UnknownPlace => rfl)
    (case hce_UnknownPlace => k_is)
    (case hm_UnknownPlace => kernel_rfl)
    (case hB_UnknownPlace => k_is)
    (case hsu_UnknownPlace => k_is)
    (case no_UnknownPlace => k_is)
    (case xf_UnknownPlace => kernel_rfl)
    (case xL_NothingToUndo => k_is)
    (case rv_NothingToUndo => decide +kernel)
    (case sa_NothingToUndo => k_is)
    (case bP_NothingToUndo => k_is)
    (case tP_NothingToUndo => k_is)
    (case kP_NothingToUndo => k_is)
    (case iC_NothingToUndo => k_is)
    (case tI_NothingToUndo => k_is)
    (case lI_NothingToUndo => k_is)
    (case cI_NothingToUndo => k_is)
    (case hco_NothingToUndo => k_is)
    (case hvs_NothingToUndo => rfl)
    (case hce_NothingToUndo => k_is)
    (case hm_NothingToUndo => kernel_rfl)
    (case hB_NothingToUndo => k_is)
    (case hsu_NothingToUndo => k_is)
    (case no_NothingToUndo => k_is)
    (case xf_NothingToUndo => kernel_rfl)
    (case xL_TooMany => k_is)
    (case rv_TooMany => decide +kernel)
    (case sa_TooMany => k_is)
    (case bP_TooMany => k_is)
    (case tP_TooMany => k_is)
    (case kP_TooMany => k_is)
    (case iC_TooMany => k_is)
    (case tI_TooMany => k_is)
    (case lI_TooMany => k_is)
    (case cI_TooMany => k_is)
    (case hco_TooMany => k_is)
    (case hvs_TooMany => rfl)
    (case hce_TooMany => k_is)
    (case hm_TooMany => kernel_rfl)
    (case hB_TooMany => k_is)
    (case hsu_TooMany => k_is)
    (case no_TooMany => k_is)
    (case xf_TooMany => kernel_rfl)
    (case xL_Refused => k_is)
    (case rv_Refused => decide +kernel)
    (case sa_Refused => k_is)
    (case bP_Refused => k_is)
    (case tP_Refused => k_is)
    (case kP_Refused => k_is)
    (case iC_Refused => k_is)
    (case tI_Refused => k_is)
    (case lI_Refused => k_is)
    (case cI_Refused => k_is)
    (case hco_Refused => k_is)
    (case hvs_Refused => rfl)
    (case hce_Refused => k_is)
    (case hm_Refused => kernel_rfl)
    (case hB_Refused => k_is)
    (case hsu_Refused => k_is)
    (case no_Refused => k_is)
    (case xf_Refused => kernel_rfl)
    (case xL_InvalidNumber => k_is)
    (case rv_InvalidNumber => decide +kernel)
    (case sa_InvalidNumber => k_is)
    (case bP_InvalidNumber => k_is)
    (case tP_InvalidNumber => k_is)
    (case kP_InvalidNumber => k_is)
    (case iC_InvalidNumber => k_is)
    (case tI_InvalidNumber => k_is)
    (case lI_InvalidNumber => k_is)
    (case cI_InvalidNumber => k_is)
    (case hco_InvalidNumber => k_is)
    (case hvs_InvalidNumber => rfl)
    (case hce_InvalidNumber => k_is)
    (case hm_InvalidNumber => kernel_rfl)
    (case hB_InvalidNumber => k_is)
    (case hsu_InvalidNumber => k_is)
    (case no_InvalidNumber => k_is)
    (case xf_InvalidNumber => kernel_rfl)
    (case kk_InvalidWord => kernel_rfl)
    (case ko_InvalidWord => kernel_rfl)
    (case kk_InvalidCode => kernel_rfl)
    (case ko_InvalidCode => kernel_rfl)
    (case kk_InvalidProgram => kernel_rfl)
    (case ko_InvalidProgram => kernel_rfl)
    (case kk_InvalidWorld => kernel_rfl)
    (case ko_InvalidWorld => kernel_rfl)
    (case kk_InvalidFact => kernel_rfl)
    (case ko_InvalidFact => kernel_rfl)
    (case kk_InvalidTable => kernel_rfl)
    (case ko_InvalidTable => kernel_rfl)
    (case kk_InvalidLines => kernel_rfl)
    (case ko_InvalidLines => kernel_rfl)
    (case kk_InvalidContext => kernel_rfl)
    (case ko_InvalidContext => kernel_rfl)
    (case kk_InvalidMarking => kernel_rfl)
    (case ko_InvalidMarking => kernel_rfl)
    (case kk_InvalidOperation => kernel_rfl)
    (case ko_InvalidOperation => kernel_rfl)
    (case kk_ParseError => kernel_rfl)
    (case ko_ParseError => kernel_rfl)
    (case kk_RestError => kernel_rfl)
    (case ko_RestError => kernel_rfl)
    (case kk_UnknownName => kernel_rfl)
    (case ko_UnknownName => kernel_rfl)
    (case kk_UnknownPlace => kernel_rfl)
    (case ko_UnknownPlace => kernel_rfl)
    (case kk_NothingToUndo => kernel_rfl)
    (case ko_NothingToUndo => kernel_rfl)
    (case kk_TooMany => kernel_rfl)
    (case ko_TooMany => kernel_rfl)
    (case kk_Refused => kernel_rfl)
    (case ko_Refused => kernel_rfl)
    (case kk_InvalidNumber => kernel_rfl)
    (case ko_InvalidNumber => kernel_rfl)
