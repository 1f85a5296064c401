import PyProof.Rows.All
import Wide.All
import OpenK.AllK
import Wide.FinOn
import PyProof.EqAt
import PyProof.EqKinds
import PyProof.TupleCall
import PyProof.Rows.ListStrD
import HandS.ForMost
import HandS.IsInst
import HandS.RaiseMore
import HandS.Codes
import HandS.Walk
import PyProof.ReprRoads
import HandS.TupAny
import HandS.TupMul
import HandS.ExcInit
import HandS.ExcField
import HandS.TryMany
import HandS.WordsExc
import KE.KExcSuper
import HandS.Lambda
import HandS.EndTab
import KE.KNest
import HandS.More
import PySem.Challenge.RW_restwise_k04_what_is_no_world
set_option Elab.async false
set_option linter.all false
set_option maxRecDepth 100000
set_option maxHeartbeats 4000000
namespace Rw
open PySem PySem.Spec PyProof.Rows L2
theorem bt_len : bootBuiltins "len" = some (.builtin "len") := by decide +kernel
theorem bt_abs : bootBuiltins "abs" = some (.builtin "abs") := by decide +kernel
theorem bt_max : bootBuiltins "max" = some (.builtin "max") := by decide +kernel
theorem bt_min : bootBuiltins "min" = some (.builtin "min") := by decide +kernel
theorem bt_all : bootBuiltins "all" = some (.builtin "all") := by decide +kernel
theorem bt_any : bootBuiltins "any" = some (.builtin "any") := by decide +kernel
theorem bt_repr : bootBuiltins "repr" = some (.builtin "repr") := by decide +kernel
theorem bt_isinstance : bootBuiltins "isinstance" = some (.builtin "isinstance") := by decide +kernel
theorem bt_sorted : bootBuiltins "sorted" = some (.builtin "sorted") := by decide +kernel
theorem bt_int : bootBuiltins "int" = some (.type "int") := by decide +kernel
theorem bt_str : bootBuiltins "str" = some (.type "str") := by decide +kernel
theorem bt_list : bootBuiltins "list" = some (.type "list") := by decide +kernel
theorem bt_tuple : bootBuiltins "tuple" = some (.type "tuple") := by decide +kernel
theorem bt_bool : bootBuiltins "bool" = some (.type "bool") := by decide +kernel
theorem bt_dict : bootBuiltins "dict" = some (.type "dict") := by decide +kernel
theorem bt_set : bootBuiltins "set" = some (.type "set") := by decide +kernel
theorem bt_range : bootBuiltins "range" = some (.type "range") := by decide +kernel
theorem bt_zip : bootBuiltins "zip" = some (.type "zip") := by decide +kernel
section
variable {X : Cx}
def CPowW (i j : Int) : Prop := 0 ≤ j ∧ (Builtin.Int.intBits i : Int) * j ≤ 2 ^ 27
theorem op_powW : OpR X (binaryOp .Pow) (rI CPowW fun i j => .int (i ^ j.toNat)) := opI fun _ _ _ _ _ _ _ hc q => PyProof.Rows.pow_int hc.1 hc.2 q
theorem call_repr_bool : CallR X (.builtin "repr") (fun xs H Q => ∃ b, xs = [.bl b] ∧ Q (.str (if b then "True" else "False")) H) := by
  intro pins s σ H xs us Q I r h
  obtain ⟨b, rfl, q⟩ := h
  obtain ⟨u, rfl, rfl⟩ := vals1 r
  exact PySem.P.repr_of_bool ⟨.str _, H, I.tok _, ⟨_, rfl⟩, q⟩
/-- the signs of a text, each as a text -/
def sgn (z : Str) : List V := z.cps.toList.map fun c => V.str ⟨#[c]⟩
theorem call_list_str (hc : X.calm = true) : CallR X (.type "list") (fun xs H Q => ∃ z, xs = [.str z] ∧ z.length ≤ sizeLine ∧ ∀ l, H l = none → Q (.ref l) (upd H l (.lst (sgn z)))) := by
  intro pins s σ H xs us Q I r h
  obtain ⟨z, rfl, hz, q⟩ := h
  obtain ⟨u, rfl, t, rfl⟩ := vals1 r
  refine PySem.call_list_str (I.ok.hd hc) z t (hn := hz) fun h' tk acc' c' hk hS' hacc => ?_
  have hv : ∀ (ys : List Value) (cs : List Nat), ys.length = cs.length → (∀ (j : Nat) (v : Value), ys[j]? = some v → ∃ (c : Nat) (u : Tok), cs[j]? = some c ∧ v = Value.str ⟨#[c]⟩ u) → Vals (cs.map fun c => V.str ⟨#[c]⟩) ys := by
    intro ys
    induction ys with
    | nil =>
      intro cs hl _
      cases cs with
      | nil => exact .nil
      | cons c cs => simp at hl
    | cons y ys ih =>
      intro cs hl hg
      cases cs with
      | nil => simp at hl
      | cons c cs =>
        obtain ⟨c', u, e1, e2⟩ := hg 0 y rfl
        have e3 : c = c' := by simpa using e1
        subst e3
        exact .cons ⟨u, e2⟩ (ih cs (by simpa using hl) fun j v hj => hg (j + 1) v (by simpa using hj))
  have hvv : Vals (sgn z) acc'.toList := by
    refine hv acc'.toList z.cps.toList ?_ fun j v hj => ?_
    · have := hacc.1
      simpa using this
    · obtain ⟨c, u, hc', rfl⟩ := hacc.2 j v (by simpa using hj)
      exact ⟨c, u, by simpa using hc', rfl⟩
  refine ⟨.ref s.heap.objs.size, _, I.laid (t' := tk) hk (Nat.le_refl _) (show ObjOk X.prog X.w _ h' _ (.lst (sgn z)) from ⟨?_, acc'.toList, c', hvv, by simpa using hS'⟩), rfl, q _ (I.hok.fresh (Nat.le_refl _))⟩
  have : (sgn z).length = z.cps.size := by simp [sgn]
  rw [this]; exact hz
end
theorem small1000000 {n : Nat} (h : n ≤ 1000000) : n < sizeLine := Nat.lt_of_le_of_lt h (by decide)
theorem erase_perm {α : Type} : ∀ {l : List α} {i : Nat} (h : i < l.length), (l[i] :: l.eraseIdx i).Perm l
  | [], _, h => absurd h (Nat.not_lt_zero _)
  | a :: l, 0, _ => List.Perm.refl _
  | a :: l, i + 1, h => by
    have h' : i < l.length := Nat.lt_of_succ_lt_succ h
    have ih := erase_perm (l := l) (i := i) h'
    show (l[i] :: a :: l.eraseIdx i).Perm (a :: l)
    exact (List.Perm.swap _ _ _).trans (ih.cons a)
/-! ### dice and heaps -/
def Dice (H : Hp) (d : Addr) : Prop := ∃ x y z : Int, 0 ≤ x ∧ 0 ≤ y ∧ 0 ≤ z ∧ H d = some (.lst [.int x, .int y, .int z])
/-- what a def that throws the dice at d leaves: all else that was tracked is as it was -/
def SB (d : Addr) (H H' : Hp) : Prop := ∀ b o, b ≠ d → H b = some o → H' b = some o
theorem SB.refl (d : Addr) (H : Hp) : SB d H H := fun _ _ _ h => h
theorem SB.trans {d : Addr} {H H1 H2 : Hp} (a : SB d H H1) (b : SB d H1 H2) : SB d H H2 := fun c o n h => b c o n (a c o n h)
theorem SB.of {d : Addr} {H H1 : Hp} (a : Same H H1) : SB d H H1 := fun c o _ h => a c o h
theorem SB.upd {d : Addr} {H : Hp} {o : HO} : SB d H (upd H d o) := fun c u n h => by rw [upd_ne n]; exact h
theorem SB.new {d p : Addr} {H : Hp} {o : HO} (h : H p = none) : SB d H (L2.upd H p o) := fun c u _ e => by rw [upd_ne (ne_of_none e h)]; exact e
theorem Same.new {p : Addr} {H : Hp} {o : HO} (h : H p = none) : Same H (L2.upd H p o) := fun c u e => by rw [upd_ne (ne_of_none e h)]; exact e
theorem Dice.new {d p : Addr} {H : Hp} {o : HO} (D : Dice H d) (h : H p = none) : Dice (L2.upd H p o) d := by
  obtain ⟨x, y, z, h1, h2, h3, e⟩ := D
  exact ⟨x, y, z, h1, h2, h3, by rw [upd_ne (ne_of_none e h)]; exact e⟩
theorem Dice.same {d : Addr} {H H' : Hp} (D : Dice H d) (h : Same H H') : Dice H' d := by
  obtain ⟨x, y, z, h1, h2, h3, e⟩ := D
  exact ⟨x, y, z, h1, h2, h3, h _ _ e⟩
theorem Dice.ne {d p : Addr} {H : Hp} (D : Dice H d) (h : H p = none) : d ≠ p := by
  obtain ⟨x, y, z, h1, h2, h3, e⟩ := D
  exact ne_of_none e h
/-- an object that is no such list stands elsewhere -/
theorem Dice.ne' {d p : Addr} {H : Hp} {o : HO} (D : Dice H d) (h : H p = some o) (n : ∀ x y z : Int, o ≠ .lst [.int x, .int y, .int z]) : p ≠ d := by
  obtain ⟨x, y, z, h1, h2, h3, e⟩ := D
  intro q
  rw [q, e] at h
  exact n x y z (Option.some.inj h).symm
/-- a name that holds the address of a def, the def there with what it keeps -/
def Ok (P : Program) (w : World) (K : PySem.W.Frag) (mg : Str → Option Value) (base : Heap) (k : Nat) (x : Str) (ps : List Str) (sp : Sp) : Prop :=
  ∃ f fd, mg x = some (.ref f) ∧ PySem.W.keepIn K (.ref f) = true ∧ L2.Binds K fd ps [] ∧ FnOk P w K mg base CX0 k f fd ps sp
/-- the def of the text at its name -/
def Has (K : PySem.W.Frag) (mg : Str → Option Value) (x : Str) (st : Stmt) (ps : List Str) : Prop :=
  ∃ f fd, mg x = some (.ref f) ∧ Fun K x x st f fd ∧ L2.Binds K fd ps []
/-! ### the rules with the written part K by its own name (within comprehensions the context is not the def's) -/
section
variable {X : Cx} {K : PySem.W.Frag}
def rLen (K : PySem.W.Frag) : List V → Hp → VK → Prop := fun xs H Q => ∃ p ys, xs = [.ref p] ∧ (SqL K H p ys ∨ SqT K H p ys) ∧ Q (.int ys.length) H
theorem k_len (hK : X.K = K := by rfl) : CallR X (.builtin "len") (rLen K) := by subst hK; exact call_len_seq
def rList (K : PySem.W.Frag) : List V → Hp → VK → Prop := fun xs H Q => ∃ p ys, xs = [.ref p] ∧ (SqL K H p ys ∨ SqT K H p ys) ∧ ∀ l, H l = none → Q (.ref l) (upd H l (.lst ys))
theorem k_listof (hK : X.K = K := by rfl) : CallR X (.type "list") (rList K) := by subst hK; exact call_list_of
def rTuple (K : PySem.W.Frag) : List V → Hp → VK → Prop := fun xs H Q => ∃ p ys, xs = [.ref p] ∧ ((SqL K H p ys ∧ ∀ l, H l = none → Q (.ref l) (upd H l (.tup ys))) ∨ (SqT K H p ys ∧ Q (.ref p) H))
theorem k_tupleof (hK : X.K = K := by rfl) : CallR X (.type "tuple") (rTuple K) := by subst hK; exact call_tuple_of
theorem k_sortedS (hK : X.K = K := by rfl) : CallR X (.builtin "sorted") (rSortedS K) := by subst hK; exact cr_sortedS
theorem k_isi (hK : X.K = K := by rfl) : CallR X (.builtin "isinstance") (rIsi K) := by subst hK; exact call_isi
theorem k_all (hc : X.calm = true := by rfl) (hK : X.K = K := by rfl) : CallR X (.builtin "all") (rAll K) := by subst hK; exact cr_all hc
theorem k_any (hc : X.calm = true := by rfl) (hK : X.K = K := by rfl) : CallR X (.builtin "any") (rAny K) := by subst hK; exact cr_any hc
theorem k_in (hK : X.K = K := by rfl) : OpR X (compareOp .In) (rIn K false) := by subst hK; exact op_in_seq
theorem k_notIn (hK : X.K = K := by rfl) : OpR X (compareOp .NotIn) (rIn K true) := by subst hK; exact op_notIn_seq
theorem k_eqD (hu : X.A.units + 64 < cLine) (hK : X.K = K := by rfl) : OpR X (compareOp .Eq) (rEqD K) := by subst hK; exact op_eqD hu
theorem k_neD (hu : X.A.units + 64 < cLine) (hK : X.K = K := by rfl) : OpR X (compareOp .NotEq) (rNeD K) := by subst hK; exact op_neD hu
theorem k_catT (hK : X.K = K := by rfl) : OpR X (binaryOp .Add) (rCatT K) := by subst hK; exact op_catT
theorem k_ixL (hK : X.K = K := by rfl) : IxR X (rIxL K) := by subst hK; exact ix_list
theorem k_ixT (hK : X.K = K := by rfl) : IxR X (rIxT K) := by subst hK; exact ix_tup
theorem k_ix (hK : X.K = K := by rfl) : IxR X (rIx K) := by subst hK; exact ix_seq
theorem k_slL (hK : X.K = K := by rfl) : SlR X (rSlL K) := by subst hK; exact sl_list
theorem k_slT (hK : X.K = K := by rfl) : SlR X (rSlT K) := by subst hK; exact sl_tup
theorem k_pl {tg l : Expr} {tl : TE} (h : PE X l tl) (hK : X.K = K := by rfl) : PI X tg l (iList K tl) := by subst hK; exact pi_list h
theorem k_pt {tg l : Expr} {tl : TE} (h : PE X l tl) (hK : X.K = K := by rfl) : PI X tg l (iTup K tl) := by subst hK; exact pi_tup h
theorem k_bm {e : Expr} {T : String} {r : V → List V → Hp → VK → Prop} {to : TE} {t : TA} (h : PE X e (tBM X.K T r to t)) (hK : X.K = K := by rfl) : PE X e (tBM K T r to t) := by subst hK; exact h
theorem k_bm0 {e : Expr} {T : String} {r : V → List V → Hp → VK → Prop} {to : TE} (h : PE X e (tBM0 X.K T r to)) (hK : X.K = K := by rfl) : PE X e (tBM0 K T r to) := by subst hK; exact h
def rJoin (K : PySem.W.Frag) : V → List V → Hp → VK → Prop := fun x xs H Q => ∃ a p, ∃ ys : List Str, x = .str a ∧ xs = [.ref p] ∧ (SqL K H p (ys.map V.str) ∨ SqT K H p (ys.map V.str)) ∧ (ys.map (·.length)).sum + ys.length * a.length ≤ 16777216 ∧ Q (.str (Txt.join a ys)) H
theorem k_join {e : Expr} {to te : TE} (h : PE X e (tM1 (rJoin X.K) to te)) (hK : X.K = K := by rfl) : PE X e (tM1 (rJoin K) to te) := by subst hK; exact h
theorem k_truth {e : Expr} {te : TE} (h : PT X e (fun σ H Q => te σ H fun x H' => ∃ k, TruV X.K x H' k ∧ Q k H')) (hK : X.K = K := by rfl) : PT X e (fun σ H Q => te σ H fun x H' => ∃ k, TruV K x H' k ∧ Q k H') := by subst hK; exact h
theorem k_gtup {tg : Expr} {n : Nat} {t : TGs} (h : PG X tg (gTup X.K n t)) (hK : X.K = K := by rfl) : PG X tg (gTup K n t) := by subst hK; exact h
end

/-! ### comprehensions that leave all that was tracked: behind i turns the new list at D holds acc i -/
def PvA (H1 : Hp) (D : Addr) (acc : Nat → List V) (i : Nat) (H : Hp) : Prop := Same H1 H ∧ H D = some (.lst (acc i))
section
variable {H1 H4 : Hp} {D : Addr} {acc : Nat → List V} {i : Nat} {y : V}
theorem PvA.start (nD : H1 D = none) (a0 : acc 0 = []) : PvA H1 D acc 0 (upd H1 D (.lst [])) := ⟨Same.new nD, by rw [a0]; exact upd_same⟩
theorem PvA.put (nD : H1 D = none) (s : Same H1 H4) (e : H4 D = some (.lst (acc i))) (hz : (acc i).length < sizeLine) (ha : acc (i + 1) = acc i ++ [y]) :
    ∃ a, H4 D = some (.lst a) ∧ a.length < sizeLine ∧ PvA H1 D acc (i + 1) (upd H4 D (.lst (a ++ [y]))) :=
  ⟨acc i, e, hz, fun b o hb => by rw [upd_ne (ne_of_none hb nD)]; exact s b o hb, by rw [ha]; exact upd_same⟩
theorem PvA.skip (p : PvA H1 D acc i H4) (ha : acc (i + 1) = acc i) : PvA H1 D acc (i + 1) H4 := ⟨p.1, by rw [ha]; exact p.2⟩
end
theorem take_put {α : Type} {l : List α} {i : Nat} {x : α} (h : l[i]? = some x) : l.take (i + 1) = l.take i ++ [x] := by
  rw [List.take_add_one, h]
  rfl
theorem take_lt {α : Type} {l : List α} {i : Nat} (h : i < l.length) (hz : l.length ≤ sizeLine) : (l.take i).length < sizeLine := by
  rw [List.length_take]
  omega
/-- what a filter keeps of the first i -/
theorem filter_put {α : Type} {l : List α} {i : Nat} {x : α} (p : α → Bool) (h : l[i]? = some x) : (l.take (i + 1)).filter p = (l.take i).filter p ++ (if p x then [x] else []) := by
  rw [take_put h, List.filter_append]
  cases e : p x <;> simp [e]

/-! ### data -/
theorem canAll_map {α : Type} (f : α → PyData) : ∀ l : List α, (∀ x ∈ l, (f x).canLay0 = true) → PyData.canLayAll0 (l.map f) = true
  | [], _ => by simp [PyData.canLayAll0]
  | x :: l, h => by
    have ih := canAll_map f l fun y hy => h y (List.mem_cons_of_mem _ hy)
    simp only [List.map_cons, PyData.canLayAll0, ih, h x List.mem_cons_self, Bool.and_self]
theorem depthAll_map {α : Type} (f : α → PyData) (n : Nat) : ∀ l : List α, (∀ x ∈ l, (f x).depth ≤ n) → PyData.depthAll (l.map f) ≤ n
  | [], _ => by simp [PyData.depthAll]
  | x :: l, h => by
    have ih := depthAll_map f n l fun y hy => h y (List.mem_cons_of_mem _ hy)
    have := h x List.mem_cons_self
    simp only [List.map_cons, PyData.depthAll]
    omega
theorem shaped_list {ds : List PyData} (h : PyData.canLayAll0 ds = true) (d : PyData.depthAll ds ≤ 63) : SeqAt.shaped (.list ds) = true := by
  refine Bool.and_eq_true_iff.mpr ⟨?_, decide_eq_true ?_⟩
  · simp only [PyData.canLay0]
    exact h
  · simp only [PyData.depth]
    omega
theorem shaped_tuple {ds : List PyData} (h : PyData.canLayAll0 ds = true) (d : PyData.depthAll ds ≤ 63) : SeqAt.shaped (.tuple ds) = true := by
  refine Bool.and_eq_true_iff.mpr ⟨?_, decide_eq_true ?_⟩
  · simp only [PyData.canLay0]
    exact h
  · simp only [PyData.depth]
    omega
/-- a text whose signs are signs -/
def okS (z : Str) : Prop := ∀ c ∈ z.cps.toList, c < 0x110000
theorem okS.can {z : Str} (h : okS z) : (PyData.str z).canLay0 = true := by
  simp only [PyData.canLay0, PyData.strOk]
  rw [← Array.all_toList, List.all_eq_true]
  intro c hc
  exact decide_eq_true (h c hc)
theorem shaped_strs {zs : List Str} (h : ∀ z ∈ zs, okS z) : SeqAt.shaped (.list (zs.map PyData.str)) = true :=
  shaped_list (canAll_map _ _ fun z hz => (h z hz).can) (Nat.le_trans (depthAll_map _ 0 _ fun z _ => by simp [PyData.depth]) (by decide))
theorem shaped_strsT {zs : List Str} (h : ∀ z ∈ zs, okS z) : SeqAt.shaped (.tuple (zs.map PyData.str)) = true :=
  shaped_tuple (canAll_map _ _ fun z hz => (h z hz).can) (Nat.le_trans (depthAll_map _ 0 _ fun z _ => by simp [PyData.depth]) (by decide))
section
variable {K : PySem.W.Frag} {H : Hp}
theorem dp_map {α : Type} (f : α → V) (g : α → PyData) : ∀ l : List α, (∀ x ∈ l, Dp K H (f x) (g x)) → DpAll K H (l.map f) (l.map g)
  | [], _ => .nil
  | x :: l, h => .cons (h x List.mem_cons_self) (dp_map f g l fun y hy => h y (List.mem_cons_of_mem _ hy))
theorem dp_strs (zs : List Str) : DpAll K H (zs.map V.str) (zs.map PyData.str) := dp_map _ _ _ fun z _ => .str z
theorem dp_bls (bs : List Bool) : DpAll K H (bs.map V.bl) (bs.map PyData.bool) := dp_map _ _ _ fun z _ => .bl z
theorem dp_ints (ns : List Int) : DpAll K H (ns.map V.int) (ns.map PyData.int) := dp_map _ _ _ fun z _ => .int z
end
theorem shaped_bls (bs : List Bool) : SeqAt.shaped (.list (bs.map PyData.bool)) = true :=
  shaped_list (canAll_map _ _ fun _ _ => by simp [PyData.canLay0]) (Nat.le_trans (depthAll_map _ 0 _ fun z _ => by simp [PyData.depth]) (by decide))
theorem shaped_blsT (bs : List Bool) : SeqAt.shaped (.tuple (bs.map PyData.bool)) = true :=
  shaped_tuple (canAll_map _ _ fun _ _ => by simp [PyData.canLay0]) (Nat.le_trans (depthAll_map _ 0 _ fun z _ => by simp [PyData.depth]) (by decide))
theorem eqv_nil : ∀ ds : List PyData, PyData.eqv (.list ds) (.list []) = ds.isEmpty
  | [] => by simp [PyData.eqv, PyData.eqvAll]
  | d :: ds => by simp [PyData.eqv, PyData.eqvAll]

/-! ### texts -/
theorem okS.app {a b : Str} (ha : okS a) (hb : okS b) : okS (a ++ b) := by
  intro c hc
  have : c ∈ a.cps.toList ++ b.cps.toList := by
    have e : (a ++ b).cps.toList = a.cps.toList ++ b.cps.toList := by rw [Str.cps_append, Array.toList_append]
    rw [← e]
    exact hc
  rcases List.mem_append.mp this with h | h
  · exact ha c h
  · exact hb c h
theorem okS.sg {c : Nat} (h : c < 0x110000) : okS ⟨#[c]⟩ := by
  intro c' hc'
  have e9 : c' = c := by simpa using hc'
  rw [e9]
  exact h
/-- the texts one behind another -/
def cat : List Str → Str
  | [] => Str.empty
  | z :: zs => z ++ cat zs
theorem cat_len : ∀ zs : List Str, (cat zs).length = (zs.map (·.length)).sum
  | [] => rfl
  | z :: zs => by
    show (z ++ cat zs).length = _
    rw [Str.length_append, cat_len zs, List.map_cons, List.sum_cons]
theorem cat_ok : ∀ {zs : List Str}, (∀ z ∈ zs, okS z) → okS (cat zs)
  | [], _ => fun c hc => by simp [cat, Str.empty] at hc
  | z :: zs, h => (h z List.mem_cons_self).app (cat_ok fun y hy => h y (List.mem_cons_of_mem _ hy))
theorem cat_list : ∀ zs : List Str, (cat zs).cps.toList = (zs.map (·.cps.toList)).flatten
  | [] => rfl
  | z :: zs => by
    show (z ++ cat zs).cps.toList = _
    rw [Str.cps_append, Array.toList_append, cat_list zs, List.map_cons, List.flatten_cons]
theorem join_nil (zs : List Str) : Txt.join (Str.ofString "") zs = cat zs := by
  rw [TL.join_eq]
  have e : Str.ofString "" = Str.empty := rfl
  rw [e]
  have h : ∀ ys : List Str, Str.join Str.empty ys = cat ys := by
    intro ys
    induction ys with
    | nil => rfl
    | cons y ys ih =>
      cases ys with
      | nil =>
        show y = y ++ Str.empty
        rw [Str.append_empty]
      | cons w ys =>
        show y ++ Str.empty ++ Str.join Str.empty (w :: ys) = y ++ cat (w :: ys)
        rw [ih, Str.append_empty]
  exact h zs
theorem sum_ones : ∀ {zs : List Str}, (∀ z ∈ zs, z.length = 1) → (zs.map (·.length)).sum = zs.length
  | [], _ => rfl
  | z :: zs, h => by
    rw [List.map_cons, List.sum_cons, h z List.mem_cons_self, sum_ones fun y hy => h y (List.mem_cons_of_mem _ hy), List.length_cons]
    omega
theorem sgn_mem {z : Str} {v : V} (h : v ∈ sgn z) : ∃ c, c ∈ z.cps.toList ∧ v = .str ⟨#[c]⟩ := by
  obtain ⟨c, hc, rfl⟩ := List.mem_map.mp h
  exact ⟨c, hc, rfl⟩
theorem sgn_len (z : Str) : (sgn z).length = z.length := by
  unfold sgn
  rw [List.length_map, Array.length_toList]
  rfl
/-- a new object: the heap behind it by what is known of it -/
theorem newly {H : Hp} {p : Addr} {o : HO} {G : Hp → Prop} (np : H p = none) (h : ∀ H', Same H H' → H' p = some o → G H') : G (upd H p o) := h _ (Same.new np) upd_same
theorem newly2 {α β : Type} {H : Hp} {p : Addr} {o : HO} {t : β → Hp → α → Prop} {b : β} {k : α} (np : H p = none) (h : ∀ H', Same H H' → H' p = some o → t b H' k) : t b (upd H p o) k := h _ (Same.new np) upd_same
/-! ### defs that are called while no repr is under way -/
structure FnG (P : Program) (w : World) (K : PySem.W.Frag) (mg : Str → Option Value) (base : Heap) (CX : CXT) (k : Nat) (f : Addr) (fd : FuncData) (ps : List Str) (sp : Sp) : Prop where
  few : ∀ as G Y Z, sp as G Y Z → as.length = ps.length
  go : ∀ (B : Around), B.guards = some [] → Room k B → ∀ (fs : List Env) (t : Shared) (G : Hp) (ar : Args) (xs : List Value) (as : List V) (Y : VK) (Z : XK),
    Env0 P w K mg base B fs t G → BindsTo t fd ar (ps.zip xs) → Vals as xs → sp as G Y Z → codeAny (model P w) B (.call (.ref f) ar) (CR CX fs P w G t Y Z) t
section
variable {P : Program} {w : World} {K : PySem.W.Frag} {mg : Str → Option Value} {base : Heap} {CX : CXT} {k j : Nat} {f : Addr} {fd : FuncData} {ps : List Str} {sp : Sp}
theorem FnG.of (F : FnOk P w K mg base CX k f fd ps sp) : FnG P w K mg base CX k f fd ps sp :=
  ⟨F.len, fun B _ r fs t G ar xs as Y Z e0 b v h => F.run B fs t G ar xs as Y Z r e0 b v h⟩
theorem FnG.mono (F : FnG P w K mg base CX j f fd ps sp) (h : j ≤ k) : FnG P w K mg base CX k f fd ps sp :=
  ⟨F.few, fun B g r => F.go B g (r.mono h)⟩
theorem fng_of {name qual : Str} {params : Arguments} {body : List Stmt} {scope : Scope} {dV kV doc pm cdv ct oc : Value} {an od : Option Addr} {osl : Array (Option Value)} {N : List Str}
    (at_ : K.lookup f = some ⟨oc, od, .func (PySem.W.fnOf name qual params body scope dV kV doc pm an cdv ct), osl⟩) (code : PySem.W.codeIn K cdv qual = true) (S : FnScope N ps scope) (few : ∀ as G Y Z, sp as G Y Z → as.length = ps.length)
    (walk : ∀ (B : Around) (fs : List Env) (t : Shared) (G : Hp) (as : List V) (Y : VK) (Z : XK), B.guards = some [] → Room k (B.deeper (envOfC qual scope t.heap.objs.size f cdv)) → sp as G Y Z →
      ∃ r, PSs (cxOf CX P w K mg base N qual scope f cdv B fs t G Z) body r ∧ r { nx := fun _ G' => Y .non G', rt := Y } (start N as) G) :
    FnG P w K mg base CX (k + 1) f (PySem.W.fnOf name qual params body scope dV kV doc pm an cdv ct) ps sp := by
  refine ⟨few, fun B gd room fs t G ar xs as Y Z e0 binds vals pr => ?_⟩
  have ins : K.In t.heap := e0.mod.kin.keeps fun b o q => (e0.bs b o q).1
  have nolim : t.heap.NoLimit := e0.mod.nolimit.keeps fun b o q => (e0.bs b o q).1
  have kinds : ∀ y ∈ ps.zip xs, scope.names.lookup y.1 = some .local ∨ (scope.names.lookup y.1 = some .cell ∧ ((cellsFrom (t.heap.objs.size + 1) scope.names []).lookup y.1).isSome = true) := by
    rintro ⟨n, v⟩ hy
    cases S.par n (List.of_mem_zip hy).1 with
    | inl q => exact .inl q
    | inr q => exact .inr ⟨q, PySem.W.cellsFrom_some _ _ _ (.inl q)⟩
  refine codeAny_call_function room.depth (ins _ _ at_) rfl S.co S.gen rfl (PySem.W.codeRec_of ins code) (binds _ _ _ _ ?_)
  refine wpAny_newFunctionEnv_cells S.kind kinds fun env he t1 x => ?_
  subst he
  refine ⟨nolim.keeps x.toInCall.keep, codeAny_func ?_⟩
  obtain ⟨r, hr, hq⟩ := walk B fs t G as Y Z gd (room.deeper _) pr
  have J0 := inv_start (CX := CX) (E := Z) S room.hd e0 (few _ _ _ _ pr) vals x
  refine wpAny_mono (hr.run [] t1 (start N as) G _ J0 hq) (fun fl t' hs => ?_) fun e t' hs => hs
  cases fl with
  | ret u =>
    obtain ⟨v, σ', G', J, rv, q⟩ := hs
    exact ⟨v, G', J.os, J.bare, J.base, J.hok, rv, q⟩
  | next =>
    obtain ⟨σ', G', J, q⟩ := hs
    exact ⟨V.non, G', J.os, J.bare, J.base, J.hok, rfl, q⟩
  | brk =>
    obtain ⟨_, _, _, q⟩ := hs
    exact q.elim
  | cont =>
    obtain ⟨_, _, _, q⟩ := hs
    exact q.elim
end
theorem Fun.okG {P : Program} {w : World} {K : PySem.W.Frag} {mg : Str → Option Value} {base : Heap} {x qual : Str} {st : Stmt} {f : Addr} {fd : FuncData} {N ps : List Str} {k : Nat} {sp : Sp} (F : Fun K x qual st f fd) (S : FnScope N ps (defScope st)) (few : ∀ as G Y Z, sp as G Y Z → as.length = ps.length)
    (walk : ∀ (cdv : Value) (B : Around) (fs : List Env) (t : Shared) (G : Hp) (as : List V) (Y : VK) (Z : XK), B.guards = some [] → Room k (B.deeper (envOfC qual (defScope st) t.heap.objs.size f cdv)) → sp as G Y Z →
      ∃ r, PSs (cxOf CX0 P w K mg base N qual (defScope st) f cdv B fs t G Z).nox (defBody st) r ∧ r { nx := fun _ G' => Y .non G', rt := Y } (start N as) G) : FnG P w K mg base CX0 (k + 1) f fd ps sp := by
  obtain ⟨oc, od, kV, doc, pm, an, cdv, ct, osl, rfl, lk, hcd⟩ := F.ex
  refine fng_of lk hcd S few fun B fs t G as Y Z gd room pr => ?_
  obtain ⟨r, h, q⟩ := walk cdv B fs t G as Y Z gd room pr
  exact ⟨r, h.nox, q⟩
section
variable {X : Cx} {CX : CXT} {k : Nat} {f : Addr} {fd : FuncData} {ps : List Str} {sp : Sp} {ds : List Value} {dvs : List V} {E : XK}
theorem run_g {pins : List (Addr × Obj)} {σ : L2.St} {H : Hp} {s : Shared} {Q : VK} {us : List Value} {vs : List V} (F : FnG X.prog X.w X.K X.mg X.base CX k f fd ps sp) (gd : X.A.guards = some []) (room : Room k X.A) (binds : L2.Binds X.K fd ps ds) (dv : Vals dvs ds) (pass : Passes CX X E)
    (I : Inv X pins σ H s) (v : Vals vs us) (pr : sp (vs ++ dvs) H Q E) : wpAny (model X.prog X.w) X.A (call (.ref f) us) (EP X pins σ Q) X.xe s := by
  have all : Vals (vs ++ dvs) (us ++ ds) := v.append dv
  have len : (us ++ ds).length = ps.length := all.length.symm.trans (F.few _ _ _ _ pr)
  refine wpAny_call (codeAny_mono (F.go X.A gd room X.stack s H ⟨us, []⟩ (us ++ ds) (vs ++ dvs) Q E I.env0 (binds s us I.kIn len) all pr) fun r s' q => ?_)
  cases r with
  | error e => exact pass pins σ H s e s' I q
  | ok fl =>
    cases fl with
    | ret u => exact I.after q
    | next => exact q.elim
    | brk => exact q.elim
    | cont => exact q.elim
variable {x : Str} {e : Expr} {es : List Expr} {t : TA} {p pos : Pos}
theorem pe_callG (F : FnG X.prog X.w X.K X.mg X.base CX k f fd ps sp) (gd : X.A.guards = some []) (room : Room k X.A) (glob : Gl X x) (at_ : X.mg x = some (.ref f)) (keep : PySem.W.keepIn X.K (.ref f) = true) (binds : L2.Binds X.K fd ps ds) (dv : Vals dvs ds) (pass : Passes CX X E)
    (args : PA X (e :: es) t) (nodbg : (x == ("__debug__" : Str)) = false := by decide) (h1 : starEach (e :: es) X.env = (false, eval e X.env) :: starEach es X.env := by rfl) (h2 : (backTo pos (starEach es X.env)).any (·.1) = false := by rfl) :
    PE X (.Call (.Name x p) (e :: es) [] pos) (tCall sp dvs E t) :=
  ⟨fun pins s σ H Q I h => wpAny_Call_Name_kw (ld_glob I glob at_ (PySem.W.callWith_K (h₀ := X.base) I.ok.mod.kin keep (thn (args.run pos pins s σ H _ I h) fun us s1 ⟨vs, H1, I1, r, q⟩ => ⟨I1.kIn, run_g F gd room binds dv pass I1 r q⟩) h1 h2) nodbg)⟩
theorem pe_callG0 (F : FnG X.prog X.w X.K X.mg X.base CX k f fd ps sp) (gd : X.A.guards = some []) (room : Room k X.A) (glob : Gl X x) (at_ : X.mg x = some (.ref f)) (keep : PySem.W.keepIn X.K (.ref f) = true) (binds : L2.Binds X.K fd ps ds) (dv : Vals dvs ds) (pass : Passes CX X E)
    (nodbg : (x == ("__debug__" : Str)) = false := by decide) : PE X (.Call (.Name x p) [] [] pos) (tCall sp dvs E tNil) :=
  ⟨fun pins s σ H Q I h => wpAny_Call_Name_kw (ld_glob I glob at_ (PySem.W.callWith_K0 I.kIn keep (run_g (us := []) F gd room binds dv pass I .nil h)) nodbg)⟩
end
/-! ### repr of data -/
section
variable {X : Cx} {K : PySem.W.Frag}
def rRepr (K : PySem.W.Frag) : List V → Hp → VK → Prop := fun xs H Q => ∃ v d, xs = [v] ∧ Dp K H v d ∧ d.showable = true ∧ d.hasDict = false ∧ d.depth ≤ 60 ∧ d.shown.length ≤ sizeLine ∧ Q (.str d.shown) H
theorem k_repr (gd : X.A.guards = some []) (hu : X.A.units + 64 < cLine) (hK : X.K = K := by rfl) : CallR X (.builtin "repr") (rRepr K) := by
  subst hK
  intro pins s σ H xs us Q I r h
  obtain ⟨v, d, rfl, dp, sh, nd, de, sz, q⟩ := h
  obtain ⟨u, rfl, rv⟩ := vals1 r
  have ends : ∀ h' tk t, (∀ b o, s.heap.get? b = some o → h'.get? b = some o) → EP X pins σ Q (.str d.shown t) { s with heap := h', toks := tk } := fun h' tk t k => ⟨.str d.shown, H, I.kept k, ⟨_, rfl⟩, q⟩
  cases dp with
  | non =>
    cases rv
    exact PySem.P.repr_of_none (ends s.heap _ _ fun _ _ q => q)
  | bl b =>
    cases rv
    exact PySem.P.repr_of_bool (ends s.heap _ _ fun _ _ q => q)
  | int i =>
    obtain ⟨t, rfl⟩ := rv
    exact PySem.P.repr_of_int (of_decide_eq_true sh) (ends s.heap _ _ fun _ _ q => q)
  | str x =>
    obtain ⟨t, rfl⟩ := rv
    exact PySem.P.repr_of_str (ends s.heap _ _ fun _ _ q => q) sz
  | lst hq hs =>
    obtain ⟨as, rd⟩ := Dp.reads I _ _ _ (.lst hq hs) rv
    cases rv
    exact repr_of_reads' rd sh (PyData.noDict_hsm nd) gd (by omega) (fun _ _ q => q) (fun h' t tk k => ends h' tk t k) sz
  | tup hq hs =>
    obtain ⟨as, rd⟩ := Dp.reads I _ _ _ (.tup hq hs) rv
    cases rv
    exact repr_of_reads' rd sh (PyData.noDict_hsm nd) gd (by omega) (fun _ _ q => q) (fun h' t tk k => ends h' tk t k) sz
end
/-! ### the law's call -/
theorem law_callG {P : Program} {w : World} {K : PySem.W.Frag} {mg mb : Str → Option Value} {CX : CXT} {k : Nat} {fa a : Addr} {fd : FuncData} {x : Str} {sp : Sp} {t : Shared} {us : List Value} {zs : List Int}
    (ins : K.In t.heap) (gl : t.heap.Ns mainGlobals mg) (bl : t.heap.Ns builtinsNs mb) (boot : ∀ x : Str, x ≠ "__name__" → mb x = bootBuiltins x) (nolim : t.heap.NoLimit) (nogen : t.gens = #[])
    (obj : t.heap.get? a = some { cls := .type "list", data := .seq us.toArray }) (nums : IntsAre us zs) (few : zs.length ≤ sizeLine) (room : Room k callerA)
    (F : ∀ base : Heap, K.In base → base.Ns mainGlobals mg → FnG P w K mg base CX k fa fd [x] sp) (binds : ∀ (s : Shared) (u : Value), BindsTo s fd ⟨[u], []⟩ [(x, u)])
    (pr : ∀ H : Hp, Only H → SqL K H a (zs.map V.int) → sp [.ref a] H (fun v _ => v = .bl true) fun _ _ _ => False) (noerr : ∀ H e s', CX [] H t (fun _ _ _ => False) e s' → False) :
    codeAny (model P w) callerA (.call (.ref fa) ⟨[.ref a], []⟩) (fun r s' => r = .ok (.ret (.bool true)) ∧ OldK t.heap s'.heap ∧ s'.os = t.os ∧ AllBare s'.gens) t := by
  have vi := vals_ints nums
  have key : ∀ Z : Hp, Only Z → SqL K Z a (zs.map V.int) → HOk P w Z t.heap → (∀ b, Z b ≠ none → b = a) → (Z a ≠ none → K.lookup a = none) →
      codeAny (model P w) callerA (.call (.ref fa) ⟨[.ref a], []⟩) (fun r s' => r = .ok (.ret (.bool true)) ∧ OldK t.heap s'.heap ∧ s'.os = t.os ∧ AllBare s'.gens) t := by
    intro Z only seq zok one notK
    have keep : ∀ {b : Addr} {o : Obj}, t.heap.get? b = some o → Z b = none → (hidT t.heap Z).get? b = some o := fun e n => hidT_get e n
    have nod : ∀ {b : Addr} {o : Obj} {es : Array DictEntry} {ep : Nat}, t.heap.get? b = some o → o.data = .dict es ep → Z b = none := by
      intro b o es ep g d
      cases q : Z b with
      | none => rfl
      | some u =>
        obtain rfl := one b (by rw [q]; exact Option.some_ne_none u)
        rw [obj] at g
        cases g
        cases (show Data.seq us.toArray _ = Data.dict es ep from d)
    have nsZ : ∀ {b : Addr} {m : Str → Option Value}, t.heap.Ns b m → (hidT t.heap Z).Ns b m := by
      rintro b m ⟨o, es, ep, g, d, r⟩
      exact ⟨o, es, ep, keep g (nod g d), d, r⟩
    have insZ : K.In (hidT t.heap Z) := by
      intro b o g
      refine keep (ins b o g) ?_
      cases q : Z b with
      | none => rfl
      | some u =>
        obtain rfl := one b (by rw [q]; exact Option.some_ne_none u)
        rw [notK (by rw [q]; exact Option.some_ne_none u)] at g
        cases g
    have md : Mod K mg (hidT t.heap Z) := by
      obtain ⟨mc, l1, l2⟩ := nolim
      exact ⟨insZ, nsZ gl, ⟨mb, nsZ bl, boot⟩, mc, nsZ l1, l2⟩
    have env : Env0 P w K mg (hidT t.heap Z) callerA [] t Z :=
      { frames := rfl, mod := md, bs := fun b o g => of_hidT g, bsz := Nat.le_of_eq (hidT_size _ _), funs := trivial, frf := (fun b hb => nomatch (show b ∈ ([] : List Addr) from hb)), hok := zok, bare := .of_eq nogen }
    refine codeAny_mono ((F _ insZ (nsZ gl)).go callerA rfl room [] t Z ⟨[.ref a], []⟩ [.ref a] [.ref a] _ _ env (binds t (.ref a)) (.cons rfl .nil) (pr Z only seq)) fun r s' h => ?_
    cases r with
    | error e => exact (noerr Z e s' h).elim
    | ok fl =>
      cases fl with
      | next => exact h.elim
      | brk => exact h.elim
      | cont => exact h.elim
      | ret u =>
        obtain ⟨v, Z', os, bare, un, zok', rel, q⟩ := h
        obtain rfl : v = .bl true := q
        cases rel
        refine ⟨rfl, OldK.of_keep fun b o g => ?_, os, bare⟩
        rcases only b with n | ⟨ob, xs, n⟩
        · exact un.keep b o g n (by intro z; cases z) (by intro z; cases z)
        · have g1 := (zok b _ n).1
          have g2 := (zok' b _ (un.frzs b ob _ n)).1
          rw [g] at g1
          cases g1
          exact g2
  cases q : K.lookup a with
  | some o =>
    have g := ins a o q
    rw [obj] at g
    cases g
    refine key (fun _ => none) (fun _ => .inl rfl) (.inr ⟨_, us.toArray, _, q, rfl, rfl, rfl, ?_, vi⟩) (fun b u z => by cases z) (fun b z => absurd rfl z) fun z => absurd rfl z
    rw [List.size_toArray, nums.length]
    exact few
  | none =>
    let ob : Obj := { cls := .type "list", data := .seq us.toArray }
    have here : ∀ b, b ≠ a → (fun b => if b = a then some (HO.frz ob (.lst (zs.map V.int))) else none) b = none := fun b n => if_neg n
    refine key (fun b => if b = a then some (.frz ob (.lst (zs.map V.int))) else none) (fun b => ?_) (.inl (.inr ⟨ob, if_pos rfl⟩)) (fun b u z => ?_) (fun b z => ?_) fun _ => q
    · by_cases n : b = a
      · exact .inr ⟨_, _, if_pos n⟩
      · exact .inl (if_neg n)
    · by_cases n : b = a
      · subst n
        have z' := (if_pos rfl).symm.trans z
        cases z'
        exact ⟨obj, by rw [List.length_map]; exact few, us, _, vi, obj⟩
      · have z' := (if_neg n).symm.trans z
        cases z'
    · by_cases n : b = a
      · exact n
      · exact absurd (if_neg n) z
theorem walk_ofG {l : PySem.W.OpenLaw} {k : Nat} {q : Program} {loose : List Str} {XP : (Str → Option Value) → Heap → Prop} {YP : World → Heap → Prop} {d : DefRec} {K : Params → PySem.W.Frag} {sp : PySem.W.Frag → Sp} {x : Str}
    (most : l.most = some 63) (nodef : d.params.defaults = []) (room : Room k callerA) (ins : ∀ (w : World) (h : Heap), YP w h → (K w.params).In h)
    (F : ∀ (w : World) (mg : Str → Option Value) (fa : Addr) (h : Heap), (K w.params).In h → h.Ns mainGlobals mg → mg d.name = some (.ref fa) →
      ∃ fd : FuncData, (∀ (s : Shared) (u : Value), BindsTo s fd ⟨[u], []⟩ [(x, u)]) ∧ ∀ base : Heap, (K w.params).In base → base.Ns mainGlobals mg → FnG l.prog w (K w.params) mg base CX0 k fa fd [x] (sp (K w.params)))
    (pr : ∀ (K : PySem.W.Frag) (H : Hp) (a : Addr) (ns : List Int), ns.length ≤ 63 → SqL K H a (ns.map V.int) → sp K [.ref a] H (fun v _ => v = .bl true) fun _ _ _ => False) :
    PySem.W.WalkO q loose XP YP l.row.toRowW d [] (fun f vs => PySem.call f vs) := by
  refine Att.attach_call most nodef fun w s₀ t mg mb fa o pm cd doc a us zs G Y ho hd hcd hmg obj nums few nogen => ?_
  obtain ⟨fd, hb, hF⟩ := F w mg fa _ (ins w _ Y) G.T.g hmg
  exact law_callG (ins w _ Y) G.T.g G.T.b G.T.builtins G.T.nolimit nogen obj nums (Nat.le_trans few (by decide)) room hF hb (fun H _ S => pr _ H a zs few S) fun _ _ _ z => z
/-! ### more operators -/
section
variable {X : Cx} {K : PySem.W.Frag}
def repS (z : Str) (n : Int) : Str := ⟨(List.replicate n.toNat z.cps).foldl (· ++ ·) #[]⟩
def rRepS : R2 := fun x y H Q => ∃ z n, x = .str z ∧ y = .int n ∧ z.length = 1 ∧ 2 ≤ n ∧ n ≤ 1000 ∧ Q (.str (repS z n)) H
theorem repS_len (z : Str) (n : Int) : (repS z n).length = n.toNat * z.length := by
  have h : ∀ (k : Nat) (acc : Array Nat), ((List.replicate k z.cps).foldl (· ++ ·) acc).size = acc.size + k * z.cps.size := by
    intro k
    induction k with
    | zero => intro acc; simp
    | succ k ih =>
      intro acc
      rw [List.replicate_succ, List.foldl_cons, ih, Array.size_append, Nat.succ_mul]
      omega
  show ((List.replicate n.toNat z.cps).foldl (· ++ ·) #[]).size = _
  rw [h]
  simp [Str.length]
theorem op_repS : OpR X (binaryOp .Mult) rRepS := by
  intro pins s σ H x y v u Q I rx ry h
  obtain ⟨z, n, rfl, rfl, hz, h2, h3, q⟩ := h
  obtain ⟨t, rfl⟩ := rx
  obtain ⟨t', rfl⟩ := ry
  have e1 : ¬ n < 1 := by omega
  have e2 : (n == 1 || z.length == 0) = false := by
    rw [hz]
    have : n ≠ 1 := by omega
    simp [this]
  refine PySem.P.mul_str ?_ (fun _ _ => ?_) (fun _ _ => ?_) ?_
  · have a1 : ¬ n < -(2 ^ 63 : Int) := by omega
    have a2 : ¬ n ≥ 2 ^ 63 := by omega
    rw [decide_eq_false a1, decide_eq_false a2]
    rfl
  · rw [hz]
    have : (2 ^ 63 - 1) / n ≥ 1 := by
      have h5 : (1 : Int) * n ≤ 2 ^ 63 - 1 := by omega
      exact Int.le_ediv_of_mul_le (by omega) h5
    omega
  · rw [hz]
    refine decide_eq_false (Nat.not_lt.mpr ?_)
    exact Nat.le_of_lt (small1000 (by omega))
  · rw [if_neg e1, e2]
    exact ⟨by
      show (repS z n).length ≤ sizeLine
      rw [repS_len, hz]
      exact Nat.le_of_lt (small1000 (by omega)), ⟨.str (repS z n), H, I.tok _, ⟨_, rfl⟩, q⟩⟩
theorem k_catA (hK : X.K = K := by rfl) : OpR X (binaryOp .Add) (rCatA K) := by subst hK; exact op_catA
theorem k_repT (hK : X.K = K := by rfl) : OpR X (binaryOp .Mult) (rRepT K) := by subst hK; exact op_repT
end
theorem seqT_same {K : PySem.W.Frag} {H H' : Hp} {a : Addr} {xs : List V} (e : Same H H') (h : SqT K H a xs) : SqT K H' a xs := by
  rcases h with (h | ⟨o, h⟩) | h
  · exact .inl (.inl (e _ _ h))
  · exact .inl (.inr ⟨o, e _ _ h⟩)
  · exact .inr h
theorem tyTup {K : PySem.W.Frag} {H : Hp} {a : Addr} {xs : List V} (h : SqT K H a xs) : TyX K H (.ref a) (.type "tuple") := by
  rcases h with (h | ⟨o, h⟩) | ⟨o, its, n, h, c, _⟩
  · exact .base (.tup h)
  · exact .fTuple h
  · exact .kTuple h c
theorem tyx_same {K : PySem.W.Frag} {H H' : Hp} {v : V} {t : Value} (s : Same H H') (h : TyX K H v t) : TyX K H' v t := by
  cases h with
  | base b =>
    cases b with
    | non => exact .base .non
    | bl y => exact .base (.bl y)
    | int i => exact .base (.int i)
    | str y => exact .base (.str y)
    | flt y => exact .base (.flt y)
    | lst e => exact .base (.lst (s _ _ e))
    | frz e => exact .base (.frz (s _ _ e))
    | tup e => exact .base (.tup (s _ _ e))
    | dK e => exact .base (.dK (s _ _ e))
    | dT e => exact .base (.dT (s _ _ e))
    | ins e cl ha hn htk hm => exact .base (.ins (s _ _ e) cl ha hn htk hm)
  | byt y => exact .byt y
  | set e => exact .set (s _ _ e)
  | kList e c => exact .kList e c
  | kTuple e c => exact .kTuple e c
  | kDict e c => exact .kDict e c
  | fTuple e => exact .fTuple (s _ _ e)
  | fDict e => exact .fDict (s _ _ e)
/-- what isinstance(.., T) answers of a value -/
def Isi (K : PySem.W.Frag) (T : String) (H : Hp) (v : V) (b : Bool) : Prop := ∃ t, TyX K H v t ∧ PySem.W.kitOne K t (.type T) = some b
theorem Isi.same {K : PySem.W.Frag} {T : String} {H H' : Hp} {v : V} {b : Bool} (s : Same H H') (h : Isi K T H v b) : Isi K T H' v b := by
  obtain ⟨t, ty, e⟩ := h
  exact ⟨t, tyx_same s ty, e⟩
theorem isi_ty {K : PySem.W.Frag} {T t : String} {H : Hp} {v : V} {b : Bool} (h : TyX K H v (.type t)) (hb : kitB t T = some b) : Isi K T H v b := ⟨_, h, kit_ty hb⟩
/-- an object that was tracked ahead is not at a place that was free -/
theorem SB.same {d : Addr} {H0 H H' : Hp} (s : Same H0 H) (n : H0 d = none) (b : SB d H H') : Same H0 H' := fun c o h => b c o (ne_of_none h n) (s c o h)
theorem cat_any {K : PySem.W.Frag} {a b : Addr} {xs ys : List V} {H : Hp} {Q : VK} (ha : SqT K H a xs) (hb : SqT K H b ys) (hz : xs.length + ys.length ≤ sizeLine) (h : ∀ r H', Same H H' → SqT K H' r (xs ++ ys) → Q (.ref r) H') : rCatA K (.ref a) (.ref b) H Q := by
  refine ⟨a, b, xs, ys, rfl, rfl, ha, hb, hz, fun e => ?_, fun _ e => ?_, fun _ _ p np => ?_⟩
  · exact h b H (Same.refl H) (by rw [e, List.nil_append]; exact hb)
  · exact h a H (Same.refl H) (by rw [e, List.append_nil]; exact ha)
  · exact h p _ (Same.new np) (SqT.of upd_same)
/-- an item of a mapped list -/
theorem map_at {α β : Type} {f : α → β} {l : List α} {i : Nat} {y : β} (h : (l.map f)[i]? = some y) : ∃ x, l[i]? = some x ∧ y = f x := by
  rw [List.getElem?_map] at h
  cases e : l[i]? with
  | none => rw [e] at h; cases h
  | some x => rw [e] at h; exact ⟨x, rfl, (Option.some.inj h).symm⟩
theorem at_map {α β : Type} (f : α → β) {l : List α} {i : Nat} {x : α} (h : l[i]? = some x) : (l.map f)[i]? = some (f x) := by
  rw [List.getElem?_map, h]
  rfl
theorem eqv_refl_shaped {d : PyData} (h : SeqAt.shaped d = true) : PyData.eqv d d = true := SeqAt.eqv_refl d (SeqAt.canLay_of_shaped h)
/-! ### what repr may be asked of -/
def RepOk (d : PyData) : Prop := d.showable = true ∧ d.hasDict = false ∧ d.depth ≤ 60 ∧ d.shown.length ≤ sizeLine
theorem repr_ok {K : PySem.W.Frag} {H : Hp} {v : V} {d : PyData} {Q : VK} (dp : Dp K H v d) (r : RepOk d) (q : Q (.str d.shown) H) : rRepr K [v] H Q := ⟨v, d, rfl, dp, r.1, r.2.1, r.2.2.1, r.2.2.2, q⟩
theorem repOk_of {d : PyData} (c : d.canLay0 = true) (sh : d.showable = true) (i : d.intsShort 13 = true) (dp : d.depth ≤ 60) (w : d.weight ≤ 2 ^ 20) : RepOk d := by
  have hl : d.layable0 = true := by
    refine Bool.and_eq_true_iff.mpr ⟨Bool.and_eq_true_iff.mpr ⟨c, decide_eq_true (by omega)⟩, decide_eq_true w⟩
  refine ⟨sh, PyData.hasDict_of_layable hl, dp, ?_⟩
  have := shown_le13 hl i
  exact Nat.le_trans this (by decide)
theorem intsShort_map {α : Type} (f : α → PyData) (B : Nat) : ∀ l : List α, (∀ x ∈ l, (f x).intsShort B = true) → PyData.intsShortAll B (l.map f) = true
  | [], _ => by simp [PyData.intsShortAll]
  | x :: l, h => by
    have ih := intsShort_map f B l fun y hy => h y (List.mem_cons_of_mem _ hy)
    simp only [List.map_cons, PyData.intsShortAll, ih, h x List.mem_cons_self, Bool.and_self]
theorem weight_map {α : Type} (f : α → PyData) (n : Nat) : ∀ l : List α, (∀ x ∈ l, (f x).weight ≤ n) → PyData.weightAll (l.map f) ≤ l.length * (n + 1)
  | [], _ => by simp [PyData.weightAll]
  | x :: l, h => by
    have ih := weight_map f n l fun y hy => h y (List.mem_cons_of_mem _ hy)
    have := h x List.mem_cons_self
    simp only [List.map_cons, PyData.weightAll, List.length_cons, Nat.succ_mul]
    omega
theorem repOk_boolsT {bs : List Bool} (h : bs.length ≤ 100000) : RepOk (.tuple (bs.map PyData.bool)) := by
  refine repOk_of ?_ ?_ ?_ ?_ ?_
  · simp only [PyData.canLay0]
    exact canAll_map _ _ fun _ _ => by simp [PyData.canLay0]
  · simp only [PyData.showable]
    exact PyData.showableAll_bools bs
  · simp only [PyData.intsShort]
    exact intsShort_map _ _ _ fun _ _ => by simp [PyData.intsShort]
  · simp only [PyData.depth]
    have := depthAll_map PyData.bool 0 bs fun _ _ => by simp [PyData.depth]
    omega
  · simp only [PyData.weight]
    have := weight_map PyData.bool 0 bs fun _ _ => by simp [PyData.weight]
    omega
theorem seqT_sb {K : PySem.W.Frag} {d : Addr} {H H' : Hp} {a : Addr} {xs : List V} (n : a ≠ d) (e : SB d H H') (h : SqT K H a xs) : SqT K H' a xs := by
  rcases h with (h | ⟨o, h⟩) | h
  · exact .inl (.inl (e _ _ n h))
  · exact .inl (.inr ⟨o, e _ _ n h⟩)
  · exact .inr h
theorem dp_boolsT {K : PySem.W.Frag} {H : Hp} {p : Addr} {bs : List Bool} (h : SqT K H p (bs.map V.bl)) : Dp K H (.ref p) (.tuple (bs.map PyData.bool)) := .tup h (dp_bls _)
theorem dp_boolsL {K : PySem.W.Frag} {H : Hp} {p : Addr} {bs : List Bool} (h : SqL K H p (bs.map V.bl)) : Dp K H (.ref p) (.list (bs.map PyData.bool)) := .lst h (dp_bls _)
/-- the dice behind an item put to another list -/
theorem Dice.put {d D : Addr} {H : Hp} {o : HO} (h : Dice H d) (n : d ≠ D) : Dice (L2.upd H D o) d := by
  obtain ⟨x, y, z, g1, g2, g3, e⟩ := h
  exact ⟨x, y, z, g1, g2, g3, by rw [upd_ne n]; exact e⟩
/-- what was tracked ahead of a list at D, behind an item put to it -/
theorem SB.put {d D : Addr} {H0 H : Hp} {o : HO} (n : H0 D = none) (h : SB d H0 H) : SB d H0 (L2.upd H D o) := fun b u nb hb => by
  rw [upd_ne (ne_of_none hb n)]
  exact h b u nb hb
/-! ### an own exception whose __init__ says super().__init__('text'), then self.f = argument -/
section
variable {prog : Program} {w : World} {M : Model} {A : Around} {E : Value → Shared → Prop} {h : Heap} {g : Array GenState} {d : Drawn} {t : Nat} {os : OsState} {B i newId : String} {bmB : List Value}
variable {nm q : Str} {C N : Addr} {bs bm : List Value} {hdct : Bool} {sn : List Str} {sub : List Value} {ab : Bool} {col : Option Bool} {dd : Option Addr} {k0 k1 k2 k3 k5 : Option Value}
theorem call_mw {u e t0 : Addr} {rest : List Value} {Q : Value → Shared → Prop} (FB : ExcBaseFacts B newId i bmB)
    (hC : h.get? C = some (excClassObj nm q C N bs bm hdct sn sub ab col dd k0 k1 k2 k3 k5 newId)) (he : h.get? e = some (HandSPX.excO C t0)) (hu : h.get? u = some (PySem.W.kxs_mw i e)) (hrest : rest.length ≤ sizeLine)
    (hq : ∀ h' t1, (∀ b o, b ≠ e → h.get? b = some o → h'.get? b = some o) → h'.get? e = some (HandSPX.excO C t1) → Q .none ⟨h', g, d, t, os⟩) :
    wpAny (model prog w) A (call (.ref u) rest) Q E ⟨h, g, d, t, os⟩ := by
  refine wpAny_call (codeAny_of_tree ?_)
  show wpAny _ A.in1 (callAny (.ref u) ⟨rest, []⟩) _ _ _
  simp only [callAny]
  refine wpAny_bind (wpAny_load hu ?_)
  simp only [PySem.W.kxs_mw, show (Value.type "method-wrapper" == Value.type "method" || Value.type "method-wrapper" == Value.type "builtin_function_or_method" || Value.type "method-wrapper" == Value.type "method-wrapper") = true by decide, if_true]
  refine PySem.W.KFB.if_so (by decide) ?_
  refine wpAny_bind (PySem.W.check_bound_init FB.toExcCallFacts hC he rfl ?_)
  refine wpAny_bind (wpAny_pure (wpAny_pure ?_))
  refine ⟨plainId_quiet FB.init.plain _, codeAny_builtin FB.initEntry ?_⟩
  exact PySem.W.exc_init_tree (cls := .ref C) (t0 := t0) (dv := none) (c2 := .none) (c3 := .none) (b4 := .bool false) he hrest fun h' k e1 _ => hq h' _ k e1
end
/-- the promise of such an __init__ -/
def spSup (C : Addr) (f : Str) : Sp := fun vs H Q _ => ∃ a v, vs = [.ref a, v] ∧ H a = some (exo a C none) ∧ ∀ dx, H dx = none → dx ≠ a → Q .non (upd (upd H dx (exd dx [(f, v)])) a (exo a C (some dx)))
section
variable {CX : CXT} {P : Program} {w : World} {K : PySem.W.Frag} {mg : Str → Option Value} {base : Heap}
theorem fn_sup {fi C cc cda : Addr} {name qual arg f m file : Str} {params : Arguments} {scope : Scope} {dV kV doc pm ct oc ccl cl : Value} {an od cdd cld : Option Addr} {osl ccs csl : Array (Option Value)} {cvs : Array Value} {tf : Tok} {ar : Arg}
    {j : Nat} {p0 p1 p2 p3 p4 p5 p6 p7 p8 p9 : Pos}
    (lk : K.lookup fi = some ⟨oc, od, .func (PySem.W.ksFn name qual params [.Expr (.Call (.Attribute (.Call (.Name "super" p0) [] [] p1) "__init__" p2) [.Constant (.str m) j p3] [] p4) p5, .Assign [.Attribute (.Name "self" p6) f p7] (.Name arg p8) p9] scope dV kV doc pm an (.ref cda) ct cc), osl⟩)
    (hcd : PySem.W.codeIn K (.ref cda) qual = true)
    (hcode : K.lookup cda = some ⟨ccl, cdd, .fields cvs, ccs⟩) (hvs : cvs[2]? = some (.str file tf)) (hfile : ((P.main.file : Str) == file) = true)
    (hcell : K.lookup cc = some ⟨cl, cld, .cell (some (.ref C)), csl⟩) (T : OexC K C)
    (hm : PySem.W.ks_superIn K C C "__init__" = some (some (.builtin "ValueError.__init__"))) (hB : PySem.W.subIn K (.ref C) (.type "ValueError") = some true) (hsub : PySem.W.mroIn K C (.ref C) = some true)
    (hst : PySem.W.nsIn K cStatics "thirdparty.any" = some none) (hno : PySem.W.findIn K (.ref C) f = some none) (hgs : mg "super" = none) (htop : (P.main.scope.names.lookup ("super" : Str)).isSome = false)
    (hco : scope.isCoroutine = false) (hgen : scope.isGenerator = false) (hk : scope.kind = .function) (hcl : ∀ x ∈ scope.names, x.2 ≠ .cell)
    (hks : scope.names.lookup ("super" : Str) = some .globalImplicit) (hkc : scope.names.lookup ("__class__" : Str) = some .free) (hkS : scope.names.lookup ("self" : Str) = some .local) (hka : scope.names.lookup arg = some .local)
    (hp : (params.posonlyargs ++ params.args).head? = some ar) (har : ar.arg = "self") (hne : arg ≠ "self") (hdb : (arg == ("__debug__" : Str)) = false)
    (hboot : bootBuiltins "super" = some (.type "super"))
    (hi : ∀ L, interactive (PySem.W.ksEnv qual scope L fi (.ref cda) cc) = false)
    (hev : ∀ L, ∃ pl : Sem Bool, eval (.Call (.Attribute (.Call (.Name "super" p0) [] [] p1) "__init__" p2) [.Constant (.str m) j p3] [] p4) (PySem.W.ksEnv qual scope L fi (.ref cda) cc) = (do
      let ov ← attributeBase (.Call (.Name "super" p0) [] [] p1) "__init__" (PySem.W.ksEnv qual scope L fi (.ref cda) cc) (eval (.Call (.Name "super" p0) [] [] p1) (PySem.W.ksEnv qual scope L fi (.ref cda) cc))
      standAt p2.atName
      let (f, first) ← holding [ov] (getMethod ov "__init__" pl)
      callWith p4 f first (backTo p4 (starEach [.Constant (.str m) j p3] (PySem.W.ksEnv qual scope L fi (.ref cda) cc))) [])) : FnOk P w K mg base CX 1 fi (PySem.W.ksFn name qual params [.Expr (.Call (.Attribute (.Call (.Name "super" p0) [] [] p1) "__init__" p2) [.Constant (.str m) j p3] [] p4) p5, .Assign [.Attribute (.Name "self" p6) f p7] (.Name arg p8) p9] scope dV kV doc pm an (.ref cda) ct cc) ["self", arg] (spSup C f) := by
  refine ⟨fun vs H Q E h => by obtain ⟨a, v, rfl, _⟩ := h; rfl, fun A outer s H args us vs Q E hr e0 hb r hsp => ?_⟩
  obtain ⟨a, v, rfl, ea, q⟩ := hsp
  obtain ⟨u0, u, rfl, r0, ru⟩ := r.two
  obtain rfl : u0 = Value.ref a := r0
  have KX : K.In s.heap := e0.mod.kin.keeps fun b o e => (e0.bs b o e).1
  have lim : s.heap.NoLimit := e0.mod.nolimit.keeps fun b o e => (e0.bs b o e).1
  refine PySem.ks_codeAny_call_defAt (binds := [("self", .ref a), (arg, u)]) hr.depth (KX _ _ lk) rfl lim (PySem.W.codeRec_of KX hcd) rfl hb hcl (fun y hy => ?_) (fun h₁ hns kp => ?_) hco hgen hk
  · rcases List.mem_cons.mp hy with rfl | hy
    · exact hkS
    · rw [List.mem_singleton.mp hy]
      exact hka
  have KX1 : K.In h₁ := KX.keeps kp
  let sc' : Scope := { scope with names := [("self", .local), (arg, .local)] }
  have lS : ∀ y : Str, sc'.names.lookup y = if y = "self" then some .local else if y = arg then some .local else none := fun y => by
    show List.lookup y [((Str.ofString "self"), NameKind.local), (arg, NameKind.local)] = _
    by_cases h1 : y = "self"
    · subst h1
      simp [List.lookup]
    · by_cases h2 : y = arg
      · subst h2
        simp [List.lookup, hne, h1, beq_eq_false_iff_ne.mpr h1]
      · simp [List.lookup, h1, h2, beq_eq_false_iff_ne.mpr h1, beq_eq_false_iff_ne.mpr h2]
  have S' : FnScope ["self", arg] ["self", arg] sc' := ⟨hk, hco, hgen, by
      refine List.nodup_cons.mpr ⟨fun z => hne (List.mem_singleton.mp z).symm, List.nodup_cons.mpr ⟨by simp, List.nodup_nil⟩⟩, rfl, fun y hy => .inl (by
      rw [lS]
      rcases List.mem_cons.mp hy with rfl | hy
      · rw [if_pos rfl]
      · rw [List.mem_singleton.mp hy, if_neg hne, if_pos rfl]), fun y hy => by
      rcases List.mem_cons.mp hy with rfl | hy
      · decide
      · rw [List.mem_singleton.mp hy]
        show NameKind.local ≠ NameKind.free
        decide⟩
  have kS : (envOfC qual sc' s.heap.objs.size fi (.ref cda)).kindOf "self" = some .local := (lS _).trans (if_pos rfl)
  have kA : (envOfC qual sc' s.heap.objs.size fi (.ref cda)).kindOf arg = some .local := (lS _).trans (by rw [if_neg hne, if_pos rfl])
  have mE : (fun y => ([("self", .ref a), (arg, u)] : List (Str × Value)).reverse.lookup y) = bindL (envOfC qual sc' s.heap.objs.size fi (.ref cda)).kindOf ((["self", arg] : List Str).zip [.ref a, u]) fun _ => none := by
    funext y
    show List.lookup y [(arg, u), (Str.ofString "self", Value.ref a)] = bindL _ [(Str.ofString "self", Value.ref a), (arg, u)] (fun _ => none) y
    unfold bindL
    rw [kS, if_pos rfl]
    unfold bindL
    rw [kA, if_pos rfl]
    unfold bindL
    by_cases h2 : y = arg
    · subst h2
      simp [List.lookup]
    · by_cases h1 : y = "self"
      · subst h1
        simp [List.lookup, h2, beq_eq_false_iff_ne.mpr h2]
      · simp [List.lookup, h1, h2, beq_eq_false_iff_ne.mpr h1, beq_eq_false_iff_ne.mpr h2]
  have x : InCallC s s.heap.objs.size (bindL (envOfC qual sc' s.heap.objs.size fi (.ref cda)).kindOf ((["self", arg] : List Str).zip [.ref a, u]) fun _ => none) (cellsFrom (s.heap.objs.size + 1) sc'.names []) (bindC (envOfC qual sc' s.heap.objs.size fi (.ref cda)).kindOf ((["self", arg] : List Str).zip [.ref a, u]) fun _ => none) { s with heap := h₁, toks := s.toks + 2 } :=
    ⟨⟨⟨h₁, _, rfl⟩, by rw [← mE]; exact hns, kp, Nat.le_refl _⟩, fun n c z => (nomatch z), .nil, fun n c z => (nomatch z)⟩
  have I0 : Inv (cxOf CX P w K mg base ["self", arg] qual sc' fi (.ref cda) A outer s H E) [] (start ["self", arg] [.ref a, v]) H { s with heap := h₁, toks := s.toks + 2 } := inv_start S' hr.hd e0 rfl r x
  obtain ⟨nm, qn, NC, bs, bm, sn, sub, ab, col, dd, k0, k1, k2, k3, k5, hC, hbm⟩ := T.cls
  have hcl1 : PySem.W.clsIn K C = some { name := nm, bases := bs, mro := .ref C :: bm, ns := NC, qualname := qn, hasDict := true, slotNames := sn, subclasses := sub, abstract := ab, collection := col, hasDel := false } := by
    unfold PySem.W.clsIn
    rw [hC] <;> rfl
  obtain ⟨t1, he1⟩ := exo_at I0.hok ea
  have hC1 := KX1 _ _ hC
  obtain ⟨mb, hb1, hb2⟩ := e0.mod.blt
  have bk : ∀ b o, base.get? b = some o → h₁.get? b = some o := fun b o e => kp b o (e0.bs b o e).1
  have aC : a ≠ C := fun z => by
    rw [z, hC1] at he1
    cases he1
  have nsS : (fun y => ([("self", .ref a), (arg, u)] : List (Str × Value)).reverse.lookup y) "self" = some (.ref a) := by
    show List.lookup (Str.ofString "self") [(arg, u), (Str.ofString "self", Value.ref a)] = _
    simp [List.lookup, beq_eq_false_iff_ne.mpr (Ne.symm hne)]
  have nsA : (fun y => ([("self", .ref a), (arg, u)] : List (Str × Value)).reverse.lookup y) arg = some u := by
    show List.lookup arg [(arg, u), (Str.ofString "self", Value.ref a)] = _
    simp [List.lookup]
  obtain ⟨hp0, gn, dr, tk, os⟩ := s
  obtain ⟨pl, hev⟩ := hev hp0.objs.size
  refine PySem.ks_wpAt_execs_cons (PySem.ks_wpAt_Expr_any (PySem.ks_wpAt_MethodCall (pl := pl) ?_ hev) (hi _))
  refine PySem.ks_wpAt_super_base (env := PySem.W.ksEnv qual scope hp0.objs.size fi (.ref cda) cc) hks hkc rfl rfl (KX1 _ _ lk) rfl hp rfl (KX1 _ _ hcode) rfl hvs hfile htop ?_
  refine PySem.W.ks_loadName_global hk hks (Calls.loadGlobal_builtin (env := PySem.W.ksEnv qual scope hp0.objs.size fi (.ref cda) cc) (e0.mod.glob.keeps bk) hgs (hb1.keeps bk) ((hb2 _ (by decide)).trans hboot) ⟨rfl, ?_⟩)
  refine wpAny_loadName_free hk hkc rfl ⟨_, KX1 _ _ hcell, rfl⟩ ?_
  rw [har]
  refine wpAny_loadName_local hk hkS hns nsS ?_
  refine PySem.ks_wpAny_isType_cls hC1 rfl ⟨rfl, ?_⟩
  refine PySem.ks_wpAny_call_super hC1 rfl he1 rfl (fun c e => by cases e) (PySem.W.looks_mroIn KX1 hsub) (fun h2 e2 k2 => ?_)
  have KX2 : K.In h2 := KX1.keeps k2
  have I2 : PySem.W.InstAt h2 a ({ cls := .ref C, data := .fields #[.ref t1, .none, .none, .none, .bool false, .none] } : Obj) C none := ⟨k2 _ _ he1, rfl, rfl, trivial⟩
  have hm' := hm
  unfold PySem.W.ks_superIn at hm'
  rw [hcl1] at hm'
  refine PySem.W.kxs_getMethod PySem.W.kxs_ValueError e2 (PySem.W.looks_opaque KX2 hst) (l₀ := .ref C :: bm) (fun A Q E s k q => wpAny_bind ((PySem.W.looks_clsIn KX2 hcl1) A _ E s k (wpAny_pure q))) rfl KX2 hm' (I2.type.andThen (PySem.W.looks_subIn KX2 hB)) aC (by decide) ?_
  have k3 : ∀ b o, h2.get? b = some o → (h2.push (PySem.W.kxs_mw "ValueError.__init__" a)).get? b = some o := fun b o e => Heap.get?_push_of_some _ e
  have hu3 : (h2.push (PySem.W.kxs_mw "ValueError.__init__" a)).get? h2.objs.size = some (PySem.W.kxs_mw "ValueError.__init__" a) := Heap.get?_push_at rfl rfl
  have k13 : ∀ b o, h₁.get? b = some o → (h2.push (PySem.W.kxs_mw "ValueError.__init__" a)).get? b = some o := fun b o e => k3 b o (k2 b o e)
  generalize h2.push (PySem.W.kxs_mw "ValueError.__init__" a) = h3 at k3 hu3 k13 ⊢
  refine PySem.W.kxs_callWith (i := "ValueError.__init__") (x := a) rfl ?_
  refine Calls.evalArgs_plain ?_
  refine Calls.spliced_cons (Calls.Constant_str (x := m) (k := j) (pos := p3) (env := PySem.W.ksEnv qual scope hp0.objs.size fi (.ref cda) cc) ?_)
  refine Calls.spliced_nil ⟨hu3, ?_⟩
  refine call_mw PySem.F.excBase_ValueError (k13 _ _ hC1) (k13 _ _ he1) hu3 (by show 1 ≤ sizeLine; rw [sizeLine_eq]; omega) (fun h5 t5 k5 e5 => ?_)
  have k15 : ∀ b o, b ≠ a → h₁.get? b = some o → h5.get? b = some o := fun b o n e => k5 b o n (k13 b o e)
  have I5 := I0.write (t' := tk + 2 + 1 + 1) (x := a) (e := a) (o := exo a C none) (by rw [ea]; exact True.intro) (.inl rfl) k15 ⟨_, e5⟩ (exo_ok e5)
  have eu : upd H a (exo a C none) = H := by
    funext b
    by_cases hb : b = a
    · rw [hb, upd_same, ea]
    · rw [upd_ne hb]
  rw [eu] at I5
  have ns5 : h5.Ns hp0.objs.size (fun y => ([("self", .ref a), (arg, u)] : List (Str × Value)).reverse.lookup y) := hns.at fun o e => k15 _ o (fun z => by
    have y := e0.hok.fresh (Nat.le_refl _) (a := hp0.objs.size)
    rw [z, ea] at y
    cases y) e
  refine wpAt_of_wpAny (wpAny_execs_cons (plainObj_wpAny_Assign_Attribute ?_))
  refine wpAny_Name (wpAny_loadName_local (env := PySem.W.ksEnv qual scope hp0.objs.size fi (.ref cda) cc) hk hka ns5 nsA ?_) hdb
  refine wpAny_Name (wpAny_loadName_local (env := PySem.W.ksEnv qual scope hp0.objs.size fi (.ref cda) cc) hk hkS ns5 nsS ?_) (by decide)
  refine ost_new T I5 ea hno ru (fun dx s' n ne J => ?_)
  exact wpAny_execs_nil ⟨.non, _, J.os, J.bare, J.base, J.hok, rfl, q dx n ne⟩
end
/-! ### try with several clauses, some of them 'as n' -/
/-- what is wished where the suite of a clause runs: the name's slot, if it has one, holds the exception and is empty behind it -/
def inSuite (D : Ends) (σ : L2.St) (H : Hp) (a : Addr) (cls : Value) (d : Option Addr) (ts : Addr → Value → Option Addr → TS) : Option Nat → Prop
  | none => ts a cls d D σ H
  | some i => ts a cls d { nx := fun σ' H' => D.nx (σ'.set i none) H', rt := D.rt, bk := fun σ' H' => D.bk (σ'.set i none) H', ct := fun σ' H' => D.ct (σ'.set i none) H' } (σ.set i (some (.ref a))) H
abbrev Clause := Value × Option Nat × (Addr → Value → Option Addr → TS)
def wCl (K : PySem.W.Frag) (Wout : WX) (D : Ends) : List Clause → WX
  | [] => Wout
  | c :: r => fun cls d σ H => ∃ b, PySem.W.exmOne K cls c.1 = some b ∧ (b = true → ∀ a, H a = none → inSuite D σ H a cls d c.2.2 c.2.1) ∧ (b = false → wCl K Wout D r cls d σ H)
/-- the suite of a clause keeps its reading -/
def SuiteOk (X : Cx) (suite : List Stmt) (ts : Addr → Value → Option Addr → TS) : Prop :=
  ∀ (a : Addr) (oe : Obj) (cls : Value) (d : Option Addr) (pn : List (Addr × Obj)), Zc cls d oe → (∃ vs, oe.data = .fields vs) → PSs (X.suite a ((a, oe) :: pn)) suite (ts a cls d)
inductive ClOk (X : Cx) : List ExceptHandler → List Clause → Prop
  | nil : ClOk X [] []
  | plain {x : Str} {c : Value} {ts : Addr → Value → Option Addr → TS} {st : Stmt} {suite : List Stmt} {p p' : Pos} {hs : List ExceptHandler} {l : List Clause} (hc : Names X x c) (su : SuiteOk X (st :: suite) ts) (r : ClOk X hs l) :
      ClOk X (.ExceptHandler (some (.Name x p)) none (st :: suite) p' :: hs) ((c, none, ts) :: l)
  | named {x n : Str} {i : Nat} {c : Value} {ts : Addr → Value → Option Addr → TS} {st : Stmt} {suite : List Stmt} {p p' : Pos} {hs : List ExceptHandler} {l : List Clause} (hN : X.N.Nodup) (hi : X.N[i]? = some n) (hl : X.env.kindOf n = some .local)
      (hc : Names X x c) (su : SuiteOk X (st :: suite) ts) (r : ClOk X hs l) : ClOk X (.ExceptHandler (some (.Name x p)) (some n) (st :: suite) p' :: hs) ((c, some i, ts) :: l)
section
variable {X : Cx} {σ : L2.St} {H : Hp} {sI s' : Shared} {pins : List (Addr × Obj)} {a : Addr} {cls : Value} {d : Option Addr} {B : Heap} {D : Ends} {Wout : WX}
/-- the clauses, one after the other, for an exception that this frame caught: h3 is the heap with it on the ground -/
theorem clauses (hf : X.env.frame = some X.env.locals) (hs : X.stack = X.env :: X.outer) (tk : Takes X Wout) (J : Inv X pins σ H sI) (na : H a = none)
    (land : ∀ h4, HandSPX.FlyingZ B (X.env :: X.outer) a (Zc cls d) h4 → s'.heap.UpToSlots h4 → Inv X pins σ H { s' with heap := h4 } ∧ ∃ oe vs, h4.get? a = some oe ∧ Zc cls d oe ∧ oe.data = .fields vs ∧ Inv (X.suite a ((a, oe) :: (X.pn ++ pins))) [] σ H { s' with heap := h4 })
    (out : ∀ h4, s'.heap.UpToSlots h4 → HandSPX.HeldZ B (X.env :: X.outer) a (Zc cls d) X.env.locals h4 → Wout cls d σ H → X.xe (.ref a) { s' with heap := h4 })
    {h3 : Heap} (fl3 : HandSPX.FlyingZ B (X.env :: X.outer) a (Zc cls d) h3) (up3 : s'.heap.UpToSlots h3) :
    ∀ {hds : List ExceptHandler} {l : List Clause}, ClOk X hds l → wCl X.K Wout D l cls d σ H → wpAny (model X.prog X.w) X.A (handleBy (.ref a) X.env hds) (SP X pins D) X.xe { s' with heap := h3 } := by
  have cls_of : ∀ {x : Str} {c : Value} {p : Pos} {b : Bool}, Names X x c → PySem.W.exmOne X.K cls c = some b → ∀ {Q : Bool → Shared → Prop} {E : Value → Shared → Prop}, Q b { s' with heap := h3 } →
      wpAny (model X.prog X.w) (X.A.mark (some (.ref a))) (eval (.Name x p) X.env) (fun v s4 => wpAny (model X.prog X.w) (X.A.mark (some (.ref a))) (excMatches (.ref a) v) Q E s4) E { s' with heap := h3 } := by
    intro x c p b hc he Q E q
    obtain ⟨J3, oe, vs, ha, hz, hd, S3⟩ := land h3 fl3 up3
    have LT : PySem.W.Looks (model X.prog X.w) h3 (typeOf (.ref a)) cls := fun A Q E s k q => wpAny_typeOf_ref (k _ _ ha) (by rw [hz.1]; exact q)
    have LM := PySem.W.exm_one (M := model X.prog X.w) J3.kIn LT he
    obtain ⟨hg, hdb, hm | ⟨hm, hv, hnn⟩⟩ := hc
    · exact ld_glob (X := X.suite a ((a, oe) :: (X.pn ++ pins))) S3 hg hm (LM.here q) hdb
    · exact ld_blt (X := X.suite a ((a, oe) :: (X.pn ++ pins))) S3 hg hm hv (LM.here q) hnn hdb
  intro hds l h
  induction h with
  | nil =>
    intro wish
    refine wpAny_handleBy_nil ?_
    obtain ⟨k1, k2, k3, oe, vs, T, oT, ts', he, hz, hd, h1, hr⟩ := id fl3
    unfold PySem.passOn
    refine wpAny_bind (wpAny_field he hd h1 ?_)
    rw [if_neg (show ¬ ((Value.ref T == Value.none) = true) from by simp)]
    have fly : wpAny (model X.prog X.w) X.A (setFlight (.ref a) X.env.frame) (fun _ s4 => wpAny (model X.prog X.w) X.A (throw (.ref a) : Sem Flow) (SP X pins D) X.xe s4) X.xe { s' with heap := h3 } := by
      rw [hf]
      exact HandSPX.setFlight_upZ fl3 fun h4 held up4 => wpAny_throw (out h4 (up3.trans up4) held wish)
    first
      | exact wpAny_bind (wpAny_pure (wpAny_bind fly))
      | exact wpAny_bind fly
  | @plain x c ts st suite p p' hs2 l2 hc su r ih =>
    intro wish
    obtain ⟨b, he, yes, no⟩ := wish
    refine wpAny_handleBy_cons (codeAny_handlers_test ?_) (by intro q; cases q)
    refine cls_of hc he ?_
    cases b with
    | false => exact ih (no rfl)
    | true =>
      refine codeAny_handlers_suite ?_
      refine HandSPX.lands_againZ fl3 fun h4 fl4 up4 => ?_
      obtain ⟨J4, oe, vs, ha, hz, hd, S4⟩ := land h4 fl4 (up3.trans up4)
      refine wpAny_mono ((su a oe cls d (X.pn ++ pins) hz ⟨_, hd⟩).run [] _ _ H _ S4 (yes rfl a na)) (fun f s6 k => ?_) (fun _ _ z => False.elim z)
      cases f with
      | ret u =>
        obtain ⟨v6, σ6, H6, S6, r6, q6⟩ := k
        exact ⟨_, _, _, S6.unsuite J.ok, r6, q6⟩
      | _ =>
        obtain ⟨σ6, H6, S6, q6⟩ := k
        exact ⟨_, _, S6.unsuite J.ok, q6⟩
  | @named x n i c ts st suite p p' hs2 l2 hN hi hl hc su r ih =>
    intro wish
    obtain ⟨b, he, yes, no⟩ := wish
    refine wpAny_handleBy_cons (codeAny_handlers_test ?_) (by intro q; cases q)
    refine cls_of hc he ?_
    cases b with
    | false => exact ih (no rfl)
    | true =>
      refine codeAny_handlers_suite_as ?_
      refine HandSPX.lands_againZ fl3 fun h4 fl4 up4 => ?_
      obtain ⟨J4, oe, vs, ha, hz, hd, S4⟩ := land h4 fl4 (up3.trans up4)
      refine store_ok (X := X.suite a ((a, oe) :: (X.pn ++ pins))) (v := .ref a) S4 hN hi (.inl hl) rfl (fun s5 S5 => ?_) (.inr hl)
      refine wpAny_mono ((su a oe cls d (X.pn ++ pins) hz ⟨_, hd⟩).run [] s5 _ H _ S5 (yes rfl a na)) (fun f s6 k => ?_) (fun _ _ z => False.elim z)
      cases f with
      | ret u =>
        obtain ⟨v6, σ6, H6, S6, r6, q6⟩ := k
        exact gone_ok (S6.unsuite J.ok) hN hi hl fun s7 J7 => ⟨_, _, _, J7, r6, q6⟩
      | _ =>
        obtain ⟨σ6, H6, S6, q6⟩ := k
        exact gone_ok (S6.unsuite J.ok) hN hi hl fun s7 J7 => ⟨_, _, J7, q6⟩
end
section
variable {X : Cx} {body : List Stmt} {hd₀ : ExceptHandler} {hds : List ExceptHandler} {l : List Clause} {pos : Pos} {tb : WX → TS} {Wout : WX}
/-- try: body, then clauses, with and without names -/
theorem ps_tryC (hs : X.stack = X.env :: X.outer) (hf : X.env.frame = some X.env.locals) (tk : Takes X Wout)
    (hb : ∀ (W : WX) (pn : List (Addr × Obj)) (xe : Value → Shared → Prop), Takes (X.tr pn xe) W → PassesOwn (model X.prog X.w) X.A X.env xe → PSs (X.tr pn xe) body (tb W))
    (cl : ClOk X (hd₀ :: hds) l) : PS X (.Try body (hd₀ :: hds) [] [] pos) (fun D σ H => tb (wCl X.K Wout D l) D σ H) := by
  refine ⟨fun pins s σ H D I h => wpAny_Try_except ?_⟩
  have ok := I.ok
  have frames : X.A.frames = some (X.env :: X.outer) := by rw [ok.frames, hs]
  refine wpAny_mono ((hb (wCl X.K Wout D l) (X.pn ++ pins) (fun e s₁ => wpAny (model X.prog X.w) X.A (noteFrame e X.env) (fun _ s₂ => wpAny (model X.prog X.w) X.A (setFlight e none) (fun _ s₃ =>
    wpAny (model X.prog X.w) X.A (handleBy e X.env (hd₀ :: hds)) (SP X pins D) X.xe s₃) X.xe s₂) X.xe s₁) (fun u s' caught => ?_) PassesOwn.looking).run [] s σ H D (I.toTry _) h) (fun f s1 k => ?_) (fun e s1 k => k)
  · obtain ⟨a, B, sI, pins', σ', H', cls, d, rfl, J', nb, up, sky, na, os, ag, wish⟩ := caught
    have J : Inv X pins σ' H' sI := J'.ofTry ok
    rw [hs] at sky
    refine Sky.land Zc.steady frames hf sky fun h3 fl3 up3 => ?_
    refine clauses (B := B) hf hs tk J na (fun h4 fl4 up4 => ?_) (fun h4 up4 held w => ?_) fl3 up3 cl wish
    · have J4 : Inv X pins σ' H' { s' with heap := h4 } := J.landed nb fl4.1 (up.trans up4) os ag
      obtain ⟨oe, vs, ha, hz, hd⟩ := fl4.there
      have far : a ∉ frs (X.env :: X.outer) := fun hm => by
        obtain ⟨_, o', e', hn⟩ := fl4.2.2.1.mem hm
        rw [ha] at e'
        cases e'
        exact hn _ hd
      refine ⟨J4, oe, vs, ha, hz, hd, J4.suite ha hd na (fun z => far (List.mem_filterMap.mpr ⟨X.env, List.mem_cons_self, by rw [hf, z]⟩)) fun hm => ?_⟩
      obtain ⟨e, he, q⟩ := List.mem_filterMap.mp hm
      exact far (List.mem_filterMap.mpr ⟨e, List.mem_cons_of_mem _ he, q⟩)
    · exact tk _ _ ⟨a, B, sI, pins, σ', H', cls, d, rfl, J, nb, up.trans up4, .inr (.inr (by rw [hs]; exact held)), na, os, ag, w⟩
  · cases f with
    | next =>
      obtain ⟨σ', H', J', q⟩ := k
      exact wpAny_execs_nil ⟨σ', H', J'.ofTry ok, q⟩
    | ret u =>
      obtain ⟨v, σ', H', J', r, q⟩ := k
      exact ⟨v, σ', H', J'.ofTry ok, r, q⟩
    | _ =>
      obtain ⟨σ', H', J', q⟩ := k
      exact ⟨σ', H', J'.ofTry ok, q⟩
end
/-- repr(None) -/
theorem call_repr_none {X : Cx} : CallR X (.builtin "repr") (fun xs H Q => xs = [.non] ∧ Q (.str "None") H) := by
  intro pins s σ H xs us Q I r h
  obtain ⟨rfl, q⟩ := h
  obtain ⟨u, rfl, ru⟩ := vals1 r
  cases ru
  exact PySem.P.repr_of_none ⟨.str _, H, I.tok _, ⟨_, rfl⟩, q⟩
section
open PySem.Calls PySem.SeqAt
/-! ### x in ys, ys truth values, x data of any kind: no list, tuple or dict is a truth value -/
theorem sub_dict_bool : isSubtype (.type "dict") (.type "bool") = pure false := by rw [isSubtype_type]; kernel_rfl
theorem sub_bool_dict : isSubtype (.type "bool") (.type "dict") = pure false := by rw [isSubtype_type]; kernel_rfl
theorem dict_declines_bool (l : Addr) (es : Array DictEntry) (n : Nat) (dd : Option Addr) (sl : Array (Option Value)) (b : Bool) :
    Meets (Builtin.«dict.__eq__» ⟨[.ref l, .bool b], []⟩) (fun _ R s => s.heap.get? l = some { cls := .type "dict", dict := dd, data := .dict es n, slots := sl } ∧ R (.ok (.ret .notImplemented)) s) :=
  .of_wp fun prog w A R s h => by obtain ⟨hp, g, d, tk, os⟩ := s; obtain ⟨hl, h⟩ := h; have f1 := sub_bool_dict; wp_walk using wpAny_loadPart' hl; exact ⟨_, rfl, h⟩
theorem int_declines_dict (b : Bool) (l : Addr) (c : Value) (es : Array DictEntry) (n : Nat) (dd : Option Addr) (sl : Array (Option Value)) :
    Meets (Builtin.«int.__eq__» ⟨[.bool b, .ref l], []⟩) (fun _ R s => s.heap.get? l = some { cls := c, dict := dd, data := .dict es n, slots := sl } ∧ R (.ok (.ret .notImplemented)) s) :=
  .of_wp fun prog w A R s h => by obtain ⟨hp, g, d, tk, os⟩ := s; obtain ⟨hl, h⟩ := h; wp_walk using wpAny_loadPart' hl, wpAny_load hl; exact ⟨_, rfl, h⟩
theorem eq_bool_dict {A : Around} {s : Shared} {l : Addr} {es : Array DictEntry} {n : Nat} {dd : Option Addr} {sl : Array (Option Value)} (b : Bool) (ho : s.heap.get? l = some { cls := .type "dict", dict := dd, data := .dict es n, slots := sl }) (hu : A.units < cLine) :
    EqAt A s (.bool b) (.ref l) false := fun prog w E Q h => by
  unfold eqBool
  refine wpAny_holding ?_
  refine wpAny_ite_split (fun hab => absurd (eq_of_beq hab) nofun) (fun _ => ?_)
  refine wpAny_bind (rc_eq_decline_or (k := false) (PySem.typeIs_bool s b) ⟨_, ho, rfl⟩ (by decide) sub_dict_bool PySem.F.slot_bool_eq PySem.F.slot_dict_eq_refl
    (fun _ hq => call_meets PySem.F.slot_bool_eq (PySem.typeIs_bool s b) PySem.F.entry_int_eq (PySem.F.args_int_eq_2 _ _) (int_declines_dict b l (.type "dict") es n dd sl) ⟨ho, hq⟩)
    (fun _ hq => call_meets PySem.F.slot_dict_eq_refl ⟨_, ho, rfl⟩ PySem.F.entry_dict_eq (PySem.F.args_dict_eq_2 _ _) (dict_declines_bool l es n dd sl b) ⟨ho, hq⟩)
    (fun _ hq => wpAny_of_eq (rfl : isSame (.bool b) (.ref l) = pure false) hq) (.inr hu) (wpAny_truthy_bool h))
/-- a list, a tuple or a dict -/
def BoxV (K : PySem.W.Frag) (H : Hp) (x : V) : Prop := ∃ a, x = .ref a ∧ ((∃ zs, SqL K H a zs) ∨ (∃ zs, SqT K H a zs) ∨ ∃ kvs, H a = some (.dK kvs))
theorem box_eq {X : Cx} {A : Around} {pins : List (Addr × Obj)} {σ : L2.St} {H : Hp} {s : Shared} {x : V} {v : Value} (I : Inv X pins σ H s) (hu : A.units < cLine) (b : Bool) (rx : L2.RelV x v) (h : BoxV X.K H x) : EqAt A s (.bool b) v false := by
  obtain ⟨a, rfl, h⟩ := h
  cases rx
  rcases h with ⟨zs, h⟩ | ⟨zs, h⟩ | ⟨kvs, h⟩
  · obtain ⟨its, _, pl, _⟩ := I.list h
    exact EqAt.bool_list b pl.isList hu
  · obtain ⟨its, _, pl, _⟩ := I.tuple h
    exact EqAt.bool_tuple b pl hu
  · obtain ⟨_, _, vs, _, hd⟩ := I.hok a _ h
    obtain ⟨o, es, ep, ho, hx, hdt, _⟩ := hd
    have hc : o.cls = .type "dict" := by first | exact hx.1 | exact hx | simpa [Obj.ExactDict] using hx
    obtain ⟨cls, dd, data, sl⟩ := o
    simp only at hdt hc
    subst hdt hc
    exact eq_bool_dict b ho hu
/-- x not in [True, False] (and x in ..), x a list, a tuple or a dict -/
def rInBx (K : PySem.W.Frag) (neg : Bool) : R2 := fun x y H Q => ∃ (p : Addr) (bs : List Bool), y = .ref p ∧ (SqL K H p (bs.map V.bl) ∨ SqT K H p (bs.map V.bl)) ∧ BoxV K H x ∧ Q (.bl neg) H
theorem bools_only {bs : List Bool} {its : List Value} (r : Vals (bs.map V.bl) its) : ∀ u ∈ its, ∃ b, u = Value.bool b := by
  intro u hu
  obtain ⟨i, hi, e⟩ := List.mem_iff_getElem.mp hu
  have len := r.length
  rw [List.length_map] at len
  obtain ⟨u', h1, h2⟩ := r.get (i := i) (x := V.bl (bs[i]'(by omega))) (by rw [List.getElem?_map, List.getElem?_eq_getElem (by omega)]; rfl)
  rw [List.getElem?_eq_getElem hi, e] at h1
  obtain rfl := Option.some.inj h1
  exact ⟨_, h2⟩
section
variable {X : Cx} {K : PySem.W.Frag}
theorem op_inBx (hu : X.A.units + 64 < cLine) : OpR X (compareOp .In) (rInBx X.K false) := by
  intro pins s σ H x y v u Q I rx ry h
  obtain ⟨p, bs, rfl, hq, hb, q⟩ := h
  cases ry
  have hu1 : X.A.in1.units < cLine := by show X.A.units + 1 < cLine; omega
  have e : ∀ l : List Value, l.any (fun _ => false) = false := fun l => by simp
  rcases hq with hq | hq
  · obtain ⟨its, r, pl, _⟩ := I.list hq
    refine SeqAt.in_listAt (fun _ => false) pl.isList (fun w hw => ?_) ⟨.bl false, H, I, by rw [show its.toArray.any (fun _ => false) = its.any (fun _ => false) by simp, e]; rfl, q⟩
    obtain ⟨b, rfl⟩ := bools_only r w (by simpa using hw)
    exact box_eq I hu1 b rx hb
  · obtain ⟨its, r, pl, _⟩ := I.tuple hq
    refine SeqAt.in_tupleAt (fun _ => false) pl (fun w hw => ?_) ⟨.bl false, H, I, by rw [show its.toArray.any (fun _ => false) = its.any (fun _ => false) by simp, e]; rfl, q⟩
    obtain ⟨b, rfl⟩ := bools_only r w (by simpa using hw)
    exact box_eq I hu1 b rx hb
theorem op_notInBx (hu : X.A.units + 64 < cLine) : OpR X (compareOp .NotIn) (rInBx X.K true) := by
  intro pins s σ H x y v u Q I rx ry h
  obtain ⟨p, bs, rfl, hq, hb, q⟩ := h
  cases ry
  have hu1 : X.A.in1.units < cLine := by show X.A.units + 1 < cLine; omega
  have e : ∀ l : List Value, l.any (fun _ => false) = false := fun l => by simp
  rcases hq with hq | hq
  · obtain ⟨its, r, pl, _⟩ := I.list hq
    refine SeqAt.notIn_listAt (fun _ => false) pl.isList (fun w hw => ?_) ⟨.bl true, H, I, by rw [show its.toArray.any (fun _ => false) = its.any (fun _ => false) by simp, e]; rfl, q⟩
    obtain ⟨b, rfl⟩ := bools_only r w (by simpa using hw)
    exact box_eq I hu1 b rx hb
  · obtain ⟨its, r, pl, _⟩ := I.tuple hq
    refine SeqAt.notIn_tupleAt (fun _ => false) pl (fun w hw => ?_) ⟨.bl true, H, I, by rw [show its.toArray.any (fun _ => false) = its.any (fun _ => false) by simp, e]; rfl, q⟩
    obtain ⟨b, rfl⟩ := bools_only r w (by simpa using hw)
    exact box_eq I hu1 b rx hb
/-- both: plain values by what they are, the others never -/
theorem k_notInB (hu : X.A.units + 64 < cLine) (hK : X.K = K := by rfl) : OpR X (compareOp .NotIn) (fun x y H Q => rIn K true x y H Q ∨ rInBx K true x y H Q) := by
  subst hK
  exact op_notIn_seq.or (op_notInBx hu)
end
/-- xs == [], xs a list of anything -/
def rEqNil (K : PySem.W.Frag) : R2 := fun x y H Q => ∃ (a b : Addr) (xs : List V), x = .ref a ∧ y = .ref b ∧ SqL K H a xs ∧ SqL K H b [] ∧ Q (.bl xs.isEmpty) H
section
variable {X : Cx} {K : PySem.W.Frag}
theorem op_eqNil (hu : X.A.units + 64 < cLine) : OpR X (compareOp .Eq) (rEqNil X.K) := by
  intro pins s σ H x y v u Q I rx ry h
  obtain ⟨a, b, xs, rfl, rfl, ha, hb, q⟩ := h
  cases rx
  cases ry
  have hu1 : X.A.units < cLine := by omega
  obtain ⟨its, r, pl, _⟩ := I.list ha
  obtain ⟨jts, r2, pl2, _⟩ := I.list hb
  cases r2
  have len := r.length
  cases xs with
  | nil =>
    cases r
    refine SeqAt.eq_listAt (e := fun _ => true) pl.isList pl2.isList rfl hu1 (fun j h1 h2 => absurd h1 (by simp)) ⟨.bl true, H, I, ?_, q⟩
    rfl
  | cons z zs =>
    refine SeqAt.eq_list_lengthsAt pl.isList pl2.isList ?_ hu1 ⟨.bl false, H, I, rfl, q⟩
    rw [List.size_toArray, ← len, List.length_cons]
    rfl
theorem k_eqNil (hu : X.A.units + 64 < cLine) (hK : X.K = K := by rfl) : OpR X (compareOp .Eq) (rEqNil K) := by
  subst hK
  exact op_eqNil hu
end
end
/-- the end where defs of the text hold lambdas: what the head says of the tables of their code objects -/
theorem walk_ofTT {l : PySem.W.OpenLaw} {n k : Nat} {q : Program} {loose : List Str} {XP : (Str → Option Value) → Heap → Prop} {YP : World → Heap → Prop} {d : DefRec} {K : Params → PySem.W.Frag} {CX : World → CXT} {x : Str}
    (few : l.most = some n) (fits : n ≤ sizeLine) (nodef : d.params.defaults = []) (room : Room k callerA) (ins : ∀ (w : World) (h : Heap), YP w h → (K w.params).In h)
    (F : ∀ (w : World) (mg : Str → Option Value) (fa : Addr) (h : Heap), YP w h → (K w.params).In h → h.Ns mainGlobals mg → mg d.name = some (.ref fa) →
      (∀ (x : Str) (e : DefRec) (c P : Addr), (recsOf q).find? (fun e => e.name == x) = some e → PySem.W.tabIn (K w.params) x = some (c, P) → PySem.W.CodeHd h c P ∧ h.get? P = some { cls := .none, data := .fields #[] }) → LamX.LawAtS l w (K w.params) (CX w) k n x mg fa h)
    (noX : ∀ (w : World) (H : Hp) (s : Shared) (e : Value) (s' : Shared), CX w [] H s (fun _ _ _ => False) e s' → False) :
    PySem.W.WalkO q loose XP YP l.row.toRowW d [] (fun f vs => PySem.call f vs) := by
  refine Att.attach_callB few nodef fun w s₀ s₁ mg mb fa o pm cd doc a vs ns G Y ho hd hcd hmg obj nums most bits gens => ?_
  have KX := ins w _ Y
  obtain ⟨fd, cs, sp, tabs, nK, C, binds, pr, ok⟩ := F w mg fa _ Y KX G.T.g hmg fun x e c P hr ht => PySem.W.tab_of G.T KX hr ht
  exact LamX.law_callTs KX G.T.g G.T.b G.T.builtins G.T.nolimit gens tabs nK C G.T.bmain obj nums (Nat.le_trans most fits) room ok binds (fun H hH hS => pr H a ns most bits hH hS) fun H e s' => noX w H s₁ e s'
theorem tab_is {K : PySem.W.Frag} {x : Str} {f c P : Addr} {oc cl : Value} {od dd : Option Addr} {fd : FuncData} {sl s2 : Array (Option Value)} {vs : Array Value} (a : PySem.W.nsIn K mainGlobals x = some (some (.ref f))) (l : K.lookup f = some ⟨oc, od, .func fd, sl⟩) (hc : fd.code = .ref c) (w : K.lookup c = some ⟨cl, dd, .fields vs, s2⟩) (h : vs[11]? = some (.ref P)) : PySem.W.tabIn K x = some (c, P) := by
  unfold PySem.W.tabIn
  rw [a]
  dsimp only
  rw [l]
  dsimp only
  rw [hc]
  dsimp only
  rw [w]
  dsimp only
  rw [h]
def topS (i : Nat) : Stmt := PySem.Challenge.pw_restwise_k04_what_is_no_world.main.body.getD i (.Pass ⟨0, 0, 0, 0⟩)

local macro_rules | `(tactic| walk_at "rd1") => `(tactic| first
  | refine ⟨_, rfl, ?_⟩ | refine ⟨_, _, rfl, rfl, ?_⟩ | refine .inl ⟨_, rfl, ?_⟩ | refine .inr ⟨_, rfl, ?_⟩
  | refine And.intro rfl ?_ | refine And.intro ⟨_, rfl⟩ ?_ | refine And.intro (by assumption) ?_ | refine And.intro (by decide) ?_ | refine And.intro (.inl ⟨by decide, by decide⟩) ?_ | refine And.intro (.inr ⟨by decide, by decide⟩) ?_ | refine And.intro ⟨by decide, by decide⟩ ?_ | refine And.intro ⟨by decide, by decide, by decide⟩ ?_
  | refine And.intro (by show (0:Int) < _; first | decide | decide +kernel | assumption | omega) ?_ | refine And.intro (by simp only [List.length_cons, List.length_nil]; decide) ?_ | refine And.intro (by decide +kernel) ?_ | refine And.intro ⟨by decide, by decide +kernel⟩ ?_)
local macro_rules | `(tactic| walk_at "rd") => `(tactic| repeat (walk_at "rd1"))

abbrev s__law_dice : Stmt := topS 11
abbrev N__law_dice : List Str := ["script", "spot", "cell", "great", "blend"]
theorem sc__law_dice : FnScope N__law_dice ["script", "spot"] (defScope s__law_dice) := ⟨rfl, rfl, rfl, by decide +kernel, rfl, by decide +kernel, by decide +kernel⟩

def spDice (K : PySem.W.Frag) : Sp := fun vs H Q _ => ∃ (a : Addr) (ns : List Int) (n : Nat), vs = [.ref a, .int n] ∧ SqL K H a (ns.map V.int) ∧ ns.length ≤ 63 ∧ ∀ H' p, Same H H' → H p = none → Dice H' p → Q (.ref p) H'
section
variable {P : Program} {w : World} {K : PySem.W.Frag} {mg : Str → Option Value} {base : Heap}
theorem ok_dice (h : Has K mg "_law_dice" s__law_dice ["script", "spot"]) (z_len : mg "len" = none) (z_int : mg "int" = none) (z_abs : mg "abs" = none) (z_max : mg "max" = none) : Ok P w K mg base 1 "_law_dice" ["script", "spot"] (spDice K) := by
  obtain ⟨f, fd, g, F, b⟩ := h
  refine ⟨f, fd, g, F.kp, b, F.ok sc__law_dice (fun vs H Q E h => ?_) (fun cdv A outer s H vs Q E hr h => ?_)⟩
  · obtain ⟨a, ns, n, rfl, _⟩ := h
    rfl
  · obtain ⟨a, ns, n, rfl, hS, hlen, q⟩ := h
    refine ⟨_, (pss_cons (ps_set (i := 2) sc__law_dice.nd rfl (.inl rfl) (pe_op op_add (pe_op op_mul pe_int (pv 1)) pe_int))
  (pss_cons (ps_if (pt_cmpR op_lt (pv 1) (pe_callB (Rw.k_len (K := K)) (by rfl) z_len Rw.bt_len (pa_cons (pv 0) pa_nil)) (nomark _)) (pss_one (ps_set (i := 2) sc__law_dice.nd rfl (.inl rfl) (pe_ix (Rw.k_ixL (K := K)) (pv 0) (pv 1) (fun _ _ => rfl)))) pss_nil)
  (pss_cons (ps_set (i := 3) sc__law_dice.nd rfl (.inl rfl) (pe_op op_mod (pe_callTy call_int1 (by rfl) z_int Rw.bt_int (pa_cons (pe_callB call_abs (by rfl) z_abs Rw.bt_abs (pa_cons (pv 2) pa_nil)) pa_nil)) (pe_op Rw.op_powW (pe_op op_pow pe_int pe_int) pe_int)))
  (pss_cons (ps_set (i := 4) sc__law_dice.nd rfl (.inl rfl) (pe_op op_add (pe_op op_add (pe_op op_add (pe_op op_mul (pe_op op_mod (pe_callTy call_int1 (by rfl) z_int Rw.bt_int (pa_cons (pv 3) pa_nil)) pe_int) pe_int) (pe_op op_mul pe_int (pv 1))) (pe_op op_mul pe_int (pe_callTy call_int1 (by rfl) z_int Rw.bt_int (pa_cons (pe_cmpR op_lt (pv 2) pe_int (nomark _)) pa_nil)))) pe_int))
  (pss_one (ps_ret (pe_lst (pa_cons (pe_callB (call_max2 rfl) (by rfl) z_max Rw.bt_max (pa_cons pe_int (pa_cons (pe_op op_sub (pv 3) (pe_op op_pow pe_int pe_int)) pa_nil))) (pa_cons (pe_op op_mod (pe_callTy call_int1 (by rfl) z_int Rw.bt_int (pa_cons (pv 4) pa_nil)) pe_int) (pa_cons pe_int pa_nil)))))))))), ?_⟩
    walk_at "rd"
    refine ⟨a, _, rfl, .inl hS, ?_⟩
    walk_at "rd"
    refine ite2 (fun c => ?_) (fun c => ?_)
    · have hn : n < (ns.map V.int).length := by
        have := of_decide_eq_true c
        omega
      have hn' : n < ns.length := by simpa using hn
      have ha : atI (ns.map V.int) (n : Int) = some (.int ns[n]) := atI_nat (by rw [List.getElem?_map, List.getElem?_eq_getElem hn']; rfl)
      walk_at "rd"
      refine ⟨a, _, _, _, rfl, rfl, hS, ha, ?_⟩
      walk_at "rd"
      refine ⟨_, _, rfl, ?_⟩
      walk_at "rd"
      intro p hp
      refine q _ p (Same.new hp) hp ⟨_, _, _, ?_, ?_, ?_, upd_same⟩
      · split <;> omega
      · exact Int.emod_nonneg _ (by decide)
      · decide
    · walk_at "rd"
      refine ⟨_, _, rfl, ?_⟩
      walk_at "rd"
      intro p hp
      refine q _ p (Same.new hp) hp ⟨_, _, _, ?_, ?_, ?_, upd_same⟩
      · split <;> omega
      · exact Int.emod_nonneg _ (by decide)
      · decide
end

abbrev s__law_roll : Stmt := topS 12
abbrev N__law_roll : List Str := ["dice", "total", "found", "one", "two"]
theorem sc__law_roll : FnScope N__law_roll ["dice", "total"] (defScope s__law_roll) := ⟨rfl, rfl, rfl, by decide +kernel, rfl, by decide +kernel, by decide +kernel⟩

def spRoll : Sp := fun vs H Q _ => ∃ (d : Addr) (n : Int), vs = [.ref d, .int n] ∧ 0 < n ∧ n < 1073741824 ∧ Dice H d ∧ ∀ H' r, SB d H H' → Dice H' d → 0 ≤ r → r < n → Q (.int r) H'
section
variable {P : Program} {w : World} {K : PySem.W.Frag} {mg : Str → Option Value} {base : Heap}
theorem ok_roll (h : Has K mg "_law_roll" s__law_roll ["dice", "total"]) (z_int : mg "int" = none) : Ok P w K mg base 1 "_law_roll" ["dice", "total"] spRoll := by
  obtain ⟨f, fd, g, F, b⟩ := h
  refine ⟨f, fd, g, F.kp, b, F.ok sc__law_roll (fun vs H Q E h => ?_) (fun cdv A outer s H vs Q E hr h => ?_)⟩
  · obtain ⟨d, n, rfl, _⟩ := h
    rfl
  · obtain ⟨d, n, rfl, hn, hn2, ⟨x, y, z, h1, h2, h3, hd⟩, q⟩ := h
    have hL : SqL K H d [.int x, .int y, .int z] := SqL.of hd
    refine ⟨_, (pss_cons (ps_if (pt_cmpR op_gt (pe_ix (Rw.k_ixL (K := K)) (pv 0) pe_int (fun _ _ => rfl)) pe_int (nomark _)) (pss_cons (ps_set (i := 2) sc__law_roll.nd rfl (.inl rfl) (pe_op op_mod (pe_callTy call_int1 (by rfl) z_int Rw.bt_int (pa_cons (pe_ix (Rw.k_ixL (K := K)) (pv 0) pe_int (fun _ _ => rfl)) pa_nil)) (pv 1)))
  (pss_cons (ps_asg (pe_op op_fdiv (pe_ix (Rw.k_ixL (K := K)) (pv 0) pe_int (fun _ _ => rfl)) (pv 1)) (pg_sub (pv 0) pe_int set_list))
  (pss_one (ps_ret (pv 2))))) pss_nil)
  (pss_cons (ps_asg (pe_op op_add (pe_ix (Rw.k_ixL (K := K)) (pv 0) pe_int (fun _ _ => rfl)) pe_int) (pg_sub (pv 0) pe_int set_list))
  (pss_cons (ps_set (i := 3) sc__law_roll.nd rfl (.inl rfl) (pe_op op_mod (pe_callTy call_int1 (by rfl) z_int Rw.bt_int (pa_cons (pe_op op_add (pe_ix (Rw.k_ixL (K := K)) (pv 0) pe_int (fun _ _ => rfl)) (pe_op op_mul pe_int (pe_ix (Rw.k_ixL (K := K)) (pv 0) pe_int (fun _ _ => rfl)))) pa_nil)) pe_int))
  (pss_cons (ps_set (i := 4) sc__law_roll.nd rfl (.inl rfl) (pe_op op_add (pe_op op_mul (pe_op op_mod (pe_callTy call_int1 (by rfl) z_int Rw.bt_int (pa_cons (pe_op op_mul (pv 3) (pv 3)) pa_nil)) pe_int) (pv 3)) (pe_op op_mul pe_int (pe_ix (Rw.k_ixL (K := K)) (pv 0) pe_int (fun _ _ => rfl)))))
  (pss_cons (ps_set (i := 4) sc__law_roll.nd rfl (.inl rfl) (pe_op op_mod (pe_callTy call_int1 (by rfl) z_int Rw.bt_int (pa_cons (pv 4) pa_nil)) pe_int))
  (pss_one (ps_ret (pe_op op_mod (pe_callTy call_int1 (by rfl) z_int Rw.bt_int (pa_cons (pe_op op_fdiv (pv 4) pe_int) pa_nil)) (pv 1))))))))), ?_⟩
    walk_at "rd"
    refine ⟨d, _, _, _, rfl, rfl, hL, rfl, ?_⟩
    walk_at "rd"
    refine ite2 (fun c => ?_) (fun c => ?_)
    · walk_at "rd"
      refine ⟨d, _, _, _, rfl, rfl, hL, rfl, ?_⟩
      walk_at "rd"
      refine ⟨d, _, _, _, rfl, rfl, hL, rfl, ?_⟩
      walk_at "rd"
      refine ⟨⟨hn, hn2⟩, ?_⟩
      walk_at "rd"
      refine ⟨d, _, _, 0, rfl, rfl, hd, rfl, ?_⟩
      walk_at "rd"
      have hx : 0 ≤ x / n := Int.ediv_nonneg h1 (by omega)
      exact q _ _ SB.upd ⟨x / n, y, z, hx, h2, h3, upd_same⟩ (Int.emod_nonneg _ (by omega)) (Int.emod_lt_of_pos _ hn)
    · walk_at "rd"
      refine ⟨d, _, _, _, rfl, rfl, hL, rfl, ?_⟩
      walk_at "rd"
      refine ⟨d, _, _, 2, rfl, rfl, hd, rfl, ?_⟩
      have hL2 : SqL K (upd H d (.lst [.int x, .int y, .int (z + 1)])) d [.int x, .int y, .int (z + 1)] := SqL.of upd_same
      walk_at "rd"
      refine ⟨d, _, _, _, rfl, rfl, hL2, rfl, ?_⟩
      walk_at "rd"
      refine ⟨d, _, _, _, rfl, rfl, hL2, rfl, ?_⟩
      walk_at "rd"
      have p1 : ∀ t : Int, 0 ≤ t % 2305843009213693951 ∧ t % 2305843009213693951 < 2305843009213693951 := fun t => ⟨Int.emod_nonneg _ (by decide), Int.emod_lt_of_pos _ (by decide)⟩
      have p2 : ∀ t : Int, 0 ≤ t % 2305843009213693907 ∧ t % 2305843009213693907 < 2305843009213693907 := fun t => ⟨Int.emod_nonneg _ (by decide), Int.emod_lt_of_pos _ (by decide)⟩
      obtain ⟨o1, o2⟩ := p1 (y + 998244391 * (z + 1))
      refine ⟨.inl ⟨by omega, by omega⟩, ?_⟩
      walk_at "rd"
      obtain ⟨t1, t2⟩ := p2 ((y + 998244391 * (z + 1)) % 2305843009213693951 * ((y + 998244391 * (z + 1)) % 2305843009213693951))
      refine ⟨.inl ⟨Int.lt_of_lt_of_le (by decide) t1, Int.lt_trans t2 (by decide)⟩, ?_⟩
      walk_at "rd"
      refine ⟨d, _, _, _, rfl, rfl, hL2, rfl, ?_⟩
      walk_at "rd"
      exact q _ _ SB.upd ⟨x, y, z + 1, h1, h2, by omega, upd_same⟩ (Int.emod_nonneg _ (by omega)) (Int.emod_lt_of_pos _ hn)
end

abbrev s__law_pick : Stmt := topS 13
abbrev N__law_pick : List Str := ["dice", "items"]
theorem sc__law_pick : FnScope N__law_pick ["dice", "items"] (defScope s__law_pick) := ⟨rfl, rfl, rfl, by decide +kernel, rfl, by decide +kernel, by decide +kernel⟩

def spPick (K : PySem.W.Frag) : Sp := fun vs H Q _ => ∃ (d l : Addr) (xs : List V), vs = [.ref d, .ref l] ∧ 0 < xs.length ∧ xs.length < 1073741824 ∧ Dice H d ∧ (∀ H', SB d H H' → SqL K H' l xs ∨ SqT K H' l xs) ∧ ∀ H' v, SB d H H' → Dice H' d → v ∈ xs → Q v H'
section
variable {P : Program} {w : World} {K : PySem.W.Frag} {mg : Str → Option Value} {base : Heap}
theorem ok_pick (h : Has K mg "_law_pick" s__law_pick ["dice", "items"]) (R : Ok P w K mg base 1 "_law_roll" ["dice", "total"] spRoll) (z_len : mg "len" = none) : Ok P w K mg base 2 "_law_pick" ["dice", "items"] (spPick K) := by
  obtain ⟨f, fd, g, F, b⟩ := h
  obtain ⟨fR, fdR, g__law_roll, k__law_roll, b__law_roll, G__law_roll⟩ := R
  refine ⟨f, fd, g, F.kp, b, F.ok sc__law_pick (fun vs H Q E h => ?_) (fun cdv A outer s H vs Q E hr h => ?_)⟩
  · obtain ⟨d, l, xs, rfl, _⟩ := h
    rfl
  · obtain ⟨d, l, xs, rfl, h0, h1, hD, hS, q⟩ := h
    have hr__law_roll := hr
    refine ⟨_, (pss_one (ps_ret (pe_ix (Rw.k_ix (K := K)) (pv 1) (pe_call G__law_roll hr__law_roll (by rfl) g__law_roll k__law_roll b__law_roll .nil pass0 (pa_cons (pv 0) (pa_cons (pe_callB (Rw.k_len (K := K)) (by rfl) z_len Rw.bt_len (pa_cons (pv 1) pa_nil)) pa_nil))) (fun _ _ => rfl)))), ?_⟩
    walk_at "rd"
    refine ⟨l, xs, rfl, hS H (SB.refl _ _), ?_⟩
    refine ⟨d, (xs.length : Int), rfl, by omega, by omega, hD, fun H' r sb hD' r0 r1 => ?_⟩
    have hr' : r.toNat < xs.length := by omega
    have ha : atI xs r = some xs[r.toNat] := by
      have := atI_nat (xs := xs) (j := r.toNat) (List.getElem?_eq_getElem hr')
      rwa [Int.toNat_of_nonneg r0] at this
    have hq := q H' _ sb hD' (List.getElem_mem hr')
    rcases hS H' sb with hl | ht
    · exact .inl ⟨l, xs, _, _, rfl, rfl, hl, ha, hq⟩
    · exact .inr (.inl ⟨l, xs, _, _, rfl, rfl, ht, ha, hq⟩)
end





/-! ### worlds and their texts -/
def dg (b : Bool) : Nat := if b then 49 else 48
def wtext (bs : List Bool) : Str := ⟨(bs.map dg).toArray⟩
def isWT (z : Str) : Bool := decide (z.length ≤ 200) && z.cps.toList.all fun c => c == 48 || c == 49
def rbits (z : Str) : List Bool := z.cps.toList.map fun c => c == 49
theorem wtext_len (bs : List Bool) : (wtext bs).length = bs.length := by
  show (bs.map dg).toArray.size = bs.length
  rw [List.size_toArray, List.length_map]
theorem rbits_wtext (bs : List Bool) : rbits (wtext bs) = bs := by
  unfold rbits wtext
  rw [List.map_map]
  have h : ((fun c => c == 49) ∘ dg) = id := by
    funext b
    cases b <;> rfl
  rw [h, List.map_id]
theorem isWT_wtext {bs : List Bool} (h : bs.length ≤ 200) : isWT (wtext bs) = true := by
  unfold isWT
  rw [wtext_len, decide_eq_true h, Bool.true_and, List.all_eq_true]
  intro c hc
  obtain ⟨b, _, rfl⟩ := List.mem_map.mp (show c ∈ bs.map dg from hc)
  cases b <;> rfl
/-- each text of noughts and ones is the text of its bits -/
theorem wtext_rbits {z : Str} (h : isWT z = true) : wtext (rbits z) = z := by
  unfold isWT at h
  rw [Bool.and_eq_true, List.all_eq_true] at h
  have e : (rbits z).map dg = z.cps.toList := by
    unfold rbits
    rw [List.map_map]
    have h2 := h.2
    generalize z.cps.toList = l at h2
    induction l with
    | nil => rfl
    | cons c l ih =>
      have hc := h2 c List.mem_cons_self
      rw [List.map_cons, ih fun x hx => h2 x (List.mem_cons_of_mem _ hx)]
      have : dg (c == 49) = c := by
        rw [Bool.or_eq_true, beq_iff_eq, beq_iff_eq] at hc
        rcases hc with rfl | rfl <;> rfl
      show dg (c == 49) :: l = c :: l
      rw [this]
  unfold wtext
  rw [e]
theorem rbits_len (z : Str) : (rbits z).length = z.length := by
  unfold rbits
  rw [List.length_map, Array.length_toList]
  rfl
theorem wtext_app (as bs : List Bool) : wtext (as ++ bs) = wtext as ++ wtext bs := by
  refine Str.ext' ?_
  rw [Str.cps_append]
  unfold wtext
  rw [List.map_append]
  simp
def dgs (b : Bool) : Str := if b then "1" else "0"
theorem cat_dgs : ∀ bs : List Bool, cat (bs.map dgs) = wtext bs
  | [] => rfl
  | b :: bs => by
    show dgs b ++ cat (bs.map dgs) = wtext ([b] ++ bs)
    rw [cat_dgs bs, wtext_app]
    cases b <;> rfl
theorem dgs_len (b : Bool) : (dgs b).length = 1 := by cases b <;> rfl
theorem in01 (c : Nat) : inV (.str ⟨#[c]⟩) [.str "0", .str "1"] = (c == 48 || c == 49) := by
  have e : ∀ k : Nat, ((⟨#[k]⟩ : Str) == (⟨#[c]⟩ : Str)) = (c == k) := by
    intro k
    rw [Bool.eq_iff_iff, beq_iff_eq, beq_iff_eq]
    refine ⟨fun h => ?_, fun h => by rw [h]⟩
    injection h with h
    have := congrArg Array.toList h
    simpa using this.symm
  show ((⟨#[48]⟩ : Str) == (⟨#[c]⟩ : Str) || ((⟨#[49]⟩ : Str) == (⟨#[c]⟩ : Str) || false)) = _
  rw [e, e, Bool.or_false]
theorem is1 (c : Nat) : decide (V.str ⟨#[c]⟩ = V.str "1") = (c == 49) := by
  by_cases h : c = 49
  · subst h
    rfl
  · rw [decide_eq_false ?_]
    · exact (beq_eq_false_iff_ne.mpr h).symm
    · intro q
      injection q with q
      have q' : (⟨#[c]⟩ : Str) = ⟨#[49]⟩ := q
      injection q' with q'
      have := congrArg Array.toList q'
      exact h (by simpa using this)
def NotTup (K : PySem.W.Frag) (H : Hp) (v : V) : Prop := Isi K "tuple" H v false
def spIsWorld (K : PySem.W.Frag) : Sp := fun vs H Q _ => ∃ v, vs = [v] ∧
  ((∃ a xs bs, v = .ref a ∧ SqT K H a xs ∧ xs.length ≤ sizeLine ∧ Paired (fun x b => Isi K "bool" H x b) xs bs ∧ ∀ H', Same H H' → Q (.bl (decide (xs.length ≤ 200) && bs.all id)) H') ∨
    (Isi K "tuple" H v false ∧ ∀ H', Same H H' → Q (.bl false) H'))
def spIsWT (K : PySem.W.Frag) : Sp := fun vs H Q _ => ∃ v, vs = [v] ∧
  ((∃ z, v = .str z ∧ z.length ≤ sizeLine ∧ ∀ H', Same H H' → Q (.bl (isWT z)) H') ∨ (Isi K "str" H v false ∧ ∀ H', Same H H' → Q (.bl false) H'))
theorem bools_isi {K : PySem.W.Frag} {H : Hp} : ∀ bs : List Bool, Paired (fun x b => Isi K "bool" H x b) (bs.map V.bl) (bs.map fun _ => true)
  | [] => .nil
  | b :: bs => .cons (isi_ty (.base (.bl b)) (show kitB "bool" "bool" = some true by decide +kernel)) (bools_isi bs)
theorem paired_get {α β : Type} {F : α → β → Prop} {xs : List α} {ys : List β} (p : Paired F xs ys) : ∀ {i : Nat} {x : α}, xs[i]? = some x → ∃ y, ys[i]? = some y ∧ F x y := by
  induction p with
  | nil => intro i x h; simp at h
  | cons r t ih =>
    intro i x h
    cases i with
    | zero =>
      obtain rfl := Option.some.inj h
      exact ⟨_, rfl, r⟩
    | succ i => exact ih (by simpa using h)
theorem paired_len {α β : Type} {F : α → β → Prop} : ∀ {xs : List α} {ys : List β}, Paired F xs ys → xs.length = ys.length
  | _, _, .nil => rfl
  | _, _, .cons r t => by rw [List.length_cons, List.length_cons, paired_len t]

abbrev s_is_world : Stmt := topS 6
abbrev N_is_world : List Str := ["value", "turn"]
theorem sc_is_world : FnScope N_is_world ["value"] (defScope s_is_world) := ⟨rfl, rfl, rfl, by decide +kernel, rfl, by decide +kernel, by decide +kernel⟩
section
variable {P : Program} {w : World} {K : PySem.W.Frag} {mg : Str → Option Value} {base : Heap}
theorem ok_is_world {t200 : Tok} (h : Has K mg "is_world" s_is_world ["value"]) (g_MAX_WORLD : mg "MAX_WORLD" = some (.int 200 t200)) (z_len : mg "len" = none) (z_isinstance : mg "isinstance" = none) (z_tuple : mg "tuple" = none) (z_bool : mg "bool" = none) (z_all : mg "all" = none) : Ok P w K mg base 1 "is_world" ["value"] (spIsWorld K) := by
  obtain ⟨f, fd, g, F, b⟩ := h
  refine ⟨f, fd, g, F.kp, b, F.ok sc_is_world (fun vs H Q E h => ?_) (fun cdv A outer s H vs Q E hr h => ?_)⟩
  · obtain ⟨v, rfl, _⟩ := h
    rfl
  · obtain ⟨v, rfl, h⟩ := h
    refine ⟨_, (pss_cons (ps_if (PW.pt (pw_or (pt_not (pt_val (pe_callB (Rw.k_isi (K := K)) (by rfl) z_isinstance Rw.bt_isinstance (pa_cons (pv 0) (pa_cons (pe_bltn (v := .ty "tuple") (by rfl) z_tuple Rw.bt_tuple rfl) pa_nil))))) (pw_or1 (pt_cmpR op_gt (pe_callB (Rw.k_len (K := K)) (by rfl) z_len Rw.bt_len (pa_cons (pv 0) pa_nil)) (pe_glob (v := .int 200) rfl g_MAX_WORLD ⟨_, rfl⟩) (nomark _))))) (pss_one (ps_ret pe_bl)) pss_nil)
  (pss_one (ps_ret (pe_callB (Rw.k_all (K := K)) (by rfl) z_all Rw.bt_all (pa_cons (pe_lc (own := [("turn", 1)]) rfl sc_is_world.nd (Rw.k_pt (K := K) (pv 0)) (blkOk_by (own := [("turn", 1)]) (N := N_is_world) (sc := defScope s_is_world) (by decide +kernel)) (fun _ _ _ _ _ => (pg_name (i := 1) sc_is_world.nd rfl (.inl rfl))) (fun _ _ _ _ _ => pts_nil) (fun _ _ _ _ _ => (pe_callB (Rw.k_isi (K := K)) (by rfl) z_isinstance Rw.bt_isinstance (pa_cons (pv 1) (pa_cons (pe_bltn (v := .ty "bool") (by rfl) z_bool Rw.bt_bool rfl) pa_nil))))) pa_nil))))), ?_⟩
    rcases h with ⟨a, xs, bs, rfl, hS, hz, hp, q⟩ | ⟨⟨t, ty, ki⟩, q⟩
    · walk_at "rd"
      refine ⟨_, _, _, _, true, rfl, .ty _, tyTup hS, kit_ty (by decide +kernel), ?_⟩
      walk_at "rd"
      refine ⟨a, xs, rfl, .inr hS, ?_⟩
      walk_at "rd"
      by_cases c : (200 : Int) < ((xs.length : Nat) : Int)
      · rw [decide_eq_true c]
        have e : decide (xs.length ≤ 200) = false := decide_eq_false (by omega)
        rw [e] at q
        walk_at "rd"
        exact q H (Same.refl H)
      · rw [decide_eq_false c]
        have e : decide (xs.length ≤ 200) = true := decide_eq_true (by omega)
        rw [e, Bool.true_and] at q
        walk_at "rd"
        refine ⟨⟨_, hS⟩, fun D nD => ?_⟩
        refine lc_tup (K := K) (a := a) (xs := xs) (PvA H D fun i => (bs.map V.bl).take i) (PvA.start nD rfl) (fun i H2 _ p => seqT_same p.1 hS) (fun i x H2 hx p => ?_) (fun H2 p => ?_)
        · obtain ⟨b, hb, t, ty, ki⟩ := paired_get hp hx
          have hb' : (bs.map V.bl)[i]? = some (V.bl b) := by
            rw [List.getElem?_map, hb]
            rfl
          refine ⟨rfl, ?_⟩
          walk_at "rd"
          refine ⟨_, _, _, _, b, rfl, .ty _, tyx_same p.1 ty, ki, ?_⟩
          refine PvA.put nD p.1 p.2 (take_lt (List.getElem?_eq_some_iff.mp hb').1 ?_) (take_put hb')
          rw [List.length_map, ← paired_len hp]
          exact hz
        · have e2 : H2 D = some (.lst (bs.map V.bl)) := by
            have h4 : H2 D = some (.lst ((bs.map V.bl).take xs.length)) := p.2
            rwa [List.take_of_length_le (by rw [List.length_map, ← paired_len hp]; exact Nat.le_refl _)] at h4
          walk_at "rd"
          exact ⟨D, bs, rfl, SqL.of e2, q H2 p.1⟩
    · walk_at "rd"
      refine ⟨_, _, _, _, false, rfl, .ty _, ty, ki, ?_⟩
      walk_at "rd"
      exact q H (Same.refl H)
end

abbrev s__is_world_text : Stmt := topS 9
abbrev N__is_world_text : List Str := ["value", "sign"]
theorem sc__is_world_text : FnScope N__is_world_text ["value"] (defScope s__is_world_text) := ⟨rfl, rfl, rfl, by decide +kernel, rfl, by decide +kernel, by decide +kernel⟩
section
variable {P : Program} {w : World} {K : PySem.W.Frag} {mg : Str → Option Value} {base : Heap}
theorem ok_is_wt {t200 : Tok} (h : Has K mg "_is_world_text" s__is_world_text ["value"]) (g_MAX_WORLD : mg "MAX_WORLD" = some (.int 200 t200)) (z_len : mg "len" = none) (z_isinstance : mg "isinstance" = none) (z_str : mg "str" = none) (z_all : mg "all" = none) : Ok P w K mg base 1 "_is_world_text" ["value"] (spIsWT K) := by
  obtain ⟨f, fd, g, F, b⟩ := h
  refine ⟨f, fd, g, F.kp, b, F.ok sc__is_world_text (fun vs H Q E h => ?_) (fun cdv A outer s H vs Q E hr h => ?_)⟩
  · obtain ⟨v, rfl, _⟩ := h
    rfl
  · obtain ⟨v, rfl, h⟩ := h
    refine ⟨_, (pss_cons (ps_if (PW.pt (pw_or (pt_not (pt_val (pe_callB (Rw.k_isi (K := K)) (by rfl) z_isinstance Rw.bt_isinstance (pa_cons (pv 0) (pa_cons (pe_bltn (v := .ty "str") (by rfl) z_str Rw.bt_str rfl) pa_nil))))) (pw_or1 (pt_cmpR op_gt (pe_callB call_len_str (by rfl) z_len Rw.bt_len (pa_cons (pv 0) pa_nil)) (pe_glob (v := .int 200) rfl g_MAX_WORLD ⟨_, rfl⟩) (nomark _))))) (pss_one (ps_ret pe_bl)) pss_nil)
  (pss_one (ps_ret (pe_callB (Rw.k_all (K := K)) (by rfl) z_all Rw.bt_all (pa_cons (pe_lc (own := [("sign", 1)]) rfl sc__is_world_text.nd (pi_str (pv 0)) (blkOk_by (own := [("sign", 1)]) (N := N__is_world_text) (sc := defScope s__is_world_text) (by decide +kernel)) (fun _ _ _ _ _ => (pg_name (i := 1) sc__is_world_text.nd rfl (.inl rfl))) (fun _ _ _ _ _ => pts_nil) (fun _ _ _ _ _ => (pe_cmpR (Rw.k_in (K := K)) (pv 1) (pe_tup (pa_cons pe_str (pa_cons pe_str pa_nil))) rfl))) pa_nil))))), ?_⟩
    rcases h with ⟨z, rfl, hz, q⟩ | ⟨⟨t, ty, ki⟩, q⟩
    · walk_at "rd"
      refine ⟨_, _, _, _, true, rfl, .ty _, .base (.str _), kit_ty (by decide +kernel), ?_⟩
      walk_at "rd"
      by_cases c : (200 : Int) < ((z.length : Nat) : Int)
      · rw [decide_eq_true c]
        have e : isWT z = false := by
          unfold isWT
          rw [decide_eq_false (show ¬ z.length ≤ 200 by omega)]
          rfl
        rw [e] at q
        walk_at "rd"
        exact q H (Same.refl H)
      · rw [decide_eq_false c]
        have e : isWT z = z.cps.toList.all fun c => c == 48 || c == 49 := by
          unfold isWT
          rw [decide_eq_true (show z.length ≤ 200 by omega)]
          rfl
        rw [e] at q
        walk_at "rd"
        intro D nD
        let bs : List Bool := z.cps.toList.map fun c => c == 48 || c == 49
        have bl : bs.length = z.cps.size := by
          show (z.cps.toList.map _).length = _
          rw [List.length_map, Array.length_toList]
        refine lc_it walk_str (PvA H D fun i => (bs.map V.bl).take i) (PvA.start nD rfl) (fun _ _ _ _ => trivial) (fun i x H2 H3 hi p hy => ?_) (fun H2 p => ?_)
        · obtain ⟨rfl, c, hc, rfl⟩ := hy
          have hb : (bs.map V.bl)[i]? = some (V.bl (c == 48 || c == 49)) := by
            show ((z.cps.toList.map _).map V.bl)[i]? = _
            rw [List.map_map, List.getElem?_map, Array.getElem?_toList, hc]
            rfl
          refine ⟨rfl, ?_⟩
          walk_at "rd"
          intro p1 n1
          have s1 := Same.new (o := HO.tup [.str "0", .str "1"]) n1
          refine ⟨p1, _, rfl, .inr (SqT.of upd_same), rfl, rfl, ?_⟩
          rw [in01]
          refine PvA.put nD (p.1.trans s1) (s1 _ _ p.2) (take_lt (List.getElem?_eq_some_iff.mp hb).1 ?_) (take_put hb)
          rw [List.length_map, bl]
          exact hz
        · have e2 : H2 D = some (.lst (bs.map V.bl)) := by
            have h4 : H2 D = some (.lst ((bs.map V.bl).take z.cps.size)) := p.2
            rwa [List.take_of_length_le (by rw [List.length_map, bl]; exact Nat.le_refl _)] at h4
          walk_at "rd"
          refine ⟨D, bs, rfl, SqL.of e2, ?_⟩
          have e3 : bs.all id = z.cps.toList.all fun c => c == 48 || c == 49 := by
            show (z.cps.toList.map _).all id = _
            rw [List.all_map]
            rfl
          rw [e3]
          exact q H2 p.1
    · walk_at "rd"
      refine ⟨_, _, _, _, false, rfl, .ty _, ty, ki, ?_⟩
      walk_at "rd"
      exact q H (Same.refl H)
end





/-! ### own exceptions that are raised -/
abbrev bmVE : List Value := [.type "ValueError", .type "Exception", .type "BaseException", .type "object"]
/-- a class without own __init__ over ValueError -/
structure OwnE (K : PySem.W.Frag) (mg : Str → Option Value) (x : Str) (C : Addr) : Prop where
  xP : PySem.W.excIn K C bmVE "ValueError.__new__" = true
  gP : mg x = some (.ref C)
  kP : PySem.W.keepIn K (.ref C) = true
  bP : PySem.W.subIn K (.ref C) (.type "BaseException") = some true
  tP : PySem.W.typeIn K (.ref C) = some (.type "type")
/-- a class whose __init__ says super().__init__('..'), then self.f = its argument -/
structure SupE (P : Program) (w : World) (K : PySem.W.Frag) (mg : Str → Option Value) (base : Heap) (x : Str) (C : Addr) (f arg : Str) : Prop where
  oC : OexC K C
  gP : mg x = some (.ref C)
  init : ∃ fI fd, PySem.W.findIn K (.ref C) "__init__" = some (some (.ref fI)) ∧ PySem.W.typeIn K (.ref fI) = some (.type "function") ∧ L2.Binds K fd ["self", arg] [] ∧ FnOk P w K mg base CX0 1 fI fd ["self", arg] (spSup C f)
/-- as Ok, for a def that may raise -/
def OkX (P : Program) (w : World) (K : PySem.W.Frag) (mg : Str → Option Value) (base : Heap) (k : Nat) (x : Str) (ps : List Str) (sp : Sp) : Prop :=
  ∃ f fd, mg x = some (.ref f) ∧ PySem.W.keepIn K (.ref f) = true ∧ L2.Binds K fd ps [] ∧ FnOk P w K mg base (L2.CX P w) k f fd ps sp

abbrev s_write_world : Stmt := topS 7
abbrev N_write_world : List Str := ["world", "turn"]
theorem sc_write_world : FnScope N_write_world ["world"] (defScope s_write_world) := ⟨rfl, rfl, rfl, by decide +kernel, rfl, by decide +kernel, by decide +kernel⟩

def NoWorld (K : PySem.W.Frag) (H : Hp) (v : V) : Prop := (∃ a xs bs, v = .ref a ∧ SqT K H a xs ∧ xs.length ≤ sizeLine ∧ Paired (fun x b => Isi K "bool" H x b) xs bs ∧ (decide (xs.length ≤ 200) && bs.all id) = false) ∨ Isi K "tuple" H v false
def spWriteX (K : PySem.W.Frag) (C : Addr) : Sp := fun vs H Q E => ∃ v, vs = [v] ∧ ((∃ a bs, v = .ref a ∧ SqT K H a (bs.map V.bl) ∧ bs.length ≤ 200 ∧ ∀ H', Same H H' → Q (.str (wtext bs)) H') ∨ (NoWorld K H v ∧ ∀ H', Same H H' → E (.ref C) none H'))
section
variable {P : Program} {w : World} {K : PySem.W.Frag} {mg : Str → Option Value} {base : Heap}
theorem ok_writeX {C : Addr} (h : Has K mg "write_world" s_write_world ["world"]) (R : Ok P w K mg base 1 "is_world" ["value"] (spIsWorld K)) (O : OwnE K mg "InvalidWorld" C) : OkX P w K mg base 2 "write_world" ["world"] (spWriteX K C) := by
  obtain ⟨f, fd, g, F, b⟩ := h
  obtain ⟨fR, fdR, g_is_world, k_is_world, b_is_world, G_is_world⟩ := R
  obtain ⟨xP_InvalidWorld, gP_InvalidWorld, kP_InvalidWorld, bP_InvalidWorld, tP_InvalidWorld⟩ := O
  refine ⟨f, fd, g, F.kp, b, F.okX sc_write_world (fun vs H Q E h => ?_) (fun cdv A outer s H vs Q E hr h => ?_)⟩
  · obtain ⟨v, rfl, _⟩ := h
    rfl
  · obtain ⟨v, rfl, h⟩ := h
    have hr_is_world := hr
    refine ⟨_, (pss_cons (ps_if (pt_not (pt_val (pe_call G_is_world hr_is_world (by rfl) g_is_world k_is_world b_is_world .nil pass0 (pa_cons (pv 0) pa_nil)))) (pss_one (ps_raise rfl (takes_of rfl rfl rfl rfl) (pmk_own PySem.F.excBase_ValueError xP_InvalidWorld gP_InvalidWorld kP_InvalidWorld (raises_own bP_InvalidWorld tP_InvalidWorld) rfl))) pss_nil)
  (pss_one (ps_ret (Rw.k_join (K := K) (pe_join pe_str (pe_lc (own := [("turn", 1)]) rfl sc_write_world.nd (Rw.k_pt (K := K) (pv 0)) (blkOk_by (own := [("turn", 1)]) (N := N_write_world) (sc := defScope s_write_world) (by decide +kernel)) (fun _ _ _ _ _ => (pg_name (i := 1) sc_write_world.nd rfl (.inl rfl))) (fun _ _ _ _ _ => pts_nil) (fun _ _ _ _ _ => (pe_ifExp (pt_val (pv 1)) pe_str pe_str)))))))), ?_⟩
    rcases h with ⟨a, bs, rfl, hS, hl, q⟩ | ⟨⟨a, xs, bs, rfl, hS, hl, hp, hf⟩ | hi, q⟩
    · have hz : (bs.map V.bl).length ≤ sizeLine := by
        rw [List.length_map]
        exact Nat.le_of_lt (small1000 (by omega))
      walk_at "rd"
      refine .inl ⟨a, _, _, rfl, hS, hz, bools_isi bs, fun H1 s1 => ?_⟩
      have e : (decide ((bs.map V.bl).length ≤ 200) && (bs.map fun _ => true).all id) = true := by
        rw [decide_eq_true (by rw [List.length_map]; exact hl), List.all_map]
        show (true && bs.all fun _ => true) = true
        rw [List.all_eq_true.mpr fun _ _ => rfl]
        rfl
      rw [e]
      walk_at "rd"
      refine ⟨⟨_, seqT_same s1 hS⟩, fun D nD => ?_⟩
      refine lc_tup (K := K) (a := a) (xs := bs.map V.bl) (PvA H1 D fun i => ((bs.map dgs).map V.str).take i) (PvA.start nD rfl) (fun i H2 _ p => seqT_same (s1.trans p.1) hS) (fun i x H2 hx p => ?_) (fun H2 p => ?_)
      · obtain ⟨b, hb, rfl⟩ : ∃ b, bs[i]? = some b ∧ x = V.bl b := by
          rw [List.getElem?_map] at hx
          cases e : bs[i]? with
          | none => rw [e] at hx; cases hx
          | some b => rw [e] at hx; exact ⟨b, rfl, (Option.some.inj hx).symm⟩
        have hb' : ((bs.map dgs).map V.str)[i]? = some (V.str (dgs b)) := by
          rw [List.map_map, List.getElem?_map, hb]
          rfl
        have hz' := take_lt (List.getElem?_eq_some_iff.mp hb').1 (by rw [List.length_map, List.length_map]; rw [List.length_map] at hz; exact hz)
        refine ⟨rfl, ?_⟩
        walk_at "rd"
        cases b with
        | true => exact PvA.put nD p.1 p.2 hz' (take_put hb')
        | false => exact PvA.put nD p.1 p.2 hz' (take_put hb')
      · have e2 : H2 D = some (.lst ((bs.map dgs).map V.str)) := by
          have h4 : H2 D = some (.lst (((bs.map dgs).map V.str).take (bs.map V.bl).length)) := p.2
          rwa [List.take_of_length_le (by rw [List.length_map, List.length_map, List.length_map]; exact Nat.le_refl _)] at h4
        have hs1 := sum_ones (zs := bs.map dgs) (by
          intro z hz
          obtain ⟨b, _, rfl⟩ := List.mem_map.mp hz
          exact dgs_len b)
        refine ⟨Str.ofString "", D, bs.map dgs, rfl, rfl, .inl (SqL.of e2), ?_, ?_⟩
        · rw [hs1, List.length_map]
          show bs.length + bs.length * 0 ≤ 16777216
          omega
        · rw [join_nil, cat_dgs]
          exact q H2 (s1.trans p.1)
    · walk_at "rd"
      refine .inl ⟨a, xs, bs, rfl, hS, hl, hp, fun H1 s1 => ?_⟩
      rw [hf]
      walk_at "rd"
      exact q H1 s1
    · walk_at "rd"
      refine .inr ⟨hi, fun H1 s1 => ?_⟩
      walk_at "rd"
      exact q H1 s1
end

abbrev s_read_world : Stmt := topS 8
abbrev N_read_world : List Str := ["text", "sign"]
theorem sc_read_world : FnScope N_read_world ["text"] (defScope s_read_world) := ⟨rfl, rfl, rfl, by decide +kernel, rfl, by decide +kernel, by decide +kernel⟩

def NoText (K : PySem.W.Frag) (H : Hp) (v : V) : Prop := (∃ z, v = .str z ∧ z.length ≤ sizeLine ∧ isWT z = false) ∨ Isi K "str" H v false
def spReadX (K : PySem.W.Frag) (C : Addr) : Sp := fun vs H Q E => ∃ v, vs = [v] ∧ ((∃ z, v = .str z ∧ isWT z = true ∧ ∀ H' p, Same H H' → H p = none → H' p = some (.tup ((rbits z).map V.bl)) → Q (.ref p) H') ∨
  (NoText K H v ∧ ∀ H' d, Same H H' → H d = none → H' d = some (.xd [("line", .non)]) → E (.ref C) (some d) H'))
section
variable {P : Program} {w : World} {K : PySem.W.Frag} {mg : Str → Option Value} {base : Heap}
theorem ok_readX {C : Addr} (h : Has K mg "read_world" s_read_world ["text"]) (R : Ok P w K mg base 1 "_is_world_text" ["value"] (spIsWT K)) (O : SupE P w K mg base "ParseError" C "line" "line") (z_tuple : mg "tuple" = none) : OkX P w K mg base 3 "read_world" ["text"] (spReadX K C) := by
  obtain ⟨f, fd, g, F, b⟩ := h
  obtain ⟨fR, fdR, g__is_world_text, k__is_world_text, b__is_world_text, G__is_world_text⟩ := R
  obtain ⟨oC_ParseError, gP_ParseError, fI, fdI, iC_ParseError, tI_ParseError, b_ParseError, F_ParseError⟩ := O
  refine ⟨f, fd, g, F.kp, b, F.okX sc_read_world (fun vs H Q E h => ?_) (fun cdv A outer s H vs Q E hr h => ?_)⟩
  · obtain ⟨v, rfl, _⟩ := h
    rfl
  · obtain ⟨v, rfl, h⟩ := h
    have hr__is_world_text : Room 1 _ := hr.mono (by decide)
    have hr_ParseError := hr
    refine ⟨_, (pss_cons (ps_if (pt_not (pt_val (pe_call G__is_world_text hr__is_world_text (by rfl) g__is_world_text k__is_world_text b__is_world_text .nil pass0 (pa_cons (pv 0) pa_nil)))) (pss_one (ps_raise rfl (takes_of rfl rfl rfl rfl) (pmk_oex oC_ParseError iC_ParseError tI_ParseError F_ParseError hr_ParseError b_ParseError .nil pass0 rfl gP_ParseError (pa_cons pe_non pa_nil)))) pss_nil)
  (pss_one (ps_ret (pe_callTy (Rw.k_tupleof (K := K)) (by rfl) z_tuple Rw.bt_tuple (pa_cons (pe_lc (own := [("sign", 1)]) rfl sc_read_world.nd (pi_str (pv 0)) (blkOk_by (own := [("sign", 1)]) (N := N_read_world) (sc := defScope s_read_world) (by decide +kernel)) (fun _ _ _ _ _ => (pg_name (i := 1) sc_read_world.nd rfl (.inl rfl))) (fun _ _ _ _ _ => pts_nil) (fun _ _ _ _ _ => (pe_cmpR op_eq (pv 1) pe_str (nomark _)))) pa_nil))))), ?_⟩
    rcases h with ⟨z, rfl, hz, q⟩ | ⟨⟨z, rfl, hl, hf⟩ | hi, q⟩
    · have hl : z.length ≤ sizeLine := by
        unfold isWT at hz
        rw [Bool.and_eq_true, decide_eq_true_eq] at hz
        exact Nat.le_of_lt (small1000 (by omega))
      walk_at "rd"
      intro H1 s1
      rw [hz]
      walk_at "rd"
      intro D nD
      refine lc_it walk_str (PvA H1 D fun i => ((rbits z).map V.bl).take i) (PvA.start nD rfl) (fun _ _ _ _ => trivial) (fun i x H2 H3 hi p hy => ?_) (fun H2 p => ?_)
      · obtain ⟨rfl, c, hc, rfl⟩ := hy
        have hb : ((rbits z).map V.bl)[i]? = some (V.bl (c == 49)) := by
          have hc' : z.cps.toList[i]? = some c := by rw [Array.getElem?_toList]; exact hc
          unfold rbits
          rw [List.map_map, List.getElem?_map, hc']
          rfl
        refine ⟨rfl, ?_⟩
        walk_at "rd"
        rw [is1]
        refine PvA.put nD p.1 p.2 (take_lt (List.getElem?_eq_some_iff.mp hb).1 ?_) (take_put hb)
        rw [List.length_map]
        unfold rbits
        rw [List.length_map, Array.length_toList]
        exact hl
      · have e2 : H2 D = some (.lst ((rbits z).map V.bl)) := by
          have h4 : H2 D = some (.lst (((rbits z).map V.bl).take z.cps.size)) := p.2
          rwa [List.take_of_length_le (by unfold rbits; rw [List.length_map, List.length_map, Array.length_toList]; exact Nat.le_refl _)] at h4
        walk_at "rd"
        refine ⟨D, _, rfl, .inl ⟨SqL.of e2, fun p2 n2 => ?_⟩⟩
        have s2 := Same.new (o := HO.tup ((rbits z).map V.bl)) n2
        exact q _ p2 ((s1.trans p.1).trans s2) (s1.free (p.1.free n2)) upd_same
    · walk_at "rd"
      intro H1 s1
      rw [hf]
      walk_at "rd"
      intro a na
      refine ⟨a, .non, rfl, upd_same, fun dx ndx dne => ⟨rfl, dx, [("line", .non)], upd_same, ?_, ?_, ?_⟩⟩
      · rw [upd_ne dne]
        exact upd_same
      · rw [upd_ne dne] at ndx
        exact ndx
      · have n1 : H1 dx = none := by
          rw [upd_ne dne] at ndx
          exact ndx
        refine q _ dx (fun b o hb => ?_) (s1.free n1) upd_same
        have h1 := s1 b o hb
        have na' := ne_of_none h1 na
        have nd' := ne_of_none h1 n1
        rw [upd_ne nd', del_ne na', upd_ne na', upd_ne nd', upd_ne na']
        exact h1
    · walk_at "rd"
      refine .inr ⟨hi, fun H1 s1 => ?_⟩
      walk_at "rd"
      intro a na
      refine ⟨a, .non, rfl, upd_same, fun dx ndx dne => ⟨rfl, dx, [("line", .non)], upd_same, ?_, ?_, ?_⟩⟩
      · rw [upd_ne dne]
        exact upd_same
      · rw [upd_ne dne] at ndx
        exact ndx
      · have n1 : H1 dx = none := by
          rw [upd_ne dne] at ndx
          exact ndx
        refine q _ dx (fun b o hb => ?_) (s1.free n1) upd_same
        have h1 := s1 b o hb
        have na' := ne_of_none h1 na
        have nd' := ne_of_none h1 n1
        rw [upd_ne nd', del_ne na', upd_ne na', upd_ne nd', upd_ne na']
        exact h1
end




abbrev s__law_word : Stmt := topS 14
abbrev N__law_word : List Str := ["call", "error"]
theorem sc__law_word : FnScope N__law_word ["call"] (defScope s__law_word) := ⟨rfl, rfl, rfl, by decide +kernel, rfl, by decide +kernel, by decide +kernel⟩

/-- what _law_word makes of what its callee lets out -/
def TWord (K : PySem.W.Frag) (CW CP : Addr) : (XK → Hp → VK → Prop) → Hp → VK → Prop := fun tl H Q =>
  tl (fun cls d H' => ∃ b, PySem.W.exmOne K cls (.ref CW) = some b ∧ (b = true → Q (.str "world") H') ∧ (b = false → ∃ b2, PySem.W.exmOne K cls (.ref CP) = some b2 ∧
    (b2 = true → cls = .ref CP ∧ ∃ dd, d = some dd ∧ H' dd = some (.xd [("line", .non)]) ∧ Q (.str "parse None") H') ∧ (b2 = false → False))) H (fun _ H' => Q (.str "fine") H')
theorem takes_len {X : Cx} {W : WX} (tk : Takes X W) : Takes X (fun cls d σ H => σ.length = X.N.length → W cls d σ H) := fun u s' x => by
  obtain ⟨a, B, sI, pins, σ, H, cls, d, e, I, nb, up, sky, na, os, ag, w⟩ := x
  exact tk u s' ⟨a, B, sI, pins, σ, H, cls, d, e, I, nb, up, sky, na, os, ag, w I.len⟩
theorem word_gives {X : Cx} {q : Str} {g CW CP : Addr} {cdg : Value} (gW : X.mg "InvalidWorld" = some (.ref CW)) (gP : X.mg "ParseError" = some (.ref CP)) (xP : XfC X.K CP) (hno : PySem.W.findIn X.K (.ref CP) "line" = some none) (z_repr : X.mg "repr" = none) :
    LamX.GivesTo X N__law_word "_law_word" (defScope s__law_word) g cdg (defBody s__law_word) "call" q (TWord X.K CW CP) := by
  intro f c' s H Q tl act hc h
  refine ⟨_, pss_cons (ps_tryC (X := (cxOf C8.CX0 X.prog X.w X.K X.mg X.base N__law_word "_law_word" (defScope s__law_word) g cdg X.A X.stack s H C8.E0).nox) (Wout := fun _ _ _ _ => False)
      (tb := fun W D σ H => ∃ Ech : XK, (∀ cls d σ' H', Ech cls d H' → σ'.length = 2 → W cls d σ' H') ∧ σ[0]? = some (some (.ref f)) ∧ H c' = some (LamX.CodeO c' q) ∧ tl Ech H (fun _ H' => D.nx σ H'))
      rfl rfl LamX.takes0 (fun W pn xe tk _ => ?_)
      (.plain ⟨rfl, by decide, .inl gW⟩ (fun a oe cls d pn _ _ => pss_one (ps_ret pe_str))
        (.named (i := 1) sc__law_word.nd rfl rfl ⟨rfl, by decide, .inl gP⟩ (fun a oe cls d pn hz hf => pss_one (ps_ret (pe_op op_add_str pe_str (pe_callB call_repr_none rfl z_repr Rw.bt_repr (pa_cons (pe_xf xP hno hz hf (pv 1)) pa_nil))))) .nil)))
      (pss_one (ps_ret pe_str)), ?_⟩
  · refine ⟨fun pins s' σ H' D I h' => ?_⟩
    obtain ⟨Ech, hW, h1, h2, h3⟩ := h'
    exact (pss_one (ps_expr (act _ pn xe Ech _ _ (takes_len tk) hW))).run pins s' σ H' D I ⟨h1, h2, h3⟩
  · refine ⟨fun cls d H' => ∃ b, PySem.W.exmOne X.K cls (.ref CW) = some b ∧ (b = true → Q (.str "world") H') ∧ (b = false → ∃ b2, PySem.W.exmOne X.K cls (.ref CP) = some b2 ∧
      (b2 = true → cls = .ref CP ∧ ∃ dd, d = some dd ∧ H' dd = some (.xd [("line", .non)]) ∧ Q (.str "parse None") H') ∧ (b2 = false → False)), fun cls d σ' H' hh hl => ?_, rfl, hc, h⟩
    obtain ⟨b, e1, e2, e3⟩ := hh
    refine ⟨b, e1, fun hb a _ => e2 hb, fun hb => ?_⟩
    obtain ⟨b2, k1, k2, k3⟩ := e3 hb
    refine ⟨b2, k1, fun hb2 a na => ?_, fun hb2 => k3 hb2⟩
    obtain ⟨rfl, dd, rfl, hd, hq⟩ := k2 hb2
    match σ', hl with
    | [x0, x1], _ =>
      refine ⟨.ref a, rfl, rfl, rfl, dd, [("line", .non)], .non, rfl, hd, rfl, ?_⟩
      refine ⟨rfl, Str.ofString "parse ", Str.ofString "None", rfl, rfl, by decide +kernel, ?_⟩
      exact hq




abbrev s__law_right : Stmt := topS 15
abbrev N__law_right : List Str := ["dice", "some", "value", "fine", "line", "at", "spoilt", "turn", "one"]
theorem sc__law_right : FnScope N__law_right ["dice"] (defScope s__law_right) := ⟨rfl, rfl, rfl, by decide +kernel, rfl, by decide +kernel, by decide +kernel⟩

/-- a def of the text whose code object's place is known -/
structure FunC (K : PySem.W.Frag) (x qual : Str) (st : Stmt) (f : Addr) (fd : FuncData) (c : Addr) : Prop where
  kp : PySem.W.keepIn K (.ref f) = true
  ex : ∃ oc od kV doc pm an ct osl, fd = PySem.W.fnOf x qual (defArgs st) (defBody st) (defScope st) .none kV doc pm an (.ref c) ct ∧ K.lookup f = some ⟨oc, od, .func fd, osl⟩ ∧ PySem.W.codeIn K (.ref c) qual = true
theorem FunC.ok {P : Program} {w : World} {K : PySem.W.Frag} {mg : Str → Option Value} {base : Heap} {x qual : Str} {st : Stmt} {f c : Addr} {fd : FuncData} {N ps : List Str} {k : Nat} {sp : Sp} (F : FunC K x qual st f fd c) (S : FnScope N ps (defScope st)) (len : ∀ vs H Q E, sp vs H Q E → vs.length = ps.length)
    (hbody : ∀ (A : Around) (outer : List Env) (s : Shared) (H : Hp) (vs : List V) (Q : VK) (E : XK), Room k (A.deeper (envOfC qual (defScope st) s.heap.objs.size f (.ref c))) → sp vs H Q E →
      ∃ t, PSs (cxOf CX0 P w K mg base N qual (defScope st) f (.ref c) A outer s H E) (defBody st) t ∧ t { nx := fun _ H' => Q .non H', rt := Q } (L2.start N vs) H) : FnOk P w K mg base CX0 (k + 1) f fd ps sp := by
  obtain ⟨oc, od, kV, doc, pm, an, ct, osl, rfl, lk, hcd⟩ := F.ex
  exact fn_of lk hcd S len fun A outer s H vs Q E hr hsp => hbody A outer s H vs Q E hr hsp
/-- _law_word as pe_lamcall asks for it -/
structure WordF (K : PySem.W.Frag) (mg : Str → Option Value) (g : Addr) (pgs : Arguments) (kV doc pm cdv ct oc : Value) (an od : Option Addr) (osl : Array (Option Value)) : Prop where
  m : mg "_law_word" = some (.ref g)
  k : PySem.W.keepIn K (.ref g) = true
  l : K.lookup g = some ⟨oc, od, .func (PySem.W.fnOf "_law_word" "_law_word" pgs (defBody s__law_word) (defScope s__law_word) .none kV doc pm an cdv ct), osl⟩
  c : PySem.W.codeIn K cdv "_law_word" = true
  b : L2.Binds K (PySem.W.fnOf "_law_word" "_law_word" pgs (defBody s__law_word) (defScope s__law_word) .none kV doc pm an cdv ct) ["call"] []
/-! ### what is drawn -/
/-- all but the dice and the tables stays -/
def SX (d : Addr) (H H' : Hp) : Prop := ∀ b o, b ≠ d → H b = some o → (∀ ps, o ≠ .tbl ps) → H' b = some o
theorem SX.refl (d : Addr) (H : Hp) : SX d H H := fun _ _ _ h _ => h
theorem SX.of {d : Addr} {H H' : Hp} (s : SB d H H') : SX d H H' := fun b o n h _ => s b o n h
theorem SX.trans {d : Addr} {H H1 H2 : Hp} (a : SX d H H1) (b : SX d H1 H2) : SX d H H2 := fun c o n h t => b c o n (a c o n h t) t
theorem SX.ext {d : Addr} {H H' : Hp} (s : LamX.ExtN H H') : SX d H H' := fun b o _ h t => s b o h t
def KB (H : Hp) (x : V) : Prop := ∃ a, x = .ref a ∧ ((∃ zs, H a = some (.lst zs)) ∨ (∃ zs, H a = some (.tup zs)) ∨ ∃ kvs, H a = some (.dK kvs))
def isBl : V → Bool
  | .bl _ => true
  | _ => false
def tf : V → Bool
  | .bl _ => true
  | .int n => n == 0 || n == 1
  | _ => false
/-- an item: a truth value; nought or one; nothing or a text; a list, a tuple or a dict -/
def KI (H : Hp) (x : V) : Prop := (∃ b, x = .bl b) ∨ (x = .int 0 ∨ x = .int 1) ∨ (x = .non ∨ x = .str "1") ∨ KB H x
theorem KI.tf_flat {K : PySem.W.Frag} {H : Hp} {x : V} (h : KI H x) : (flatV x = true ∧ inV x [.bl true, .bl false] = tf x) ∨ (BoxV K H x ∧ tf x = false) := by
  rcases h with ⟨b, rfl⟩ | (rfl | rfl) | (rfl | rfl) | ⟨a, rfl, h⟩
  · exact .inl ⟨rfl, by cases b <;> decide⟩
  · exact .inl ⟨rfl, by decide⟩
  · exact .inl ⟨rfl, by decide⟩
  · exact .inl ⟨rfl, by decide⟩
  · exact .inl ⟨rfl, by decide⟩
  · refine .inr ⟨⟨a, rfl, ?_⟩, rfl⟩
    rcases h with ⟨zs, h⟩ | ⟨zs, h⟩ | h
    · exact .inl ⟨zs, SqL.of h⟩
    · exact .inr (.inl ⟨zs, SqT.of h⟩)
    · exact .inr (.inr h)
theorem KI.isi {K : PySem.W.Frag} {H : Hp} {x : V} (h : KI H x) : Isi K "bool" H x (isBl x) := by
  rcases h with ⟨b, rfl⟩ | (rfl | rfl) | (rfl | rfl) | ⟨a, rfl, ⟨zs, h⟩ | ⟨zs, h⟩ | ⟨kvs, h⟩⟩
  · exact isi_ty (.base (.bl _)) (show kitB "bool" "bool" = some true by decide +kernel)
  · exact isi_ty (.base (.int _)) (show kitB "int" "bool" = some false by decide +kernel)
  · exact isi_ty (.base (.int _)) (show kitB "int" "bool" = some false by decide +kernel)
  · exact isi_ty (.base .non) (show kitB "NoneType" "bool" = some false by decide +kernel)
  · exact isi_ty (.base (.str _)) (show kitB "str" "bool" = some false by decide +kernel)
  · exact isi_ty (.base (.lst h)) (show kitB "list" "bool" = some false by decide +kernel)
  · exact isi_ty (.base (.tup h)) (show kitB "tuple" "bool" = some false by decide +kernel)
  · exact isi_ty (.base (.dK h)) (show kitB "dict" "bool" = some false by decide +kernel)
theorem bl_tf {x : V} (h : isBl x = true) : tf x = true := by
  cases x with
  | bl b => rfl
  | _ => exact absurd h Bool.false_ne_true
theorem all_tf {xs : List V} (h : xs.all isBl = true) : xs.all tf = true := List.all_eq_true.mpr fun x hx => bl_tf (List.all_eq_true.mp h x hx)
theorem bls {xs : List V} (h : xs.all isBl = true) : ∃ bs : List Bool, xs = bs.map V.bl := by
  induction xs with
  | nil => exact ⟨[], rfl⟩
  | cons x xs ih =>
    rw [List.all_cons, Bool.and_eq_true] at h
    obtain ⟨bs, rfl⟩ := ih h.2
    cases x with
    | bl b => exact ⟨b :: bs, rfl⟩
    | _ => exact absurd h.1 Bool.false_ne_true
theorem isis {K : PySem.W.Frag} {H : Hp} : ∀ xs : List V, (∀ x ∈ xs, KI H x) → Paired (fun x b => Isi K "bool" H x b) xs (xs.map isBl)
  | [], _ => .nil
  | x :: xs, h => .cons (h x List.mem_cons_self).isi (isis xs fun y hy => h y (List.mem_cons_of_mem _ hy))
theorem filter_none (p : V → Bool) : ∀ xs : List V, (xs.filter fun x => !p x).isEmpty = xs.all p
  | [] => rfl
  | x :: xs => by
    have ih := filter_none p xs
    rw [List.filter_cons, List.all_cons, ← ih]
    cases p x <;> rfl
theorem sb_none {d p : Addr} {H H' : Hp} (s : SB d H H') (n : p ≠ d) (e : H' p = none) : H p = none := by
  cases h : H p with
  | none => rfl
  | some o =>
    rw [s _ _ n h] at e
    cases e
theorem rep_bl {n : Nat} {b : Bool} {H : Hp} : ∀ x ∈ (List.replicate n [V.bl b]).flatten, KI H x := fun x hx => by
  obtain ⟨l, hl, h⟩ := List.mem_flatten.mp hx
  rw [List.eq_of_mem_replicate hl] at h
  exact .inl ⟨b, List.mem_singleton.mp h⟩
theorem rep_len {n : Nat} {x : V} : (List.replicate n [x]).flatten.length = n := by
  rw [List.length_flatten, List.map_replicate, List.sum_replicate_nat]
  simp
theorem rep_mem {n : Nat} {x y : V} (h : y ∈ (List.replicate n [x]).flatten) : y = x := by
  obtain ⟨l, hl, h⟩ := List.mem_flatten.mp h
  rw [List.eq_of_mem_replicate hl] at h
  exact List.mem_singleton.mp h
/-- a drawn value: a tuple of such items, or no tuple, whatever the dice throw and the lambdas lay -/
def VS (K : PySem.W.Frag) (d : Addr) (H : Hp) (v : V) : Prop := (∃ a xs, v = .ref a ∧ xs.length ≤ 300 ∧ ∀ H', SX d H H' → SqT K H' a xs ∧ ∀ x ∈ xs, KI H' x) ∨ ∀ H', SX d H H' → Isi K "tuple" H' v false
/-- the same, with what `fine` says of it -/
def VF (K : PySem.W.Frag) (d : Addr) (H : Hp) (v : V) (F : Bool) : Prop := (∃ a xs, v = .ref a ∧ xs.length ≤ 300 ∧ F = (decide (xs.length ≤ 200) && xs.all isBl) ∧ ∀ H', SX d H H' → SqT K H' a xs ∧ ∀ x ∈ xs, KI H' x) ∨ (F = false ∧ ∀ H', SX d H H' → Isi K "tuple" H' v false)
/-- a sign that is nought or one -/
def in01b : V → Bool
  | .str z => z == ⟨#[48]⟩ || z == ⟨#[49]⟩
  | _ => false
theorem in01c (c : Nat) : in01b (.str ⟨#[c]⟩) = (c == 48 || c == 49) := by
  have e : ∀ k : Nat, ((⟨#[c]⟩ : Str) == (⟨#[k]⟩ : Str)) = (c == k) := by
    intro k
    rw [Bool.eq_iff_iff, beq_iff_eq, beq_iff_eq]
    refine ⟨fun h => ?_, fun h => by rw [h]⟩
    injection h with h
    have := congrArg Array.toList h
    simpa using this
  show ((⟨#[c]⟩ : Str) == (⟨#[48]⟩ : Str) || ((⟨#[c]⟩ : Str) == (⟨#[49]⟩ : Str))) = _
  rw [e, e]
theorem mem01 (c : Nat) : decide (c ∈ (Str.ofString "01").cps.toList) = in01b (.str ⟨#[c]⟩) := by
  rw [in01c]
  have h : (Str.ofString "01").cps.toList = [48, 49] := by decide +kernel
  rw [h, Bool.eq_iff_iff, decide_eq_true_eq, Bool.or_eq_true, beq_iff_eq, beq_iff_eq]
  simp
theorem all01 (z : Str) : (sgn z).all in01b = z.cps.toList.all fun c => c == 48 || c == 49 := by
  unfold sgn
  rw [List.all_map]
  congr 1
  funext c
  exact in01c c
/-- a drawn text, or what is none -/
def VT (K : PySem.W.Frag) (d : Addr) (H : Hp) (v : V) : Prop := (∃ z, v = .str z ∧ z.length ≤ 300) ∨ ∀ H', SX d H H' → Isi K "str" H' v false
/-- the same, with what `fine` says of it -/
def VTF (K : PySem.W.Frag) (d : Addr) (H : Hp) (v : V) (F : Bool) : Prop := (∃ z, v = .str z ∧ z.length ≤ 300 ∧ F = isWT z) ∨ (F = false ∧ ∀ H', SX d H H' → Isi K "str" H' v false)
theorem tabs_lst {T : List (Addr × Str)} {d : Addr} {xs : List V} {H H' : Hp} (t : LamX.Tabs T H) (e : H d = some (.lst xs)) (s : SB d H H') : LamX.Tabs T H' := fun p hp => by
  obtain ⟨ps, h1, h2, h3⟩ := t p hp
  refine ⟨ps, s _ _ (fun q => by rw [q, e] at h1; cases h1) h1, h2, fun pos cv hc => ?_⟩
  obtain ⟨c, e1, e2⟩ := h3 pos cv hc
  refine ⟨c, e1, s _ _ (fun q => ?_) e2⟩
  rw [q, e] at e2
  unfold LamX.CodeO at e2
  cases e2
theorem tabs_sb {T : List (Addr × Str)} {d : Addr} {H H' : Hp} (t : LamX.Tabs T H) (D : Dice H d) (s : SB d H H') : LamX.Tabs T H' := fun p hp => by
  obtain ⟨x, y, z, _, _, _, e⟩ := D
  obtain ⟨ps, h1, h2, h3⟩ := t p hp
  refine ⟨ps, s _ _ (fun q => by rw [q, e] at h1; cases h1) h1, h2, fun pos cv hc => ?_⟩
  obtain ⟨c, e1, e2⟩ := h3 pos cv hc
  refine ⟨c, e1, s _ _ (fun q => ?_) e2⟩
  rw [q, e] at e2
  unfold LamX.CodeO at e2
  cases e2
def qRight : Str := (envOfC "_law_right" (defScope s__law_right) 0 0 .none).qual ++ "<lambda>"
def spRight6 (T : List (Addr × Str)) : Sp := fun vs H Q _ => ∃ d, vs = [.ref d] ∧ Dice H d ∧ LamX.Tabs T H ∧ ∀ H', Dice H' d → LamX.Tabs T H' → (∀ b o, b ≠ d → H b = some o → (∀ ps, o ≠ .tbl ps) → H' b = some o) → Q (.bl true) H'
section
variable {P : Program} {w : World} {K : PySem.W.Frag} {mg : Str → Option Value} {base : Heap}
theorem ok_right {T : List (Addr × Str)} {f c PR : Addr} {fd : FuncData} {gw CW CP : Addr} {pgs : Arguments} {kV doc pm cdv ct oc : Value} {an od : Option Addr} {osl : Array (Option Value)} (F : FunC K "_law_right" "_law_right" s__law_right f fd c) (W : WordF K mg gw pgs kV doc pm cdv ct oc an od osl)
    (R : Ok P w K mg base 1 "_law_roll" ["dice", "total"] spRoll) (RP : Ok P w K mg base 2 "_law_pick" ["dice", "items"] (spPick K)) (RI : Ok P w K mg base 1 "is_world" ["value"] (spIsWorld K)) (RW : OkX P w K mg base 2 "write_world" ["world"] (spWriteX K CW)) (RR : OkX P w K mg base 3 "read_world" ["text"] (spReadX K CP))
    (gW : mg "InvalidWorld" = some (.ref CW)) (gP : mg "ParseError" = some (.ref CP)) (xP : XfC K CP) (hno : PySem.W.findIn K (.ref CP) "line" = some none) (eWW : PySem.W.exmOne K (.ref CW) (.ref CW) = some true) (ePW : PySem.W.exmOne K (.ref CP) (.ref CW) = some false) (ePP : PySem.W.exmOne K (.ref CP) (.ref CP) = some true)
    (TB : LamX.TabB base mg c PR) (hmT : (PR, qRight) ∈ T) (hu : ∀ p ∈ T, p.1 = PR → p.2 = qRight)
    (z_len : mg "len" = none) (z_isinstance : mg "isinstance" = none) (z_str : mg "str" = none) (z_tuple : mg "tuple" = none) (z_bool : mg "bool" = none) (z_repr : mg "repr" = none) (z_range : mg "range" = none) : FnOk P w K mg base CX0 6 f fd ["dice"] (spRight6 T) := by
  obtain ⟨fR, fdR, g__law_roll, k__law_roll, b__law_roll, G__law_roll⟩ := R
  obtain ⟨fP, fdP, g__law_pick, k__law_pick, b__law_pick, G__law_pick⟩ := RP
  obtain ⟨fI, fdI, g_is_world, k_is_world, b_is_world, G_is_world⟩ := RI
  obtain ⟨fW, fdW, g_write_world, k_write_world, b_write_world, G_write_world⟩ := RW
  obtain ⟨fX, fdX, g_read_world, k_read_world, b_read_world, G_read_world⟩ := RR
  obtain ⟨g__law_word, k__law_word, l__law_word, c__law_word, b__law_word⟩ := W
  refine F.ok sc__law_right (fun vs H Q E h => ?_) (fun A outer s H vs Q E hr h => ?_)
  · obtain ⟨d, rfl, _⟩ := h
    rfl
  · obtain ⟨d, rfl, hD, hT, q⟩ := h
    have hr_lam := hr
    have hr__law_roll : Room 1 _ := hr.mono (by decide)
    have hr__law_pick : Room 2 _ := hr.mono (by decide)
    have hr_is_world := hr__law_roll
    let D0 : Ends := { nx := fun _ H' => Q .non H', rt := Q }
    -- what follows each piece
    obtain ⟨t11, h11, k11⟩ : ∃ t11, PSs (cxOf CX0 P w K mg base N__law_right "_law_right" (defScope s__law_right) f (.ref c) A outer s H E) ((defBody s__law_right).drop 11) t11 ∧
        ∀ HV D u ln at' z0 F', Dice HV d → LamX.Tabs T HV → SX d H HV → VTF K d HV u F' → t11 D0 [some (.ref d), some (.ref D), some u, some (.bl F'), some (.str ln), some (.int at'), some (.str z0), none, none] HV := by
      refine ⟨_, (pss_one (ps_ret (pe_cmpR op_eq (LamX.pe_lamcall (k := 3) rfl g__law_word k__law_word l__law_word c__law_word b__law_word sc__law_word rfl (.inl rfl) (word_gives gW gP xP hno z_repr) TB rfl hmT hu hr_lam (LamX.lamS_by (by rfl)) rfl (fun _ _ _ _ _ => rfl) (fun A outer s H E f' c' hr' => (pe_call G_read_world (hr'.mono (by decide)) rfl g_read_world k_read_world b_read_world .nil (passes_call (L2.takes_of rfl rfl rfl rfl) fun _ _ _ _ h => h) (pa_cons (pe_var (i := 2) rfl (.inr (.inr rfl))) pa_nil)))) (pe_ifExp (pt_val (pv 3)) pe_str pe_str) (nomark _)))), fun HV D u ln at' z0 F' DV TV sV vtf => ?_⟩
      walk_at "rd"
      intro H2 ext T2
      have D2 : Dice H2 d := by
        obtain ⟨x, y, z, g1, g2, g3, e⟩ := DV
        exact ⟨x, y, z, g1, g2, g3, ext _ _ e (fun ps q => by cases q)⟩
      have s2 : SX d HV H2 := .ext ext
      rcases vtf with ⟨z, rfl, hl, rfl⟩ | ⟨rfl, hi⟩
      · cases eF : isWT z with
        | true =>
          refine ⟨_, rfl, _, rfl, .inl ⟨z, rfl, eF, fun H3 p s3 np hp => ?_⟩⟩
          walk_at "rd"
          exact q H3 (D2.same s3) (T2.ext s3) (sV.trans (s2.trans (.of (.of s3))))
        | false =>
          refine ⟨_, rfl, _, rfl, .inr ⟨.inl ⟨z, rfl, Nat.le_of_lt (small1000 (by omega)), eF⟩, fun H3 dd s3 nd hd => ?_⟩⟩
          refine ⟨false, ePW, fun q => (nomatch q), fun _ => ⟨true, ePP, fun _ => ⟨rfl, dd, rfl, hd, ?_⟩, fun q => nomatch q⟩⟩
          walk_at "rd"
          exact q H3 (D2.same s3) (T2.ext s3) (sV.trans (s2.trans (.of (.of s3))))
      · refine ⟨_, rfl, _, rfl, .inr ⟨.inr (hi H2 s2), fun H3 dd s3 nd hd => ?_⟩⟩
        refine ⟨false, ePW, fun q => (nomatch q), fun _ => ⟨true, ePP, fun _ => ⟨rfl, dd, rfl, hd, ?_⟩, fun q => nomatch q⟩⟩
        walk_at "rd"
        exact q H3 (D2.same s3) (T2.ext s3) (sV.trans (s2.trans (.of (.of s3))))
    obtain ⟨t10, h10, k10⟩ : ∃ t10, PSs (cxOf CX0 P w K mg base N__law_right "_law_right" (defScope s__law_right) f (.ref c) A outer s H E) ((defBody s__law_right).drop 10) t10 ∧
        ∀ HV D u F ln at' z0, Dice HV d → LamX.Tabs T HV → SX d H HV → VT K d HV u → t10 D0 [some (.ref d), some (.ref D), some u, some (.bl F), some (.str ln), some (.int at'), some (.str z0), none, none] HV := by
      refine ⟨_, (pss_cons (ps_set (i := 3) sc__law_right.nd rfl (.inl rfl) (pe_and (pe_callB (Rw.k_isi (K := K)) (by rfl) z_isinstance Rw.bt_isinstance (pa_cons (pv 2) (pa_cons (pe_bltn (v := .ty "str") (by rfl) z_str Rw.bt_str rfl) pa_nil))) (pe_and (pe_cmpR op_lt (pe_callB call_len_str (by rfl) z_len Rw.bt_len (pa_cons (pv 2) pa_nil)) pe_int (nomark _)) (pe_one (pe_cmpR (Rw.k_eqNil (K := K) hr.units) (pe_lc (own := [("one", 8)]) rfl sc__law_right.nd (pi_str (pv 2)) (blkOk_by (own := [("one", 8)]) (N := N__law_right) (sc := defScope s__law_right) (by decide +kernel)) (fun _ _ _ _ _ => (pg_name (i := 8) sc__law_right.nd rfl (.inl rfl))) (fun _ _ _ _ _ => (pts_one (pt_cmpR op_notIn_sign (pv 8) pe_str rfl))) (fun _ _ _ _ _ => (pv 8))) (pe_lst pa_nil) (nomark _))))))
  h11), fun HV D u F ln at' z0 DV TV sV vt => ?_⟩
      rcases vt with ⟨z, rfl, hl⟩ | hi
      · walk_at "rd"
        refine ⟨_, _, _, _, true, rfl, .ty _, .base (.str _), kit_ty (by decide +kernel), ?_⟩
        walk_at "rd"
        refine ⟨Nat.le_of_lt (small1000 (by omega)), ?_⟩
        walk_at "rd"
        by_cases c2 : ((z.length : Nat) : Int) < 201
        · rw [decide_eq_true c2]
          walk_at "rd"
          intro D1 nD
          refine lc_it walk_str (PvA HV D1 fun i => ((sgn z).take i).filter fun x => !in01b x) (PvA.start nD rfl) (fun _ _ _ _ => trivial) (fun i x H2 H3 hi p hy => ?_) (fun H2 p => ?_)
          · obtain ⟨rfl, c, hc, rfl⟩ := hy
            have hxi : (sgn z)[i]? = some (V.str ⟨#[c]⟩) := by
              unfold sgn
              rw [List.getElem?_map, Array.getElem?_toList, hc]
              rfl
            have hput := filter_put (fun x => !in01b x) hxi
            have hzz : (((sgn z).take i).filter fun x => !in01b x).length < sizeLine := by
              refine Nat.lt_of_le_of_lt (List.length_filter_le _ _) (small1000 ?_)
              rw [List.length_take, sgn_len]
              omega
            refine ⟨rfl, ?_⟩
            walk_at "rd"
            rw [mem01]
            cases e : in01b (V.str ⟨#[c]⟩) with
            | true =>
              rw [e] at hput
              walk_at "rd"
              exact PvA.skip (acc := fun i => ((sgn z).take i).filter fun x => !in01b x) p (by show _ = _; rw [hput]; simp)
            | false =>
              rw [e] at hput
              walk_at "rd"
              exact PvA.put nD p.1 p.2 hzz hput
          · have e2 : H2 D1 = some (.lst ((sgn z).filter fun x => !in01b x)) := by
              have h4 : H2 D1 = some (.lst (((sgn z).take z.cps.size).filter fun x => !in01b x)) := p.2
              rwa [List.take_of_length_le (by rw [sgn_len]; exact Nat.le_refl _)] at h4
            walk_at "rd"
            intro p2 n2
            have s2 := Same.new (o := HO.lst []) n2
            refine ⟨D1, p2, _, rfl, rfl, SqL.of (s2 _ _ e2), SqL.of upd_same, ?_⟩
            rw [filter_none]
            have s02 := p.1.trans s2
            generalize hX : upd H2 p2 _ = H3 at s02 ⊢
            walk_at "rd"
            refine k11 H3 D _ ln at' z0 _ (DV.same s02) (tabs_sb TV DV (.of s02)) (sV.trans (.of (.of s02))) (.inl ⟨z, rfl, hl, ?_⟩)
            unfold isWT
            rw [decide_eq_true (by omega), Bool.true_and]
            exact all01 z
        · rw [decide_eq_false c2]
          walk_at "rd"
          refine k11 HV D _ ln at' z0 _ DV TV sV (.inl ⟨z, rfl, hl, ?_⟩)
          unfold isWT
          rw [decide_eq_false (by omega)]
          rfl
      · obtain ⟨t, ty, ki⟩ := hi HV (SX.refl d HV)
        walk_at "rd"
        refine ⟨_, _, _, _, false, rfl, .ty _, ty, ki, ?_⟩
        walk_at "rd"
        exact k11 HV D u ln at' z0 false DV TV sV (.inr ⟨rfl, hi⟩)
    obtain ⟨t6, h6, k6⟩ : ∃ t6, PSs (cxOf CX0 P w K mg base N__law_right "_law_right" (defScope s__law_right) f (.ref c) A outer s H E) ((defBody s__law_right).drop 6) t6 ∧
        ∀ HV D v F, Dice HV d → LamX.Tabs T HV → SX d H HV → t6 D0 [some (.ref d), some (.ref D), some v, some (.bl F), none, none, none, none, none] HV := by
      refine ⟨_, (pss_cons (ps_set (i := 4) sc__law_right.nd rfl (.inl rfl) (Rw.k_join (K := K) (pe_join pe_str (pe_lc (own := [("turn", 7)]) rfl sc__law_right.nd (pi_range1 (by rfl) z_range (pa_cons (pe_call G__law_roll hr__law_roll (by rfl) g__law_roll k__law_roll b__law_roll .nil pass0 (pa_cons (pv 0) (pa_cons pe_int pa_nil))) pa_nil)) (blkOk_by (own := [("turn", 7)]) (N := N__law_right) (sc := defScope s__law_right) (by decide +kernel)) (fun _ _ _ _ _ => (pg_name (i := 7) sc__law_right.nd rfl (.inl rfl))) (fun _ _ _ _ _ => pts_nil) (fun _ _ _ _ _ => (pe_call G__law_pick hr__law_pick (by rfl) g__law_pick k__law_pick b__law_pick .nil pass0 (pa_cons (pv 0) (pa_cons (pe_lst (pa_cons pe_str (pa_cons pe_str pa_nil))) pa_nil))))))))
  (pss_cons (ps_set (i := 5) sc__law_right.nd rfl (.inl rfl) (pe_call G__law_roll hr__law_roll (by rfl) g__law_roll k__law_roll b__law_roll .nil pass0 (pa_cons (pv 0) (pa_cons (pe_op op_add (pe_callB call_len_str (by rfl) z_len Rw.bt_len (pa_cons (pv 4) pa_nil)) pe_int) pa_nil))))
  (pss_cons (ps_set (i := 6) sc__law_right.nd rfl (.inl rfl) (pe_op op_add_str (pe_op op_add_str (pe_slice sl_str (pv 4) po_none (po_some (pv 5))) (pe_call G__law_pick hr__law_pick (by rfl) g__law_pick k__law_pick b__law_pick .nil pass0 (pa_cons (pv 0) (pa_cons (pe_lst (pa_cons pe_str (pa_cons pe_str (pa_cons pe_str (pa_cons pe_str (pa_cons pe_str (pa_cons pe_str (pa_cons pe_str (pa_cons pe_str pa_nil))))))))) pa_nil)))) (pe_slice sl_str (pv 4) (po_some (pv 5)) po_none)))
  (pss_cons (ps_set (i := 2) sc__law_right.nd rfl (.inr rfl) (pe_call G__law_pick hr__law_pick (by rfl) g__law_pick k__law_pick b__law_pick .nil pass0 (pa_cons (pv 0) (pa_cons (pe_op op_cat (pe_op op_rep (pe_lst (pa_cons (pv 6) pa_nil)) pe_int) (pe_lst (pa_cons pe_non (pa_cons pe_int (pa_cons (pe_tup pa_nil) (pa_cons (pe_lst (pa_cons pe_str pa_nil)) (pa_cons pe_dnewK (pa_cons pe_bl (pa_cons (pe_op Rw.op_repS pe_str pe_int) (pa_cons (pe_op Rw.op_repS pe_str pe_int) (pa_cons pe_str pa_nil))))))))))) pa_nil))))
  h10)))), fun HV D v F DV TV sV => ?_⟩
      walk_at "rd"
      refine ⟨d, 9, rfl, by decide, by decide, DV, fun H1 r sb1 D1 r0 r1 => ?_⟩
      refine ⟨r, rfl, by omega, by omega, fun L nL => ?_⟩
      have dL := D1.ne nL
      refine lc_range (lo := 0) (n := _) (fun i H3 => ∃ cs : List Str, H3 L = some (.lst (cs.map V.str)) ∧ cs.length = i ∧ (∀ c ∈ cs, c.length = 1) ∧ SB d H1 H3 ∧ Dice H3 d)
        ⟨[], upd_same, rfl, fun y hy => by simp at hy, SB.new nL, D1.new nL⟩ (fun i H3 hi hp => ?_) (fun H3 hp => ?_)
      · obtain ⟨cs, e1, lc, hc, sb3, D3⟩ := hp
        refine ⟨rfl, ?_⟩
        walk_at "rd"
        intro p np
        first | refine newly np fun J s f => ?_ | refine newly2 np fun J s f => ?_
        have DJ := D3.same s
        refine ⟨d, p, _, rfl, by simp, by simp, DJ, fun H' sb => .inl (SqL.of (sb _ _ (D3.ne np).symm f)), fun H4 v sb4 D4 hv => ?_⟩
        obtain ⟨c, hc1, rfl⟩ : ∃ c : Str, c.length = 1 ∧ v = .str c := by
          simp only [List.mem_cons, List.not_mem_nil, or_false] at hv
          rcases hv with rfl | rfl
          · exact ⟨_, rfl, rfl⟩
          · exact ⟨_, rfl, rfl⟩
        have e4 := sb4 _ _ dL.symm (s _ _ e1)
        refine ⟨_, e4, by rw [List.length_map]; exact small1000 (by omega), cs ++ [c], by rw [upd_same, List.map_append]; rfl, by simp [lc], ?_, ?_, ?_⟩
        · intro y hy
          rcases List.mem_append.mp hy with h | h
          · exact hc y h
          · rw [List.mem_singleton.mp h]
            exact hc1
        · intro b o nb hb
          rw [upd_ne (ne_of_none hb nL)]
          exact sb4 _ _ nb (s _ _ (sb3 _ _ nb hb))
        · obtain ⟨x, y, z, g1, g2, g3, e⟩ := D4
          exact ⟨x, y, z, g1, g2, g3, by rw [upd_ne dL]; exact e⟩
      obtain ⟨cs, e1, lc, hc, sb3, D3⟩ := hp
      have hs1 := sum_ones hc
      refine ⟨Str.ofString "", L, cs, rfl, rfl, .inl (SqL.of e1), ?_, ?_⟩
      · rw [hs1]
        show cs.length + cs.length * 0 ≤ 16777216
        omega
      rw [join_nil]
      have hl : (cat cs).length ≤ 8 := by
        rw [cat_len, hs1]
        omega
      generalize cat cs = ln at hl
      have sA : SB d HV H3 := sb1.trans sb3
      clear e1 hc hs1 lc sb1 sb3 D1
      walk_at "rd"
      refine ⟨Nat.le_of_lt (small1000 (by omega)), ?_⟩
      walk_at "rd"
      refine ⟨d, _, rfl, by omega, by omega, D3, fun H4 r4 sb4 D4 r40 r41 => ?_⟩
      walk_at "rd"
      refine ⟨Nat.le_of_lt (small1000 (by omega)), ?_⟩
      walk_at "rd"
      intro p np
      first | refine newly np fun H5 s5 f5 => ?_ | refine newly2 np fun H5 s5 f5 => ?_
      have D5 := D4.same s5
      refine ⟨d, p, _, rfl, by simp, by simp, D5, fun H' sb => .inl (SqL.of (sb _ _ (D4.ne np).symm f5)), fun H6 u sb6 D6 hu6 => ?_⟩
      obtain ⟨sp, hsp, rfl⟩ : ∃ sp : Str, sp.length ≤ 4 ∧ u = .str sp := by
        simp only [List.mem_cons, List.not_mem_nil, or_false] at hu6
        rcases hu6 with rfl | rfl | rfl | rfl | rfl | rfl | rfl | rfl
        all_goals exact ⟨_, by decide, rfl⟩
      have sB : SB d HV H6 := ((sA.trans sb4).trans (.of s5)).trans sb6
      clear hu6 f5 sA sb4 s5 sb6 D3 D4 D5 np
      have c1 := cutS_length ln none (some r4)
      have c2 := cutS_length ln (some r4) none
      walk_at "rd"
      refine ⟨Nat.le_of_lt (small1000 (by omega)), ?_⟩
      simp only [tNoPart]
      walk_at "rd"
      refine ⟨Nat.le_of_lt (small1000 (by omega)), ?_⟩
      simp only [tNoPart]
      have hs : (cutS ln none (some r4) ++ sp ++ cutS ln (some r4) none).length ≤ 100 := by
        rw [Str.length_append, Str.length_append]
        omega
      refine ⟨_, _, rfl, rfl, Nat.le_of_lt (small1000 (by rw [Str.length_append] at hs; omega)), ?_⟩
      generalize cutS ln none (some r4) ++ sp ++ cutS ln (some r4) none = z0 at hs
      clear c1 c2 hsp hl r40 r41 r0 r1 
      walk_at "rd"
      intro pl nl
      first | refine newly nl fun K2 s2 f2 => ?_ | refine newly2 nl fun K2 s2 f2 => ?_
      walk_at "rd"
      refine ⟨pl, 6, [.str z0], rfl, rfl, f2, by decide, by decide, by show 6 ≤ sizeLine; decide, fun pr nr => ?_⟩
      first | refine newly nr fun K3 s3 f3 => ?_ | refine newly2 nr fun K3 s3 f3 => ?_
      walk_at "rd"
      intro pt nt
      first | refine newly nt fun K4 s4 f4 => ?_ | refine newly2 nt fun K4 s4 f4 => ?_
      walk_at "rd"
      intro po no
      first | refine newly no fun K5 s5 f5 => ?_ | refine newly2 no fun K5 s5 f5 => ?_
      walk_at "rd"
      intro pd nd
      first | refine newly nd fun K6 s6 f6 => ?_ | refine newly2 nd fun K6 s6 f6 => ?_
      walk_at "rd"
      intro pf nf
      first | refine newly nf fun K7 s7 f7 => ?_ | refine newly2 nf fun K7 s7 f7 => ?_
      walk_at "rd"
      have fr := s7 _ _ (s6 _ _ (s5 _ _ (s4 _ _ f3)))
      refine ⟨pr, pf, _, _, rfl, rfl, fr, f7, ?_, fun pg ng => ?_⟩
      · rw [rep_len]
        show 6 + 9 ≤ sizeLine
        decide
      first | refine newly ng fun K8 s8 f8 => ?_ | refine newly2 ng fun K8 s8 f8 => ?_
      have all : Same H6 K8 := ((((s2.trans s3).trans (s4.trans s5)).trans (s6.trans s7)).trans s8)
      have E3 := D6.same (s2.trans s3)
      have E4 := E3.same s4
      have E5 := E4.same s5
      have E7 := (E5.same s6).same s7
      have E8 := E7.same s8
      have dt : pt ≠ d := (E3.ne nt).symm
      have do' : po ≠ d := (E4.ne no).symm
      have dd : pd ≠ d := (E5.ne nd).symm
      have dg : pg ≠ d := (E7.ne ng).symm
      walk_at "rd"
      refine ⟨d, pg, _, rfl, ?_, ?_, E8, fun H' sb => .inl (SqL.of (sb _ _ dg f8)), fun H9 u sb9 D9 hu => ?_⟩
      · rw [List.length_append]
        simp
      · rw [List.length_append, rep_len]
        simp
      have sC : SB d HV H9 := (sB.trans (.of all)).trans sb9
      have vt : VT K d H9 u := by
        rcases List.mem_append.mp hu with hu | hu
        · rw [rep_mem hu]
          exact .inl ⟨z0, rfl, by omega⟩
        · simp only [List.mem_cons, List.not_mem_nil, or_false] at hu
          rcases hu with e | e | e | e | e | e | e | e | e
          · rw [e]
            exact .inr fun H' sx => isi_ty (.base .non) (by decide +kernel)
          · rw [e]
            exact .inr fun H' sx => isi_ty (.base (.int _)) (by decide +kernel)
          · rw [e]
            exact .inr fun H' sx => isi_ty (.base (.tup (sx _ _ dt (sb9 _ _ dt (s8 _ _ (s7 _ _ (s6 _ _ (s5 _ _ f4))))) (fun ps z => by cases z)))) (by decide +kernel)
          · rw [e]
            exact .inr fun H' sx => isi_ty (.base (.lst (sx _ _ do' (sb9 _ _ do' (s8 _ _ (s7 _ _ (s6 _ _ f5)))) (fun ps z => by cases z)))) (by decide +kernel)
          · rw [e]
            exact .inr fun H' sx => isi_ty (.base (.dK (sx _ _ dd (sb9 _ _ dd (s8 _ _ (s7 _ _ f6))) (fun ps z => by cases z)))) (by decide +kernel)
          · rw [e]
            exact .inr fun H' sx => isi_ty (.base (.bl _)) (by decide +kernel)
          · rw [e]
            exact .inl ⟨_, rfl, by rw [repS_len]; decide⟩
          · rw [e]
            exact .inl ⟨_, rfl, by rw [repS_len]; decide⟩
          · rw [e]
            exact .inl ⟨_, rfl, by decide⟩
      exact k10 H9 D u F ln r4 z0 D9 (tabs_sb TV DV sC) (sV.trans (.of sC)) vt
    obtain ⟨t5, h5, k5⟩ : ∃ t5, PSs (cxOf CX0 P w K mg base N__law_right "_law_right" (defScope s__law_right) f (.ref c) A outer s H E) ((defBody s__law_right).drop 5) t5 ∧
        ∀ HV D v F, Dice HV d → LamX.Tabs T HV → SX d H HV → VF K d HV v F → t5 D0 [some (.ref d), some (.ref D), some v, some (.bl F), none, none, none, none, none] HV := by
      refine ⟨_, (pss_cons (ps_if (PW.pt (pw_or (pt_cmpR op_ne (pe_callB Rw.call_repr_bool (by rfl) z_repr Rw.bt_repr (pa_cons (pe_call G_is_world hr_is_world (by rfl) g_is_world k_is_world b_is_world .nil pass0 (pa_cons (pv 2) pa_nil)) pa_nil)) (pe_callB Rw.call_repr_bool (by rfl) z_repr Rw.bt_repr (pa_cons (pv 3) pa_nil)) (nomark _)) (pw_or1 (pt_cmpR op_ne (LamX.pe_lamcall (k := 3) rfl g__law_word k__law_word l__law_word c__law_word b__law_word sc__law_word rfl (.inl rfl) (word_gives gW gP xP hno z_repr) TB rfl hmT hu hr_lam (LamX.lamS_by (by rfl)) rfl (fun _ _ _ _ _ => rfl) (fun A outer s H E f' c' hr' => (pe_call G_write_world (hr'.mono (by decide)) rfl g_write_world k_write_world b_write_world .nil (passes_call (L2.takes_of rfl rfl rfl rfl) fun _ _ _ _ h => h) (pa_cons (pe_var (i := 2) rfl (.inr (.inr rfl))) pa_nil)))) (pe_ifExp (pt_val (pv 3)) pe_str pe_str) (nomark _))))) (pss_one (ps_ret pe_bl)) pss_nil)
  h6), fun HV D v F DV TV sV vf => ?_⟩
      rcases vf with ⟨a, zs, rfl, hl, rfl, hz⟩ | ⟨rfl, hi⟩
      · obtain ⟨t0, i0⟩ := hz HV (SX.refl d HV)
        walk_at "rd"
        refine .inl ⟨a, zs, zs.map isBl, rfl, t0, Nat.le_of_lt (small1000 (by omega)), isis zs i0, fun H1 s1 => ?_⟩
        rw [List.all_map, show (id ∘ isBl) = isBl from rfl]
        walk_at "rd"
        refine iteNS rfl ?_
        refine ⟨tabs_sb TV DV (.of s1), fun H2 ext T2 => ?_⟩
        have D1 := DV.same s1
        have D2 : Dice H2 d := by
          obtain ⟨x, y, z, g1, g2, g3, e⟩ := D1
          exact ⟨x, y, z, g1, g2, g3, ext _ _ e (fun ps q => by cases q)⟩
        have s2 : SX d HV H2 := (SX.of (.of s1)).trans (.ext ext)
        obtain ⟨t2, i2⟩ := hz H2 s2
        cases eF : (decide (zs.length ≤ 200) && zs.all isBl) with
        | true =>
          rw [Bool.and_eq_true, decide_eq_true_eq] at eF
          obtain ⟨bs, rfl⟩ := bls eF.2
          refine ⟨_, rfl, _, rfl, .inl ⟨a, bs, rfl, t2, by simpa using eF.1, fun H3 s3 => ?_⟩⟩
          walk_at "rd"
          refine iteNS rfl ?_
          exact k6 H3 D _ true (D2.same s3) (T2.ext s3) (sV.trans (s2.trans (.of (.of s3))))
        | false =>
          refine ⟨_, rfl, _, rfl, .inr ⟨.inl ⟨a, zs, zs.map isBl, rfl, t2, Nat.le_of_lt (small1000 (by omega)), isis zs i2, by rw [List.all_map]; exact eF⟩, fun H3 s3 => ?_⟩⟩
          refine ⟨true, eWW, fun _ => ?_, fun q => nomatch q⟩
          walk_at "rd"
          refine iteNS rfl ?_
          exact k6 H3 D _ false (D2.same s3) (T2.ext s3) (sV.trans (s2.trans (.of (.of s3))))
      · walk_at "rd"
        refine .inr ⟨hi HV (SX.refl d HV), fun H1 s1 => ?_⟩
        walk_at "rd"
        refine ⟨tabs_sb TV DV (.of s1), fun H2 ext T2 => ?_⟩
        have D2 : Dice H2 d := by
          obtain ⟨x, y, z, g1, g2, g3, e⟩ := DV.same s1
          exact ⟨x, y, z, g1, g2, g3, ext _ _ e (fun ps q => by cases q)⟩
        have s2 : SX d HV H2 := (SX.of (.of s1)).trans (.ext ext)
        refine ⟨_, rfl, _, rfl, .inr ⟨.inr (hi H2 s2), fun H3 s3 => ?_⟩⟩
        refine ⟨true, eWW, fun _ => ?_, fun q => nomatch q⟩
        walk_at "rd"
        refine iteNS rfl ?_
        exact k6 H3 D _ false (D2.same s3) (T2.ext s3) (sV.trans (s2.trans (.of (.of s3))))
    obtain ⟨t3, h3, k3⟩ : ∃ t3, PSs (cxOf CX0 P w K mg base N__law_right "_law_right" (defScope s__law_right) f (.ref c) A outer s H E) ((defBody s__law_right).drop 3) t3 ∧
        ∀ HV D v, Dice HV d → LamX.Tabs T HV → SX d H HV → VS K d HV v → t3 D0 [some (.ref d), some (.ref D), some v, none, none, none, none, none, none] HV := by
      refine ⟨_, (pss_cons (ps_set (i := 3) sc__law_right.nd rfl (.inl rfl) (pe_and (pe_callB (Rw.k_isi (K := K)) (by rfl) z_isinstance Rw.bt_isinstance (pa_cons (pv 2) (pa_cons (pe_bltn (v := .ty "tuple") (by rfl) z_tuple Rw.bt_tuple rfl) pa_nil))) (pe_and (pe_cmpR op_lt (pe_callB (Rw.k_len (K := K)) (by rfl) z_len Rw.bt_len (pa_cons (pv 2) pa_nil)) pe_int (nomark _)) (pe_one (pe_cmpR (Rw.k_eqNil (K := K) hr.units) (pe_lc (own := [("one", 8)]) rfl sc__law_right.nd (Rw.k_pt (K := K) (pv 2)) (blkOk_by (own := [("one", 8)]) (N := N__law_right) (sc := defScope s__law_right) (by decide +kernel)) (fun _ _ _ _ _ => (pg_name (i := 8) sc__law_right.nd rfl (.inl rfl))) (fun _ _ _ _ _ => (pts_one (pt_cmpR (Rw.k_notInB (K := K) hr.units) (pv 8) (pe_lst (pa_cons pe_bl (pa_cons pe_bl pa_nil))) rfl))) (fun _ _ _ _ _ => (pv 8))) (pe_lst pa_nil) (nomark _))))))
  (pss_cons (ps_set (i := 3) sc__law_right.nd rfl (.inl rfl) (pe_and (pv 3) (pe_one (pe_cmpR (Rw.k_eqNil (K := K) hr.units) (pe_lc (own := [("one", 8)]) rfl sc__law_right.nd (Rw.k_pt (K := K) (pv 2)) (blkOk_by (own := [("one", 8)]) (N := N__law_right) (sc := defScope s__law_right) (by decide +kernel)) (fun _ _ _ _ _ => (pg_name (i := 8) sc__law_right.nd rfl (.inl rfl))) (fun _ _ _ _ _ => (pts_one (pt_not (pt_val (pe_callB (Rw.k_isi (K := K)) (by rfl) z_isinstance Rw.bt_isinstance (pa_cons (pv 8) (pa_cons (pe_bltn (v := .ty "bool") (by rfl) z_bool Rw.bt_bool rfl) pa_nil))))))) (fun _ _ _ _ _ => (pv 8))) (pe_lst pa_nil) (nomark _)))))
  h5)), fun HV D v DV TV sV vs => ?_⟩
      rcases vs with ⟨a, zs, rfl, hl, hz⟩ | hi
      · obtain ⟨t0, i0⟩ := hz HV (SX.refl d HV)
        walk_at "rd"
        refine ⟨_, _, _, _, true, rfl, .ty _, tyTup t0, kit_ty (by decide +kernel), ?_⟩
        walk_at "rd"
        refine ⟨a, zs, rfl, .inr t0, ?_⟩
        walk_at "rd"
        by_cases c2 : ((zs.length : Nat) : Int) < 201
        · rw [decide_eq_true c2]
          walk_at "rd"
          refine ⟨⟨_, t0⟩, fun D1 nD => ?_⟩
          refine lc_tup (K := K) (a := a) (xs := zs) (PvA HV D1 fun i => (zs.take i).filter fun x => !tf x) (PvA.start nD rfl) (fun i H2 _ p => seqT_same p.1 t0) (fun i x H2 hxi p => ?_) (fun H2 p => ?_)
          · have hput := filter_put (fun x => !tf x) hxi
            have hzz : ((zs.take i).filter fun x => !tf x).length < sizeLine := by
              refine Nat.lt_of_le_of_lt (List.length_filter_le _ _) (small1000 ?_)
              rw [List.length_take]
              omega
            refine ⟨rfl, ?_⟩
            walk_at "rd"
            intro p1 n1
            have s1 := Same.new (o := HO.lst [V.bl true, V.bl false]) n1
            have ki : KI (upd H2 p1 (.lst [V.bl true, V.bl false])) x := (hz _ (.of (.of (p.1.trans s1)))).2 x (List.mem_of_getElem? hxi)
            rcases ki.tf_flat (K := K) with ⟨h1, h2⟩ | ⟨h1, h2⟩
            · refine .inl ⟨p1, [.bl true, .bl false], rfl, .inl (SqL.of upd_same), h1, rfl, ?_⟩
              rw [h2]
              cases e : tf x with
              | true =>
                rw [e] at hput
                walk_at "rd"
                exact PvA.skip (acc := fun i => (zs.take i).filter fun x => !tf x) ⟨p.1.trans s1, s1 _ _ p.2⟩ (by show _ = _; rw [hput]; simp)
              | false =>
                rw [e] at hput
                walk_at "rd"
                exact PvA.put nD (p.1.trans s1) (s1 _ _ p.2) hzz hput
            · refine .inr ⟨p1, [true, false], rfl, .inl (SqL.of upd_same), h1, ?_⟩
              rw [h2] at hput
              walk_at "rd"
              exact PvA.put nD (p.1.trans s1) (s1 _ _ p.2) hzz hput
          · have e2 : H2 D1 = some (.lst (zs.filter fun x => !tf x)) := by
              have h4 : H2 D1 = some (.lst ((zs.take zs.length).filter fun x => !tf x)) := p.2
              rwa [List.take_length] at h4
            walk_at "rd"
            intro p2 n2
            have s2 := Same.new (o := HO.lst []) n2
            refine ⟨D1, p2, _, rfl, rfl, SqL.of (s2 _ _ e2), SqL.of upd_same, ?_⟩
            rw [filter_none]
            have s02 := p.1.trans s2
            generalize hX : upd H2 p2 _ = H3 at s02 ⊢
            cases ea : zs.all tf with
            | false =>
              walk_at "rd"
              refine k5 H3 D _ false (DV.same s02) (tabs_sb TV DV (.of s02)) (sV.trans (.of (.of s02))) (.inl ⟨a, zs, rfl, hl, ?_, fun H' sx => hz H' ((SX.of (.of s02)).trans sx)⟩)
              cases eb : zs.all isBl with
              | false => rw [Bool.and_false]
              | true =>
                rw [all_tf eb] at ea
                cases ea
            | true =>
              walk_at "rd"
              have t3 : SqT K H3 a zs := (hz H3 (.of (.of s02))).1
              refine ⟨⟨_, t3⟩, fun D2 nD2 => ?_⟩
              refine lc_tup (K := K) (a := a) (xs := zs) (PvA H3 D2 fun i => (zs.take i).filter fun x => !isBl x) (PvA.start nD2 rfl) (fun i H4 _ p4 => seqT_same p4.1 t3) (fun i x H4 hxi p4 => ?_) (fun H4 p4 => ?_)
              · have hput := filter_put (fun x => !isBl x) hxi
                have hzz : ((zs.take i).filter fun x => !isBl x).length < sizeLine := by
                  refine Nat.lt_of_le_of_lt (List.length_filter_le _ _) (small1000 ?_)
                  rw [List.length_take]
                  omega
                obtain ⟨ty0, ty, kt⟩ := ((hz H4 (.of (.of (s02.trans p4.1)))).2 x (List.mem_of_getElem? hxi)).isi (K := K)
                refine ⟨rfl, ?_⟩
                walk_at "rd"
                refine ⟨_, _, _, _, isBl x, rfl, .ty _, ty, kt, ?_⟩
                cases e : isBl x with
                | true =>
                  rw [e] at hput
                  walk_at "rd"
                  exact PvA.skip (acc := fun i => (zs.take i).filter fun x => !isBl x) p4 (by show _ = _; rw [hput]; simp)
                | false =>
                  rw [e] at hput
                  walk_at "rd"
                  exact PvA.put nD2 p4.1 p4.2 hzz hput
              · have e4 : H4 D2 = some (.lst (zs.filter fun x => !isBl x)) := by
                  have h4 : H4 D2 = some (.lst ((zs.take zs.length).filter fun x => !isBl x)) := p4.2
                  rwa [List.take_length] at h4
                walk_at "rd"
                intro p5 n5
                have s5 := Same.new (o := HO.lst []) n5
                refine ⟨D2, p5, _, rfl, rfl, SqL.of (s5 _ _ e4), SqL.of upd_same, ?_⟩
                rw [filter_none]
                have s05 := s02.trans (p4.1.trans s5)
                generalize hY : upd H4 p5 _ = H5 at s05 ⊢
                walk_at "rd"
                exact k5 H5 D _ (zs.all isBl) (DV.same s05) (tabs_sb TV DV (.of s05)) (sV.trans (.of (.of s05))) (.inl ⟨a, zs, rfl, hl, by rw [decide_eq_true (by omega), Bool.true_and], fun H' sx => hz H' ((SX.of (.of s05)).trans sx)⟩)
        · rw [decide_eq_false c2]
          walk_at "rd"
          exact k5 HV D _ false DV TV sV (.inl ⟨a, zs, rfl, hl, by rw [decide_eq_false (by omega)]; rfl, hz⟩)
      · obtain ⟨t, ty, ki⟩ := hi HV (SX.refl d HV)
        walk_at "rd"
        refine ⟨_, _, _, _, false, rfl, .ty _, ty, ki, ?_⟩
        walk_at "rd"
        exact k5 HV D v false DV TV sV (.inr ⟨rfl, hi⟩)
    refine ⟨_, (pss_cons (ps_setLc (i := 1) (own := [("turn", 7)]) rfl sc__law_right.nd rfl rfl (sw_true rfl rfl rfl (by decide +kernel)) (pi_range1 (by rfl) z_range (pa_cons (pe_call G__law_roll hr__law_roll (by rfl) g__law_roll k__law_roll b__law_roll .nil pass0 (pa_cons (pv 0) (pa_cons pe_int pa_nil))) pa_nil)) (blkOk_by (own := [("turn", 7)]) (N := N__law_right) (sc := defScope s__law_right) (by decide +kernel)) (fun _ _ _ _ _ => (pg_name (i := 7) sc__law_right.nd rfl (.inl rfl))) (fun _ _ _ _ _ => pts_nil) (fun _ _ _ _ _ => (pe_cmpR op_eq (pe_call G__law_roll hr__law_roll (by rfl) g__law_roll k__law_roll b__law_roll .nil pass0 (pa_cons (pv 0) (pa_cons pe_int pa_nil))) pe_int (nomark _))))
  (pss_cons (ps_if (pt_cmpR op_eq (pe_call G__law_roll hr__law_roll (by rfl) g__law_roll k__law_roll b__law_roll .nil pass0 (pa_cons (pv 0) (pa_cons pe_int pa_nil))) pe_int (nomark _)) (pss_one (ps_expr (Rw.k_bm (K := K) (pe_bm PySem.F.plainAttrs_list PySem.F.slot_list_insert PySem.F.type_list_insert mt_insert (pv 1) (pa_cons (pe_call G__law_roll hr__law_roll (by rfl) g__law_roll k__law_roll b__law_roll .nil pass0 (pa_cons (pv 0) (pa_cons (pe_op op_add (pe_callB (Rw.k_len (K := K)) (by rfl) z_len Rw.bt_len (pa_cons (pv 1) pa_nil)) pe_int) pa_nil))) (pa_cons (pe_call G__law_pick hr__law_pick (by rfl) g__law_pick k__law_pick b__law_pick .nil pass0 (pa_cons (pv 0) (pa_cons (pe_lst (pa_cons pe_int (pa_cons pe_int (pa_cons pe_non (pa_cons pe_str (pa_cons (pe_tup pa_nil) (pa_cons (pe_tup (pa_cons pe_bl pa_nil)) (pa_cons (pe_lst pa_nil) (pa_cons pe_dnewK pa_nil))))))))) pa_nil))) pa_nil)))))) pss_nil)
  (pss_cons (ps_set (i := 2) sc__law_right.nd rfl (.inr rfl) (pe_call G__law_pick hr__law_pick (by rfl) g__law_pick k__law_pick b__law_pick .nil pass0 (pa_cons (pv 0) (pa_cons (pe_op op_cat (pe_op op_rep (pe_lst (pa_cons (pe_callTy (Rw.k_tupleof (K := K)) (by rfl) z_tuple Rw.bt_tuple (pa_cons (pv 1) pa_nil)) pa_nil)) pe_int) (pe_lst (pa_cons (pv 1) (pa_cons pe_non (pa_cons pe_int (pa_cons pe_str (pa_cons pe_dnewK (pa_cons pe_bl (pa_cons (pe_op (Rw.k_repT (K := K)) (pe_tup (pa_cons pe_bl pa_nil)) pe_int) (pa_cons (pe_op (Rw.k_repT (K := K)) (pe_tup (pa_cons pe_bl pa_nil)) pe_int) pa_nil)))))))))) pa_nil))))
  h3))), ?_⟩
    walk_at "rd"
    refine ⟨d, 9, rfl, by decide, by decide, hD, fun H1 r sb1 D1 r0 r1 => ?_⟩
    refine ⟨r, rfl, by omega, by omega, fun D nD => ?_⟩
    have dD := D1.ne nD
    refine lc_range (lo := 0) (n := _) (fun i H3 => ∃ bs : List Bool, H3 D = some (.lst (bs.map V.bl)) ∧ bs.length = i ∧ SB d H1 H3 ∧ Dice H3 d)
      ⟨[], upd_same, rfl, SB.new nD, D1.new nD⟩ (fun i H3 hi hp => ?_) (fun H3 hp => ?_)
    · obtain ⟨bs, e1, lb, sb3, D3⟩ := hp
      refine ⟨rfl, ?_⟩
      walk_at "rd"
      refine ⟨d, 2, rfl, by decide, by decide, D3, fun H4 r sb4 D4 r0 r1 => ?_⟩
      walk_at "rd"
      have e4 := sb4 _ _ dD.symm e1
      refine ⟨_, e4, by rw [List.length_map]; exact small1000 (by omega), bs ++ [decide (V.int r = V.int 0)], by rw [upd_same, List.map_append]; rfl, by simp [lb], ?_, ?_⟩
      · intro b o nb hb
        rw [upd_ne (ne_of_none hb nD)]
        exact sb4 _ _ nb (sb3 _ _ nb hb)
      · obtain ⟨x, y, z, g1, g2, g3, e⟩ := D4
        exact ⟨x, y, z, g1, g2, g3, by rw [upd_ne dD]; exact e⟩
    obtain ⟨bs, e3, lb, sb3, D3⟩ := hp
    have lb8 : bs.length ≤ 8 := by omega
    have hn : H D = none := sb_none sb1 dD.symm nD
    have s3 := sb1.trans sb3
    have T3 := tabs_sb hT hD s3
    clear sb1 sb3 lb D1 hD hT
    walk_at "rd"
    refine ⟨d, 2, rfl, by decide, by decide, D3, fun H4 r4 sb4 D4 r40 r41 => ?_⟩
    have e4 := sb4 _ _ dD.symm e3
    have s4 := s3.trans sb4
    have T4 := tabs_sb T3 D3 sb4
    clear s3 sb4 T3 D3 e3
    have hI : ∀ x ∈ bs.map V.bl, ∀ G, KI G x := fun x hx G => by
      obtain ⟨b, _, rfl⟩ := List.mem_map.mp hx
      exact .inl ⟨b, rfl⟩
    have hL : (bs.map V.bl).length ≤ 8 := by
      rw [List.length_map]
      exact lb8
    generalize bs.map V.bl = xs at hI hL e4
    walk_at "rd"
    by_cases c4 : V.int r4 = V.int 0
    · rw [decide_eq_true c4]
      walk_at "rd"
      refine ⟨.inl ⟨rfl, _, SqL.of e4⟩, ?_⟩
      walk_at "rd"
      refine ⟨D, xs, rfl, .inl (SqL.of e4), ?_⟩
      walk_at "rd"
      refine ⟨d, _, rfl, by omega, by omega, D4, fun H5 r5 sb5 D5 r50 r51 => ?_⟩
      have e5 := sb5 _ _ dD.symm e4
      walk_at "rd"
      intro p1 n1
      first | refine newly n1 fun J1 q1 f1 => ?_ | refine newly2 n1 fun J1 q1 f1 => ?_
      walk_at "rd"
      intro p2 n2
      first | refine newly n2 fun J2 q2 f2 => ?_ | refine newly2 n2 fun J2 q2 f2 => ?_
      walk_at "rd"
      intro p3 n3
      first | refine newly n3 fun J3 q3 f3 => ?_ | refine newly2 n3 fun J3 q3 f3 => ?_
      walk_at "rd"
      intro p4 n4
      first | refine newly n4 fun J4 q4 f4 => ?_ | refine newly2 n4 fun J4 q4 f4 => ?_
      walk_at "rd"
      intro p5 n5
      first | refine newly n5 fun J5 q5 f5 => ?_ | refine newly2 n5 fun J5 q5 f5 => ?_
      have G1 := D5.same q1
      have G2 := G1.same q2
      have G3 := G2.same q3
      have G4 := G3.same q4
      have G5 := G4.same q5
      have y1 := q1 _ _ e5
      have y2 := q2 _ _ y1
      have y3 := q3 _ _ y2
      have y4 := q4 _ _ y3
      have y5 := q5 _ _ y4
      walk_at "rd"
      refine ⟨d, p5, _, rfl, by simp, by simp, G5, fun H' sb => .inl (SqL.of (sb _ _ (G4.ne n5).symm f5)), fun H6 v sb6 D6 hv => ?_⟩
      have e6 := sb6 _ _ dD.symm y5
      walk_at "rd"
      refine ⟨D, xs, r5, v, rfl, rfl, e6, small1000 (by omega), r50, by omega, ?_⟩
      have s6 : SB d H H6 := ((s4.trans sb5).trans (((SB.of q1).trans (.of q2)).trans (((SB.of q3).trans (.of q4)).trans (.of q5)))).trans sb6
      have T6 : LamX.Tabs T H6 := tabs_sb (tabs_sb T4 D4 sb5) D5 ((((SB.of q1).trans (.of q2)).trans (((SB.of q3).trans (.of q4)).trans (.of q5))).trans sb6)
      have far : ∀ a o, J5 a = some o → a ≠ d → D ≠ a → (upd H6 D (.lst (xs.take r5.toNat ++ [v] ++ xs.drop r5.toNat))) a = some o := fun a o e n m => by
        rw [upd_ne m.symm]
        exact sb6 _ _ n e
      have sH := SB.put (o := .lst (xs.take r5.toNat ++ [v] ++ xs.drop r5.toNat)) hn s6
      have DH := D6.put (o := .lst (xs.take r5.toNat ++ [v] ++ xs.drop r5.toNat)) dD
      have TH : LamX.Tabs T (upd H6 D (.lst (xs.take r5.toNat ++ [v] ++ xs.drop r5.toNat))) := tabs_lst T6 e6 SB.upd
      have eH : (upd H6 D (.lst (xs.take r5.toNat ++ [v] ++ xs.drop r5.toNat))) D = some (.lst (xs.take r5.toNat ++ [v] ++ xs.drop r5.toNat)) := upd_same
      have iv : ∀ G, SX d (upd H6 D (.lst (xs.take r5.toNat ++ [v] ++ xs.drop r5.toNat))) G → KI G v := fun G sG => by
        simp only [List.mem_cons, List.not_mem_nil, or_false] at hv
        rcases hv with e | e | e | e | e | e | e | e
        · exact .inr (.inl (.inl e))
        · exact .inr (.inl (.inr e))
        · exact .inr (.inr (.inl (.inl e)))
        · exact .inr (.inr (.inl (.inr e)))
        · exact .inr (.inr (.inr ⟨p1, e, .inr (.inl ⟨_, sG _ _ (D5.ne n1).symm (far _ _ (q5 _ _ (q4 _ _ (q3 _ _ (q2 _ _ f1)))) (D5.ne n1).symm (ne_of_none e5 n1)) (fun ps z => by cases z)⟩)⟩))
        · exact .inr (.inr (.inr ⟨p2, e, .inr (.inl ⟨_, sG _ _ (G1.ne n2).symm (far _ _ (q5 _ _ (q4 _ _ (q3 _ _ f2))) (G1.ne n2).symm (ne_of_none y1 n2)) (fun ps z => by cases z)⟩)⟩))
        · exact .inr (.inr (.inr ⟨p3, e, .inl ⟨_, sG _ _ (G2.ne n3).symm (far _ _ (q5 _ _ (q4 _ _ f3)) (G2.ne n3).symm (ne_of_none y2 n3)) (fun ps z => by cases z)⟩⟩))
        · exact .inr (.inr (.inr ⟨p4, e, .inr (.inr ⟨_, sG _ _ (G3.ne n4).symm (far _ _ (q5 _ _ f4) (G3.ne n4).symm (ne_of_none y3 n4)) (fun ps z => by cases z)⟩)⟩))
      have hI2 : ∀ x ∈ xs.take r5.toNat ++ [v] ++ xs.drop r5.toNat, ∀ G, SX d (upd H6 D (.lst (xs.take r5.toNat ++ [v] ++ xs.drop r5.toNat))) G → KI G x := fun x hx G sG => by
        rcases List.mem_append.mp hx with hx | hx
        · rcases List.mem_append.mp hx with hx | hx
          · exact hI x (List.mem_of_mem_take hx) G
          · rw [List.mem_singleton.mp hx]
            exact iv G sG
        · exact hI x (List.mem_of_mem_drop hx) G
      have hL2 : (xs.take r5.toNat ++ [v] ++ xs.drop r5.toNat).length ≤ 9 := by
        rw [List.length_append, List.length_append, List.length_take, List.length_drop, List.length_singleton]
        omega
      generalize xs.take r5.toNat ++ [v] ++ xs.drop r5.toNat = ys at sH DH TH hI2 hL2 eH ⊢
      generalize upd H6 D _ = HH at sH DH TH hI2 eH ⊢
      clear iv far
      walk_at "rd"
      refine ⟨D, ys, rfl, .inl ⟨SqL.of eH, fun pt nt => ?_⟩⟩
      first | refine newly nt fun K1 s1 f1 => ?_ | refine newly2 nt fun K1 s1 f1 => ?_
      walk_at "rd"
      intro pl nl
      first | refine newly nl fun K2 s2 f2 => ?_ | refine newly2 nl fun K2 s2 f2 => ?_
      walk_at "rd"
      refine ⟨pl, 6, [.ref pt], rfl, rfl, f2, by decide, by decide, by show 6 ≤ sizeLine; decide, fun pr nr => ?_⟩
      first | refine newly nr fun K3 s3 f3 => ?_ | refine newly2 nr fun K3 s3 f3 => ?_
      walk_at "rd"
      intro pd nd
      first | refine newly nd fun K4 s4' f4 => ?_ | refine newly2 nd fun K4 s4' f4 => ?_
      walk_at "rd"
      intro pa na
      first | refine newly na fun K5 s5' f5' => ?_ | refine newly2 na fun K5 s5' f5' => ?_
      refine ⟨pa, 201, [.bl true], rfl, rfl, SqT.of f5', by simp, by decide, by decide, by simp, fun pb nb => ?_⟩
      first | refine newly nb fun K6 s6' f6' => ?_ | refine newly2 nb fun K6 s6' f6' => ?_
      walk_at "rd"
      intro pc nc
      first | refine newly nc fun K7 s7' f7' => ?_ | refine newly2 nc fun K7 s7' f7' => ?_
      walk_at "rd"
      refine ⟨pc, 200, [.bl false], rfl, rfl, SqT.of f7', by simp, by decide, by decide, by simp, fun pe ne => ?_⟩
      first | refine newly ne fun K8 s8' f8' => ?_ | refine newly2 ne fun K8 s8' f8' => ?_
      walk_at "rd"
      intro pf nf
      first | refine newly nf fun K9 s9' f9' => ?_ | refine newly2 nf fun K9 s9' f9' => ?_
      walk_at "rd"
      have fr := s9' _ _ (s8' _ _ (s7' _ _ (s6' _ _ (s5' _ _ (s4' _ _ f3)))))
      refine ⟨pr, pf, _, _, rfl, rfl, fr, f9', ?_, fun pg ng => ?_⟩
      · rw [rep_len]
        show 6 + 8 ≤ sizeLine
        decide
      first | refine newly ng fun K10 s10' f10' => ?_ | refine newly2 ng fun K10 s10' f10' => ?_
      have all : Same HH K10 := ((((s1.trans s2).trans (s3.trans s4')).trans ((s5'.trans s6').trans (s7'.trans s8'))).trans (s9'.trans s10'))
      have DK := DH.same all
      have E1 := DH.same s1
      have dt : pt ≠ d := (DH.ne nt).symm
      have dd : pd ≠ d := ((DH.same ((s1.trans s2).trans s3)).ne nd).symm
      have db : pb ≠ d := ((DH.same ((((s1.trans s2).trans s3).trans s4').trans s5')).ne nb).symm
      have de : pe ≠ d := ((DH.same ((((((s1.trans s2).trans s3).trans s4').trans s5').trans s6').trans s7')).ne ne).symm
      have dg : pg ≠ d := ((DH.same ((((s1.trans s2).trans (s3.trans s4')).trans ((s5'.trans s6').trans (s7'.trans s8'))).trans s9')).ne ng).symm
      walk_at "rd"
      refine ⟨d, pg, _, rfl, ?_, ?_, DK, fun H' sb => .inl (SqL.of (sb _ _ dg f10')), fun HV v sbV DV hv => ?_⟩
      · rw [List.length_append]
        simp
      · rw [List.length_append, rep_len]
        simp
      have sV : SB d H HV := (sH.trans (.of all)).trans sbV
      have TV : LamX.Tabs T HV := tabs_sb TH DH ((SB.of all).trans sbV)
      have vs : VS K d HV v := by
        rcases List.mem_append.mp hv with hv | hv
        · rw [rep_mem hv]
          refine .inl ⟨pt, ys, rfl, by omega, fun H' sx => ⟨SqT.of (sx _ _ dt (sbV _ _ dt (s10' _ _ (s9' _ _ (s8' _ _ (s7' _ _ (s6' _ _ (s5' _ _ (s4' _ _ (s3 _ _ (s2 _ _ f1)))))))))) (fun ps z => by cases z)), fun x hx => hI2 x hx H' (((SX.of (.of all)).trans (.of sbV)).trans sx)⟩⟩
        · simp only [List.mem_cons, List.not_mem_nil, or_false] at hv
          rcases hv with e | e | e | e | e | e | e | e
          · rw [e]
            exact .inr fun H' sx => isi_ty (.base (.lst (sx _ _ dD.symm (sbV _ _ dD.symm (all _ _ eH)) (fun ps z => by cases z)))) (by decide +kernel)
          · rw [e]
            exact .inr fun H' sx => isi_ty (.base .non) (by decide +kernel)
          · rw [e]
            exact .inr fun H' sx => isi_ty (.base (.int _)) (by decide +kernel)
          · rw [e]
            exact .inr fun H' sx => isi_ty (.base (.str _)) (by decide +kernel)
          · rw [e]
            exact .inr fun H' sx => isi_ty (.base (.dK (sx _ _ dd (sbV _ _ dd (s10' _ _ (s9' _ _ (s8' _ _ (s7' _ _ (s6' _ _ (s5' _ _ f4))))))) (fun ps z => by cases z)))) (by decide +kernel)
          · rw [e]
            exact .inr fun H' sx => isi_ty (.base (.bl _)) (by decide +kernel)
          · rw [e]
            exact .inl ⟨pb, _, rfl, by rw [rep_len]; decide, fun H' sx => ⟨SqT.of (sx _ _ db (sbV _ _ db (s10' _ _ (s9' _ _ (s8' _ _ (s7' _ _ f6'))))) (fun ps z => by cases z)), rep_bl⟩⟩
          · rw [e]
            exact .inl ⟨pe, _, rfl, by rw [rep_len]; decide, fun H' sx => ⟨SqT.of (sx _ _ de (sbV _ _ de (s10' _ _ (s9' _ _ f8'))) (fun ps z => by cases z)), rep_bl⟩⟩
      exact k3 HV D v DV TV (.of sV) vs
    · rw [decide_eq_false c4]
      have hI2 : ∀ x ∈ xs, ∀ G, SX d H4 G → KI G x := fun x hx G _ => hI x hx G
      have hL2 : xs.length ≤ 9 := by omega
      have sH := s4
      have DH := D4
      have TH := T4
      have eH := e4
      generalize H4 = HH at sH DH TH eH hI2 ⊢
      generalize xs = ys at hI2 hL2 eH ⊢
      walk_at "rd"
      refine ⟨D, ys, rfl, .inl ⟨SqL.of eH, fun pt nt => ?_⟩⟩
      first | refine newly nt fun K1 s1 f1 => ?_ | refine newly2 nt fun K1 s1 f1 => ?_
      walk_at "rd"
      intro pl nl
      first | refine newly nl fun K2 s2 f2 => ?_ | refine newly2 nl fun K2 s2 f2 => ?_
      walk_at "rd"
      refine ⟨pl, 6, [.ref pt], rfl, rfl, f2, by decide, by decide, by show 6 ≤ sizeLine; decide, fun pr nr => ?_⟩
      first | refine newly nr fun K3 s3 f3 => ?_ | refine newly2 nr fun K3 s3 f3 => ?_
      walk_at "rd"
      intro pd nd
      first | refine newly nd fun K4 s4' f4 => ?_ | refine newly2 nd fun K4 s4' f4 => ?_
      walk_at "rd"
      intro pa na
      first | refine newly na fun K5 s5' f5' => ?_ | refine newly2 na fun K5 s5' f5' => ?_
      refine ⟨pa, 201, [.bl true], rfl, rfl, SqT.of f5', by simp, by decide, by decide, by simp, fun pb nb => ?_⟩
      first | refine newly nb fun K6 s6' f6' => ?_ | refine newly2 nb fun K6 s6' f6' => ?_
      walk_at "rd"
      intro pc nc
      first | refine newly nc fun K7 s7' f7' => ?_ | refine newly2 nc fun K7 s7' f7' => ?_
      walk_at "rd"
      refine ⟨pc, 200, [.bl false], rfl, rfl, SqT.of f7', by simp, by decide, by decide, by simp, fun pe ne => ?_⟩
      first | refine newly ne fun K8 s8' f8' => ?_ | refine newly2 ne fun K8 s8' f8' => ?_
      walk_at "rd"
      intro pf nf
      first | refine newly nf fun K9 s9' f9' => ?_ | refine newly2 nf fun K9 s9' f9' => ?_
      walk_at "rd"
      have fr := s9' _ _ (s8' _ _ (s7' _ _ (s6' _ _ (s5' _ _ (s4' _ _ f3)))))
      refine ⟨pr, pf, _, _, rfl, rfl, fr, f9', ?_, fun pg ng => ?_⟩
      · rw [rep_len]
        show 6 + 8 ≤ sizeLine
        decide
      first | refine newly ng fun K10 s10' f10' => ?_ | refine newly2 ng fun K10 s10' f10' => ?_
      have all : Same HH K10 := ((((s1.trans s2).trans (s3.trans s4')).trans ((s5'.trans s6').trans (s7'.trans s8'))).trans (s9'.trans s10'))
      have DK := DH.same all
      have E1 := DH.same s1
      have dt : pt ≠ d := (DH.ne nt).symm
      have dd : pd ≠ d := ((DH.same ((s1.trans s2).trans s3)).ne nd).symm
      have db : pb ≠ d := ((DH.same ((((s1.trans s2).trans s3).trans s4').trans s5')).ne nb).symm
      have de : pe ≠ d := ((DH.same ((((((s1.trans s2).trans s3).trans s4').trans s5').trans s6').trans s7')).ne ne).symm
      have dg : pg ≠ d := ((DH.same ((((s1.trans s2).trans (s3.trans s4')).trans ((s5'.trans s6').trans (s7'.trans s8'))).trans s9')).ne ng).symm
      walk_at "rd"
      refine ⟨d, pg, _, rfl, ?_, ?_, DK, fun H' sb => .inl (SqL.of (sb _ _ dg f10')), fun HV v sbV DV hv => ?_⟩
      · rw [List.length_append]
        simp
      · rw [List.length_append, rep_len]
        simp
      have sV : SB d H HV := (sH.trans (.of all)).trans sbV
      have TV : LamX.Tabs T HV := tabs_sb TH DH ((SB.of all).trans sbV)
      have vs : VS K d HV v := by
        rcases List.mem_append.mp hv with hv | hv
        · rw [rep_mem hv]
          refine .inl ⟨pt, ys, rfl, by omega, fun H' sx => ⟨SqT.of (sx _ _ dt (sbV _ _ dt (s10' _ _ (s9' _ _ (s8' _ _ (s7' _ _ (s6' _ _ (s5' _ _ (s4' _ _ (s3 _ _ (s2 _ _ f1)))))))))) (fun ps z => by cases z)), fun x hx => hI2 x hx H' (((SX.of (.of all)).trans (.of sbV)).trans sx)⟩⟩
        · simp only [List.mem_cons, List.not_mem_nil, or_false] at hv
          rcases hv with e | e | e | e | e | e | e | e
          · rw [e]
            exact .inr fun H' sx => isi_ty (.base (.lst (sx _ _ dD.symm (sbV _ _ dD.symm (all _ _ eH)) (fun ps z => by cases z)))) (by decide +kernel)
          · rw [e]
            exact .inr fun H' sx => isi_ty (.base .non) (by decide +kernel)
          · rw [e]
            exact .inr fun H' sx => isi_ty (.base (.int _)) (by decide +kernel)
          · rw [e]
            exact .inr fun H' sx => isi_ty (.base (.str _)) (by decide +kernel)
          · rw [e]
            exact .inr fun H' sx => isi_ty (.base (.dK (sx _ _ dd (sbV _ _ dd (s10' _ _ (s9' _ _ (s8' _ _ (s7' _ _ (s6' _ _ (s5' _ _ f4))))))) (fun ps z => by cases z)))) (by decide +kernel)
          · rw [e]
            exact .inr fun H' sx => isi_ty (.base (.bl _)) (by decide +kernel)
          · rw [e]
            exact .inl ⟨pb, _, rfl, by rw [rep_len]; decide, fun H' sx => ⟨SqT.of (sx _ _ db (sbV _ _ db (s10' _ _ (s9' _ _ (s8' _ _ (s7' _ _ f6'))))) (fun ps z => by cases z)), rep_bl⟩⟩
          · rw [e]
            exact .inl ⟨pe, _, rfl, by rw [rep_len]; decide, fun H' sx => ⟨SqT.of (sx _ _ de (sbV _ _ de (s10' _ _ (s9' _ _ f8'))) (fun ps z => by cases z)), rep_bl⟩⟩
      exact k3 HV D v DV TV (.of sV) vs
end




abbrev s_law : Stmt := topS 16
abbrev N_law : List Str := ["script", "spot", "dice", "turn", "told"]
theorem sc_law : FnScope N_law ["script"] (defScope s_law) := ⟨rfl, rfl, rfl, by decide +kernel, rfl, by decide +kernel, by decide +kernel⟩

theorem seqL_ext {K : PySem.W.Frag} {H H' : Hp} {a : Addr} {xs : List V} (e : LamX.ExtN H H') (h : SqL K H a xs) : SqL K H' a xs := by
  rcases h with (h | ⟨o, h⟩) | h
  · exact .inl (.inl (e _ _ h (fun ps q => by cases q)))
  · exact .inl (.inr ⟨o, e _ _ h (fun ps q => by cases q)⟩)
  · exact .inr h
def qLaw : Str := (envOfC "law" (defScope s_law) 0 0 .none).qual ++ "<lambda>"
theorem FunC.okN {P : Program} {w : World} {K : PySem.W.Frag} {mg : Str → Option Value} {base : Heap} {x qual : Str} {st : Stmt} {f c : Addr} {fd : FuncData} {N ps : List Str} {k : Nat} {sp : Sp} (F : FunC K x qual st f fd c) (S : FnScope N ps (defScope st)) (len : ∀ vs H Q E, sp vs H Q E → vs.length = ps.length)
    (hbody : ∀ (A : Around) (outer : List Env) (s : Shared) (H : Hp) (vs : List V) (Q : VK) (E : XK), Room k (A.deeper (envOfC qual (defScope st) s.heap.objs.size f (.ref c))) → sp vs H Q E →
      ∃ t, PSs (cxOf CX0 P w K mg base N qual (defScope st) f (.ref c) A outer s H E).nox (defBody st) t ∧ t { nx := fun _ H' => Q .non H', rt := Q } (L2.start N vs) H) : FnOk P w K mg base CX0 (k + 1) f fd ps sp :=
  F.ok S len fun A outer s H vs Q E hr hsp => by
    obtain ⟨t, h, q⟩ := hbody A outer s H vs Q E hr hsp
    exact ⟨t, h.nox, q⟩
def spLaw (K : PySem.W.Frag) (T : List (Addr × Str)) : Sp := fun vs H Q _ => ∃ (a : Addr) (ns : List Int), vs = [.ref a] ∧ SqL K H a (ns.map V.int) ∧ ns.length ≤ 63 ∧ LamX.Tabs T H ∧ ∀ H', Q (.bl true) H'
section
variable {P : Program} {w : World} {K : PySem.W.Frag} {mg : Str → Option Value} {base : Heap}
theorem ok_law {T : List (Addr × Str)} {f c PR fR : Addr} {fd fdR : FuncData} {gw CW CP : Addr} {pgs : Arguments} {kV doc pm cdv ct oc : Value} {an od : Option Addr} {osl : Array (Option Value)} (F : FunC K "law" "law" s_law f fd c) (W : WordF K mg gw pgs kV doc pm cdv ct oc an od osl)
    (RD : Ok P w K mg base 1 "_law_dice" ["script", "spot"] (spDice K)) (g__law_right : mg "_law_right" = some (.ref fR)) (k__law_right : PySem.W.keepIn K (.ref fR) = true) (b__law_right : L2.Binds K fdR ["dice"] []) (G__law_right : FnOk P w K mg base CX0 6 fR fdR ["dice"] (spRight6 T))
    (RW : OkX P w K mg base 2 "write_world" ["world"] (spWriteX K CW)) (RR : OkX P w K mg base 3 "read_world" ["text"] (spReadX K CP))
    (gW : mg "InvalidWorld" = some (.ref CW)) (gP : mg "ParseError" = some (.ref CP)) (xP : XfC K CP) (hno : PySem.W.findIn K (.ref CP) "line" = some none) (eWW : PySem.W.exmOne K (.ref CW) (.ref CW) = some true) (ePW : PySem.W.exmOne K (.ref CP) (.ref CW) = some false) (ePP : PySem.W.exmOne K (.ref CP) (.ref CP) = some true)
    (TB : LamX.TabB base mg c PR) (hmT : (PR, qLaw) ∈ T) (hu : ∀ p ∈ T, p.1 = PR → p.2 = qLaw)
    (z_len : mg "len" = none) (z_range : mg "range" = none) (z_min : mg "min" = none) (z_max : mg "max" = none) (z_repr : mg "repr" = none) : FnOk P w K mg base CX0 7 f fd ["script"] (spLaw K T) := by
  obtain ⟨fD, fdD, g__law_dice, k__law_dice, b__law_dice, G__law_dice⟩ := RD
  obtain ⟨fW, fdW, g_write_world, k_write_world, b_write_world, G_write_world⟩ := RW
  obtain ⟨fX, fdX, g_read_world, k_read_world, b_read_world, G_read_world⟩ := RR
  obtain ⟨g__law_word, k__law_word, l__law_word, c__law_word, b__law_word⟩ := W
  refine F.okN sc_law (fun vs H Q E h => ?_) (fun A outer s H vs Q E hr h => ?_)
  · obtain ⟨a, ns, rfl, _⟩ := h
    rfl
  · obtain ⟨a, ns, rfl, hS, hl, hT, q⟩ := h
    have hr__law_right := hr
    have hr__law_dice : Room 1 _ := hr.mono (by decide)
    have hr_lam : Room 5 _ := hr.mono (by decide)
    refine ⟨_, (pss_cons (ps_for PassesOwn.never rfl (pi_range1 (by rfl) z_range (pa_cons (pe_callB (call_max2 rfl) (by rfl) z_max Rw.bt_max (pa_cons pe_int (pa_cons (pe_callB (call_min2 rfl) (by rfl) z_min Rw.bt_min (pa_cons pe_int (pa_cons (pe_callB (Rw.k_len (K := K)) (by rfl) z_len Rw.bt_len (pa_cons (pv 0) pa_nil)) pa_nil))) pa_nil))) pa_nil)) (pg_name (i := 1) sc_law.nd rfl (.inl rfl))
   (pss_cons (ps_set (i := 2) sc_law.nd rfl (.inl rfl) (pe_call G__law_dice hr__law_dice (by rfl) g__law_dice k__law_dice b__law_dice .nil pass0 (pa_cons (pv 0) (pa_cons (pv 1) pa_nil))))
  (pss_one (ps_for PassesOwn.never rfl (pi_range1 (by rfl) z_range (pa_cons pe_int pa_nil)) (pg_name (i := 3) sc_law.nd rfl (.inl rfl))
   (pss_one (ps_if (pt_not (pt_val (pe_call G__law_right hr__law_right (by rfl) g__law_right k__law_right b__law_right .nil pass0 (pa_cons (pv 2) pa_nil)))) (pss_one (ps_ret pe_bl)) pss_nil))))))
  (pss_cons (ps_set (i := 4) sc_law.nd rfl (.inl rfl) (pe_lst (pa_cons (LamX.pe_lamcall (k := 3) rfl g__law_word k__law_word l__law_word c__law_word b__law_word sc__law_word rfl (.inl rfl) (word_gives gW gP xP hno z_repr) TB rfl hmT hu hr_lam (LamX.lamS_by (by rfl)) rfl (fun _ _ _ _ _ => rfl) (fun A outer s H E f' c' hr' => (pe_call G_write_world (hr'.mono (by decide)) rfl g_write_world k_write_world b_write_world .nil (passes_call (L2.takes_of rfl rfl rfl rfl) fun _ _ _ _ h => h) (pa_cons (pe_lst (pa_cons pe_bl pa_nil)) pa_nil)))) pa_nil)))
  (pss_cons (ps_expr (Rw.k_bm (K := K) (pe_bm PySem.F.plainAttrs_list PySem.F.slot_list_append PySem.F.type_list_append mt_append (pv 4) (pa_cons (LamX.pe_lamcall (k := 3) rfl g__law_word k__law_word l__law_word c__law_word b__law_word sc__law_word rfl (.inl rfl) (word_gives gW gP xP hno z_repr) TB rfl hmT hu hr_lam (LamX.lamS_by (by rfl)) rfl (fun _ _ _ _ _ => rfl) (fun A outer s H E f' c' hr' => (pe_call G_read_world (hr'.mono (by decide)) rfl g_read_world k_read_world b_read_world .nil (passes_call (L2.takes_of rfl rfl rfl rfl) fun _ _ _ _ h => h) (pa_cons pe_str pa_nil)))) pa_nil))))
  (pss_cons (ps_expr (Rw.k_bm (K := K) (pe_bm PySem.F.plainAttrs_list PySem.F.slot_list_append PySem.F.type_list_append mt_append (pv 4) (pa_cons (LamX.pe_lamcall (k := 3) rfl g__law_word k__law_word l__law_word c__law_word b__law_word sc__law_word rfl (.inl rfl) (word_gives gW gP xP hno z_repr) TB rfl hmT hu hr_lam (LamX.lamS_by (by rfl)) rfl (fun _ _ _ _ _ => rfl) (fun A outer s H E f' c' hr' => (pe_call G_write_world (hr'.mono (by decide)) rfl g_write_world k_write_world b_write_world .nil (passes_call (L2.takes_of rfl rfl rfl rfl) fun _ _ _ _ h => h) (pa_cons (pe_tup (pa_cons pe_int pa_nil)) pa_nil)))) pa_nil))))
  (pss_one (ps_ret (pe_cmpR (Rw.k_eqD (K := K) hr.units) (pv 4) (pe_lst (pa_cons pe_str (pa_cons pe_str (pa_cons pe_str pa_nil)))) (nomark _)))))))), ?_⟩
    walk_at "rd"
    refine ⟨a, _, rfl, .inl hS, ?_⟩
    refine ⟨_, _, rfl, ?_⟩
    refine ⟨_, _, rfl, ?_⟩
    generalize hm : (if (if ((ns.map V.int).length : Int) < 8 then ((ns.map V.int).length : Int) else 8) > 1 then (if ((ns.map V.int).length : Int) < 8 then ((ns.map V.int).length : Int) else 8) else 1) = m
    have hm2 : m ≤ 8 := by
      rw [← hm]
      split <;> split <;> omega
    have hm1 : 1 ≤ m := by
      rw [← hm]
      split <;> split <;> omega
    refine ⟨_, rfl, by omega, by omega, ?_⟩
    refine for_range (lo := 0) (n := _) (fun i σ H1 => ∃ y1 y2 y3, σ = [some (.ref a), y1, y2, y3, none] ∧ LamX.ExtN H H1 ∧ LamX.Tabs T H1) ⟨none, none, none, rfl, LamX.ExtN.refl H, hT⟩ ?_ ?_
    · rintro i σ H1 hi ⟨y1, y2, y3, rfl, sm, T1⟩
      walk_at "rd"
      refine ⟨a, ns, i, by rw [Int.zero_add]; rfl, seqL_ext sm hS, hl, fun H2 d s2 nd D2 => ?_⟩
      have nd0 : ∀ o, H d = some o → ∃ ps, o = .tbl ps := fun o e => by
        by_cases c : ∃ ps, o = .tbl ps
        · exact c
        · have e1 := sm _ _ e (fun ps q => c ⟨ps, q⟩)
          rw [nd] at e1
          cases e1
      walk_at "rd"
      refine for_range (lo := 0) (n := _) (fun j σ H3 => ∃ y3, σ = [some (.ref a), some (.int (0 + i)), some (.ref d), y3, none] ∧ SX d H2 H3 ∧ Dice H3 d ∧ LamX.Tabs T H3) ⟨y3, rfl, SX.refl _ _, D2, T1.ext s2⟩ ?_ ?_
      · rintro j σ H3 hj ⟨y3, rfl, sx, D3, T3⟩
        walk_at "rd"
        intro H4 D4 T4 s4
        walk_at "rd"
        have s5 : SX d H2 H4 := sx.trans s4
        first | exact ⟨_, rfl, s5, D4, T4⟩ | exact ⟨s5, D4, T4⟩ | exact ⟨D4, T4⟩
      · rintro σ H3 ⟨y3, rfl, sx, D3, T3⟩
        refine ⟨_, _, _, rfl, fun b o hb ht => ?_, T3⟩
        refine sx b o (fun q => ?_) (s2 b o (sm b o hb ht)) ht
        rw [q] at hb
        obtain ⟨ps, e⟩ := nd0 _ hb
        exact ht ps e
    rintro σ H1 ⟨y1, y2, y3, rfl, sm, T1⟩
    walk_at "rd"
    intro H2 e2 T2
    walk_at "rd"
    intro p np
    first | refine newly np fun H3 s3 f3 => ?_ | refine newly2 np fun H3 s3 f3 => ?_
    refine ⟨_, rfl, .inr ⟨.inr (isi_ty (.base (.lst f3)) (by decide +kernel)), fun H4 s4 => ?_⟩⟩
    refine ⟨true, eWW, fun _ => ?_, fun q => nomatch q⟩
    walk_at "rd"
    intro pl nl
    first | refine newly nl fun H5 s5 f5 => ?_ | refine newly2 nl fun H5 s5 f5 => ?_
    walk_at "rd"
    refine ⟨.inl ⟨rfl, _, SqL.of f5⟩, ?_⟩
    refine ⟨((T2.ext s3).ext s4).ext s5, fun H6 e6 T6 => ?_⟩
    have f6 := e6 _ _ f5 (fun ps q => by cases q)
    walk_at "rd1"
    refine .inr ⟨.inl ⟨_, rfl, by decide, by decide +kernel⟩, fun H7 dd s7 nd hd => ?_⟩
    refine ⟨false, ePW, fun q => (nomatch q), fun _ => ⟨true, ePP, fun _ => ⟨rfl, dd, rfl, hd, ?_⟩, fun q => nomatch q⟩⟩
    walk_at "rd"
    refine ⟨pl, _, _, rfl, rfl, s7 _ _ f6, by decide, ?_⟩
    walk_at "rd"
    have T7 := T6.ext s7
    have f7 := s7 _ _ f6
    have T8 : LamX.Tabs T (upd H7 pl (HO.lst ([V.str (Str.ofString "world")] ++ [V.str (Str.ofString "parse None")]))) := tabs_lst T7 f7 SB.upd
    have f8 : (upd H7 pl (HO.lst ([V.str (Str.ofString "world")] ++ [V.str (Str.ofString "parse None")]))) pl = some (HO.lst ([V.str (Str.ofString "world")] ++ [V.str (Str.ofString "parse None")])) := upd_same
    generalize upd H7 pl _ = H8 at T8 f8 ⊢
    refine ⟨.inl ⟨rfl, _, SqL.of f8⟩, ?_⟩
    refine ⟨T8, fun H9 e9 T9 => ?_⟩
    have f9 := e9 _ _ f8 (fun ps q => by cases q)
    walk_at "rd"
    intro p2 n2
    first | refine newly n2 fun H10 s10 f10 => ?_ | refine newly2 n2 fun H10 s10 f10 => ?_
    refine ⟨_, rfl, .inr ⟨.inl ⟨p2, [.int 1], [false], rfl, SqT.of f10, by decide, .cons (isi_ty (.base (.int _)) (show kitB "int" "bool" = some false by decide +kernel)) .nil, by decide⟩, fun H11 s11 => ?_⟩⟩
    refine ⟨true, eWW, fun _ => ?_, fun q => nomatch q⟩
    walk_at "rd"
    refine ⟨pl, _, _, rfl, rfl, s11 _ _ (s10 _ _ f9), by decide, ?_⟩
    walk_at "rd"
    intro p3 n3
    have n3' := n3
    have ne3 : pl ≠ p3 := ne_of_none upd_same n3
    first | refine newly n3 fun H12 s12 f12 => ?_ | refine newly2 n3 fun H12 s12 f12 => ?_
    have g1 := s12 _ _ (upd_same (a := pl) (H := H11))
    have sh : SeqAt.shaped (.list [PyData.str (Str.ofString "world"), PyData.str (Str.ofString "parse None"), PyData.str (Str.ofString "world")]) = true := by decide +kernel
    refine ⟨_, _, .lst (SqL.of g1) (.cons (.str _) (.cons (.str _) (.cons (.str _) .nil))), .lst (SqL.of f12) (.cons (.str _) (.cons (.str _) (.cons (.str _) .nil))), sh, sh, ?_⟩
    rw [eqv_refl_shaped sh]
    exact q _
end


def clsBody (s : Stmt) : List Stmt := match s with
  | .ClassDef _ _ _ b _ _ _ _ _ _ _ => b
  | _ => []
def s_init : Stmt := (clsBody (topS 3)).getD 0 (.Pass ⟨0, 0, 0, 0⟩)

theorem all_mk {l : PySem.W.OpenLaw} {w : World} {K : PySem.W.Frag} {h : Heap} {mg : Str → Option Value} {fa : Addr} (X : K.In h) (G : h.Ns mainGlobals mg) (hfa : mg "law" = some (.ref fa))
    (hfile : ((l.prog.main.file : Str) == ("/claim/cut.py" : Str)) = true) (htop : (l.prog.main.scope.names.lookup ("super" : Str)).isSome = false)
    (TT : ∀ (x : Str) (c P : Addr), x = "_law_right" ∨ x = "law" → PySem.W.tabIn K x = some (c, P) → PySem.W.CodeHd h c P ∧ h.get? P = some { cls := .none, data := .fields #[] })
    {f1 f2 f3 f4 f5 f6 f7 f8 f9 f10 : Addr} {od1 an1 od2 an2 od3 an3 od4 an4 od5 an5 od6 an6 od7 an7 od8 an8 od9 an9 od10 an10 : Option Addr} {sl1 sl2 sl3 sl4 sl5 sl6 sl7 sl8 sl9 sl10 : Array (Option Value)} {oc1 kV1 dc1 pm1 cd1 ct1 oc2 kV2 dc2 pm2 cd2 ct2 oc3 kV3 dc3 pm3 cd3 ct3 oc4 kV4 dc4 pm4 cd4 ct4 oc5 kV5 dc5 pm5 cd5 ct5 oc6 kV6 dc6 pm6 cd6 ct6 oc7 kV7 dc7 pm7 cd7 ct7 oc8 kV8 dc8 pm8 cd8 ct8 oc9 kV9 dc9 pm9 ct9 oc10 kV10 dc10 pm10 ct10 : Value}
    (a1 : PySem.W.nsIn K mainGlobals "is_world" = some (some (.ref f1)))
    (l1 : K.lookup f1 = some ⟨oc1, od1, .func (PySem.W.fnOf "is_world" "is_world" (defArgs s_is_world) (defBody s_is_world) (defScope s_is_world) .none kV1 dc1 pm1 an1 cd1 ct1), sl1⟩)
    (c1 : PySem.W.codeIn K cd1 "is_world" = true)
    (k1 : PySem.W.keepIn K (.ref f1) = true)
    (a2 : PySem.W.nsIn K mainGlobals "write_world" = some (some (.ref f2)))
    (l2 : K.lookup f2 = some ⟨oc2, od2, .func (PySem.W.fnOf "write_world" "write_world" (defArgs s_write_world) (defBody s_write_world) (defScope s_write_world) .none kV2 dc2 pm2 an2 cd2 ct2), sl2⟩)
    (c2 : PySem.W.codeIn K cd2 "write_world" = true)
    (k2 : PySem.W.keepIn K (.ref f2) = true)
    (a3 : PySem.W.nsIn K mainGlobals "read_world" = some (some (.ref f3)))
    (l3 : K.lookup f3 = some ⟨oc3, od3, .func (PySem.W.fnOf "read_world" "read_world" (defArgs s_read_world) (defBody s_read_world) (defScope s_read_world) .none kV3 dc3 pm3 an3 cd3 ct3), sl3⟩)
    (c3 : PySem.W.codeIn K cd3 "read_world" = true)
    (k3 : PySem.W.keepIn K (.ref f3) = true)
    (a4 : PySem.W.nsIn K mainGlobals "_is_world_text" = some (some (.ref f4)))
    (l4 : K.lookup f4 = some ⟨oc4, od4, .func (PySem.W.fnOf "_is_world_text" "_is_world_text" (defArgs s__is_world_text) (defBody s__is_world_text) (defScope s__is_world_text) .none kV4 dc4 pm4 an4 cd4 ct4), sl4⟩)
    (c4 : PySem.W.codeIn K cd4 "_is_world_text" = true)
    (k4 : PySem.W.keepIn K (.ref f4) = true)
    (a5 : PySem.W.nsIn K mainGlobals "_law_dice" = some (some (.ref f5)))
    (l5 : K.lookup f5 = some ⟨oc5, od5, .func (PySem.W.fnOf "_law_dice" "_law_dice" (defArgs s__law_dice) (defBody s__law_dice) (defScope s__law_dice) .none kV5 dc5 pm5 an5 cd5 ct5), sl5⟩)
    (c5 : PySem.W.codeIn K cd5 "_law_dice" = true)
    (k5 : PySem.W.keepIn K (.ref f5) = true)
    (a6 : PySem.W.nsIn K mainGlobals "_law_roll" = some (some (.ref f6)))
    (l6 : K.lookup f6 = some ⟨oc6, od6, .func (PySem.W.fnOf "_law_roll" "_law_roll" (defArgs s__law_roll) (defBody s__law_roll) (defScope s__law_roll) .none kV6 dc6 pm6 an6 cd6 ct6), sl6⟩)
    (c6 : PySem.W.codeIn K cd6 "_law_roll" = true)
    (k6 : PySem.W.keepIn K (.ref f6) = true)
    (a7 : PySem.W.nsIn K mainGlobals "_law_pick" = some (some (.ref f7)))
    (l7 : K.lookup f7 = some ⟨oc7, od7, .func (PySem.W.fnOf "_law_pick" "_law_pick" (defArgs s__law_pick) (defBody s__law_pick) (defScope s__law_pick) .none kV7 dc7 pm7 an7 cd7 ct7), sl7⟩)
    (c7 : PySem.W.codeIn K cd7 "_law_pick" = true)
    (k7 : PySem.W.keepIn K (.ref f7) = true)
    (a8 : PySem.W.nsIn K mainGlobals "_law_word" = some (some (.ref f8)))
    (l8 : K.lookup f8 = some ⟨oc8, od8, .func (PySem.W.fnOf "_law_word" "_law_word" (defArgs s__law_word) (defBody s__law_word) (defScope s__law_word) .none kV8 dc8 pm8 an8 cd8 ct8), sl8⟩)
    (c8 : PySem.W.codeIn K cd8 "_law_word" = true)
    (k8 : PySem.W.keepIn K (.ref f8) = true)
    {q9 p9 : Addr}
    (a9 : PySem.W.nsIn K mainGlobals "_law_right" = some (some (.ref f9)))
    (l9 : K.lookup f9 = some ⟨oc9, od9, .func (PySem.W.fnOf "_law_right" "_law_right" (defArgs s__law_right) (defBody s__law_right) (defScope s__law_right) .none kV9 dc9 pm9 an9 (.ref q9) ct9), sl9⟩)
    (c9 : PySem.W.codeIn K (.ref q9) "_law_right" = true)
    (k9 : PySem.W.keepIn K (.ref f9) = true)
    {q10 p10 : Addr}
    (a10 : PySem.W.nsIn K mainGlobals "law" = some (some (.ref f10)))
    (l10 : K.lookup f10 = some ⟨oc10, od10, .func (PySem.W.fnOf "law" "law" (defArgs s_law) (defBody s_law) (defScope s_law) .none kV10 dc10 pm10 an10 (.ref q10) ct10), sl10⟩)
    (c10 : PySem.W.codeIn K (.ref q10) "law" = true)
    (k10 : PySem.W.keepIn K (.ref f10) = true)
    (y_len : PySem.W.nsIn K mainGlobals "len" = some none)
    (y_int : PySem.W.nsIn K mainGlobals "int" = some none)
    (y_abs : PySem.W.nsIn K mainGlobals "abs" = some none)
    (y_max : PySem.W.nsIn K mainGlobals "max" = some none)
    (y_min : PySem.W.nsIn K mainGlobals "min" = some none)
    (y_range : PySem.W.nsIn K mainGlobals "range" = some none)
    (y_isinstance : PySem.W.nsIn K mainGlobals "isinstance" = some none)
    (y_str : PySem.W.nsIn K mainGlobals "str" = some none)
    (y_bool : PySem.W.nsIn K mainGlobals "bool" = some none)
    (y_tuple : PySem.W.nsIn K mainGlobals "tuple" = some none)
    (y_all : PySem.W.nsIn K mainGlobals "all" = some none)
    (y_repr : PySem.W.nsIn K mainGlobals "repr" = some none)
    (y_super : PySem.W.nsIn K mainGlobals "super" = some none)
    {t_MW : Tok}
    (y_MW : PySem.W.nsIn K mainGlobals "MAX_WORLD" = some (some (.int 200 t_MW)))
    {CW CP fI cdI ccI : Addr}
    (aW : PySem.W.nsIn K mainGlobals "InvalidWorld" = some (some (.ref CW)))
    (aP : PySem.W.nsIn K mainGlobals "ParseError" = some (some (.ref CP)))
    (xW : PySem.W.excIn K CW bmVE "ValueError.__new__" = true)
    (kW : PySem.W.keepIn K (.ref CW) = true)
    (bW : PySem.W.subIn K (.ref CW) (.type "BaseException") = some true)
    (tW : PySem.W.typeIn K (.ref CW) = some (.type "type"))
    {nm q : Str} {N : Addr} {bs bm : List Value} {sn : List Str} {sub : List Value} {ab : Bool} {col : Option Bool} {dd : Option Addr} {m0 m1 m2 m3 m5 : Option Value}
    (xL : K.lookup CP = some (excClassObj nm q CP N bs bm true sn sub ab col dd m0 m1 m2 m3 m5 "ValueError.__new__"))
    (rv : PySem.HandSPX.refsVE bm = true)
    (saP : PySem.W.findIn K (.ref CP) "__setattr__" = some (some (.builtin "object.__setattr__")))
    (bP : PySem.W.subIn K (.ref CP) (.type "BaseException") = some true)
    (tP : PySem.W.typeIn K (.ref CP) = some (.type "type"))
    (kP : PySem.W.keepIn K (.ref CP) = true)
    (iP : PySem.W.findIn K (.ref CP) "__init__" = some (some (.ref fI)))
    (tI : PySem.W.typeIn K (.ref fI) = some (.type "function"))
    {ocI kVI dcI pmI ctI ccl cl : Value} {odI anI cdd cld : Option Addr} {slI ccs csl : Array (Option Value)} {cvs : Array Value} {tf : Tok}
    (lI : K.lookup fI = some ⟨ocI, odI, .func (PySem.W.ksFn "__init__" "ParseError.__init__" (defArgs s_init) (defBody s_init) (defScope s_init) .none kVI dcI pmI anI (.ref cdI) ctI ccI), slI⟩)
    (cI : PySem.W.codeIn K (.ref cdI) "ParseError.__init__" = true)
    (hco : K.lookup cdI = some ⟨ccl, cdd, .fields cvs, ccs⟩)
    (hvs : cvs[2]? = some (.str "/claim/cut.py" tf))
    (hce : K.lookup ccI = some ⟨cl, cld, .cell (some (.ref CP)), csl⟩)
    (hm : PySem.W.ks_superIn K CP CP "__init__" = some (some (.builtin "ValueError.__init__")))
    (hB : PySem.W.subIn K (.ref CP) (.type "ValueError") = some true)
    (hsu : PySem.W.mroIn K CP (.ref CP) = some true)
    (hst : PySem.W.nsIn K cStatics "thirdparty.any" = some none)
    (hno : PySem.W.findIn K (.ref CP) "line" = some none)
    (xf : xfB K CP = true)
    (eWW : PySem.W.exmOne K (.ref CW) (.ref CW) = some true)
    (ePW : PySem.W.exmOne K (.ref CP) (.ref CW) = some false)
    (ePP : PySem.W.exmOne K (.ref CP) (.ref CP) = some true)
    {kl9 : Value} {kd9 : Option Addr} {ks9 : Array (Option Value)} {kv9 : Array Value}
    (w9 : K.lookup q9 = some ⟨kl9, kd9, .fields kv9, ks9⟩)
    (h9 : kv9[11]? = some (.ref p9))
    {kl10 : Value} {kd10 : Option Addr} {ks10 : Array (Option Value)} {kv10 : Array Value}
    (w10 : K.lookup q10 = some ⟨kl10, kd10, .fields kv10, ks10⟩)
    (h10 : kv10[11]? = some (.ref p10))
    (v9 : K.lookup p9 = none)
    (v10 : K.lookup p10 = none)
    (np : (p9 == p10) = false)
    : LamX.LawAtS l w K CX0 7 63 "script" mg fa h := by
  have e := hfa.symm.trans (PySem.W.mg_of X G a10)
  cases e
  have u9 : PySem.W.tabIn K "_law_right" = some (q9, p9) := tab_is a9 l9 rfl w9 h9
  have u10 : PySem.W.tabIn K "law" = some (q10, p10) := tab_is a10 l10 rfl w10 h10
  have H1 : Has K mg "is_world" s_is_world ["value"] := ⟨f1, _, PySem.W.mg_of X G a1, fun_mk (st := s_is_world) l1 c1 k1, (fun_mk (st := s_is_world) l1 c1 k1).binds (ps := ["value"]) fun _ _ _ _ _ _ us hl => match us, hl with | [_], _ => rfl⟩
  have H2 : Has K mg "write_world" s_write_world ["world"] := ⟨f2, _, PySem.W.mg_of X G a2, fun_mk (st := s_write_world) l2 c2 k2, (fun_mk (st := s_write_world) l2 c2 k2).binds (ps := ["world"]) fun _ _ _ _ _ _ us hl => match us, hl with | [_], _ => rfl⟩
  have H3 : Has K mg "read_world" s_read_world ["text"] := ⟨f3, _, PySem.W.mg_of X G a3, fun_mk (st := s_read_world) l3 c3 k3, (fun_mk (st := s_read_world) l3 c3 k3).binds (ps := ["text"]) fun _ _ _ _ _ _ us hl => match us, hl with | [_], _ => rfl⟩
  have H4 : Has K mg "_is_world_text" s__is_world_text ["value"] := ⟨f4, _, PySem.W.mg_of X G a4, fun_mk (st := s__is_world_text) l4 c4 k4, (fun_mk (st := s__is_world_text) l4 c4 k4).binds (ps := ["value"]) fun _ _ _ _ _ _ us hl => match us, hl with | [_], _ => rfl⟩
  have H5 : Has K mg "_law_dice" s__law_dice ["script", "spot"] := ⟨f5, _, PySem.W.mg_of X G a5, fun_mk (st := s__law_dice) l5 c5 k5, (fun_mk (st := s__law_dice) l5 c5 k5).binds (ps := ["script", "spot"]) fun _ _ _ _ _ _ us hl => match us, hl with | [_, _], _ => rfl⟩
  have H6 : Has K mg "_law_roll" s__law_roll ["dice", "total"] := ⟨f6, _, PySem.W.mg_of X G a6, fun_mk (st := s__law_roll) l6 c6 k6, (fun_mk (st := s__law_roll) l6 c6 k6).binds (ps := ["dice", "total"]) fun _ _ _ _ _ _ us hl => match us, hl with | [_, _], _ => rfl⟩
  have H7 : Has K mg "_law_pick" s__law_pick ["dice", "items"] := ⟨f7, _, PySem.W.mg_of X G a7, fun_mk (st := s__law_pick) l7 c7 k7, (fun_mk (st := s__law_pick) l7 c7 k7).binds (ps := ["dice", "items"]) fun _ _ _ _ _ _ us hl => match us, hl with | [_, _], _ => rfl⟩
  have z_len := PySem.W.mg_none_of X G y_len
  have z_int := PySem.W.mg_none_of X G y_int
  have z_abs := PySem.W.mg_none_of X G y_abs
  have z_max := PySem.W.mg_none_of X G y_max
  have z_min := PySem.W.mg_none_of X G y_min
  have z_range := PySem.W.mg_none_of X G y_range
  have z_isinstance := PySem.W.mg_none_of X G y_isinstance
  have z_str := PySem.W.mg_none_of X G y_str
  have z_bool := PySem.W.mg_none_of X G y_bool
  have z_tuple := PySem.W.mg_none_of X G y_tuple
  have z_all := PySem.W.mg_none_of X G y_all
  have z_repr := PySem.W.mg_none_of X G y_repr
  have z_super := PySem.W.mg_none_of X G y_super
  have g_MAX_WORLD := PySem.W.mg_of X G y_MW
  have gW := PySem.W.mg_of X G aW
  have gP := PySem.W.mg_of X G aP
  obtain ⟨t9, e9⟩ := TT _ _ _ (.inl rfl) u9
  obtain ⟨t10, e10⟩ := TT _ _ _ (.inr rfl) u10
  have F9 : FunC K "_law_right" "_law_right" s__law_right f9 _ q9 := ⟨k9, oc9, od9, kV9, dc9, pm9, an9, ct9, sl9, rfl, l9, c9⟩
  have F10 : FunC K "law" "law" s_law fa _ q10 := ⟨k10, oc10, od10, kV10, dc10, pm10, an10, ct10, sl10, rfl, l10, c10⟩
  have F9' := fun_mk (st := s__law_right) l9 c9 k9
  have F8' := fun_mk (st := s__law_word) l8 c8 k8
  have b9 := F9'.binds (ps := ["dice"]) fun _ _ _ _ _ _ us hl => match us, hl with | [_], _ => rfl
  have b8 := F8'.binds (ps := ["call"]) fun _ _ _ _ _ _ us hl => match us, hl with | [_], _ => rfl
  have W : WordF K mg f8 _ _ _ _ _ _ _ _ _ _ := ⟨PySem.W.mg_of X G a8, k8, l8, c8, b8⟩
  have OW : OwnE K mg "InvalidWorld" CW := ⟨xW, gW, kW, bW, tW⟩
  have oP : OexC K CP := ⟨⟨nm, q, N, bs, bm, sn, sub, ab, col, dd, m0, m1, m2, m3, m5, xL, rv⟩, saP, bP, tP, kP⟩
  have xP : XfC K CP := xfB_ok xf
  refine ⟨PySem.W.fnOf "law" "law" (defArgs s_law) (defBody s_law) (defScope s_law) .none kV10 dc10 pm10 an10 (.ref q10) ct10, [(q9, p9), (q10, p10)], spLaw K [(p9, qRight), (p10, qLaw)], ?_, ?_, ?_, fun s v => .of_eq rfl, ?_, ?_⟩
  · intro p hp
    rcases List.mem_cons.mp hp with rfl | hp
    · exact e9
    · rw [List.mem_singleton.mp hp]
      exact e10
  · intro p hp
    rcases List.mem_cons.mp hp with rfl | hp
    · exact v9
    · rw [List.mem_singleton.mp hp]
      exact v10
  · intro p hp
    rcases List.mem_cons.mp hp with rfl | hp
    · exact t9
    · rw [List.mem_singleton.mp hp]
      exact t10
  · intro H a ns hl _ hp hS
    refine ⟨a, ns, rfl, hS, hl, ?_, fun _ => rfl⟩
    intro p hq
    rcases List.mem_cons.mp hq with rfl | hq
    · exact LamX.TabS.nil (hp (q9, p9) List.mem_cons_self)
    · rw [List.mem_singleton.mp hq]
      exact LamX.TabS.nil (hp (q10, p10) (List.mem_cons_of_mem _ List.mem_cons_self))
  · intro base _ _ TBs
    have TB9 := TBs (q9, p9) List.mem_cons_self
    have TB10 := TBs (q10, p10) (List.mem_cons_of_mem _ List.mem_cons_self)
    have n9 : p9 ≠ p10 := fun z => by
      rw [z] at np
      simp at np
    have hu9 : ∀ p ∈ [(p9, qRight), (p10, qLaw)], p.1 = p9 → p.2 = qRight := fun p hp e => by
      rcases List.mem_cons.mp hp with rfl | hp
      · rfl
      · rw [List.mem_singleton.mp hp] at e
        exact absurd e.symm n9
    have hu10 : ∀ p ∈ [(p9, qRight), (p10, qLaw)], p.1 = p10 → p.2 = qLaw := fun p hp e => by
      rcases List.mem_cons.mp hp with rfl | hp
      · exact absurd e n9
      · rw [List.mem_singleton.mp hp]
    have SI : FnOk l.prog w K mg base CX0 1 fI _ ["self", "line"] (spSup CP "line") := fn_sup lI cI hco hvs hfile hce oP hm hB hsu hst hno z_super htop rfl rfl rfl (by decide +kernel) (by decide +kernel) (by decide +kernel) (by decide +kernel) (by decide +kernel) rfl rfl (by decide) (by decide) (by decide +kernel) (fun _ => rfl) (fun _ => ⟨_, rfl⟩)
    have bI : L2.Binds K (PySem.W.ksFn "__init__" "ParseError.__init__" (defArgs s_init) (defBody s_init) (defScope s_init) .none kVI dcI pmI anI (.ref cdI) ctI ccI) ["self", "line"] [] := .all fun us hl => match us, hl with | [_, _], _ => rfl
    have SP : SupE l.prog w K mg base "ParseError" CP "line" "line" := ⟨oP, gP, fI, _, iP, tI, bI, SI⟩
    have R := ok_roll (P := l.prog) (w := w) (base := base) H6 z_int
    have RP := ok_pick (P := l.prog) (w := w) (base := base) H7 R z_len
    have RI := ok_is_world (P := l.prog) (w := w) (base := base) H1 g_MAX_WORLD z_len z_isinstance z_tuple z_bool z_all
    have RI2 := ok_is_wt (P := l.prog) (w := w) (base := base) H4 g_MAX_WORLD z_len z_isinstance z_str z_all
    have RW := ok_writeX (P := l.prog) (w := w) (base := base) H2 RI OW
    have RR := ok_readX (P := l.prog) (w := w) (base := base) H3 RI2 SP z_tuple
    have RD := ok_dice (P := l.prog) (w := w) (base := base) H5 z_len z_int z_abs z_max
    have GR := ok_right (P := l.prog) (w := w) (base := base) (T := [(p9, qRight), (p10, qLaw)]) F9 W R RP RI RW RR gW gP xP hno eWW ePW ePP TB9 List.mem_cons_self hu9 z_len z_isinstance z_str z_tuple z_bool z_repr z_range
    exact ok_law (P := l.prog) (w := w) (base := base) F10 W RD (PySem.W.mg_of X G a9) k9 b9 GR RW RR gW gP xP hno eWW ePW ePP TB10 (List.mem_cons_of_mem _ List.mem_cons_self) hu10 z_len z_range z_min z_max z_repr
end Rw
open PySem PySem.W PyProof.Rows in
set_option maxRecDepth 100000 in
set_option maxHeartbeats 0 in
theorem PySem.Challenge.cw_restwise_k04_what_is_no_world_holds : PySem.Challenge.rw_restwise_k04_what_is_no_world.Holds := by
  w_on; o_law; k_head; (case hw => w_witness2)
  k_fill
  refine Rw.walk_ofTT (l := PySem.Challenge.rw_restwise_k04_what_is_no_world) (n := 63) (k := 7) (x := "script") (CX := fun _ => L2.CX0) rfl (by decide) rfl ⟨rfl, by decide, by decide⟩ (fun w h Y => PySem.W.km_in_of Y) ?F (fun _ _ _ _ _ h => h)
  case F =>
    intro w mg fa h Y KX G hmg TT
    refine' Rw.all_mk (l := PySem.Challenge.rw_restwise_k04_what_is_no_world) KX G hmg (by decide +kernel) (by decide +kernel) ?TT ?a1 ?l1 ?c1 ?k1 ?a2 ?l2 ?c2 ?k2 ?a3 ?l3 ?c3 ?k3 ?a4 ?l4 ?c4 ?k4 ?a5 ?l5 ?c5 ?k5 ?a6 ?l6 ?c6 ?k6 ?a7 ?l7 ?c7 ?k7 ?a8 ?l8 ?c8 ?k8 ?a9 ?l9 ?c9 ?k9 ?a10 ?l10 ?c10 ?k10 ?y_len ?y_int ?y_abs ?y_max ?y_min ?y_range ?y_isinstance ?y_str ?y_bool ?y_tuple ?y_all ?y_repr ?y_super ?y_MW ?aW ?aP ?xW ?kW ?bW ?tW ?xL ?rv ?saP ?bP ?tP ?kP ?iP ?tI ?lI ?cI ?hco ?hvs ?hce ?hm ?hB ?hsu ?hst ?hno ?xf ?eWW ?ePW ?ePP ?w9 ?h9 ?w10 ?h10 ?v9 ?v10 ?np
    (case TT =>
      intro x c P hx ht
      rcases hx with rfl | rfl
      · exact TT _ _ _ _ rfl ht
      · exact TT _ _ _ _ rfl ht)
    (case a1 => k_is)
    (case l1 => k_is)
    (case c1 => k_is)
    (case k1 => k_is)
    (case a2 => k_is)
    (case l2 => k_is)
    (case c2 => k_is)
    (case k2 => k_is)
    (case a3 => k_is)
    (case l3 => k_is)
    (case c3 => k_is)
    (case k3 => k_is)
    (case a4 => k_is)
    (case l4 => k_is)
    (case c4 => k_is)
    (case k4 => k_is)
    (case a5 => k_is)
    (case l5 => k_is)
    (case c5 => k_is)
    (case k5 => k_is)
    (case a6 => k_is)
    (case l6 => k_is)
    (case c6 => k_is)
    (case k6 => k_is)
    (case a7 => k_is)
    (case l7 => k_is)
    (case c7 => k_is)
    (case k7 => k_is)
    (case a8 => k_is)
    (case l8 => k_is)
    (case c8 => k_is)
    (case k8 => k_is)
    (case a9 => k_is)
    (case l9 => k_is)
    (case c9 => k_is)
    (case k9 => k_is)
    (case a10 => k_is)
    (case l10 => k_is)
    (case c10 => k_is)
    (case k10 => k_is)
    (case y_len => k_is)
    (case y_int => k_is)
    (case y_abs => k_is)
    (case y_max => k_is)
    (case y_min => k_is)
    (case y_range => k_is)
    (case y_isinstance => k_is)
    (case y_str => k_is)
    (case y_bool => k_is)
    (case y_tuple => k_is)
    (case y_all => k_is)
    (case y_repr => k_is)
    (case y_super => k_is)
    (case y_MW => k_is)
    (case aW => k_is)
    (case aP => k_is)
    (case xW => kernel_rfl)
    (case kW => k_is)
    (case bW => k_is)
    (case tW => k_is)
    (case xL => k_is)
    (case rv => decide +kernel)
    (case saP => k_is)
    (case bP => k_is)
    (case tP => k_is)
    (case kP => k_is)
    (case iP => k_is)
    (case tI => k_is)
    (case lI => k_is)
    (case cI => k_is)
    (case hco => k_is)
    (case hvs => rfl)
    (case hce => k_is)
    (case hm => kernel_rfl)
    (case hB => k_is)
    (case hsu => k_is)
    (case hst => k_is)
    (case hno => k_is)
    (case xf => kernel_rfl)
    (case eWW => kernel_rfl)
    (case ePW => kernel_rfl)
    (case ePP => kernel_rfl)
    (case w9 => k_is)
    (case h9 => rfl)
    (case w10 => k_is)
    (case h10 => rfl)
    (case v9 => kernel_rfl)
    (case v10 => kernel_rfl)
    (case np => decide)
