import PyProof.Rows.All
import Wide.All
import OpenK.AllK
import Wide.FinOn
import PyProof.EqAt
import PyProof.EqKinds
import PyProof.TupleCall
import PyProof.Rows.ListStrD
import HandS.ForMost
import HandS.IsInst
import HandS.RaiseMore
import HandS.Codes
import HandS.Walk
import PyProof.ReprRoads
import HandS.TupAny
import HandS.TupMul
import PySem.Challenge.RW_restwise_k03_whole_worlds_and_their_text
set_option Elab.async false
set_option linter.all false
set_option maxRecDepth 100000
set_option maxHeartbeats 4000000
namespace Rw
open PySem PySem.Spec PyProof.Rows L2
theorem bt_len : bootBuiltins "len" = some (.builtin "len") := by decide +kernel
theorem bt_abs : bootBuiltins "abs" = some (.builtin "abs") := by decide +kernel
theorem bt_max : bootBuiltins "max" = some (.builtin "max") := by decide +kernel
theorem bt_min : bootBuiltins "min" = some (.builtin "min") := by decide +kernel
theorem bt_all : bootBuiltins "all" = some (.builtin "all") := by decide +kernel
theorem bt_any : bootBuiltins "any" = some (.builtin "any") := by decide +kernel
theorem bt_repr : bootBuiltins "repr" = some (.builtin "repr") := by decide +kernel
theorem bt_isinstance : bootBuiltins "isinstance" = some (.builtin "isinstance") := by decide +kernel
theorem bt_sorted : bootBuiltins "sorted" = some (.builtin "sorted") := by decide +kernel
theorem bt_int : bootBuiltins "int" = some (.type "int") := by decide +kernel
theorem bt_str : bootBuiltins "str" = some (.type "str") := by decide +kernel
theorem bt_list : bootBuiltins "list" = some (.type "list") := by decide +kernel
theorem bt_tuple : bootBuiltins "tuple" = some (.type "tuple") := by decide +kernel
theorem bt_bool : bootBuiltins "bool" = some (.type "bool") := by decide +kernel
theorem bt_dict : bootBuiltins "dict" = some (.type "dict") := by decide +kernel
theorem bt_set : bootBuiltins "set" = some (.type "set") := by decide +kernel
theorem bt_range : bootBuiltins "range" = some (.type "range") := by decide +kernel
theorem bt_zip : bootBuiltins "zip" = some (.type "zip") := by decide +kernel
section
variable {X : Cx}
def CPowW (i j : Int) : Prop := 0 ≤ j ∧ (Builtin.Int.intBits i : Int) * j ≤ 2 ^ 27
theorem op_powW : OpR X (binaryOp .Pow) (rI CPowW fun i j => .int (i ^ j.toNat)) := opI fun _ _ _ _ _ _ _ hc q => PyProof.Rows.pow_int hc.1 hc.2 q
theorem call_repr_bool : CallR X (.builtin "repr") (fun xs H Q => ∃ b, xs = [.bl b] ∧ Q (.str (if b then "True" else "False")) H) := by
  intro pins s σ H xs us Q I r h
  obtain ⟨b, rfl, q⟩ := h
  obtain ⟨u, rfl, rfl⟩ := vals1 r
  exact PySem.P.repr_of_bool ⟨.str _, H, I.tok _, ⟨_, rfl⟩, q⟩
/-- the signs of a text, each as a text -/
def sgn (z : Str) : List V := z.cps.toList.map fun c => V.str ⟨#[c]⟩
theorem call_list_str (hc : X.calm = true) : CallR X (.type "list") (fun xs H Q => ∃ z, xs = [.str z] ∧ z.length ≤ sizeLine ∧ ∀ l, H l = none → Q (.ref l) (upd H l (.lst (sgn z)))) := by
  intro pins s σ H xs us Q I r h
  obtain ⟨z, rfl, hz, q⟩ := h
  obtain ⟨u, rfl, t, rfl⟩ := vals1 r
  refine PySem.call_list_str (I.ok.hd hc) z t (hn := hz) fun h' tk acc' c' hk hS' hacc => ?_
  have hv : ∀ (ys : List Value) (cs : List Nat), ys.length = cs.length → (∀ (j : Nat) (v : Value), ys[j]? = some v → ∃ (c : Nat) (u : Tok), cs[j]? = some c ∧ v = Value.str ⟨#[c]⟩ u) → Vals (cs.map fun c => V.str ⟨#[c]⟩) ys := by
    intro ys
    induction ys with
    | nil =>
      intro cs hl _
      cases cs with
      | nil => exact .nil
      | cons c cs => simp at hl
    | cons y ys ih =>
      intro cs hl hg
      cases cs with
      | nil => simp at hl
      | cons c cs =>
        obtain ⟨c', u, e1, e2⟩ := hg 0 y rfl
        have e3 : c = c' := by simpa using e1
        subst e3
        exact .cons ⟨u, e2⟩ (ih cs (by simpa using hl) fun j v hj => hg (j + 1) v (by simpa using hj))
  have hvv : Vals (sgn z) acc'.toList := by
    refine hv acc'.toList z.cps.toList ?_ fun j v hj => ?_
    · have := hacc.1
      simpa using this
    · obtain ⟨c, u, hc', rfl⟩ := hacc.2 j v (by simpa using hj)
      exact ⟨c, u, by simpa using hc', rfl⟩
  refine ⟨.ref s.heap.objs.size, _, I.laid (t' := tk) hk (Nat.le_refl _) (show ObjOk X.prog X.w _ h' _ (.lst (sgn z)) from ⟨?_, acc'.toList, c', hvv, by simpa using hS'⟩), rfl, q _ (I.hok.fresh (Nat.le_refl _))⟩
  have : (sgn z).length = z.cps.size := by simp [sgn]
  rw [this]; exact hz
end
theorem small1000000 {n : Nat} (h : n ≤ 1000000) : n < sizeLine := Nat.lt_of_le_of_lt h (by decide)
theorem erase_perm {α : Type} : ∀ {l : List α} {i : Nat} (h : i < l.length), (l[i] :: l.eraseIdx i).Perm l
  | [], _, h => absurd h (Nat.not_lt_zero _)
  | a :: l, 0, _ => List.Perm.refl _
  | a :: l, i + 1, h => by
    have h' : i < l.length := Nat.lt_of_succ_lt_succ h
    have ih := erase_perm (l := l) (i := i) h'
    show (l[i] :: a :: l.eraseIdx i).Perm (a :: l)
    exact (List.Perm.swap _ _ _).trans (ih.cons a)
/-! ### dice and heaps -/
def Dice (H : Hp) (d : Addr) : Prop := ∃ x y z : Int, 0 ≤ x ∧ 0 ≤ y ∧ 0 ≤ z ∧ H d = some (.lst [.int x, .int y, .int z])
/-- what a def that throws the dice at d leaves: all else that was tracked is as it was -/
def SB (d : Addr) (H H' : Hp) : Prop := ∀ b o, b ≠ d → H b = some o → H' b = some o
theorem SB.refl (d : Addr) (H : Hp) : SB d H H := fun _ _ _ h => h
theorem SB.trans {d : Addr} {H H1 H2 : Hp} (a : SB d H H1) (b : SB d H1 H2) : SB d H H2 := fun c o n h => b c o n (a c o n h)
theorem SB.of {d : Addr} {H H1 : Hp} (a : Same H H1) : SB d H H1 := fun c o _ h => a c o h
theorem SB.upd {d : Addr} {H : Hp} {o : HO} : SB d H (upd H d o) := fun c u n h => by rw [upd_ne n]; exact h
theorem SB.new {d p : Addr} {H : Hp} {o : HO} (h : H p = none) : SB d H (L2.upd H p o) := fun c u _ e => by rw [upd_ne (ne_of_none e h)]; exact e
theorem Same.new {p : Addr} {H : Hp} {o : HO} (h : H p = none) : Same H (L2.upd H p o) := fun c u e => by rw [upd_ne (ne_of_none e h)]; exact e
theorem Dice.new {d p : Addr} {H : Hp} {o : HO} (D : Dice H d) (h : H p = none) : Dice (L2.upd H p o) d := by
  obtain ⟨x, y, z, h1, h2, h3, e⟩ := D
  exact ⟨x, y, z, h1, h2, h3, by rw [upd_ne (ne_of_none e h)]; exact e⟩
theorem Dice.same {d : Addr} {H H' : Hp} (D : Dice H d) (h : Same H H') : Dice H' d := by
  obtain ⟨x, y, z, h1, h2, h3, e⟩ := D
  exact ⟨x, y, z, h1, h2, h3, h _ _ e⟩
theorem Dice.ne {d p : Addr} {H : Hp} (D : Dice H d) (h : H p = none) : d ≠ p := by
  obtain ⟨x, y, z, h1, h2, h3, e⟩ := D
  exact ne_of_none e h
/-- an object that is no such list stands elsewhere -/
theorem Dice.ne' {d p : Addr} {H : Hp} {o : HO} (D : Dice H d) (h : H p = some o) (n : ∀ x y z : Int, o ≠ .lst [.int x, .int y, .int z]) : p ≠ d := by
  obtain ⟨x, y, z, h1, h2, h3, e⟩ := D
  intro q
  rw [q, e] at h
  exact n x y z (Option.some.inj h).symm
/-- a name that holds the address of a def, the def there with what it keeps -/
def Ok (P : Program) (w : World) (K : PySem.W.Frag) (mg : Str → Option Value) (base : Heap) (k : Nat) (x : Str) (ps : List Str) (sp : Sp) : Prop :=
  ∃ f fd, mg x = some (.ref f) ∧ PySem.W.keepIn K (.ref f) = true ∧ L2.Binds K fd ps [] ∧ FnOk P w K mg base CX0 k f fd ps sp
/-- the def of the text at its name -/
def Has (K : PySem.W.Frag) (mg : Str → Option Value) (x : Str) (st : Stmt) (ps : List Str) : Prop :=
  ∃ f fd, mg x = some (.ref f) ∧ Fun K x x st f fd ∧ L2.Binds K fd ps []
/-! ### the rules with the written part K by its own name (within comprehensions the context is not the def's) -/
section
variable {X : Cx} {K : PySem.W.Frag}
def rLen (K : PySem.W.Frag) : List V → Hp → VK → Prop := fun xs H Q => ∃ p ys, xs = [.ref p] ∧ (SqL K H p ys ∨ SqT K H p ys) ∧ Q (.int ys.length) H
theorem k_len (hK : X.K = K := by rfl) : CallR X (.builtin "len") (rLen K) := by subst hK; exact call_len_seq
def rList (K : PySem.W.Frag) : List V → Hp → VK → Prop := fun xs H Q => ∃ p ys, xs = [.ref p] ∧ (SqL K H p ys ∨ SqT K H p ys) ∧ ∀ l, H l = none → Q (.ref l) (upd H l (.lst ys))
theorem k_listof (hK : X.K = K := by rfl) : CallR X (.type "list") (rList K) := by subst hK; exact call_list_of
def rTuple (K : PySem.W.Frag) : List V → Hp → VK → Prop := fun xs H Q => ∃ p ys, xs = [.ref p] ∧ ((SqL K H p ys ∧ ∀ l, H l = none → Q (.ref l) (upd H l (.tup ys))) ∨ (SqT K H p ys ∧ Q (.ref p) H))
theorem k_tupleof (hK : X.K = K := by rfl) : CallR X (.type "tuple") (rTuple K) := by subst hK; exact call_tuple_of
theorem k_sortedS (hK : X.K = K := by rfl) : CallR X (.builtin "sorted") (rSortedS K) := by subst hK; exact cr_sortedS
theorem k_isi (hK : X.K = K := by rfl) : CallR X (.builtin "isinstance") (rIsi K) := by subst hK; exact call_isi
theorem k_all (hc : X.calm = true := by rfl) (hK : X.K = K := by rfl) : CallR X (.builtin "all") (rAll K) := by subst hK; exact cr_all hc
theorem k_any (hc : X.calm = true := by rfl) (hK : X.K = K := by rfl) : CallR X (.builtin "any") (rAny K) := by subst hK; exact cr_any hc
theorem k_in (hK : X.K = K := by rfl) : OpR X (compareOp .In) (rIn K false) := by subst hK; exact op_in_seq
theorem k_notIn (hK : X.K = K := by rfl) : OpR X (compareOp .NotIn) (rIn K true) := by subst hK; exact op_notIn_seq
theorem k_eqD (hu : X.A.units + 64 < cLine) (hK : X.K = K := by rfl) : OpR X (compareOp .Eq) (rEqD K) := by subst hK; exact op_eqD hu
theorem k_neD (hu : X.A.units + 64 < cLine) (hK : X.K = K := by rfl) : OpR X (compareOp .NotEq) (rNeD K) := by subst hK; exact op_neD hu
theorem k_catT (hK : X.K = K := by rfl) : OpR X (binaryOp .Add) (rCatT K) := by subst hK; exact op_catT
theorem k_ixL (hK : X.K = K := by rfl) : IxR X (rIxL K) := by subst hK; exact ix_list
theorem k_ixT (hK : X.K = K := by rfl) : IxR X (rIxT K) := by subst hK; exact ix_tup
theorem k_ix (hK : X.K = K := by rfl) : IxR X (rIx K) := by subst hK; exact ix_seq
theorem k_slL (hK : X.K = K := by rfl) : SlR X (rSlL K) := by subst hK; exact sl_list
theorem k_slT (hK : X.K = K := by rfl) : SlR X (rSlT K) := by subst hK; exact sl_tup
theorem k_pl {tg l : Expr} {tl : TE} (h : PE X l tl) (hK : X.K = K := by rfl) : PI X tg l (iList K tl) := by subst hK; exact pi_list h
theorem k_pt {tg l : Expr} {tl : TE} (h : PE X l tl) (hK : X.K = K := by rfl) : PI X tg l (iTup K tl) := by subst hK; exact pi_tup h
theorem k_bm {e : Expr} {T : String} {r : V → List V → Hp → VK → Prop} {to : TE} {t : TA} (h : PE X e (tBM X.K T r to t)) (hK : X.K = K := by rfl) : PE X e (tBM K T r to t) := by subst hK; exact h
theorem k_bm0 {e : Expr} {T : String} {r : V → List V → Hp → VK → Prop} {to : TE} (h : PE X e (tBM0 X.K T r to)) (hK : X.K = K := by rfl) : PE X e (tBM0 K T r to) := by subst hK; exact h
def rJoin (K : PySem.W.Frag) : V → List V → Hp → VK → Prop := fun x xs H Q => ∃ a p, ∃ ys : List Str, x = .str a ∧ xs = [.ref p] ∧ (SqL K H p (ys.map V.str) ∨ SqT K H p (ys.map V.str)) ∧ (ys.map (·.length)).sum + ys.length * a.length ≤ 16777216 ∧ Q (.str (Txt.join a ys)) H
theorem k_join {e : Expr} {to te : TE} (h : PE X e (tM1 (rJoin X.K) to te)) (hK : X.K = K := by rfl) : PE X e (tM1 (rJoin K) to te) := by subst hK; exact h
theorem k_truth {e : Expr} {te : TE} (h : PT X e (fun σ H Q => te σ H fun x H' => ∃ k, TruV X.K x H' k ∧ Q k H')) (hK : X.K = K := by rfl) : PT X e (fun σ H Q => te σ H fun x H' => ∃ k, TruV K x H' k ∧ Q k H') := by subst hK; exact h
theorem k_gtup {tg : Expr} {n : Nat} {t : TGs} (h : PG X tg (gTup X.K n t)) (hK : X.K = K := by rfl) : PG X tg (gTup K n t) := by subst hK; exact h
end

/-! ### comprehensions that leave all that was tracked: behind i turns the new list at D holds acc i -/
def PvA (H1 : Hp) (D : Addr) (acc : Nat → List V) (i : Nat) (H : Hp) : Prop := Same H1 H ∧ H D = some (.lst (acc i))
section
variable {H1 H4 : Hp} {D : Addr} {acc : Nat → List V} {i : Nat} {y : V}
theorem PvA.start (nD : H1 D = none) (a0 : acc 0 = []) : PvA H1 D acc 0 (upd H1 D (.lst [])) := ⟨Same.new nD, by rw [a0]; exact upd_same⟩
theorem PvA.put (nD : H1 D = none) (s : Same H1 H4) (e : H4 D = some (.lst (acc i))) (hz : (acc i).length < sizeLine) (ha : acc (i + 1) = acc i ++ [y]) :
    ∃ a, H4 D = some (.lst a) ∧ a.length < sizeLine ∧ PvA H1 D acc (i + 1) (upd H4 D (.lst (a ++ [y]))) :=
  ⟨acc i, e, hz, fun b o hb => by rw [upd_ne (ne_of_none hb nD)]; exact s b o hb, by rw [ha]; exact upd_same⟩
theorem PvA.skip (p : PvA H1 D acc i H4) (ha : acc (i + 1) = acc i) : PvA H1 D acc (i + 1) H4 := ⟨p.1, by rw [ha]; exact p.2⟩
end
theorem take_put {α : Type} {l : List α} {i : Nat} {x : α} (h : l[i]? = some x) : l.take (i + 1) = l.take i ++ [x] := by
  rw [List.take_add_one, h]
  rfl
theorem take_lt {α : Type} {l : List α} {i : Nat} (h : i < l.length) (hz : l.length ≤ sizeLine) : (l.take i).length < sizeLine := by
  rw [List.length_take]
  omega
/-- what a filter keeps of the first i -/
theorem filter_put {α : Type} {l : List α} {i : Nat} {x : α} (p : α → Bool) (h : l[i]? = some x) : (l.take (i + 1)).filter p = (l.take i).filter p ++ (if p x then [x] else []) := by
  rw [take_put h, List.filter_append]
  cases e : p x <;> simp [e]

/-! ### data -/
theorem canAll_map {α : Type} (f : α → PyData) : ∀ l : List α, (∀ x ∈ l, (f x).canLay0 = true) → PyData.canLayAll0 (l.map f) = true
  | [], _ => by simp [PyData.canLayAll0]
  | x :: l, h => by
    have ih := canAll_map f l fun y hy => h y (List.mem_cons_of_mem _ hy)
    simp only [List.map_cons, PyData.canLayAll0, ih, h x List.mem_cons_self, Bool.and_self]
theorem depthAll_map {α : Type} (f : α → PyData) (n : Nat) : ∀ l : List α, (∀ x ∈ l, (f x).depth ≤ n) → PyData.depthAll (l.map f) ≤ n
  | [], _ => by simp [PyData.depthAll]
  | x :: l, h => by
    have ih := depthAll_map f n l fun y hy => h y (List.mem_cons_of_mem _ hy)
    have := h x List.mem_cons_self
    simp only [List.map_cons, PyData.depthAll]
    omega
theorem shaped_list {ds : List PyData} (h : PyData.canLayAll0 ds = true) (d : PyData.depthAll ds ≤ 63) : SeqAt.shaped (.list ds) = true := by
  refine Bool.and_eq_true_iff.mpr ⟨?_, decide_eq_true ?_⟩
  · simp only [PyData.canLay0]
    exact h
  · simp only [PyData.depth]
    omega
theorem shaped_tuple {ds : List PyData} (h : PyData.canLayAll0 ds = true) (d : PyData.depthAll ds ≤ 63) : SeqAt.shaped (.tuple ds) = true := by
  refine Bool.and_eq_true_iff.mpr ⟨?_, decide_eq_true ?_⟩
  · simp only [PyData.canLay0]
    exact h
  · simp only [PyData.depth]
    omega
/-- a text whose signs are signs -/
def okS (z : Str) : Prop := ∀ c ∈ z.cps.toList, c < 0x110000
theorem okS.can {z : Str} (h : okS z) : (PyData.str z).canLay0 = true := by
  simp only [PyData.canLay0, PyData.strOk]
  rw [← Array.all_toList, List.all_eq_true]
  intro c hc
  exact decide_eq_true (h c hc)
theorem shaped_strs {zs : List Str} (h : ∀ z ∈ zs, okS z) : SeqAt.shaped (.list (zs.map PyData.str)) = true :=
  shaped_list (canAll_map _ _ fun z hz => (h z hz).can) (Nat.le_trans (depthAll_map _ 0 _ fun z _ => by simp [PyData.depth]) (by decide))
theorem shaped_strsT {zs : List Str} (h : ∀ z ∈ zs, okS z) : SeqAt.shaped (.tuple (zs.map PyData.str)) = true :=
  shaped_tuple (canAll_map _ _ fun z hz => (h z hz).can) (Nat.le_trans (depthAll_map _ 0 _ fun z _ => by simp [PyData.depth]) (by decide))
section
variable {K : PySem.W.Frag} {H : Hp}
theorem dp_map {α : Type} (f : α → V) (g : α → PyData) : ∀ l : List α, (∀ x ∈ l, Dp K H (f x) (g x)) → DpAll K H (l.map f) (l.map g)
  | [], _ => .nil
  | x :: l, h => .cons (h x List.mem_cons_self) (dp_map f g l fun y hy => h y (List.mem_cons_of_mem _ hy))
theorem dp_strs (zs : List Str) : DpAll K H (zs.map V.str) (zs.map PyData.str) := dp_map _ _ _ fun z _ => .str z
theorem dp_bls (bs : List Bool) : DpAll K H (bs.map V.bl) (bs.map PyData.bool) := dp_map _ _ _ fun z _ => .bl z
theorem dp_ints (ns : List Int) : DpAll K H (ns.map V.int) (ns.map PyData.int) := dp_map _ _ _ fun z _ => .int z
end
theorem shaped_bls (bs : List Bool) : SeqAt.shaped (.list (bs.map PyData.bool)) = true :=
  shaped_list (canAll_map _ _ fun _ _ => by simp [PyData.canLay0]) (Nat.le_trans (depthAll_map _ 0 _ fun z _ => by simp [PyData.depth]) (by decide))
theorem shaped_blsT (bs : List Bool) : SeqAt.shaped (.tuple (bs.map PyData.bool)) = true :=
  shaped_tuple (canAll_map _ _ fun _ _ => by simp [PyData.canLay0]) (Nat.le_trans (depthAll_map _ 0 _ fun z _ => by simp [PyData.depth]) (by decide))
theorem eqv_nil : ∀ ds : List PyData, PyData.eqv (.list ds) (.list []) = ds.isEmpty
  | [] => by simp [PyData.eqv, PyData.eqvAll]
  | d :: ds => by simp [PyData.eqv, PyData.eqvAll]

/-! ### texts -/
theorem okS.app {a b : Str} (ha : okS a) (hb : okS b) : okS (a ++ b) := by
  intro c hc
  have : c ∈ a.cps.toList ++ b.cps.toList := by
    have e : (a ++ b).cps.toList = a.cps.toList ++ b.cps.toList := by rw [Str.cps_append, Array.toList_append]
    rw [← e]
    exact hc
  rcases List.mem_append.mp this with h | h
  · exact ha c h
  · exact hb c h
theorem okS.sg {c : Nat} (h : c < 0x110000) : okS ⟨#[c]⟩ := by
  intro c' hc'
  have e9 : c' = c := by simpa using hc'
  rw [e9]
  exact h
/-- the texts one behind another -/
def cat : List Str → Str
  | [] => Str.empty
  | z :: zs => z ++ cat zs
theorem cat_len : ∀ zs : List Str, (cat zs).length = (zs.map (·.length)).sum
  | [] => rfl
  | z :: zs => by
    show (z ++ cat zs).length = _
    rw [Str.length_append, cat_len zs, List.map_cons, List.sum_cons]
theorem cat_ok : ∀ {zs : List Str}, (∀ z ∈ zs, okS z) → okS (cat zs)
  | [], _ => fun c hc => by simp [cat, Str.empty] at hc
  | z :: zs, h => (h z List.mem_cons_self).app (cat_ok fun y hy => h y (List.mem_cons_of_mem _ hy))
theorem cat_list : ∀ zs : List Str, (cat zs).cps.toList = (zs.map (·.cps.toList)).flatten
  | [] => rfl
  | z :: zs => by
    show (z ++ cat zs).cps.toList = _
    rw [Str.cps_append, Array.toList_append, cat_list zs, List.map_cons, List.flatten_cons]
theorem join_nil (zs : List Str) : Txt.join (Str.ofString "") zs = cat zs := by
  rw [TL.join_eq]
  have e : Str.ofString "" = Str.empty := rfl
  rw [e]
  have h : ∀ ys : List Str, Str.join Str.empty ys = cat ys := by
    intro ys
    induction ys with
    | nil => rfl
    | cons y ys ih =>
      cases ys with
      | nil =>
        show y = y ++ Str.empty
        rw [Str.append_empty]
      | cons w ys =>
        show y ++ Str.empty ++ Str.join Str.empty (w :: ys) = y ++ cat (w :: ys)
        rw [ih, Str.append_empty]
  exact h zs
theorem sum_ones : ∀ {zs : List Str}, (∀ z ∈ zs, z.length = 1) → (zs.map (·.length)).sum = zs.length
  | [], _ => rfl
  | z :: zs, h => by
    rw [List.map_cons, List.sum_cons, h z List.mem_cons_self, sum_ones fun y hy => h y (List.mem_cons_of_mem _ hy), List.length_cons]
    omega
theorem sgn_mem {z : Str} {v : V} (h : v ∈ sgn z) : ∃ c, c ∈ z.cps.toList ∧ v = .str ⟨#[c]⟩ := by
  obtain ⟨c, hc, rfl⟩ := List.mem_map.mp h
  exact ⟨c, hc, rfl⟩
theorem sgn_len (z : Str) : (sgn z).length = z.length := by
  unfold sgn
  rw [List.length_map, Array.length_toList]
  rfl
/-- a new object: the heap behind it by what is known of it -/
theorem newly {H : Hp} {p : Addr} {o : HO} {G : Hp → Prop} (np : H p = none) (h : ∀ H', Same H H' → H' p = some o → G H') : G (upd H p o) := h _ (Same.new np) upd_same
theorem newly2 {α β : Type} {H : Hp} {p : Addr} {o : HO} {t : β → Hp → α → Prop} {b : β} {k : α} (np : H p = none) (h : ∀ H', Same H H' → H' p = some o → t b H' k) : t b (upd H p o) k := h _ (Same.new np) upd_same
/-! ### defs that are called while no repr is under way -/
structure FnG (P : Program) (w : World) (K : PySem.W.Frag) (mg : Str → Option Value) (base : Heap) (CX : CXT) (k : Nat) (f : Addr) (fd : FuncData) (ps : List Str) (sp : Sp) : Prop where
  few : ∀ as G Y Z, sp as G Y Z → as.length = ps.length
  go : ∀ (B : Around), B.guards = some [] → Room k B → ∀ (fs : List Env) (t : Shared) (G : Hp) (ar : Args) (xs : List Value) (as : List V) (Y : VK) (Z : XK),
    Env0 P w K mg base B fs t G → BindsTo t fd ar (ps.zip xs) → Vals as xs → sp as G Y Z → codeAny (model P w) B (.call (.ref f) ar) (CR CX fs P w G t Y Z) t
section
variable {P : Program} {w : World} {K : PySem.W.Frag} {mg : Str → Option Value} {base : Heap} {CX : CXT} {k j : Nat} {f : Addr} {fd : FuncData} {ps : List Str} {sp : Sp}
theorem FnG.of (F : FnOk P w K mg base CX k f fd ps sp) : FnG P w K mg base CX k f fd ps sp :=
  ⟨F.len, fun B _ r fs t G ar xs as Y Z e0 b v h => F.run B fs t G ar xs as Y Z r e0 b v h⟩
theorem FnG.mono (F : FnG P w K mg base CX j f fd ps sp) (h : j ≤ k) : FnG P w K mg base CX k f fd ps sp :=
  ⟨F.few, fun B g r => F.go B g (r.mono h)⟩
theorem fng_of {name qual : Str} {params : Arguments} {body : List Stmt} {scope : Scope} {dV kV doc pm cdv ct oc : Value} {an od : Option Addr} {osl : Array (Option Value)} {N : List Str}
    (at_ : K.lookup f = some ⟨oc, od, .func (PySem.W.fnOf name qual params body scope dV kV doc pm an cdv ct), osl⟩) (code : PySem.W.codeIn K cdv qual = true) (S : FnScope N ps scope) (few : ∀ as G Y Z, sp as G Y Z → as.length = ps.length)
    (walk : ∀ (B : Around) (fs : List Env) (t : Shared) (G : Hp) (as : List V) (Y : VK) (Z : XK), B.guards = some [] → Room k (B.deeper (envOfC qual scope t.heap.objs.size f cdv)) → sp as G Y Z →
      ∃ r, PSs (cxOf CX P w K mg base N qual scope f cdv B fs t G Z) body r ∧ r { nx := fun _ G' => Y .non G', rt := Y } (start N as) G) :
    FnG P w K mg base CX (k + 1) f (PySem.W.fnOf name qual params body scope dV kV doc pm an cdv ct) ps sp := by
  refine ⟨few, fun B gd room fs t G ar xs as Y Z e0 binds vals pr => ?_⟩
  have ins : K.In t.heap := e0.mod.kin.keeps fun b o q => (e0.bs b o q).1
  have nolim : t.heap.NoLimit := e0.mod.nolimit.keeps fun b o q => (e0.bs b o q).1
  have kinds : ∀ y ∈ ps.zip xs, scope.names.lookup y.1 = some .local ∨ (scope.names.lookup y.1 = some .cell ∧ ((cellsFrom (t.heap.objs.size + 1) scope.names []).lookup y.1).isSome = true) := by
    rintro ⟨n, v⟩ hy
    cases S.par n (List.of_mem_zip hy).1 with
    | inl q => exact .inl q
    | inr q => exact .inr ⟨q, PySem.W.cellsFrom_some _ _ _ (.inl q)⟩
  refine codeAny_call_function room.depth (ins _ _ at_) rfl S.co S.gen rfl (PySem.W.codeRec_of ins code) (binds _ _ _ _ ?_)
  refine wpAny_newFunctionEnv_cells S.kind kinds fun env he t1 x => ?_
  subst he
  refine ⟨nolim.keeps x.toInCall.keep, codeAny_func ?_⟩
  obtain ⟨r, hr, hq⟩ := walk B fs t G as Y Z gd (room.deeper _) pr
  have J0 := inv_start (CX := CX) (E := Z) S room.hd e0 (few _ _ _ _ pr) vals x
  refine wpAny_mono (hr.run [] t1 (start N as) G _ J0 hq) (fun fl t' hs => ?_) fun e t' hs => hs
  cases fl with
  | ret u =>
    obtain ⟨v, σ', G', J, rv, q⟩ := hs
    exact ⟨v, G', J.os, J.bare, J.base, J.hok, rv, q⟩
  | next =>
    obtain ⟨σ', G', J, q⟩ := hs
    exact ⟨V.non, G', J.os, J.bare, J.base, J.hok, rfl, q⟩
  | brk =>
    obtain ⟨_, _, _, q⟩ := hs
    exact q.elim
  | cont =>
    obtain ⟨_, _, _, q⟩ := hs
    exact q.elim
end
theorem Fun.okG {P : Program} {w : World} {K : PySem.W.Frag} {mg : Str → Option Value} {base : Heap} {x qual : Str} {st : Stmt} {f : Addr} {fd : FuncData} {N ps : List Str} {k : Nat} {sp : Sp} (F : Fun K x qual st f fd) (S : FnScope N ps (defScope st)) (few : ∀ as G Y Z, sp as G Y Z → as.length = ps.length)
    (walk : ∀ (cdv : Value) (B : Around) (fs : List Env) (t : Shared) (G : Hp) (as : List V) (Y : VK) (Z : XK), B.guards = some [] → Room k (B.deeper (envOfC qual (defScope st) t.heap.objs.size f cdv)) → sp as G Y Z →
      ∃ r, PSs (cxOf CX0 P w K mg base N qual (defScope st) f cdv B fs t G Z).nox (defBody st) r ∧ r { nx := fun _ G' => Y .non G', rt := Y } (start N as) G) : FnG P w K mg base CX0 (k + 1) f fd ps sp := by
  obtain ⟨oc, od, kV, doc, pm, an, cdv, ct, osl, rfl, lk, hcd⟩ := F.ex
  refine fng_of lk hcd S few fun B fs t G as Y Z gd room pr => ?_
  obtain ⟨r, h, q⟩ := walk cdv B fs t G as Y Z gd room pr
  exact ⟨r, h.nox, q⟩
section
variable {X : Cx} {CX : CXT} {k : Nat} {f : Addr} {fd : FuncData} {ps : List Str} {sp : Sp} {ds : List Value} {dvs : List V} {E : XK}
theorem run_g {pins : List (Addr × Obj)} {σ : L2.St} {H : Hp} {s : Shared} {Q : VK} {us : List Value} {vs : List V} (F : FnG X.prog X.w X.K X.mg X.base CX k f fd ps sp) (gd : X.A.guards = some []) (room : Room k X.A) (binds : L2.Binds X.K fd ps ds) (dv : Vals dvs ds) (pass : Passes CX X E)
    (I : Inv X pins σ H s) (v : Vals vs us) (pr : sp (vs ++ dvs) H Q E) : wpAny (model X.prog X.w) X.A (call (.ref f) us) (EP X pins σ Q) X.xe s := by
  have all : Vals (vs ++ dvs) (us ++ ds) := v.append dv
  have len : (us ++ ds).length = ps.length := all.length.symm.trans (F.few _ _ _ _ pr)
  refine wpAny_call (codeAny_mono (F.go X.A gd room X.stack s H ⟨us, []⟩ (us ++ ds) (vs ++ dvs) Q E I.env0 (binds s us I.kIn len) all pr) fun r s' q => ?_)
  cases r with
  | error e => exact pass pins σ H s e s' I q
  | ok fl =>
    cases fl with
    | ret u => exact I.after q
    | next => exact q.elim
    | brk => exact q.elim
    | cont => exact q.elim
variable {x : Str} {e : Expr} {es : List Expr} {t : TA} {p pos : Pos}
theorem pe_callG (F : FnG X.prog X.w X.K X.mg X.base CX k f fd ps sp) (gd : X.A.guards = some []) (room : Room k X.A) (glob : Gl X x) (at_ : X.mg x = some (.ref f)) (keep : PySem.W.keepIn X.K (.ref f) = true) (binds : L2.Binds X.K fd ps ds) (dv : Vals dvs ds) (pass : Passes CX X E)
    (args : PA X (e :: es) t) (nodbg : (x == ("__debug__" : Str)) = false := by decide) (h1 : starEach (e :: es) X.env = (false, eval e X.env) :: starEach es X.env := by rfl) (h2 : (backTo pos (starEach es X.env)).any (·.1) = false := by rfl) :
    PE X (.Call (.Name x p) (e :: es) [] pos) (tCall sp dvs E t) :=
  ⟨fun pins s σ H Q I h => wpAny_Call_Name_kw (ld_glob I glob at_ (PySem.W.callWith_K (h₀ := X.base) I.ok.mod.kin keep (thn (args.run pos pins s σ H _ I h) fun us s1 ⟨vs, H1, I1, r, q⟩ => ⟨I1.kIn, run_g F gd room binds dv pass I1 r q⟩) h1 h2) nodbg)⟩
theorem pe_callG0 (F : FnG X.prog X.w X.K X.mg X.base CX k f fd ps sp) (gd : X.A.guards = some []) (room : Room k X.A) (glob : Gl X x) (at_ : X.mg x = some (.ref f)) (keep : PySem.W.keepIn X.K (.ref f) = true) (binds : L2.Binds X.K fd ps ds) (dv : Vals dvs ds) (pass : Passes CX X E)
    (nodbg : (x == ("__debug__" : Str)) = false := by decide) : PE X (.Call (.Name x p) [] [] pos) (tCall sp dvs E tNil) :=
  ⟨fun pins s σ H Q I h => wpAny_Call_Name_kw (ld_glob I glob at_ (PySem.W.callWith_K0 I.kIn keep (run_g (us := []) F gd room binds dv pass I .nil h)) nodbg)⟩
end
/-! ### repr of data -/
section
variable {X : Cx} {K : PySem.W.Frag}
def rRepr (K : PySem.W.Frag) : List V → Hp → VK → Prop := fun xs H Q => ∃ v d, xs = [v] ∧ Dp K H v d ∧ d.showable = true ∧ d.hasDict = false ∧ d.depth ≤ 60 ∧ d.shown.length ≤ sizeLine ∧ Q (.str d.shown) H
theorem k_repr (gd : X.A.guards = some []) (hu : X.A.units + 64 < cLine) (hK : X.K = K := by rfl) : CallR X (.builtin "repr") (rRepr K) := by
  subst hK
  intro pins s σ H xs us Q I r h
  obtain ⟨v, d, rfl, dp, sh, nd, de, sz, q⟩ := h
  obtain ⟨u, rfl, rv⟩ := vals1 r
  have ends : ∀ h' tk t, (∀ b o, s.heap.get? b = some o → h'.get? b = some o) → EP X pins σ Q (.str d.shown t) { s with heap := h', toks := tk } := fun h' tk t k => ⟨.str d.shown, H, I.kept k, ⟨_, rfl⟩, q⟩
  cases dp with
  | non =>
    cases rv
    exact PySem.P.repr_of_none (ends s.heap _ _ fun _ _ q => q)
  | bl b =>
    cases rv
    exact PySem.P.repr_of_bool (ends s.heap _ _ fun _ _ q => q)
  | int i =>
    obtain ⟨t, rfl⟩ := rv
    exact PySem.P.repr_of_int (of_decide_eq_true sh) (ends s.heap _ _ fun _ _ q => q)
  | str x =>
    obtain ⟨t, rfl⟩ := rv
    exact PySem.P.repr_of_str (ends s.heap _ _ fun _ _ q => q) sz
  | lst hq hs =>
    obtain ⟨as, rd⟩ := Dp.reads I _ _ _ (.lst hq hs) rv
    cases rv
    exact repr_of_reads' rd sh (PyData.noDict_hsm nd) gd (by omega) (fun _ _ q => q) (fun h' t tk k => ends h' tk t k) sz
  | tup hq hs =>
    obtain ⟨as, rd⟩ := Dp.reads I _ _ _ (.tup hq hs) rv
    cases rv
    exact repr_of_reads' rd sh (PyData.noDict_hsm nd) gd (by omega) (fun _ _ q => q) (fun h' t tk k => ends h' tk t k) sz
end
/-! ### the law's call -/
theorem law_callG {P : Program} {w : World} {K : PySem.W.Frag} {mg mb : Str → Option Value} {CX : CXT} {k : Nat} {fa a : Addr} {fd : FuncData} {x : Str} {sp : Sp} {t : Shared} {us : List Value} {zs : List Int}
    (ins : K.In t.heap) (gl : t.heap.Ns mainGlobals mg) (bl : t.heap.Ns builtinsNs mb) (boot : ∀ x : Str, x ≠ "__name__" → mb x = bootBuiltins x) (nolim : t.heap.NoLimit) (nogen : t.gens = #[])
    (obj : t.heap.get? a = some { cls := .type "list", data := .seq us.toArray }) (nums : IntsAre us zs) (few : zs.length ≤ sizeLine) (room : Room k callerA)
    (F : ∀ base : Heap, K.In base → base.Ns mainGlobals mg → FnG P w K mg base CX k fa fd [x] sp) (binds : ∀ (s : Shared) (u : Value), BindsTo s fd ⟨[u], []⟩ [(x, u)])
    (pr : ∀ H : Hp, Only H → SqL K H a (zs.map V.int) → sp [.ref a] H (fun v _ => v = .bl true) fun _ _ _ => False) (noerr : ∀ H e s', CX [] H t (fun _ _ _ => False) e s' → False) :
    codeAny (model P w) callerA (.call (.ref fa) ⟨[.ref a], []⟩) (fun r s' => r = .ok (.ret (.bool true)) ∧ OldK t.heap s'.heap ∧ s'.os = t.os ∧ AllBare s'.gens) t := by
  have vi := vals_ints nums
  have key : ∀ Z : Hp, Only Z → SqL K Z a (zs.map V.int) → HOk P w Z t.heap → (∀ b, Z b ≠ none → b = a) → (Z a ≠ none → K.lookup a = none) →
      codeAny (model P w) callerA (.call (.ref fa) ⟨[.ref a], []⟩) (fun r s' => r = .ok (.ret (.bool true)) ∧ OldK t.heap s'.heap ∧ s'.os = t.os ∧ AllBare s'.gens) t := by
    intro Z only seq zok one notK
    have keep : ∀ {b : Addr} {o : Obj}, t.heap.get? b = some o → Z b = none → (hidT t.heap Z).get? b = some o := fun e n => hidT_get e n
    have nod : ∀ {b : Addr} {o : Obj} {es : Array DictEntry} {ep : Nat}, t.heap.get? b = some o → o.data = .dict es ep → Z b = none := by
      intro b o es ep g d
      cases q : Z b with
      | none => rfl
      | some u =>
        obtain rfl := one b (by rw [q]; exact Option.some_ne_none u)
        rw [obj] at g
        cases g
        cases (show Data.seq us.toArray _ = Data.dict es ep from d)
    have nsZ : ∀ {b : Addr} {m : Str → Option Value}, t.heap.Ns b m → (hidT t.heap Z).Ns b m := by
      rintro b m ⟨o, es, ep, g, d, r⟩
      exact ⟨o, es, ep, keep g (nod g d), d, r⟩
    have insZ : K.In (hidT t.heap Z) := by
      intro b o g
      refine keep (ins b o g) ?_
      cases q : Z b with
      | none => rfl
      | some u =>
        obtain rfl := one b (by rw [q]; exact Option.some_ne_none u)
        rw [notK (by rw [q]; exact Option.some_ne_none u)] at g
        cases g
    have md : Mod K mg (hidT t.heap Z) := by
      obtain ⟨mc, l1, l2⟩ := nolim
      exact ⟨insZ, nsZ gl, ⟨mb, nsZ bl, boot⟩, mc, nsZ l1, l2⟩
    have env : Env0 P w K mg (hidT t.heap Z) callerA [] t Z :=
      { frames := rfl, mod := md, bs := fun b o g => of_hidT g, bsz := Nat.le_of_eq (hidT_size _ _), funs := trivial, frf := (fun b hb => nomatch (show b ∈ ([] : List Addr) from hb)), hok := zok, bare := .of_eq nogen }
    refine codeAny_mono ((F _ insZ (nsZ gl)).go callerA rfl room [] t Z ⟨[.ref a], []⟩ [.ref a] [.ref a] _ _ env (binds t (.ref a)) (.cons rfl .nil) (pr Z only seq)) fun r s' h => ?_
    cases r with
    | error e => exact (noerr Z e s' h).elim
    | ok fl =>
      cases fl with
      | next => exact h.elim
      | brk => exact h.elim
      | cont => exact h.elim
      | ret u =>
        obtain ⟨v, Z', os, bare, un, zok', rel, q⟩ := h
        obtain rfl : v = .bl true := q
        cases rel
        refine ⟨rfl, OldK.of_keep fun b o g => ?_, os, bare⟩
        rcases only b with n | ⟨ob, xs, n⟩
        · exact un.keep b o g n (by intro z; cases z) (by intro z; cases z)
        · have g1 := (zok b _ n).1
          have g2 := (zok' b _ (un.frzs b ob _ n)).1
          rw [g] at g1
          cases g1
          exact g2
  cases q : K.lookup a with
  | some o =>
    have g := ins a o q
    rw [obj] at g
    cases g
    refine key (fun _ => none) (fun _ => .inl rfl) (.inr ⟨_, us.toArray, _, q, rfl, rfl, rfl, ?_, vi⟩) (fun b u z => by cases z) (fun b z => absurd rfl z) fun z => absurd rfl z
    rw [List.size_toArray, nums.length]
    exact few
  | none =>
    let ob : Obj := { cls := .type "list", data := .seq us.toArray }
    have here : ∀ b, b ≠ a → (fun b => if b = a then some (HO.frz ob (.lst (zs.map V.int))) else none) b = none := fun b n => if_neg n
    refine key (fun b => if b = a then some (.frz ob (.lst (zs.map V.int))) else none) (fun b => ?_) (.inl (.inr ⟨ob, if_pos rfl⟩)) (fun b u z => ?_) (fun b z => ?_) fun _ => q
    · by_cases n : b = a
      · exact .inr ⟨_, _, if_pos n⟩
      · exact .inl (if_neg n)
    · by_cases n : b = a
      · subst n
        have z' := (if_pos rfl).symm.trans z
        cases z'
        exact ⟨obj, by rw [List.length_map]; exact few, us, _, vi, obj⟩
      · have z' := (if_neg n).symm.trans z
        cases z'
    · by_cases n : b = a
      · exact n
      · exact absurd (if_neg n) z
theorem walk_ofG {l : PySem.W.OpenLaw} {k : Nat} {q : Program} {loose : List Str} {XP : (Str → Option Value) → Heap → Prop} {YP : World → Heap → Prop} {d : DefRec} {K : Params → PySem.W.Frag} {sp : PySem.W.Frag → Sp} {x : Str}
    (most : l.most = some 63) (nodef : d.params.defaults = []) (room : Room k callerA) (ins : ∀ (w : World) (h : Heap), YP w h → (K w.params).In h)
    (F : ∀ (w : World) (mg : Str → Option Value) (fa : Addr) (h : Heap), (K w.params).In h → h.Ns mainGlobals mg → mg d.name = some (.ref fa) →
      ∃ fd : FuncData, (∀ (s : Shared) (u : Value), BindsTo s fd ⟨[u], []⟩ [(x, u)]) ∧ ∀ base : Heap, (K w.params).In base → base.Ns mainGlobals mg → FnG l.prog w (K w.params) mg base CX0 k fa fd [x] (sp (K w.params)))
    (pr : ∀ (K : PySem.W.Frag) (H : Hp) (a : Addr) (ns : List Int), ns.length ≤ 63 → SqL K H a (ns.map V.int) → sp K [.ref a] H (fun v _ => v = .bl true) fun _ _ _ => False) :
    PySem.W.WalkO q loose XP YP l.row.toRowW d [] (fun f vs => PySem.call f vs) := by
  refine Att.attach_call most nodef fun w s₀ t mg mb fa o pm cd doc a us zs G Y ho hd hcd hmg obj nums few nogen => ?_
  obtain ⟨fd, hb, hF⟩ := F w mg fa _ (ins w _ Y) G.T.g hmg
  exact law_callG (ins w _ Y) G.T.g G.T.b G.T.builtins G.T.nolimit nogen obj nums (Nat.le_trans few (by decide)) room hF hb (fun H _ S => pr _ H a zs few S) fun _ _ _ z => z
/-! ### more operators -/
section
variable {X : Cx} {K : PySem.W.Frag}
def repS (z : Str) (n : Int) : Str := ⟨(List.replicate n.toNat z.cps).foldl (· ++ ·) #[]⟩
def rRepS : R2 := fun x y H Q => ∃ z n, x = .str z ∧ y = .int n ∧ z.length = 1 ∧ 2 ≤ n ∧ n ≤ 1000 ∧ Q (.str (repS z n)) H
theorem repS_len (z : Str) (n : Int) : (repS z n).length = n.toNat * z.length := by
  have h : ∀ (k : Nat) (acc : Array Nat), ((List.replicate k z.cps).foldl (· ++ ·) acc).size = acc.size + k * z.cps.size := by
    intro k
    induction k with
    | zero => intro acc; simp
    | succ k ih =>
      intro acc
      rw [List.replicate_succ, List.foldl_cons, ih, Array.size_append, Nat.succ_mul]
      omega
  show ((List.replicate n.toNat z.cps).foldl (· ++ ·) #[]).size = _
  rw [h]
  simp [Str.length]
theorem op_repS : OpR X (binaryOp .Mult) rRepS := by
  intro pins s σ H x y v u Q I rx ry h
  obtain ⟨z, n, rfl, rfl, hz, h2, h3, q⟩ := h
  obtain ⟨t, rfl⟩ := rx
  obtain ⟨t', rfl⟩ := ry
  have e1 : ¬ n < 1 := by omega
  have e2 : (n == 1 || z.length == 0) = false := by
    rw [hz]
    have : n ≠ 1 := by omega
    simp [this]
  refine PySem.P.mul_str ?_ (fun _ _ => ?_) (fun _ _ => ?_) ?_
  · have a1 : ¬ n < -(2 ^ 63 : Int) := by omega
    have a2 : ¬ n ≥ 2 ^ 63 := by omega
    rw [decide_eq_false a1, decide_eq_false a2]
    rfl
  · rw [hz]
    have : (2 ^ 63 - 1) / n ≥ 1 := by
      have h5 : (1 : Int) * n ≤ 2 ^ 63 - 1 := by omega
      exact Int.le_ediv_of_mul_le (by omega) h5
    omega
  · rw [hz]
    refine decide_eq_false (Nat.not_lt.mpr ?_)
    exact Nat.le_of_lt (small1000 (by omega))
  · rw [if_neg e1, e2]
    exact ⟨by
      show (repS z n).length ≤ sizeLine
      rw [repS_len, hz]
      exact Nat.le_of_lt (small1000 (by omega)), ⟨.str (repS z n), H, I.tok _, ⟨_, rfl⟩, q⟩⟩
theorem k_catA (hK : X.K = K := by rfl) : OpR X (binaryOp .Add) (rCatA K) := by subst hK; exact op_catA
theorem k_repT (hK : X.K = K := by rfl) : OpR X (binaryOp .Mult) (rRepT K) := by subst hK; exact op_repT
end
theorem seqT_same {K : PySem.W.Frag} {H H' : Hp} {a : Addr} {xs : List V} (e : Same H H') (h : SqT K H a xs) : SqT K H' a xs := by
  rcases h with (h | ⟨o, h⟩) | h
  · exact .inl (.inl (e _ _ h))
  · exact .inl (.inr ⟨o, e _ _ h⟩)
  · exact .inr h
theorem tyTup {K : PySem.W.Frag} {H : Hp} {a : Addr} {xs : List V} (h : SqT K H a xs) : TyX K H (.ref a) (.type "tuple") := by
  rcases h with (h | ⟨o, h⟩) | ⟨o, its, n, h, c, _⟩
  · exact .base (.tup h)
  · exact .fTuple h
  · exact .kTuple h c
theorem tyx_same {K : PySem.W.Frag} {H H' : Hp} {v : V} {t : Value} (s : Same H H') (h : TyX K H v t) : TyX K H' v t := by
  cases h with
  | base b =>
    cases b with
    | non => exact .base .non
    | bl y => exact .base (.bl y)
    | int i => exact .base (.int i)
    | str y => exact .base (.str y)
    | flt y => exact .base (.flt y)
    | lst e => exact .base (.lst (s _ _ e))
    | frz e => exact .base (.frz (s _ _ e))
    | tup e => exact .base (.tup (s _ _ e))
    | dK e => exact .base (.dK (s _ _ e))
    | dT e => exact .base (.dT (s _ _ e))
    | ins e cl ha hn htk hm => exact .base (.ins (s _ _ e) cl ha hn htk hm)
  | byt y => exact .byt y
  | set e => exact .set (s _ _ e)
  | kList e c => exact .kList e c
  | kTuple e c => exact .kTuple e c
  | kDict e c => exact .kDict e c
  | fTuple e => exact .fTuple (s _ _ e)
  | fDict e => exact .fDict (s _ _ e)
/-- what isinstance(.., T) answers of a value -/
def Isi (K : PySem.W.Frag) (T : String) (H : Hp) (v : V) (b : Bool) : Prop := ∃ t, TyX K H v t ∧ PySem.W.kitOne K t (.type T) = some b
theorem Isi.same {K : PySem.W.Frag} {T : String} {H H' : Hp} {v : V} {b : Bool} (s : Same H H') (h : Isi K T H v b) : Isi K T H' v b := by
  obtain ⟨t, ty, e⟩ := h
  exact ⟨t, tyx_same s ty, e⟩
theorem isi_ty {K : PySem.W.Frag} {T t : String} {H : Hp} {v : V} {b : Bool} (h : TyX K H v (.type t)) (hb : kitB t T = some b) : Isi K T H v b := ⟨_, h, kit_ty hb⟩
/-- an object that was tracked ahead is not at a place that was free -/
theorem SB.same {d : Addr} {H0 H H' : Hp} (s : Same H0 H) (n : H0 d = none) (b : SB d H H') : Same H0 H' := fun c o h => b c o (ne_of_none h n) (s c o h)
theorem cat_any {K : PySem.W.Frag} {a b : Addr} {xs ys : List V} {H : Hp} {Q : VK} (ha : SqT K H a xs) (hb : SqT K H b ys) (hz : xs.length + ys.length ≤ sizeLine) (h : ∀ r H', Same H H' → SqT K H' r (xs ++ ys) → Q (.ref r) H') : rCatA K (.ref a) (.ref b) H Q := by
  refine ⟨a, b, xs, ys, rfl, rfl, ha, hb, hz, fun e => ?_, fun _ e => ?_, fun _ _ p np => ?_⟩
  · exact h b H (Same.refl H) (by rw [e, List.nil_append]; exact hb)
  · exact h a H (Same.refl H) (by rw [e, List.append_nil]; exact ha)
  · exact h p _ (Same.new np) (SqT.of upd_same)
/-- an item of a mapped list -/
theorem map_at {α β : Type} {f : α → β} {l : List α} {i : Nat} {y : β} (h : (l.map f)[i]? = some y) : ∃ x, l[i]? = some x ∧ y = f x := by
  rw [List.getElem?_map] at h
  cases e : l[i]? with
  | none => rw [e] at h; cases h
  | some x => rw [e] at h; exact ⟨x, rfl, (Option.some.inj h).symm⟩
theorem at_map {α β : Type} (f : α → β) {l : List α} {i : Nat} {x : α} (h : l[i]? = some x) : (l.map f)[i]? = some (f x) := by
  rw [List.getElem?_map, h]
  rfl
theorem eqv_refl_shaped {d : PyData} (h : SeqAt.shaped d = true) : PyData.eqv d d = true := SeqAt.eqv_refl d (SeqAt.canLay_of_shaped h)
/-! ### what repr may be asked of -/
def RepOk (d : PyData) : Prop := d.showable = true ∧ d.hasDict = false ∧ d.depth ≤ 60 ∧ d.shown.length ≤ sizeLine
theorem repr_ok {K : PySem.W.Frag} {H : Hp} {v : V} {d : PyData} {Q : VK} (dp : Dp K H v d) (r : RepOk d) (q : Q (.str d.shown) H) : rRepr K [v] H Q := ⟨v, d, rfl, dp, r.1, r.2.1, r.2.2.1, r.2.2.2, q⟩
theorem repOk_of {d : PyData} (c : d.canLay0 = true) (sh : d.showable = true) (i : d.intsShort 13 = true) (dp : d.depth ≤ 60) (w : d.weight ≤ 2 ^ 20) : RepOk d := by
  have hl : d.layable0 = true := by
    refine Bool.and_eq_true_iff.mpr ⟨Bool.and_eq_true_iff.mpr ⟨c, decide_eq_true (by omega)⟩, decide_eq_true w⟩
  refine ⟨sh, PyData.hasDict_of_layable hl, dp, ?_⟩
  have := shown_le13 hl i
  exact Nat.le_trans this (by decide)
theorem intsShort_map {α : Type} (f : α → PyData) (B : Nat) : ∀ l : List α, (∀ x ∈ l, (f x).intsShort B = true) → PyData.intsShortAll B (l.map f) = true
  | [], _ => by simp [PyData.intsShortAll]
  | x :: l, h => by
    have ih := intsShort_map f B l fun y hy => h y (List.mem_cons_of_mem _ hy)
    simp only [List.map_cons, PyData.intsShortAll, ih, h x List.mem_cons_self, Bool.and_self]
theorem weight_map {α : Type} (f : α → PyData) (n : Nat) : ∀ l : List α, (∀ x ∈ l, (f x).weight ≤ n) → PyData.weightAll (l.map f) ≤ l.length * (n + 1)
  | [], _ => by simp [PyData.weightAll]
  | x :: l, h => by
    have ih := weight_map f n l fun y hy => h y (List.mem_cons_of_mem _ hy)
    have := h x List.mem_cons_self
    simp only [List.map_cons, PyData.weightAll, List.length_cons, Nat.succ_mul]
    omega
theorem repOk_boolsT {bs : List Bool} (h : bs.length ≤ 100000) : RepOk (.tuple (bs.map PyData.bool)) := by
  refine repOk_of ?_ ?_ ?_ ?_ ?_
  · simp only [PyData.canLay0]
    exact canAll_map _ _ fun _ _ => by simp [PyData.canLay0]
  · simp only [PyData.showable]
    exact PyData.showableAll_bools bs
  · simp only [PyData.intsShort]
    exact intsShort_map _ _ _ fun _ _ => by simp [PyData.intsShort]
  · simp only [PyData.depth]
    have := depthAll_map PyData.bool 0 bs fun _ _ => by simp [PyData.depth]
    omega
  · simp only [PyData.weight]
    have := weight_map PyData.bool 0 bs fun _ _ => by simp [PyData.weight]
    omega
theorem seqT_sb {K : PySem.W.Frag} {d : Addr} {H H' : Hp} {a : Addr} {xs : List V} (n : a ≠ d) (e : SB d H H') (h : SqT K H a xs) : SqT K H' a xs := by
  rcases h with (h | ⟨o, h⟩) | h
  · exact .inl (.inl (e _ _ n h))
  · exact .inl (.inr ⟨o, e _ _ n h⟩)
  · exact .inr h
theorem dp_boolsT {K : PySem.W.Frag} {H : Hp} {p : Addr} {bs : List Bool} (h : SqT K H p (bs.map V.bl)) : Dp K H (.ref p) (.tuple (bs.map PyData.bool)) := .tup h (dp_bls _)
theorem dp_boolsL {K : PySem.W.Frag} {H : Hp} {p : Addr} {bs : List Bool} (h : SqL K H p (bs.map V.bl)) : Dp K H (.ref p) (.list (bs.map PyData.bool)) := .lst h (dp_bls _)
/-- the dice behind an item put to another list -/
theorem Dice.put {d D : Addr} {H : Hp} {o : HO} (h : Dice H d) (n : d ≠ D) : Dice (L2.upd H D o) d := by
  obtain ⟨x, y, z, g1, g2, g3, e⟩ := h
  exact ⟨x, y, z, g1, g2, g3, by rw [upd_ne n]; exact e⟩
/-- what was tracked ahead of a list at D, behind an item put to it -/
theorem SB.put {d D : Addr} {H0 H : Hp} {o : HO} (n : H0 D = none) (h : SB d H0 H) : SB d H0 (L2.upd H D o) := fun b u nb hb => by
  rw [upd_ne (ne_of_none hb n)]
  exact h b u nb hb
def topS (i : Nat) : Stmt := PySem.Challenge.pw_restwise_k03_whole_worlds_and_their_text.main.body.getD i (.Pass ⟨0, 0, 0, 0⟩)

local macro_rules | `(tactic| walk_at "rd1") => `(tactic| first
  | refine ⟨_, rfl, ?_⟩ | refine ⟨_, _, rfl, rfl, ?_⟩ | refine .inl ⟨_, rfl, ?_⟩ | refine .inr ⟨_, rfl, ?_⟩
  | refine And.intro rfl ?_ | refine And.intro ⟨_, rfl⟩ ?_ | refine And.intro (by assumption) ?_ | refine And.intro (by decide) ?_ | refine And.intro (.inl ⟨by decide, by decide⟩) ?_ | refine And.intro (.inr ⟨by decide, by decide⟩) ?_ | refine And.intro ⟨by decide, by decide⟩ ?_ | refine And.intro ⟨by decide, by decide, by decide⟩ ?_
  | refine And.intro (by show (0:Int) < _; first | decide | decide +kernel | assumption | omega) ?_ | refine And.intro (by simp only [List.length_cons, List.length_nil]; decide) ?_ | refine And.intro (by decide +kernel) ?_ | refine And.intro ⟨by decide, by decide +kernel⟩ ?_)
local macro_rules | `(tactic| walk_at "rd") => `(tactic| repeat (walk_at "rd1"))

abbrev s__law_dice : Stmt := topS 11
abbrev N__law_dice : List Str := ["script", "spot", "cell", "great", "blend"]
theorem sc__law_dice : FnScope N__law_dice ["script", "spot"] (defScope s__law_dice) := ⟨rfl, rfl, rfl, by decide +kernel, rfl, by decide +kernel, by decide +kernel⟩

def spDice (K : PySem.W.Frag) : Sp := fun vs H Q _ => ∃ (a : Addr) (ns : List Int) (n : Nat), vs = [.ref a, .int n] ∧ SqL K H a (ns.map V.int) ∧ ns.length ≤ 63 ∧ ∀ H' p, Same H H' → H p = none → Dice H' p → Q (.ref p) H'
section
variable {P : Program} {w : World} {K : PySem.W.Frag} {mg : Str → Option Value} {base : Heap}
theorem ok_dice (h : Has K mg "_law_dice" s__law_dice ["script", "spot"]) (z_len : mg "len" = none) (z_int : mg "int" = none) (z_abs : mg "abs" = none) (z_max : mg "max" = none) : Ok P w K mg base 1 "_law_dice" ["script", "spot"] (spDice K) := by
  obtain ⟨f, fd, g, F, b⟩ := h
  refine ⟨f, fd, g, F.kp, b, F.ok sc__law_dice (fun vs H Q E h => ?_) (fun cdv A outer s H vs Q E hr h => ?_)⟩
  · obtain ⟨a, ns, n, rfl, _⟩ := h
    rfl
  · obtain ⟨a, ns, n, rfl, hS, hlen, q⟩ := h
    refine ⟨_, (pss_cons (ps_set (i := 2) sc__law_dice.nd rfl (.inl rfl) (pe_op op_add (pe_op op_mul pe_int (pv 1)) pe_int))
  (pss_cons (ps_if (pt_cmpR op_lt (pv 1) (pe_callB (Rw.k_len (K := K)) (by rfl) z_len Rw.bt_len (pa_cons (pv 0) pa_nil)) (nomark _)) (pss_one (ps_set (i := 2) sc__law_dice.nd rfl (.inl rfl) (pe_ix (Rw.k_ixL (K := K)) (pv 0) (pv 1) (fun _ _ => rfl)))) pss_nil)
  (pss_cons (ps_set (i := 3) sc__law_dice.nd rfl (.inl rfl) (pe_op op_mod (pe_callTy call_int1 (by rfl) z_int Rw.bt_int (pa_cons (pe_callB call_abs (by rfl) z_abs Rw.bt_abs (pa_cons (pv 2) pa_nil)) pa_nil)) (pe_op Rw.op_powW (pe_op op_pow pe_int pe_int) pe_int)))
  (pss_cons (ps_set (i := 4) sc__law_dice.nd rfl (.inl rfl) (pe_op op_add (pe_op op_add (pe_op op_add (pe_op op_mul (pe_op op_mod (pe_callTy call_int1 (by rfl) z_int Rw.bt_int (pa_cons (pv 3) pa_nil)) pe_int) pe_int) (pe_op op_mul pe_int (pv 1))) (pe_op op_mul pe_int (pe_callTy call_int1 (by rfl) z_int Rw.bt_int (pa_cons (pe_cmpR op_lt (pv 2) pe_int (nomark _)) pa_nil)))) pe_int))
  (pss_one (ps_ret (pe_lst (pa_cons (pe_callB (call_max2 rfl) (by rfl) z_max Rw.bt_max (pa_cons pe_int (pa_cons (pe_op op_sub (pv 3) (pe_op op_pow pe_int pe_int)) pa_nil))) (pa_cons (pe_op op_mod (pe_callTy call_int1 (by rfl) z_int Rw.bt_int (pa_cons (pv 4) pa_nil)) pe_int) (pa_cons pe_int pa_nil)))))))))), ?_⟩
    walk_at "rd"
    refine ⟨a, _, rfl, .inl hS, ?_⟩
    walk_at "rd"
    refine ite2 (fun c => ?_) (fun c => ?_)
    · have hn : n < (ns.map V.int).length := by
        have := of_decide_eq_true c
        omega
      have hn' : n < ns.length := by simpa using hn
      have ha : atI (ns.map V.int) (n : Int) = some (.int ns[n]) := atI_nat (by rw [List.getElem?_map, List.getElem?_eq_getElem hn']; rfl)
      walk_at "rd"
      refine ⟨a, _, _, _, rfl, rfl, hS, ha, ?_⟩
      walk_at "rd"
      refine ⟨_, _, rfl, ?_⟩
      walk_at "rd"
      intro p hp
      refine q _ p (Same.new hp) hp ⟨_, _, _, ?_, ?_, ?_, upd_same⟩
      · split <;> omega
      · exact Int.emod_nonneg _ (by decide)
      · decide
    · walk_at "rd"
      refine ⟨_, _, rfl, ?_⟩
      walk_at "rd"
      intro p hp
      refine q _ p (Same.new hp) hp ⟨_, _, _, ?_, ?_, ?_, upd_same⟩
      · split <;> omega
      · exact Int.emod_nonneg _ (by decide)
      · decide
end

abbrev s__law_roll : Stmt := topS 12
abbrev N__law_roll : List Str := ["dice", "total", "found", "one", "two"]
theorem sc__law_roll : FnScope N__law_roll ["dice", "total"] (defScope s__law_roll) := ⟨rfl, rfl, rfl, by decide +kernel, rfl, by decide +kernel, by decide +kernel⟩

def spRoll : Sp := fun vs H Q _ => ∃ (d : Addr) (n : Int), vs = [.ref d, .int n] ∧ 0 < n ∧ n < 1073741824 ∧ Dice H d ∧ ∀ H' r, SB d H H' → Dice H' d → 0 ≤ r → r < n → Q (.int r) H'
section
variable {P : Program} {w : World} {K : PySem.W.Frag} {mg : Str → Option Value} {base : Heap}
theorem ok_roll (h : Has K mg "_law_roll" s__law_roll ["dice", "total"]) (z_int : mg "int" = none) : Ok P w K mg base 1 "_law_roll" ["dice", "total"] spRoll := by
  obtain ⟨f, fd, g, F, b⟩ := h
  refine ⟨f, fd, g, F.kp, b, F.ok sc__law_roll (fun vs H Q E h => ?_) (fun cdv A outer s H vs Q E hr h => ?_)⟩
  · obtain ⟨d, n, rfl, _⟩ := h
    rfl
  · obtain ⟨d, n, rfl, hn, hn2, ⟨x, y, z, h1, h2, h3, hd⟩, q⟩ := h
    have hL : SqL K H d [.int x, .int y, .int z] := SqL.of hd
    refine ⟨_, (pss_cons (ps_if (pt_cmpR op_gt (pe_ix (Rw.k_ixL (K := K)) (pv 0) pe_int (fun _ _ => rfl)) pe_int (nomark _)) (pss_cons (ps_set (i := 2) sc__law_roll.nd rfl (.inl rfl) (pe_op op_mod (pe_callTy call_int1 (by rfl) z_int Rw.bt_int (pa_cons (pe_ix (Rw.k_ixL (K := K)) (pv 0) pe_int (fun _ _ => rfl)) pa_nil)) (pv 1)))
  (pss_cons (ps_asg (pe_op op_fdiv (pe_ix (Rw.k_ixL (K := K)) (pv 0) pe_int (fun _ _ => rfl)) (pv 1)) (pg_sub (pv 0) pe_int set_list))
  (pss_one (ps_ret (pv 2))))) pss_nil)
  (pss_cons (ps_asg (pe_op op_add (pe_ix (Rw.k_ixL (K := K)) (pv 0) pe_int (fun _ _ => rfl)) pe_int) (pg_sub (pv 0) pe_int set_list))
  (pss_cons (ps_set (i := 3) sc__law_roll.nd rfl (.inl rfl) (pe_op op_mod (pe_callTy call_int1 (by rfl) z_int Rw.bt_int (pa_cons (pe_op op_add (pe_ix (Rw.k_ixL (K := K)) (pv 0) pe_int (fun _ _ => rfl)) (pe_op op_mul pe_int (pe_ix (Rw.k_ixL (K := K)) (pv 0) pe_int (fun _ _ => rfl)))) pa_nil)) pe_int))
  (pss_cons (ps_set (i := 4) sc__law_roll.nd rfl (.inl rfl) (pe_op op_add (pe_op op_mul (pe_op op_mod (pe_callTy call_int1 (by rfl) z_int Rw.bt_int (pa_cons (pe_op op_mul (pv 3) (pv 3)) pa_nil)) pe_int) (pv 3)) (pe_op op_mul pe_int (pe_ix (Rw.k_ixL (K := K)) (pv 0) pe_int (fun _ _ => rfl)))))
  (pss_cons (ps_set (i := 4) sc__law_roll.nd rfl (.inl rfl) (pe_op op_mod (pe_callTy call_int1 (by rfl) z_int Rw.bt_int (pa_cons (pv 4) pa_nil)) pe_int))
  (pss_one (ps_ret (pe_op op_mod (pe_callTy call_int1 (by rfl) z_int Rw.bt_int (pa_cons (pe_op op_fdiv (pv 4) pe_int) pa_nil)) (pv 1))))))))), ?_⟩
    walk_at "rd"
    refine ⟨d, _, _, _, rfl, rfl, hL, rfl, ?_⟩
    walk_at "rd"
    refine ite2 (fun c => ?_) (fun c => ?_)
    · walk_at "rd"
      refine ⟨d, _, _, _, rfl, rfl, hL, rfl, ?_⟩
      walk_at "rd"
      refine ⟨d, _, _, _, rfl, rfl, hL, rfl, ?_⟩
      walk_at "rd"
      refine ⟨⟨hn, hn2⟩, ?_⟩
      walk_at "rd"
      refine ⟨d, _, _, 0, rfl, rfl, hd, rfl, ?_⟩
      walk_at "rd"
      have hx : 0 ≤ x / n := Int.ediv_nonneg h1 (by omega)
      exact q _ _ SB.upd ⟨x / n, y, z, hx, h2, h3, upd_same⟩ (Int.emod_nonneg _ (by omega)) (Int.emod_lt_of_pos _ hn)
    · walk_at "rd"
      refine ⟨d, _, _, _, rfl, rfl, hL, rfl, ?_⟩
      walk_at "rd"
      refine ⟨d, _, _, 2, rfl, rfl, hd, rfl, ?_⟩
      have hL2 : SqL K (upd H d (.lst [.int x, .int y, .int (z + 1)])) d [.int x, .int y, .int (z + 1)] := SqL.of upd_same
      walk_at "rd"
      refine ⟨d, _, _, _, rfl, rfl, hL2, rfl, ?_⟩
      walk_at "rd"
      refine ⟨d, _, _, _, rfl, rfl, hL2, rfl, ?_⟩
      walk_at "rd"
      have p1 : ∀ t : Int, 0 ≤ t % 2305843009213693951 ∧ t % 2305843009213693951 < 2305843009213693951 := fun t => ⟨Int.emod_nonneg _ (by decide), Int.emod_lt_of_pos _ (by decide)⟩
      have p2 : ∀ t : Int, 0 ≤ t % 2305843009213693907 ∧ t % 2305843009213693907 < 2305843009213693907 := fun t => ⟨Int.emod_nonneg _ (by decide), Int.emod_lt_of_pos _ (by decide)⟩
      obtain ⟨o1, o2⟩ := p1 (y + 998244391 * (z + 1))
      refine ⟨.inl ⟨by omega, by omega⟩, ?_⟩
      walk_at "rd"
      obtain ⟨t1, t2⟩ := p2 ((y + 998244391 * (z + 1)) % 2305843009213693951 * ((y + 998244391 * (z + 1)) % 2305843009213693951))
      refine ⟨.inl ⟨Int.lt_of_lt_of_le (by decide) t1, Int.lt_trans t2 (by decide)⟩, ?_⟩
      walk_at "rd"
      refine ⟨d, _, _, _, rfl, rfl, hL2, rfl, ?_⟩
      walk_at "rd"
      exact q _ _ SB.upd ⟨x, y, z + 1, h1, h2, by omega, upd_same⟩ (Int.emod_nonneg _ (by omega)) (Int.emod_lt_of_pos _ hn)
end

abbrev s__law_pick : Stmt := topS 13
abbrev N__law_pick : List Str := ["dice", "items"]
theorem sc__law_pick : FnScope N__law_pick ["dice", "items"] (defScope s__law_pick) := ⟨rfl, rfl, rfl, by decide +kernel, rfl, by decide +kernel, by decide +kernel⟩

def spPick (K : PySem.W.Frag) : Sp := fun vs H Q _ => ∃ (d l : Addr) (xs : List V), vs = [.ref d, .ref l] ∧ 0 < xs.length ∧ xs.length < 1073741824 ∧ Dice H d ∧ (∀ H', SB d H H' → SqL K H' l xs ∨ SqT K H' l xs) ∧ ∀ H' v, SB d H H' → Dice H' d → v ∈ xs → Q v H'
section
variable {P : Program} {w : World} {K : PySem.W.Frag} {mg : Str → Option Value} {base : Heap}
theorem ok_pick (h : Has K mg "_law_pick" s__law_pick ["dice", "items"]) (R : Ok P w K mg base 1 "_law_roll" ["dice", "total"] spRoll) (z_len : mg "len" = none) : Ok P w K mg base 2 "_law_pick" ["dice", "items"] (spPick K) := by
  obtain ⟨f, fd, g, F, b⟩ := h
  obtain ⟨fR, fdR, g__law_roll, k__law_roll, b__law_roll, G__law_roll⟩ := R
  refine ⟨f, fd, g, F.kp, b, F.ok sc__law_pick (fun vs H Q E h => ?_) (fun cdv A outer s H vs Q E hr h => ?_)⟩
  · obtain ⟨d, l, xs, rfl, _⟩ := h
    rfl
  · obtain ⟨d, l, xs, rfl, h0, h1, hD, hS, q⟩ := h
    have hr__law_roll := hr
    refine ⟨_, (pss_one (ps_ret (pe_ix (Rw.k_ix (K := K)) (pv 1) (pe_call G__law_roll hr__law_roll (by rfl) g__law_roll k__law_roll b__law_roll .nil pass0 (pa_cons (pv 0) (pa_cons (pe_callB (Rw.k_len (K := K)) (by rfl) z_len Rw.bt_len (pa_cons (pv 1) pa_nil)) pa_nil))) (fun _ _ => rfl)))), ?_⟩
    walk_at "rd"
    refine ⟨l, xs, rfl, hS H (SB.refl _ _), ?_⟩
    refine ⟨d, (xs.length : Int), rfl, by omega, by omega, hD, fun H' r sb hD' r0 r1 => ?_⟩
    have hr' : r.toNat < xs.length := by omega
    have ha : atI xs r = some xs[r.toNat] := by
      have := atI_nat (xs := xs) (j := r.toNat) (List.getElem?_eq_getElem hr')
      rwa [Int.toNat_of_nonneg r0] at this
    have hq := q H' _ sb hD' (List.getElem_mem hr')
    rcases hS H' sb with hl | ht
    · exact .inl ⟨l, xs, _, _, rfl, rfl, hl, ha, hq⟩
    · exact .inr (.inl ⟨l, xs, _, _, rfl, rfl, ht, ha, hq⟩)
end





/-! ### worlds and their texts -/
def dg (b : Bool) : Nat := if b then 49 else 48
def wtext (bs : List Bool) : Str := ⟨(bs.map dg).toArray⟩
def isWT (z : Str) : Bool := decide (z.length ≤ 200) && z.cps.toList.all fun c => c == 48 || c == 49
def rbits (z : Str) : List Bool := z.cps.toList.map fun c => c == 49
theorem wtext_len (bs : List Bool) : (wtext bs).length = bs.length := by
  show (bs.map dg).toArray.size = bs.length
  rw [List.size_toArray, List.length_map]
theorem rbits_wtext (bs : List Bool) : rbits (wtext bs) = bs := by
  unfold rbits wtext
  rw [List.map_map]
  have h : ((fun c => c == 49) ∘ dg) = id := by
    funext b
    cases b <;> rfl
  rw [h, List.map_id]
theorem isWT_wtext {bs : List Bool} (h : bs.length ≤ 200) : isWT (wtext bs) = true := by
  unfold isWT
  rw [wtext_len, decide_eq_true h, Bool.true_and, List.all_eq_true]
  intro c hc
  obtain ⟨b, _, rfl⟩ := List.mem_map.mp (show c ∈ bs.map dg from hc)
  cases b <;> rfl
/-- each text of noughts and ones is the text of its bits -/
theorem wtext_rbits {z : Str} (h : isWT z = true) : wtext (rbits z) = z := by
  unfold isWT at h
  rw [Bool.and_eq_true, List.all_eq_true] at h
  have e : (rbits z).map dg = z.cps.toList := by
    unfold rbits
    rw [List.map_map]
    have h2 := h.2
    generalize z.cps.toList = l at h2
    induction l with
    | nil => rfl
    | cons c l ih =>
      have hc := h2 c List.mem_cons_self
      rw [List.map_cons, ih fun x hx => h2 x (List.mem_cons_of_mem _ hx)]
      have : dg (c == 49) = c := by
        rw [Bool.or_eq_true, beq_iff_eq, beq_iff_eq] at hc
        rcases hc with rfl | rfl <;> rfl
      show dg (c == 49) :: l = c :: l
      rw [this]
  unfold wtext
  rw [e]
theorem rbits_len (z : Str) : (rbits z).length = z.length := by
  unfold rbits
  rw [List.length_map, Array.length_toList]
  rfl
theorem wtext_app (as bs : List Bool) : wtext (as ++ bs) = wtext as ++ wtext bs := by
  refine Str.ext' ?_
  rw [Str.cps_append]
  unfold wtext
  rw [List.map_append]
  simp
def dgs (b : Bool) : Str := if b then "1" else "0"
theorem cat_dgs : ∀ bs : List Bool, cat (bs.map dgs) = wtext bs
  | [] => rfl
  | b :: bs => by
    show dgs b ++ cat (bs.map dgs) = wtext ([b] ++ bs)
    rw [cat_dgs bs, wtext_app]
    cases b <;> rfl
theorem dgs_len (b : Bool) : (dgs b).length = 1 := by cases b <;> rfl
theorem in01 (c : Nat) : inV (.str ⟨#[c]⟩) [.str "0", .str "1"] = (c == 48 || c == 49) := by
  have e : ∀ k : Nat, ((⟨#[k]⟩ : Str) == (⟨#[c]⟩ : Str)) = (c == k) := by
    intro k
    rw [Bool.eq_iff_iff, beq_iff_eq, beq_iff_eq]
    refine ⟨fun h => ?_, fun h => by rw [h]⟩
    injection h with h
    have := congrArg Array.toList h
    simpa using this.symm
  show ((⟨#[48]⟩ : Str) == (⟨#[c]⟩ : Str) || ((⟨#[49]⟩ : Str) == (⟨#[c]⟩ : Str) || false)) = _
  rw [e, e, Bool.or_false]
theorem is1 (c : Nat) : decide (V.str ⟨#[c]⟩ = V.str "1") = (c == 49) := by
  by_cases h : c = 49
  · subst h
    rfl
  · rw [decide_eq_false ?_]
    · exact (beq_eq_false_iff_ne.mpr h).symm
    · intro q
      injection q with q
      have q' : (⟨#[c]⟩ : Str) = ⟨#[49]⟩ := q
      injection q' with q'
      have := congrArg Array.toList q'
      exact h (by simpa using this)
def NotTup (K : PySem.W.Frag) (H : Hp) (v : V) : Prop := Isi K "tuple" H v false
def spIsWorld (K : PySem.W.Frag) : Sp := fun vs H Q _ => ∃ v, vs = [v] ∧
  ((∃ a xs bs, v = .ref a ∧ SqT K H a xs ∧ xs.length ≤ sizeLine ∧ Paired (fun x b => Isi K "bool" H x b) xs bs ∧ ∀ H', Same H H' → Q (.bl (decide (xs.length ≤ 200) && bs.all id)) H') ∨
    (Isi K "tuple" H v false ∧ ∀ H', Same H H' → Q (.bl false) H'))
def spIsWT (K : PySem.W.Frag) : Sp := fun vs H Q _ => ∃ v, vs = [v] ∧
  ((∃ z, v = .str z ∧ z.length ≤ sizeLine ∧ ∀ H', Same H H' → Q (.bl (isWT z)) H') ∨ (Isi K "str" H v false ∧ ∀ H', Same H H' → Q (.bl false) H'))
theorem bools_isi {K : PySem.W.Frag} {H : Hp} : ∀ bs : List Bool, Paired (fun x b => Isi K "bool" H x b) (bs.map V.bl) (bs.map fun _ => true)
  | [] => .nil
  | b :: bs => .cons (isi_ty (.base (.bl b)) (show kitB "bool" "bool" = some true by decide +kernel)) (bools_isi bs)
theorem paired_get {α β : Type} {F : α → β → Prop} {xs : List α} {ys : List β} (p : Paired F xs ys) : ∀ {i : Nat} {x : α}, xs[i]? = some x → ∃ y, ys[i]? = some y ∧ F x y := by
  induction p with
  | nil => intro i x h; simp at h
  | cons r t ih =>
    intro i x h
    cases i with
    | zero =>
      obtain rfl := Option.some.inj h
      exact ⟨_, rfl, r⟩
    | succ i => exact ih (by simpa using h)
theorem paired_len {α β : Type} {F : α → β → Prop} : ∀ {xs : List α} {ys : List β}, Paired F xs ys → xs.length = ys.length
  | _, _, .nil => rfl
  | _, _, .cons r t => by rw [List.length_cons, List.length_cons, paired_len t]

abbrev s_is_world : Stmt := topS 6
abbrev N_is_world : List Str := ["value", "turn"]
theorem sc_is_world : FnScope N_is_world ["value"] (defScope s_is_world) := ⟨rfl, rfl, rfl, by decide +kernel, rfl, by decide +kernel, by decide +kernel⟩
section
variable {P : Program} {w : World} {K : PySem.W.Frag} {mg : Str → Option Value} {base : Heap}
theorem ok_is_world {t200 : Tok} (h : Has K mg "is_world" s_is_world ["value"]) (g_MAX_WORLD : mg "MAX_WORLD" = some (.int 200 t200)) (z_len : mg "len" = none) (z_isinstance : mg "isinstance" = none) (z_tuple : mg "tuple" = none) (z_bool : mg "bool" = none) (z_all : mg "all" = none) : Ok P w K mg base 1 "is_world" ["value"] (spIsWorld K) := by
  obtain ⟨f, fd, g, F, b⟩ := h
  refine ⟨f, fd, g, F.kp, b, F.ok sc_is_world (fun vs H Q E h => ?_) (fun cdv A outer s H vs Q E hr h => ?_)⟩
  · obtain ⟨v, rfl, _⟩ := h
    rfl
  · obtain ⟨v, rfl, h⟩ := h
    refine ⟨_, (pss_cons (ps_if (PW.pt (pw_or (pt_not (pt_val (pe_callB (Rw.k_isi (K := K)) (by rfl) z_isinstance Rw.bt_isinstance (pa_cons (pv 0) (pa_cons (pe_bltn (v := .ty "tuple") (by rfl) z_tuple Rw.bt_tuple rfl) pa_nil))))) (pw_or1 (pt_cmpR op_gt (pe_callB (Rw.k_len (K := K)) (by rfl) z_len Rw.bt_len (pa_cons (pv 0) pa_nil)) (pe_glob (v := .int 200) rfl g_MAX_WORLD ⟨_, rfl⟩) (nomark _))))) (pss_one (ps_ret pe_bl)) pss_nil)
  (pss_one (ps_ret (pe_callB (Rw.k_all (K := K)) (by rfl) z_all Rw.bt_all (pa_cons (pe_lc (own := [("turn", 1)]) rfl sc_is_world.nd (Rw.k_pt (K := K) (pv 0)) (blkOk_by (own := [("turn", 1)]) (N := N_is_world) (sc := defScope s_is_world) (by decide +kernel)) (fun _ _ _ _ _ => (pg_name (i := 1) sc_is_world.nd rfl (.inl rfl))) (fun _ _ _ _ _ => pts_nil) (fun _ _ _ _ _ => (pe_callB (Rw.k_isi (K := K)) (by rfl) z_isinstance Rw.bt_isinstance (pa_cons (pv 1) (pa_cons (pe_bltn (v := .ty "bool") (by rfl) z_bool Rw.bt_bool rfl) pa_nil))))) pa_nil))))), ?_⟩
    rcases h with ⟨a, xs, bs, rfl, hS, hz, hp, q⟩ | ⟨⟨t, ty, ki⟩, q⟩
    · walk_at "rd"
      refine ⟨_, _, _, _, true, rfl, .ty _, tyTup hS, kit_ty (by decide +kernel), ?_⟩
      walk_at "rd"
      refine ⟨a, xs, rfl, .inr hS, ?_⟩
      walk_at "rd"
      by_cases c : (200 : Int) < ((xs.length : Nat) : Int)
      · rw [decide_eq_true c]
        have e : decide (xs.length ≤ 200) = false := decide_eq_false (by omega)
        rw [e] at q
        walk_at "rd"
        exact q H (Same.refl H)
      · rw [decide_eq_false c]
        have e : decide (xs.length ≤ 200) = true := decide_eq_true (by omega)
        rw [e, Bool.true_and] at q
        walk_at "rd"
        refine ⟨⟨_, hS⟩, fun D nD => ?_⟩
        refine lc_tup (K := K) (a := a) (xs := xs) (PvA H D fun i => (bs.map V.bl).take i) (PvA.start nD rfl) (fun i H2 _ p => seqT_same p.1 hS) (fun i x H2 hx p => ?_) (fun H2 p => ?_)
        · obtain ⟨b, hb, t, ty, ki⟩ := paired_get hp hx
          have hb' : (bs.map V.bl)[i]? = some (V.bl b) := by
            rw [List.getElem?_map, hb]
            rfl
          refine ⟨rfl, ?_⟩
          walk_at "rd"
          refine ⟨_, _, _, _, b, rfl, .ty _, tyx_same p.1 ty, ki, ?_⟩
          refine PvA.put nD p.1 p.2 (take_lt (List.getElem?_eq_some_iff.mp hb').1 ?_) (take_put hb')
          rw [List.length_map, ← paired_len hp]
          exact hz
        · have e2 : H2 D = some (.lst (bs.map V.bl)) := by
            have h4 : H2 D = some (.lst ((bs.map V.bl).take xs.length)) := p.2
            rwa [List.take_of_length_le (by rw [List.length_map, ← paired_len hp]; exact Nat.le_refl _)] at h4
          walk_at "rd"
          exact ⟨D, bs, rfl, SqL.of e2, q H2 p.1⟩
    · walk_at "rd"
      refine ⟨_, _, _, _, false, rfl, .ty _, ty, ki, ?_⟩
      walk_at "rd"
      exact q H (Same.refl H)
end

abbrev s__is_world_text : Stmt := topS 9
abbrev N__is_world_text : List Str := ["value", "sign"]
theorem sc__is_world_text : FnScope N__is_world_text ["value"] (defScope s__is_world_text) := ⟨rfl, rfl, rfl, by decide +kernel, rfl, by decide +kernel, by decide +kernel⟩
section
variable {P : Program} {w : World} {K : PySem.W.Frag} {mg : Str → Option Value} {base : Heap}
theorem ok_is_wt {t200 : Tok} (h : Has K mg "_is_world_text" s__is_world_text ["value"]) (g_MAX_WORLD : mg "MAX_WORLD" = some (.int 200 t200)) (z_len : mg "len" = none) (z_isinstance : mg "isinstance" = none) (z_str : mg "str" = none) (z_all : mg "all" = none) : Ok P w K mg base 1 "_is_world_text" ["value"] (spIsWT K) := by
  obtain ⟨f, fd, g, F, b⟩ := h
  refine ⟨f, fd, g, F.kp, b, F.ok sc__is_world_text (fun vs H Q E h => ?_) (fun cdv A outer s H vs Q E hr h => ?_)⟩
  · obtain ⟨v, rfl, _⟩ := h
    rfl
  · obtain ⟨v, rfl, h⟩ := h
    refine ⟨_, (pss_cons (ps_if (PW.pt (pw_or (pt_not (pt_val (pe_callB (Rw.k_isi (K := K)) (by rfl) z_isinstance Rw.bt_isinstance (pa_cons (pv 0) (pa_cons (pe_bltn (v := .ty "str") (by rfl) z_str Rw.bt_str rfl) pa_nil))))) (pw_or1 (pt_cmpR op_gt (pe_callB call_len_str (by rfl) z_len Rw.bt_len (pa_cons (pv 0) pa_nil)) (pe_glob (v := .int 200) rfl g_MAX_WORLD ⟨_, rfl⟩) (nomark _))))) (pss_one (ps_ret pe_bl)) pss_nil)
  (pss_one (ps_ret (pe_callB (Rw.k_all (K := K)) (by rfl) z_all Rw.bt_all (pa_cons (pe_lc (own := [("sign", 1)]) rfl sc__is_world_text.nd (pi_str (pv 0)) (blkOk_by (own := [("sign", 1)]) (N := N__is_world_text) (sc := defScope s__is_world_text) (by decide +kernel)) (fun _ _ _ _ _ => (pg_name (i := 1) sc__is_world_text.nd rfl (.inl rfl))) (fun _ _ _ _ _ => pts_nil) (fun _ _ _ _ _ => (pe_cmpR (Rw.k_in (K := K)) (pv 1) (pe_tup (pa_cons pe_str (pa_cons pe_str pa_nil))) rfl))) pa_nil))))), ?_⟩
    rcases h with ⟨z, rfl, hz, q⟩ | ⟨⟨t, ty, ki⟩, q⟩
    · walk_at "rd"
      refine ⟨_, _, _, _, true, rfl, .ty _, .base (.str _), kit_ty (by decide +kernel), ?_⟩
      walk_at "rd"
      by_cases c : (200 : Int) < ((z.length : Nat) : Int)
      · rw [decide_eq_true c]
        have e : isWT z = false := by
          unfold isWT
          rw [decide_eq_false (show ¬ z.length ≤ 200 by omega)]
          rfl
        rw [e] at q
        walk_at "rd"
        exact q H (Same.refl H)
      · rw [decide_eq_false c]
        have e : isWT z = z.cps.toList.all fun c => c == 48 || c == 49 := by
          unfold isWT
          rw [decide_eq_true (show z.length ≤ 200 by omega)]
          rfl
        rw [e] at q
        walk_at "rd"
        intro D nD
        let bs : List Bool := z.cps.toList.map fun c => c == 48 || c == 49
        have bl : bs.length = z.cps.size := by
          show (z.cps.toList.map _).length = _
          rw [List.length_map, Array.length_toList]
        refine lc_it walk_str (PvA H D fun i => (bs.map V.bl).take i) (PvA.start nD rfl) (fun _ _ _ _ => trivial) (fun i x H2 H3 hi p hy => ?_) (fun H2 p => ?_)
        · obtain ⟨rfl, c, hc, rfl⟩ := hy
          have hb : (bs.map V.bl)[i]? = some (V.bl (c == 48 || c == 49)) := by
            show ((z.cps.toList.map _).map V.bl)[i]? = _
            rw [List.map_map, List.getElem?_map, Array.getElem?_toList, hc]
            rfl
          refine ⟨rfl, ?_⟩
          walk_at "rd"
          intro p1 n1
          have s1 := Same.new (o := HO.tup [.str "0", .str "1"]) n1
          refine ⟨p1, _, rfl, .inr (SqT.of upd_same), rfl, rfl, ?_⟩
          rw [in01]
          refine PvA.put nD (p.1.trans s1) (s1 _ _ p.2) (take_lt (List.getElem?_eq_some_iff.mp hb).1 ?_) (take_put hb)
          rw [List.length_map, bl]
          exact hz
        · have e2 : H2 D = some (.lst (bs.map V.bl)) := by
            have h4 : H2 D = some (.lst ((bs.map V.bl).take z.cps.size)) := p.2
            rwa [List.take_of_length_le (by rw [List.length_map, bl]; exact Nat.le_refl _)] at h4
          walk_at "rd"
          refine ⟨D, bs, rfl, SqL.of e2, ?_⟩
          have e3 : bs.all id = z.cps.toList.all fun c => c == 48 || c == 49 := by
            show (z.cps.toList.map _).all id = _
            rw [List.all_map]
            rfl
          rw [e3]
          exact q H2 p.1
    · walk_at "rd"
      refine ⟨_, _, _, _, false, rfl, .ty _, ty, ki, ?_⟩
      walk_at "rd"
      exact q H (Same.refl H)
end




abbrev s_write_world : Stmt := topS 7
abbrev N_write_world : List Str := ["world", "turn"]
theorem sc_write_world : FnScope N_write_world ["world"] (defScope s_write_world) := ⟨rfl, rfl, rfl, by decide +kernel, rfl, by decide +kernel, by decide +kernel⟩

def spWrite (K : PySem.W.Frag) : Sp := fun vs H Q _ => ∃ a bs, vs = [.ref a] ∧ SqT K H a (bs.map V.bl) ∧ bs.length ≤ 200 ∧ ∀ H', Same H H' → Q (.str (wtext bs)) H'
section
variable {P : Program} {w : World} {K : PySem.W.Frag} {mg : Str → Option Value} {base : Heap}
theorem ok_write (h : Has K mg "write_world" s_write_world ["world"]) (R : Ok P w K mg base 1 "is_world" ["value"] (spIsWorld K)) : Ok P w K mg base 2 "write_world" ["world"] (spWrite K) := by
  obtain ⟨f, fd, g, F, b⟩ := h
  obtain ⟨fR, fdR, g_is_world, k_is_world, b_is_world, G_is_world⟩ := R
  refine ⟨f, fd, g, F.kp, b, F.ok sc_write_world (fun vs H Q E h => ?_) (fun cdv A outer s H vs Q E hr h => ?_)⟩
  · obtain ⟨a, bs, rfl, _⟩ := h
    rfl
  · obtain ⟨a, bs, rfl, hS, hl, q⟩ := h
    have hr_is_world := hr
    have hz : (bs.map V.bl).length ≤ sizeLine := by
      rw [List.length_map]
      exact Nat.le_of_lt (small1000 (by omega))
    refine ⟨_, (pss_cons (ps_if (pt_not (pt_val (pe_call G_is_world hr_is_world (by rfl) g_is_world k_is_world b_is_world .nil pass0 (pa_cons (pv 0) pa_nil)))) (pss_one ps_never) pss_nil)
  (pss_one (ps_ret (Rw.k_join (K := K) (pe_join pe_str (pe_lc (own := [("turn", 1)]) rfl sc_write_world.nd (Rw.k_pt (K := K) (pv 0)) (blkOk_by (own := [("turn", 1)]) (N := N_write_world) (sc := defScope s_write_world) (by decide +kernel)) (fun _ _ _ _ _ => (pg_name (i := 1) sc_write_world.nd rfl (.inl rfl))) (fun _ _ _ _ _ => pts_nil) (fun _ _ _ _ _ => (pe_ifExp (pt_val (pv 1)) pe_str pe_str)))))))), ?_⟩
    walk_at "rd"
    refine .inl ⟨a, _, _, rfl, hS, hz, bools_isi bs, fun H1 s1 => ?_⟩
    have e : (decide ((bs.map V.bl).length ≤ 200) && (bs.map fun _ => true).all id) = true := by
      rw [decide_eq_true (by rw [List.length_map]; exact hl), List.all_map]
      show (true && bs.all fun _ => true) = true
      rw [List.all_eq_true.mpr fun _ _ => rfl]
      rfl
    rw [e]
    walk_at "rd"
    refine ⟨⟨_, seqT_same s1 hS⟩, fun D nD => ?_⟩
    refine lc_tup (K := K) (a := a) (xs := bs.map V.bl) (PvA H1 D fun i => ((bs.map dgs).map V.str).take i) (PvA.start nD rfl) (fun i H2 _ p => seqT_same (s1.trans p.1) hS) (fun i x H2 hx p => ?_) (fun H2 p => ?_)
    · obtain ⟨b, hb, rfl⟩ : ∃ b, bs[i]? = some b ∧ x = V.bl b := by
        rw [List.getElem?_map] at hx
        cases e : bs[i]? with
        | none => rw [e] at hx; cases hx
        | some b => rw [e] at hx; exact ⟨b, rfl, (Option.some.inj hx).symm⟩
      have hb' : ((bs.map dgs).map V.str)[i]? = some (V.str (dgs b)) := by
        rw [List.map_map, List.getElem?_map, hb]
        rfl
      have hz' := take_lt (List.getElem?_eq_some_iff.mp hb').1 (by rw [List.length_map, List.length_map]; rw [List.length_map] at hz; exact hz)
      refine ⟨rfl, ?_⟩
      walk_at "rd"
      cases b with
      | true => exact PvA.put nD p.1 p.2 hz' (take_put hb')
      | false => exact PvA.put nD p.1 p.2 hz' (take_put hb')
    · have e2 : H2 D = some (.lst ((bs.map dgs).map V.str)) := by
        have h4 : H2 D = some (.lst (((bs.map dgs).map V.str).take (bs.map V.bl).length)) := p.2
        rwa [List.take_of_length_le (by rw [List.length_map, List.length_map, List.length_map]; exact Nat.le_refl _)] at h4
      have hs1 := sum_ones (zs := bs.map dgs) (by
        intro z hz
        obtain ⟨b, _, rfl⟩ := List.mem_map.mp hz
        exact dgs_len b)
      refine ⟨Str.ofString "", D, bs.map dgs, rfl, rfl, .inl (SqL.of e2), ?_, ?_⟩
      · rw [hs1, List.length_map]
        show bs.length + bs.length * 0 ≤ 16777216
        omega
      · rw [join_nil, cat_dgs]
        exact q H2 (s1.trans p.1)
end

abbrev s_read_world : Stmt := topS 8
abbrev N_read_world : List Str := ["text", "sign"]
theorem sc_read_world : FnScope N_read_world ["text"] (defScope s_read_world) := ⟨rfl, rfl, rfl, by decide +kernel, rfl, by decide +kernel, by decide +kernel⟩

def spRead (K : PySem.W.Frag) : Sp := fun vs H Q _ => ∃ bs, vs = [.str (wtext bs)] ∧ bs.length ≤ 200 ∧ ∀ H' p, Same H H' → H p = none → H' p = some (.tup (bs.map V.bl)) → Q (.ref p) H'
section
variable {P : Program} {w : World} {K : PySem.W.Frag} {mg : Str → Option Value} {base : Heap}
theorem ok_read (h : Has K mg "read_world" s_read_world ["text"]) (R : Ok P w K mg base 1 "_is_world_text" ["value"] (spIsWT K)) (z_tuple : mg "tuple" = none) : Ok P w K mg base 2 "read_world" ["text"] (spRead K) := by
  obtain ⟨f, fd, g, F, b⟩ := h
  obtain ⟨fR, fdR, g__is_world_text, k__is_world_text, b__is_world_text, G__is_world_text⟩ := R
  refine ⟨f, fd, g, F.kp, b, F.ok sc_read_world (fun vs H Q E h => ?_) (fun cdv A outer s H vs Q E hr h => ?_)⟩
  · obtain ⟨bs, rfl, _⟩ := h
    rfl
  · obtain ⟨bs, rfl, hl, q⟩ := h
    have hr__is_world_text := hr
    have hz : (wtext bs).length ≤ sizeLine := by
      rw [wtext_len]
      exact Nat.le_of_lt (small1000 (by omega))
    refine ⟨_, (pss_cons (ps_if (pt_not (pt_val (pe_call G__is_world_text hr__is_world_text (by rfl) g__is_world_text k__is_world_text b__is_world_text .nil pass0 (pa_cons (pv 0) pa_nil)))) (pss_one ps_never) pss_nil)
  (pss_one (ps_ret (pe_callTy (Rw.k_tupleof (K := K)) (by rfl) z_tuple Rw.bt_tuple (pa_cons (pe_lc (own := [("sign", 1)]) rfl sc_read_world.nd (pi_str (pv 0)) (blkOk_by (own := [("sign", 1)]) (N := N_read_world) (sc := defScope s_read_world) (by decide +kernel)) (fun _ _ _ _ _ => (pg_name (i := 1) sc_read_world.nd rfl (.inl rfl))) (fun _ _ _ _ _ => pts_nil) (fun _ _ _ _ _ => (pe_cmpR op_eq (pv 1) pe_str (nomark _)))) pa_nil))))), ?_⟩
    walk_at "rd"
    intro H1 s1
    rw [isWT_wtext hl]
    walk_at "rd"
    intro D nD
    refine lc_it walk_str (PvA H1 D fun i => (bs.map V.bl).take i) (PvA.start nD rfl) (fun _ _ _ _ => trivial) (fun i x H2 H3 hi p hy => ?_) (fun H2 p => ?_)
    · obtain ⟨rfl, c, hc, rfl⟩ := hy
      have hb : (bs.map V.bl)[i]? = some (V.bl (c == 49)) := by
        have hc' : (wtext bs).cps.toList[i]? = some c := by rw [Array.getElem?_toList]; exact hc
        rw [← rbits_wtext bs]
        unfold rbits
        rw [List.map_map, List.getElem?_map, hc']
        rfl
      refine ⟨rfl, ?_⟩
      walk_at "rd"
      rw [is1]
      refine PvA.put nD p.1 p.2 (take_lt (List.getElem?_eq_some_iff.mp hb).1 ?_) (take_put hb)
      rw [List.length_map]
      exact Nat.le_of_lt (small1000 (by omega))
    · have e2 : H2 D = some (.lst (bs.map V.bl)) := by
        have h4 : H2 D = some (.lst ((bs.map V.bl).take (wtext bs).cps.size)) := p.2
        rwa [List.take_of_length_le (by rw [List.length_map]; exact Nat.le_of_eq (wtext_len bs).symm)] at h4
      walk_at "rd"
      refine ⟨D, _, rfl, .inl ⟨SqL.of e2, fun p2 n2 => ?_⟩⟩
      have s2 := Same.new (o := HO.tup (bs.map V.bl)) n2
      exact q _ p2 ((s1.trans p.1).trans s2) (s1.free (p.1.free n2)) upd_same
end

abbrev s__law_world : Stmt := topS 14
abbrev N__law_world : List Str := ["dice", "turn"]
theorem sc__law_world : FnScope N__law_world ["dice"] (defScope s__law_world) := ⟨rfl, rfl, rfl, by decide +kernel, rfl, by decide +kernel, by decide +kernel⟩

def spWorld : Sp := fun vs H Q _ => ∃ d, vs = [.ref d] ∧ Dice H d ∧ ∀ (H' : Hp) (p : Addr) (bs : List Bool), SB d H H' → Dice H' d → p ≠ d → H' p = some (.tup (bs.map V.bl)) → bs.length ≤ 100 → Q (.ref p) H'
theorem ints_mem {ss : List Int} {v : V} (h : v ∈ ss.map V.int) : ∃ s, s ∈ ss ∧ v = .int s := by
  obtain ⟨s, hs, rfl⟩ := List.mem_map.mp h
  exact ⟨s, hs, rfl⟩
section
variable {P : Program} {w : World} {K : PySem.W.Frag} {mg : Str → Option Value} {base : Heap}
theorem ok_world (h : Has K mg "_law_world" s__law_world ["dice"]) (R : Ok P w K mg base 1 "_law_roll" ["dice", "total"] spRoll) (RP : Ok P w K mg base 2 "_law_pick" ["dice", "items"] (spPick K)) (z_tuple : mg "tuple" = none) (z_range : mg "range" = none) : Ok P w K mg base 3 "_law_world" ["dice"] spWorld := by
  obtain ⟨f, fd, g, F, b⟩ := h
  obtain ⟨fR, fdR, g__law_roll, k__law_roll, b__law_roll, G__law_roll⟩ := R
  obtain ⟨fP, fdP, g__law_pick, k__law_pick, b__law_pick, G__law_pick⟩ := RP
  refine ⟨f, fd, g, F.kp, b, F.ok sc__law_world (fun vs H Q E h => ?_) (fun cdv A outer s H vs Q E hr h => ?_)⟩
  · obtain ⟨d, rfl, _⟩ := h
    rfl
  · obtain ⟨d, rfl, hD, q⟩ := h
    have hr__law_pick := hr
    have hr__law_roll : Room 1 _ := hr.mono (by decide)
    refine ⟨_, (pss_one (ps_ret (pe_callTy (Rw.k_tupleof (K := K)) (by rfl) z_tuple Rw.bt_tuple (pa_cons (pe_lc (own := [("turn", 1)]) rfl sc__law_world.nd (pi_range1 (by rfl) z_range (pa_cons (pe_call G__law_pick hr__law_pick (by rfl) g__law_pick k__law_pick b__law_pick .nil pass0 (pa_cons (pv 0) (pa_cons (pe_lst (pa_cons pe_int (pa_cons pe_int (pa_cons pe_int (pa_cons pe_int (pa_cons pe_int (pa_cons pe_int pa_nil))))))) pa_nil))) pa_nil)) (blkOk_by (own := [("turn", 1)]) (N := N__law_world) (sc := defScope s__law_world) (by decide +kernel)) (fun _ _ _ _ _ => (pg_name (i := 1) sc__law_world.nd rfl (.inl rfl))) (fun _ _ _ _ _ => pts_nil) (fun _ _ _ _ _ => (pe_cmpR op_eq (pe_call G__law_roll hr__law_roll (by rfl) g__law_roll k__law_roll b__law_roll .nil pass0 (pa_cons (pv 0) (pa_cons pe_int pa_nil))) pe_int (nomark _)))) pa_nil)))), ?_⟩
    walk_at "rd"
    intro l nl
    generalize hX : upd H l _ = H1
    have s1 : Same H H1 := hX ▸ Same.new nl
    have f1 : H1 l = some (.lst (([0, 1, 2, 5, 20, 100] : List Int).map V.int)) := hX ▸ upd_same
    have D1 := hD.same s1
    refine ⟨d, l, _, rfl, by decide, by decide, D1, fun H' sb => .inl (SqL.of (sb _ _ (hD.ne nl).symm f1)), fun H2 v sb2 D2 hv => ?_⟩
    obtain ⟨n, hn, rfl⟩ := ints_mem hv
    have hn' : 0 ≤ n ∧ n ≤ 100 := by
      have h6 : ([0, 1, 2, 5, 20, 100] : List Int).all (fun n => decide (0 ≤ n ∧ n ≤ 100)) = true := by decide
      exact of_decide_eq_true (List.all_eq_true.mp h6 n hn)
    refine ⟨n, rfl, by omega, by omega, fun D nD => ?_⟩
    have dD := D2.ne nD
    refine lc_range (lo := 0) (n := _) (fun i H3 => ∃ bs : List Bool, H3 D = some (.lst (bs.map V.bl)) ∧ bs.length = i ∧ SB d H2 H3 ∧ Dice H3 d)
      ⟨[], upd_same, rfl, SB.new nD, D2.new nD⟩ (fun i H3 hi hp => ?_) (fun H3 hp => ?_)
    · obtain ⟨bs, e1, lb, sb3, D3⟩ := hp
      refine ⟨rfl, ?_⟩
      walk_at "rd"
      refine ⟨d, 2, rfl, by decide, by decide, D3, fun H4 r sb4 D4 r0 r1 => ?_⟩
      walk_at "rd"
      have e4 := sb4 _ _ dD.symm e1
      refine ⟨_, e4, by rw [List.length_map]; exact small1000 (by omega), bs ++ [decide (V.int r = V.int 0)], by rw [upd_same, List.map_append]; rfl, by simp [lb], ?_, ?_⟩
      · intro b o nb hb
        rw [upd_ne (ne_of_none hb nD)]
        exact sb4 _ _ nb (sb3 _ _ nb hb)
      · obtain ⟨x, y, z, g1, g2, g3, e⟩ := D4
        exact ⟨x, y, z, g1, g2, g3, by rw [upd_ne dD]; exact e⟩
    · obtain ⟨bs, e1, lb, sb3, D3⟩ := hp
      walk_at "rd"
      refine ⟨D, _, rfl, .inl ⟨SqL.of e1, fun p n => ?_⟩⟩
      refine q _ p bs ((((SB.of s1).trans sb2).trans sb3).trans (SB.new n)) (D3.new n) (D3.ne n).symm upd_same (by omega)
end




abbrev s__law_right : Stmt := topS 15
abbrev N__law_right : List Str := ["dice", "one", "other", "text", "line", "side", "turn", "at", "sign"]
theorem sc__law_right : FnScope N__law_right ["dice"] (defScope s__law_right) := ⟨rfl, rfl, rfl, by decide +kernel, rfl, by decide +kernel, by decide +kernel⟩

def spRight : Sp := fun vs H Q _ => ∃ d, vs = [.ref d] ∧ Dice H d ∧ ∀ H', SB d H H' → Dice H' d → Q (.bl true) H'
section
variable {P : Program} {w : World} {K : PySem.W.Frag} {mg : Str → Option Value} {base : Heap}
theorem ok_right (h : Has K mg "_law_right" s__law_right ["dice"]) (R : Ok P w K mg base 1 "_law_roll" ["dice", "total"] spRoll) (RP : Ok P w K mg base 2 "_law_pick" ["dice", "items"] (spPick K)) (RW : Ok P w K mg base 3 "_law_world" ["dice"] spWorld)
    (RI : Ok P w K mg base 1 "is_world" ["value"] (spIsWorld K)) (RT : Ok P w K mg base 2 "write_world" ["world"] (spWrite K)) (RR : Ok P w K mg base 2 "read_world" ["text"] (spRead K)) (z_len : mg "len" = none) (z_repr : mg "repr" = none) (z_range : mg "range" = none) :
    ∃ f fd, mg "_law_right" = some (.ref f) ∧ PySem.W.keepIn K (.ref f) = true ∧ L2.Binds K fd ["dice"] [] ∧ FnG P w K mg base CX0 4 f fd ["dice"] spRight := by
  obtain ⟨f, fd, g, F, b⟩ := h
  obtain ⟨fR, fdR, g__law_roll, k__law_roll, b__law_roll, G__law_roll⟩ := R
  obtain ⟨fP, fdP, g__law_pick, k__law_pick, b__law_pick, G__law_pick⟩ := RP
  obtain ⟨fW, fdW, g__law_world, k__law_world, b__law_world, G__law_world⟩ := RW
  obtain ⟨fI, fdI, g_is_world, k_is_world, b_is_world, G_is_world⟩ := RI
  obtain ⟨fT, fdT, g_write_world, k_write_world, b_write_world, G_write_world⟩ := RT
  obtain ⟨fX, fdX, g_read_world, k_read_world, b_read_world, G_read_world⟩ := RR
  refine ⟨f, fd, g, F.kp, b, Rw.Fun.okG F sc__law_right (fun vs H Q E h => ?_) (fun cdv B fs t H vs Q E hgd hr h => ?_)⟩
  · obtain ⟨d, rfl, _⟩ := h
    rfl
  · obtain ⟨d, rfl, hD, q⟩ := h
    have hr__law_world := hr
    have hr__law_pick : Room 2 _ := hr.mono (by decide)
    have hr__law_roll : Room 1 _ := hr.mono (by decide)
    have hr_is_world := hr__law_roll
    have hr_write_world := hr__law_pick
    have hr_read_world := hr__law_pick
    refine ⟨_, (pss_cons (ps_par (i := 1) (j := 2) (by rfl) sc__law_right.nd rfl rfl (by decide) rfl rfl (pa_cons (pe_call G__law_world hr__law_world (by rfl) g__law_world k__law_world b__law_world .nil pass0 (pa_cons (pv 0) pa_nil)) (pa_cons (pe_call G__law_world hr__law_world (by rfl) g__law_world k__law_world b__law_world .nil pass0 (pa_cons (pv 0) pa_nil)) pa_nil)) (by rfl))
  (pss_cons (ps_set (i := 3) sc__law_right.nd rfl (.inl rfl) (pe_call G_write_world hr_write_world (by rfl) g_write_world k_write_world b_write_world .nil pass0 (pa_cons (pv 1) pa_nil)))
  (pss_cons (ps_if (PW.pt (pw_or (pt_cmpR op_ne (pv 3) (Rw.k_join (K := K) (pe_join pe_str (pe_lc (own := [("side", 5)]) rfl sc__law_right.nd (Rw.k_pt (K := K) (pv 1)) (blkOk_by (own := [("side", 5)]) (N := N__law_right) (sc := defScope s__law_right) (by decide +kernel)) (fun _ _ _ _ _ => (pg_name (i := 5) sc__law_right.nd rfl (.inl rfl))) (fun _ _ _ _ _ => pts_nil) (fun _ _ _ _ _ => (pe_ifExp (pt_val (pv 5)) pe_str pe_str))))) (nomark _)) (pw_or1 (pt_cmpR op_ne (pe_callB (Rw.k_repr (K := K) hgd hr.units) (by rfl) z_repr Rw.bt_repr (pa_cons (pe_call G_read_world hr_read_world (by rfl) g_read_world k_read_world b_read_world .nil pass0 (pa_cons (pv 3) pa_nil)) pa_nil)) (pe_callB (Rw.k_repr (K := K) hgd hr.units) (by rfl) z_repr Rw.bt_repr (pa_cons (pv 1) pa_nil)) (nomark _))))) (pss_one (ps_ret pe_bl)) pss_nil)
  (pss_cons (ps_set (i := 4) sc__law_right.nd rfl (.inr rfl) (Rw.k_join (K := K) (pe_join pe_str (pe_lc (own := [("turn", 6)]) rfl sc__law_right.nd (pi_range1 (by rfl) z_range (pa_cons (pe_call G__law_roll hr__law_roll (by rfl) g__law_roll k__law_roll b__law_roll .nil pass0 (pa_cons (pv 0) (pa_cons pe_int pa_nil))) pa_nil)) (blkOk_by (own := [("turn", 6)]) (N := N__law_right) (sc := defScope s__law_right) (by decide +kernel)) (fun _ _ _ _ _ => (pg_name (i := 6) sc__law_right.nd rfl (.inl rfl))) (fun _ _ _ _ _ => pts_nil) (fun _ _ _ _ _ => (pe_call G__law_pick hr__law_pick (by rfl) g__law_pick k__law_pick b__law_pick .nil pass0 (pa_cons (pv 0) (pa_cons (pe_lst (pa_cons pe_str (pa_cons pe_str (pa_cons pe_str pa_nil)))) pa_nil))))))))
  (pss_cons (ps_if (PW.pt (pw_or (pt_cmpR op_ne (pe_call G_write_world hr_write_world (by rfl) g_write_world k_write_world b_write_world .nil pass0 (pa_cons (pe_call G_read_world hr_read_world (by rfl) g_read_world k_read_world b_read_world .nil pass0 (pa_cons (pv 4) pa_nil)) pa_nil)) (pv 4) (nomark _)) (pw_or1 (pt_not (pt_val (pe_call G_is_world hr_is_world (by rfl) g_is_world k_is_world b_is_world .nil pass0 (pa_cons (pe_call G_read_world hr_read_world (by rfl) g_read_world k_read_world b_read_world .nil pass0 (pa_cons (pv 4) pa_nil)) pa_nil))))))) (pss_one (ps_ret pe_bl)) pss_nil)
  (pss_cons (ps_if (pt_cmpR (Rw.k_neD (K := K) hr.units) (pe_lc (own := [("at", 7)]) rfl sc__law_right.nd (pi_range1 (by rfl) z_range (pa_cons (pe_callB call_len_str (by rfl) z_len Rw.bt_len (pa_cons (pv 4) pa_nil)) pa_nil)) (blkOk_by (own := [("at", 7)]) (N := N__law_right) (sc := defScope s__law_right) (by decide +kernel)) (fun _ _ _ _ _ => (pg_name (i := 7) sc__law_right.nd rfl (.inl rfl))) (fun _ _ _ _ _ => pts_nil) (fun _ _ _ _ _ => (pe_ix (Rw.k_ixT (K := K)) (pe_call G_read_world hr_read_world (by rfl) g_read_world k_read_world b_read_world .nil pass0 (pa_cons (pv 4) pa_nil)) (pv 7) (fun _ _ => rfl)))) (pe_lc (own := [("sign", 8)]) rfl sc__law_right.nd (pi_str (pv 4)) (blkOk_by (own := [("sign", 8)]) (N := N__law_right) (sc := defScope s__law_right) (by decide +kernel)) (fun _ _ _ _ _ => (pg_name (i := 8) sc__law_right.nd rfl (.inl rfl))) (fun _ _ _ _ _ => pts_nil) (fun _ _ _ _ _ => (pe_cmpR op_eq (pv 8) pe_str (nomark _)))) (nomark _)) (pss_one (ps_ret pe_bl)) pss_nil)
  (pss_one (ps_ret (pe_and (pe_cmpR op_eq (pe_call G_write_world hr_write_world (by rfl) g_write_world k_write_world b_write_world .nil pass0 (pa_cons (pe_op (Rw.k_catA (K := K)) (pv 1) (pv 2)) pa_nil)) (pe_op op_add_str (pv 3) (pe_call G_write_world hr_write_world (by rfl) g_write_world k_write_world b_write_world .nil pass0 (pa_cons (pv 2) pa_nil))) (nomark _)) (pe_one (pe_cmpR (Rw.k_eqD (K := K) hr.units) (pe_call G_read_world hr_read_world (by rfl) g_read_world k_read_world b_read_world .nil pass0 (pa_cons (pe_op op_add_str (pv 3) (pv 4)) pa_nil)) (pe_op (Rw.k_catA (K := K)) (pv 1) (pe_call G_read_world hr_read_world (by rfl) g_read_world k_read_world b_read_world .nil pass0 (pa_cons (pv 4) pa_nil))) (nomark _)))))))))))), ?_⟩
    walk_at "rd"
    intro H1 p1 as sb1 D1 n1 f1 la
    walk_at "rd"
    intro H2 p2 cs sb2 D2 n2 f2 lc
    have t1 : SqT K H2 p1 (as.map V.bl) := SqT.of (sb2 _ _ n1 f1)
    have t2 : SqT K H2 p2 (cs.map V.bl) := SqT.of f2
    have sb02 := sb1.trans sb2
    clear sb1 sb2 D1 f1 f2
    walk_at "rd"
    refine ⟨_, _, rfl, ?_⟩
    walk_at "rd"
    refine ⟨p1, as, rfl, t1, by omega, fun H3 s3 => ?_⟩
    have t3 := seqT_same s3 t1
    walk_at "rd"
    refine ⟨⟨_, t3⟩, fun Da nDa => ?_⟩
    refine lc_tup (K := K) (a := p1) (xs := as.map V.bl) (PvA H3 Da fun i => ((as.map dgs).map V.str).take i) (PvA.start nDa rfl) (fun i H2 _ p => seqT_same p.1 t3) (fun i x H2 hx p => ?_) (fun H4 qa => ?_)
    · obtain ⟨b, hb, rfl⟩ := map_at hx
      have hb' : ((as.map dgs).map V.str)[i]? = some (V.str (dgs b)) := at_map V.str (at_map dgs hb)
      have hz' := take_lt (List.getElem?_eq_some_iff.mp hb').1 (by rw [List.length_map, List.length_map]; exact Nat.le_of_lt (small1000 (by omega)))
      refine ⟨rfl, ?_⟩
      walk_at "rd"
      cases b with
      | true => exact PvA.put nDa p.1 p.2 hz' (take_put hb')
      | false => exact PvA.put nDa p.1 p.2 hz' (take_put hb')
    have ea : H4 Da = some (.lst ((as.map dgs).map V.str)) := by
      have h4 : H4 Da = some (.lst (((as.map dgs).map V.str).take (as.map V.bl).length)) := qa.2
      rwa [List.take_of_length_le (by rw [List.length_map, List.length_map, List.length_map]; exact Nat.le_refl _)] at h4
    have hs1 := sum_ones (zs := as.map dgs) (by
      intro z hz
      obtain ⟨b, _, rfl⟩ := List.mem_map.mp hz
      exact dgs_len b)
    refine ⟨Str.ofString "", Da, as.map dgs, rfl, rfl, .inl (SqL.of ea), ?_, ?_⟩
    · rw [hs1, List.length_map]
      show as.length + as.length * 0 ≤ 16777216
      omega
    rw [join_nil, cat_dgs]
    walk_at "rd"
    have ne : (!decide (V.str (wtext as) = V.str (wtext as))) = false := by rw [decide_eq_true rfl]; rfl
    rw [ne]
    walk_at "rd"
    refine ⟨by omega, fun H5 r1 s5 nr1 fr1 => ?_⟩
    have t5 : SqT K H5 p1 (as.map V.bl) := seqT_same (qa.1.trans s5) t3
    obtain ⟨ra, rb, rc, rd⟩ := repOk_boolsT (bs := as) (by omega)
    walk_at "rd"
    refine ⟨_, _, rfl, dp_boolsT (SqT.of fr1), ra, rb, rc, rd, ?_⟩
    walk_at "rd"
    refine ⟨_, _, rfl, dp_boolsT t5, ra, rb, rc, rd, ?_⟩
    walk_at "rd"
    refine iteNS rfl ?_
    have D5 : Dice H5 d := D2.same ((s3.trans qa.1).trans s5)
    have sb05 : SB d H H5 := sb02.trans (.of ((s3.trans qa.1).trans s5))
    have u2 : SqT K H5 p2 (cs.map V.bl) := seqT_same ((s3.trans qa.1).trans s5) t2
    clear ra rb rc rd t1 t2 t3 qa ea nDa s3 s5 sb02 hs1 D2 fr1 nr1 ne
    -- the line
    walk_at "rd"
    refine ⟨d, 30, rfl, by decide, by decide, D5, fun H6 r sb6 D6 r0 r1' => ?_⟩
    refine ⟨r, rfl, by omega, by omega, fun Db nDb => ?_⟩
    have dDb := D6.ne nDb
    refine lc_range (lo := 0) (n := _) (fun i H7 => ∃ ls : List Bool, H7 Db = some (.lst ((ls.map dgs).map V.str)) ∧ ls.length = i ∧ SB d H6 H7 ∧ Dice H7 d)
      ⟨[], upd_same, rfl, SB.new nDb, D6.new nDb⟩ (fun i H7 hi hp => ?_) (fun H7 hp => ?_)
    · obtain ⟨ls, e1, ll, sb7, D7⟩ := hp
      refine ⟨rfl, ?_⟩
      walk_at "rd"
      intro l nl
      generalize hX : upd H7 l _ = H8
      have s8 : Same H7 H8 := hX ▸ Same.new nl
      have f8 : H8 l = some (.lst ((([false, true, true] : List Bool).map dgs).map V.str)) := hX ▸ upd_same
      refine ⟨d, l, _, rfl, by decide, by decide, D7.same s8, fun H' sb => .inl (SqL.of (sb _ _ (D7.ne nl).symm f8)), fun H9 v sb9 D9 hv => ?_⟩
      obtain ⟨s, hs, rfl⟩ := List.mem_map.mp hv
      obtain ⟨b, hb, rfl⟩ := List.mem_map.mp hs
      have e9 := sb9 _ _ dDb.symm (s8 _ _ e1)
      refine ⟨_, e9, by rw [List.length_map, List.length_map]; exact small1000 (by omega), ls ++ [b], by rw [upd_same, List.map_append, List.map_append]; rfl, by simp [ll], ?_, D9.put dDb⟩
      exact SB.put nDb ((sb7.trans (.of s8)).trans sb9)
    obtain ⟨ls, e1, ll, sb7, D7⟩ := hp
    have lls : ls.length ≤ 30 := by omega
    have hs1 := sum_ones (zs := ls.map dgs) (by
      intro z hz
      obtain ⟨b, _, rfl⟩ := List.mem_map.mp hz
      exact dgs_len b)
    refine ⟨Str.ofString "", Db, ls.map dgs, rfl, rfl, .inl (SqL.of e1), ?_, ?_⟩
    · rw [hs1, List.length_map]
      show ls.length + ls.length * 0 ≤ 16777216
      omega
    rw [join_nil, cat_dgs]
    have sb57 := sb6.trans sb7
    have v1 : SqT K H7 p1 (as.map V.bl) := seqT_sb n1 sb57 t5
    have v2 : SqT K H7 p2 (cs.map V.bl) := seqT_sb n2 sb57 u2
    have sb07 := sb05.trans sb57
    clear sb57 sb6 sb7 t5 u2 sb05 D5 D6 e1 hs1 nDb
    have hzl : (wtext ls).length ≤ sizeLine := by
      rw [wtext_len]
      exact Nat.le_of_lt (small1000 (by omega))
    -- the line read and written
    walk_at "rd"
    refine ⟨by omega, fun H8 r2 s8 nr2 fr2 => ?_⟩
    walk_at "rd"
    refine ⟨r2, ls, rfl, SqT.of fr2, by omega, fun H9 s9 => ?_⟩
    walk_at "rd"
    have ne : (!decide (V.str (wtext ls) = V.str (wtext ls))) = false := by rw [decide_eq_true rfl]; rfl
    rw [ne]
    walk_at "rd"
    refine ⟨by omega, fun H10 r3 s10 nr3 fr3 => ?_⟩
    walk_at "rd"
    refine .inl ⟨r3, _, _, rfl, SqT.of fr3, by rw [List.length_map]; exact Nat.le_of_lt (small1000 (by omega)), bools_isi ls, fun H11 s11 => ?_⟩
    have e : (decide ((ls.map V.bl).length ≤ 200) && (ls.map fun _ => true).all id) = true := by
      rw [decide_eq_true (by rw [List.length_map]; omega), List.all_map]
      show (true && ls.all fun _ => true) = true
      rw [List.all_eq_true.mpr fun _ _ => rfl]
      rfl
    rw [e]
    have s711 := ((s8.trans s9).trans s10).trans s11
    have x1 := seqT_same s711 v1
    have x2 := seqT_same s711 v2
    have sb011 := sb07.trans (.of s711)
    have D11 := D7.same s711
    clear s711 s8 s9 s10 s11 v1 v2 sb07 D7 fr2 fr3 nr2 nr3 e
    -- its signs, each by itself
    walk_at "rd"
    refine ⟨by rw [wtext_len]; omega, by rw [wtext_len]; omega, fun Dc nDc => ?_⟩
    have hzb : ∀ i, i < ls.length → ((ls.map V.bl).take i).length < sizeLine := fun i h => take_lt (by rw [List.length_map]; exact h) (by rw [List.length_map]; exact Nat.le_of_lt (small1000 (by omega)))
    refine lc_range (lo := 0) (n := _) (PvA H11 Dc fun i => (ls.map V.bl).take i) (PvA.start nDc rfl) (fun i H2 hi p => ?_) (fun H12 pc => ?_)
    · have hi' : i < ls.length := by
        rw [wtext_len] at hi
        omega
      refine ⟨rfl, ?_⟩
      walk_at "rd"
      refine ⟨by omega, fun H3 r s3 nr fr => ?_⟩
      walk_at "rd"
      have hb : (ls.map V.bl)[i]? = some (V.bl ls[i]) := at_map V.bl (List.getElem?_eq_getElem hi')
      refine ⟨r, _, _, _, rfl, rfl, SqT.of fr, by rw [Int.zero_add]; exact atI_nat hb, ?_⟩
      exact PvA.put nDc (p.1.trans s3) (s3 _ _ p.2) (hzb i hi') (take_put hb)
    have ec : H12 Dc = some (.lst (ls.map V.bl)) := by
      have h4 : H12 Dc = some (.lst ((ls.map V.bl).take ((wtext ls).length : Int).toNat)) := pc.2
      rwa [List.take_of_length_le (by rw [List.length_map, wtext_len]; omega)] at h4
    walk_at "rd"
    intro Dd nDd
    refine lc_it walk_str (PvA H12 Dd fun i => (ls.map V.bl).take i) (PvA.start nDd rfl) (fun _ _ _ _ => trivial) (fun i x H2 H3 hi p hy => ?_) (fun H13 pd => ?_)
    · obtain ⟨rfl, c, hc, rfl⟩ := hy
      have hc' : (wtext ls).cps.toList[i]? = some c := by rw [Array.getElem?_toList]; exact hc
      have hb : (ls.map V.bl)[i]? = some (V.bl (c == 49)) := by
        rw [← rbits_wtext ls]
        unfold rbits
        rw [List.map_map, List.getElem?_map, hc']
        rfl
      refine ⟨rfl, ?_⟩
      walk_at "rd"
      rw [is1]
      exact PvA.put nDd p.1 p.2 (hzb i (by have := (List.getElem?_eq_some_iff.mp hb).1; rwa [List.length_map] at this)) (take_put hb)
    have ed : H13 Dd = some (.lst (ls.map V.bl)) := by
      have h4 : H13 Dd = some (.lst ((ls.map V.bl).take (wtext ls).cps.size)) := pd.2
      rwa [List.take_of_length_le (by rw [List.length_map]; exact Nat.le_of_eq (wtext_len ls).symm)] at h4
    refine ⟨_, _, dp_boolsL (SqL.of (pd.1 _ _ ec)), dp_boolsL (SqL.of ed), shaped_bls _, shaped_bls _, ?_⟩
    rw [eqv_refl_shaped (shaped_bls ls)]
    have s1113 := pc.1.trans pd.1
    have y1 := seqT_same s1113 x1
    have y2 := seqT_same s1113 x2
    have sb013 := sb011.trans (.of s1113)
    have D13 := D11.same s1113
    clear s1113 pc pd ec ed nDc nDd x1 x2 sb011 D11 hzb
    -- two texts, two worlds
    walk_at "rd"
    show rCatA _ _ _ _ _
    refine cat_any y1 y2 (by rw [List.length_map, List.length_map]; exact Nat.le_of_lt (small1000 (by omega))) fun r4 H14 s14 z4 => ?_
    walk_at "rd"
    refine ⟨r4, as ++ cs, rfl, by rw [List.map_append]; exact z4, by rw [List.length_append]; omega, fun H15 s15 => ?_⟩
    walk_at "rd"
    refine ⟨p2, cs, rfl, seqT_same (s14.trans s15) y2, by omega, fun H16 s16 => ?_⟩
    refine ⟨_, _, rfl, rfl, by rw [wtext_len, wtext_len]; exact Nat.le_of_lt (small1000 (by omega)), ?_⟩
    rw [← wtext_app]
    walk_at "rd"
    rw [decide_eq_true rfl]
    walk_at "rd"
    refine ⟨by rw [wtext_len, wtext_len]; exact Nat.le_of_lt (small1000 (by omega)), ?_⟩
    walk_at "rd"
    refine ⟨as ++ ls, by rw [wtext_app]; rfl, by rw [List.length_append]; omega, fun H17 r5 s17 nr5 fr5 => ?_⟩
    walk_at "rd"
    refine ⟨by omega, fun H18 r6 s18 nr6 fr6 => ?_⟩
    walk_at "rd"
    show rCatA _ _ _ _ _
    have s1318 := ((((s14.trans s15).trans s16).trans s17).trans s18)
    refine cat_any (seqT_same s1318 y1) (SqT.of fr6) (by rw [List.length_map, List.length_map]; exact Nat.le_of_lt (small1000 (by omega))) fun r7 H19 s19 z7 => ?_
    rw [← List.map_append] at z7
    refine ⟨_, _, dp_boolsT (SqT.of (s19 _ _ (s18 _ _ fr5))), dp_boolsT z7, shaped_blsT _, shaped_blsT _, ?_⟩
    rw [eqv_refl_shaped (shaped_blsT (as ++ ls))]
    exact q H19 (sb013.trans (.of (s1318.trans s19))) (D13.same (s1318.trans s19))
end




abbrev s_law : Stmt := topS 16
abbrev N_law : List Str := ["script", "spot", "dice", "turn", "full", "told"]
theorem sc_law : FnScope N_law ["script"] (defScope s_law) := ⟨rfl, rfl, rfl, by decide +kernel, rfl, by decide +kernel, by decide +kernel⟩

def spLaw (K : PySem.W.Frag) : Sp := fun vs H Q _ => ∃ (a : Addr) (ns : List Int), vs = [.ref a] ∧ SqL K H a (ns.map V.int) ∧ ns.length ≤ 63 ∧ ∀ H', Q (.bl true) H'
section
variable {P : Program} {w : World} {K : PySem.W.Frag} {mg : Str → Option Value} {base : Heap}
theorem ok_law {f : Addr} {fd : FuncData} (F : Fun K "law" "law" s_law f fd) (RD : Ok P w K mg base 1 "_law_dice" ["script", "spot"] (spDice K)) (RR : ∃ f fd, mg "_law_right" = some (.ref f) ∧ PySem.W.keepIn K (.ref f) = true ∧ L2.Binds K fd ["dice"] [] ∧ FnG P w K mg base CX0 4 f fd ["dice"] spRight)
    (RI : Ok P w K mg base 1 "is_world" ["value"] (spIsWorld K)) (RT : Ok P w K mg base 2 "write_world" ["world"] (spWrite K)) (RX : Ok P w K mg base 2 "read_world" ["text"] (spRead K))
    (z_len : mg "len" = none) (z_range : mg "range" = none) (z_min : mg "min" = none) (z_max : mg "max" = none) : FnG P w K mg base CX0 5 f fd ["script"] (spLaw K) := by
  obtain ⟨fD, fdD, g__law_dice, k__law_dice, b__law_dice, G__law_dice⟩ := RD
  obtain ⟨fR, fdR, g__law_right, k__law_right, b__law_right, G__law_right⟩ := RR
  obtain ⟨fI, fdI, g_is_world, k_is_world, b_is_world, G_is_world⟩ := RI
  obtain ⟨fT, fdT, g_write_world, k_write_world, b_write_world, G_write_world⟩ := RT
  obtain ⟨fX, fdX, g_read_world, k_read_world, b_read_world, G_read_world⟩ := RX
  refine Rw.Fun.okG F sc_law (fun vs H Q E h => ?_) (fun cdv B fs t H vs Q E hgd hr h => ?_)
  · obtain ⟨a, ns, rfl, _⟩ := h
    rfl
  · obtain ⟨a, ns, rfl, hS, hl, q⟩ := h
    have hr__law_right := hr
    have hr__law_dice : Room 1 _ := hr.mono (by decide)
    have hr_is_world := hr__law_dice
    have hr_write_world : Room 2 _ := hr.mono (by decide)
    have hr_read_world := hr_write_world
    refine ⟨_, (pss_cons (ps_for PassesOwn.never rfl (pi_range1 (by rfl) z_range (pa_cons (pe_callB (call_max2 rfl) (by rfl) z_max Rw.bt_max (pa_cons pe_int (pa_cons (pe_callB (call_min2 rfl) (by rfl) z_min Rw.bt_min (pa_cons pe_int (pa_cons (pe_callB (Rw.k_len (K := K)) (by rfl) z_len Rw.bt_len (pa_cons (pv 0) pa_nil)) pa_nil))) pa_nil))) pa_nil)) (pg_name (i := 1) sc_law.nd rfl (.inl rfl))
   (pss_cons (ps_set (i := 2) sc_law.nd rfl (.inl rfl) (pe_call G__law_dice hr__law_dice (by rfl) g__law_dice k__law_dice b__law_dice .nil pass0 (pa_cons (pv 0) (pa_cons (pv 1) pa_nil))))
  (pss_one (ps_for PassesOwn.never rfl (pi_range1 (by rfl) z_range (pa_cons pe_int pa_nil)) (pg_name (i := 3) sc_law.nd rfl (.inl rfl))
   (pss_one (ps_if (pt_not (pt_val (Rw.pe_callG G__law_right hgd hr__law_right (by rfl) g__law_right k__law_right b__law_right .nil pass0 (pa_cons (pv 2) pa_nil)))) (pss_one (ps_ret pe_bl)) pss_nil))))))
  (pss_cons (ps_set (i := 4) sc_law.nd rfl (.inl rfl) (pe_op (Rw.k_repT (K := K)) (pe_tup (pa_cons pe_bl pa_nil)) pe_int))
  (pss_cons (ps_set (i := 5) sc_law.nd rfl (.inl rfl) (pe_lst (pa_cons (pe_call G_write_world hr_write_world (by rfl) g_write_world k_write_world b_write_world .nil pass0 (pa_cons (pe_tup (pa_cons pe_bl (pa_cons pe_bl pa_nil))) pa_nil)) (pa_cons (pe_call G_read_world hr_read_world (by rfl) g_read_world k_read_world b_read_world .nil pass0 (pa_cons pe_str pa_nil)) (pa_cons (pe_call G_write_world hr_write_world (by rfl) g_write_world k_write_world b_write_world .nil pass0 (pa_cons (pe_tup pa_nil) pa_nil)) (pa_cons (pe_cmpR (Rw.k_eqD (K := K) hr.units) (pe_call G_read_world hr_read_world (by rfl) g_read_world k_read_world b_read_world .nil pass0 (pa_cons (pe_op Rw.op_repS pe_str pe_int) pa_nil)) (pv 4) (nomark _)) (pa_cons (pe_call G_is_world hr_is_world (by rfl) g_is_world k_is_world b_is_world .nil pass0 (pa_cons (pv 4) pa_nil)) pa_nil)))))))
  (pss_one (ps_ret (pe_cmpR (Rw.k_eqD (K := K) hr.units) (pv 5) (pe_lst (pa_cons pe_str (pa_cons (pe_tup pa_nil) (pa_cons pe_str (pa_cons pe_bl (pa_cons pe_bl pa_nil)))))) (nomark _))))))), ?_⟩
    walk_at "rd"
    refine ⟨a, _, rfl, .inl hS, ?_⟩
    refine ⟨_, _, rfl, ?_⟩
    refine ⟨_, _, rfl, ?_⟩
    generalize hm : (if (if ((ns.map V.int).length : Int) < 8 then ((ns.map V.int).length : Int) else 8) > 1 then (if ((ns.map V.int).length : Int) < 8 then ((ns.map V.int).length : Int) else 8) else 1) = m
    have hm2 : m ≤ 8 := by
      rw [← hm]
      split <;> split <;> omega
    have hm1 : 1 ≤ m := by
      rw [← hm]
      split <;> split <;> omega
    refine ⟨_, rfl, by omega, by omega, ?_⟩
    refine for_range (lo := 0) (n := _) (fun i σ H1 => ∃ y1 y2 y3, σ = [some (.ref a), y1, y2, y3, none, none] ∧ Same H H1) ⟨none, none, none, rfl, Same.refl H⟩ ?_ ?_
    · rintro i σ H1 hi ⟨y1, y2, y3, rfl, sm⟩
      walk_at "rd"
      refine ⟨a, ns, i, by rw [Int.zero_add]; rfl, sm.seq hS, hl, fun H2 d s2 nd D2 => ?_⟩
      have nd0 : H d = none := sm.free nd
      walk_at "rd"
      refine for_range (lo := 0) (n := _) (fun j σ H3 => ∃ y3, σ = [some (.ref a), some (.int (0 + i)), some (.ref d), y3, none, none] ∧ SB d H2 H3 ∧ Dice H3 d) ⟨y3, rfl, SB.refl _ _, D2⟩ ?_ ?_
      · rintro j σ H3 hj ⟨y3, rfl, sb3, D3⟩
        walk_at "rd"
        intro H4 sb4 D4
        walk_at "rd"
        first | exact ⟨_, rfl, sb3.trans sb4, D4⟩ | exact ⟨sb3.trans sb4, D4⟩ | exact D4
      · rintro σ H3 ⟨y3, rfl, sb3, D3⟩
        refine ⟨_, _, _, rfl, fun b o hb => sb3 b o (ne_of_none hb nd0) (s2 b o (sm b o hb))⟩
    rintro σ H1 ⟨y1, y2, y3, rfl, sm⟩
    walk_at "rd"
    intro p0 n0
    first | refine newly n0 fun H2 s2 f2 => ?_ | refine newly2 n0 fun H2 s2 f2 => ?_
    -- (True,) * 200
    refine ⟨p0, 200, _, rfl, rfl, SqT.of f2, by decide, by decide, by decide, by decide, fun p1 n1 => ?_⟩
    first | refine newly n1 fun H3 s3 f3 => ?_ | refine newly2 n1 fun H3 s3 f3 => ?_
    have f3' : H3 p1 = some (.tup ((List.replicate 200 true).map V.bl)) := by
      rw [f3]
      have e : (List.replicate (200 : Int).toNat [V.bl true]).flatten = (List.replicate 200 true).map V.bl := by decide +kernel
      exact congrArg (fun x => some (HO.tup x)) e
    clear f3
    walk_at "rd"
    intro p2 n2
    first | refine newly n2 fun H4 s4 f4 => ?_ | refine newly2 n2 fun H4 s4 f4 => ?_
    walk_at "rd"
    refine ⟨p2, [true, false], rfl, SqT.of f4, by decide, fun H5 s5 => ?_⟩
    walk_at "rd"
    refine ⟨[], rfl, by decide, fun H6 r1 s6 nr1 fr1 => ?_⟩
    walk_at "rd"
    intro p3 n3
    first | refine newly n3 fun H7 s7 f7 => ?_ | refine newly2 n3 fun H7 s7 f7 => ?_
    walk_at "rd"
    refine ⟨p3, [], rfl, SqT.of f7, by decide, fun H8 s8 => ?_⟩
    walk_at "rd"
    have eR : repS (Str.ofString "1") 200 = wtext (List.replicate 200 true) := by decide +kernel
    rw [eR]
    refine ⟨List.replicate 200 true, rfl, by decide, fun H9 r2 s9 nr2 fr2 => ?_⟩
    have s39 := ((((s4.trans s5).trans s6).trans s7).trans s8).trans s9
    have t9 : SqT K H9 p1 ((List.replicate 200 true).map V.bl) := SqT.of (s39 _ _ f3')
    walk_at "rd"
    refine ⟨_, _, dp_boolsT (SqT.of fr2), dp_boolsT t9, shaped_blsT _, shaped_blsT _, ?_⟩
    rw [eqv_refl_shaped (shaped_blsT (List.replicate 200 true))]
    walk_at "rd"
    refine .inl ⟨p1, _, _, rfl, t9, by rw [List.length_map, List.length_replicate]; decide, bools_isi _, fun H10 s10 => ?_⟩
    have e : (decide (((List.replicate 200 true).map V.bl).length ≤ 200) && ((List.replicate 200 true).map fun _ => true).all id) = true := by decide +kernel
    rw [e]
    walk_at "rd"
    intro p4 n4
    first | refine newly n4 fun H11 s11 f11 => ?_ | refine newly2 n4 fun H11 s11 f11 => ?_
    walk_at "rd"
    intro p5 n5
    first | refine newly n5 fun H12 s12 f12 => ?_ | refine newly2 n5 fun H12 s12 f12 => ?_
    walk_at "rd"
    intro p6 n6
    first | refine newly n6 fun H13 s13 f13 => ?_ | refine newly2 n6 fun H13 s13 f13 => ?_
    have g1 : SqT K H13 r1 ([] : List V) := SqT.of (s13 _ _ (s12 _ _ (s11 _ _ (s10 _ _ (s9 _ _ (s8 _ _ (s7 _ _ fr1)))))))
    have g2 : SqT K H13 p5 ([] : List V) := SqT.of (s13 _ _ f12)
    have dd : ∀ r, SqT K H13 r ([] : List V) → DpAll K H13 [.str (wtext [true, false]), .ref r, .str (wtext []), .bl true, .bl true] [.str (wtext [true, false]), .tuple [], .str (wtext []), .bool true, .bool true] := fun r h =>
      .cons (.str _) (.cons (.tup h .nil) (.cons (.str _) (.cons (.bl _) (.cons (.bl _) .nil))))
    have eL : ∀ r, [V.str (Str.ofString "10"), V.ref r, V.str (Str.ofString ""), V.bl true, V.bl true] = [V.str (wtext [true, false]), V.ref r, V.str (wtext []), V.bl true, V.bl true] := fun r => rfl
    have sh : SeqAt.shaped (.list [.str (wtext [true, false]), .tuple [], .str (wtext []), .bool true, .bool true]) = true := by decide +kernel
    refine ⟨_, _, .lst (SqL.of (s13 _ _ (s12 _ _ f11))) (dd r1 g1), .lst (SqL.of (by rw [f13]; exact congrArg (fun x => some (HO.lst x)) (eL p5))) (dd p5 g2), sh, sh, ?_⟩
    rw [eqv_refl_shaped sh]
    exact q _
end


theorem all_mk {l : PySem.W.OpenLaw} {w : World} {K : PySem.W.Frag} {h : Heap} {mg : Str → Option Value} {fa : Addr} (X : K.In h) (G : h.Ns mainGlobals mg) (hfa : mg "law" = some (.ref fa))
    {f1 f2 f3 f4 f5 f6 f7 f8 f9 f10 : Addr} {od1 an1 od2 an2 od3 an3 od4 an4 od5 an5 od6 an6 od7 an7 od8 an8 od9 an9 od10 an10 : Option Addr} {sl1 sl2 sl3 sl4 sl5 sl6 sl7 sl8 sl9 sl10 : Array (Option Value)} {oc1 kV1 dc1 pm1 cd1 ct1 oc2 kV2 dc2 pm2 cd2 ct2 oc3 kV3 dc3 pm3 cd3 ct3 oc4 kV4 dc4 pm4 cd4 ct4 oc5 kV5 dc5 pm5 cd5 ct5 oc6 kV6 dc6 pm6 cd6 ct6 oc7 kV7 dc7 pm7 cd7 ct7 oc8 kV8 dc8 pm8 cd8 ct8 oc9 kV9 dc9 pm9 cd9 ct9 oc10 kV10 dc10 pm10 cd10 ct10 : Value}
    (a1 : PySem.W.nsIn K mainGlobals "is_world" = some (some (.ref f1))) (l1 : K.lookup f1 = some ⟨oc1, od1, .func (PySem.W.fnOf "is_world" "is_world" (defArgs s_is_world) (defBody s_is_world) (defScope s_is_world) .none kV1 dc1 pm1 an1 cd1 ct1), sl1⟩) (c1 : PySem.W.codeIn K cd1 "is_world" = true) (k1 : PySem.W.keepIn K (.ref f1) = true)
    (a2 : PySem.W.nsIn K mainGlobals "write_world" = some (some (.ref f2))) (l2 : K.lookup f2 = some ⟨oc2, od2, .func (PySem.W.fnOf "write_world" "write_world" (defArgs s_write_world) (defBody s_write_world) (defScope s_write_world) .none kV2 dc2 pm2 an2 cd2 ct2), sl2⟩) (c2 : PySem.W.codeIn K cd2 "write_world" = true) (k2 : PySem.W.keepIn K (.ref f2) = true)
    (a3 : PySem.W.nsIn K mainGlobals "read_world" = some (some (.ref f3))) (l3 : K.lookup f3 = some ⟨oc3, od3, .func (PySem.W.fnOf "read_world" "read_world" (defArgs s_read_world) (defBody s_read_world) (defScope s_read_world) .none kV3 dc3 pm3 an3 cd3 ct3), sl3⟩) (c3 : PySem.W.codeIn K cd3 "read_world" = true) (k3 : PySem.W.keepIn K (.ref f3) = true)
    (a4 : PySem.W.nsIn K mainGlobals "_is_world_text" = some (some (.ref f4))) (l4 : K.lookup f4 = some ⟨oc4, od4, .func (PySem.W.fnOf "_is_world_text" "_is_world_text" (defArgs s__is_world_text) (defBody s__is_world_text) (defScope s__is_world_text) .none kV4 dc4 pm4 an4 cd4 ct4), sl4⟩) (c4 : PySem.W.codeIn K cd4 "_is_world_text" = true) (k4 : PySem.W.keepIn K (.ref f4) = true)
    (a5 : PySem.W.nsIn K mainGlobals "_law_dice" = some (some (.ref f5))) (l5 : K.lookup f5 = some ⟨oc5, od5, .func (PySem.W.fnOf "_law_dice" "_law_dice" (defArgs s__law_dice) (defBody s__law_dice) (defScope s__law_dice) .none kV5 dc5 pm5 an5 cd5 ct5), sl5⟩) (c5 : PySem.W.codeIn K cd5 "_law_dice" = true) (k5 : PySem.W.keepIn K (.ref f5) = true)
    (a6 : PySem.W.nsIn K mainGlobals "_law_roll" = some (some (.ref f6))) (l6 : K.lookup f6 = some ⟨oc6, od6, .func (PySem.W.fnOf "_law_roll" "_law_roll" (defArgs s__law_roll) (defBody s__law_roll) (defScope s__law_roll) .none kV6 dc6 pm6 an6 cd6 ct6), sl6⟩) (c6 : PySem.W.codeIn K cd6 "_law_roll" = true) (k6 : PySem.W.keepIn K (.ref f6) = true)
    (a7 : PySem.W.nsIn K mainGlobals "_law_pick" = some (some (.ref f7))) (l7 : K.lookup f7 = some ⟨oc7, od7, .func (PySem.W.fnOf "_law_pick" "_law_pick" (defArgs s__law_pick) (defBody s__law_pick) (defScope s__law_pick) .none kV7 dc7 pm7 an7 cd7 ct7), sl7⟩) (c7 : PySem.W.codeIn K cd7 "_law_pick" = true) (k7 : PySem.W.keepIn K (.ref f7) = true)
    (a8 : PySem.W.nsIn K mainGlobals "_law_world" = some (some (.ref f8))) (l8 : K.lookup f8 = some ⟨oc8, od8, .func (PySem.W.fnOf "_law_world" "_law_world" (defArgs s__law_world) (defBody s__law_world) (defScope s__law_world) .none kV8 dc8 pm8 an8 cd8 ct8), sl8⟩) (c8 : PySem.W.codeIn K cd8 "_law_world" = true) (k8 : PySem.W.keepIn K (.ref f8) = true)
    (a9 : PySem.W.nsIn K mainGlobals "_law_right" = some (some (.ref f9))) (l9 : K.lookup f9 = some ⟨oc9, od9, .func (PySem.W.fnOf "_law_right" "_law_right" (defArgs s__law_right) (defBody s__law_right) (defScope s__law_right) .none kV9 dc9 pm9 an9 cd9 ct9), sl9⟩) (c9 : PySem.W.codeIn K cd9 "_law_right" = true) (k9 : PySem.W.keepIn K (.ref f9) = true)
    (a10 : PySem.W.nsIn K mainGlobals "law" = some (some (.ref f10))) (l10 : K.lookup f10 = some ⟨oc10, od10, .func (PySem.W.fnOf "law" "law" (defArgs s_law) (defBody s_law) (defScope s_law) .none kV10 dc10 pm10 an10 cd10 ct10), sl10⟩) (c10 : PySem.W.codeIn K cd10 "law" = true) (k10 : PySem.W.keepIn K (.ref f10) = true)
    (y_len : PySem.W.nsIn K mainGlobals "len" = some none)
    (y_int : PySem.W.nsIn K mainGlobals "int" = some none)
    (y_abs : PySem.W.nsIn K mainGlobals "abs" = some none)
    (y_max : PySem.W.nsIn K mainGlobals "max" = some none)
    (y_min : PySem.W.nsIn K mainGlobals "min" = some none)
    (y_range : PySem.W.nsIn K mainGlobals "range" = some none)
    (y_isinstance : PySem.W.nsIn K mainGlobals "isinstance" = some none)
    (y_str : PySem.W.nsIn K mainGlobals "str" = some none)
    (y_bool : PySem.W.nsIn K mainGlobals "bool" = some none)
    (y_tuple : PySem.W.nsIn K mainGlobals "tuple" = some none)
    (y_all : PySem.W.nsIn K mainGlobals "all" = some none)
    (y_repr : PySem.W.nsIn K mainGlobals "repr" = some none)
    {t_MAX_WORLD : Tok} (y_MAX_WORLD : PySem.W.nsIn K mainGlobals "MAX_WORLD" = some (some (.int 200 t_MAX_WORLD)))

    : ∃ fd : FuncData, (∀ (s : Shared) (v : Value), BindsTo s fd ⟨[v], []⟩ [("script", v)]) ∧ ∀ base : Heap, K.In base → base.Ns mainGlobals mg → FnG l.prog w K mg base CX0 5 fa fd ["script"] (spLaw K) := by
  have e := hfa.symm.trans (PySem.W.mg_of X G a10)
  cases e
  have H1 : Has K mg "is_world" s_is_world ["value"] := ⟨f1, _, PySem.W.mg_of X G a1, fun_mk (st := s_is_world) l1 c1 k1, (fun_mk (st := s_is_world) l1 c1 k1).binds (ps := ["value"]) fun _ _ _ _ _ _ us hl => match us, hl with | [_], _ => rfl⟩
  have H2 : Has K mg "write_world" s_write_world ["world"] := ⟨f2, _, PySem.W.mg_of X G a2, fun_mk (st := s_write_world) l2 c2 k2, (fun_mk (st := s_write_world) l2 c2 k2).binds (ps := ["world"]) fun _ _ _ _ _ _ us hl => match us, hl with | [_], _ => rfl⟩
  have H3 : Has K mg "read_world" s_read_world ["text"] := ⟨f3, _, PySem.W.mg_of X G a3, fun_mk (st := s_read_world) l3 c3 k3, (fun_mk (st := s_read_world) l3 c3 k3).binds (ps := ["text"]) fun _ _ _ _ _ _ us hl => match us, hl with | [_], _ => rfl⟩
  have H4 : Has K mg "_is_world_text" s__is_world_text ["value"] := ⟨f4, _, PySem.W.mg_of X G a4, fun_mk (st := s__is_world_text) l4 c4 k4, (fun_mk (st := s__is_world_text) l4 c4 k4).binds (ps := ["value"]) fun _ _ _ _ _ _ us hl => match us, hl with | [_], _ => rfl⟩
  have H5 : Has K mg "_law_dice" s__law_dice ["script", "spot"] := ⟨f5, _, PySem.W.mg_of X G a5, fun_mk (st := s__law_dice) l5 c5 k5, (fun_mk (st := s__law_dice) l5 c5 k5).binds (ps := ["script", "spot"]) fun _ _ _ _ _ _ us hl => match us, hl with | [_, _], _ => rfl⟩
  have H6 : Has K mg "_law_roll" s__law_roll ["dice", "total"] := ⟨f6, _, PySem.W.mg_of X G a6, fun_mk (st := s__law_roll) l6 c6 k6, (fun_mk (st := s__law_roll) l6 c6 k6).binds (ps := ["dice", "total"]) fun _ _ _ _ _ _ us hl => match us, hl with | [_, _], _ => rfl⟩
  have H7 : Has K mg "_law_pick" s__law_pick ["dice", "items"] := ⟨f7, _, PySem.W.mg_of X G a7, fun_mk (st := s__law_pick) l7 c7 k7, (fun_mk (st := s__law_pick) l7 c7 k7).binds (ps := ["dice", "items"]) fun _ _ _ _ _ _ us hl => match us, hl with | [_, _], _ => rfl⟩
  have H8 : Has K mg "_law_world" s__law_world ["dice"] := ⟨f8, _, PySem.W.mg_of X G a8, fun_mk (st := s__law_world) l8 c8 k8, (fun_mk (st := s__law_world) l8 c8 k8).binds (ps := ["dice"]) fun _ _ _ _ _ _ us hl => match us, hl with | [_], _ => rfl⟩
  have H9 : Has K mg "_law_right" s__law_right ["dice"] := ⟨f9, _, PySem.W.mg_of X G a9, fun_mk (st := s__law_right) l9 c9 k9, (fun_mk (st := s__law_right) l9 c9 k9).binds (ps := ["dice"]) fun _ _ _ _ _ _ us hl => match us, hl with | [_], _ => rfl⟩
  have FL := fun_mk (st := s_law) l10 c10 k10
  have z_len := PySem.W.mg_none_of X G y_len
  have z_int := PySem.W.mg_none_of X G y_int
  have z_abs := PySem.W.mg_none_of X G y_abs
  have z_max := PySem.W.mg_none_of X G y_max
  have z_min := PySem.W.mg_none_of X G y_min
  have z_range := PySem.W.mg_none_of X G y_range
  have z_isinstance := PySem.W.mg_none_of X G y_isinstance
  have z_str := PySem.W.mg_none_of X G y_str
  have z_bool := PySem.W.mg_none_of X G y_bool
  have z_tuple := PySem.W.mg_none_of X G y_tuple
  have z_all := PySem.W.mg_none_of X G y_all
  have z_repr := PySem.W.mg_none_of X G y_repr
  have g_MAX_WORLD := PySem.W.mg_of X G y_MAX_WORLD
  refine ⟨PySem.W.fnOf "law" "law" (defArgs s_law) (defBody s_law) (defScope s_law) .none kV10 dc10 pm10 an10 cd10 ct10, fun s v => .of_eq rfl, fun base _ _ => ?_⟩
  have R := ok_roll (P := l.prog) (w := w) (base := base) H6 z_int
  have RP := ok_pick (P := l.prog) (w := w) (base := base) H7 R z_len
  have RW := ok_world (P := l.prog) (w := w) (base := base) H8 R RP z_tuple z_range
  have RI := ok_is_world (P := l.prog) (w := w) (base := base) H1 g_MAX_WORLD z_len z_isinstance z_tuple z_bool z_all
  have RI2 := ok_is_wt (P := l.prog) (w := w) (base := base) H4 g_MAX_WORLD z_len z_isinstance z_str z_all
  have RT := ok_write (P := l.prog) (w := w) (base := base) H2 RI
  have RX := ok_read (P := l.prog) (w := w) (base := base) H3 RI2 z_tuple
  have RR := ok_right (P := l.prog) (w := w) (base := base) H9 R RP RW RI RT RX z_len z_repr z_range
  have RD := ok_dice (P := l.prog) (w := w) (base := base) H5 z_len z_int z_abs z_max
  exact ok_law FL RD RR RI RT RX z_len z_range z_min z_max
end Rw
open PySem PySem.W PyProof.Rows in
set_option maxRecDepth 100000 in
set_option maxHeartbeats 0 in
theorem PySem.Challenge.cw_restwise_k03_whole_worlds_and_their_text_holds : PySem.Challenge.rw_restwise_k03_whole_worlds_and_their_text.Holds := by
  w_on; o_law; k_head; (case hw => w_witness2)
  k_fill
  refine Rw.walk_ofG (l := PySem.Challenge.rw_restwise_k03_whole_worlds_and_their_text) (k := 5) (x := "script") (sp := Rw.spLaw) rfl rfl ⟨rfl, by decide, by decide⟩ (fun w h Y => PySem.W.kIn_of Y) ?F (fun _ _ a ns hl hS => ⟨a, ns, rfl, hS, hl, fun _ => rfl⟩)
  case F =>
    intro w mg fa h KX G hmg
    refine' Rw.all_mk KX G hmg ?a1 ?l1 ?c1 ?k1 ?a2 ?l2 ?c2 ?k2 ?a3 ?l3 ?c3 ?k3 ?a4 ?l4 ?c4 ?k4 ?a5 ?l5 ?c5 ?k5 ?a6 ?l6 ?c6 ?k6 ?a7 ?l7 ?c7 ?k7 ?a8 ?l8 ?c8 ?k8 ?a9 ?l9 ?c9 ?k9 ?a10 ?l10 ?c10 ?k10 ?y_len ?y_int ?y_abs ?y_max ?y_min ?y_range ?y_isinstance ?y_str ?y_bool ?y_tuple ?y_all ?y_repr ?y_MAX_WORLD
    (case a1 => k_is)
    (case l1 => k_is)
    (case c1 => k_is)
    (case k1 => k_is)
    (case a2 => k_is)
    (case l2 => k_is)
    (case c2 => k_is)
    (case k2 => k_is)
    (case a3 => k_is)
    (case l3 => k_is)
    (case c3 => k_is)
    (case k3 => k_is)
    (case a4 => k_is)
    (case l4 => k_is)
    (case c4 => k_is)
    (case k4 => k_is)
    (case a5 => k_is)
    (case l5 => k_is)
    (case c5 => k_is)
    (case k5 => k_is)
    (case a6 => k_is)
    (case l6 => k_is)
    (case c6 => k_is)
    (case k6 => k_is)
    (case a7 => k_is)
    (case l7 => k_is)
    (case c7 => k_is)
    (case k7 => k_is)
    (case a8 => k_is)
    (case l8 => k_is)
    (case c8 => k_is)
    (case k8 => k_is)
    (case a9 => k_is)
    (case l9 => k_is)
    (case c9 => k_is)
    (case k9 => k_is)
    (case a10 => k_is)
    (case l10 => k_is)
    (case c10 => k_is)
    (case k10 => k_is)
    (case y_len => k_is)
    (case y_int => k_is)
    (case y_abs => k_is)
    (case y_max => k_is)
    (case y_min => k_is)
    (case y_range => k_is)
    (case y_isinstance => k_is)
    (case y_str => k_is)
    (case y_bool => k_is)
    (case y_tuple => k_is)
    (case y_all => k_is)
    (case y_repr => k_is)
    (case y_MAX_WORLD => k_is)

