import PyProof.Rows.All
import Wide.All
import OpenK.AllK
import Wide.FinOn
import Lean
import PyProof.EqAt
import PyProof.EqKinds
import PyProof.TupleCall
import PyProof.NeKinds
import PyProof.ConsumeWalk
import PyProof.ReprRoads
import PyProof.ReprLen
import PyProof.ZipIter
import PyProof.Draws
import PyProof.EnumMake
import PyProof.SumWalkG
import PyProof.Rows.SortWalk
import PyProof.WalksMore
import PyProof.RaisesMany
import PyProof.ExcClass2
import KE.KLam
import KE.KMinKey
import KE.KRevIter
import PySem.Challenge.RW_platerest_k11_solutions_and_mixes_judged
set_option Elab.async false
set_option linter.all false
set_option maxRecDepth 100000
abbrev n0_:=@List.getElem?_eq_getElem
abbrev n1_:=@List.mem_of_getElem?
abbrev n2_:=@List.length_map
abbrev n3_:=@PySem.wpAny_bind
abbrev n4_:=@PySem.Heap.get?_push_of_some
abbrev n5_:=@List.getElem?_map
abbrev n6_:=@List.getD_eq_getElem?_getD
abbrev n7_:=@List.mem_cons_self
abbrev n8_:=@List.mem_cons_of_mem
abbrev n9_:=@Nat.le_refl
abbrev n10_:=@Nat.lt_of_le_of_lt
abbrev n11_:=@Nat.pow_le_pow_right
abbrev n12_:=@List.size_toArray
abbrev n13_:=@List.mem_singleton
abbrev n14_:=@decide_eq_true
abbrev n15_:=@Rat.intCast_mul
abbrev n16_:=@Nat.lt_of_lt_of_le
abbrev n17_:=@decide_eq_false
abbrev n18_:=@List.length_replicate
abbrev n19_:=@Nat.le_trans
abbrev n20_:=@PySem.wpAny_pure
abbrev n21_:=@Nat.pow_lt_pow_right
abbrev n22_:=@List.mem_map
abbrev n23_:=@List.length_cons
abbrev n24_:=@List.getElem?_zipWith
abbrev n25_:=@PySem.Heap.get?_push_size
abbrev n26_:=@List.length_append
abbrev n27_:=@Int.natAbs_mul
abbrev n28_:=@PySem.Heap.lt_size
abbrev n29_:=@List.mem_append
abbrev n30_:=@Bool.false_ne_true
abbrev n31_:=@List.mem_cons
abbrev n32_:=@Nat.le_of_ble_eq_true
abbrev n33_:=@List.length_zipWith
abbrev n34_:=@List.getElem?_eq_some_iff
abbrev n35_:=@List.mem_append_right
abbrev n36_:=@List.getElem_mem
abbrev n37_:=@Option.map_eq_some_iff
abbrev n38_:=@PySem.mem_of_lookup
abbrev n39_:=@List.take_succ_eq_append_getElem
abbrev n40_:=@Bool.and_eq_true
abbrev n41_:=@of_decide_eq_true
abbrev n42_:=@Nat.mul_le_mul_right
abbrev n43_:=@List.not_mem_nil
abbrev n44_:=@Nat.le_mul_of_pos_left
abbrev n45_:=@List.getElem_of_mem
abbrev n46_:=@PySem.W.mg_none_of
abbrev n47_:=@List.length_nil
abbrev n48_:=@List.all_eq_true
abbrev n49_:=@Nat.pow_add
abbrev n50_:=@Nat.ne_of_lt
abbrev n51_:=@List.zipWith_cons_cons
abbrev n52_:=@List.replicate_succ
abbrev n53_:=@Nat.mul_le_mul_left
abbrev n54_:=@List.mem_of_mem_take
abbrev n55_:=@Int.mul_comm
abbrev n56_:=@Nat.zero_le
abbrev n57_:=@List.sum_cons
abbrev n58_:=@List.getElem?_replicate
abbrev n59_:=@Nat.mul_le_mul
abbrev n60_:=@List.mem_iff_getElem?
abbrev n61_:=@Nat.one_lt_two_pow
abbrev n62_:=@List.getElem?_append_right
abbrev n63_:=@List.getElem?_append_left
abbrev n64_:=@PySem.Builtin.SmallTypes.nextOf
abbrev n65_:=@Int.toNat_natCast
abbrev n66_:=@PyProof.Rows.callWith_type1
abbrev n67_:=@List.take_length
abbrev n68_:=@List.length_set
abbrev n69_:=@List.map_cons
abbrev n70_:=@Int.fmod_nonneg_of_pos
abbrev n71_:=@List.length_pos_iff
abbrev n72_:=@List.length_drop
abbrev n73_:=@List.zipWith_nil_left
abbrev n74_:=@Nat.lt_of_succ_lt
abbrev n75_:=@Int.eq_ofNat_of_zero_le
abbrev n76_:=@Nat.le_of_lt
abbrev n77_:=@PySem.W.kia_one
abbrev n78_:=@List.zipWith_nil_right
abbrev n79_:=@List.length_take
abbrev n80_:=@List.cons_append
abbrev n81_:=@PySem.Heap.get?_update_other
abbrev n82_:=@List.foldl_append
abbrev n83_:=@Int.gcd_dvd_right
abbrev n84_:=@PySem.Heap.size_push
abbrev n85_:=@Bool.false_and
abbrev n86_:=@PySem.wpAny_holding
abbrev n87_:=@Bool.true_and
abbrev n88_:=@Nat.min_self
abbrev n89_:=@List.mem_of_mem_drop
abbrev n90_:=@PySem.Builtin.SmallTypes.ownedTupleIsFree
abbrev n91_:=@Rat.intCast_natCast
abbrev n92_:=@Nat.mul_comm
abbrev n93_:=@Int.mul_ne_zero
abbrev n94_:=@List.getElem?_eq_none
abbrev n95_:=@Int.natAbs_dvd_natAbs
abbrev n96_:=@Int.fmod_lt_of_pos
abbrev n97_:=@PySem.W.mg_of
abbrev n98_:=@Nat.lt_irrefl
namespace L2
open PySem PySem.W PyProof.Rows
def topRunT (tb : String → Option Builtin) (p : Program) (w : World) (n0 : Nat) (ann : Option Value) : Nat → SharedT → Thread → Option SharedT
  | 0, _, _ => none
  | n + 1, s, t => match through t with
    | true => some s
    | false => match stepOk n0 ann t with
      | false => none
      | true => match stepT (denote tb) p w s t with
        | some (s', t') => topRunT tb p w n0 ann n s' t'
        | none => none
theorem Zgm {tb : String → Option Builtin} {p : Program} {w : World} {n0 : Nat} {ann : Option Value} : ∀ {n : Nat} {s s' : SharedT} {t : Thread}, topRunT tb p w n0 ann n s t = some s' → topRun tb p w n0 ann n s.abs t = some s'.abs
  | 0, _, _, _, h => by cases h
  | n + 1, s, s', t, h => by
    unfold topRunT at h;unfold topRun;cases he : through t with
    | true => rw [he] at h; cases h; rfl
    | false =>
      rw [he] at h;cases hk : stepOk n0 ann t with
      | false => rw [hk] at h; cases h
      | true =>
        rw [hk] at h;cases hs : stepT (denote tb) p w s t with
        | none => rw [hs] at h; cases h
        | some r => obtain ⟨s2, t2⟩ := r; rw [hs] at h; rw [stepT_spec hs]; exact Zgm h
def btOf : List Obj → Nat → BT → BT
  | [], _, t => t
  | o :: os, n, t => btOf os (n + 1) (t.ins n o)
theorem Zid {p q : Program} {loose : List Str} {Xt : Shared → Bool} {α : Type} {Yf : Shared → α} {Ya : World → α} {N : Nat} {g0 : Bool} {T0 : Params → BT} {n0 : Nat} {life : Life} {ann : Option Value}
    (e : opening p = plainProg p.main.scope.names) (hN : Nat.ble 600 N = true) (f : ∀ s, fenceModules? p s = some s)
    (h0 : ∀ P, absHeap (T0 P) n0 life = boot_heap P)
    (size : ∀ P, ((boot_heap P).isNs mainGlobals, (boot_heap P).objs.size, (boot_heap P).nsMap mainGlobals "__annotations__") = (true, n0, ann))
    (run : ∀ (w : World) (os : OsState), (topRunT treeTable p w n0 ann N ⟨T0 w.params, n0, life, Array.mk [], boot_drawn, boot_toks, os⟩ (topStub p)).map (fun s => ((staticsOk (importedModules p.main.body) (boot_heap w.params) s.abs.heap && namesBound p s.abs.heap && gensDone s.abs && laidKept (boot_heap w.params) s.abs.heap), openSeen q loose (importedModules p.main.body) Xt g0 s.abs, Yf s.abs)) = some (true, openGood q loose, Ya w)) : LeftO p q loose Xt Yf Ya N g0 := fun w => by
  obtain ⟨⟨h, gs, d, k, os⟩, e1, e2⟩ := n37_.mp (boot_open e hN f w);obtain ⟨rfl, rfl, rfl, rfl⟩ : h = boot_heap w.params ∧ gs = Array.mk [] ∧ d = boot_drawn ∧ k = boot_toks := by simpa using e2
  obtain ⟨z1, z2, z3⟩ : _ ∧ _ ∧ _ := by simpa only [Prod.mk.injEq] using size w.params
  obtain ⟨s, r1, r2⟩ := n37_.mp (run w os);obtain ⟨l1, l2, l3⟩ : _ ∧ _ ∧ _ := by simpa only [Prod.mk.injEq] using r2
  have r := Zgm r1
  have ha : SharedT.abs ⟨T0 w.params, n0, life, Array.mk [], boot_drawn, boot_toks, os⟩ = ⟨boot_heap w.params, Array.mk [], boot_drawn, boot_toks, os⟩ := by
    unfold SharedT.abs;rw [h0]
  rw [ha] at r
  have t : topFrom treeTable p w N ⟨boot_heap w.params, Array.mk [], boot_drawn, boot_toks, os⟩ = some s.abs := by
    unfold topFrom;dsimp only;rw [z1, z2, z3, r];show (match staticsOk (importedModules p.main.body) (boot_heap w.params) s.abs.heap && namesBound p s.abs.heap && gensDone s.abs && laidKept (boot_heap w.params) s.abs.heap with | true => _ | false => _) = _
    rw [l1]
  unfold openEnds;rw [e1];show (topFrom treeTable p w N _).map _ = _
  rw [t];exact congrArg some (Prod.ext l2 l3)
lay_quick L2.topRunT
end L2
namespace L2
open PySem PySem.W PyProof.Rows
theorem Zgv {p q : Program} {loose : List Str} {Xt : Shared → Bool} {α : Type} {Yf : Shared → α} {Ya : World → α} {g0 : Bool} {R : World → OsState → Option SharedT}
    (h1 : ∀ w os, (R w os).map (fun s => (staticsOk (importedModules p.main.body) (boot_heap w.params) s.abs.heap && namesBound p s.abs.heap && gensDone s.abs && laidKept (boot_heap w.params) s.abs.heap)) = some true)
    (h2 : ∀ w os, (R w os).map (fun s => openSeen q loose (importedModules p.main.body) Xt g0 s.abs) = some (openGood q loose))
    (h3 : ∀ w os, (R w os).map (fun s => Yf s.abs) = some (Ya w)) (w : World) (os : OsState) :
    (R w os).map (fun s => ((staticsOk (importedModules p.main.body) (boot_heap w.params) s.abs.heap && namesBound p s.abs.heap && gensDone s.abs && laidKept (boot_heap w.params) s.abs.heap), openSeen q loose (importedModules p.main.body) Xt g0 s.abs, Yf s.abs)) = some (true, openGood q loose, Ya w) := by
  have a := h1 w os;have b := h2 w os;have c := h3 w os;cases e : R w os with
  | none => rw [e] at a; cases a
  | some s =>
    rw [e] at a b c;exact congrArg some (Prod.ext (Option.some.inj a) (Prod.ext (Option.some.inj b) (Option.some.inj c)))
noncomputable abbrev bootT (P : Params) : BT := btOf (boot_heap P).objs.toList 0 .nil
noncomputable def topK (p : Program) (N : Nat) (w : World) (os : OsState) : Option SharedT := topRunT treeTable p w 11 (some (.ref 6)) N ⟨bootT w.params, 11, {}, Array.mk [], boot_drawn, boot_toks, os⟩ (topStub p)
theorem Zm0 : ∀ P, absHeap (bootT P) 11 {} = boot_heap P := fun P => by kernel_rfl
theorem Zlj : ∀ P, ((boot_heap P).isNs mainGlobals, (boot_heap P).objs.size, (boot_heap P).nsMap mainGlobals "__annotations__") = (true, 11, some (.ref 6)) := fun P => by kernel_rfl
def Zo9 (p : Program) (names : List Str) : List Str := ((p.main.body.flatMap bindsAtTop).filter fun x => !startupNames.contains x && !names.contains x).eraseDups
end L2

namespace My
open PySem PySem.W PyProof.Rows L2
noncomputable abbrev pw : Program := PySem.Challenge.pw_platerest_k11_solutions_and_mixes_judged
noncomputable abbrev rr : OpenRow := OpenLaw.row PySem.Challenge.rw_platerest_k11_solutions_and_mixes_judged
noncomputable abbrev qq : Program := view pw [65]
noncomputable abbrev ll : List Str := Zo9 pw ["law"]
set_option maxRecDepth 1000000
set_option maxHeartbeats 0
theorem ws : OpenLaw.wellSaid PySem.Challenge.rw_platerest_k11_solutions_and_mixes_judged = true := by kernel_rfl
theorem h1 : ∀ w os, (topK pw 4228 w os).map (fun s => (staticsOk (importedModules pw.main.body) (boot_heap w.params) s.abs.heap && namesBound pw s.abs.heap && gensDone s.abs && laidKept (boot_heap w.params) s.abs.heap)) = some true := fun w os => by
  unfold topK topStub;rw [PySem.W.Fast.te4652649595001227023, PySem.W.Fast.te14364793385576792824, PySem.W.Fast.te17154629097778926822, PySem.W.Fast.te12822647523644345616]
  kernel_rfl
theorem h2 : ∀ w os, (topK pw 4228 w os).map (fun s => openSeen qq ll (importedModules pw.main.body) (fun s => xlAt qq [] s && recOk (RowW.records (OpenRow.toRowW rr)) s) true s.abs) = some (openGood qq ll) := fun w os => by
  unfold topK topStub;rw [PySem.W.Fast.te4652649595001227023, PySem.W.Fast.te14364793385576792824, PySem.W.Fast.te17154629097778926822, PySem.W.Fast.te12822647523644345616, PySem.W.Fast.te4187177175401517315]
  kernel_rfl
end My
noncomputable section
set_option Elab.async false
set_option linter.all false
set_option maxRecDepth 100000
namespace L2
open PySem PySem.Spec PyProof.Rows
theorem z0_:0≤sizeLine:=by decide
theorem z1_:1≤sizeLine:=by decide
theorem z2_:2≤sizeLine:=by decide
theorem z3_:3≤sizeLine:=by decide
theorem z4_:4≤sizeLine:=by decide
theorem z5_:5≤sizeLine:=by decide
abbrev Key:=Sum Int Str
def Zqi:Key→Value→Bool
 | .inl k,v=>Value.isInt k v
 | .inr x,v=>Value.isStrOf x v
def keyH (w:World):Key→Int
 | .inl k=>hashInt k
 | .inr x=>hashStr w x
theorem Yp:∀ {k:Key} {v:Value},Zqi k v=true→(∃ i t,k=Sum.inl i∧v=Value.int i t)∨(∃ x t,k=Sum.inr x∧v=Value.str x t)
 | .inl i,v,h=>by
   obtain ⟨t,e⟩:=Value.isInt_shape (k:=i) (v:=v) h;exact .inl ⟨i,t,rfl,e⟩
 | .inr x,v,h=>by
   obtain ⟨t,e⟩:=Value.isStrOf_shape (x:=x) (v:=v) h;exact .inr ⟨x,t,rfl,e⟩
theorem Zp0 (a b:Int):decide ((Sum.inl a:Key)=Sum.inl b)=(a == b):=by
 by_cases e:a=b
 · subst e; simp
 · have h:¬ (Sum.inl a:Key)=Sum.inl b:=fun q=>e (Sum.inl.inj q);rw [n17_ h];exact (beq_eq_false_iff_ne.mpr e).symm
theorem Zqz (a b:Str):decide ((Sum.inr a:Key)=Sum.inr b)=decide (a=b):=by
 by_cases e:a=b
 · subst e; simp
 · have h:¬ (Sum.inr a:Key)=Sum.inr b:=fun q=>e (Sum.inr.inj q);rw [n17_ h,n17_ e]
theorem Zqb (a:Int) (b:Str):decide ((Sum.inl a:Key)=Sum.inr b)=false:=n17_ (fun q=>nomatch q)
theorem Zp5 (a:Str) (b:Int):decide ((Sum.inr a:Key)=Sum.inl b)=false:=n17_ (fun q=>nomatch q)
def Zhp (prog:Program) (w:World):PySem.KeyKind prog w Key where
 is:=Zqi
 hash:=keyH w
 inj:=fun v a b ha hb=>by
  rcases Yp ha with ⟨i,t,rfl,rfl⟩ | ⟨x,t,rfl,rfl⟩
  · rcases Yp hb with ⟨j,u,rfl,e⟩ | ⟨y,u,rfl,e⟩
    · injection e with e1 _; rw [e1]
    · exact nomatch e
  · rcases Yp hb with ⟨j,u,rfl,e⟩ | ⟨y,u,rfl,e⟩
    · exact nomatch e
    · injection e with e1 _; rw [e1]
 byValue:=fun k v h=>by
  rcases Yp h with ⟨i,t,rfl,rfl⟩ | ⟨x,t,rfl,rfl⟩ <;> rfl
 pyHash:=fun hv h=>by
  rcases Yp hv with ⟨i,t,rfl,rfl⟩ | ⟨x,t,rfl,rfl⟩
  · exact wpAny_pyHash_int h
  · exact wpAny_pyHash_str h
 eqBool:=fun hu hv h=>by
  rcases Yp hu with ⟨i,t,rfl,rfl⟩ | ⟨x,t,rfl,rfl⟩
  · rcases Yp hv with ⟨j,u,rfl,rfl⟩ | ⟨y,u,rfl,rfl⟩
    · rw [Zp0] at h; exact wpAny_eqBool_int h
    · rw [Zqb] at h; exact SeqAt.EqAt.int_str i t y u _ _ _ _ h
  · rcases Yp hv with ⟨j,u,rfl,rfl⟩ | ⟨y,u,rfl,rfl⟩
    · rw [Zp5] at h; exact SeqAt.EqAt.str_int x t j u _ _ _ _ h
    · rw [Zqz] at h; exact wpAny_eqBool_str h
 «strs»:=fun k x t v h=>by
  rcases Yp h with ⟨i,u,rfl,e⟩ | ⟨y,u,rfl,e⟩
  · exact nomatch e
  · injection e with e1 _
    subst e1;cases v <;> rfl
end L2
namespace L2
open PySem PySem.Spec PyProof.Rows
inductive V where
 | non | bl (b:Bool) | int (i:Int) | str (x:Str) | byt (b:Array UInt8) | flt (b:UInt64) | ref (a:Addr) | ty (n:String)
 deriving DecidableEq
def RelV:V→Value→Prop
 | .non,u=>u=Value.none
 | .bl b,u=>u=Value.bool b
 | .int i,u=>∃ t,u=Value.int i t
 | .str x,u=>∃ t,u=Value.str x t
 | .byt b,u=>∃ t,u=Value.bytes b t
 | .flt b,u=>∃ t,u=Value.float b t
 | .ref a,u=>u=Value.ref a
 | .ty n,u=>u=Value.type n
abbrev Vals:List V→List Value→Prop:=Paired RelV
theorem Vals.length {xs:List V} {us:List Value} (r:Vals xs us):xs.length=us.length:=Paired.length r
theorem Vals.get:∀ {xs:List V} {us:List Value} {i:Nat} {x:V},Vals xs us→xs[i]? = some x→∃ u,us[i]? = some u∧RelV x u
 | _,_,_,_,.nil,e=>by simp at e
 | _,_,0,_,.cons r _,e=>by simp at e; subst e; exact ⟨_,rfl,r⟩
 | _,_,i+1,x,.cons _ t,e=>by
   obtain ⟨u,h1,h2⟩:=Vals.get (i:=i) (x:=x) t (by simpa using e);exact ⟨u,by simpa using h1,h2⟩
theorem Vals.set {x:V} {u:Value} (r:RelV x u):∀ {xs:List V} {us:List Value} (i:Nat),Vals xs us→Vals (xs.set i x) (us.set i u)
 | _,_,_,.nil=>.nil
 | _,_,0,.cons _ t=>.cons r t
 | _,_,i+1,.cons q t=>.cons q (Vals.set r i t)
theorem Vals.append:∀ {xs ys:List V} {us ws:List Value},Vals xs us→Vals ys ws→Vals (xs++ys) (us++ws)
 | _,_,_,_,.nil,s=>s
 | _,_,_,_,.cons r t,s=>.cons r (Vals.append t s)
theorem Vals.take:∀ {xs:List V} {us:List Value} (n:Nat),Vals xs us→Vals (xs.take n) (us.take n)
 | _,_,0,_=>.nil
 | _,_,_+1,.nil=>.nil
 | _,_,n+1,.cons r t=>.cons r (Vals.take n t)
theorem Vals.drop:∀ {xs:List V} {us:List Value} (n:Nat),Vals xs us→Vals (xs.drop n) (us.drop n)
 | _,_,0,r=>r
 | _,_,_+1,.nil=>.nil
 | _,_,n+1,.cons _ t=>Vals.drop n t
def RelO:Option V→Option Value→Prop
 | some v,some u=>RelV v u
 | none,none=>True
 | _,_=>False
def KV {κ:Type}:List (κ×V)→List (κ×Value)→Prop:=Paired fun (p:κ×V) (q:κ×Value)=>p.1=q.1∧RelV p.2 q.2
def kV:Key→V
 | .inl i=>.int i
 | .inr x=>.str x
inductive HO where
 | lst (xs:List V)
 | tup (xs:List V)
 | dK (kvs:List (Key×V)) | dT (kvs:List (List Key×V))
 | set (S:Int→Bool) (n:Nat)
 | ins (C dx:Addr) (fs:List (Str×V))
 | own (x:Addr)
 | xd (fs:List (Str×V))
 | met (f x:Addr)
 | rng (lo hi:Int)
 | frz (o:Obj) (u:HO)
 | tbl (ps:Array Value)
 | ext (φ:Heap→Prop)
abbrev Hp:=Addr→Option HO
def upd (H:Hp) (a:Addr) (o:HO):Hp:=fun b=>if b=a then some o else H b
theorem Zc {H:Hp} {a:Addr} {o:HO}:upd H a o a=some o:=by unfold upd; rw [if_pos rfl]
theorem Zo {H:Hp} {a b:Addr} {o:HO} (h:b≠a):upd H a o b=H b:=by unfold upd; rw [if_neg h]
theorem Zhw {H:Hp} {a b:Addr} {o u:HO} (h:H a=some o) (h':H b=some u) (d:o≠u):a≠b:=by
 intro e; subst e; rw [h] at h'; exact d (Option.some.inj h')
theorem Zk {H:Hp} {a b:Addr} {o:HO} (h:H a=some o) (h':H b=none):a≠b:=by
 intro e; subst e; rw [h] at h'; cases h'
section
variable (P:Program) (w:World)
def ObjOk (H:Hp) (h:Heap) (a:Addr):HO→Prop
 | .lst xs=>xs.length≤sizeLine∧∃ (its:List Value) (n:Nat),Vals xs its∧h.get? a=some { cls:=.type "list",data:=.seq its.toArray n }
 | .tup xs=>xs.length≤sizeLine∧∃ its:List Value,Vals xs its∧IsTup h a its.toArray
 | .dK kvs=>kvs.length≤sizeLine∧(a == sysModules)=false∧∃ vs,KV kvs vs∧h.DictOf (Zhp P w) a vs
 | .dT kvs=>kvs.length≤sizeLine∧(a == sysModules)=false∧∃ xs:List (List Key×Addr×Value),
    Paired (fun (p:List Key×V) (q:List Key×Addr×Value)=>p.1=q.1∧H q.2.1=some (.tup (p.1.map kV))∧RelV p.2 q.2.2) kvs xs ∧
    ∃ o es ep,h.get? a=some o∧o.ExactDict∧o.data=.dict es ep∧es.toList=xs.map (entryOfKey (tupleKind (Zhp P w)))∧(xs.map (·.1)).Nodup
 | .set S n=>h.SetOf (intKind P w) a S n
 | .ins C dx fs=>H dx=some (.own a)∧fs.length≤1000∧dx≠a∧h.get? a=some (PySem.W.instObj C dx) ∧
    ∃ mA,h.Ns1 dx mA∧(∀ f,RelO (fs.lookup f) (mA f))∧PySem.Within mA (fs.map (·.1))
 | .own _=>∃ o,h.get? a=some o
 | .xd fs=>∃ mA,h.Ns1 a mA∧∀ f,RelO (fs.lookup f) (mA f)
 | .rng lo hi=>∃ t u v,h.get? a=some { cls:=.type "range",data:=.fields #[.int lo t,.int hi u,.int 1 v] }
 | .frz o u=>h.get? a=some o∧ObjOk H h a u
 | .tbl ps=>h.get? a=some { cls:=.none,data:=.fields ps }
 | .met f x=>h.get? a=some (PySem.W.methodObj (.ref f) (.ref x))
 | .ext φ=>φ h∧(∃ o,h.get? a=some o)∧∀ h1 h2:Heap,φ h1→(∀ o,h1.get? a=some o→h2.get? a=some o)→φ h2
def HOk (H:Hp) (h:Heap):Prop:=∀ a o,H a=some o→ObjOk P w H h a o
end
section
variable {P:Program} {w:World} {H H':Hp} {h h':Heap} {a:Addr} {o:HO}
theorem ObjOk.lt (x:ObjOk P w H h a o):a < h.objs.size:=by
 cases o with
 | lst xs=>obtain ⟨_,_,_,_,e⟩:=x; exact n28_ e
 | tup xs=>obtain ⟨_,_,_,p⟩:=x; exact p.lt
 | dK kvs=>obtain ⟨_,_,_,_,o,_,_,e,_⟩:=x; exact n28_ e
 | dT kvs=>obtain ⟨_,_,_,_,o,_,_,e,_⟩:=x; exact n28_ e
 | set S n=>obtain ⟨o,_,_,_,e,_⟩:=x; exact n28_ e
 | ins C dx fs=>obtain ⟨_,_,_,e,_⟩:=x; exact n28_ e
 | own y=>obtain ⟨_,e⟩:=x; exact n28_ e
 | xd fs=>obtain ⟨_,⟨_,_,_,e,_⟩,_⟩:=x; exact n28_ e
 | rng lo hi=>obtain ⟨_,_,_,e⟩:=x; exact n28_ e
 | frz ob u=>obtain ⟨e,_⟩:=x; exact n28_ e
 | tbl ps=>exact n28_ (show h.get? a=some _ from x)
 | met f y=>exact n28_ (show h.get? a=some _ from x)
 | ext φ=>obtain ⟨_,⟨_,e⟩,_⟩:=x; exact n28_ e
theorem Paired.mapP {α β:Type} {F G:α→β→Prop}:∀ {l₁:List α} {l₂:List β},Paired F l₁ l₂→(∀ a b,F a b→G a b)→Paired G l₁ l₂
 | _,_,.nil,_=>.nil
 | _,_,.cons r t,f=>.cons (f _ _ r) (Paired.mapP t f)
theorem ObjOk.stay (x:ObjOk P w H h a o) (k:∀ b u,(b=a∨H b=some (.own a))→h.get? b=some u→h'.get? b=some u)
 (ho:∀ b,H b=some (.own a)→H' b=some (.own a)) (ht:∀ b xs,H b=some (.tup xs)→H' b=some (.tup xs)):ObjOk P w H' h' a o:=by
 induction o with
 | lst xs=>obtain ⟨z,its,n,r,e⟩:=x; exact ⟨z,its,n,r,k _ _ (.inl rfl) e⟩
 | tup xs=>obtain ⟨z,its,r,ob,e,c⟩:=x; exact ⟨z,its,r,ob,k _ _ (.inl rfl) e,c⟩
 | dK kvs=>obtain ⟨z,y,vs,r,ob,es,ep,e,c⟩:=x; exact ⟨z,y,vs,r,ob,es,ep,k _ _ (.inl rfl) e,c⟩
 | dT kvs =>
   obtain ⟨z,y,xs,r,ob,es,ep,e,c⟩:=x;exact ⟨z,y,xs,Paired.mapP r fun p q z=>⟨z.1,ht _ _ z.2.1,z.2.2⟩,ob,es,ep,k _ _ (.inl rfl) e,c⟩
 | set S n=>obtain ⟨ob,es,ep,t,e,c⟩:=x; exact ⟨ob,es,ep,t,k _ _ (.inl rfl) e,c⟩
 | ins C dx fs =>
   obtain ⟨d,z,ne,e,mA,⟨od,es,ep,e2,c⟩,r⟩:=x;exact ⟨ho _ d,z,ne,k _ _ (.inl rfl) e,mA,⟨od,es,ep,k _ _ (.inr d) e2,c⟩,r⟩
 | own y=>obtain ⟨ob,e⟩:=x; exact ⟨ob,k _ _ (.inl rfl) e⟩
 | xd fs=>obtain ⟨mA,⟨od,es,ep,e,c⟩,r⟩:=x; exact ⟨mA,⟨od,es,ep,k _ _ (.inl rfl) e,c⟩,r⟩
 | rng lo hi=>obtain ⟨t,u,v,e⟩:=x; exact ⟨t,u,v,k _ _ (.inl rfl) e⟩
 | frz ob u ih=>obtain ⟨e,q⟩:=x; exact ⟨k _ _ (.inl rfl) e,ih q⟩
 | tbl ps =>
   have e:h.get? a=some { cls:=.none,data:=.fields ps }:=x;show h'.get? a=some { cls:=.none,data:=.fields ps }
   exact k a _ (.inl rfl) e
 | met f y =>
   have e:h.get? a=some (PySem.W.methodObj (.ref f) (.ref y)):=x;show h'.get? a=some (PySem.W.methodObj (.ref f) (.ref y))
   exact k a _ (.inl rfl) e
 | ext φ=>obtain ⟨p,⟨o,e⟩,st⟩:=x; exact ⟨st _ _ p fun o q=>k _ _ (.inl rfl) q,⟨o,k _ _ (.inl rfl) e⟩,st⟩
theorem HOk.lt (x:HOk P w H h) (e:H a=some o):a < h.objs.size:=(x a o e).lt
theorem HOk.fresh (x:HOk P w H h) (e:h.objs.size≤a):H a=none:=by
 cases q:H a with
 | none=>rfl
 | some u=>exact absurd (n16_ (x.lt q) e) (n98_ _)
theorem HOk.kept (x:HOk P w H h) (k:∀ b u,h.get? b=some u→h'.get? b=some u):HOk P w H h':=fun a o e =>
 (x a o e).stay (fun b u _ q=>k b u q) (fun _ q=>q) fun _ _ q=>q
theorem HOk.laid (x:HOk P w H h) (k:∀ b u,h.get? b=some u→h'.get? b=some u) (hp:h.objs.size≤a) (new:ObjOk P w (upd H a o) h' a o):HOk P w (upd H a o) h':=fun b u e=>by
 have hn:=x.fresh hp
 by_cases hb:b=a
 · subst hb; rw [Zc] at e; cases e; exact new
 · rw [Zo hb] at e;exact (x b u e).stay (fun c v _ q=>k c v q) (fun c q=>by rw [Zo (Zk q hn)]; exact q) fun c xs q=>by rw [Zo (Zk q hn)]; exact q
end
def Rd (H:Hp) (a:Addr) (u:HO):Prop:=H a=some u∨∃ o,H a=some (.frz o u)
theorem Rd.ok {P:Program} {w:World} {H:Hp} {h:Heap} {a:Addr} {u:HO} (r:Rd H a u) (x:HOk P w H h):ObjOk P w H h a u:=by
 rcases r with r | ⟨o,r⟩
 · exact x a u r
 · obtain ⟨_,q⟩:=x a _ r;exact q
def Mut:Option HO→Prop
 | some (.lst _)=>True
 | some (.dK _)=>True
 | some (.dT _)=>True
 | some (.set _ _)=>True
 | some (.ins _ _ _)=>True
 | some (.ext _)=>True
 | _=>False
section
variable {P:Program} {w:World} {H:Hp} {h h':Heap} {x e:Addr} {o':HO}
theorem HOk.write (ok:HOk P w H h) (mu:Mut (H x)) (he:e=x∨H e=some (.own x)) (k:∀ b u,b≠e→h.get? b=some u→h'.get? b=some u) (heo:∃ u,h'.get? e=some u)
 (new:ObjOk P w (upd H x o') h' x o'):HOk P w (upd H x o') h':=fun b u q=>by
 have nown:∀ c y,H c=some (.own y)→c≠x:=fun c y r z=>by subst z; rw [r] at mu; exact mu
 have ntup:∀ c xs,H c=some (.tup xs)→c≠x:=fun c xs r z=>by subst z; rw [r] at mu; exact mu
 by_cases hb:b=x
 · subst hb; rw [Zc] at q; cases q; exact new
 · rw [Zo hb] at q
   by_cases hbe:b=e
   · have q':H b=some (.own x):=by
      rcases he with z | z
      · exact absurd (hbe.trans z) hb
      · rw [hbe]; exact z
     rw [q] at q'; cases q';obtain ⟨v,hv⟩:=heo;exact ⟨v,by rw [hbe]; exact hv⟩
   · refine (ok b u q).stay (fun c v hc r=>k c v ?_ r) (fun c r=>by rw [Zo (nown c b r)]; exact r) fun c xs r=>by rw [Zo (ntup c xs r)]; exact r
     rcases hc with rfl | hc
     · exact hbe
     · rintro rfl
       rcases he with z | z
       · exact nown c b hc z
       · rw [hc] at z; cases z; exact hb rfl
end
structure Un (fs ex:List Addr) (H H':Hp) (h h':Heap):Prop where
 keep:∀ b o,h.get? b=some o→H b=none→b∉fs→b∉ex→h'.get? b=some o
 slot:∀ b o,h.get? b=some o→H b=none→b∈fs→b∉ex→∃ sl,h'.get? b=some { o with slots:=sl }
 free:∀ b o,h.get? b=some o→H b=none→b∉ex→H' b=none
 there:∀ b o,h.get? b=some o→b∉ex→∃ o',h'.get? b=some o'
 tups:∀ b xs,H b=some (.tup xs)→H' b=some (.tup xs)
 frzs:∀ b o u,H b=some (.frz o u)→H' b=some (.frz o u)
 tbls:∀ b ps,H b=some (.tbl ps)→∃ more,H' b=some (.tbl (ps++more))
section
variable {fs fs' ex ex':List Addr} {H H1 H2:Hp} {h h1 h2 h':Heap} {a x e:Addr} {o:HO}
theorem Un.any (u:Un fs ex H H1 h h1) {b:Addr} {ob:Obj} (q:h.get? b=some ob) (n:H b=none) (hx:b∉ex):∃ sl,h1.get? b=some { ob with slots:=sl }:=by
 by_cases hb:b∈fs
 · exact u.slot b ob q n hb hx
 · exact ⟨ob.slots,u.keep b ob q n hb hx⟩
theorem Un.kept (k:∀ b u,h.get? b=some u→h'.get? b=some u):Un fs ex H H h h' :=
 ⟨fun b ob q _ _ _=>k b ob q,fun b ob q _ _ _=>⟨ob.slots,k b ob q⟩,fun _ _ _ n _=>n,fun b ob q _=>⟨ob,k b ob q⟩,fun _ _ q=>q,fun _ _ _ q=>q,fun _ ps q=>⟨#[],by rw [q]; simp⟩⟩
theorem Un.refl:Un fs ex H H h h:=Un.kept fun _ _ q=>q
theorem Un.laid (k:∀ b u,h.get? b=some u→h'.get? b=some u) (hp:h.objs.size≤a) (hn:H a=none):Un fs ex H (upd H a o) h h' where
 keep:=fun b u q _ _ _=>k b u q
 slot:=fun b u q _ _ _=>⟨u.slots,k b u q⟩
 free:=fun b u q n _=>by rw [Zo (n50_ (n16_ (n28_ q) hp))]; exact n
 there:=fun b u q _=>⟨u,k b u q⟩
 tups:=fun b xs q=>by rw [Zo (Zk q hn)]; exact q
 frzs:=fun b u xs q=>by rw [Zo (Zk q hn)]; exact q
 tbls:=fun b ps q=>⟨#[],by rw [Zo (Zk q hn),q]; simp⟩
theorem Un.write (mu:Mut (H x)) (he:e=x∨H e=some (.own x)) (k:∀ b u,b≠e→h.get? b=some u→h'.get? b=some u) (heo:∃ u,h'.get? e=some u):Un fs ex H (upd H x o) h h':=by
 have hx:∀ b,H b=none→b≠x:=fun b n z=>by subst z; rw [n] at mu; exact mu
 have hb:∀ b,H b=none→b≠e:=fun b n z=>by
  subst z
  rcases he with r | r
  · exact hx b n r
  · rw [n] at r; cases r
 have hm:∀ b u,H b=some u→¬ Mut (some u)→b≠x:=fun b u q nm z=>by subst z; rw [q] at mu; exact nm mu
 refine ⟨fun b u q n _ _=>k b u (hb b n) q,fun b u q n _ _=>⟨u.slots,k b u (hb b n) q⟩,fun b u q n _=>by rw [Zo (hx b n)]; exact n,fun b u q _=>?_,
  fun b xs q=>by rw [Zo (hm b _ q fun z=>z)]; exact q,fun b u xs q=>by rw [Zo (hm b _ q fun z=>z)]; exact q,fun b ps q=>⟨#[],by rw [Zo (hm b _ q fun z=>z),q]; simp⟩⟩
 by_cases hbe:b=e
 · subst hbe; exact heo
 · exact ⟨u,k b u hbe q⟩
end
def trk (h:Heap) (H:Hp):List Addr:=(List.range h.objs.size).filter fun a=>(H a).isSome
def hidT (h:Heap) (H:Hp):Heap:=PySem.W.hideAll h (trk h H)
theorem Zkt (h:Heap) (H:Hp):(hidT h H).objs.size=h.objs.size:=PySem.W.hideAll_size _ _
theorem Znb {h:Heap} {H:Hp} {b:Addr} {o:Obj} (e:h.get? b=some o) (n:H b=none):(hidT h H).get? b=some o :=
 PySem.W.hideAll_get _ e fun hm=>by
  have q:(H b).isSome=true:=(List.mem_filter.mp hm).2;rw [n] at q; simp at q
theorem Zo4 {h:Heap} {H:Hp} {b:Addr} {o:Obj} (e:(hidT h H).get? b=some o):h.get? b=some o∧H b=none:=by
 have e':h.get? b=some o:=PySem.W.of_hideAll (trk h H) e;refine ⟨e',?_⟩;cases q:H b with
 | none=>rfl
 | some x =>
   have hm:b∈trk h H:=List.mem_filter.mpr ⟨List.mem_range.mpr (n28_ e'),by simp [q]⟩;have z:(hidT h H).get? b=none:=PySem.W.hideAll_none (trk h H) hm;rw [z] at e; cases e
end L2
namespace L2
open PySem PySem.Spec PyProof.Rows
structure Mod (K:PySem.W.Frag) (mg:Str→Option Value) (base:Heap):Prop where
 kin:K.In base
 glob:base.Ns mainGlobals mg
 blt:∃ mb,base.Ns builtinsNs mb∧∀ x:Str,x ≠ "__name__" → mb x=bootBuiltins x
 nolimit:base.NoLimit
structure Cx where
 prog:Program
 w:World
 K:PySem.W.Frag
 mg:Str→Option Value
 base:Heap
 A:Around
 N:List Str
 s₀:Shared
 H₀:Hp
 env:Env
 outer:List Env
 stack:List Env
 ex:List Addr
 fn:Str→Bool
 calm:Bool
 pn:List (Addr×Obj)
 xe:Value→Shared→Prop
def frs (l:List Env):List Addr:=l.filterMap (·.frame)
abbrev Cx.fs (X:Cx):List Addr:=frs X.outer
def Vis (sc:Scope) (x:Str):Prop:=sc.names.lookup x=some .local∨sc.names.lookup x=some .cell∨sc.names.lookup x=some .free
def Loc (sc:Scope) (x:Str):Prop:=sc.names.lookup x=some .local∨sc.names.lookup x=some .cell
def Look (env:Env) (h:Heap) (m:Str→Option Value) (x:Str) (u:Value):Prop :=
 (env.kindOf x=some .local∧m x=some u)∨((env.kindOf x=some .cell∨env.kindOf x=some .free)∧∃ c,env.cells.lookup x=some c∧h.IsCell c (some u))
structure Cx.Ok (X:Cx):Prop where
 mod:Mod X.K X.mg X.base
 kind:X.env.scope.kind=.function
 glob:X.env.globals=mainGlobals
 blt:X.env.builtins=builtinsNs
 above:X.s₀.heap.objs.size≤X.env.locals
 inj:∀ x y c,X.env.cells.lookup x=some c→X.env.cells.lookup y=some c→x=y
 has:∀ x,(X.env.kindOf x=some .cell∨X.env.kindOf x=some .free)→∃ c,X.env.cells.lookup x=some c
 cab:∀ x c,X.fn x=true→X.env.cells.lookup x=some c→X.s₀.heap.objs.size≤c
 hd:X.calm=true→X.A.handled=none
 frames:X.A.frames=some X.stack
 stk:X.stack=X.outer∨(X.stack=X.env :: X.outer∧X.env.frame=some X.env.locals)
 exf:∀ b∈X.ex,b≠X.env.locals∧∀ x c,X.env.cells.lookup x=some c→c≠b
 bs:∀ b o,X.base.get? b=some o→X.s₀.heap.get? b=some o∧X.H₀ b=none
 bsz:X.base.objs.size≤X.s₀.heap.objs.size
 noex:∀ b o,X.base.get? b=some o→b∉X.ex
 exfs:∀ b∈X.ex,b∉X.fs
 funs:X.s₀.heap.FunFrames X.base X.outer
 frf:∀ b∈X.fs,X.H₀ b=none
structure Inv (X:Cx) (pins:List (Addr×Obj)) (σ:List (Option V)) (H:Hp) (s:Shared):Prop where
 ok:X.Ok
 os:s.os=X.s₀.os
 bare:AllBare s.gens
 base:Un X.fs X.ex X.H₀ H X.s₀.heap s.heap
 loc:∃ m,s.heap.Ns X.env.locals m∧∀ (i:Nat) (x:Str) (v:V),X.N[i]? = some x→σ[i]? = some (some v)→Vis X.env.scope x→∃ u,RelV v u∧Look X.env s.heap m x u
 cell:∀ x c,X.env.cells.lookup x=some c→∃ v,s.heap.IsCell c v
 free:H X.env.locals=none
 freeC:∀ x c,X.env.cells.lookup x=some c→H c=none∨(X.fn x=false∧∃ o u,H c=some (.frz o u))
 pin:∀ p∈X.pn++pins,s.heap.get? p.1=some p.2∧H p.1=none∧p.1≠X.env.locals∧p.1∉X.fs∧∀ v,p.2.data≠.cell v
 hok:HOk X.prog X.w H s.heap
 len:σ.length=X.N.length
section
variable {X:Cx} {pins:List (Addr×Obj)} {σ:List (Option V)} {H H':Hp} {s:Shared} {h':Heap}
theorem Cx.Ok.nofr (ok:X.Ok) {b:Addr} {o:Obj} (e:X.base.get? b=some o):b∉X.fs:=fun hb=>by
 have:=(ok.funs.mem hb).1
 rw [e] at this; cases this
theorem Inv.bs (I:Inv X pins σ H s):∀ b o,X.base.get? b=some o→s.heap.get? b=some o∧H b=none:=fun b o e =>
 ⟨I.base.keep b o (I.ok.bs b o e).1 (I.ok.bs b o e).2 (I.ok.nofr e) (I.ok.noex b o e),I.base.free b o (I.ok.bs b o e).1 (I.ok.bs b o e).2 (I.ok.noex b o e)⟩
theorem Inv.bk (I:Inv X pins σ H s):∀ b o,X.base.get? b=some o→s.heap.get? b=some o:=fun b o e=>(I.bs b o e).1
theorem Inv.mod (I:Inv X pins σ H s):Mod X.K X.mg X.base:=I.ok.mod
theorem Inv.kIn (I:Inv X pins σ H s):X.K.In s.heap:=I.ok.mod.kin.keeps I.bk
theorem Inv.lt (I:Inv X pins σ H s):X.env.locals < s.heap.objs.size:=let ⟨_,hn,_⟩:=I.loc; hn.lt
theorem Inv.sz (I:Inv X pins σ H s):X.s₀.heap.objs.size≤s.heap.objs.size:=n19_ I.ok.above (n76_ I.lt)
theorem Inv.nofs (I:Inv X pins σ H s) {a:Addr} (h:s.heap.objs.size≤a):a∉X.fs:=fun hb=>by
 obtain ⟨_,o,ho,_⟩:=I.ok.funs.mem hb;exact absurd (n16_ (n28_ ho) (n19_ I.sz h)) (n98_ _)
theorem Inv.cne (I:Inv X pins σ H s):∀ x c,X.env.cells.lookup x=some c→c≠X.env.locals:=fun x c e z=>by
 obtain ⟨v,o,ho,hd⟩:=I.cell x c e;obtain ⟨m,⟨o',es,ep,ho',hd',_⟩,_⟩:=I.loc;rw [z,ho'] at ho; cases ho; rw [hd'] at hd; cases hd
theorem Inv.funs (I:Inv X pins σ H s):s.heap.FunFrames X.base X.outer:=by
 have all:∀ (l:List Env),(∀ b∈frs l,b∈X.fs)→X.s₀.heap.FunFrames X.base l→s.heap.FunFrames X.base l:=by
  intro l
  induction l with
  | nil=>intro _ _; trivial
  | cons env r ih =>
    intro hs hl;obtain ⟨hk,⟨L,o,hf,hn,ho,hd⟩,hr⟩:=hl;have hL:L∈X.fs:=hs L (by unfold frs; rw [List.filterMap_cons,hf]; exact n7_);obtain ⟨sl,e⟩:=I.base.slot L o ho (I.ok.frf L hL) hL fun z=>I.ok.exfs L z hL;exact ⟨hk,⟨L,_,hf,hn,e,hd⟩,ih (fun b hb=>hs b (by unfold frs; rw [List.filterMap_cons,hf]; exact n8_ _ hb)) hr⟩
 exact all X.outer (fun _ hb=>hb) I.ok.funs
theorem Inv.stack (I:Inv X pins σ H s):s.heap.FunFrames X.base X.stack:=by
 rcases I.ok.stk with e | ⟨e,hf⟩
 · rw [e]; exact I.funs
 · rw [e];obtain ⟨m,hn,_⟩:=I.loc;refine .cons (by rw [I.ok.kind]; decide) hf hn ?_ I.funs;exact Heap.get?_none_of_le (n19_ I.ok.bsz I.ok.above)
theorem Inv.stkSub (I:Inv X pins σ H s):∀ b∈frs X.stack,b∈X.env.locals :: X.fs:=fun b hb=>by
 rcases I.ok.stk with e | ⟨e,hf⟩
 · rw [e] at hb; exact n8_ _ hb
 · rw [e] at hb;unfold frs at hb;rw [List.filterMap_cons,hf] at hb;exact hb
theorem Inv.stkFree (I:Inv X pins σ H s):∀ b∈frs X.stack,H b=none:=fun b hb=>by
 rcases n31_.mp (I.stkSub b hb) with e | hb
 · rw [e]; exact I.free
 · obtain ⟨_,o,ho,_⟩:=I.ok.funs.mem hb;exact I.base.free b o ho (I.ok.frf b hb) fun z=>I.ok.exfs b z hb
theorem Inv.step {g':Array GenState} {t':Nat} {d':Drawn} {ch:List Addr} (I:Inv X pins σ H s)
 (hch:∀ b∈ch,(b∈X.ex∨X.s₀.heap.objs.size≤b)∧b≠X.env.locals∧(∀ x c,X.env.cells.lookup x=some c→c≠b)∧∀ p∈X.pn++pins,p.1≠b)
 (keep:∀ b o,b≠X.env.locals→b∉X.fs→b∉ch→s.heap.get? b=some o→H b=none→h'.get? b=some o)
 (slot:∀ b o,b≠X.env.locals→b∈X.fs→b∉ch→s.heap.get? b=some o→H b=none→∃ sl,h'.get? b=some { o with slots:=sl }) (free:∀ b o,b∉ch→s.heap.get? b=some o→H b=none→H' b=none)
 (there:∀ b o,b∉ch→s.heap.get? b=some o→∃ o',h'.get? b=some o')
 (tups:∀ b xs,H b=some (.tup xs)→H' b=some (.tup xs)) (frzs:∀ b o u,H b=some (.frz o u)→H' b=some (.frz o u)) (tbls:∀ b ps,H b=some (.tbl ps)→∃ more,H' b=some (.tbl (ps++more)))
 (ns:∀ m,s.heap.Ns X.env.locals m→h'.Ns X.env.locals m) (hok:HOk X.prog X.w H' h') (hg:AllBare g') :
 Inv X pins σ H' { s with heap:=h',gens:=g',drawn:=d',toks:=t' }:=by
 have neL:∀ b o,X.s₀.heap.get? b=some o→b≠X.env.locals:=fun b o e=>n50_ (n16_ (n28_ e) I.ok.above)
 have neC:∀ b o,X.s₀.heap.get? b=some o→b∉X.ex→b∉ch:=fun b o e hx hb=>by
  rcases (hch b hb).1 with z | z
  · exact hx z
  · exact absurd (n16_ (n28_ e) z) (n98_ _)
 have cellK:∀ x c,X.env.cells.lookup x=some c→∀ v,s.heap.IsCell c v→h'.IsCell c v:=fun x c e v ⟨o,ho,hd⟩=>by
  have nch:c∉ch:=fun z=>(hch c z).2.2.1 x c e rfl
  rcases I.freeC x c e with fz | ⟨_,o',u',fz⟩
  · by_cases hc:c∈X.fs
    · obtain ⟨sl,q⟩:=slot c o (I.cne x c e) hc nch ho fz;exact ⟨_,q,hd⟩
    · exact ⟨o,keep c o (I.cne x c e) hc nch ho fz,hd⟩
  · have h1:=(I.hok c _ fz).1;rw [ho] at h1; cases h1;exact ⟨o,(hok c _ (frzs c o u' fz)).1,hd⟩
 refine ⟨I.ok,I.os,hg,⟨fun b o e n hb hx=>?_,fun b o e n hb hx=>?_,fun b o e n hx=>?_,fun b o e hx=>?_,fun b xs e=>tups b xs (I.base.tups b xs e),fun b o xs e=>frzs b o xs (I.base.frzs b o xs e),fun b ps e=>?_⟩,?_,fun x c e=>?_,?_,fun x c e=>?_,fun p hp=>?_,hok,I.len⟩
 · exact keep b o (neL b o e) hb (neC b o e hx) (I.base.keep b o e n hb hx) (I.base.free b o e n hx)
 · obtain ⟨sl,e1⟩:=I.base.slot b o e n hb hx;obtain ⟨sl',e2⟩:=slot b _ (neL b o e) hb (neC b o e hx) e1 (I.base.free b o e n hx);exact ⟨sl',e2⟩
 · obtain ⟨o',e1⟩:=I.base.there b o e hx;exact free b o' (neC b o e hx) e1 (I.base.free b o e n hx)
 · obtain ⟨o',e1⟩:=I.base.there b o e hx;exact there b o' (neC b o e hx) e1
 · obtain ⟨m1,e1⟩:=I.base.tbls b ps e;obtain ⟨m2,e2⟩:=tbls b _ e1;exact ⟨m1++m2,by rw [e2,Array.append_assoc]⟩
 · obtain ⟨m,hn,hl⟩:=I.loc;refine ⟨m,ns m hn,fun i x v e1 e2 e3=>?_⟩;obtain ⟨u,r,l⟩:=hl i x v e1 e2 e3;refine ⟨u,r,?_⟩
   rcases l with l | ⟨k,c,e,z⟩
   · exact .inl l
   · exact .inr ⟨k,c,e,cellK x c e _ z⟩
 · obtain ⟨v,z⟩:=I.cell x c e;exact ⟨v,cellK x c e v z⟩
 · obtain ⟨m,⟨o,_,_,ho,_⟩,_⟩:=I.loc;exact free _ o (fun z=>(hch _ z).2.1 rfl) ho I.free
 · obtain ⟨v,o,ho,hd⟩:=I.cell x c e;exact (I.freeC x c e).imp (fun fz=>free c o (fun z=>(hch c z).2.2.1 x c e rfl) ho fz) fun ⟨q,o',u',fz⟩=>⟨q,o',u',frzs c o' u' fz⟩
 · obtain ⟨e,n,ne,nf,d⟩:=I.pin p hp;have nch:p.1∉ch:=fun z=>(hch p.1 z).2.2.2 p hp rfl;exact ⟨keep p.1 p.2 ne nf nch e n,free p.1 p.2 nch e n,ne,nf,d⟩
theorem Inv.un {t':Nat} (I:Inv X pins σ H s) (u:Un X.fs [] H H' s.heap h') (hok:HOk X.prog X.w H' h'):Inv X pins σ H' { s with heap:=h',toks:=t' }:=by
 obtain ⟨m,⟨o,es,ep,ho,r⟩,_⟩:=id I.loc;obtain ⟨sl,hL⟩:=u.any ho I.free (by simp)
 exact I.step (g':=s.gens) (d':=s.drawn) (ch:=[]) (fun _ z=>nomatch z) (fun b o _ hb _ e n=>u.keep b o e n hb (by simp)) (fun b o _ hb _ e n=>u.slot b o e n hb (by simp)) (fun b o _ e n=>u.free b o e n (by simp)) (fun b o _ e=>u.there b o e (by simp)) u.tups u.frzs u.tbls (fun m' hm=>by
  obtain ⟨o',es',ep',ho',r'⟩:=hm;rw [ho] at ho'; cases ho';exact ⟨_,es',ep',hL,r'⟩) hok I.bare
theorem Inv.call {g':Array GenState} {t':Nat} {d':Drawn} {ch:List Addr} (I:Inv X pins σ H s) (u:Un (frs X.stack) ch H H' s.heap h') (hok:HOk X.prog X.w H' h') (hg:AllBare g')
 (hch:∀ b∈ch,(b∈X.ex∨X.s₀.heap.objs.size≤b)∧b≠X.env.locals∧(∀ x c,X.env.cells.lookup x=some c→c≠b)∧∀ p∈X.pn++pins,p.1≠b) :
 Inv X pins σ H' { s with heap:=h',gens:=g',drawn:=d',toks:=t' }:=by
 obtain ⟨m,⟨o,es,ep,ho,r⟩,_⟩:=id I.loc;obtain ⟨sl,hL⟩:=u.any ho I.free fun z=>(hch _ z).2.1 rfl
 exact I.step (ch:=ch) hch (fun b o hL hb hc e n=>u.keep b o e n (fun z=>(n31_.mp (I.stkSub b z)).elim hL hb) hc) (fun b o _ _ hc e n=>u.any e n hc) (fun b o hc e n=>u.free b o e n hc) (fun b o hc e=>u.there b o e hc) u.tups u.frzs u.tbls (fun m' hm=>by
  obtain ⟨o',es',ep',ho',r'⟩:=hm;rw [ho] at ho'; cases ho';exact ⟨_,es',ep',hL,r'⟩) hok hg
theorem Inv.turned {t':Nat} {it:Addr} (I:Inv X pins σ H s) (k:∀ b o,b≠it→s.heap.get? b=some o→h'.get? b=some o) (hn:H it=none) (hL:it≠X.env.locals)
 (h1:it∈X.ex∨X.s₀.heap.objs.size≤it) (h2:∀ x c,X.env.cells.lookup x=some c→c≠it) (h3:∀ p∈X.pn++pins,p.1≠it):Inv X pins σ H { s with heap:=h',toks:=t' }:=by
 have nit:∀ b u,H b=some u→b≠it:=fun b u e z=>by rw [z,hn] at e; cases e
 refine I.step (g':=s.gens) (d':=s.drawn) (ch:=[it]) (fun b hb=>?_) (fun b o _ _ hc e _=>k b o (fun z=>hc (by simp [z])) e) (fun b o _ _ hc e _=>⟨o.slots,k b o (fun z=>hc (by simp [z])) e⟩) (fun _ _ _ _ n=>n)
  (fun b o hc e=>⟨o,k b o (fun z=>hc (by simp [z])) e⟩) (fun _ _ e=>e) (fun _ _ _ e=>e) (fun b ps e=>⟨#[],by rw [e]; simp⟩) (fun m hm=>?_) (fun b u e=>?_) I.bare
 · have e:b=it:=by simpa using hb
   subst e;exact ⟨h1,hL,h2,h3⟩
 · obtain ⟨o,es,ep,ho,r⟩:=hm;exact ⟨o,es,ep,k _ o (Ne.symm hL) ho,r⟩
 · refine (I.hok b u e).stay (fun c v hc q=>k c v ?_ q) (fun _ q=>q) fun _ _ q=>q
   rcases hc with z | z
   · rw [z]; exact nit b u e
   · exact nit c _ z
theorem Inv.tok (I:Inv X pins σ H s) (t:Nat):Inv X pins σ H { s with toks:=t }:=I.un (h':=s.heap) (t':=t) Un.refl I.hok
theorem Inv.kept {t':Nat} (I:Inv X pins σ H s) (k:∀ b u,s.heap.get? b=some u→h'.get? b=some u):Inv X pins σ H { s with heap:=h',toks:=t' }:=I.un (Un.kept k) (I.hok.kept k)
theorem Inv.laid {a:Addr} {o:HO} {t':Nat} (I:Inv X pins σ H s) (k:∀ b u,s.heap.get? b=some u→h'.get? b=some u) (hp:s.heap.objs.size≤a) (new:ObjOk X.prog X.w (upd H a o) h' a o) :
 Inv X pins σ (upd H a o) { s with heap:=h',toks:=t' }:=I.un (Un.laid k hp (I.hok.fresh hp)) (I.hok.laid k hp new)
theorem Inv.write {x e:Addr} {o:HO} {t':Nat} (I:Inv X pins σ H s) (mu:Mut (H x)) (he:e=x∨H e=some (.own x)) (k:∀ b u,b≠e→s.heap.get? b=some u→h'.get? b=some u) (heo:∃ u,h'.get? e=some u)
 (new:ObjOk X.prog X.w (upd H x o) h' x o):Inv X pins σ (upd H x o) { s with heap:=h',toks:=t' }:=I.un (Un.write mu he k heo) (I.hok.write mu he k heo new)
theorem Inv.pins_of {pins':List (Addr×Obj)} (I:Inv X pins σ H s) (h:∀ p∈pins',s.heap.get? p.1=some p.2∧H p.1=none∧p.1≠X.env.locals∧p.1∉X.fs∧∀ v,p.2.data≠.cell v):Inv X pins' σ H s :=
 ⟨I.ok,I.os,I.bare,I.base,I.loc,I.cell,I.free,I.freeC,fun p hp=>(n29_.mp hp).elim (fun z=>I.pin p (List.mem_append_left _ z)) (h p),I.hok,I.len⟩
theorem Zjq {N:List Str} (hN:N.Nodup) {i j:Nat} {x:Str} (a:N[i]? = some x) (b:N[j]? = some x):i=j:=by
 obtain ⟨h1,e1⟩:=n34_.mp a;obtain ⟨h2,e2⟩:=n34_.mp b;exact (List.getElem_inj hN).mp (e1.trans e2.symm)
theorem Zlp {M:Model} {A:Around} {E:Value→Shared→Prop} {i:Nat} {x:Str} {v:V} {u:Value} {Q:Unit→Shared→Prop} (I:Inv X pins σ H s) (hN:X.N.Nodup) (hi:X.N[i]? = some x) (hx:Loc X.env.scope x) (r:RelV v u)
 (h:∀ s',Inv X pins (σ.set i (some v)) H s'→(∃ a,Heap.SameBut a s.heap s'.heap∧(a=X.env.locals∨X.env.cells.lookup x=some a))→Q () s') (hf:X.fn x=true∨X.env.scope.names.lookup x=some .local:=by first | exact .inl rfl | exact .inr rfl | assumption):wpAny M A (storeName X.env x u) Q E s:=by
 obtain ⟨m,hn,hl⟩:=id I.loc;have hcls:(X.env.scope.kind == .class || (X.env.scope.kind == .module && X.env.locals != X.env.globals))=false:=by rw [I.ok.kind]; rfl
 have hiσ:i < σ.length:=by rw [I.len]; exact (n34_.mp hi).1
 have cne:=I.cne
 have tracked:∀ {a:Addr} {h':Heap},(∃ o,s.heap.get? a=some o∧H a=none)→Heap.SameBut a s.heap h'→HOk X.prog X.w H h':=fun {a h'} ha hs b ob e=>by
  obtain ⟨_,_,hfree⟩:=ha;refine (I.hok b ob e).stay (fun c w' hc q=>(hs.2 c ?_).trans q) (fun _ q=>q) fun _ _ q=>q;rintro rfl
  rcases hc with rfl | hc
  · rw [hfree] at e; cases e
  · rw [hfree] at hc; cases hc
 rcases hx with hk | hk
 · refine wpAny_storeName_local hk hn (fun h' hn' hs=>?_) hcls;obtain ⟨oL,_,_,hoL,_⟩:=id hn;refine h _ ⟨I.ok,I.os,I.bare,⟨fun b o e n hb hx=>?_,fun b o e n hb hx=>?_,I.base.free,fun b o e hx=>?_,I.base.tups,I.base.frzs,I.base.tbls⟩,⟨_,hn',fun j y v' e1 e2 e3=>?_⟩,fun y c e=>?_,I.free,I.freeC,fun p hp=>?_,tracked ⟨oL,hoL,I.free⟩ hs,by simpa using I.len⟩ ⟨_,hs,.inl rfl⟩
   · exact (hs.2 b (n50_ (n16_ (n28_ e) I.ok.above))).trans (I.base.keep b o e n hb hx)
   · obtain ⟨sl,e1⟩:=I.base.slot b o e n hb hx;exact ⟨sl,(hs.2 b (n50_ (n16_ (n28_ e) I.ok.above))).trans e1⟩
   · obtain ⟨o',e1⟩:=I.base.there b o e hx;exact ⟨o',(hs.2 b (n50_ (n16_ (n28_ e) I.ok.above))).trans e1⟩
   · by_cases hj:j=i
     · subst hj;rw [hi] at e1; cases e1;rw [List.getElem?_set_self hiσ] at e2;cases e2
       exact ⟨u,r,.inl ⟨hk,by simp⟩⟩
     · rw [List.getElem?_set_ne (Ne.symm hj)] at e2;obtain ⟨u',r',q⟩:=hl j y v' e1 e2 e3;refine ⟨u',r',?_⟩
       rcases q with ⟨k,e⟩ | ⟨k,c,e,z⟩
       · refine .inl ⟨k,?_⟩
         have:y≠x:=fun e=>hj (Zjq hN e1 (e ▸ hi))
         simp [this,e]
       · exact .inr ⟨k,c,e,z.sameBut hs (cne y c e)⟩
   · obtain ⟨w',z⟩:=I.cell y c e;exact ⟨w',z.sameBut hs (cne y c e)⟩
   · obtain ⟨e,n,ne,nf,d⟩:=I.pin p hp;exact ⟨(hs.2 p.1 ne).trans e,n,ne,nf,d⟩
 · have hfn:X.fn x=true:=by
    rcases hf with z | z
    · exact z
    · rw [z] at hk; cases hk
   obtain ⟨c,hc⟩:=I.ok.has x (.inl hk);obtain ⟨w',z⟩:=I.cell x c hc;refine wpAny_storeName_cell I.ok.kind hk hc z (fun h' hc' hs=>?_);obtain ⟨oc,hoc,hocd⟩:=id z;refine h { s with heap:=h' } ⟨I.ok,I.os,I.bare,⟨fun b o e n hb hx=>?_,fun b o e n hb hx=>?_,I.base.free,fun b o e hx=>?_,I.base.tups,I.base.frzs,I.base.tbls⟩,⟨m,hn.sameBut hs (Ne.symm (cne x c hc)),fun j y v' e1 e2 e3=>?_⟩,fun y c' e=>?_,I.free,I.freeC,fun p hp=>?_,tracked ⟨oc,hoc,(I.freeC x c hc).elim id fun z=>(by rw [hfn] at z; cases z.1)⟩ hs,by simpa using I.len⟩ ⟨c,hs,.inr hc⟩
   · exact (hs.2 b (n50_ (n16_ (n28_ e) (I.ok.cab x c hfn hc)))).trans (I.base.keep b o e n hb hx)
   · obtain ⟨sl,e1⟩:=I.base.slot b o e n hb hx;exact ⟨sl,(hs.2 b (n50_ (n16_ (n28_ e) (I.ok.cab x c hfn hc)))).trans e1⟩
   · obtain ⟨o',e1⟩:=I.base.there b o e hx;exact ⟨o',(hs.2 b (n50_ (n16_ (n28_ e) (I.ok.cab x c hfn hc)))).trans e1⟩
   · by_cases hj:j=i
     · subst hj;rw [hi] at e1; cases e1;rw [List.getElem?_set_self hiσ] at e2;cases e2
       exact ⟨u,r,.inr ⟨.inl hk,c,hc,hc'⟩⟩
     · rw [List.getElem?_set_ne (Ne.symm hj)] at e2;obtain ⟨u',r',q⟩:=hl j y v' e1 e2 e3;refine ⟨u',r',?_⟩
       rcases q with q | ⟨k,c',e,z'⟩
       · exact .inl q
       · refine .inr ⟨k,c',e,z'.sameBut hs ?_⟩;rintro rfl
         exact hj (Zjq hN e1 (I.ok.inj _ _ _ e hc ▸ hi))
   · by_cases hcc:c'=c
     · subst hcc; exact ⟨_,hc'⟩
     · obtain ⟨w2,z2⟩:=I.cell y c' e;exact ⟨w2,z2.sameBut hs hcc⟩
   · obtain ⟨e,n,ne,nf,d⟩:=I.pin p hp;refine ⟨(hs.2 p.1 ?_).trans e,n,ne,nf,d⟩;intro q;rw [q,hoc] at e;have q':oc=p.2:=Option.some.inj e;exact d w' (by rw [← q']; exact hocd)
theorem Zbq {M:Model} {A:Around} {E:Value→Shared→Prop} {i:Nat} {x:Str} {v:V} {u:Value} {Q:Unit→Shared→Prop} (I:Inv X pins σ H s) (hN:X.N.Nodup) (hi:X.N[i]? = some x) (hx:Loc X.env.scope x) (r:RelV v u)
 (h:∀ s',Inv X pins (σ.set i (some v)) H s'→Q () s') (hf:X.fn x=true∨X.env.scope.names.lookup x=some .local:=by first | exact .inl rfl | exact .inr rfl | assumption):wpAny M A (storeName X.env x u) Q E s :=
 Zlp I hN hi hx r (fun s' I' _=>h s' I') hf
theorem Inv.call' {s':Shared} {ch:List Addr} (I:Inv X pins σ H s) (ho:s'.os=s.os) (u:Un (frs X.stack) ch H H' s.heap s'.heap) (hok:HOk X.prog X.w H' s'.heap) (hg:AllBare s'.gens)
 (hch:∀ b∈ch,(b∈X.ex∨X.s₀.heap.objs.size≤b)∧b≠X.env.locals∧(∀ x c,X.env.cells.lookup x=some c→c≠b)∧∀ p∈X.pn++pins,p.1≠b):Inv X pins σ H' s':=by
 obtain ⟨h',g',d',t',o'⟩:=s';have e:o'=s.os:=ho;subst e;exact I.call (g':=g') (t':=t') (d':=d') u hok hg hch
end
abbrev XK:=Value→Option Addr→Hp→Prop
abbrev St:=List (Option V)
abbrev VK:=V→Hp→Prop
abbrev TE:=St→Hp→VK→Prop
abbrev TT:=St→Hp→(Bool→Hp→Prop)→Prop
abbrev TA:=St→Hp→(List V→Hp→Prop)→Prop
structure Ends where
 nx:St→Hp→Prop
 rt:VK
 bk:St→Hp→Prop:=fun _ _=>False
 ct:St→Hp→Prop:=fun _ _=>False
abbrev TS:=Ends→St→Hp→Prop
def EP (X:Cx) (pins:List (Addr×Obj)) (σ:St) (Q:VK) (u:Value) (s':Shared):Prop:=∃ v H',Inv X pins σ H' s'∧RelV v u∧Q v H'
def TP (X:Cx) (pins:List (Addr×Obj)) (σ:St) (Q:Bool→Hp→Prop) (b:Bool) (s':Shared):Prop:=∃ H',Inv X pins σ H' s'∧Q b H'
def AP (X:Cx) (pins:List (Addr×Obj)) (σ:St) (Q:List V→Hp→Prop) (us:List Value) (s':Shared):Prop:=∃ vs H',Inv X pins σ H' s'∧Vals vs us∧Q vs H'
def SP (X:Cx) (pins:List (Addr×Obj)) (D:Ends) (f:Flow) (s':Shared):Prop :=
 match f with
 | .next=>∃ σ' H',Inv X pins σ' H' s'∧D.nx σ' H'
 | .brk=>∃ σ' H',Inv X pins σ' H' s'∧D.bk σ' H'
 | .cont=>∃ σ' H',Inv X pins σ' H' s'∧D.ct σ' H'
 | .ret u=>∃ v σ' H',Inv X pins σ' H' s'∧RelV v u∧D.rt v H'
def PE (X:Cx) (e:Expr) (t:TE):Prop :=
 ∀ (pins:List (Addr×Obj)) (s:Shared) (σ:St) (H:Hp) (Q:VK),Inv X pins σ H s→t σ H Q→wpAny (model X.prog X.w) X.A (eval e X.env) (EP X pins σ Q) X.xe s
def PT (X:Cx) (e:Expr) (t:TT):Prop :=
 ∀ (pins:List (Addr×Obj)) (s:Shared) (σ:St) (H:Hp) (Q:Bool→Hp→Prop),Inv X pins σ H s→t σ H Q→wpAny (model X.prog X.w) X.A (isTrue e X.env (eval e X.env)) (TP X pins σ Q) X.xe s
def PW (X:Cx) (e:Expr) (t:TT):Prop :=
 ∀ (whole:Sem Value) (pins:List (Addr×Obj)) (s:Shared) (σ:St) (H:Hp) (Q:Bool→Hp→Prop),Inv X pins σ H s→t σ H Q→wpAny (model X.prog X.w) X.A (isTrue e X.env whole) (TP X pins σ Q) X.xe s
theorem PW.pt {X:Cx} {e:Expr} {t:TT} (h:PW X e t):PT X e t:=h _
def PA (X:Cx) (es:List Expr) (t:TA):Prop :=
 ∀ (pos:Pos) (pins:List (Addr×Obj)) (s:Shared) (σ:St) (H:Hp) (Q:List V→Hp→Prop),Inv X pins σ H s→t σ H Q→wpAny (model X.prog X.w) X.A (spliced (backTo pos (starEach es X.env))) (AP X pins σ Q) X.xe s
def PS (X:Cx) (st:Stmt) (t:TS):Prop :=
 ∀ (pins:List (Addr×Obj)) (s:Shared) (σ:St) (H:Hp) (D:Ends),Inv X pins σ H s→t D σ H→wpAny (model X.prog X.w) X.A (exec st X.env) (SP X pins D) X.xe s
def PSs (X:Cx) (st:List Stmt) (t:TS):Prop :=
 ∀ (pins:List (Addr×Obj)) (s:Shared) (σ:St) (H:Hp) (D:Ends),Inv X pins σ H s→t D σ H→wpAny (model X.prog X.w) X.A (execs st X.env) (SP X pins D) X.xe s
theorem thn {α:Type} {t:Sem α} {Q Q':α→Shared→Prop} {M:Model} {A:Around} {E:Value→Shared→Prop} {s:Shared} (h:wpAny M A t Q E s) (hQ:∀ a s,Q a s→Q' a s):wpAny M A t Q' E s:=wpAny_mono h hQ fun _ _ x=>x
end L2
namespace L2
open PySem PySem.Spec PyProof.Rows
section
variable {X:Cx}
def tVar (i:Nat):TE:=fun σ H Q=>∃ v,σ[i]? = some (some v)∧Q v H
def tC (v:V):TE:=fun _ H Q=>Q v H
theorem Zpw {i:Nat} {x:Str} {pos:Pos} (hN:X.N[i]? = some x) (hv:Vis X.env.scope x) (hd:(x == ("__debug__" : Str))=false:=by decide) (hcd:(x == ("__classdict__" : Str))=false:=by decide):PE X (.Name x pos) (tVar i):=by
 intro pins s σ H Q I h;obtain ⟨v,e,h⟩:=h;obtain ⟨m,hn,hl⟩:=I.loc;obtain ⟨u,r,l⟩:=hl i x v hN e hv;have fin:EP X pins σ Q u s:=⟨v,H,I,r,h⟩
 rcases l with ⟨hk,hm⟩ | ⟨hk,c,hc,hcell⟩
 · exact wpAny_Name (wpAny_loadName_local I.ok.kind hk hn hm fin) hd
 · rcases hk with hk | hk
   · exact wpAny_Name (wpAny_loadName_cell I.ok.kind hk hc hcell fin) hd
   · exact wpAny_Name (wpAny_loadName_free I.ok.kind hk hc hcell fin hcd) hd
theorem Zf {i j pos}:PE X (.Constant (.int i) j pos) (tC (.int i)):=fun _ _ _ H _ I h=>wpAny_Constant_int ⟨.int i,H,I.tok _,⟨_,rfl⟩,h⟩
theorem Zau {b j pos}:PE X (.Constant (.bool b) j pos) (tC (.bl b)):=fun _ _ _ H _ I h=>Constant_bool ⟨.bl b,H,I,rfl,h⟩
theorem Zhe {j pos}:PE X (.Constant .none j pos) (tC .non):=fun _ _ _ H _ I h=>Constant_none ⟨.non,H,I,rfl,h⟩
theorem Zji {x j pos}:PE X (.Constant (.str x) j pos) (tC (.str x)):=fun _ _ _ H _ I h=>Calls.Constant_str ⟨.str x,H,I.tok _,⟨_,rfl⟩,h⟩
def Gl (X:Cx) (x:Str):Prop:=X.env.kindOf x=some .globalImplicit
theorem Zlc {E:Value→Shared→Prop} {pins:List (Addr×Obj)} {s:Shared} {σ:St} {H:Hp} {x:Str} {u:Value} {pos:Pos} {Q:Value→Shared→Prop} (I:Inv X pins σ H s) (hg:Gl X x) (hm:X.mg x=some u) (h:Q u s)
 (hd:(x == ("__debug__" : Str))=false:=by decide):wpAny (model X.prog X.w) X.A (eval (.Name x pos) X.env) Q E s :=
 Calls.Name_function_global I.ok.kind hg (Calls.loadGlobal_global (by rw [I.ok.glob]; exact I.mod.glob.keeps I.bk) hm h) hd
theorem Zbg {E:Value→Shared→Prop} {pins:List (Addr×Obj)} {s:Shared} {σ:St} {H:Hp} {x:Str} {u:Value} {pos:Pos} {Q:Value→Shared→Prop} (I:Inv X pins σ H s) (hg:Gl X x) (hm:X.mg x=none) (hv:bootBuiltins x=some u) (h:Q u s)
 (hn:x ≠ "__name__" := by decide) (hd:(x == ("__debug__" : Str))=false:=by decide):wpAny (model X.prog X.w) X.A (eval (.Name x pos) X.env) Q E s:=by
 obtain ⟨mb,h1,h2⟩:=I.mod.blt;exact Calls.Name_function_global I.ok.kind hg (Calls.loadGlobal_builtin (by rw [I.ok.glob]; exact I.mod.glob.keeps I.bk) hm (by rw [I.ok.blt]; exact h1.keeps I.bk) ((h2 x hn).trans hv) h) hd
theorem Zcm {x:Str} {v:V} {u:Value} {pos:Pos} (hg:Gl X x) (hm:X.mg x=some u) (r:RelV v u) (hd:(x == ("__debug__" : Str))=false:=by decide):PE X (.Name x pos) (tC v) :=
 fun _ _ _ H _ I h=>Zlc I hg hm ⟨v,H,I,r,h⟩ hd
theorem Xk {x:Str} {v:V} {u:Value} {pos:Pos} (hg:Gl X x) (hm:X.mg x=none) (hv:bootBuiltins x=some u) (r:RelV v u) (hn:x ≠ "__name__" := by decide) (hd:(x == ("__debug__" : Str))=false:=by decide):PE X (.Name x pos) (tC v) :=
 fun _ _ _ H _ I h=>Zbg I hg hm hv ⟨v,H,I,r,h⟩ hn hd
variable {a b:Expr} {ta tb:TE} {pos:Pos}
variable {tA tB':TT} {rest:List Expr}
def tAnd (t u:TT):TT:=fun σ H Q=>t σ H fun c H1=>if c=true then u σ H1 Q else Q false H1
def tOr (t u:TT):TT:=fun σ H Q=>t σ H fun c H1=>if c=true then Q true H1 else u σ H1 Q
def tNot (t:TT):TT:=fun σ H Q=>t σ H fun c H1=>Q (!c) H1
theorem Zdd (ha:PT X a tA):PW X (.BoolOp .And [a] pos) tA:=by
 intro wh pins s σ H Q I h;refine isTrue_and (thn (ha pins s σ H Q I h) fun c s1 e=>?_);cases c with
 | true=>exact isTrue_and_nil e
 | false=>exact e
theorem Zeo (ha:PT X a tA):PW X (.BoolOp .Or [a] pos) tA:=by
 intro wh pins s σ H Q I h;refine isTrue_or (thn (ha pins s σ H Q I h) fun c s1 e=>?_);cases c with
 | false=>exact isTrue_or_nil e
 | true=>exact e
theorem Zex (ha:PT X a tA) (hb:PW X (.BoolOp .And (b :: rest) pos) tB'):PW X (.BoolOp .And (a :: b :: rest) pos) (tAnd tA tB'):=by
 intro wh pins s σ H Q I h;refine isTrue_and (thn (ha pins s σ H _ I h) fun c s1 ⟨H1,I1,q1⟩=>?_);cases c with
 | true=>exact hb wh pins s1 σ H1 Q I1 q1
 | false=>exact ⟨H1,I1,q1⟩
theorem Zhh (ha:PT X a tA) (hb:PW X (.BoolOp .Or (b :: rest) pos) tB'):PW X (.BoolOp .Or (a :: b :: rest) pos) (tOr tA tB'):=by
 intro wh pins s σ H Q I h;refine isTrue_or (thn (ha pins s σ H _ I h) fun c s1 ⟨H1,I1,q1⟩=>?_);cases c with
 | true=>exact ⟨H1,I1,q1⟩
 | false=>exact hb wh pins s1 σ H1 Q I1 q1
theorem X4 (ha:PT X a tA):PT X (.UnaryOp .Not a pos) (tNot tA):=by
 intro pins s σ H Q I h;exact isTrue_not (ha pins s σ H (fun c H1=>Q (!c) H1) I h)
def Zrj (ta tb:TE):TE:=fun σ H Q=>ta σ H fun x H1=>∃ c,x=.bl c∧if c=true then tb σ H1 Q else Q (.bl false) H1
def Zq4 (ta:TE):TE:=fun σ H Q=>ta σ H fun x H1=>∃ c,x=.bl c∧Q (.bl (!c)) H1
theorem Zjd {op} {t:TE} (h:PE X a t):PE X (.BoolOp op [a] pos) t:=fun pins s σ H Q I hw=>BoolOp_one (h pins s σ H Q I hw)
theorem Zgz (ha:PE X a ta) (hb:PE X (.BoolOp .And (b :: rest) pos) tb):PE X (.BoolOp .And (a :: b :: rest) pos) (Zrj ta tb):=by
 intro pins s σ H Q I h;refine BoolOp_and (thn (ha pins s σ H _ I h) fun v s1 ⟨x,H1,I1,r1,q1⟩=>?_);obtain ⟨c,rfl,q1⟩:=q1;cases r1
 refine wpAny_truthy_bool ?_;cases c with
 | true=>exact hb pins s1 σ H1 Q I1 q1
 | false=>exact ⟨.bl false,H1,I1,rfl,q1⟩
theorem Zop (ha:PE X a ta):PE X (.UnaryOp .Not a pos) (Zq4 ta):=by
 intro pins s σ H Q I h;refine UnaryOp_ (thn (ha pins s σ H _ I h) fun v s1 ⟨x,H1,I1,r1,q1⟩=>?_);obtain ⟨c,rfl,q1⟩:=q1;cases r1
 exact not_of (wpAny_truthy_bool ⟨.bl (!c),H1,I1,rfl,q1⟩)
def tIf (t:TT) (ta tb:TE):TE:=fun σ H Q=>t σ H fun c H1=>if c=true then ta σ H1 Q else tb σ H1 Q
theorem Zal {c:Expr} (hc:PT X c tA) (ha:PE X a ta) (hb:PE X b tb):PE X (.IfExp c a b pos) (tIf tA ta tb):=by
 intro pins s σ H Q I h;refine wpAny_IfExp (thn (hc pins s σ H _ I h) fun d s1 ⟨H1,I1,q1⟩=>?_);cases d with
 | true=>exact ha pins s1 σ H1 Q I1 q1
 | false=>exact hb pins s1 σ H1 Q I1 q1
end
end L2
namespace L2
open PySem PySem.Spec PyProof.Rows
def SqL (K:PySem.W.Frag) (H:Hp) (a:Addr) (xs:List V):Prop :=
 Rd H a (.lst xs) ∨
  ∃ (o:Obj) (its:Array Value) (n:Nat),K.lookup a=some o∧o.cls=.type "list" ∧ o.dict=none∧o.data=.seq its n∧its.size≤sizeLine∧Vals xs its.toList
def SqT (K:PySem.W.Frag) (H:Hp) (a:Addr) (xs:List V):Prop :=
 Rd H a (.tup xs) ∨
  ∃ (o:Obj) (its:Array Value) (n:Nat),K.lookup a=some o∧o.cls=.type "tuple" ∧ o.data=.seq its n∧its.size≤sizeLine∧Vals xs its.toList
def absV:Value→Option V
 | .none=>some .non
 | .bool b=>some (.bl b)
 | .int i _=>some (.int i)
 | .str x _=>some (.str x)
 | .bytes b _=>some (.byt b)
 | .float b _=>some (.flt b)
 | .ref a=>some (.ref a)
 | .type n=>some (.ty n)
 | _=>none
theorem RelV.abs {x:V} {u:Value} (r:RelV x u):absV u=some x:=by
 cases x with
 | non=>cases r; rfl
 | bl _=>cases r; rfl
 | int _=>obtain ⟨t,rfl⟩:=r; rfl
 | str _=>obtain ⟨t,rfl⟩:=r; rfl
 | byt _=>obtain ⟨t,rfl⟩:=r; rfl
 | flt _=>obtain ⟨t,rfl⟩:=r; rfl
 | ref _=>cases r; rfl
 | ty _=>cases r; rfl
theorem RelV.inj {x y:V} {u:Value} (r:RelV x u) (q:RelV y u):x=y:=Option.some.inj (r.abs.symm.trans q.abs)
theorem Vals.inj:∀ {xs ys:List V} {us:List Value},Vals xs us→Vals ys us→xs=ys
 | _,_,_,.nil,.nil=>rfl
 | _,_,_,.cons r t,.cons r' t'=>by rw [r.inj r',Vals.inj t t']
section
variable {X:Cx} {pins:List (Addr×Obj)} {σ:St} {H:Hp} {s:Shared} {a:Addr} {xs ys:List V}
theorem SqL.of {K:PySem.W.Frag} (h:H a=some (.lst xs)):SqL K H a xs:=.inl (.inl h)
theorem SqT.of {K:PySem.W.Frag} (h:H a=some (.tup xs)):SqT K H a xs:=.inl (.inl h)
theorem Inv.list (I:Inv X pins σ H s) (h:SqL X.K H a xs):∃ its:List Value,Vals xs its∧PlainL s.heap a its.toArray∧xs.length≤sizeLine:=by
 rcases h with h | ⟨o,its,n,hk,hc,hd,hs,hz,r⟩
 · obtain ⟨z,its,n,r,e⟩:=h.ok I.hok;exact ⟨its,r,⟨_,n,e,rfl,rfl,rfl⟩,z⟩
 · refine ⟨its.toList,r,⟨o,n,I.kIn a o hk,hc,hd,by simpa using hs⟩,?_⟩;have e:=r.length;simp only [Array.length_toList] at e;omega
theorem Inv.tuple (I:Inv X pins σ H s) (h:SqT X.K H a xs):∃ its:List Value,Vals xs its∧IsTup s.heap a its.toArray∧xs.length≤sizeLine:=by
 rcases h with h | ⟨o,its,n,hk,hc,hs,hz,r⟩
 · obtain ⟨z,its,r,p⟩:=h.ok I.hok;exact ⟨its,r,p,z⟩
 · refine ⟨its.toList,r,⟨o,I.kIn a o hk,hc,n,by simpa using hs⟩,?_⟩;have e:=r.length;simp only [Array.length_toList] at e;omega
theorem Inv.list_inj (I:Inv X pins σ H s) (h:SqL X.K H a xs) (h':SqL X.K H a ys):xs=ys:=by
 obtain ⟨its,r,⟨o,n,e,_,_,d⟩,_⟩:=I.list h;obtain ⟨its',r',⟨o',n',e',_,_,d'⟩,_⟩:=I.list h';rw [e] at e'; cases e';rw [d] at d';injection d' with d1 _
 have:its=its':=by simpa using congrArg Array.toList d1
 subst this;exact r.inj r'
theorem Inv.tuple_inj (I:Inv X pins σ H s) (h:SqT X.K H a xs) (h':SqT X.K H a ys):xs=ys:=by
 obtain ⟨its,r,⟨o,e,_,n,d⟩,_⟩:=I.tuple h;obtain ⟨its',r',⟨o',e',_,n',d'⟩,_⟩:=I.tuple h';rw [e] at e'; cases e';rw [d] at d';injection d' with d1 _
 have:its=its':=by simpa using congrArg Array.toList d1
 subst this;exact r.inj r'
end
abbrev Cx.wish (X:Cx) (E:Value→Shared→Prop):Cx:={ X with xe:=E }
abbrev Cx.nox (X:Cx):Cx:=X.wish fun _ _=>False
theorem Cx.Ok.wish {X:Cx} (ok:X.Ok) (E:Value→Shared→Prop):(X.wish E).Ok :=
 ⟨ok.mod,ok.kind,ok.glob,ok.blt,ok.above,ok.inj,ok.has,ok.cab,ok.hd,ok.frames,ok.stk,ok.exf,ok.bs,ok.bsz,ok.noex,ok.exfs,ok.funs,ok.frf⟩
theorem Cx.Ok.unwish {X:Cx} {E:Value→Shared→Prop} (ok:(X.wish E).Ok):X.Ok :=
 ⟨ok.mod,ok.kind,ok.glob,ok.blt,ok.above,ok.inj,ok.has,ok.cab,ok.hd,ok.frames,ok.stk,ok.exf,ok.bs,ok.bsz,ok.noex,ok.exfs,ok.funs,ok.frf⟩
section
variable {X:Cx} {pins:List (Addr×Obj)} {σ:St} {H:Hp} {s:Shared} {E:Value→Shared→Prop}
theorem Inv.wish (I:Inv X pins σ H s) (E:Value→Shared→Prop):Inv (X.wish E) pins σ H s:=⟨I.ok.wish E,I.os,I.bare,I.base,I.loc,I.cell,I.free,I.freeC,I.pin,I.hok,I.len⟩
theorem Inv.unwish (I:Inv (X.wish E) pins σ H s):Inv X pins σ H s:=⟨I.ok.unwish,I.os,I.bare,I.base,I.loc,I.cell,I.free,I.freeC,I.pin,I.hok,I.len⟩
theorem SP.unwish {D:Ends} {f:Flow} {s':Shared} (h:SP (X.wish E) pins D f s'):SP X pins D f s':=by
 cases f with
 | next=>obtain ⟨σ',H',I,q⟩:=h; exact ⟨σ',H',I.unwish,q⟩
 | brk=>obtain ⟨σ',H',I,q⟩:=h; exact ⟨σ',H',I.unwish,q⟩
 | cont=>obtain ⟨σ',H',I,q⟩:=h; exact ⟨σ',H',I.unwish,q⟩
 | ret u=>obtain ⟨v,σ',H',I,r,q⟩:=h; exact ⟨v,σ',H',I.unwish,r,q⟩
theorem PSs.nox {st:List Stmt} {t:TS} (h:PSs X.nox st t):PSs X st t:=fun pins s σ H D I hw =>
 wpAny_mono (h pins s σ H D (I.wish _) hw) (fun _ _ q=>q.unwish) fun _ _ z=>False.elim z
end
section
variable {X:Cx} {st:Stmt} {rest:List Stmt} {t u:TS} {e:Expr} {te:TE} {pos:Pos}
def Zq9:TS:=fun D σ H=>D.nx σ H
def tSeq (t u:TS):TS:=fun D σ H=>t { D with nx:=u D } σ H
theorem Z3:PSs X [] Zq9:=fun _ _ σ H _ I h=>wpAny_execs_nil ⟨σ,H,I,h⟩
theorem Zd (h1:PS X st t) (h2:PSs X rest u):PSs X (st :: rest) (tSeq t u):=by
 intro pins s σ H D I h;refine wpAny_execs_cons (thn (h1 pins s σ H { D with nx:=u D } I h) fun f s1 q=>?_);cases f with
 | next =>
   obtain ⟨σ',H',I',q⟩:=q;exact h2 pins s1 σ' H' D I' q
 | ret v=>exact q
 | brk=>exact q
 | cont=>exact q
theorem Zg (h1:PS X st t):PSs X [st] t:=by
 intro pins s σ H D I h;refine wpAny_execs_cons (thn (h1 pins s σ H D I h) fun f s1 q=>?_);cases f with
 | next=>exact wpAny_execs_nil q
 | ret v=>exact q
 | brk=>exact q
 | cont=>exact q
def Zqt:TS:=fun D σ H=>D.bk σ H
theorem Znf:PS X (.Break pos) Zqt:=fun _ _ σ H _ I h=>wpAny_Break ⟨σ,H,I,h⟩
theorem Inv.quiet {pins:List (Addr×Obj)} {σ:St} {H:Hp} {s:Shared} (I:Inv X pins σ H s):interactive X.env=false:=by simp [interactive,I.ok.kind]
def Zrq (te:TE):TS:=fun D σ H=>te σ H fun _ H1=>D.nx σ H1
theorem Xu (he:PE X e te) (hs:swapsWith e none pos.line X.env=pure false:=by rfl):PS X (.Expr e pos) (Zrq te):=by
 intro pins s σ H D I h;exact wpAny_Expr_any (thn (he pins s σ H _ I h) fun v s1 ⟨x,H1,I1,r1,q1⟩=>⟨σ,H1,I1,q1⟩) I.quiet hs
def tRet (te:TE):TS:=fun D σ H=>te σ H D.rt
theorem Zm (he:PE X e te):PS X (.Return (some e) pos) (tRet te):=by
 intro pins s σ H D I h;exact wpAny_Return_some (thn (he pins s σ H _ I h) fun v s1 ⟨x,H1,I1,r1,q1⟩=>⟨x,σ,H1,I1,r1,q1⟩)
def tIfS (c:TT) (t u:TS):TS:=fun D σ H=>c σ H fun b H1=>if b=true then t D σ H1 else u D σ H1
theorem Y7 {c:Expr} {a b:List Stmt} {tc:TT} (hc:PT X c tc) (ha:PSs X a t) (hb:PSs X b u):PS X (.If c a b pos) (tIfS tc t u):=by
 intro pins s σ H D I h;refine wpAny_If (thn (hc pins s σ H _ I h) fun d s1 ⟨H1,I1,q1⟩=>?_);cases d with
 | true=>exact ha pins s1 σ H1 D I1 q1
 | false=>exact hb pins s1 σ H1 D I1 q1
def Zqr:TS:=fun _ _ _=>False
theorem Zdx {sts:List Stmt}:PSs X sts Zqr:=fun _ _ _ _ _ _ h=>h.elim
end
abbrev TG:=V→St→Hp→(St→Hp→Prop)→Prop
abbrev TGs:=List V→St→Hp→(St→Hp→Prop)→Prop
def PG (X:Cx) (target:Expr) (t:TG):Prop :=
 ∀ (pins:List (Addr×Obj)) (s:Shared) (σ:St) (H:Hp) (v:V) (u:Value) (Q:St→Hp→Prop),Inv X pins σ H s→RelV v u→t v σ H Q →
   wpAny (model X.prog X.w) X.A (assign target X.env u) (fun _ s'=>∃ σ' H',Inv X pins σ' H' s'∧Q σ' H') X.xe s
def PGs (X:Cx) (ts:List Expr) (t:TGs):Prop :=
 ∀ (pins:List (Addr×Obj)) (s:Shared) (σ:St) (H:Hp) (vs:List V) (us:List Value) (Q:St→Hp→Prop),Inv X pins σ H s→Vals vs us→t vs σ H Q →
   wpAny (model X.prog X.w) X.A (assignInOrder ((assignEach ts X.env).map (·.2)) us) (fun _ s'=>∃ σ' H',Inv X pins σ' H' s'∧Q σ' H') X.xe s
abbrev TSet:=V→V→V→Hp→(Hp→Prop)→Prop
def PSet (X:Cx) (t:TSet):Prop :=
 ∀ (pins:List (Addr×Obj)) (s:Shared) (σ:St) (H:Hp) (o i v:V) (ov iv u:Value) (Q:Hp→Prop),Inv X pins σ H s→RelV o ov→RelV i iv→RelV v u→t o i v H Q →
   wpAny (model X.prog X.w) X.A (setItem ov iv u) (fun _ s'=>∃ H',Inv X pins σ H' s'∧Q H') X.xe s
abbrev TIp:=V→V→Hp→VK→Prop
def PIp (X:Cx) (op:Operator) (t:TIp):Prop :=
 ∀ (pins:List (Addr×Obj)) (s:Shared) (σ:St) (H:Hp) (x y:V) (v u:Value) (Q:VK),Inv X pins σ H s→RelV x v→RelV y u→t x y H Q →
   wpAny (model X.prog X.w) X.A (inplaceOp op v u) (EP X pins σ Q) X.xe s
section
variable {X:Cx} {pos:Pos}
def Z1 (i:Nat):TG:=fun v σ H Q=>Q (σ.set i (some v)) H
theorem Zn {i:Nat} {x:Str} (hN:X.N.Nodup) (hi:X.N[i]? = some x) (hx:Loc X.env.scope x) (hf:X.fn x=true∨X.env.scope.names.lookup x=some .local:=by first | exact .inl rfl | exact .inr rfl | assumption):PG X (.Name x pos) (Z1 i):=by
 intro pins s σ H v u Q I r h;exact wpAny_assign_Name (Zbq I hN hi hx r (fun s' I'=>⟨_,H,I',h⟩) hf)
def gNil:TGs:=fun vs σ H Q=>vs=[]∧Q σ H
def Z7 (t:TG) (u:TGs):TGs:=fun vs σ H Q=>∃ v r,vs=v :: r∧t v σ H fun σ' H'=>u r σ' H' Q
theorem Zx:PGs X [] gNil:=by
 intro pins s σ H vs us Q I r h;obtain ⟨e,h⟩:=h;subst e;cases r
 exact assignInOrder_nil ⟨σ,H,I,h⟩
theorem Zh {e:Expr} {es:List Expr} {t:TG} {u:TGs} (h1:PG X e t) (h2:PGs X es u)
 (hs:(assignEach (e :: es) X.env).map (·.2)=assign e X.env :: (assignEach es X.env).map (·.2):=by rfl):PGs X (e :: es) (Z7 t u):=by
 intro pins s σ H vs us Q I r h;obtain ⟨v,vr,e1,h⟩:=h;subst e1;cases r with
 | cons r rr =>
   rw [hs];refine assignInOrder_cons (thn (h1 pins s σ H _ _ _ I r h) fun _ s1 ⟨σ1,H1,I1,q1⟩=>?_);exact h2 pins s1 σ1 H1 _ _ Q I1 rr q1
def gTup (K:PySem.W.Frag) (n:Nat) (t:TGs):TG:=fun v σ H Q=>∃ a xs,v=.ref a∧SqT K H a xs∧xs.length=n∧t xs σ H Q
theorem Yb {es:List Expr} {k:Nat} {t:TGs} {n:Nat} (hc:X.calm=true) (h:PGs X es t)
 (hn:(assignEach es X.env).length=n:=by rfl) (hst:(assignEach es X.env).findIdx? (·.1)=none:=by rfl):PG X (.Tuple es k pos) (gTup X.K n t):=by
 intro pins s σ H v u Q I r hw;obtain ⟨a,xs,e1,hq,hl,hw⟩:=hw;subst e1;cases r
 obtain ⟨its,rv,ht,hz⟩:=I.tuple hq;refine assign_Tuple_tuple (I.ok.hd hc) ht (by simp [hn,← hl,rv.length]) hst fun h' hx=>?_;have I1:Inv X pins σ H { s with heap:=h' }:=I.kept (t':=s.toks) fun b o e=>hx b o (n50_ (n28_ e)) e;exact h pins _ σ H xs _ Q I1 (by simpa using rv) hw
def gSub (to ti:TE) (t:TSet):TG:=fun v σ H Q=>to σ H fun o H1=>ti σ H1 fun i H2=>t o i v H2 fun H3=>Q σ H3
theorem Zg1 {o i:Expr} {to ti:TE} {t:TSet} (ho:PE X o to) (hi:PE X i ti) (hs:PSet X t)
 (ha:∀ v,assign (.Subscript o i pos) X.env v=(do
   let ov ← holding [v] (eval o X.env)
   let iv ← holding [v,ov] (eval i X.env)
   standAt pos
   holding [v,ov,iv] (setItem ov iv v)
   release [v,ov,iv] []):=by intro _; rfl):PG X (.Subscript o i pos) (gSub to ti t):=by
 intro pins s σ H v u Q I r h;rw [ha];refine n3_ (n86_ (thn (ho pins s σ H _ I h) fun ov s1 ⟨x,H1,I1,r1,q1⟩=>?_));refine n3_ (n86_ (thn (hi pins s1 σ H1 _ I1 q1) fun iv s2 ⟨y,H2,I2,r2,q2⟩=>?_));refine n3_ (wpAny_standAt (n3_ (n86_ (thn (hs pins s2 σ H2 x y v ov iv u _ I2 r1 r2 r q2) fun _ s3 ⟨H3,I3,q3⟩=>?_))));exact wpAny_release ⟨σ,H3,I3,q3⟩
def tAsg (te:TE) (g:TG):TS:=fun D σ H=>te σ H fun x H1=>g x σ H1 D.nx
theorem Zac {tg e:Expr} {te:TE} {g:TG} (he:PE X e te) (hg:PG X tg g) (hs:swapsWithSole [tg] e pos.line X.env=pure false:=by rfl) (hw:swappedStores [tg] e X.env=pure none:=by rfl)
 (h1:(assignEach [tg] X.env).map (·.2)=[assign tg X.env]:=by rfl):PS X (.Assign [tg] e pos) (tAsg te g):=by
 intro pins s σ H D I h;refine wpAny_Assign_stores (thn (he pins s σ H _ I h) fun v s1 ⟨x,H1,I1,r1,q1⟩=>?_) hs hw;rw [h1];exact thn (hg pins s1 σ H1 x v _ I1 r1 q1) fun _ s2 q=>q
theorem Zs {i:Nat} {x:Str} {e:Expr} {te:TE} {pos':Pos} (hN:X.N.Nodup) (hi:X.N[i]? = some x) (hx:Loc X.env.scope x) (he:PE X e te) (hs:swapsWith e (some (.Name x pos')) pos.line X.env=pure false:=by rfl) (hf:X.fn x=true∨X.env.scope.names.lookup x=some .local:=by first | exact .inl rfl | exact .inr rfl | assumption) :
 PS X (.Assign [.Name x pos'] e pos) (tAsg te (Z1 i)):=by
 intro pins s σ H D I h;refine wpAny_Assign_Name (thn (he pins s σ H _ I h) fun v s1 ⟨y,H1,I1,r1,q1⟩=>?_) hs;exact Zbq I1 hN hi hx r1 (fun s2 I2=>⟨_,H1,I2,q1⟩) hf
def tPar (i j:Nat) (ta:TA):TS:=fun D σ H=>ta σ H fun vs H1=>∃ v w,vs=[v,w]∧D.nx ((σ.set i (some v)).set j (some w)) H1
theorem Zjk {i j:Nat} {x y:Str} {a b:Expr} {ta:TA} {px py pt:Pos} {kt k2 pt2} (hc:X.calm=true) (hN:X.N.Nodup) (hi:X.N[i]? = some x) (hj:X.N[j]? = some y) (hij:i≠j)
 (hx:X.env.scope.names.lookup x=some .local) (hy:X.env.scope.names.lookup y=some .local) (ha:PA X [a,b] ta)
 (hw:swappedStores [.Tuple [.Name x px,.Name y py] kt pt] (.Tuple [a,b] k2 pt2) X.env=pure (some [x,y]))
 (hs:swapsWithSole [.Tuple [.Name x px,.Name y py] kt pt] (.Tuple [a,b] k2 pt2) pos.line X.env=pure false:=by rfl) :
 PS X (.Assign [.Tuple [.Name x px,.Name y py] kt pt] (.Tuple [a,b] k2 pt2) pos) (tPar i j ta):=by
 intro pins s σ H D I h;rw [exec_Assign_arm];refine n3_ (wpAny_standAt ?_);rw [hs];refine n3_ (n20_ ?_);rw [if_neg (by decide)];refine n3_ (Tuple_ (thn (ha _ pins s σ H _ I h) fun us s1 ⟨vs,H1,I1,r1,q1⟩=>?_));obtain ⟨v,w,e1,q1⟩:=q1;subst e1
 obtain ⟨u1,u2,rfl,rv,rw'⟩:∃ u1 u2,us=[u1,u2]∧RelV v u1∧RelV w u2:=by
  cases r1 with
  | cons p q =>
    cases q with
    | cons p' q' =>
      cases q'
      exact ⟨_,_,rfl,p,p'⟩
 refine wpAny_newObj_type ?_ (z2_);have I2:Inv X pins σ H1 { s1 with heap:=s1.heap.push { cls:=.type "tuple",data:=.seq [u1,u2].toArray } }:=I1.kept (t':=s1.toks) fun b o e=>n4_ _ e;rw [hw];refine n3_ (n20_ ?_);show wpAny (model X.prog X.w) X.A (do rule "assign.swapped-stores"; let items ← unpackItems (.ref s1.heap.objs.size) 2 none; assignInOrder [fun v=>bindName X.env y v,fun v=>bindName X.env x v] items.reverse; pure Flow.next) _ _ _
 refine n3_ (wpAny_rule (n3_ (unpackItems_tuple (items:=#[u1,u2]) (I.ok.hd hc) (IsTup.new s1.heap _) fun h' hx'=>?_)));have I3:=I2.kept (h':=h') (t':=s1.toks) fun b o e=>hx' b o (n50_ (n28_ e)) e;show wpAny _ _ (assignInOrder [fun v=>bindName X.env y v,fun v=>bindName X.env x v] [u2,u1] >>= fun _=>pure Flow.next) _ _ _
 refine n3_ (assignInOrder_cons (wpAny_bindName (Zbq I3 hN hj (.inl hy) rw' (fun s2 I4=>?_) (.inr hy))));refine assignInOrder_cons (wpAny_bindName (Zbq I4 hN hi (.inl hx) rv (fun s3 I5=>assignInOrder_nil (n20_ ?_)) (.inr hx)));rw [List.set_comm _ _ (Ne.symm hij)] at I5;exact ⟨_,H1,I5,q1⟩
def tAug (i:Nat) (te:TE) (ti:TIp):TS:=fun D σ H=>∃ x,σ[i]? = some (some x)∧te σ H fun y H1=>ti x y H1 fun z H2=>D.nx (σ.set i (some z)) H2
theorem Zkx {i:Nat} {x:Str} {e:Expr} {te:TE} {op:Operator} {ti:TIp} {pos':Pos} (hN:X.N.Nodup) (hi:X.N[i]? = some x) (hx:Loc X.env.scope x) (he:PE X e te) (ho:PIp X op ti) (hf:X.fn x=true∨X.env.scope.names.lookup x=some .local:=by first | exact .inl rfl | exact .inr rfl | assumption) :
 PS X (.AugAssign (.Name x pos') op e pos) (tAug i te ti):=by
 intro pins s σ H D I h;obtain ⟨v,e1,h⟩:=h;obtain ⟨m,hn,hl⟩:=I.loc;have vis:Vis X.env.scope x:=by rcases hx with k | k; exact .inl k; exact .inr (.inl k)
 obtain ⟨u,r,l⟩:=hl i x v hi e1 vis;refine wpAny_AugAssign_Name ?_
 have go:wpAny (model X.prog X.w) X.A (eval e X.env) (fun w s₂=>wpAny (model X.prog X.w) X.A (inplaceOp op u w) (fun r s₃=>wpAny (model X.prog X.w) X.A (storeName X.env x r) (fun _=>SP X pins D .next) X.xe s₃) X.xe s₂) X.xe s:=by
  refine thn (he pins s σ H _ I h) fun w s1 ⟨y,H1,I1,r1,q1⟩=>?_;refine thn (ho pins s1 σ H1 v y u w _ I1 r r1 q1) fun z s2 ⟨zv,H2,I2,r2,q2⟩=>?_;exact Zbq I2 hN hi hx r2 (fun s3 I3=>⟨_,H2,I3,q2⟩) hf
 rcases l with ⟨hk,hm⟩ | ⟨hk,c,hc,hcell⟩
 · exact wpAny_loadName_local I.ok.kind hk hn hm go
 · rcases hk with hk | hk
   · exact wpAny_loadName_cell I.ok.kind hk hc hcell go
   · rcases hx with k | k
     · have:X.env.scope.names.lookup x=some .free:=hk
       rw [k] at this; cases this
     · have:X.env.scope.names.lookup x=some .free:=hk
       rw [k] at this; cases this
end
section
variable {X:Cx} {pos:Pos}
def Zn1 (c:TT) (tb:TS):TS:=fun D σ H=>∃ W:Nat→St→Hp→Prop,(∃ m,W m σ H)∧∀ m σ H,W m σ H →
 c σ H fun b H1=>if b=true then ∃ N:St→Hp→Prop,(∀ σ' H',N σ' H'→∃ m',m' < m∧W m' σ' H')∧tb { D with nx:=N,ct:=N,bk:=D.nx } σ H1 else D.nx σ H1
theorem Zfg {c:Expr} {body:List Stmt} {tc:TT} {tb:TS} (hp:PassesOwn (model X.prog X.w) X.A X.env X.xe) (hc:PT X c tc) (hb:PSs X body tb):PS X (.While c body [] pos) (Zn1 tc tb):=by
 intro pins s σ H D I h;obtain ⟨W,⟨m0,w0⟩,turn⟩:=h;refine wpAny_While (codeAny_whileLoop (fun n s'=>∃ σ' H',Inv X pins σ' H' s'∧W n σ' H') ?_ m0 ⟨σ,H,I,w0⟩);rintro n s1 ⟨σ1,H1,I1,w1⟩
 refine wpAny_passesOwn hp (thn (hc pins s1 σ1 H1 _ I1 (turn n σ1 H1 w1)) fun b s2 ⟨H2,I2,q2⟩=>?_);cases b with
 | true =>
   obtain ⟨N,hN,q2⟩:=q2;rw [if_pos rfl];refine wpAny_passesOwn hp (thn (hb pins s2 σ1 H2 _ I2 q2) fun f s3 q3=>?_);cases f with
   | next =>
     obtain ⟨σ3,H3,I3,n3⟩:=q3;obtain ⟨m',hm,w3⟩:=hN σ3 H3 n3;exact ⟨m',hm,σ3,H3,I3,w3⟩
   | cont =>
     obtain ⟨σ3,H3,I3,n3⟩:=q3;obtain ⟨m',hm,w3⟩:=hN σ3 H3 n3;exact ⟨m',hm,σ3,H3,I3,w3⟩
   | brk=>exact q3
   | ret v=>exact q3
 | false =>
   rw [if_neg n30_];exact wpAny_execs_nil ⟨σ1,H2,I2,q2⟩
end
structure It where
 go:Nat→Hp→Prop
 yld:Nat→Hp→V→Hp→Prop
 stop:Nat→Hp→Prop
def FpOk (X:Cx) (pins:List (Addr×Obj)) (H:Hp) (b:Addr):Prop :=
 H b=none∧b≠X.env.locals∧b∉X.fs∧(b∈X.ex∨X.s₀.heap.objs.size≤b)∧(∀ x c,X.env.cells.lookup x=some c→c≠b)∧∀ p∈X.pn++pins,p.1≠b
theorem Inv.fpOk {X:Cx} {pins:List (Addr×Obj)} {σ:St} {H H':Hp} {s:Shared} {b:Addr} (I:Inv X pins σ H s) (hb:s.heap.objs.size≤b) (hn:H' b=none):FpOk X pins H' b:=by
 refine ⟨hn,Nat.ne_of_gt (n16_ I.lt hb),I.nofs hb,.inr (n19_ I.sz hb),fun x c e z=>?_,fun p hp z=>?_⟩
 · obtain ⟨v,q⟩:=I.cell x c e;exact absurd (n16_ q.lt (by rw [z]; exact hb)) (n98_ _)
 · exact absurd (n16_ (n28_ (I.pin p hp).1) (by rw [z]; exact hb)) (n98_ _)
structure Turn (P:Program) (w:World) (K:PySem.W.Frag) (tg:Expr) (J:It) (fp:List Addr) (it:Addr) (tn:Nat→Heap→Prop):Prop where
 mem:it∈fp
 obj:∀ i h,tn i h→∀ b∈fp,∃ o,h.get? b=some o∧∀ v,o.data≠.cell v
 keep:∀ i h h',tn i h→(∀ b∈fp,∀ o,h.get? b=some o→h'.get? b=some o)→tn i h'
 item:∀ (X:Cx),X.prog=P→X.w=w→X.K=K→X.calm=true→∀ (i:Nat) (pins:List (Addr×Obj)) (s:Shared) (σ:St) (H:Hp) (E:Value→Shared→Prop),Inv X pins σ H s→(∀ b∈fp,FpOk X pins H b)→tn i s.heap→J.go i H →
  wpAny (model P w) X.A (pyNext (.ref it)) (fun r s1=>∃ u,r=some u ∧
   wpAny (model P w) X.A (letOwnedTupleGo tg (.ref it) u) (fun _ s2=>∃ x H',Inv X pins σ H' s2∧RelV x u∧J.yld i H x H'∧tn (i+1) s2.heap∧∀ b∈fp,H' b=none) E s1) E s
 done:∀ (X:Cx),X.prog=P→X.w=w→X.K=K→X.calm=true→∀ (i:Nat) (pins:List (Addr×Obj)) (s:Shared) (σ:St) (H:Hp) (E:Value→Shared→Prop),Inv X pins σ H s→(∀ b∈fp,FpOk X pins H b)→tn i s.heap→J.stop i H →
  wpAny (model P w) X.A (pyNext (.ref it)) (fun r s1=>r=none∧Inv X pins σ H s1) E s
 self:∀ (A:Around) (i:Nat) (s:Shared) (Q:Value→Shared→Prop) (E:Value→Shared→Prop),tn i s.heap→Q (.ref it) s→wpAny (model P w) A (pyIter (.ref it)) Q E s
abbrev TI:=St→Hp→(It→Hp→Prop)→Prop
def PIE (X:Cx) (pins:List (Addr×Obj)) (σ:St) (tg:Expr) (R:It→Hp→Prop) (itv:Value) (s2:Shared):Prop :=
 ∃ (it:Addr) (fp:List Addr) (tn:Nat→Heap→Prop) (J:It) (H':Hp),itv=.ref it∧Inv X pins σ H' s2∧Turn X.prog X.w X.K tg J fp it tn∧tn 0 s2.heap∧(∀ b∈fp,FpOk X pins H' b)∧R J H'
def PI (X:Cx) (tg iter:Expr) (wi:TI):Prop :=
 ∀ (pins:List (Addr×Obj)) (s:Shared) (σ:St) (H:Hp) (R:It→Hp→Prop),Inv X pins σ H s→wi σ H R →
   wpAny (model X.prog X.w) X.A (eval iter X.env) (fun v s1=>wpAny (model X.prog X.w) X.A (pyIter v) (PIE X pins σ tg R) X.xe s1) X.xe s
theorem Znr {M:Model} {A:Around} {E:Value→Shared→Prop} {s:Shared} {tg:Expr} {it:Addr} {u:Value} {o:Obj} {n:String} {vs:Array Value} {Q:Unit→Shared→Prop} (ho:s.heap.get? it=some o) (hc:o.cls=.type n) (hd:o.data=.fields vs)
 (hn:["enumerate","zip","dict_itemiterator","dict_reverseitemiterator","odict_iterator","itertools.zip_longest","itertools.pairwise"].contains n=false) (hQ:Q () s):wpAny M A (letOwnedTupleGo tg (.ref it) u) Q E s:=by
 unfold letOwnedTupleGo
 cases tg <;> first
  | exact n20_ hQ
  | (cases u <;> first
      | exact n20_ hQ
      | (refine n3_ (wpAny_load ho ?_)
         rw [hc,hd];show wpAny M A (if (["enumerate","zip","dict_itemiterator","dict_reverseitemiterator","odict_iterator","itertools.zip_longest","itertools.pairwise"].contains n && vs[0]? == some (rawInt _))=true then _ else _) Q E s
         rw [if_neg (by intro h; rw [hn,n85_] at h; cases h)];exact n20_ hQ))
def Itl (K:PySem.W.Frag) (a:Addr):It :=
 ⟨fun i H=>∃ xs x,SqL K H a xs∧xs[i]? = some x,fun i H x H'=>H'=H∧∀ xs,SqL K H a xs→xs[i]? = some x,fun i H=>∃ xs,SqL K H a xs∧xs.length≤i⟩
def Itt (K:PySem.W.Frag) (a:Addr):It :=
 ⟨fun i H=>∃ xs x,SqT K H a xs∧xs[i]? = some x,fun i H x H'=>H'=H∧∀ xs,SqT K H a xs→xs[i]? = some x,fun i H=>∃ xs,SqT K H a xs∧xs.length≤i⟩
def Itr (lo:Int) (n:Nat):It:=⟨fun i _=>i < n,fun i H x H'=>H'=H∧x=.int (lo+i),fun i _=>n≤i⟩
theorem Zgi {P:Program} {w:World} {K:PySem.W.Frag} {tg:Expr} (a it:Addr):Turn P w K tg (Itl K a) [it] it (fun i h=>h.IsListIter it a i) where
 mem:=by simp
 obj:=fun i h st b hb=>by
  have e:b=it:=by simpa using hb
  subst e;obtain ⟨o,e,c,d⟩:=st;exact ⟨o,e,fun v z=>by rw [d] at z; cases z⟩
 keep:=fun i h h' st k=>st.at fun o e=>k it (by simp) o e
 item:=by
  intro X hP hw hK hc i pins s σ H E I hf st hg;subst hP hw hK;obtain ⟨xs,x,hq,hx⟩:=hg;obtain ⟨its,rv,p,hz⟩:=I.list hq;obtain ⟨u,hu,ru⟩:=rv.get hx;obtain ⟨f0,f1,f2,f3,f4,f5⟩:=hf it (by simp);refine wpAny_pyNext_list_item st p.isList (x:=u) (by simpa using hu) fun h' st' sb=>?_;have I1:Inv X pins σ H { s with heap:=h' }:=I.turned (t':=s.toks) (fun b o hb e=>(sb.2 b hb).trans e) f0 f1 f3 f4 f5;obtain ⟨o,e,c,d⟩:=id st';exact ⟨u,rfl,Znr (s:={ s with heap:=h' }) e c d (by decide) ⟨x,H,I1,ru,⟨rfl,fun ys hy=>by rw [I.list_inj hy hq]; exact hx⟩,st',fun b hb=>(hf b hb).1⟩⟩
 done:=by
  intro X hP hw hK hc i pins s σ H E I hf st hg;subst hP hw hK;obtain ⟨xs,hq,hx⟩:=hg;obtain ⟨its,rv,p,hz⟩:=I.list hq;obtain ⟨f0,f1,f2,f3,f4,f5⟩:=hf it (by simp);have hl:=rv.length;exact wpAny_pyNext_list_end (I.ok.hd hc) st p.isList (by simp; omega) fun h' eb=>⟨rfl,I.turned (t':=s.toks) (fun b o hb e=>eb b o hb e) f0 f1 f3 f4 f5⟩
 self:=fun _ _ _ _ _ st h=>wpAny_pyIter_listiter st h
theorem Zee {P:Program} {w:World} {K:PySem.W.Frag} {tg:Expr} (a it:Addr):Turn P w K tg (Itt K a) [it] it (fun i h=>h.IsTupleIter it a i) where
 mem:=by simp
 obj:=fun i h st b hb=>by
  have e:b=it:=by simpa using hb
  subst e;obtain ⟨o,e,c,d⟩:=st;exact ⟨o,e,fun v z=>by rw [d] at z; cases z⟩
 keep:=fun i h h' st k=>st.at fun o e=>k it (by simp) o e
 item:=by
  intro X hP hw hK hc i pins s σ H E I hf st hg;subst hP hw hK;obtain ⟨xs,x,hq,hx⟩:=hg;obtain ⟨its,rv,p,hz⟩:=I.tuple hq;obtain ⟨u,hu,ru⟩:=rv.get hx;obtain ⟨f0,f1,f2,f3,f4,f5⟩:=hf it (by simp);refine wpAny_pyNext_tuple_item st (show s.heap.IsTuple a its.toArray from p) (x:=u) (by simpa using hu) fun h' st' sb=>?_;have I1:Inv X pins σ H { s with heap:=h' }:=I.turned (t':=s.toks) (fun b o hb e=>(sb.2 b hb).trans e) f0 f1 f3 f4 f5;obtain ⟨o,e,c,d⟩:=id st';exact ⟨u,rfl,Znr (s:={ s with heap:=h' }) e c d (by decide) ⟨x,H,I1,ru,⟨rfl,fun ys hy=>by rw [I.tuple_inj hy hq]; exact hx⟩,st',fun b hb=>(hf b hb).1⟩⟩
 done:=by
  intro X hP hw hK hc i pins s σ H E I hf st hg;subst hP hw hK;obtain ⟨xs,hq,hx⟩:=hg;obtain ⟨its,rv,p,hz⟩:=I.tuple hq;obtain ⟨f0,f1,f2,f3,f4,f5⟩:=hf it (by simp);have hl:=rv.length;exact wpAny_pyNext_tuple_end (I.ok.hd hc) st (show s.heap.IsTuple a its.toArray from p) (by simp; omega) fun h' eb=>⟨rfl,I.turned (t':=s.toks) (fun b o hb e=>eb b o hb e) f0 f1 f3 f4 f5⟩
 self:=fun _ _ _ _ _ st h=>wpAny_pyIter_tupleiter st h
theorem Zjy {P:Program} {w:World} {K:PySem.W.Frag} {tg:Expr} (it:Addr) (lo:Int) (n:Nat):Turn P w K tg (Itr lo n) [it] it (fun i h=>IsRangeIter h it (lo+(i:Nat) * 1) ((n:Int) - (i:Nat)) 1) where
 mem:=by simp
 obj:=fun i h st b hb=>by
  have e:b=it:=by simpa using hb
  subst e
  exact ⟨_,st,fun v z=>by
   have z':Data.fields _=Data.cell v:=z;cases z'⟩
 keep:=fun i h h' st k=>k it (by simp) _ st
 item:=by
  intro X hP hw hK hc i pins s σ H E I hf st hg;subst hP hw hK;obtain ⟨f0,f1,f2,f3,f4,f5⟩:=hf it (by simp);have W:=Walks.range (prog:=X.prog) (w:=X.w) (I.ok.hd hc) it lo 1 n;refine W.item i s _ _ hg st fun v h' tk hv st' kk=>?_;obtain ⟨t,rfl⟩:=hv;have I1:Inv X pins σ H { s with heap:=h',toks:=tk }:=I.turned (fun b o hb e=>kk b o (by simpa using hb) e) f0 f1 f3 f4 f5;refine ⟨_,rfl,Znr (s:={ s with heap:=h',toks:=tk }) (n := "range_iterator") st' rfl rfl (by decide) ⟨.int (lo+i),H,I1,⟨t,?_⟩,⟨rfl,rfl⟩,st',fun b hb=>(hf b hb).1⟩⟩;rw [Int.mul_one]
 done:=by
  intro X hP hw hK hc i pins s σ H E I hf st hg;subst hP hw hK;obtain ⟨f0,f1,f2,f3,f4,f5⟩:=hf it (by simp);exact wpAny_pyNext_range_end (I.ok.hd hc) st (by have:n≤i:=hg; omega) fun h' eb=>⟨rfl,I.turned (t':=s.toks) (fun b o hb e=>eb b o hb e) f0 f1 f3 f4 f5⟩
 self:=fun _ _ _ _ _ st h=>wpAny_pyIter_rangeiter st h
end L2
namespace L2
open PySem PySem.Spec PyProof.Rows
section
variable {X:Cx} {tg:Expr}
def Zqu (K:PySem.W.Frag) (tl:TE):TI:=fun σ H R=>tl σ H fun x H1=>∃ a,x=.ref a∧(∃ xs,SqL K H1 a xs)∧R (Itl K a) H1
def iTup (K:PySem.W.Frag) (tl:TE):TI:=fun σ H R=>tl σ H fun x H1=>∃ a,x=.ref a∧(∃ xs,SqT K H1 a xs)∧R (Itt K a) H1
theorem Yj {l:Expr} {tl:TE} (hl:PE X l tl):PI X tg l (Zqu X.K tl):=by
 intro pins s σ H R I h;refine thn (hl pins s σ H _ I h) fun v s1 ⟨x,H1,I1,r1,q1⟩=>?_;obtain ⟨a,e,⟨xs,hq⟩,q⟩:=q1;subst e;cases r1
 obtain ⟨its,rv,p,hz⟩:=I1.list hq;refine wpAny_pyIter_list p.isList ?_;refine ⟨s1.heap.objs.size,[s1.heap.objs.size],_,_,H1,rfl,I1.kept (t':=s1.toks) fun b o e=>n4_ _ e,Zgi a _,⟨_,n25_ _ rfl,rfl,rfl⟩,fun b hb=>?_,q⟩;have e:b=s1.heap.objs.size:=by simpa using hb
 subst e;exact I1.fpOk (n9_ _) (I1.hok.fresh (n9_ _))
theorem Zeb {l:Expr} {tl:TE} (hl:PE X l tl):PI X tg l (iTup X.K tl):=by
 intro pins s σ H R I h;refine thn (hl pins s σ H _ I h) fun v s1 ⟨x,H1,I1,r1,q1⟩=>?_;obtain ⟨a,e,⟨xs,hq⟩,q⟩:=q1;subst e;cases r1
 obtain ⟨its,rv,p,hz⟩:=I1.tuple hq;refine wpAny_pyIter_tuple (show s1.heap.IsTuple a its.toArray from p) ?_;refine ⟨s1.heap.objs.size,[s1.heap.objs.size],_,_,H1,rfl,I1.kept (t':=s1.toks) fun b o e=>n4_ _ e,Zee a _,⟨_,n25_ _ rfl,rfl,rfl⟩,fun b hb=>?_,q⟩;have e:b=s1.heap.objs.size:=by simpa using hb
 subst e;exact I1.fpOk (n9_ _) (I1.hok.fresh (n9_ _))
theorem Zm6 {pins:List (Addr×Obj)} {σ:St} {H:Hp} {s:Shared} {R:It→Hp→Prop} {E:Value→Shared→Prop} {lo hi:Int} {t u v:Tok} {tk:Nat} (I:Inv X pins σ H s) (h1:-(2 ^ 62)≤lo) (h2:lo < 2 ^ 62) (h3:-(2 ^ 62)≤hi) (h4:hi < 2 ^ 62)
 (q:R (Itr lo (hi - lo).toNat) H):wpAny (model X.prog X.w) X.A (pyIter (.ref s.heap.objs.size)) (PIE X pins σ tg R) E { s with heap:=s.heap.push { cls:=.type "range",data:=.fields #[.int lo t,.int hi u,.int 1 v] },toks:=tk }:=by
 refine wpAny_pyIter_range (IsRange.new ..) (small_one h1 h2 h3 h4) ?_;have I1:Inv X pins σ H { s with heap:=s.heap.push { cls:=.type "range",data:=.fields #[.int lo t,.int hi u,.int 1 v] },toks:=tk }:=I.kept fun b o e=>n4_ _ e
 refine ⟨(s.heap.push { cls:=.type "range",data:=.fields #[.int lo t,.int hi u,.int 1 v] }).objs.size,[(s.heap.push { cls:=.type "range",data:=.fields #[.int lo t,.int hi u,.int 1 v] }).objs.size],_,_,H,rfl,
  I1.kept (t':=tk) fun b o e=>n4_ _ e,Zjy _ lo (hi - lo).toNat,?_,fun b hb=>?_,q⟩
 · have e1:lo+((0:Nat):Int) * 1=lo:=by simp
   have e2:(((hi - lo).toNat:Nat):Int) - ((0:Nat):Int)=Builtin.Range.rangeSize lo hi 1:=by rw [rangeSize_one]; split <;> omega
   show IsRangeIter _ _ (lo+((0:Nat):Int) * 1) ((((hi - lo).toNat:Nat):Int) - ((0:Nat):Int)) 1
   rw [e1,e2];exact n25_ _ rfl
 · have e:b=(s.heap.push { cls:=.type "range",data:=.fields #[.int lo t,.int hi u,.int 1 v] }).objs.size:=by simpa using hb
   subst e;exact I1.fpOk (n9_ _) (I1.hok.fresh (n9_ _))
def Zq5 (ta:TA):TI:=fun σ H R=>ta σ H fun vs H1=>∃ j:Int,vs=[.int j]∧-(2 ^ 62)≤j∧j < 2 ^ 62∧R (Itr 0 j.toNat) H1
theorem Y2 {a:Expr} {ta:TA} {p pos:Pos} (hg:Gl X "range") (hm:X.mg "range" = none) (ha:PA X [a] ta) (hs:starEach [a] X.env=[(false,eval a X.env)]:=by rfl):PI X tg (.Call (.Name "range" p) [a] [] pos) (Zq5 ta):=by
 intro pins s σ H R I h;refine Call_ (Zbg I hg hm boot_range (n66_ (thn (ha pos pins s σ H _ I h) fun us s1 ⟨vs,H1,I1,r1,q1⟩=>?_) hs rfl));obtain ⟨j,e,q1,q2,q⟩:=q1;subst e;cases r1 with
 | cons r rr =>
   cases rr
   obtain ⟨t,rfl⟩:=r;exact call_range_1 (Zm6 I1 (by omega) (by omega) q1 q2 (by simpa using q))
def tFor (wi:TI) (g:TG) (tb:TS):TS:=fun D σ H=>wi σ H fun J H1=>∃ W:Nat→Nat→St→Hp→Prop,(∃ m,W 0 m σ H1)∧∀ i m σ H,W i m σ H →
 (J.stop i H∧D.nx σ H)∨(J.go i H∧∃ N:St→Hp→Prop,(∀ σ' H',N σ' H'→∃ m',m' < m∧W (i+1) m' σ' H')∧∀ x H',J.yld i H x H'→g x σ H' fun σ2 H2=>tb { D with nx:=N,ct:=N,bk:=D.nx } σ2 H2)
def Zi9 (fp:List Addr) (h:Heap):List (Addr×Obj):=fp.filterMap fun b=>(h.get? b).map fun o=>(b,o)
theorem Zab {fp:List Addr} {h:Heap} {b:Addr} {o:Obj} (hb:b∈fp) (e:h.get? b=some o):(b,o)∈Zi9 fp h:=List.mem_filterMap.mpr ⟨b,hb,by rw [e]; rfl⟩
theorem Zlh {fp:List Addr} {h:Heap} {p:Addr×Obj} (hp:p∈Zi9 fp h):p.1∈fp∧h.get? p.1=some p.2:=by
 obtain ⟨b,hb,e⟩:=List.mem_filterMap.mp hp;cases q:h.get? b with
 | none=>rw [q] at e; cases e
 | some o =>
   rw [q] at e;have e':(b,o)=p:=Option.some.inj e;subst e';exact ⟨hb,q⟩
theorem Inv.pinned {pins:List (Addr×Obj)} {σ:St} {H:Hp} {s:Shared} {fp:List Addr} (I:Inv X pins σ H s) (hf:∀ b∈fp,FpOk X pins H b) (ho:∀ b∈fp,∃ o,s.heap.get? b=some o∧∀ v,o.data≠.cell v):Inv X (pins++Zi9 fp s.heap) σ H s :=
 I.pins_of fun p hp=>(n29_.mp hp).elim (fun z=>I.pin p (n35_ _ z)) fun z=>by
  obtain ⟨hb,e⟩:=Zlh z;obtain ⟨f0,f1,f2,_⟩:=hf p.1 hb;obtain ⟨o,e',d⟩:=ho p.1 hb;rw [e] at e'; cases e';exact ⟨e,f0,f1,f2,d⟩
theorem Inv.unpinned {pins pl:List (Addr×Obj)} {σ:St} {H:Hp} {s:Shared} (I:Inv X (pins++pl) σ H s):Inv X pins σ H s:=I.pins_of fun p hp=>I.pin p (n35_ _ (List.mem_append_left _ hp))
theorem Zae {iter:Expr} {body:List Stmt} {wi:TI} {g:TG} {tb:TS} {pos:Pos} (hp:PassesOwn (model X.prog X.w) X.A X.env X.xe) (hc:X.calm=true) (hi:PI X tg iter wi) (hg:PG X tg g) (hb:PSs X body tb)
 (hs:∀ x,foldedSetIterable iter X.env x=pure x:=by intro _; rfl):PS X (.For tg iter body [] pos) (tFor wi g tb):=by
 intro pins s σ H D I h;refine wpAny_For (thn (hi pins s σ H _ I h) fun v s1 h1=>thn h1 fun itv s2 h2=>?_) hs;obtain ⟨it,fp,tn,J,H2,e,I2,T,st2,f2,W,⟨m0,w0⟩,turn⟩:=h2;subst e;have stat:∀ {H':Hp},(∀ b∈fp,H' b=none)→∀ b∈fp,FpOk X pins H' b:=fun hn b hb=>⟨hn b hb,(f2 b hb).2⟩;refine codeAny_forLoop_any (fun n s'=>∃ i σ' H',Inv X pins σ' H' s'∧tn i s'.heap∧(∀ b∈fp,H' b=none)∧W i n σ' H') ?_ m0 ⟨0,σ,H2,I2,st2,fun b hb=>(f2 b hb).1,w0⟩;rintro n s3 ⟨i,σ3,H3,I3,st3,fr3,w3⟩
 rcases turn i n σ3 H3 w3 with ⟨stop,qn⟩ | ⟨go,N,hN,step⟩
 · refine wpAny_passesOwn hp (thn (T.done X rfl rfl rfl hc i pins s3 σ3 H3 X.xe I3 (stat fr3) st3 stop) fun r s4 ⟨hr,I4⟩=>?_);subst hr;exact wpAny_execs_nil ⟨σ3,H3,I4,qn⟩
 · refine wpAny_passesOwn hp (thn (T.item X rfl rfl rfl hc i pins s3 σ3 H3 X.xe I3 (stat fr3) st3 go) fun r s4 ⟨u,hr,h4⟩=>?_);subst hr;refine wpAny_passesOwn hp (thn h4 fun _ s5 ⟨x,H5,I5,r5,y5,st5,fr5⟩=>?_);have I5':=I5.pinned (stat fr5) (T.obj _ _ st5);refine wpAny_passesOwn hp (thn (hg _ s5 σ3 H5 x u _ I5' r5 (step x H5 y5)) fun _ s6 ⟨σ6,H6,I6,q6⟩=>?_);refine wpAny_passesOwn hp (thn (hb _ s6 σ6 H6 _ I6 q6) fun f s7 q7=>?_)
   have again:∀ {σ7:St} {H7:Hp},Inv X (pins++Zi9 fp s5.heap) σ7 H7 s7→N σ7 H7→∃ m,m < n∧∃ i σ' H',Inv X pins σ' H' s7∧tn i s7.heap∧(∀ b∈fp,H' b=none)∧W i m σ' H':=fun {σ7 H7} I7 n7=>by
    obtain ⟨m',hm,w7⟩:=hN σ7 H7 n7;refine ⟨m',hm,i+1,σ7,H7,I7.unpinned,T.keep _ _ _ st5 fun b hb o e=>(I7.pin (b,o) (n35_ _ (n35_ _ (Zab hb e)))).1,fun b hb=>?_,w7⟩;obtain ⟨o,e,d⟩:=T.obj _ _ st5 b hb;exact (I7.pin (b,o) (n35_ _ (n35_ _ (Zab hb e)))).2.1
   cases f with
   | next=>obtain ⟨σ7,H7,I7,n7⟩:=q7; exact again I7 n7
   | cont=>obtain ⟨σ7,H7,I7,n7⟩:=q7; exact again I7 n7
   | brk=>obtain ⟨σ7,H7,I7,q7⟩:=q7; exact ⟨σ7,H7,I7.unpinned,q7⟩
   | ret v=>obtain ⟨x7,σ7,H7,I7,r7,q7⟩:=q7; exact ⟨x7,σ7,H7,I7.unpinned,r7,q7⟩
end
theorem Zaa {lo:Int} {n:Nat} {g:TG} {tb:TS} {D:Ends} {σ:St} {H:Hp} (Pv:Nat→St→Hp→Prop) (h0:Pv 0 σ H)
 (hs:∀ i σ H,i < n→Pv i σ H→g (.int (lo+i)) σ H fun σ2 H2=>tb { D with nx:=Pv (i+1),ct:=Pv (i+1),bk:=D.nx } σ2 H2) (hd:∀ σ H,Pv n σ H→D.nx σ H) :
 ∃ W:Nat→Nat→St→Hp→Prop,(∃ m,W 0 m σ H)∧∀ i m σ H,W i m σ H →
   ((Itr lo n).stop i H∧D.nx σ H)∨((Itr lo n).go i H∧∃ N:St→Hp→Prop,(∀ σ' H',N σ' H'→∃ m',m' < m∧W (i+1) m' σ' H')∧∀ x H',(Itr lo n).yld i H x H'→g x σ H' fun σ2 H2=>tb { D with nx:=N,ct:=N,bk:=D.nx } σ2 H2):=by
 refine ⟨fun i m σ H=>m=n - i∧i≤n∧Pv i σ H,⟨n,by simp,n56_ _,h0⟩,?_⟩;rintro i m σ H ⟨rfl,hi,p⟩
 by_cases hlt:i < n
 · refine .inr ⟨hlt,Pv (i+1),fun σ' H' p'=>⟨n - (i+1),by omega,rfl,hlt,p'⟩,fun x H' y=>?_⟩;obtain ⟨e,y⟩:=y;subst e y;exact hs i σ _ hlt p
 · have e:i=n:=by omega
   subst e;exact .inl ⟨n9_ _,hd σ H p⟩
theorem Zfy {c:TT} {tb:TS} {D:Ends} {σ:St} {H:Hp} (Pv:St→Hp→Prop) (μ:St→Hp→Nat) (h0:Pv σ H)
 (hs:∀ σ H,Pv σ H→c σ H fun b H1=>if b=true then tb { D with nx:=fun σ' H'=>Pv σ' H'∧μ σ' H' < μ σ H,ct:=fun σ' H'=>Pv σ' H'∧μ σ' H' < μ σ H,bk:=D.nx } σ H1 else D.nx σ H1)
 (mono:∀ σ H Q Q',(∀ b H1,Q b H1→Q' b H1)→c σ H Q→c σ H Q'):Zn1 c tb D σ H:=by
 refine ⟨fun m σ H=>m=μ σ H∧Pv σ H,⟨_,rfl,h0⟩,?_⟩;rintro m σ H ⟨rfl,p⟩
 refine mono σ H _ _ (fun b H1 q=>?_) (hs σ H p);cases b with
 | true=>exact ⟨_,fun σ' H' ⟨p',l⟩=>⟨_,l,rfl,p'⟩,q⟩
 | false=>exact q
end L2
namespace L2
open PySem PySem.Spec PyProof.Rows
abbrev R2:=V→V→Hp→VK→Prop
def OpR (X:Cx) (f:Value→Value→Sem Value) (r:R2):Prop :=
 ∀ (pins:List (Addr×Obj)) (s:Shared) (σ:St) (H:Hp) (x y:V) (v u:Value) (Q:VK),Inv X pins σ H s→RelV x v→RelV y u→r x y H Q →
   wpAny (model X.prog X.w) X.A (f v u) (EP X pins σ Q) X.xe s
def UnR (X:Cx) (f:Value→Sem Value) (r:V→Hp→VK→Prop):Prop :=
 ∀ (pins:List (Addr×Obj)) (s:Shared) (σ:St) (H:Hp) (x:V) (v:Value) (Q:VK),Inv X pins σ H s→RelV x v→r x H Q →
   wpAny (model X.prog X.w) X.A (f v) (EP X pins σ Q) X.xe s
def Zbe (X:Cx) (f:Value) (r:List V→Hp→VK→Prop):Prop :=
 ∀ (pins:List (Addr×Obj)) (s:Shared) (σ:St) (H:Hp) (xs:List V) (us:List Value) (Q:VK),Inv X pins σ H s→Vals xs us→r xs H Q →
   wpAny (model X.prog X.w) X.A (call f us) (EP X pins σ Q) X.xe s
def TruR (X:Cx) (r:V→Hp→(Bool→Hp→Prop)→Prop):Prop :=
 ∀ (pins:List (Addr×Obj)) (s:Shared) (σ:St) (H:Hp) (x:V) (v:Value) (Q:Bool→Hp→Prop),Inv X pins σ H s→RelV x v→r x H Q →
   wpAny (model X.prog X.w) X.A (truthy v) (TP X pins σ Q) X.xe s
def tOp (r:R2) (ta tb:TE):TE:=fun σ H Q=>ta σ H fun x H1=>tb σ H1 fun y H2=>r x y H2 Q
def tUn (r:V→Hp→VK→Prop) (ta:TE):TE:=fun σ H Q=>ta σ H fun x H1=>r x H1 Q
def rI (C:Int→Int→Prop) (g:Int→Int→V):R2:=fun x y H Q=>∃ i j,x=.int i∧y=.int j∧C i j∧Q (g i j) H
def rI0 (g:Int→Int→V):R2:=fun x y H Q=>∃ i j,x=.int i∧y=.int j∧Q (g i j) H
def rU (g:Int→V):V→Hp→VK→Prop:=fun x H Q=>∃ i,x=.int i∧Q (g i) H
section
variable {X:Cx} {a b c:Expr} {ta tb tc:TE} {pos:Pos}
theorem binT (ha:PE X a ta) (hb:PE X b tb) {pins:List (Addr×Obj)} {s:Shared} {σ:St} {H:Hp} {R:V→V→Hp→Prop} (I:Inv X pins σ H s)
 (h:ta σ H fun x H1=>tb σ H1 fun y H2=>R x y H2) {Q:Value→Shared→Prop} {f:Value→Value→Sem Value}
 (hf:∀ v u s2 x y H2,Inv X pins σ H2 s2→RelV x v→RelV y u→R x y H2→wpAny (model X.prog X.w) X.A (f v u) Q X.xe s2) :
 wpAny (model X.prog X.w) X.A (eval a X.env) (fun v s₁=>wpAny (model X.prog X.w) X.A (eval b X.env) (fun u s₂=>wpAny (model X.prog X.w) X.A (f v u) Q X.xe s₂) X.xe s₁) X.xe s:=by
 refine thn (ha pins s σ H _ I h) fun v s1 ⟨x,H1,I1,r1,q1⟩=>?_;refine thn (hb pins s1 σ H1 _ I1 q1) fun u s2 ⟨y,H2,I2,r2,q2⟩=>?_;exact hf v u s2 x y H2 I2 r1 r2 q2
theorem Zq {op:Operator} {r:R2} (ho:OpR X (binaryOp op) r) (ha:PE X a ta) (hb:PE X b tb):PE X (.BinOp a op b pos) (tOp r ta tb):=by
 intro pins s σ H Q I h;exact wpAny_BinOp (binT ha hb I h fun v u s2 x y H2 I2 rx ry q=>ho pins s2 σ H2 x y v u Q I2 rx ry q)
theorem Zfu {op:UnaryOp} {r:V→Hp→VK→Prop} (ho:UnR X (unaryOp op) r) (ha:PE X a ta):PE X (.UnaryOp op a pos) (tUn r ta):=by
 intro pins s σ H Q I h;exact UnaryOp_ (thn (ha pins s σ H _ I h) fun v s1 ⟨x,H1,I1,r1,q1⟩=>ho pins s1 σ H1 x v Q I1 r1 q1)
theorem opI {f:Value→Value→Sem Value} {C:Int→Int→Prop} {g:Int→Int→Int}
 (rule:∀ (i j:Int) (t u:Tok) (s:Shared) (Q:Value→Shared→Prop) (E:Value→Shared→Prop),C i j→Q (.int (g i j) s.toks) { s with toks:=s.toks+1 }→wpAny (model X.prog X.w) X.A (f (.int i t) (.int j u)) Q E s) :
 OpR X f (rI C fun i j=>.int (g i j)):=by
 intro pins s σ H x y v u Q I rx ry h;obtain ⟨i,j,rfl,rfl,hc,q⟩:=h;obtain ⟨t,rfl⟩:=rx;obtain ⟨t',rfl⟩:=ry;exact rule i j t t' s _ _ hc ⟨.int (g i j),H,I.tok _,⟨_,rfl⟩,q⟩
theorem opI0 {f:Value→Value→Sem Value} {g:Int→Int→Int}
 (rule:∀ (i j:Int) (t u:Tok) (s:Shared) (Q:Value→Shared→Prop) (E:Value→Shared→Prop),Q (.int (g i j) s.toks) { s with toks:=s.toks+1 }→wpAny (model X.prog X.w) X.A (f (.int i t) (.int j u)) Q E s) :
 OpR X f (rI0 fun i j=>.int (g i j)):=by
 intro pins s σ H x y v u Q I rx ry h;obtain ⟨i,j,rfl,rfl,q⟩:=h;obtain ⟨t,rfl⟩:=rx;obtain ⟨t',rfl⟩:=ry;exact rule i j t t' s _ _ ⟨.int (g i j),H,I.tok _,⟨_,rfl⟩,q⟩
theorem opB0 {f:Value→Value→Sem Value} {g:Int→Int→Bool}
 (rule:∀ (i j:Int) (t u:Tok) (s:Shared) (Q:Value→Shared→Prop) (E:Value→Shared→Prop),Q (.bool (g i j)) s→wpAny (model X.prog X.w) X.A (f (.int i t) (.int j u)) Q E s) :
 OpR X f (rI0 fun i j=>.bl (g i j)):=by
 intro pins s σ H x y v u Q I rx ry h;obtain ⟨i,j,rfl,rfl,q⟩:=h;obtain ⟨t,rfl⟩:=rx;obtain ⟨t',rfl⟩:=ry;exact rule i j t t' s _ _ ⟨.bl (g i j),H,I,rfl,q⟩
def CPow (i j:Int):Prop:=0≤j∧j≤1000000∧i.natAbs < 2 ^ 64
theorem Xm:OpR X (binaryOp .Add) (rI0 fun i j=>.int (i+j)):=opI0 fun _ _ _ _ _ _ _ q=>add_int q
theorem Zgn:OpR X (binaryOp .Sub) (rI0 fun i j=>.int (i - j)):=opI0 fun _ _ _ _ _ _ _ q=>sub_int q
theorem Zay:OpR X (binaryOp .Mod) (rI (fun _ j=>j≠0) fun i j=>.int (i.fmod j)):=opI fun _ _ _ _ _ _ _ hc q=>mod_int' hc q
theorem Zlq:OpR X (binaryOp .Pow) (rI CPow fun i j=>.int (i ^ j.toNat)):=opI fun _ _ _ _ _ _ _ hc q=>pow_int_small hc.1 hc.2.1 hc.2.2 q
theorem unI {f:Value→Sem Value} {g:Int→Int}
 (rule:∀ (i:Int) (t:Tok) (s:Shared) (Q:Value→Shared→Prop) (E:Value→Shared→Prop),Q (.int (g i) s.toks) { s with toks:=s.toks+1 }→wpAny (model X.prog X.w) X.A (f (.int i t)) Q E s) :
 UnR X f (rU fun i=>.int (g i)):=by
 intro pins s σ H x v Q I rx h;obtain ⟨i,rfl,q⟩:=h;obtain ⟨t,rfl⟩:=rx;exact rule i t s _ _ ⟨.int (g i),H,I.tok _,⟨_,rfl⟩,q⟩
theorem Zb6:UnR X (unaryOp .USub) (rU fun i=>.int (-i)):=unI fun _ _ _ _ _ q=>neg_int q
end
def scal:V→V→Bool
 | .non,.non=>true | .non,.int _=>true | .int _,.non=>true | .non,.bl _=>true | .bl _,.non=>true | .non,.str _=>true | .str _,.non=>true
 | .int _,.int _=>true | .bl _,.bl _=>true | .str _,.str _=>true | .byt _,.byt _=>true
 | .int _,.str _=>true | .str _,.int _=>true | .bl _,.str _=>true | .str _,.bl _=>true
 | _,_=>false
def rEq:R2:=fun x y H Q=>scal x y=true∧Q (.bl (decide (x=y))) H
def rNe:R2:=fun x y H Q=>scal x y=true∧Q (.bl (!decide (x=y))) H
theorem Zl2 {i j:Int}:decide (V.int i=V.int j)=(i == j):=by
 rw [Bool.eq_iff_iff]
 simp
theorem Zn8 {i j:Bool}:decide (V.bl i=V.bl j)=(i == j):=by
 rw [Bool.eq_iff_iff]
 simp
theorem Zle {i j:Str}:decide (V.str i=V.str j)=(i == j):=by
 rw [Bool.eq_iff_iff]
 simp
theorem Zlr {i j:Array UInt8}:decide (V.byt i=V.byt j)=(i.toList == j.toList):=by
 rw [Bool.eq_iff_iff];cases i
 cases j
 simp
section
variable {X:Cx} {a b c:Expr} {ta tb tc:TE} {pos:Pos}
theorem Yg {pins:List (Addr×Obj)} {σ:St} {H:Hp} {s:Shared} {Q:VK} {k k':Bool} (I:Inv X pins σ H s) (q:Q (.bl k) H) (e:k=k'):EP X pins σ Q (.bool k') s:=by
 subst e;exact ⟨.bl k,H,I,rfl,q⟩
theorem Zho:OpR X (compareOp .Eq) rEq:=by
 intro pins s σ H x y v u Q I rx ry h;obtain ⟨hs,q⟩:=h;cases x with
 | non =>
   cases rx
   cases y with
   | non=>cases ry; exact PySem.EqNone.eq_none_none (Yg I q (by simp))
   | bl j=>cases ry; exact PySem.EqNone.eq_none_bool (Yg I q (by simp))
   | int j=>obtain ⟨t',rfl⟩:=ry; exact PySem.EqNone.eq_none_int (Yg I q (by simp))
   | str j=>obtain ⟨t',rfl⟩:=ry; exact PySem.EqNone.eq_none_str (Yg I q (by simp))
   | _=>exact absurd (show false=true from hs) n30_
 | bl i =>
   cases rx
   cases y with
   | non=>cases ry; exact PySem.EqNone.eq_bool_none (Yg I q (by simp))
   | bl j=>cases ry; exact eq_bool (Yg I q Zn8)
   | str j=>obtain ⟨t',rfl⟩:=ry; exact PySem.EqMixed.eq_bool_str (Yg I q (by simp))
   | _=>exact absurd (show false=true from hs) n30_
 | int i =>
   obtain ⟨t,rfl⟩:=rx;cases y with
   | non=>cases ry; exact PySem.EqNone.eq_int_none (Yg I q (by simp))
   | int j=>obtain ⟨t',rfl⟩:=ry; exact eq_int (Yg I q Zl2)
   | str j=>obtain ⟨t',rfl⟩:=ry; exact PySem.EqMixed.eq_int_str (Yg I q (by simp))
   | _=>exact absurd (show false=true from hs) n30_
 | str i =>
   obtain ⟨t,rfl⟩:=rx;cases y with
   | non=>cases ry; exact PySem.EqNone.eq_str_none (Yg I q (by simp))
   | bl j=>cases ry; exact PySem.EqMixed.eq_str_bool (Yg I q (by simp))
   | int j=>obtain ⟨t',rfl⟩:=ry; exact PySem.EqMixed.eq_str_int (Yg I q (by simp))
   | str j=>obtain ⟨t',rfl⟩:=ry; exact eq_str (Yg I q Zle)
   | _=>exact absurd (show false=true from hs) n30_
 | byt i =>
   obtain ⟨t,rfl⟩:=rx;cases y with
   | byt j=>obtain ⟨t',rfl⟩:=ry; exact PySem.W.eq_bytes (Yg I q Zlr)
   | _=>exact absurd (show false=true from hs) n30_
 | _=>cases y <;> exact absurd (show false=true from hs) n30_
theorem Zd3:OpR X (compareOp .NotEq) rNe:=by
 intro pins s σ H x y v u Q I rx ry h;obtain ⟨hs,q⟩:=h;cases x with
 | non =>
   cases rx
   cases y with
   | non=>cases ry; exact PySem.EqNone.ne_none_none (Yg I q (by simp))
   | bl j=>cases ry; exact PySem.EqNone.ne_none_bool (Yg I q (by simp))
   | int j=>obtain ⟨t',rfl⟩:=ry; exact PySem.EqNone.ne_none_int (Yg I q (by simp))
   | str j=>obtain ⟨t',rfl⟩:=ry; exact PySem.EqNone.ne_none_str (Yg I q (by simp))
   | _=>exact absurd (show false=true from hs) n30_
 | bl i =>
   cases rx
   cases y with
   | non=>cases ry; exact PySem.EqNone.ne_bool_none (Yg I q (by simp))
   | bl j=>cases ry; exact ne_bool (Yg I q (congrArg not Zn8))
   | str j=>obtain ⟨t',rfl⟩:=ry; exact PySem.EqMixed.ne_bool_str (Yg I q (by simp))
   | _=>exact absurd (show false=true from hs) n30_
 | int i =>
   obtain ⟨t,rfl⟩:=rx;cases y with
   | non=>cases ry; exact PySem.EqNone.ne_int_none (Yg I q (by simp))
   | int j=>obtain ⟨t',rfl⟩:=ry; exact ne_int (Yg I q (congrArg not Zl2))
   | str j=>obtain ⟨t',rfl⟩:=ry; exact PySem.EqMixed.ne_int_str (Yg I q (by simp))
   | _=>exact absurd (show false=true from hs) n30_
 | str i =>
   obtain ⟨t,rfl⟩:=rx;cases y with
   | non=>cases ry; exact PySem.EqNone.ne_str_none (Yg I q (by simp))
   | bl j=>cases ry; exact PySem.EqMixed.ne_str_bool (Yg I q (by simp))
   | int j=>obtain ⟨t',rfl⟩:=ry; exact PySem.EqMixed.ne_str_int (Yg I q (by simp))
   | str j=>obtain ⟨t',rfl⟩:=ry; exact ne_str (Yg I q (congrArg not Zle))
   | _=>exact absurd (show false=true from hs) n30_
 | byt i =>
   obtain ⟨t,rfl⟩:=rx;cases y with
   | byt j=>obtain ⟨t',rfl⟩:=ry; exact PySem.W.ne_bytes (Yg I q (congrArg not Zlr))
   | _=>exact absurd (show false=true from hs) n30_
 | _=>cases y <;> exact absurd (show false=true from hs) n30_
theorem Zka:OpR X (compareOp .Lt) (rI0 fun i j=>.bl (decide (i < j))):=opB0 fun _ _ _ _ _ _ _ q=>lt_int q
theorem Ze6:OpR X (compareOp .Gt) (rI0 fun i j=>.bl (decide (j < i))):=opB0 fun _ _ _ _ _ _ _ q=>gt_int q
theorem Zpt:OpR X (compareOp .Is) (fun x y H Q=>y=.non∧Q (.bl (decide (x=.non))) H):=by
 intro pins s σ H x y v u Q I rx ry h;obtain ⟨rfl,q⟩:=h;cases ry
 refine is_none_gen (Yg I q ?_)
 cases x <;> first
  | (cases rx; rfl)
  | (obtain ⟨t,rfl⟩:=rx; rfl)
theorem Zo1:OpR X (compareOp .IsNot) (fun x y H Q=>y=.non∧Q (.bl (!decide (x=.non))) H):=by
 intro pins s σ H x y v u Q I rx ry h;obtain ⟨rfl,q⟩:=h;cases ry
 refine isnot_none_gen (Yg I q ?_)
 cases x <;> first
  | (cases rx; rfl)
  | (obtain ⟨t,rfl⟩:=rx; rfl)
theorem Zy (b:Expr) {op:CmpOp} (h:op≠.In:=by decide) (h2:op≠.NotIn:=by decide):behindInMarks op b=false:=by
 have e1:(op == CmpOp.In)=false:=by cases op <;> first | rfl | exact absurd rfl h
 have e2:(op == CmpOp.NotIn)=false:=by cases op <;> first | rfl | exact absurd rfl h2
 cases b <;> simp [behindInMarks,e1,e2]
theorem Zaq {op:CmpOp} {r:R2} (ho:OpR X (compareOp op) r) (ha:PE X a ta) (hb:PE X b tb) (hm:behindInMarks op b=false):PE X (.Compare a [op] [b] pos) (tOp r ta tb):=by
 intro pins s σ H Q I h;exact wpAny_Compare1 (binT ha hb I h fun v u s2 x y H2 I2 rx ry q=>ho pins s2 σ H2 x y v u Q I2 rx ry q) hm
def Zrf (t:TE):TT:=fun σ H Q=>t σ H fun x H'=>∃ k,x=.bl k∧Q k H'
theorem Zt {op:CmpOp} {r:R2} (ho:OpR X (compareOp op) r) (ha:PE X a ta) (hb:PE X b tb) (hm:behindInMarks op b=false):PT X (.Compare a [op] [b] pos) (Zrf (tOp r ta tb)):=by
 intro pins s σ H Q I h
 refine wpAny_isTrue_Compare1 (thn (ha pins s σ H _ I h) fun v s1 ⟨x,H1,I1,r1,q1⟩=>thn (hb pins s1 σ H1 _ I1 q1) fun u s2 ⟨y,H2,I2,r2,q2⟩ =>
  thn (ho pins s2 σ H2 x y v u _ I2 r1 r2 q2) fun c s3 ⟨z,H3,I3,r3,k,e,q3⟩=>?_) hm
 subst e;cases r3
 exact wpAny_truthy_bool ⟨H3,I3,q3⟩
def TruV (K:PySem.W.Frag) (x:V) (H:Hp) (k:Bool):Prop :=
 match x with
 | .non=>k=false
 | .bl b=>k=b
 | .int i=>k=(i != 0)
 | .str y=>y.length≤sizeLine∧k=((y.length:Int) != 0)
 | .byt y=>y.size≤sizeLine∧k=((y.size:Int) != 0)
 | .ref p=>(∃ xs,SqL K H p xs∧k = !xs.isEmpty)∨(∃ xs,SqT K H p xs∧k = !xs.isEmpty)∨∃ kvs,H p=some (.dK kvs)∧k = !kvs.isEmpty
 | _=>False
theorem Zkf {κ:Type} {kvs:List (κ×V)} {vs:List (κ×Value)} (r:KV kvs vs):(!vs.isEmpty) = !kvs.isEmpty:=by
 cases r <;> rfl
theorem Zej {xs:List V} {its:List Value} (r:Vals xs its):(!its.toArray.isEmpty) = !xs.isEmpty:=by
 cases r <;> simp
theorem Zgb:(sizeLine:Nat) < 2 ^ 63:=by rw [sizeLine_eq]; decide
theorem Zpr:TruR X (fun x H Q=>∃ k,TruV X.K x H k∧Q k H):=by
 intro pins s σ H x v Q I rx h;obtain ⟨k,e,q⟩:=h;have hl:=Zgb;have hs:sizeLine=16777216:=sizeLine_eq;cases x with
 | non =>
   cases rx
   have e':k=false:=e;subst e';exact truthy_none ⟨H,I,q⟩
 | bl b =>
   cases rx
   have e':k=b:=e;subst e';exact wpAny_truthy_bool ⟨H,I,q⟩
 | int i =>
   obtain ⟨t,rfl⟩:=rx;have e':k=(i != 0):=e;subst e';exact PySem.P.truthy_int ⟨H,I,q⟩
 | str y =>
   obtain ⟨t,rfl⟩:=rx;obtain ⟨hy,e'⟩:y.length≤sizeLine∧k=((y.length:Int) != 0):=e;subst e';exact PySem.P.truthy_str (by omega) ⟨H,I.tok _,q⟩
 | byt y =>
   obtain ⟨t,rfl⟩:=rx;obtain ⟨hy,e'⟩:y.size≤sizeLine∧k=((y.size:Int) != 0):=e;subst e';exact PySem.W.truthy_bytes (by omega) ⟨H,I.tok _,q⟩
 | ref p =>
   cases rx
   have e':(∃ xs,SqL X.K H p xs∧k = !xs.isEmpty)∨(∃ xs,SqT X.K H p xs∧k = !xs.isEmpty)∨∃ kvs,H p=some (.dK kvs)∧k = !kvs.isEmpty:=e
   rcases e' with ⟨xs,hx,e'⟩ | ⟨xs,hx,e'⟩ | ⟨kvs,hx,e'⟩
   · subst e';obtain ⟨its,r,pl,hz⟩:=I.list hx;have hlen:=r.length;exact wpAny_truthy_list pl.isList (by simp only [n12_]; omega) ⟨H,I.tok _,by rw [Zej r]; exact q⟩
   · subst e';obtain ⟨its,r,pl,hz⟩:=I.tuple hx;have hlen:=r.length;exact truthy_tuple pl (by simp only [n12_]; omega) ⟨H,I.tok _,by rw [Zej r]; exact q⟩
   · subst e';obtain ⟨hz,hS,vs,r,m⟩:kvs.length≤sizeLine∧(p == sysModules)=false∧∃ vs,KV kvs vs∧s.heap.DictOf (Zhp X.prog X.w) p vs:=I.hok p _ hx;have hlen:kvs.length=vs.length:=Paired.length r;exact wpAny_truthy_dict hS m (by omega) ⟨H,I.tok _,by rw [Zkf r]; exact q⟩
 | _=>exact (show False from e).elim
theorem Z5 (ha:PE X a ta) (he:∀ whole,isTrue a X.env whole=(do let v ← whole; standAt a.pos; holding [v] (truthy v))) :
 PT X a (fun σ H Q=>ta σ H fun x H'=>∃ k,TruV X.K x H' k∧Q k H'):=by
 intro pins s σ H Q I h;exact isTrue_plain (thn (ha pins s σ H _ I h) fun v s1 ⟨x,H1,I1,r1,q1⟩=>Zpr pins s1 σ H1 x v Q I1 r1 q1) (he _)
theorem Zkd {x:V} {us:List Value} (r:Vals [x] us):∃ u,us=[u]∧RelV x u:=by
 cases r with
 | cons r1 r2=>cases r2; exact ⟨_,rfl,r1⟩
theorem Zqg {x y:V} {us:List Value} (r:Vals [x,y] us):∃ u w',us=[u,w']∧RelV x u∧RelV y w':=by
 cases r with
 | cons r1 r2 =>
   cases r2 with
   | cons r3 r4=>cases r4; exact ⟨_,_,rfl,r1,r3⟩
theorem Zbb:Zbe X (.builtin "abs") (fun xs H Q=>∃ i,xs=[.int i]∧Q (.int (if i < 0 then -i else i)) H):=by
 intro pins s σ H xs us Q I r h;obtain ⟨i,rfl,q⟩:=h;obtain ⟨u,rfl,t,rfl⟩:=Zkd r;exact call_abs_int fun u tk=>⟨.int (if i < 0 then -i else i),H,I.tok _,⟨_,rfl⟩,q⟩
theorem Zg4 (hc:X.calm=true):Zbe X (.builtin "max") (fun xs H Q=>∃ i j,xs=[.int i,.int j]∧Q (.int (if j > i then j else i)) H):=by
 intro pins s σ H xs us Q I r h;obtain ⟨i,j,rfl,q⟩:=h;obtain ⟨u,w',rfl,⟨t,rfl⟩,⟨t',rfl⟩⟩:=Zqg r;refine max_two_ints (I.ok.hd hc) fun h' tk k=>⟨_,H,I.kept k,?_,q⟩
 by_cases hj:j > i
 · rw [if_pos hj,if_pos hj]; exact ⟨_,rfl⟩
 · rw [if_neg hj,if_neg hj]; exact ⟨_,rfl⟩
theorem Zg2 (hc:X.calm=true):Zbe X (.builtin "min") (fun xs H Q=>∃ i j,xs=[.int i,.int j]∧Q (.int (if j < i then j else i)) H):=by
 intro pins s σ H xs us Q I r h;obtain ⟨i,j,rfl,q⟩:=h;obtain ⟨u,w',rfl,⟨t,rfl⟩,⟨t',rfl⟩⟩:=Zqg r;refine min_two_ints (I.ok.hd hc) fun h' tk k=>⟨_,H,I.kept k,?_,q⟩
 by_cases hj:j < i
 · rw [if_pos hj,if_pos hj]; exact ⟨_,rfl⟩
 · rw [if_neg hj,if_neg hj]; exact ⟨_,rfl⟩
theorem Zkw:Zbe X (.type "int") (fun xs H Q=>(∃ i,xs=[.int i]∧Q (.int i) H)∨∃ k,xs=[.bl k]∧Q (.int (if k then 1 else 0)) H):=by
 intro pins s σ H xs us Q I r h
 rcases h with ⟨i,rfl,q⟩ | ⟨k,rfl,q⟩
 · obtain ⟨u,rfl,t,rfl⟩:=Zkd r;exact call_int_int ⟨.int i,H,I,⟨_,rfl⟩,q⟩
 · obtain ⟨u,rfl,r1⟩:=Zkd r;cases r1
   exact call_int_bool ⟨.int (if k then 1 else 0),H,I.tok _,⟨_,rfl⟩,q⟩
end
end L2
namespace L2
open PySem PySem.Spec PyProof.Rows
structure ObjM (h:Heap) (x dx C:Addr) (mA:Str→Option Value):Prop where
 obj:h.get? x=some (PySem.W.instObj C dx)
 ns:h.Ns1 dx mA
 ne:dx≠x
theorem Zmq {h:Heap} {dx:Addr} {mA:Str→Option Value} (n:h.Ns1 dx mA):∃ od,h.get? dx=some od∧∀ name,PySem.W.lookIn name od=some (mA name):=by
 obtain ⟨o,es,ep,ho,hd,hk,_,hm⟩:=n;refine ⟨o,ho,fun name=>?_⟩;have e:=hm name;unfold nsFind findBy at e;rw [← Array.find?_toList] at e;unfold PySem.W.lookIn;rw [hd];dsimp only;split
 · rename_i y q
   rw [q] at e;exact congrArg some e
 · rename_i q
   rw [q] at e
   have a:es.toList.any (·.refKey)=false:=by
    rw [List.any_eq_false];intro y hy;obtain ⟨z,t,hkey⟩:=hk y (Array.mem_toList_iff.mp hy);simp [DictEntry.refKey,hkey]
   have a':¬ es.toList.any (·.refKey)=true:=by rw [a]; exact n30_
   rw [if_neg a'];exact congrArg some e
theorem ObjM.look {h:Heap} {x dx C:Addr} {mA:Str→Option Value} (I:ObjM h x dx C mA):∃ od,PySem.W.InstAt h x (PySem.W.instObj C dx) C (some od)∧∀ name,PySem.W.lookIn name od=some (mA name) :=
 let ⟨od,ho,hl⟩:=Zmq I.ns
 ⟨od,⟨I.obj,rfl,rfl,ho⟩,hl⟩
section
variable {prog:Program} {w:World} {A:Around} {E:Value→Shared→Prop} {s:Shared} {K:PySem.W.Frag} {x dx C f:Addr} {mA:Str→Option Value} {name:Str} {v:Value}
end
section
variable {P:Program} {w:World} {H H':Hp} {h h':Heap} {a C dx:Addr} {fs fs':List (Str×V)}
theorem Zpp (hok:HOk P w H h) (e:H a=some (.ins C dx fs)):∃ mA,ObjM h a dx C mA∧(∀ f,RelO (fs.lookup f) (mA f))∧PySem.Within mA (fs.map (·.1))∧fs.length≤1000∧H dx=some (.own a):=by
 obtain ⟨d,z,ne,ob,mA,n,r,q⟩:=(show ObjOk P w H h a (.ins C dx fs) from hok a _ e);exact ⟨mA,⟨ob,n,ne⟩,r,q,z,d⟩
end
structure Cls (K:PySem.W.Frag) (C:Addr):Prop where
 pg:PySem.W.plainGet K C Str.empty=true
 hd:PySem.W.hasDictIn K C=true
 po:PySem.W.plainOver K C=true
 sa:PySem.W.findIn K (.ref C) "__setattr__" = some (some (.builtin "object.__setattr__"))
theorem Cls.get {K:PySem.W.Frag} {C:Addr} (c:Cls K C) (f:Str):PySem.W.plainGet K C f=true:=c.pg
section
variable {X:Cx} {pins:List (Addr×Obj)} {σ:St} {H:Hp} {s:Shared} {a C dx:Addr} {fs:List (Str×V)} {f:Str} {v:V} {A:Around} {E:Value→Shared→Prop}
end
section
variable {X:Cx} {o e value:Expr} {f:Str} {pos pos' tpos:Pos} {ta tv:TE}
end
section
variable {X:Cx} {pins:List (Addr×Obj)} {σ:St} {H:Hp} {s:Shared} {A:Around} {E:Value→Shared→Prop} {Q:Value→Shared→Prop} {c:Value} {b:Bool}
inductive TyOf (K:PySem.W.Frag) (H:Hp):V→Value→Prop where
 | non:TyOf K H .non (.type "NoneType")
 | bl (x:Bool):TyOf K H (.bl x) (.type "bool")
 | int (i:Int):TyOf K H (.int i) (.type "int")
 | str (x:Str):TyOf K H (.str x) (.type "str")
 | flt (x:UInt64):TyOf K H (.flt x) (.type "float")
 | lst {a:Addr} {xs:List V} (e:H a=some (.lst xs)):TyOf K H (.ref a) (.type "list")
 | frz {a:Addr} {o:Obj} {xs:List V} (e:H a=some (.frz o (.lst xs))):TyOf K H (.ref a) (.type "list")
 | tup {a:Addr} {xs:List V} (e:H a=some (.tup xs)):TyOf K H (.ref a) (.type "tuple")
 | dK {a:Addr} {kvs:List (Key×V)} (e:H a=some (.dK kvs)):TyOf K H (.ref a) (.type "dict")
 | dT {a:Addr} {kvs:List (List Key×V)} (e:H a=some (.dT kvs)):TyOf K H (.ref a) (.type "dict")
 | ins {a C dx:Addr} {fs:List (Str×V)} (e:H a=some (.ins C dx fs)) (cl:Cls K C) (ha:PySem.W.findIn K (.ref C) "__class__" = some (some (.builtin "object.__class__")))
    (hn:PySem.W.specialIn K (.builtin "object.__class__") "__get__" = some (some (.builtin "getset_descriptor.__get__"))) (htk:PySem.W.takesIn K (.builtin "object.__class__")=some true)
    (hm:PySem.W.mroIn K C (.type "object")=some true):TyOf K H (.ref a) (.ref C)
theorem Zl7 {x:V} {u t:Value} (I:Inv X pins σ H s) (rx:RelV x u) (ty:TyOf X.K H x t) (e:PySem.W.kitOne X.K t c=some b) (h:∀ tk,Q (.bool b) { s with toks:=tk }) :
 wpAny (model X.prog X.w) A (call (.builtin "isinstance") [u,c]) Q E s:=by
 cases ty with
 | non=>cases (show u=Value.none from rx); exact n77_ PySem.W.kitx_none I.kIn True.intro e (fun z=>nomatch z) h
 | bl y=>cases (show u=Value.bool y from rx); exact n77_ PySem.W.kitx_bool I.kIn True.intro e (fun z=>nomatch z) h
 | int i=>obtain ⟨t,q⟩:=(show ∃ t,u=Value.int i t from rx); cases q; exact n77_ PySem.W.kitx_int I.kIn True.intro e (fun z=>nomatch z) h
 | str y=>obtain ⟨t,q⟩:=(show ∃ t,u=Value.str y t from rx); cases q; exact n77_ PySem.W.kitx_str I.kIn True.intro e (fun z=>nomatch z) h
 | flt y=>obtain ⟨t,q⟩:=(show ∃ t,u=Value.float y t from rx); cases q; exact n77_ PySem.W.kitx_float I.kIn True.intro e (fun z=>nomatch z) h
 | @lst a xs ea =>
   cases (show u=Value.ref a from rx)
   obtain ⟨_,_,n,_,h1⟩:=(show ObjOk X.prog X.w H s.heap a (.lst xs) from I.hok a _ ea);exact n77_ PySem.W.kitx_list I.kIn ⟨_,h1,rfl⟩ e (fun z=>nomatch z) h
 | @frz a ob xs ea =>
   cases (show u=Value.ref a from rx)
   obtain ⟨_,_,_,n,_,h1⟩:=(show ObjOk X.prog X.w H s.heap a (.frz ob (.lst xs)) from I.hok a _ ea);exact n77_ PySem.W.kitx_list I.kIn ⟨_,h1,rfl⟩ e (fun z=>nomatch z) h
 | @tup a xs ea =>
   cases (show u=Value.ref a from rx)
   obtain ⟨_,_,_,p⟩:=(show ObjOk X.prog X.w H s.heap a (.tup xs) from I.hok a _ ea);obtain ⟨o,h1,h2,_⟩:=p;exact n77_ PySem.W.kitx_tuple I.kIn ⟨o,h1,h2⟩ e (fun z=>nomatch z) h
 | @dK a kvs ea =>
   cases (show u=Value.ref a from rx)
   obtain ⟨_,_,vs,_,p⟩:=(show ObjOk X.prog X.w H s.heap a (.dK kvs) from I.hok a _ ea);obtain ⟨o,es,ep,h1,h2,_⟩:=p;exact n77_ PySem.W.kitx_dict I.kIn ⟨o,h1,h2.1⟩ e (fun z=>nomatch z) h
 | @dT a kvs ea =>
   cases (show u=Value.ref a from rx)
   obtain ⟨_,_,xs,_,o,es,ep,h1,h2,_⟩:=(show ObjOk X.prog X.w H s.heap a (.dT kvs) from I.hok a _ ea);exact n77_ PySem.W.kitx_dict I.kIn ⟨o,h1,h2.1⟩ e (fun z=>nomatch z) h
 | @ins a C dx fs ea cl ha hn htk hm =>
   cases (show u=Value.ref a from rx)
   obtain ⟨mA,O,_⟩:=Zpp I.hok ea;obtain ⟨od,J,_⟩:=O.look;exact n77_ (PySem.W.kitx_own (cl.get _) cl.hd ha hn htk hm) I.kIn J e (fun z=>nomatch z) h
end
end L2
namespace L2
open PySem PySem.Spec PyProof.Rows
structure Room (k:Nat) (A:Around):Prop where
 hd:A.handled=none
 dp:A.depth+3 * k+5 < recursionLimit
 un:A.units+16 * k+200 < cLine
 gd:A.guards=some []
theorem Room.mono {j k:Nat} {A:Around} (r:Room k A) (h:j≤k):Room j A:=⟨r.hd,by have:=r.dp; omega,by have:=r.un; omega,r.gd⟩
theorem Room.deeper {k:Nat} {A:Around} (r:Room (k+1) A) (env:Env):Room k (A.deeper env) :=
 ⟨r.hd,by have:=r.dp; show A.depth+1+3 * k+5 < _; omega,by have:=r.un; show A.units+3+16 * k+200 < _; omega,r.gd⟩
theorem Room.in1 {k:Nat} {A:Around} (r:Room (k+1) A):Room k A.in1 :=
 ⟨r.hd,by have:=r.dp; show A.depth+3 * k+5 < _; omega,by have:=r.un; show A.units+1+16 * k+200 < _; omega,r.gd⟩
theorem Room.depth {k:Nat} {A:Around} (r:Room k A):A.depth < recursionLimit:=by have:=r.dp; omega
theorem Room.units {k:Nat} {A:Around} (r:Room k A):A.units+64 < cLine:=by have:=r.un; omega
def tNil:TA:=fun _ H Q=>Q [] H
def Zrt (ta:TE) (tr:TA):TA:=fun σ H Q=>ta σ H fun x H1=>tr σ H1 fun xs H2=>Q (x :: xs) H2
section
variable {X:Cx} {e:Expr} {es:List Expr} {te:TE} {t:TA} {pos:Pos}
theorem Zb:PA X [] tNil:=fun _ _ _ _ H Q I h=>Calls.spliced_nil ⟨[],H,I,.nil,h⟩
theorem Za (ha:PE X e te) (hr:PA X es t) (hs:starEach (e :: es) X.env=(false,eval e X.env) :: starEach es X.env:=by rfl):PA X (e :: es) (Zrt te t):=by
 intro pos pins s σ H Q I h;rw [hs];show wpAny _ _ (spliced ((false,eval e X.env) :: backTo pos (starEach es X.env))) _ _ s
 refine Calls.spliced_cons (thn (ha pins s σ H _ I h) fun u s1 ⟨x,H1,I1,r1,q1⟩=>?_);exact thn (hr pos pins s1 σ H1 _ I1 q1) fun us s2 ⟨xs,H2,I2,r2,q2⟩=>⟨x :: xs,H2,I2,.cons r1 r2,q2⟩
def tTup (t:TA):TE:=fun σ H Q=>t σ H fun xs H1=>xs.length≤sizeLine∧∀ p,H1 p=none→Q (.ref p) (upd H1 p (.tup xs))
def tLst (t:TA):TE:=fun σ H Q=>t σ H fun xs H1=>xs.length≤sizeLine∧∀ p,H1 p=none→Q (.ref p) (upd H1 p (.lst xs))
theorem Zv {x1} (h:PA X es t):PE X (.Tuple es x1 pos) (tTup t):=by
 intro pins s σ H Q I hq;refine wpAny_Tuple_spliced (thn (h pos pins s σ H _ I hq) fun us s1 ⟨xs,H1,I1,r,z,q⟩=>⟨by rw [← r.length]; exact z,?_⟩);have hf:H1 s1.heap.objs.size=none:=I1.hok.fresh (n9_ _);refine ⟨.ref s1.heap.objs.size,upd H1 s1.heap.objs.size (.tup xs),I1.laid (t':=s1.toks) (fun b u e=>n4_ _ e) (n9_ _) ?_,rfl,q _ hf⟩;exact ⟨z,us,r,⟨_,n25_ _ rfl,rfl,_,rfl⟩⟩
theorem Yz (h:PA X es t):PE X (.List es pos) (tLst t):=by
 intro pins s σ H Q I hq;refine wpAny_List_spliced (thn (h pos pins s σ H _ I hq) fun us s1 ⟨xs,H1,I1,r,z,q⟩=>⟨by rw [← r.length]; exact z,?_⟩);have hf:H1 s1.heap.objs.size=none:=I1.hok.fresh (n9_ _);refine ⟨.ref s1.heap.objs.size,upd H1 s1.heap.objs.size (.lst xs),I1.laid (t':=s1.toks) (fun b u e=>n4_ _ e) (n9_ _) ?_,rfl,q _ hf⟩;exact ⟨z,us,0,r,n25_ _ rfl⟩
end
abbrev Sp:=List V→Hp→VK→XK→Prop
abbrev CXT:=List Env→Hp→Shared→XK→Value→Shared→Prop
structure Env0 (P:Program) (w:World) (K:PySem.W.Frag) (mg:Str→Option Value) (base:Heap) (A:Around) (outer:List Env) (s:Shared) (H:Hp):Prop where
 frames:A.frames=some outer
 mod:Mod K mg base
 bs:∀ b o,base.get? b=some o→s.heap.get? b=some o∧H b=none
 bsz:base.objs.size≤s.heap.objs.size
 funs:s.heap.FunFrames base outer
 frf:∀ b∈frs outer,H b=none
 hok:HOk P w H s.heap
 bare:AllBare s.gens
def CE (outer:List Env) (P:Program) (w:World) (H:Hp) (s:Shared) (Q:VK) (u:Value) (s':Shared):Prop :=
 ∃ v H',s'.os=s.os∧AllBare s'.gens∧Un (frs outer) [] H H' s.heap s'.heap∧HOk P w H' s'.heap∧RelV v u∧Q v H'
def CR (CX:CXT) (outer:List Env) (P:Program) (w:World) (H:Hp) (s:Shared) (Q:VK) (E:XK) (r:Result) (s':Shared):Prop :=
 match r with
 | .ok (.ret u)=>CE outer P w H s Q u s'
 | .ok _=>False
 | .error e=>CX outer H s E e s'
structure FnOk (P:Program) (w:World) (K:PySem.W.Frag) (mg:Str→Option Value) (base:Heap) (CX:CXT) (k:Nat) (f:Addr) (fd:FuncData) (ps:List Str) (sp:Sp):Prop where
 len:∀ vs H Q E,sp vs H Q E→vs.length=ps.length
 run:∀ (A:Around) (outer:List Env) (s:Shared) (H:Hp) (args:Args) (us:List Value) (vs:List V) (Q:VK) (E:XK),Room k A→Env0 P w K mg base A outer s H→BindsTo s fd args (ps.zip us)→Vals vs us→sp vs H Q E →
  codeAny (model P w) A (.call (.ref f) args) (CR CX outer P w H s Q E) s
section
variable {X:Cx} {pins:List (Addr×Obj)} {σ:St} {H:Hp} {s s':Shared}
theorem Inv.env0 (I:Inv X pins σ H s):Env0 X.prog X.w X.K X.mg X.base X.A X.stack s H :=
 ⟨I.ok.frames,I.ok.mod,I.bs,n19_ I.ok.bsz I.sz,I.stack,I.stkFree,I.hok,I.bare⟩
theorem Inv.after {Q:VK} {u:Value} (I:Inv X pins σ H s) (h:CE X.stack X.prog X.w H s Q u s'):EP X pins σ Q u s':=by
 obtain ⟨v,H',os,bare,un,hok,r,q⟩:=h;obtain ⟨hh,g,d,t,os'⟩:=s';obtain rfl:os'=s.os:=os;exact ⟨v,H',I.call (h':=hh) (g':=g) (d':=d) (t':=t) (ch:=[]) un hok bare (fun b z=>absurd z (by simp)),r,q⟩
end
def Zp9 (sp:Sp) (dvs:List V) (E:XK) (t:TA):TE:=fun σ H Q=>t σ H fun vs H1=>sp (vs++dvs) H1 Q E
def Binds (K:PySem.W.Frag) (fd:FuncData) (ps:List Str) (ds:List Value):Prop :=
 ∀ (s:Shared) (us:List Value),K.In s.heap→(us++ds).length=ps.length→BindsTo s fd ⟨us,[]⟩ (ps.zip (us++ds))
theorem Binds.all {K:PySem.W.Frag} {fd:FuncData} {ps:List Str} (h:∀ us:List Value,us.length=ps.length→bindArgs fd ⟨us,[]⟩=pure (ps.zip us)):Binds K fd ps []:=fun s us _ hl=>by
 rw [List.append_nil] at hl ⊢;exact .of_eq (h us hl)
def Zli (CX:CXT) (X:Cx) (E:XK):Prop:=∀ (pins:List (Addr×Obj)) (σ:St) (H:Hp) (s:Shared) (e:Value) (s':Shared),Inv X pins σ H s→CX X.stack H s E e s'→X.xe e s'
section
variable {X:Cx} {CX:CXT} {k:Nat} {f C:Addr} {fd:FuncData} {ps:List Str} {sp:Sp} {dvs:List V} {ds:List Value} {E:XK} {x m:Str} {p pos apos:Pos} {e o:Expr} {es:List Expr} {ta:TE} {t:TA}
theorem Zqo {pins:List (Addr×Obj)} {σ:St} {H:Hp} {s:Shared} {Q:VK} {us:List Value} {vs:List V} (F:FnOk X.prog X.w X.K X.mg X.base CX k f fd ps sp) (hr:Room k X.A) (hb:Binds X.K fd ps ds) (hd:Vals dvs ds) (hx:Zli CX X E)
 (I:Inv X pins σ H s) (r:Vals vs us) (h:sp (vs++dvs) H Q E):wpAny (model X.prog X.w) X.A (call (.ref f) us) (EP X pins σ Q) X.xe s:=by
 have r2:Vals (vs++dvs) (us++ds):=r.append hd;have hl:(us++ds).length=ps.length:=by rw [← r2.length]; exact F.len _ _ _ _ h
 refine wpAny_call (codeAny_mono (F.run X.A X.stack s H ⟨us,[]⟩ (us++ds) (vs++dvs) Q E hr I.env0 (hb s us I.kIn hl) r2 h) fun r s' hq=>?_);cases r with
 | error e=>exact hx pins σ H s e s' I hq
 | ok fl =>
   cases fl with
   | ret u=>exact I.after hq
   | next=>exact False.elim hq
   | brk=>exact False.elim hq
   | cont=>exact False.elim hq
theorem Zo8 (F:FnOk X.prog X.w X.K X.mg X.base CX k f fd ps sp) (hr:Room k X.A) (hg:Gl X x) (hm:X.mg x=some (.ref f)) (hk:PySem.W.keepIn X.K (.ref f)=true) (hb:Binds X.K fd ps ds) (hd:Vals dvs ds) (hx:Zli CX X E)
 (ha:PA X (e :: es) t) (hdb:(x == ("__debug__" : Str))=false:=by decide) (he:starEach (e :: es) X.env=(false,eval e X.env) :: starEach es X.env:=by rfl) (hpl:(backTo pos (starEach es X.env)).any (·.1)=false:=by rfl) :
 PE X (.Call (.Name x p) (e :: es) [] pos) (Zp9 sp dvs E t):=by
 intro pins s σ H Q I h;refine wpAny_Call_Name_kw (Zlc I hg hm ?_ hdb);refine PySem.W.callWith_K (h₀:=X.base) I.ok.mod.kin hk (thn (ha pos pins s σ H _ I h) fun us s1 ⟨vs,H1,I1,r,q⟩=>⟨I1.kIn,?_⟩) he hpl;exact Zqo F hr hb hd hx I1 r q
end
section
variable {X:Cx} {CX:CXT} {k:Nat} {f C:Addr} {fd:FuncData} {ps ks:List Str} {sp:Sp} {E:XK} {x m:Str} {p pos apos kpos:Pos} {e o:Expr} {es:List Expr} {kws:List Keyword} {te ta:TE} {t tk:TA} {nm:Option Str}
variable {g:List Value→List Value→List Value} {gV:List V→List V→List V}
end
structure FnScope (N P:List Str) (sc:Scope):Prop where
 kind:sc.kind=.function
 co:sc.isCoroutine=false
 gen:sc.isGenerator=false
 nd:N.Nodup
 pre:N.take P.length=P
 par:∀ x∈P,sc.names.lookup x=some .local∨sc.names.lookup x=some .cell
 nofree:∀ y∈sc.names,y.2≠.free
theorem Zg8 {kindOf:Str→Option NameKind} {x:Str}:∀ {binds:List (Str×Value)} {m:Str→Option Value},(∀ v,(x,v)∉binds)→bindL kindOf binds m x=m x
 | [],_,_=>rfl
 | (n,v) :: r,m,h=>by
   unfold bindL;rw [Zg8 fun w hw=>h w (n8_ _ hw)];split
   · have:x≠n:=by rintro rfl; exact h v n7_
     simp [this]
   · rfl
theorem Zgs {kindOf:Str→Option NameKind} {x:Str}:∀ {binds:List (Str×Value)} {m:Str→Option Value},(∀ v,(x,v)∉binds)→bindC kindOf binds m x=m x
 | [],_,_=>rfl
 | (n,v) :: r,m,h=>by
   unfold bindC;rw [Zgs fun w hw=>h w (n8_ _ hw)];split
   · rfl
   · have:x≠n:=by rintro rfl; exact h v n7_
     simp [this]
theorem Zgj {kindOf:Str→Option NameKind} {x:Str} {v:Value}:∀ {P:List Str} {vs:List Value} {i:Nat} {m:Str→Option Value},P.Nodup→P[i]? = some x→vs[i]? = some v→kindOf x=some .local →
 bindL kindOf (P.zip vs) m x=some v
 | [],_,_,_,_,h,_,_=>by simp at h
 | _ :: _,[],_,_,_,_,h,_=>by simp at h
 | p :: P,w :: vs,0,m,nd,h1,h2,hk=>by
   simp at h1 h2; subst h1; subst h2;show bindL kindOf ((p,w) :: P.zip vs) m p=_
   unfold bindL;rw [Zg8 fun v hv=>(List.nodup_cons.mp nd).1 (List.of_mem_zip hv).1,if_pos hk]
   simp
 | p :: P,w :: vs,i+1,m,nd,h1,h2,hk=>by
   show bindL kindOf ((p,w) :: P.zip vs) m x=_
   unfold bindL;exact Zgj (i:=i) (List.nodup_cons.mp nd).2 (by simpa using h1) (by simpa using h2) hk
theorem Zg6 {kindOf:Str→Option NameKind} {x:Str} {v:Value}:∀ {P:List Str} {vs:List Value} {i:Nat} {m:Str→Option Value},P.Nodup→P[i]? = some x→vs[i]? = some v→kindOf x≠some .local →
 bindC kindOf (P.zip vs) m x=some v
 | [],_,_,_,_,h,_,_=>by simp at h
 | _ :: _,[],_,_,_,_,h,_=>by simp at h
 | p :: P,w :: vs,0,m,nd,h1,h2,hk=>by
   simp at h1 h2; subst h1; subst h2;show bindC kindOf ((p,w) :: P.zip vs) m p=_
   unfold bindC;rw [Zgs fun v hv=>(List.nodup_cons.mp nd).1 (List.of_mem_zip hv).1,if_neg hk]
   simp
 | p :: P,w :: vs,i+1,m,nd,h1,h2,hk=>by
   show bindC kindOf ((p,w) :: P.zip vs) m x=_
   unfold bindC;exact Zg6 (i:=i) (List.nodup_cons.mp nd).2 (by simpa using h1) (by simpa using h2) hk
def Zcy (N:List Str) (vs:List V):St:=vs.map some++List.replicate (N.length - vs.length) none
def cxOf (CX:CXT) (P:Program) (w:World) (K:PySem.W.Frag) (mg:Str→Option Value) (base:Heap) (N:List Str) (qual:Str) (scope:Scope) (f:Addr) (cd:Value) (A:Around) (outer:List Env) (s:Shared) (H:Hp) (E:XK):Cx where
 prog:=P
 w:=w
 K:=K
 mg:=mg
 base:=base
 A:=A.deeper (envOfC qual scope s.heap.objs.size f cd)
 N:=N
 s₀:=s
 H₀:=H
 env:=envOfC qual scope s.heap.objs.size f cd
 outer:=outer
 stack:=envOfC qual scope s.heap.objs.size f cd :: outer
 ex:=[]
 calm:=true
 fn:=fun _=>true
 pn:=[]
 xe:=fun e s'=>wpAny (model P w) (A.deeper (envOfC qual scope s.heap.objs.size f cd)) (leaving (envOfC qual scope s.heap.objs.size f cd) e) (fun _ s''=>CX outer H s E e s'') (fun e' s''=>CX outer H s E e' s'') s'
theorem Zw {sc:Scope} {n:Nat} {x:Str} (h:sc.names.lookup x=some .cell):∃ c,(cellsFrom n sc.names []).lookup x=some c:=by
 have q:=PySem.W.cellsFrom_some sc.names n [] (.inl h);exact Option.isSome_iff_exists.mp q
theorem Zme {CX:CXT} {P:Program} {w:World} {K:PySem.W.Frag} {mg:Str→Option Value} {base:Heap} {N ps:List Str} {qual:Str} {scope:Scope} {f:Addr} {cd:Value} {A:Around} {outer:List Env} {s s1:Shared} {H:Hp} {E:XK} {us:List Value} {vs:List V}
 (S:FnScope N ps scope) (hd:A.handled=none) (e0:Env0 P w K mg base A outer s H) (hl:vs.length=ps.length) (r:Vals vs us)
 (x:InCallC s s.heap.objs.size (bindL (envOfC qual scope s.heap.objs.size f cd).kindOf (ps.zip us) fun _=>none) (cellsFrom (s.heap.objs.size+1) scope.names []) (bindC (envOfC qual scope s.heap.objs.size f cd).kindOf (ps.zip us) fun _=>none) s1) :
 Inv (cxOf CX P w K mg base N qual scope f cd A outer s H E) [] (Zcy N vs) H s1:=by
 have hpl:ps.length≤N.length:=by have:=congrArg List.length S.pre; rw [n79_] at this; omega
 obtain ⟨h1,tk,rfl,hk⟩:=x.done;have noA:∀ b:Addr,b∉(cxOf CX P w K mg base N qual scope f cd A outer s H E).ex:=fun b z=>absurd (show b∈([]:List Addr) from z) (by simp)
 refine ⟨⟨e0.mod,S.kind,rfl,rfl,n9_ _,fun y z c h1 h2=>?_,fun y hy=>?_,fun y c _ h=>?_,fun _=>hd,Around.frames_deeper e0.frames,.inr ⟨rfl,rfl⟩,fun b z=>absurd z (noA b),e0.bs,e0.bsz,fun b _ _=>noA b,fun b z=>absurd z (noA b),e0.funs,e0.frf⟩,
  rfl,e0.bare,Un.kept hk,⟨_,x.toInCall.ns,fun i y v h1 h2 h3=>?_⟩,fun y c h=>⟨_,x.cell y c h⟩,e0.hok.fresh (n9_ _),fun y c h=>?_,fun p hp=>absurd (show p∈([]:List (Addr×Obj)) from hp) (by simp),e0.hok.kept hk,?_⟩
 · exact name_of_addr x.apart (n38_ h1) (n38_ h2)
 · have hy:scope.names.lookup y=some .cell∨scope.names.lookup y=some .free:=hy
   rcases hy with hy | hy
   · exact Zw hy
   · exact absurd rfl (S.nofree _ (n38_ hy))
 · exact n76_ (x.above y c (n38_ h))
 · have hi:i < vs.length:=by
    unfold Zcy at h2
    by_cases hi:i < vs.length
    · exact hi
    · rw [n62_ (by simpa using hi)] at h2;rw [n58_] at h2;split at h2 <;> cases h2
   have ha:vs[i]? = some v:=by
    unfold Zcy at h2;rw [n63_ (by simpa using hi),n5_] at h2;cases e:vs[i]? with
    | none=>rw [e] at h2; cases h2
    | some a=>rw [e] at h2; cases h2; rfl
   obtain ⟨u,hu,rv⟩:=r.get ha
   have hp:ps[i]? = some y:=by
    rw [← S.pre,List.getElem?_take_of_lt (by omega)]; exact h1
   have ndP:ps.Nodup:=by rw [← S.pre]; exact S.nd.sublist (List.take_sublist _ _)
   refine ⟨u,rv,?_⟩
   rcases S.par y (n1_ hp) with k | k
   · exact .inl ⟨k,Zgj ndP hp hu k⟩
   · obtain ⟨c,e⟩:=Zw (n:=s.heap.objs.size+1) k;refine .inr ⟨.inl k,c,e,?_⟩;have q:=x.cell y c e;rw [Zg6 ndP hp hu (by show scope.names.lookup y≠_; rw [k]; decide)] at q;exact q
 · exact .inl (e0.hok.fresh (n76_ (x.above y c (n38_ h))))
 · unfold Zcy;show _=N.length
   rw [n26_,n2_,n18_];omega
theorem Zpn {CX:CXT} {P:Program} {w:World} {K:PySem.W.Frag} {mg:Str→Option Value} {base:Heap} {k:Nat} {f:Addr} {name qual:Str} {params:Arguments} {body:List Stmt} {scope:Scope} {dV kV doc pm cdv ct oc:Value} {an od:Option Addr}
 {osl:Array (Option Value)} {N ps:List Str} {sp:Sp} (lk:K.lookup f=some ⟨oc,od,.func (PySem.W.fnOf name qual params body scope dV kV doc pm an cdv ct),osl⟩) (hcd:PySem.W.codeIn K cdv qual=true) (S:FnScope N ps scope)
 (len:∀ vs H Q E,sp vs H Q E→vs.length=ps.length)
 (hbody:∀ (A:Around) (outer:List Env) (s:Shared) (H:Hp) (vs:List V) (Q:VK) (E:XK),Room k (A.deeper (envOfC qual scope s.heap.objs.size f cdv))→sp vs H Q E →
   ∃ t,PSs (cxOf CX P w K mg base N qual scope f cdv A outer s H E) body t∧t { nx:=fun _ H'=>Q .non H',rt:=Q } (Zcy N vs) H) :
 FnOk P w K mg base CX (k+1) f (PySem.W.fnOf name qual params body scope dV kV doc pm an cdv ct) ps sp:=by
 refine ⟨len,fun A outer s H args us vs Q E hr e0 hb r hsp=>?_⟩;have hl:=len _ _ _ _ hsp;have KX:K.In s.heap:=e0.mod.kin.keeps fun b o e=>(e0.bs b o e).1;have lim:s.heap.NoLimit:=e0.mod.nolimit.keeps fun b o e=>(e0.bs b o e).1
 have hkind:∀ y∈ps.zip us,scope.names.lookup y.1=some .local∨(scope.names.lookup y.1=some .cell∧((cellsFrom (s.heap.objs.size+1) scope.names []).lookup y.1).isSome=true):=fun ⟨n,v⟩ hy=>by
  rcases S.par n (List.of_mem_zip hy).1 with q | q
  · exact .inl q
  · exact .inr ⟨q,PySem.W.cellsFrom_some _ _ _ (.inl q)⟩
 refine codeAny_call_function hr.depth (KX _ _ lk) rfl S.co S.gen rfl (PySem.W.codeRec_of KX hcd) (hb _ _ _ _ ?_);refine wpAny_newFunctionEnv_cells S.kind hkind fun env he s1 x=>?_;subst he;refine ⟨lim.keeps x.toInCall.keep,codeAny_func ?_⟩;obtain ⟨t,ht,hq⟩:=hbody A outer s H vs Q E (hr.deeper _) hsp;have I:Inv (cxOf CX P w K mg base N qual scope f cdv A outer s H E) [] (Zcy N vs) H s1:=Zme S hr.hd e0 hl r x;refine wpAny_mono (ht [] s1 (Zcy N vs) H _ I hq) (fun fl s' hs=>?_) fun e s' hs=>hs
 have fin:∀ {σ':St} {H':Hp} {v:V} {u:Value},Inv (cxOf CX P w K mg base N qual scope f cdv A outer s H E) [] σ' H' s'→RelV v u→Q v H'→CE outer P w H s Q u s' :=
  fun {σ' H' v u} J rv q=>⟨v,H',J.os,J.bare,J.base,J.hok,rv,q⟩
 cases fl with
 | ret u =>
   obtain ⟨v,σ',H',J,rv,q⟩:=hs;exact fin J rv q
 | next =>
   obtain ⟨σ',H',J,q⟩:=hs;exact fin (v:=V.non) (u:=Value.none) J rfl q
 | brk =>
   obtain ⟨_,_,_,q⟩:=hs;exact False.elim q
 | cont =>
   obtain ⟨_,_,_,q⟩:=hs;exact False.elim q
end L2
namespace L2
open PySem PySem.Spec PyProof.Rows
section
variable {X:Cx} {x:Str} {p pos:Pos} {e:Expr} {es:List Expr} {t:TA} {id T:String} {r:List V→Hp→VK→Prop}
def tCB (r:List V→Hp→VK→Prop) (t:TA):TE:=fun σ H Q=>t σ H fun vs H1=>r vs H1 Q
theorem Zj (hc:Zbe X (.builtin id) r) (hg:Gl X x) (hm:X.mg x=none) (hv:bootBuiltins x=some (.builtin id)) (ha:PA X (e :: es) t) (hn:x ≠ "__name__" := by decide) (hdb:(x == ("__debug__" : Str))=false:=by decide)
 (he:starEach (e :: es) X.env=(false,eval e X.env) :: starEach es X.env:=by rfl) (hpl:(backTo pos (starEach es X.env)).any (·.1)=false:=by rfl):PE X (.Call (.Name x p) (e :: es) [] pos) (tCB r t):=by
 intro pins s σ H Q I h;refine wpAny_Call_Name_kw (Zbg I hg hm hv ?_ hn hdb);exact PyProof.Rows.callWith_builtin1 (thn (ha pos pins s σ H _ I h) fun us s1 ⟨vs,H1,I1,r1,q1⟩=>hc pins s1 σ H1 vs us Q I1 r1 q1) he hpl
theorem Yn (hc:Zbe X (.type T) r) (hg:Gl X x) (hm:X.mg x=none) (hv:bootBuiltins x=some (.type T)) (ha:PA X (e :: es) t) (hn:x ≠ "__name__" := by decide) (hdb:(x == ("__debug__" : Str))=false:=by decide)
 (he:starEach (e :: es) X.env=(false,eval e X.env) :: starEach es X.env:=by rfl) (hpl:(backTo pos (starEach es X.env)).any (·.1)=false:=by rfl):PE X (.Call (.Name x p) (e :: es) [] pos) (tCB r t):=by
 intro pins s σ H Q I h;refine wpAny_Call_Name_kw (Zbg I hg hm hv ?_ hn hdb);exact n66_ (thn (ha pos pins s σ H _ I h) fun us s1 ⟨vs,H1,I1,r1,q1⟩=>hc pins s1 σ H1 vs us Q I1 r1 q1) he hpl
end
end L2
namespace HT
open PySem PyProof.Rows
section
open PySem.SeqAt
open PySem.AutoSeq1 (wpAny_loadPart')
open PySem.MeetsSeq PySem.MeetsSeq2 PySem.MeetsSeq3
end
section
variable {prog:Program} {w:World} {A:Around} {E:Value→Shared→Prop} {s:Shared}
theorem cat_tup {t b:Addr} {vs ws:List Value} {Q:Value→Shared→Prop} (ht:IsTup s.heap t vs.toArray) (hb:IsTup s.heap b ws.toArray) (hv:vs≠[])
 (h1:ws=[]→Q (.ref t) s) (h2:ws≠[]→Q (.ref s.heap.objs.size) { s with heap:=s.heap.push { cls:=.type "tuple",data:=.seq (vs++ws).toArray } })
 (hsz:vs.length+ws.length≤sizeLine):wpAny (model prog w) A (binaryOp .Add (.ref t) (.ref b)) Q E s:=by
 obtain ⟨⟨cls,dd,data,sl⟩,ho,hc,n,hd⟩:=id ht;obtain ⟨⟨cls2,dd2,data2,sl2⟩,ho2,hc2,n2,hd2⟩:=id hb;simp only at hc hd hc2 hd2;subst hc hd hc2 hd2;have e:vs.toArray++ws.toArray=(vs++ws).toArray:=by simp
 by_cases hw:ws=[]
 · exact concat_meets ⟨_,ho,rfl⟩ ⟨_,ho2,rfl⟩ noFill_tuple_add seq_tuple_add PySem.F.slot_tuple_add PySem.F.entry_tuple_add (PySem.F.args_tuple_add_2 _ _)
    (tuple_addW1 t b vs.toArray ws.toArray n n2 dd dd2 sl sl2 (by simpa using hv) (by simp [hw])) ⟨ho,ho2,h1 hw⟩
 · refine concat_meets ⟨_,ho,rfl⟩ ⟨_,ho2,rfl⟩ noFill_tuple_add seq_tuple_add PySem.F.slot_tuple_add PySem.F.entry_tuple_add (PySem.F.args_tuple_add_2 _ _)
    (tuple_addW2 t b vs.toArray ws.toArray n n2 dd dd2 sl sl2 (by simpa using hv) (by simpa using hw) (by rw [n12_,n12_]; exact hsz)) ⟨ho,ho2,?_⟩
   rw [e];exact h2 hw
def sIx (n d:Nat):Option Int→Nat
 | none=>d
 | some v=>if v < 0 then (v+(n:Int)).toNat else min v.toNat n
theorem sIx_none (n d:Nat):sIx n d none=d:=rfl
theorem sIx_nat (n d k:Nat):sIx n d (some (k:Int))=min k n:=by
 show (if (k:Int) < 0 then ((k:Int)+(n:Int)).toNat else min (k:Int).toNat n)=min k n
 rw [if_neg (by omega),n65_]
theorem Zqd (n d:Nat) (hd:d≤n) (o:Option Int):sIx n d o≤n:=by
 cases o with
 | none=>exact hd
 | some v =>
   show (if v < 0 then (v+(n:Int)).toNat else min v.toNat n)≤n
   by_cases hv:v < 0
   · rw [if_pos hv]; omega
   · rw [if_neg hv]; exact Nat.min_le_right _ _
theorem Zla (v:Int) (n d:Nat):(if v < 0 then max (v+(n:Int)) 0 else min v (n:Int))=((sIx n d (some v):Nat):Int):=by
 show (if v < 0 then max (v+(n:Int)) 0 else min v (n:Int))=(((if v < 0 then (v+(n:Int)).toNat else min v.toNat n):Nat):Int)
 by_cases hv:v < 0
 · simp only [if_pos hv]; omega
 · simp only [if_neg hv]; omega
theorem Zj8 (lo hi:Option Int) (n:Nat):Builtin.Slice.sliceAdjust lo hi 1 (n:Int)=(((sIx n 0 lo:Nat):Int),((sIx n n hi:Nat):Int)):=by
 have h1:¬ ((1:Int) < 0):=by omega
 unfold Builtin.Slice.sliceAdjust;simp only [h1,if_false];refine Prod.ext ?_ ?_
 · cases lo with
   | none=>rfl
   | some v=>exact Zla v n 0
 · cases hi with
   | none=>rfl
   | some v=>exact Zla v n n
theorem Zj0 (i j:Nat):Builtin.Slice.slicePlaces (i:Int) (j:Int) 1=j - i:=by
 unfold Builtin.Slice.slicePlaces;have h1:(1:Int) > 0:=by omega
 simp only [h1,if_true,Int.ediv_one];split <;> omega
theorem Zec {v:Value} {o:Option Int} {Q:Option Int→Shared→Prop} (p:IsPart v o) (h:Q o s):wpAny (model prog w) A (Builtin.Slice.slicePartIndex v) Q E s:=by
 cases p with
 | none=>exact slicePart_none h
 | int i t=>exact slicePart_int h
theorem Zas {sl:Addr} {vl vu:Value} {lo hi:Option Int} {n:Nat} {Q:Int×Int×Nat→Shared→Prop} (hs:s.heap.IsSliceOf sl vl vu .none) (pl:IsPart vl lo) (pu:IsPart vu hi)
 (h:Q (((sIx n 0 lo:Nat):Int),1,sIx n n hi - sIx n 0 lo) s):wpAny (model prog w) A (Builtin.Slice.sliceApplied (.ref sl) (pure (n:Int))) Q E s:=by
 obtain ⟨os,hos,hcs,hds⟩:=id hs;unfold Builtin.Slice.sliceApplied Builtin.Slice.sliceFields;refine n3_ (n3_ (wpAny_field hos hds (x:=vl) rfl (n3_ (wpAny_field hos hds (x:=vu) rfl (n3_ (wpAny_field hos hds (x:=.none) rfl (n20_ ?_)))))));refine n3_ (slicePart_none ?_);show wpAny _ _ (if ((1:Int) == 0)=true then _ else _) _ _ s
 rw [if_neg (by decide)];refine n3_ (Zec pl (n3_ (Zec pu (n3_ (n20_ ?_)))));show wpAny _ _ (match Builtin.Slice.sliceAdjust lo hi 1 (n:Int) with | (lo,hi)=>pure (lo,(1:Int),Builtin.Slice.slicePlaces lo hi 1)) _ _ s
 rw [Zj8 lo hi n];show wpAny _ _ (pure (((sIx n 0 lo:Nat):Int),(1:Int),Builtin.Slice.slicePlaces ((sIx n 0 lo:Nat):Int) ((sIx n n hi:Nat):Int) 1)) _ _ s
 rw [Zj0];exact n20_ h
theorem Znh (xs:Array Value) (i k:Nat):((List.range k).filterMap fun (m:Nat)=>xs[((i:Int)+(m:Int) * 1).toNat]?).toArray=((xs.toList.drop i).take k).toArray:=by
 have e:(fun (m:Nat)=>xs[((i:Int)+(m:Int) * 1).toNat]?)=fun m=>xs[i+m]?:=by
  funext m
  have:((i:Int)+(m:Int) * 1).toNat=i+m:=by omega
  rw [this]
 rw [e]
 have:=pick_run xs i k
 rw [List.filterMap_map] at this;have e2:((fun x=>xs[x]?) ∘ fun x=>i+x)=fun m=>xs[i+m]?:=rfl;rw [e2] at this;rw [this]
theorem getItem_tuple_cut {t sl:Addr} {items:Array Value} {vl vu:Value} {lo hi:Option Int} {Q:Value→Shared→Prop} (ht:IsTup s.heap t items) (hs:s.heap.IsSliceOf sl vl vu .none) (pl:IsPart vl lo) (pu:IsPart vu hi)
 (hw:¬ (sIx items.size 0 lo=0∧sIx items.size items.size hi=items.size))
 (h:Q (.ref s.heap.objs.size) { s with heap:=s.heap.push { cls:=.type "tuple",data:=.seq ((items.toList.drop (sIx items.size 0 lo)).take (sIx items.size items.size hi - sIx items.size 0 lo)).toArray } })
 (hsz:items.size≤sizeLine):wpAny (model prog w) A (getItem (.ref t) (.ref sl)) Q E s:=by
 have htake:sizeOk (.seq ((items.toList.drop (sIx items.size 0 lo)).take (sIx items.size items.size hi - sIx items.size 0 lo)).toArray):=by
  show ((items.toList.drop (sIx items.size 0 lo)).take (sIx items.size items.size hi - sIx items.size 0 lo)).toArray.size≤sizeLine
  rw [n12_,n79_,n72_,Array.length_toList];omega
 have hj:sIx items.size items.size hi≤items.size:=Zqd _ _ (n9_ _) hi;obtain ⟨os,hos,hcs,hds⟩:=id hs;have hTs:s.TypeIs (.ref sl) "slice" := ⟨os,hos,hcs⟩;unfold getItem
 try with_reducible refine n86_ ?_
 first | refine n3_ (n20_ ?_) | skip
 refine n3_ (wpAny_sequenceKey ht.typeIs (by decide) ?_)
 refine n3_ (wpAny_callSpecial?_slot (name:=Str.ofString "__getitem__") ht.typeIs PyProof.Rows.slot_tuple_getitem
  (wpAny_call_entry PyProof.Rows.slot_tuple_getitem ht.typeIs entry_tuple_getitem ?_ (args_tuple_getitem _ _)))
 show wpAny _ _ (Builtin.Tuple.tupleItemsOf (.ref t) >>= _) _ _ s
 refine n3_ (tupleItemsOf_ ht ?_);refine n3_ (wpAny_typeOf hTs ?_);rw [if_pos (by decide)];refine n3_ (Zas hs pl pu ?_)
 have hno:¬ ((((sIx items.size 0 lo:Nat):Int) == 0 && (1:Int) == 1 && (sIx items.size items.size hi - sIx items.size 0 lo) == items.size)=true):=by
  intro q;rw [n40_,n40_] at q;have q1:((sIx items.size 0 lo:Nat):Int)=0:=eq_of_beq q.1.1;have q2:sIx items.size items.size hi - sIx items.size 0 lo=items.size:=eq_of_beq q.2;exact hw ⟨by omega,by omega⟩
 show wpAny _ _ (if (((sIx items.size 0 lo:Nat):Int) == 0 && (1:Int) == 1 && (sIx items.size items.size hi - sIx items.size 0 lo) == items.size)=true then _ else _) _ _ s
 rw [if_neg hno,Znh]
 first
  | exact n3_ (m:=Builtin.Tuple.tupleExact _) (wpAny_newObj_type (n20_ ⟨_,rfl,n20_ h⟩) htake)
  | exact n3_ (m:=Builtin.Tuple.tupleExact _) (wpAny_newObj_type (n3_ (n20_ (n20_ ⟨_,rfl,n20_ h⟩))) htake)
  | exact n3_ (n3_ (m:=Builtin.Tuple.tupleExact _) (wpAny_newObj_type (n20_ (n20_ ⟨_,rfl,n20_ h⟩)) htake))
  | exact n3_ (n3_ (m:=Builtin.Tuple.tupleExact _) (wpAny_newObj_type (n20_ ⟨_,rfl,n20_ h⟩) htake))
end
end HT
namespace L2
open PySem PySem.Spec PyProof.Rows
abbrev TO:=St→Hp→(Option Int→Hp→Prop)→Prop
def PO (X:Cx) (e:Option Expr) (t:TO):Prop :=
 ∀ (pins:List (Addr×Obj)) (s:Shared) (σ:St) (H:Hp) (Q:Option Int→Hp→Prop),Inv X pins σ H s→t σ H Q →
   wpAny (model X.prog X.w) X.A (evalPart e X.env) (fun u s'=>∃ o H',Inv X pins σ H' s'∧IsPart u o∧Q o H') X.xe s
def Zph:TO:=fun _ H Q=>Q none H
def Zq8 (t:TE):TO:=fun σ H Q=>t σ H fun x H1=>∃ i,x=.int i∧Q (some i) H1
section
variable {X:Cx} {e:Expr} {te:TE} {lo hi:Option Expr} {tl th:TO} {pos p2:Pos}
theorem Zax:PO X none Zph:=by
 intro pins s σ H Q I h;rw [evalPart_none];exact n20_ ⟨none,H,I,.none,h⟩
theorem Za4 (h:PE X e te):PO X (some e) (Zq8 te):=by
 intro pins s σ H Q I hw;rw [evalPart_some];refine thn (h pins s σ H _ I hw) fun u s1 ⟨x,H1,I1,r1,q1⟩=>?_;obtain ⟨i,rfl,q⟩:=q1;obtain ⟨t,rfl⟩:=r1;exact ⟨some i,H1,I1,.int i t,q⟩
def SlR (X:Cx) (r:V→Option Int→Option Int→Hp→VK→Prop):Prop :=
 ∀ (pins:List (Addr×Obj)) (s:Shared) (σ:St) (H:Hp) (x:V) (v vl vu:Value) (lo hi:Option Int) (sl:Addr) (Q:VK),Inv X pins σ H s→RelV x v→s.heap.IsSliceOf sl vl vu .none→IsPart vl lo→IsPart vu hi→r x lo hi H Q →
   ∃ T id,typeLookup (.type T) "__getitem__" = pure (some (.builtin id))∧s.TypeIs v T∧wpAny (model X.prog X.w) X.A (getItem v (.ref sl)) (EP X pins σ Q) X.xe s
def tSl (r:V→Option Int→Option Int→Hp→VK→Prop) (te:TE) (tl th:TO):TE:=fun σ H Q=>te σ H fun x H1=>tl σ H1 fun l H2=>th σ H2 fun u H3=>r x l u H3 Q
theorem X2 {r:V→Option Int→Option Int→Hp→VK→Prop} (hr:SlR X r) (he:PE X e te) (hl:PO X lo tl) (hu:PO X hi th):PE X (.Subscript e (.Slice lo hi none p2) pos) (tSl r te tl th):=by
 intro pins s σ H Q I h;refine Subscript_ (thn (he pins s σ H _ I h) fun v s1 ⟨x,H1,I1,r1,q1⟩=>?_);refine wpAny_Slice (thn (hl pins s1 σ H1 _ I1 q1) fun vl s2 ⟨l,H2,I2,pl,q2⟩=>thn (hu pins s2 σ H2 _ I2 q2) fun vu s3 ⟨u,H3,I3,pu,q3⟩=>?_);rw [evalPart_none];refine n20_ ?_;have I4:Inv X pins σ H3 { s3 with heap:=s3.heap.push { cls:=.type "slice",data:=.fields #[vl,vu,.none] } }:=I3.kept (t':=s3.toks) fun b ob q=>n4_ _ q;obtain ⟨T,id,hT,ht,hg⟩:=hr pins { s3 with heap:=s3.heap.push { cls:=.type "slice",data:=.fields #[vl,vu,.none] } } σ H3 x v vl vu l u s3.heap.objs.size Q I4 r1 (Heap.IsSliceOf.new ..) pl pu q3;show wpAny (model X.prog X.w) X.A (subscriptTail e (.Slice lo hi none p2) v (.ref s3.heap.objs.size)) (EP X pins σ Q) X.xe { s3 with heap:=s3.heap.push { cls:=.type "slice",data:=.fields #[vl,vu,.none] } }
 exact tail_any (ops:=[.ref s3.heap.objs.size,v]) ht hT hg (by with_unfolding_all rfl)
def cutV (xs:List V) (lo hi:Option Int):List V:=(xs.drop (HT.sIx xs.length 0 lo)).take (HT.sIx xs.length xs.length hi - HT.sIx xs.length 0 lo)
theorem Yv (xs:List V) (lo hi:Option Int):(cutV xs lo hi).length≤xs.length:=by
 unfold cutV;rw [n79_,n72_];omega
def rSlT (K:PySem.W.Frag):V→Option Int→Option Int→Hp→VK→Prop:=fun x lo hi H Q=>∃ a xs,x=.ref a∧SqT K H a xs ∧
 ¬ (HT.sIx xs.length 0 lo=0∧HT.sIx xs.length xs.length hi=xs.length)∧∀ p,H p=none→Q (.ref p) (upd H p (.tup (cutV xs lo hi)))
theorem Zqw:SlR X (rSlT X.K):=by
 intro pins s σ H x v vl vu lo hi sl Q I rx hs pl pu h;obtain ⟨a,xs,rfl,hx,hw,q⟩:=h;cases rx
 obtain ⟨its,r,ht,hz⟩:=I.tuple hx;have hlen:its.toArray.size=xs.length:=by rw [n12_]; exact r.length.symm
 refine ⟨"tuple",_,PyProof.Rows.slot_tuple_getitem.lookup,ht.typeIs,?_⟩;refine HT.getItem_tuple_cut ht hs pl pu (by rw [hlen]; exact hw) ?_ (by rw [hlen]; exact hz);rw [hlen];refine ⟨.ref s.heap.objs.size,_,I.laid (t':=s.toks) (o:=.tup (cutV xs lo hi)) (fun b ob q=>n4_ _ q) (n9_ _) ?_,rfl,q _ (I.hok.fresh (n9_ _))⟩;exact ⟨n19_ (Yv xs lo hi) hz,_,(r.drop (HT.sIx xs.length 0 lo)).take (HT.sIx xs.length xs.length hi - HT.sIx xs.length 0 lo),IsTup.new _ _⟩
def Zq7 (K:PySem.W.Frag):R2:=fun x y H Q=>∃ a b xs ys,x=.ref a∧y=.ref b∧SqT K H a xs∧SqT K H b ys∧xs≠[]∧xs.length+ys.length≤sizeLine ∧
 (ys=[]→Q (.ref a) H)∧(ys≠[]→∀ p,H p=none→Q (.ref p) (upd H p (.tup (xs++ys))))
theorem Vals.nil_iff {xs:List V} {us:List Value} (r:Vals xs us):us=[]↔xs=[]:=by
 cases r with
 | nil=>simp
 | cons _ _=>simp
theorem Zou:OpR X (binaryOp .Add) (Zq7 X.K):=by
 intro pins s σ H x y v u Q I rx ry h;obtain ⟨a,b,xs,ys,rfl,rfl,ha,hb,hx,hz,q1,q2⟩:=h;cases rx
 cases ry
 obtain ⟨its,r1,p1,_⟩:=I.tuple ha;obtain ⟨its2,r2,p2,_⟩:=I.tuple hb;refine HT.cat_tup p1 p2 (fun z=>hx (r1.nil_iff.mp z)) (fun z=>⟨.ref a,H,I,rfl,q1 (r2.nil_iff.mp z)⟩) (fun z=>?_) (by rw [← r1.length,← r2.length]; exact hz);refine ⟨.ref s.heap.objs.size,_,I.laid (t':=s.toks) (o:=.tup (xs++ys)) (fun b ob q=>n4_ _ q) (n9_ _) ?_,rfl,q2 (fun w=>z (r2.nil_iff.mpr w)) _ (I.hok.fresh (n9_ _))⟩;exact ⟨by rw [n26_]; exact hz,_,r1.append r2,IsTup.new _ _⟩
end
end L2
namespace L2
open PySem PySem.Spec PyProof.Rows
def ixN (n:Nat) (i:Int):Option Nat:=if 0≤i then (if i < n then some i.toNat else none) else if -(n:Int)≤i then some (i+n).toNat else none
def atI {α:Type} (xs:List α) (i:Int):Option α:=(ixN xs.length i).bind fun j=>xs[j]?
theorem Zmk {n:Nat} {i:Int} {j:Nat} (h:ixN n i=some j):seqIndex? i n=some j∧j < n∧-(n:Int)≤i∧i < n:=by
 unfold ixN at h
 by_cases h0:0≤i
 · rw [if_pos h0] at h
   by_cases h1:i < n
   · rw [if_pos h1] at h;have e:i.toNat=j:=Option.some.inj h;exact ⟨by rw [seqIndex_of h0 h1,e],by omega,by omega,h1⟩
   · rw [if_neg h1] at h; cases h
 · rw [if_neg h0] at h
   by_cases h1:-(n:Int)≤i
   · rw [if_pos h1] at h;have e:(i+n).toNat=j:=Option.some.inj h;exact ⟨by rw [seqIndex_neg (by omega) h1,e],by omega,h1,by omega⟩
   · rw [if_neg h1] at h; cases h
theorem Zkr {α:Type} {xs:List α} {i:Int} {v:α} (h:atI xs i=some v):∃ j,seqIndex? i xs.length=some j∧xs[j]? = some v∧j < xs.length∧-(xs.length:Int)≤i∧i < xs.length:=by
 unfold atI at h;cases e:ixN xs.length i with
 | none=>rw [e] at h; cases h
 | some j =>
   rw [e] at h;obtain ⟨h1,h2,h3,h4⟩:=Zmk e;exact ⟨j,h1,h,h2,h3,h4⟩
theorem Yu {α:Type} {xs:List α} {j:Nat} {v:α} (h:xs[j]? = some v):atI xs (j:Int)=some v:=by
 have hj:j < xs.length:=(n34_.mp h).1
 have e:ixN xs.length (j:Int)=some j:=by
  unfold ixN;rw [if_pos (by omega),if_pos (by omega)]; simp
 unfold atI; rw [e]; exact h
def Zpj (b:Expr):Prop:=∀ o i,subscripted b false o i=operate [o,i] (getItem o i)
def IxR (X:Cx) (r:R2):Prop :=
 ∀ (value slice:Expr) (pins:List (Addr×Obj)) (s:Shared) (σ:St) (H:Hp) (x y:V) (v u:Value) (Q:VK),Inv X pins σ H s→RelV x v→RelV y u→r x y H Q →
   subscripted slice false v u=operate [v,u] (getItem v u)→wpAny (model X.prog X.w) X.A (subscriptTail value slice v u) (EP X pins σ Q) X.xe s
def MtR (X:Cx) (id:String) (r:V→List V→Hp→VK→Prop):Prop :=
 ∀ (pins:List (Addr×Obj)) (s:Shared) (σ:St) (H:Hp) (x:V) (xs:List V) (v:Value) (us:List Value) (Q:VK),Inv X pins σ H s→RelV x v→Vals xs us→r x xs H Q →
   wpAny (model X.prog X.w) X.A (call (.builtin id) (v :: us)) (EP X pins σ Q) X.xe s
section
variable {X:Cx} {a b:Expr} {ta tb:TE} {pos:Pos}
theorem Zz {r:R2} (hr:IxR X r) (ha:PE X a ta) (hb:PE X b tb) (hs:Zpj b):PE X (.Subscript a b pos) (tOp r ta tb):=by
 intro pins s σ H Q I h;exact Subscript_ (binT ha hb I h fun v u s2 x y H2 I2 rx ry q=>hr a b pins s2 σ H2 x y v u Q I2 rx ry q (hs _ _))
def rIxL (K:PySem.W.Frag):R2:=fun x y H Q=>∃ p xs i v,x=.ref p∧y=.int i∧SqL K H p xs∧atI xs i=some v∧Q v H
def rIxT (K:PySem.W.Frag):R2:=fun x y H Q=>∃ p xs i v,x=.ref p∧y=.int i∧SqT K H p xs∧atI xs i=some v∧Q v H
theorem Yc:IxR X (rIxL X.K):=by
 intro value slice pins s σ H x y v u Q I rx ry h hs;obtain ⟨p,xs,i,z,rfl,rfl,hq,he,q⟩:=h;cases rx
 obtain ⟨t,rfl⟩:=ry;obtain ⟨its,r,pl,hz⟩:=I.list hq;obtain ⟨j,h1,h2,h3,h4,h5⟩:=Zkr he;obtain ⟨w,ew,rw'⟩:=r.get h2;have hl:=r.length;have hn:=Zgb;have fin:EP X pins σ Q w s:=⟨z,H,I,rw',q⟩
 by_cases h0:0≤i
 · have hj:i.toNat=j:=by
    rw [seqIndex_of h0 h5] at h1;exact Option.some.inj h1
   exact item_listR pl.isList h0 (by omega) (by rw [hj]; simpa using ew) fin hs
 · have hj:(i+(its.toArray.size:Int)).toNat=j:=by
    rw [seqIndex_neg (by omega) h4] at h1;rw [n12_,← hl];exact Option.some.inj h1
   exact subscriptTail_builtinR (x:=w) pl.isList.typeIs slot_list_getitem.lookup
    (wpAny_getItem_list_neg (Q:=fun r s'=>r=w∧EP X pins σ Q r s') pl.isList (by omega) (by rw [n12_] <;> omega) (by omega) (by rw [hj]; simpa using ew) ⟨rfl,fin⟩) hs
theorem Ym:IxR X (rIxT X.K):=by
 intro value slice pins s σ H x y v u Q I rx ry h hs;obtain ⟨p,xs,i,z,rfl,rfl,hq,he,q⟩:=h;cases rx
 obtain ⟨t,rfl⟩:=ry;obtain ⟨its,r,pl,hz⟩:=I.tuple hq;obtain ⟨j,h1,h2,h3,h4,h5⟩:=Zkr he;obtain ⟨w,ew,rw'⟩:=r.get h2;have hl:=r.length;have hn:=Zgb;have fin:EP X pins σ Q w s:=⟨z,H,I,rw',q⟩
 exact subscriptTail_builtinR (x:=w) pl.typeIs slot_tuple_getitem.lookup
  (getItem_tuple (j:=j) (Q:=fun r s'=>r=w∧EP X pins σ Q r s') pl (by omega) (by omega) (by rw [n12_,← hl]; exact h1) (by simpa using ew) ⟨rfl,fin⟩) hs
theorem Zj4 (its:List Value) (n j:Nat) (u:Value):Obj.mapSeq (·.setIfInBounds j u) { cls:=.type "list",data:=.seq its.toArray n }={ cls:=.type "list",data:=.seq (its.set j u).toArray n }:=by
 simp [Obj.mapSeq]
theorem Inv.lst {pins:List (Addr×Obj)} {σ:St} {H:Hp} {s:Shared} {p:Addr} {xs:List V} (I:Inv X pins σ H s) (h:H p=some (.lst xs)) :
 ∃ (its:List Value) (n:Nat),Vals xs its∧s.heap.get? p=some { cls:=.type "list",data:=.seq its.toArray n }∧xs.length≤sizeLine:=by
 obtain ⟨z,its,n,r,e⟩:=I.hok p _ h;exact ⟨its,n,r,e,z⟩
theorem Inv.lstUpd {pins:List (Addr×Obj)} {σ:St} {H:Hp} {s:Shared} {p:Addr} {xs ys:List V} {its its':List Value} {n n':Nat} {f:Obj→Obj} (I:Inv X pins σ H s) (h:H p=some (.lst xs))
 (ho:s.heap.get? p=some { cls:=.type "list",data:=.seq its.toArray n }) (hf:f { cls:=.type "list",data:=.seq its.toArray n }={ cls:=.type "list",data:=.seq its'.toArray n' }) (r:Vals ys its') (hz:ys.length≤sizeLine) (t:Nat) :
 Inv X pins σ (upd H p (.lst ys)) { s with heap:=s.heap.update p f,toks:=t }:=by
 have e:(s.heap.update p f).get? p=some { cls:=.type "list",data:=.seq its'.toArray n' }:=by
  rw [Heap.get?_update_self f ho (by rw [hf] <;> rfl),hf]
 refine I.write (x:=p) (e:=p) (by rw [h]; trivial) (.inl rfl) (fun b u hb q=>(n81_ _ _ (Ne.symm hb)).trans q) ⟨_,e⟩ ?_;exact ⟨hz,its',n',r,e⟩
def Zre:V→V→V→Hp→(Hp→Prop)→Prop:=fun o i v H Q=>∃ p xs k j,o=.ref p∧i=.int k∧H p=some (.lst xs)∧ixN xs.length k=some j∧Q (upd H p (.lst (xs.set j v)))
theorem Zbv:PSet X Zre:=by
 intro pins s σ H o i v ov iv u Q I ro ri rv h;obtain ⟨p,xs,k,j,rfl,rfl,hp,hj,q⟩:=h;cases ro
 obtain ⟨t,rfl⟩:=ri;obtain ⟨its,n,r,ho,hz⟩:=I.lst hp;obtain ⟨h1,h2,h3,h4⟩:=Zmk hj;have hl:=r.length;have hn:=Zgb
 have I':Inv X pins σ (upd H p (.lst (xs.set j v))) { s with heap:=s.heap.update p (Obj.mapSeq (·.setIfInBounds j u)) } :=
  I.lstUpd hp ho (Zj4 its n j u) (r.set rv j) (by rw [n68_]; exact hz) s.toks
 by_cases h0:0≤k
 · have hk:k.toNat=j:=by
    rw [seqIndex_of h0 h4] at h1;exact Option.some.inj h1
   exact PySem.W.ki_setAt ho h0 (by omega) (by rw [n12_,← hl]; exact h4) (by rw [hk]; exact ⟨_,I',q⟩)
 · have hk:(k+(its.toArray.size:Int)).toNat=j:=by
    rw [seqIndex_neg (by omega) h3] at h1;rw [n12_,← hl];exact Option.some.inj h1
   exact PySem.W.ki_setBack ho (by omega) (by rw [n12_,← hl]; exact h3) (by omega) (by rw [hk]; exact ⟨_,I',q⟩)
theorem Zf7 (lo hi:Option Int) (n:Nat):(sliceBounds lo hi none n).1=((HT.sIx n 0 lo:Nat):Int)∧(sliceBounds lo hi none n).2.1=((HT.sIx n n hi:Nat):Int)∧(sliceBounds lo hi none n).2.2=1:=by
 refine ⟨?_,?_,rfl⟩
 · cases lo with
   | none=>simp [sliceBounds,HT.sIx]
   | some i =>
     simp only [sliceBounds,HT.sIx,Option.getD_none,show (1:Int) > 0 by decide,if_true]
     by_cases h:i < 0
     · simp only [h,if_true] <;> omega
     · simp only [h,if_false] <;> omega
 · cases hi with
   | none=>simp [sliceBounds,HT.sIx]
   | some i =>
     simp only [sliceBounds,HT.sIx,Option.getD_none,show (1:Int) > 0 by decide,if_true]
     by_cases h:i < 0
     · simp only [h,if_true] <;> omega
     · simp only [h,if_false] <;> omega
theorem Zfv (its:List Value) (lo hi:Option Int):slicePick its.toArray lo hi none=((its.drop (HT.sIx its.length 0 lo)).take (HT.sIx its.length its.length hi - HT.sIx its.length 0 lo)).toArray:=by
 obtain ⟨h1,h2,h3⟩:=Zf7 lo hi its.toArray.size;unfold slicePick;rw [h1,h2,h3];simp only [sliceRange_one,pick_run,n12_] <;> rfl
def rSlL (K:PySem.W.Frag):V→Option Int→Option Int→Hp→VK→Prop:=fun x lo hi H Q=>∃ a xs,x=.ref a∧SqL K H a xs∧∀ p,H p=none→Q (.ref p) (upd H p (.lst (cutV xs lo hi)))
theorem Zhl:SlR X (rSlL X.K):=by
 intro pins s σ H x v vl vu lo hi sl Q I rx hs pl pu h;obtain ⟨a,xs,rfl,hx,q⟩:=h;cases rx
 obtain ⟨its,r,ht,hz⟩:=I.list hx;have hlen:=r.length;refine ⟨"list",_,slot_list_getitem.lookup,ht.isList.typeIs,?_⟩;refine wpAny_getItem_list_slice ht.isList hs pl pu .none (by simp) ?_ (by rw [n12_] <;> omega);rw [Zfv,← hlen];refine ⟨.ref s.heap.objs.size,_,I.laid (t':=s.toks) (o:=.lst (cutV xs lo hi)) (fun b ob q=>n4_ _ q) (n9_ _) ?_,rfl,q _ (I.hok.fresh (n9_ _))⟩;exact ⟨n19_ (Yv xs lo hi) hz,_,0,(r.drop (HT.sIx xs.length 0 lo)).take (HT.sIx xs.length xs.length hi - HT.sIx xs.length 0 lo),n25_ _ rfl⟩
def Zfl:V→Bool
 | .non=>true
 | .bl _=>true
 | .int _=>true
 | .str _=>true
 | _=>false
def eqV:V→V→Bool
 | .non,.non=>true
 | .bl a,.bl b=>a == b
 | .bl a,.int b=>(if a then 1 else 0) == b
 | .int a,.bl b=>a == (if b then 1 else 0)
 | .int a,.int b=>a == b
 | .str a,.str b=>a == b
 | _,_=>false
theorem Zqe {A:Around} {s:Shared} {y x:V} {u v:Value} (ry:RelV y u) (rx:RelV x v) (fy:Zfl y=true) (fx:Zfl x=true):SeqAt.EqAt A s u v (eqV y x):=by
 cases y with
 | non =>
   cases ry
   cases x with
   | non=>cases rx; exact SeqAt.EqAt.same _
   | bl b=>cases rx; exact SeqAt.EqAt.none_bool b
   | int b=>obtain ⟨t,rfl⟩:=rx; exact SeqAt.EqAt.none_int b t
   | str b=>obtain ⟨t,rfl⟩:=rx; exact SeqAt.EqAt.none_str b t
   | _=>exact absurd (show false=true from fx) n30_
 | bl a =>
   cases ry
   cases x with
   | non=>cases rx; exact SeqAt.EqAt.bool_none a
   | bl b=>cases rx; exact SeqAt.EqAt.bool_bool a b
   | int b=>obtain ⟨t,rfl⟩:=rx; exact SeqAt.EqAt.bool_int a b t
   | str b=>obtain ⟨t,rfl⟩:=rx; exact SeqAt.EqAt.bool_str a b t
   | _=>exact absurd (show false=true from fx) n30_
 | int a =>
   obtain ⟨t',rfl⟩:=ry;cases x with
   | non=>cases rx; exact SeqAt.EqAt.int_none a t'
   | bl b=>cases rx; exact SeqAt.EqAt.int_bool a t' b
   | int b=>obtain ⟨t,rfl⟩:=rx; exact SeqAt.EqAt.int_int a t' b t
   | str b=>obtain ⟨t,rfl⟩:=rx; exact SeqAt.EqAt.int_str a t' b t
   | _=>exact absurd (show false=true from fx) n30_
 | str a =>
   obtain ⟨t',rfl⟩:=ry;cases x with
   | non=>cases rx; exact SeqAt.EqAt.str_none a t'
   | bl b=>cases rx; exact SeqAt.EqAt.str_bool a t' b
   | int b=>obtain ⟨t,rfl⟩:=rx; exact SeqAt.EqAt.str_int a t' b t
   | str b=>obtain ⟨t,rfl⟩:=rx; exact SeqAt.EqAt.str_str a t' b t
   | _=>exact absurd (show false=true from fx) n30_
 | _=>exact absurd (show false=true from fy) n30_
def eqU (x:V) (u:Value):Bool:=match u with
 | .none=>eqV .non x
 | .bool b=>eqV (.bl b) x
 | .int i _=>eqV (.int i) x
 | .str z _=>eqV (.str z) x
 | _=>false
theorem Znx {x y:V} {u:Value} (r:RelV y u) (f:Zfl y=true):eqU x u=eqV y x:=by
 cases y with
 | non=>cases r; rfl
 | bl b=>cases r; rfl
 | int i=>obtain ⟨t,rfl⟩:=r; rfl
 | str z=>obtain ⟨t,rfl⟩:=r; rfl
 | _=>exact absurd (show false=true from f) n30_
theorem Zh9 {x:V}:∀ {xs:List V} {us:List Value},Vals xs us→xs.all Zfl=true→us.any (eqU x)=xs.any fun y=>eqV y x
 | _,_,.nil,_=>rfl
 | y :: xs,u :: us,.cons r t,f=>by
   rw [List.all_cons,n40_] at f;rw [List.any_cons,List.any_cons,Znx r f.1,Zh9 t f.2]
theorem Zf2 {A:Around} {s:Shared} {x:V} {v:Value} (rx:RelV x v) (fx:Zfl x=true):∀ {xs:List V} {us:List Value},Vals xs us→xs.all Zfl=true→∀ u∈us,SeqAt.EqAt A s u v (eqU x u)
 | _,_,.nil,_=>fun u hu=>by cases hu
 | y :: xs,u :: us,.cons r t,f=>fun u' hu=>by
   rw [List.all_cons,n40_] at f
   rcases n31_.mp hu with rfl | hu
   · rw [Znx r f.1]; exact Zqe r rx f.1 fx
   · exact Zf2 rx fx t f.2 u' hu
def inV (x:V) (xs:List V):Bool:=xs.any fun y=>eqV y x
def rIn (K:PySem.W.Frag) (neg:Bool):R2:=fun x y H Q=>∃ p xs,y=.ref p∧(SqL K H p xs∨SqT K H p xs)∧Zfl x=true∧xs.all Zfl=true∧Q (.bl (if neg then !inV x xs else inV x xs)) H
theorem Zgf:OpR X (compareOp .NotIn) (rIn X.K true):=by
 intro pins s σ H x y v u Q I rx ry h;obtain ⟨p,xs,rfl,hq,fx,fs,q⟩:=h;cases ry
 rcases hq with hq | hq
 · obtain ⟨its,r,pl,hz⟩:=I.list hq;refine SeqAt.notIn_listAt (eqU x) pl.isList (fun w hw=>Zf2 rx fx r fs w (by simpa using hw)) ⟨.bl _,H,I,rfl,?_⟩;rw [show its.toArray.any (eqU x)=its.any (eqU x) by simp,Zh9 r fs];exact q
 · obtain ⟨its,r,pl,hz⟩:=I.tuple hq;refine SeqAt.notIn_tupleAt (eqU x) pl (fun w hw=>Zf2 rx fx r fs w (by simpa using hw)) ⟨.bl _,H,I,rfl,?_⟩;rw [show its.toArray.any (eqU x)=its.any (eqU x) by simp,Zh9 r fs];exact q
theorem Zp:Zbe X (.builtin "len") (fun xs H Q=>∃ p ys,xs=[.ref p]∧(SqL X.K H p ys∨SqT X.K H p ys)∧Q (.int ys.length) H):=by
 intro pins s σ H xs us Q I r h;obtain ⟨p,ys,rfl,hq,q⟩:=h;obtain ⟨u,rfl,rx⟩:=Zkd r;cases rx
 have hn:=Zgb
 rcases hq with hq | hq
 · obtain ⟨its,r',pl,hz⟩:=I.list hq;have hlen:=r'.length;exact Calls.call_len_list pl.isList (by simp only [n12_] <;> omega) ⟨.int ys.length,H,I.tok _,⟨s.toks+1,by rw [n12_,hlen]⟩,q⟩
 · obtain ⟨its,r',pl,hz⟩:=I.tuple hq;have hlen:=r'.length;exact len_tuple pl (by simp only [n12_] <;> omega) ⟨.int ys.length,H,I.tok _,⟨s.toks+1,by rw [n12_,hlen]⟩,q⟩
theorem Ye:Zbe X (.type "tuple") (fun xs H Q=>∃ p ys,xs=[.ref p]∧((SqL X.K H p ys∧∀ l,H l=none→Q (.ref l) (upd H l (.tup ys)))∨(SqT X.K H p ys∧Q (.ref p) H))):=by
 intro pins s σ H xs us Q I r h;obtain ⟨p,ys,rfl,h⟩:=h;obtain ⟨u,rfl,rx⟩:=Zkd r;cases rx
 rcases h with ⟨hq,q⟩ | ⟨hq,q⟩
 · obtain ⟨its,r',pl,hz⟩:=I.list hq;have hlen:=r'.length;refine call_tuple_list pl.isList (fun h' kp=>?_) (by simp only [n12_] <;> omega);have I1:Inv X pins σ H { s with heap:=h' }:=I.kept (t':=s.toks) kp
   have I2:Inv X pins σ (upd H h'.objs.size (.tup ys)) { s with heap:=h'.push { cls:=.type "tuple",data:=.seq its.toArray } } :=
    I1.laid (t':=s.toks) (fun b o e=>n4_ _ e) (n9_ _) (show ObjOk X.prog X.w _ _ _ (.tup ys) from ⟨hz,its,r',IsTup.new _ _⟩)
   exact ⟨.ref h'.objs.size,_,I2,rfl,q _ (I1.hok.fresh (n9_ _))⟩
 · obtain ⟨its,r',pl,hz⟩:=I.tuple hq;exact call_tuple_same pl ⟨.ref p,H,I,rfl,q⟩
def tyV (K:PySem.W.Frag) (T:String) (x:V) (H:Hp):Prop:=match x with
 | .str _=>T = "str"
 | .int _=>T = "int"
 | .ref p=>(T = "list" ∧ ∃ xs,SqL K H p xs)∨(T = "tuple" ∧ ∃ o,K.lookup p=some o∧o.cls=.type "tuple" ∧ o.dict=none) ∨
    (T = "dict" ∧ ((∃ kvs,H p=some (.dK kvs))∨∃ kvs,H p=some (.dT kvs)))∨(T = "set" ∧ ∃ S n,H p=some (.set S n))
 | _=>False
theorem Zof {pins:List (Addr×Obj)} {σ:St} {H:Hp} {s:Shared} {T:String} {x:V} {v:Value} (I:Inv X pins σ H s) (r:RelV x v) (ty:tyV X.K T x H) :
 s.TypeIs v T∧∀ a,v=.ref a→∃ ob,s.heap.get? a=some ob∧ob.dict=none:=by
 cases x with
 | str z =>
   obtain ⟨t,rfl⟩:=r;cases (show T = "str" from ty)
   exact ⟨typeIs_str s z t,fun _ e=>nomatch e⟩
 | int i =>
   obtain ⟨t,rfl⟩:=r;cases (show T = "int" from ty)
   exact ⟨typeIs_int s i t,fun _ e=>nomatch e⟩
 | ref p =>
   cases r
   rcases ty with ⟨rfl,xs,hq⟩ | ⟨rfl,o,hk,hc,hd⟩ | ⟨rfl,hk⟩ | ⟨rfl,S,n,hk⟩
   · obtain ⟨its,_,pl,_⟩:=I.list hq;refine ⟨pl.isList.typeIs,fun a e=>?_⟩;cases e
     obtain ⟨o,n,e,c,hd,_⟩:=pl;exact ⟨o,e,hd⟩
   · refine ⟨⟨o,I.kIn p o hk,hc⟩,fun a e=>?_⟩;cases e
     exact ⟨o,I.kIn _ o hk,hd⟩
   · have z:∃ o,s.heap.get? p=some o∧o.ExactDict:=by
      rcases hk with ⟨kvs,hk⟩ | ⟨kvs,hk⟩
      · obtain ⟨_,_,_,_,o,_,_,e,ex,_⟩:=I.hok p _ hk;exact ⟨o,e,ex⟩
      · obtain ⟨_,_,_,_,o,_,_,e,ex,_⟩:=I.hok p _ hk;exact ⟨o,e,ex⟩
     obtain ⟨o,e,ex⟩:=z;refine ⟨⟨o,e,ex.1⟩,fun a e2=>?_⟩;cases e2
     exact ⟨o,e,ex.2.1⟩
   · obtain ⟨o,_,_,_,e,ex,_⟩:=I.hok p _ hk;refine ⟨⟨o,e,ex.1⟩,fun a e2=>?_⟩;cases e2
     exact ⟨o,e,ex.2.1⟩
 | _=>exact False.elim ty
def tBM0 (K:PySem.W.Frag) (T:String) (r:V→List V→Hp→VK→Prop) (to:TE):TE:=fun σ H Q=>to σ H fun x H1=>tyV K T x H1∧r x [] H1 Q
def tBM (K:PySem.W.Frag) (T:String) (r:V→List V→Hp→VK→Prop) (to:TE) (t:TA):TE:=fun σ H Q=>to σ H fun x H1=>tyV K T x H1∧t σ H1 fun xs H2=>r x xs H2 Q
variable {o e:Expr} {es:List Expr} {to:TE} {t:TA} {name:Str} {apos cpos:Pos} {T id:String} {r:V→List V→Hp→VK→Prop}
theorem Znz (pa:PlainAttrs T) (slot:Slot T name id) (hty:typeOf (.builtin id)=pure (.type "method_descriptor")) (hm:MtR X id r) (ho:PE X o to)
 (hbase:attributeBase o name X.env (eval o X.env)=eval o X.env:=by rfl) (hline:(apos.endLine == cpos.line)=true:=by rfl):PE X (.Call (.Attribute o name apos) [] [] cpos) (tBM0 X.K T r to):=by
 intro pins s σ H Q I h;refine wpAny_Call_method0_late hbase hline (thn (ho pins s σ H _ I h) fun v s1 ⟨x,H1,I1,r1,ty,q1⟩=>?_);obtain ⟨h1,h2⟩:=Zof I1 r1 ty;exact ⟨T,id,pa,slot,hty,h1,h2,Calls.callWith_builtin rfl (PySem.evalArgs_none (hm pins s1 σ H1 x [] v [] Q I1 r1 .nil q1))⟩
theorem Zft (pa:PlainAttrs T) (slot:Slot T name id) (hty:typeOf (.builtin id)=pure (.type "method_descriptor")) (hm:MtR X id r) (ho:PE X o to) (ha:PA X (e :: es) t)
 (hbase:attributeBase o name X.env (eval o X.env)=eval o X.env:=by rfl)
 (hfew:((backTo cpos (starEach (e :: es) X.env)).all (fun x=>!x.1) && (backToKw cpos (keywordEach [] X.env)).all (fun x=>x.1.isSome)
   && decide ((e :: es).length+([]:List Keyword).length+(if ([]:List Keyword).isEmpty then 0 else 1) < 30))=true:=by rfl)
 (hline:(apos.endLine == cpos.line)=true:=by rfl) (hs:starEach (e :: es) X.env=(false,eval e X.env) :: starEach es X.env:=by rfl) (hplain:(backTo cpos (starEach es X.env)).any (·.1)=false:=by rfl) :
 PE X (.Call (.Attribute o name apos) (e :: es) [] cpos) (tBM X.K T r to t):=by
 intro pins s σ H Q I h;refine wpAny_Call_method_late hbase hfew hline rfl (thn (ho pins s σ H _ I h) fun v s1 ⟨x,H1,I1,r1,ty,q1⟩=>?_);obtain ⟨h1,h2⟩:=Zof I1 r1 ty;refine ⟨T,id,pa,slot,hty,h1,h2,?_⟩;have hA:=ha cpos pins s1 σ H1 _ I1 q1;rw [hs] at hA ⊢;refine Calls.callWith_builtin (by show (false || (backTo cpos (starEach es X.env)).any (·.1))=false; rw [hplain] <;> rfl) (Calls.evalArgs_plain ?_);exact thn hA fun us s2 ⟨vs,H2,I2,r2,q2⟩=>hm pins s2 σ H2 x vs v us Q I2 r1 r2 q2
/- xs.append(e),list.index on a module's tuple .. are MtR facts of 06m -/
end
end L2
namespace L2
open PySem PySem.Spec PyProof.Rows
def MtM (X:Cx) (id:String) (r:V→List V→Hp→VK→Prop):Prop :=
 ∀ (pins:List (Addr×Obj)) (s:Shared) (σ:St) (H:Hp) (x:V) (xs:List V) (v:Value) (us:List Value) (Q:VK),Inv X pins σ H s→RelV x v→Vals xs us→r x xs H Q →
   wpAny (model X.prog X.w) X.A (call (.builtin id) (v :: us)) (EP X pins σ Q) X.xe s
theorem Vals.one:∀ {x:V} {us:List Value},Vals [x] us→∃ u,us=[u]∧RelV x u
 | _,_,.cons r .nil=>⟨_,rfl,r⟩
theorem Vals.eraseIdx:∀ {xs:List V} {us:List Value} (i:Nat),Vals xs us→Vals (xs.eraseIdx i) (us.eraseIdx i)
 | _,_,_,.nil=>.nil
 | _,_,0,.cons _ t=>t
 | _,_,i+1,.cons r t=>.cons r (Vals.eraseIdx i t)
theorem Vals.rep {xs:List V} {us:List Value} (h:Vals xs us):∀ k:Nat,Vals (List.replicate k xs).flatten (List.replicate k us).flatten
 | 0=>.nil
 | k+1=>by
   rw [n52_,n52_,List.flatten_cons,List.flatten_cons];exact Vals.append h (Vals.rep h k)
theorem Zhd {α:Type}:∀ (l:List α) (i:Nat),(l.eraseIdx i).length≤l.length
 | [],_=>n9_ _
 | _ :: _,0=>Nat.le_succ _
 | _ :: r,i+1=>Nat.succ_le_succ (Zhd r i)
theorem Zgt (its:List Value):∀ (k:Nat) (acc:List Value),
 List.foldl (fun x1 x2=>x1++x2) acc.toArray (List.replicate k its.toArray)=(acc++(List.replicate k its).flatten).toArray
 | 0,acc=>by simp
 | k+1,acc=>by
   have e:acc.toArray++its.toArray=(acc++its).toArray:=by simp
   have e2:(acc++its)++(List.replicate k its).flatten=acc++(List.replicate (k+1) its).flatten:=by
    rw [n52_,List.flatten_cons,List.append_assoc]
   rw [← e2,← Zgt its k (acc++its),← e,n52_,List.foldl_cons]
section
variable {X:Cx} {pins:List (Addr×Obj)} {σ:St} {H:Hp} {s:Shared} {l b:Addr} {xs ys zs:List V}
theorem Inv.lset {its its':List Value} {n:Nat} {f:Array Value→Array Value} {t':Nat} (I:Inv X pins σ H s) (hH:H l=some (.lst xs))
 (e:s.heap.get? l=some { cls:=.type "list",data:=.seq its.toArray n }) (hf:f its.toArray=its'.toArray) (hv:Vals ys its') (hz:ys.length≤sizeLine) :
 Inv X pins σ (upd H l (.lst ys)) { s with heap:=s.heap.update l (Obj.mapSeq f),toks:=t' }:=by
 have q:=PySem.IsL.update e f;rw [hf] at q;refine I.write (x:=l) (e:=l) (by rw [hH]; exact trivial) (.inl rfl) (fun b' u hb hu=>(n81_ s.heap (Obj.mapSeq f) (Ne.symm hb)).trans hu) ⟨_,q⟩ ?_;exact ⟨hz,its',_,hv,q⟩
theorem Inv.lnew {its:List Value} {t':Nat} (I:Inv X pins σ H s) (hv:Vals ys its) (hz:ys.length≤sizeLine) :
 Inv X pins σ (upd H s.heap.objs.size (.lst ys)) { s with heap:=s.heap.push { cls:=.type "list",data:=.seq its.toArray },toks:=t' } :=
 I.laid (fun _ _ q=>n4_ _ q) (n9_ _) ⟨hz,its,0,hv,n25_ _ rfl⟩
theorem Inv.fresh (I:Inv X pins σ H s):H s.heap.objs.size=none:=I.hok.fresh (n9_ _)
theorem Inv.lstM (I:Inv X pins σ H s) (hH:H l=some (.lst xs)):xs.length≤sizeLine∧∃ (its:List Value) (n:Nat),Vals xs its∧xs.length=its.length∧s.heap.get? l=some { cls:=.type "list",data:=.seq its.toArray n }:=by
 obtain ⟨z,its,n,r,e⟩:=I.hok l _ hH;exact ⟨z,its,n,r,r.length,e⟩
theorem Zm5 {n:Nat} (h:n≤sizeLine):Builtin.List.listTooLong n=false:=by
 unfold Builtin.List.listTooLong;exact n17_ (by omega)
end
section
variable {X:Cx}
def Zoz:V→List V→Hp→VK→Prop:=fun x vs H Q=>∃ l xs y,x=.ref l∧vs=[y]∧H l=some (.lst xs)∧xs.length < sizeLine∧Q .non (upd H l (.lst (xs++[y])))
theorem Xd:MtM X "list.append" Zoz:=by
 intro pins s σ H x vs v us Q I rx rv h;obtain ⟨l,xs,y,rfl,rfl,hH,hz,q⟩:=h;cases rx
 obtain ⟨u,rfl,ru⟩:=rv.one;obtain ⟨z,its,n,r,hl,e⟩:=I.lstM hH;refine call_meets F.slot_list_append ⟨_,e,rfl⟩ F.entry_list_append (F.args_list_append_2 _ _) (PySem.list_append l its.toArray n u (by rw [n12_]; omega)) ⟨e,?_⟩;refine ⟨.non,_,I.lset (its':=its++[u]) hH e (by simp) (r.append (.cons ru .nil)) ?_,rfl,q⟩;rw [n26_,List.length_singleton];omega
def Zp4:V→List V→Hp→VK→Prop:=fun x vs H Q=>∃ l xs i k y,x=.ref l∧vs=[.int i]∧H l=some (.lst xs)∧-(2 ^ 63)≤i∧i < 2 ^ 63∧seqIndex? i xs.length=some k∧xs[k]? = some y∧Q y (upd H l (.lst (xs.eraseIdx k)))
theorem Zmw:MtM X "list.pop" Zp4:=by
 intro pins s σ H x vs v us Q I rx rv h;obtain ⟨l,xs,i,k,y,rfl,rfl,hH,h1,h2,hk,hy,q⟩:=h;cases rx
 obtain ⟨u,rfl,ru⟩:=rv.one;obtain ⟨t,rfl⟩:=ru;obtain ⟨z,its,n,r,hl,e⟩:=I.lstM hH;obtain ⟨w,hw,rw'⟩:=r.get hy
 refine call_meets F.slot_list_pop ⟨_,e,rfl⟩ F.entry_list_pop (F.args_list_pop_2 _ _)
  (MeetsSeq.list_pop_at l its.toArray n i t k w (fitsIndex_both h1 h2) (by rw [n12_,← hl]; exact hk) (by rw [← Array.getElem?_toList]; exact hw) (by rw [n12_]; omega)) ⟨e,?_⟩
 refine ⟨y,_,I.lset (its':=its.eraseIdx k) hH e ?_ (r.eraseIdx k) ?_,rw',q⟩
 · show its.toArray.eraseIdxIfInBounds k=(its.eraseIdx k).toArray
   rw [List.eraseIdxIfInBounds_toArray]
 · have:=Zhd xs k
   omega
def rCat:R2:=fun x y H Q=>∃ l b xs zs,x=.ref l∧y=.ref b∧H l=some (.lst xs)∧H b=some (.lst zs)∧xs.length+zs.length≤sizeLine∧∀ p,H p=none→Q (.ref p) (upd H p (.lst (xs++zs)))
theorem Zdh:OpR X (binaryOp .Add) rCat:=by
 intro pins s σ H x y v u Q I rx ry h;obtain ⟨l,b,xs,zs,rfl,rfl,hH,hB,hz,q⟩:=h;cases rx
 cases ry
 obtain ⟨z,its,n,r,hl,e⟩:=I.lstM hH;obtain ⟨z2,its2,n2,r2,hl2,e2⟩:=I.lstM hB;refine PySem.P.add_list e e2 ?_ (by rw [n12_,n12_]; omega);have ea:its.toArray++its2.toArray=(its++its2).toArray:=by simp
 rw [ea];exact ⟨.ref _,_,I.lnew (t':=s.toks) (r.append r2) (by rw [n26_]; omega),rfl,q _ I.fresh⟩
def rRep:R2:=fun x y H Q=>∃ l k xs,x=.ref l∧y=.int k∧H l=some (.lst xs)∧-(2 ^ 63)≤k∧k < 2 ^ 63∧xs.length * k.toNat≤sizeLine ∧
 ∀ p,H p=none→Q (.ref p) (upd H p (.lst (List.replicate k.toNat xs).flatten))
theorem Zov {α:Type} (xs:List α) (k:Nat):(List.replicate k xs).flatten.length=k * xs.length:=by
 induction k with
 | zero=>simp
 | succ k ih=>rw [n52_,List.flatten_cons,n26_,ih,Nat.succ_mul,Nat.add_comm]
theorem Zko:OpR X (binaryOp .Mult) rRep:=by
 intro pins s σ H x y v u Q I rx ry h;obtain ⟨l,k,xs,rfl,rfl,hH,h1,h2,hz,q⟩:=h;cases rx
 obtain ⟨t,rfl⟩:=ry;obtain ⟨z,its,n,r,hl,e⟩:=I.lstM hH;have hlen:its.toArray.size * k.toNat≤sizeLine:=by rw [n12_,← hl]; exact hz
 have hcap:¬ its.toArray.size * k.toNat > (2 ^ 63 - 1) / 8:=by
  have:(sizeLine:Nat)≤(2 ^ 63 - 1) / 8:=by decide
  omega
 have hfit:¬ (!Builtin.List.listFitsIndex k)=true:=by
  rw [fitsIndex_both h1 h2];exact n30_
 have hlong:¬ Builtin.List.listTooLong (its.toArray.size * k.toNat)=true:=by
  rw [Zm5 hlen];exact n30_
 have hnew:List.foldl (fun x1 x2=>x1++x2) #[] (List.replicate (if its.toArray.isEmpty=true then 0 else k.toNat) its.toArray)=(List.replicate k.toNat its).flatten.toArray:=by
  have f0:∀ m:Nat,List.foldl (fun x1 x2=>x1++x2) #[] (List.replicate m its.toArray)=(List.replicate m its).flatten.toArray:=fun m=>by
   have:=Zgt its m []
   rw [List.nil_append] at this;exact this
  rw [f0];cases its with
  | nil=>simp
  | cons a r'=>rw [if_neg (by simp)]
 refine wpAny_binaryOp_repeat_ref (T := "list") (U := "int") (by decide) ⟨_,e,rfl⟩ (fun s'=>typeIs_int s' k t) noFill_list_mul F.fills_int_mul F.slot_int_rmul repeat_list F.slot_int_index.lookup
  (call_meets F.slot_int_rmul (typeIs_int s k t) F.entry_int_rmul (F.args_int_rmul_2 _ _) (int___rmul___int_list k t l its.toArray n)
    ⟨e,rfl,⟨_,e,rfl⟩,call_meets F.slot_list_mul ⟨_,e,rfl⟩ F.entry_list_mul (F.args_list_mul_2 _ _) (AutoListH.list___mul___list_int_3 l its.toArray n k t hfit hcap hlong) ⟨e,?_⟩⟩)
 rw [hnew];exact ⟨.ref _,_,I.lnew (t':=s.toks) (r.rep k.toNat) (by rw [Zov,n92_]; exact hz),rfl,q _ I.fresh⟩
end
section
variable {prog:Program} {w:World} {A:Around} {E:Value→Shared→Prop} {s:Shared}
set_option maxRecDepth 100000 in
end
section
variable {X:Cx}
end
end L2
namespace Att
open PySem PySem.W PySem.Calls PyProof.Rows
theorem Zdo {P:Params} {h:Heap}:∀ (ns:List Int) (vs:List Value),WellAll P h vs (ns.map WData.int)→IntsAre vs ns:=by
 intro ns
 induction ns with
 | nil =>
   intro vs w;rw [List.map_nil] at w;cases w
   exact .nil
 | cons n ns ih =>
   intro vs w;rw [n69_] at w;cases w with
   | cons a b =>
     cases a
     exact .cons _ _ (ih _ b)
theorem Zls {l:OpenLaw} {n:Nat} (hn:l.most=some n) {P:Params} {h:Heap} {args:List WData} {vals:List Value}
 (hpre:l.row.toRowW.claim.pre args=true) (hwl:WellAll P h vals args) :
 ∃ a vs ns,vals=[Value.ref a]∧args=[WData.list (ns.map WData.int)]∧h.get? a=some { cls:=.type "list",data:=.seq vs.toArray }∧IntsAre vs ns∧ns.length≤n:=by
 have hsh:WShape.hasAll [] args [.list .int]=true:=(pre_splitW hpre).1;have hc:l.pre.holds [] { args:=args }=true:=(pre_splitW hpre).2;obtain ⟨d,r,rfl,h1,h2⟩:=hasAllW_cons hsh;obtain rfl:=hasAllW_nil h2;obtain ⟨xs,rfl,h3⟩:=hasW_list h1;obtain ⟨ns,rfl⟩:=items_int h3
 have hlen:ns.length≤n:=by
  unfold OpenLaw.pre at hc
  have h4:(WTm.not (.lt (.lit (.int (n:Int))) (.len (.arg 0)))).holds [] { args:=[.list (ns.map .int)] }=true:=by
   have h4:=(holds_andW hc).1;rw [hn] at h4;exact h4
  have h5:=condW_of h4 (w_not (w_lt w_lit (w_len_list (w_arg rfl))));rw [n2_] at h5;refine Nat.le_of_not_lt fun q=>?_;have q':(n:Int) < ((ns.length:Nat):Int):=by omega
  first
   | (rw [n14_ q'] at h5; exact absurd h5 (by decide))
   | (simp at h5; omega)
 cases hwl with
 | cons w1 w2 =>
   cases w2
   cases w1 with
   | list ho hall=>exact ⟨_,_,ns,rfl,rfl,ho,Zdo ns _ hall,hlen⟩
theorem Zlf (l:OpenLaw) (args:List WData):l.row.toRowW.claim.post args (.bool true) args=true :=
 postW_of (r:=l.row.toRowW) (X:=(true == true))
  (show WShape.has [] (.bool true) .bool=true by first | rfl | decide | simp [WShape.has,WShape.arms,WShape.armsAll])
  (show (WTm.eq .res (.lit (.bool true))).value [] { args:=args,res:=some (.bool true),after:=args }=some (.bool (true == true)) from w_eq_bool (w_res rfl) w_lit) rfl
theorem attach_call {l:OpenLaw} {n:Nat} {q:Program} {loose:List Str} {XP:(Str→Option Value)→Heap→Prop} {YP:World→Heap→Prop} {d:DefRec}
 (hn:l.most=some n) (hdf:d.params.defaults=[])
 (call:∀ (w:World) (s₀ s₁:Shared) (mg mb:Str→Option Value) (fa:Addr) (o:Obj) (pm cd doc:Value) (a:Addr) (vs:List Value) (ns:List Int),
   Ground q loose [] XP w s₀ mg mb s₁.heap→YP w s₁.heap →
   s₁.heap.get? fa=some o→o.data=.func (docDef d.name d.params d.body d.scope pm cd doc)→s₁.heap.CodeRec cd d.name→mg d.name=some (.ref fa) →
   s₁.heap.get? a=some { cls:=.type "list",data:=.seq vs.toArray }→IntsAre vs ns→ns.length≤n→s₁.gens=#[] →
   codeAny (model l.prog w) callerA (.call (.ref fa) ⟨[.ref a],[]⟩) (fun r s'=>r=.ok (.ret (.bool true))∧OldK s₁.heap s'.heap∧s'.os=s₁.os∧AllBare s'.gens) s₁) :
 WalkO q loose XP YP l.row.toRowW d [] (fun f vs=>PySem.call f vs):=by
 intro w s₀ s₁ mg mb G Y fa o pm cd doc dV kV ho hd hcd hD hmg hg args vals as hpre hlay hrd hwl hlo;obtain rfl:dV=.none:=Dflts.none hD hdf;obtain rfl:kV=.none:=Dflts.noKw hD;obtain ⟨a,vs,ns,rfl,rfl,hobj,hints,hlen⟩:=Zls hn hpre hwl;refine enter_call (codeAny_mono (call w s₀ s₁ mg mb fa o pm cd doc a vs ns G Y ho (fd_plain hd) hcd hmg hobj hints hlen hg) fun r s' hq=>?_);obtain ⟨rfl,h2,h3,h4⟩:=hq;exact ⟨.inl ⟨.bool true,.bool true,[],rfl,fun _=>rfl,.bool true,Zlf l _,fun _=>⟨List.Pairwise.nil,fun _ hm=>(nomatch hm)⟩⟩,h2,h3,h4⟩
section
variable {prog:Program} {w:World} {A:Around} {E:Value→Shared→Prop} {s:Shared} {K:Frag}
end
end Att
namespace L2
open PySem PySem.Spec PyProof.Rows
theorem Zg0:∀ {vs:List Value} {ns:List Int},IntsAre vs ns→Vals (ns.map V.int) vs
 | _,_,.nil=>.nil
 | _,_,.cons n t h=>.cons ⟨t,rfl⟩ (Zg0 h)
end L2
namespace L2
open PySem PySem.Spec PyProof.Rows
end L2
namespace L2
open PySem PySem.Spec PyProof.Rows
def Y6 (s:Stmt):Arguments:=match s with
 | .FunctionDef _ a _ _ _ _ _ _ _ _=>a
 | _=>{ posonlyargs:=[],args:=[],vararg:=none,kwonlyargs:=[],kw_defaults:=[],kwarg:=none,defaults:=[] }
def Yr (s:Stmt):List Stmt:=match s with
 | .FunctionDef _ _ b _ _ _ _ _ _ _=>b
 | _=>[]
def Ze (s:Stmt):Scope:=match s with
 | .FunctionDef _ _ _ _ _ _ sc _ _ _=>sc
 | _=>{ kind:=.function,names:=[],isGenerator:=false,isCoroutine:=false }
abbrev CX0:CXT:=fun _ _ _ _ _ _=>False
abbrev E0:XK:=fun _ _ _=>False
theorem Zrd {X:Cx}:Zli CX0 X E0:=fun _ _ _ _ _ _ _ h=>h.elim
structure Fun (K:PySem.W.Frag) (x qual:Str) (st:Stmt) (f:Addr) (fd:FuncData):Prop where
 ex:∃ (oc:Value) (od:Option Addr) (kV doc pm:Value) (an:Option Addr) (cdv ct:Value) (osl:Array (Option Value)),
  fd=PySem.W.fnOf x qual (Y6 st) (Yr st) (Ze st) .none kV doc pm an cdv ct∧K.lookup f=some ⟨oc,od,.func fd,osl⟩∧PySem.W.codeIn K cdv qual=true
 kp:PySem.W.keepIn K (.ref f)=true
section
variable {P:Program} {w:World} {K:PySem.W.Frag} {mg:Str→Option Value} {base:Heap}
theorem Fun.ok {x qual:Str} {st:Stmt} {f:Addr} {fd:FuncData} {N ps:List Str} {k:Nat} {sp:Sp} (F:Fun K x qual st f fd) (S:FnScope N ps (Ze st)) (len:∀ vs H Q E,sp vs H Q E→vs.length=ps.length)
 (hbody:∀ (cdv:Value) (A:Around) (outer:List Env) (s:Shared) (H:Hp) (vs:List V) (Q:VK) (E:XK),Room k (A.deeper (envOfC qual (Ze st) s.heap.objs.size f cdv))→sp vs H Q E →
   ∃ t,PSs (cxOf CX0 P w K mg base N qual (Ze st) f cdv A outer s H E).nox (Yr st) t∧t { nx:=fun _ H'=>Q .non H',rt:=Q } (Zcy N vs) H):FnOk P w K mg base CX0 (k+1) f fd ps sp:=by
 obtain ⟨oc,od,kV,doc,pm,an,cdv,ct,osl,rfl,lk,hcd⟩:=F.ex;refine Zpn lk hcd S len fun A outer s H vs Q E hr hsp=>?_;obtain ⟨t,h,q⟩:=hbody cdv A outer s H vs Q E hr hsp;exact ⟨t,h.nox,q⟩
theorem Fun.binds {x qual:Str} {st:Stmt} {f:Addr} {fd:FuncData} {ps:List Str} (F:Fun K x qual st f fd)
 (h:∀ (kV doc pm:Value) (an:Option Addr) (cdv ct:Value) (us:List Value),us.length=ps.length→bindArgs (PySem.W.fnOf x qual (Y6 st) (Yr st) (Ze st) .none kV doc pm an cdv ct) ⟨us,[]⟩=pure (ps.zip us)):Binds K fd ps []:=by
 obtain ⟨oc,od,kV,doc,pm,an,cdv,ct,osl,rfl,lk,hcd⟩:=F.ex;exact .all (h kV doc pm an cdv ct)
theorem Zlw {x qual:Str} {st:Stmt} {f:Addr} {oc:Value} {od an:Option Addr} {osl:Array (Option Value)} {kV doc pm cdv ct:Value} (l:K.lookup f=some ⟨oc,od,.func (PySem.W.fnOf x qual (Y6 st) (Yr st) (Ze st) .none kV doc pm an cdv ct),osl⟩)
 (c:PySem.W.codeIn K cdv qual=true) (k:PySem.W.keepIn K (.ref f)=true):Fun K x qual st f (PySem.W.fnOf x qual (Y6 st) (Yr st) (Ze st) .none kV doc pm an cdv ct):=⟨⟨oc,od,kV,doc,pm,an,cdv,ct,osl,rfl,l,c⟩,k⟩
end
theorem Zfs {A:Around} {k:Nat} (hr:Room k A):A.units+1 < cLine:=n10_ (Nat.add_le_add_left (by decide:1≤64) _) hr.units
section
variable {X:Cx}
theorem pv (i:Nat) {x:Str} {pos:Pos} (hN:X.N[i]? = some x:=by rfl) (hv:Vis X.env.scope x:=by first | exact Or.inl rfl | exact Or.inr (Or.inl rfl) | exact Or.inr (Or.inr rfl)) (hd:(x == ("__debug__" : Str))=false:=by decide)
 (hcd:(x == ("__classdict__" : Str))=false:=by decide):PE X (.Name x pos) (tVar i):=Zpw hN hv hd hcd
end
theorem iteF {A B:Prop} (h:B):if false=true then A else B:=by
 rw [if_neg n30_];exact h
theorem iteT {A B:Prop} (h:A):if true=true then A else B:=by
 rw [if_pos rfl];exact h
theorem ite2 {c A B:Prop} [Decidable c] (h1:c→A) (h2:¬ c→B):if c then A else B:=by
 by_cases h:c
 · rw [if_pos h];exact h1 h
 · rw [if_neg h];exact h2 h
def Same (H H':Hp):Prop:=∀ b o,H b=some o→H' b=some o
theorem Same.refl (H:Hp):Same H H:=fun _ _ h=>h
theorem Same.trans {H H1 H2:Hp} (a:Same H H1) (b:Same H1 H2):Same H H2:=fun c o h=>b c o (a c o h)
end L2
namespace FM
def sg (t b:Int):Int:=if b < 0 then -(Int.gcd t b:Int) else (Int.gcd t b:Int)
theorem gcd_ne {t b:Int} (h:b≠0):(Int.gcd t b:Int)≠0:=by
 intro e
 have:=Int.gcd_eq_zero_iff.mp (Int.ofNat.inj e)
 exact h this.2
theorem sg_ne {t b:Int} (h:b≠0):sg t b≠0:=by
 have:=gcd_ne (t:=t) h
 unfold sg; split <;> omega
theorem fdiv_mul {c k:Int} (h:k≠0):(c * k).fdiv k=c:=Int.mul_fdiv_cancel c h
theorem fdiv_num {t b:Int} (h:b≠0):t.fdiv (sg t b)=(Rat.divInt t b).num:=by
 rw [Rat.num_divInt];obtain ⟨c,hc⟩:=Int.gcd_dvd_left t b;have hg:=gcd_ne (t:=t) h;have e:(b.gcd t:Int)=(t.gcd b:Int):=by rw [Int.gcd_comm]
 rw [e];unfold sg
 rcases Int.lt_or_gt_of_ne h with hb | hb
 · rw [if_pos hb,Int.sign_eq_neg_one_of_neg hb];generalize (t.gcd b:Int)=g at *;subst hc;rw [show g * c=(-c) * (-g) by rw [Int.neg_mul_neg,n55_],fdiv_mul (by omega)];rw [show (-1:Int) * ((-c) * (-g))=(-c) * g by rw [Int.neg_mul_neg,Int.neg_mul,Int.one_mul,Int.neg_mul],Int.mul_ediv_cancel _ hg]
 · rw [if_neg (by omega),Int.sign_eq_one_of_pos hb,Int.one_mul];generalize (t.gcd b:Int)=g at *;subst hc;rw [n55_,fdiv_mul hg,Int.mul_ediv_cancel _ hg]
theorem fdiv_den {t b:Int} (h:b≠0):b.fdiv (sg t b)=((Rat.divInt t b).den:Int):=by
 rw [Rat.den_divInt,if_neg h];obtain ⟨c,hc⟩:=n83_ t b;have hg:=gcd_ne (t:=t) h;have e:b.gcd t=t.gcd b:=by rw [Int.gcd_comm]
 rw [e,Int.natCast_ediv];unfold sg
 rcases Int.lt_or_gt_of_ne h with hb | hb
 · rw [if_pos hb,Int.ofNat_natAbs_of_nonpos (by omega)];generalize (t.gcd b:Int)=g at *;subst hc;rw [show g * c=(-c) * (-g) by rw [Int.neg_mul_neg,n55_],fdiv_mul (by omega)];rw [show -((-c) * (-g))=(-c) * g by rw [Int.neg_mul_neg,Int.neg_mul],Int.mul_ediv_cancel _ hg]
 · rw [if_neg (by omega),Int.natAbs_of_nonneg (by omega)];generalize (t.gcd b:Int)=g at *;subst hc;rw [n55_,fdiv_mul hg,Int.mul_ediv_cancel _ hg]
theorem low_num {t b:Int} (h:b≠0):(if 0 < b then t.fdiv (Int.gcd t b:Int) else 0 - t.fdiv (Int.gcd t b:Int))=(Rat.divInt t b).num:=by
 rw [← fdiv_num h];have hg:=gcd_ne (t:=t) h;obtain ⟨c,hc⟩:=Int.gcd_dvd_left t b;unfold sg
 by_cases hb:0 < b
 · rw [if_pos hb,if_neg (by omega)]
 · rw [if_neg hb,if_pos (by omega)];generalize (t.gcd b:Int)=g at *;subst hc;rw [show g * c=c * g by simp [n55_],fdiv_mul hg];rw [show c * g=(-c) * (-g) by rw [Int.neg_mul_neg],fdiv_mul (by omega)];omega
theorem low_den {t b:Int} (h:b≠0):(b.natAbs:Int).fdiv (Int.gcd t b:Int)=((Rat.divInt t b).den:Int):=by
 rw [← fdiv_den h];have hg:=gcd_ne (t:=t) h;obtain ⟨c,hc⟩:=n83_ t b;unfold sg
 by_cases hb:b < 0
 · rw [if_pos hb,Int.ofNat_natAbs_of_nonpos (by omega)];generalize (t.gcd b:Int)=g at *;subst hc;rw [show g * c=(-c) * (-g) by rw [Int.neg_mul_neg,n55_],fdiv_mul (by omega)];rw [show -((-c) * (-g))=(-c) * g by rw [Int.neg_mul_neg,Int.neg_mul],fdiv_mul hg]
 · rw [if_neg hb,Int.natAbs_of_nonneg (by omega)]
theorem gcd_fmod {a b:Int} (h:b≠0):Int.gcd b (a.fmod b)=Int.gcd a b:=by
 have e:a.fmod b=a - b * a.fdiv b:=by have:=Int.mul_fdiv_add_fmod a b; omega
 rw [e,Int.gcd_comm a b]
 have:=Int.gcd_sub_mul_left_right b a (a.fdiv b)
 first | exact this | (rw [← this]) | simpa using this
theorem fmod_abs_lt {a b:Int} (h:b≠0):(a.fmod b).natAbs < b.natAbs:=by
 rcases Int.lt_or_gt_of_ne h with hb | hb
 · have e:a.fmod b = -((-a).fmod (-b)):=by
    have:=Int.neg_fmod_neg a b
    omega
   have h1:=n70_ (-a) (show (0:Int) < -b by omega);have h2:=n96_ (-a) (show (0:Int) < -b by omega);omega
 · have h1:=n70_ a hb;have h2:=n96_ a hb;omega
def B (n:Nat) (q:Rat):Prop:=q.num.natAbs < 2 ^ n∧q.den < 2 ^ n
theorem B.mono {n m:Nat} {q:Rat} (h:B n q) (l:n≤m):B m q :=
 ⟨n16_ h.1 (n11_ (by decide) l),n16_ h.2 (n11_ (by decide) l)⟩
theorem natAbs_mul_lt {a b:Int} {n m:Nat} (h1:a.natAbs < 2 ^ n) (h2:b.natAbs < 2 ^ m):(a * b).natAbs < 2 ^ (n+m):=by
 rw [n27_,n49_];exact Nat.mul_lt_mul'' h1 h2
theorem Zez (t:Int) {b:Int} (h:b≠0):(Rat.divInt t b).num.natAbs≤t.natAbs:=by
 rw [Rat.num_divInt]
 have hs:(b.sign * t).natAbs≤t.natAbs:=by
  rw [n27_]
  have:b.sign.natAbs≤1:=by
   rcases Int.lt_trichotomy b 0 with z | z | z
   · rw [Int.sign_eq_neg_one_of_neg z]; decide
   · omega
   · rw [Int.sign_eq_one_of_pos z]; decide
  calc b.sign.natAbs * t.natAbs≤1 * t.natAbs:=n42_ _ this
   _=t.natAbs:=Nat.one_mul _
 obtain ⟨c,hc⟩:∃ c,b.sign * t=(b.gcd t:Int) * c:=by
  obtain ⟨c,hc⟩:=n83_ b t;refine ⟨b.sign * c,?_⟩;rw [← Int.mul_assoc,n55_ (b.gcd t:Int) b.sign,Int.mul_assoc,← hc]
 have hg:(b.gcd t:Int)≠0:=by
  intro e;exact h (Int.gcd_eq_zero_iff.mp (Int.ofNat.inj e)).1
 rw [hc,Int.mul_ediv_cancel_left _ hg]
 have:c.natAbs≤(b.sign * t).natAbs:=by
  rw [hc,n27_]
  have:1≤(b.gcd t:Int).natAbs:=by omega
  calc c.natAbs=1 * c.natAbs:=(Nat.one_mul _).symm
   _≤_:=n42_ _ this
 omega
theorem Zfo (t:Int) {b:Int} (h:b≠0):(Rat.divInt t b).den≤b.natAbs:=by
 rw [Rat.den_divInt,if_neg h];exact Nat.div_le_self _ _
theorem B_divInt {n:Nat} {t b:Int} (h:b≠0) (h1:t.natAbs < 2 ^ n) (h2:b.natAbs < 2 ^ n):B n (Rat.divInt t b) :=
 ⟨n10_ (Zez t h) h1,n10_ (Zfo t h) h2⟩
theorem den_ne (q:Rat):(q.den:Int)≠0:=by have:=q.den_nz; omega
theorem den_pos (q:Rat):(0:Int) < q.den:=by have:=q.den_nz; omega
theorem add_eq (p q:Rat):Rat.divInt (p.num * q.den+q.num * p.den) (p.den * q.den)=p+q:=by
 have:=Rat.divInt_add_divInt p.num q.num (den_ne p) (den_ne q)
 rw [Rat.num_divInt_den,Rat.num_divInt_den] at this;exact this.symm
theorem mul_eq (p q:Rat):Rat.divInt (p.num * q.num) (p.den * q.den)=p * q:=by
 have:=Rat.divInt_mul_divInt p.num q.num (d₁:=p.den) (d₂:=q.den)
 rw [Rat.num_divInt_den,Rat.num_divInt_den] at this;exact this.symm
theorem mul_ne {p q:Rat}:(p.den:Int) * q.den≠0:=n93_ (den_ne p) (den_ne q)
theorem gcd_one (q:Rat):Int.gcd q.num q.den=1:=by
 have:=q.reduced
 unfold Nat.Coprime at this
 simpa [Int.gcd] using this
theorem Zki {a b:Int} (hb:0 < b) (h:Int.gcd a b=1):(Rat.divInt a b).num=a∧((Rat.divInt a b).den:Int)=b:=by
 rw [Rat.num_divInt,Rat.den_divInt,if_neg (by omega),Int.gcd_comm b a,h,Int.sign_eq_one_of_pos hb];constructor
 · simp
 · simp; omega
theorem whole (a:Int):(Rat.divInt a 1).num=a∧((Rat.divInt a 1).den:Int)=1:=Zki (by decide) (by simp)
end FM
namespace L2
open PySem PySem.Spec PyProof.Rows
theorem Zcs {prog:Program} {w:World} {A:Around} {R:Result→Shared→Prop} {s:Shared} {elt target iter:Expr} {ifs:List Expr} {scope:Scope} {pos:Pos} {it acc:Value} {env:Env} (I:Nat→Shared→Prop)
 (turn:∀ n s,I n s→wpAny (model prog w) A (pyNext it) (fun r s₁=>match r with
   | none=>R (.ok .next) s₁
   | some v=>wpAny (model prog w) A (letOwnedTupleGo target it v) (fun _ s₀=>wpAny (model prog w) A (assign target env v) (fun _ s₂ =>
      wpAny (model prog w) A (forIn ifs true fun c r=>if r=true then do let ok ← isTrue c env (eval c env); pure (ForInStep.yield ok) else pure (ForInStep.yield r)) (fun ok s₃ =>
       if ok=true then wpAny (model prog w) A (eval elt env) (fun x s₄ =>
        wpAny (model prog w) A (call (.builtin "list.append") [acc,x]) (fun _ s₅=>∃ m,m < n∧I m s₅) (fun _ _=>False) s₄) (fun _ _=>False) s₃
       else ∃ m,m < n∧I m s₃) (fun _ _=>False) s₂) (fun _ _=>False) s₀) (fun _ _=>False) s₁) (fun _ _=>False) s)
 (n:Nat) (h:I n s) :
 codeAny (model prog w) A (.compLoop (.ListComp elt [⟨target,iter,ifs,0⟩] scope pos) 0 it acc env) R s:=by
 refine codeAny_loop rfl I (fun n s hI=>?_) n h;show wpAny _ A ((compTurn (.ListComp elt [⟨target,iter,ifs,0⟩] scope pos) 0 it acc env).onRaise (fun x=>do noteFrame x env; theTreesLotGoes x)) _ _ s
 refine wpAny_noted ?_;rw [compTurn_list];refine n3_ (wpAny_standAt (n3_ (wpAny_mono (turn n s hI) (fun r s₁ h₁=>?_) fun _ _ h'=>h'.elim)));cases r with
 | none=>exact n20_ h₁
 | some v =>
   refine n3_ (wpAny_mono h₁ (fun _ s₀ h₀=>?_) fun _ _ h'=>h'.elim);refine n3_ (wpAny_mono h₀ (fun _ s₂ h₂=>n3_ (wpAny_mono h₂ (fun ok s₃ h₃=>?_) fun _ _ h'=>h'.elim)) fun _ _ h'=>h'.elim);cases ok with
   | false=>exact n20_ ⟨rfl,h₃⟩
   | true =>
     exact n3_ (n3_ (wpAny_mono h₃ (fun x s₄ h₄=>n3_ (wpAny_mono h₄ (fun _ s₅ h₅=>n20_ (n20_ ⟨rfl,h₅⟩)) fun _ _ h'=>h'.elim)) fun _ _ h'=>h'.elim))
theorem Yl:∀ (names:List (Str×NameKind)) (n:Nat) (acc:List (Str×Addr)),cellsFrom n names acc=cellsFrom n names []++acc
 | [],_,_=>rfl
 | (x,k) :: r,n,acc=>by
   unfold cellsFrom;split
   · rw [Yl r (n+1) ((x,n) :: acc),Yl r (n+1) [(x,n)],List.append_assoc]; rfl
   · exact Yl r n acc
theorem Zaf {x:Str} {c:Addr}:∀ (names:List (Str×NameKind)) (n:Nat),(x,c)∈cellsFrom n names []→(x,NameKind.cell)∈names
 | [],_,h=>by simp [cellsFrom] at h
 | (y,k) :: r,n,h=>by
   unfold cellsFrom at h;split at h
   · rename_i hk
     rw [Yl] at h
     rcases n29_.mp h with h | h
     · exact n8_ _ (Zaf r _ h)
     · cases n13_.mp h
       rw [show k=.cell by simpa using hk];exact n7_
   · exact n8_ _ (Zaf r _ h)
theorem Zbu {names:List (Str×NameKind)} {n:Nat} {cl:List (Str×Addr)} {x:Str} {c:Addr} (h:(cellsFrom n names cl).lookup x=some c):(cellsFrom n names []).lookup x=some c∨cl.lookup x=some c:=by
 rw [Yl,List.lookup_append] at h;cases e:(cellsFrom n names []).lookup x with
 | none=>rw [e] at h; exact .inr h
 | some c'=>rw [e] at h; exact .inl h
theorem Zjw {M:Model} {A:Around} {E:Value→Shared→Prop} {s:Shared} {scope:Scope} {globals:Addr} {cl:List (Str×Addr)} {qual:Str} {env:Env} {Q:Env→Shared→Prop}
 (hQ:∀ h',h'.Ns s.heap.objs.size (fun _=>none)→(∀ b o,s.heap.get? b=some o→h'.get? b=some o)→CellsOk h' (s.heap.objs.size+1) (cellsFrom (s.heap.objs.size+1) scope.names []) →
   Q (newEnv scope s.heap.objs.size globals (cellsFrom (s.heap.objs.size+1) scope.names cl) qual none .none (some env) builtinsNs) { s with heap:=h' }) :
 wpAny M A (newFunctionEnv scope globals cl [] qual none .none (some env)) Q E s:=by
 simp only [newFunctionEnv,Option.isSome_some,if_true];refine n3_ (wpAny_alloc ?_);refine n3_ (wpAny_layCells _ (fun name kind cells=>by cases hkc:kind == NameKind.cell <;> simp [hkc]) _ _ _ _ ?_);have ok:=cellsFrom_ok scope.names (s.heap.push { cls:=.type "dict",data:=.dict #[] }) (s.heap.objs.size+1) [] ⟨fun _ _ hm=>(nomatch hm),List.Pairwise.nil⟩ (by rw [n84_]; exact n9_ _);rw [n84_] at ok;rw [show ({ s with heap:=s.heap.push { cls:=.type "dict",data:=.dict #[] } }:Shared).heap.objs.size=s.heap.objs.size+1 from n84_ ..];rw [List.forIn_nil];exact n3_ (n20_ (n20_ (hQ _ ((Heap.Ns.new s.heap (.type "dict")).keeps (pushCells_keeps _ _)) (fun b o e=>pushCells_keeps _ _ b o (n4_ _ e)) ok)))
def blk (X:Cx) (scope:Scope) (cl:List (Str×Addr)) (C:Addr) (N:List Str) (s3:Shared) (H3:Hp) (fp:List Addr):Cx where
 prog:=X.prog
 w:=X.w
 K:=X.K
 mg:=X.mg
 base:=X.base
 A:=X.A
 N:=N
 s₀:=s3
 H₀:=H3
 env:=compEnvC scope (cellsFrom (C+1) scope.names cl) C X.env
 outer:=X.stack
 stack:=X.stack
 ex:=fp
 fn:=fun x=>scope.names.lookup x == some .cell
 calm:=X.calm
 pn:=[]
 xe:=fun _ _=>False
structure LcO (X:Cx) (scope:Scope) (cl:List (Str×Addr)) (N:List Str) (fr:List (Option Nat)):Prop where
 clos:closureFor scope X.env=pure cl
 sub:∀ x c,cl.lookup x=some c→X.env.cells.lookup x=some c
 has:∀ x,((relabel scope X.env).names.lookup x=some .cell∨(relabel scope X.env).names.lookup x=some .free)→scope.names.lookup x=some .cell∨∃ c,cl.lookup x=some c
 kind:scope.kind=.function
 names:∀ y∈scope.names,y.2=.local→scope.names.lookup y.1=some .local
 len:fr.length=N.length
 from':∀ (i j:Nat),fr[i]? = some (some j)→∃ x,N[i]? = some x∧X.N[j]? = some x∧(X.env.scope.names.lookup x=some .cell∨X.env.scope.names.lookup x=some .free)∧((relabel scope X.env).names.lookup x=some .cell∨(relabel scope X.env).names.lookup x=some .free)∧(∃ c,cl.lookup x=some c)∧(x,NameKind.cell)∉scope.names
def Zdr (fr:List (Option Nat)) (σ:St):St:=fr.map fun o=>match o with
 | some j=>match σ[j]? with
   | some v=>v
   | none=>none
 | none=>none
theorem pgB {X:Cx} {scope:Scope} {cl:List (Str×Addr)} {C:Addr} {N:List Str} {s3:Shared} {H3:Hp} {fp:List Addr} {x:Str} {pos:Pos} (i:Nat) (hN:N.Nodup:=by decide) (hi:N[i]? = some x:=by rfl) (hf:(blk X scope cl C N s3 H3 fp).env.scope.names.lookup x=some .local:=by rfl):PG (blk X scope cl C N s3 H3 fp) (.Name x pos) (Z1 i):=Zn hN hi (.inl hf) (.inr hf)
theorem Zpb {P:Program} {w:World} {H:Hp} {h h':Heap} {a:Addr} (ok:HOk P w H h) (hfree:H a=none) (hs:Heap.SameBut a h h'):HOk P w H h':=fun b ob e=>by
 refine (ok b ob e).stay (fun c w' hc q=>(hs.2 c ?_).trans q) (fun _ q=>q) fun _ _ q=>q;rintro rfl
 rcases hc with rfl | hc
 · rw [hfree] at e; cases e
 · rw [hfree] at hc; cases hc
theorem Zl3 {X:Cx} {pins:List (Addr×Obj)} {σ:St} {H:Hp} {s3:Shared} {h1:Heap} {scope:Scope} {cl:List (Str×Addr)} {N:List Str} {fr:List (Option Nat)} {fp:List Addr} (L:LcO X scope cl N fr) (I:Inv X pins σ H s3) (co:CellsOk h1 (s3.heap.objs.size+1) (cellsFrom (s3.heap.objs.size+1) scope.names []))
 (hf:∀ b∈fp,FpOk X pins H b) (hlt:∀ b∈fp,b < s3.heap.objs.size):(blk X scope cl s3.heap.objs.size N s3 H fp).Ok where
 mod:=I.ok.mod
 kind:=L.kind
 glob:=I.ok.glob
 blt:=I.ok.blt
 above:=n9_ _
 inj:=fun x y c h1 h2=>by
  have old:∀ z,cl.lookup z=some c→c < s3.heap.objs.size:=fun z e=>let ⟨_,k⟩:=I.cell z c (L.sub z c e); k.lt;have new:∀ z,(cellsFrom (s3.heap.objs.size+1) scope.names []).lookup z=some c→s3.heap.objs.size+1≤c:=fun z e=>(co.empty z c (n38_ e)).2
  rcases Zbu h1 with a | a <;> rcases Zbu h2 with b | b
  · exact name_of_addr co.apart (n38_ a) (n38_ b)
  · exact absurd (n16_ (old y b) (Nat.le_of_succ_le (new x a))) (n98_ _)
  · exact absurd (n16_ (old x a) (Nat.le_of_succ_le (new y b))) (n98_ _)
  · exact I.ok.inj x y c (L.sub x c a) (L.sub y c b)
 has:=fun x h=>by
  refine Option.isSome_iff_exists.mp (PySem.W.cellsFrom_some scope.names (s3.heap.objs.size+1) cl ?_)
  rcases L.has x h with z | ⟨c,z⟩
  · exact .inl z
  · exact .inr (by rw [z]; rfl)
 cab:=fun x c h e=>by
  obtain ⟨c',e'⟩:=Zw (sc:=scope) (n:=s3.heap.objs.size+1) (beq_iff_eq.mp (show (scope.names.lookup x == some .cell)=true from h));have e2:(cellsFrom (s3.heap.objs.size+1) scope.names cl).lookup x=some c:=e;rw [Yl,List.lookup_append,e'] at e2;have e3:c'=c:=Option.some.inj e2;subst e3;exact Nat.le_of_succ_le (co.empty x c' (n38_ e')).2
 hd:=I.ok.hd
 frames:=I.ok.frames
 stk:=.inl rfl
 exf:=fun b hb=>⟨n50_ (hlt b hb),fun x c h=>by
  rcases Zbu h with a | a
  · exact Nat.ne_of_gt (n16_ (hlt b hb) (Nat.le_of_succ_le (co.empty x c (n38_ a)).2))
  · exact (hf b hb).2.2.2.2.1 x c (L.sub x c a)⟩
 bs:=I.bs
 bsz:=n19_ I.ok.bsz I.sz
 noex:=fun b o e hb=>by
  rcases (hf b hb).2.2.2.1 with z | z
  · exact I.ok.noex b o e z
  · exact absurd (n16_ (n28_ e) (n19_ I.ok.bsz z)) (n98_ _)
 exfs:=fun b hb z=>by
  rcases n31_.mp (I.stkSub b z) with e | e
  · exact (hf b hb).2.1 e
  · exact (hf b hb).2.2.1 e
 funs:=I.stack
 frf:=I.stkFree
theorem Zk3 {X:Cx} {pins:List (Addr×Obj)} {σ:St} {H:Hp} {s3:Shared} {h1:Heap} {t:Nat} {scope:Scope} {cl:List (Str×Addr)} {N:List Str} {fr:List (Option Nat)} {fp:List Addr} (L:LcO X scope cl N fr) (I:Inv X pins σ H s3) (co:CellsOk h1 (s3.heap.objs.size+1) (cellsFrom (s3.heap.objs.size+1) scope.names []))
 (hf:∀ b∈fp,FpOk X pins H b) (hlt:∀ b∈fp,b < s3.heap.objs.size) {m0:Str→Option Value} (hns:h1.Ns s3.heap.objs.size m0) (hk:∀ b o,s3.heap.get? b=some o→h1.get? b=some o) :
 Inv (blk X scope cl s3.heap.objs.size N s3 H fp) [] (Zdr fr σ) H { s3 with heap:=h1,toks:=t } where
 ok:=Zl3 L I co hf hlt
 os:=rfl
 bare:=I.bare
 base:=Un.kept hk
 loc:=⟨m0,hns,fun i x v e1 e2 e3=>by
  unfold Zdr at e2;rw [n5_] at e2;cases q:fr[i]? with
  | none=>rw [q] at e2; cases e2
  | some o =>
    rw [q] at e2;cases o with
    | none=>cases e2
    | some j =>
      obtain ⟨y,n1,n2,n3,n4,⟨c,hc⟩,n6⟩:=L.from' i j q;have e1':N[i]? = some x:=e1;rw [n1] at e1';cases e1'
      have e2':(match σ[j]? with | some v=>v | none=>none)=some v:=Option.some.inj e2
      have e2'':σ[j]? = some (some v):=by
       cases z:σ[j]? with
       | none=>rw [z] at e2'; cases e2'
       | some w'=>rw [z] at e2'; rw [show w'=some v from e2']
      obtain ⟨m,_,hl⟩:=I.loc;obtain ⟨u,r,lk⟩:=hl j x v n2 e2'' (.inr n3);refine ⟨u,r,.inr ⟨n4,c,?_,?_⟩⟩
      · show (cellsFrom (s3.heap.objs.size+1) scope.names cl).lookup x=some c
        rw [Yl,List.lookup_append];cases z:(cellsFrom (s3.heap.objs.size+1) scope.names []).lookup x with
        | none=>exact hc
        | some c'=>exact absurd (Zaf _ _ (n38_ z)) n6
      rcases lk with ⟨k,_⟩ | ⟨k,c',hc',z⟩
      · exfalso
        have k':X.env.scope.names.lookup x=some .local:=k
        rcases n3 with z | z <;> rw [k'] at z <;> cases z
      · rw [L.sub x c hc] at hc';cases hc'
        obtain ⟨o,ho,hd⟩:=z;exact ⟨o,hk _ _ ho,hd⟩⟩
 cell:=fun x c e=>by
  rcases Zbu e with a | a
  · exact ⟨none,(co.empty x c (n38_ a)).1⟩
  · obtain ⟨v,o,ho,hd⟩:=I.cell x c (L.sub x c a);exact ⟨v,o,hk _ _ ho,hd⟩
 free:=I.hok.fresh (n9_ _)
 freeC:=fun x c e=>by
  rcases Zbu e with a | a
  · exact .inl (I.hok.fresh (Nat.le_of_succ_le (co.empty x c (n38_ a)).2))
  · refine (I.freeC x c (L.sub x c a)).imp id fun ⟨_,z⟩=>⟨Bool.eq_false_iff.mpr fun q=>?_,z⟩;obtain ⟨v,oc,hoc,_⟩:=I.cell x c (L.sub x c a);obtain ⟨c',e'⟩:=Zw (sc:=scope) (n:=s3.heap.objs.size+1) (beq_iff_eq.mp (show (scope.names.lookup x == some .cell)=true from q));have e2:(cellsFrom (s3.heap.objs.size+1) scope.names cl).lookup x=some c:=e;rw [Yl,List.lookup_append,e'] at e2;cases e2
    exact absurd (n16_ (n28_ hoc) (Nat.le_of_succ_le (co.empty x c (n38_ e')).2)) (n98_ _)
 pin:=fun p hp=>absurd (show p∈([]:List (Addr×Obj)) from hp) (by simp)
 hok:=I.hok.kept hk
 len:=by
  unfold Zdr;rw [n2_];exact L.len
def PIfs (X:Cx) (ifs:List Expr) (t:TT):Prop :=
 ∀ (pins:List (Addr×Obj)) (s:Shared) (σ:St) (H:Hp) (Q:Bool→Hp→Prop),Inv X pins σ H s→t σ H Q →
   wpAny (model X.prog X.w) X.A (forIn ifs true fun c r=>if r=true then do let ok ← isTrue c X.env (eval c X.env); pure (ForInStep.yield ok) else pure (ForInStep.yield r)) (TP X pins σ Q) X.xe s
def tYes:TT:=fun _ H Q=>Q true H
theorem Zam {σ:St} {H:Hp} {A B:Hp→Prop} (h:A H):tYes σ H (fun b H5=>if b=true then A H5 else B H5):=h
theorem Xz {i:Nat} {x:V} {σ:St} {H:Hp} {A B:St→Hp→Prop} (h:A (σ.set i (some x)) H):Z1 i x σ H fun σ4 H4=>tYes σ4 H4 fun b H5=>if b=true then A σ4 H5 else B σ4 H5:=h
theorem Zl {X:Cx}:PIfs X [] tYes:=fun _ _ _ H _ I h=>wpAny_tests_nil ⟨H,I,h⟩
theorem Zb0 {X:Cx} {c:Expr} {t:TT} (h:PT X c t):PIfs X [c] t:=fun pins s σ H Q I hw=>wpAny_tests_one (h pins s σ H Q I hw)
def LcGo (J:It) (g:TG) (tt:TT) (te:TE) (σ0:St) (H1:Hp) (D:Addr) (Q:VK):Prop:=∃ W:Nat→Nat→St→Hp→Prop,(∃ m,W 0 m σ0 (upd H1 D (.lst []))) ∧
 ∀ i m σ2 H2,W i m σ2 H2→(J.stop i H2∧Q (.ref D) H2)∨(J.go i H2∧∀ x H3,J.yld i H2 x H3→g x σ2 H3 fun σ4 H4=>tt σ4 H4 fun b H5=>if b=true then te σ4 H5 fun y H6=>∃ ys,H6 D=some (.lst ys)∧ys.length < sizeLine ∧
   ∃ m',m' < m∧W (i+1) m' σ4 (upd H6 D (.lst (ys++[y]))) else ∃ m',m' < m∧W (i+1) m' σ4 H5)
def tLC (wi:TI) (g:TG) (tt:TT) (te:TE) (fr:List (Option Nat)):TE:=fun σ H Q=>wi σ H fun J H1=>∀ D,H1 D=none→LcGo J g tt te (Zdr fr σ) H1 D Q
abbrev NoX:Value→Shared→Prop:=fun _ _=>False
theorem Zk5 {X:Cx} {pins:List (Addr×Obj)} {σ σ7:St} {H3 H7:Hp} {s3 s7:Shared} {scope:Scope} {cl:List (Str×Addr)} {N:List Str} {fp:List Addr} (I3:Inv X pins σ H3 s3) (f3:∀ b∈fp,FpOk X pins H3 b) (I7:Inv (blk X scope cl s3.heap.objs.size N s3 H3 fp) [] σ7 H7 s7) :
 ∃ m7,s7.heap.Ns s3.heap.objs.size m7∧∀ h8,Heap.SameBut s3.heap.objs.size s7.heap h8→Inv X pins σ H7 { s7 with heap:=h8 }:=by
 obtain ⟨m7,hn7,_⟩:=I7.loc;refine ⟨m7,hn7,fun h8 sb8=>?_⟩;have un:=I7.base;have neC:∀ b o,s3.heap.get? b=some o→b≠s3.heap.objs.size:=fun b o e=>n50_ (n28_ e);refine I3.call' (s':={ s7 with heap:=h8 }) (ch:=fp) I7.os ?_ (Zpb I7.hok I7.free sb8) I7.bare (fun b hb=>⟨(f3 b hb).2.2.2.1,(f3 b hb).2.1,(f3 b hb).2.2.2.2.1,(f3 b hb).2.2.2.2.2⟩);refine ⟨fun b o e n' hb hx=>?_,fun b o e n' hb hx=>?_,un.free,fun b o e hx=>?_,un.tups,un.frzs,un.tbls⟩
 · exact sb8.extBut b o (neC b o e) (un.keep b o e n' hb hx)
 · obtain ⟨sl,q⟩:=un.slot b o e n' hb hx;exact ⟨sl,sb8.extBut b _ (neC b o e) q⟩
 · obtain ⟨o',q⟩:=un.there b o e hx;exact ⟨o',sb8.extBut b _ (neC b o e) q⟩
def Zq0 (M:Model) (A:Around) (tg:Expr) (it:Value) (env:Env) (R:Result→Shared→Prop) (B:Nat→Shared→Prop) (n:Nat) (s:Shared):Prop :=
 wpAny M A (pyNext it) (fun r s1=>match r with
  | none=>R (.ok .next) s1
  | some v=>wpAny M A (letOwnedTupleGo tg it v) (fun _ s0=>wpAny M A (assign tg env v) (fun _ s2=>B n s2) NoX s0) NoX s1) NoX s
theorem Zjf {X:Cx} {pins:List (Addr×Obj)} {σ:St} {H2:Hp} {s2:Shared} {scope:Scope} {cl:List (Str×Addr)} {N:List Str} {fr:List (Option Nat)} {tg:Expr} {g:TG} {J:It} {fp:List Addr} {it:Addr} {tn:Nat→Heap→Prop} {ac:HO} {o0:Obj} {W:Nat→Nat→St→Hp→Prop} {m0:Nat} {Qn:Hp→Prop} {Kn:Nat→Nat→St→Hp→Prop} {c:Expr} {R:Addr→Result→Shared→Prop} {B:(Nat→Shared→Prop)→Nat→Shared→Prop} {s3:Shared}
 (hs3:s3={ s2 with heap:=s2.heap.push o0 }) (hc:X.calm=true) (L:LcO X scope cl N fr) (hg:∀ C s3 H3 fp,PG (blk X scope cl C N s3 H3 fp) tg g)
 (I2:Inv X pins σ H2 s2) (T:Turn X.prog X.w X.K tg J fp it tn) (st2:tn 0 s2.heap) (f2:∀ b∈fp,FpOk X pins H2 b)
 (ok0:ObjOk X.prog X.w (upd H2 s2.heap.objs.size ac) (s2.heap.push o0) s2.heap.objs.size ac) (w0:W 0 m0 (Zdr fr σ) (upd H2 s2.heap.objs.size ac))
 (turn:∀ i m σ2 H2,W i m σ2 H2→(J.stop i H2∧Qn H2)∨(J.go i H2∧∀ x H3,J.yld i H2 x H3→g x σ2 H3 (Kn i m)))
 (Zcy:∀ env s4,codeAny (model X.prog X.w) X.A (.compLoop c 0 (.ref it) (.ref s2.heap.objs.size) env) (R s3.heap.objs.size) s4→(∀ E,wpAny (model X.prog X.w) X.A (pyIter (.ref it)) (fun it' s'=>codeAny (model X.prog X.w) X.A (.compLoop c 0 it' (.ref s2.heap.objs.size) env) (R s3.heap.objs.size) s') E s4)→codeAny (model X.prog X.w) X.A (.compStart c 0 (.ref it) (.ref s2.heap.objs.size) env) (R s3.heap.objs.size) s4)
 (loop:∀ (LI:Nat→Shared→Prop) s4,(∀ n s,LI n s→Zq0 (model X.prog X.w) X.A tg (.ref it) (blk X scope cl s3.heap.objs.size N s3 (upd H2 s2.heap.objs.size ac) fp).env (R s3.heap.objs.size) (B LI) n s)→∀ n,LI n s4→codeAny (model X.prog X.w) X.A (.compLoop c 0 (.ref it) (.ref s2.heap.objs.size) (blk X scope cl s3.heap.objs.size N s3 (upd H2 s2.heap.objs.size ac) fp).env) (R s3.heap.objs.size) s4)
 (stop:∀ H7 s7,Qn H7→Inv X pins σ (upd H2 s2.heap.objs.size ac) s3→H7 s3.heap.objs.size=none→(∃ m7,s7.heap.Ns s3.heap.objs.size m7∧∀ h8,Heap.SameBut s3.heap.objs.size s7.heap h8→Inv X pins σ H7 { s7 with heap:=h8 })→R s3.heap.objs.size (.ok .next) s7)
 (body:∀ (LI:Nat→Shared→Prop) n i σ9 H9 s9 ps,Inv (blk X scope cl s3.heap.objs.size N s3 (upd H2 s2.heap.objs.size ac) fp) ps σ9 H9 s9→Kn i n σ9 H9→(∀ {s11:Shared} {σ11:St} {H11:Hp} {m':Nat},Inv (blk X scope cl s3.heap.objs.size N s3 (upd H2 s2.heap.objs.size ac) fp) ps σ11 H11 s11→m' < n→W (i+1) m' σ11 H11→∃ m,m < n∧LI m s11)→B LI n s9) :
 wpAny (model X.prog X.w) X.A (newFunctionEnv scope X.env.globals cl [] X.env.qual none .none (some X.env)) (fun cenv s4=>codeAny (model X.prog X.w) X.A (.compStart c 0 (.ref it) (.ref s2.heap.objs.size) { cenv with scope:=relabel scope X.env }) (R cenv.locals) s4) X.xe s3:=by
 have fplt:∀ b∈fp,b < s2.heap.objs.size:=fun b hb=>by
  obtain ⟨o,q,_⟩:=T.obj _ _ st2 b hb;exact n28_ q
 have k3:∀ b o,s2.heap.get? b=some o→s3.heap.get? b=some o:=fun b o e=>by rw [hs3]; exact n4_ _ e
 have I3:Inv X pins σ (upd H2 s2.heap.objs.size ac) s3:=by rw [hs3]; exact I2.laid (t':=s2.toks) (fun b o e=>n4_ _ e) (n9_ _) ok0
 have f3:∀ b∈fp,FpOk X pins (upd H2 s2.heap.objs.size ac) b:=fun b hb=>⟨by rw [Zo (n50_ (fplt b hb))]; exact (f2 b hb).1,(f2 b hb).2⟩;have st3:tn 0 s3.heap:=T.keep _ _ _ st2 fun b hb o e=>k3 b o e
 have fplt3:∀ b∈fp,b < s3.heap.objs.size:=fun b hb=>by
  obtain ⟨o,q,_⟩:=T.obj _ _ st2 b hb;exact n28_ (k3 _ _ q)
 generalize upd H2 s2.heap.objs.size ac=H3 at *;refine Zjw fun h1 hns1 k4 ok3=>?_;have I4:=Zk3 (t:=s3.toks) L I3 ok3 f3 fplt3 hns1 k4;have st4:tn 0 h1:=T.keep _ _ _ st3 fun b hb o e=>k4 b o e
 have fpB:∀ {H':Hp} (b:Addr),b∈fp→H' b=none→FpOk (blk X scope cl s3.heap.objs.size N s3 H3 fp) [] H' b:=fun b hb hn =>
  ⟨hn,n50_ (fplt3 b hb),fun z=>(Zl3 L I3 ok3 f3 fplt3).exfs b hb z,.inl hb,fun x c e=>((Zl3 L I3 ok3 f3 fplt3).exf b hb).2 x c e,fun p hp=>absurd (show p∈([]:List (Addr×Obj)) from hp) (by simp)⟩
 have lp:=loop (fun n s'=>∃ i σ' H',Inv (blk X scope cl s3.heap.objs.size N s3 H3 fp) [] σ' H' s'∧tn i s'.heap∧(∀ b∈fp,H' b=none)∧W i n σ' H') { s3 with heap:=h1 } (fun n s6=>?_) m0 ⟨0,_,_,I4,st4,fun b hb=>(f3 b hb).1,w0⟩
 · exact Zcy _ _ lp fun E=>T.self _ 0 _ _ _ st4 lp
 · rintro ⟨i,σ6,H6,I6,st6,fr6,w6⟩
   unfold Zq0
   rcases turn i n σ6 H6 w6 with ⟨sp,qn⟩ | ⟨go,step⟩
   · refine thn (T.done (blk X scope cl s3.heap.objs.size N s3 H3 fp) rfl rfl rfl hc i [] s6 σ6 H6 (fun _ _=>False) I6 (fun b hb=>fpB b hb (fr6 b hb)) st6 sp) fun r s7 ⟨hr,I7⟩=>?_;subst hr;exact stop _ _ qn I3 I7.free (Zk5 I3 f3 I7)
   · refine thn (T.item (blk X scope cl s3.heap.objs.size N s3 H3 fp) rfl rfl rfl hc i [] s6 σ6 H6 (fun _ _=>False) I6 (fun b hb=>fpB b hb (fr6 b hb)) st6 go) fun r s7 ⟨u,hr,h7⟩=>?_;subst hr;refine thn h7 fun _ s8 ⟨x,H8,I8,r8,y8,st8,fr8⟩=>?_;have I8':=I8.pinned (fun b hb=>fpB b hb (fr8 b hb)) (T.obj _ _ st8);refine thn (hg _ _ _ _ _ s8 σ6 H8 x u _ I8' r8 (step x H8 y8)) fun _ s9 ⟨σ9,H9,I9,q9⟩=>?_;refine body _ n i σ9 H9 s9 _ I9 q9 fun {s11 σ11 H11 m'} I11 hm w11=>?_;refine ⟨m',hm,i+1,σ11,H11,I11.unpinned,T.keep _ _ _ st8 fun b hb o e=>(I11.pin (b,o) (n35_ _ (n35_ _ (Zab hb e)))).1,fun b hb=>?_,w11⟩;obtain ⟨o,e,d⟩:=T.obj _ _ st8 b hb;exact (I11.pin (b,o) (n35_ _ (n35_ _ (Zab hb e)))).2.1
theorem Zl8 {X:Cx} {scope:Scope} {cl:List (Str×Addr)} {N:List Str} {ifs:List Expr} {elt:Expr} {tt:TT} {te:TE} {D:Addr} {W:Nat→Nat→St→Hp→Prop} {C0:Addr} {s30:Shared} {H30:Hp} {fp0:List Addr}
 (ht:∀ C s3 H3 fp,PIfs (blk X scope cl C N s3 H3 fp) ifs tt) (he:∀ C s3 H3 fp,PE (blk X scope cl C N s3 H3 fp) elt te) (LI:Nat→Shared→Prop) (n i:Nat) (σ9:St) (H9:Hp) (s9:Shared) (ps:List (Addr×Obj)) (I9:Inv (blk X scope cl C0 N s30 H30 fp0) ps σ9 H9 s9)
 (q9:tt σ9 H9 fun b H5=>if b=true then te σ9 H5 fun y H6=>∃ ys,H6 D=some (.lst ys)∧ys.length < sizeLine∧∃ m',m' < n∧W (i+1) m' σ9 (upd H6 D (.lst (ys++[y]))) else ∃ m',m' < n∧W (i+1) m' σ9 H5)
 (again:∀ {s11:Shared} {σ11:St} {H11:Hp} {m':Nat},Inv (blk X scope cl C0 N s30 H30 fp0) ps σ11 H11 s11→m' < n→W (i+1) m' σ11 H11→∃ m,m < n∧LI m s11) :
 wpAny (model X.prog X.w) X.A (forIn ifs true fun c r=>if r=true then do let ok ← isTrue c (blk X scope cl C0 N s30 H30 fp0).env (eval c (blk X scope cl C0 N s30 H30 fp0).env); pure (ForInStep.yield ok) else pure (ForInStep.yield r)) (fun ok s₃ =>
  if ok=true then wpAny (model X.prog X.w) X.A (eval elt (blk X scope cl C0 N s30 H30 fp0).env) (fun x s₄ =>
   wpAny (model X.prog X.w) X.A (call (.builtin "list.append") [.ref D,x]) (fun _ s₅=>∃ m,m < n∧LI m s₅) (fun _ _=>False) s₄) (fun _ _=>False) s₃
  else ∃ m,m < n∧LI m s₃) (fun _ _=>False) s9:=by
 refine thn (ht _ _ _ _ ps s9 σ9 H9 _ I9 q9) fun b s10 ⟨H10,I10,q10⟩=>?_;cases b with
 | false =>
   obtain ⟨m',hm,w11⟩:=q10;exact again I10 hm w11
 | true =>
   refine thn (he _ _ _ _ ps s10 σ9 H10 _ I10 q10) fun y s11 ⟨yv,H11,I11,r11,ys,hys,hz,m',hm,w11⟩=>?_
   have ap:=Xd (X:=blk X scope cl C0 N s30 H30 fp0) _ s11 σ9 H11 (.ref D) [yv] (.ref D) [y] (fun _ H'=>W (i+1) m' σ9 H') I11 rfl (.cons r11 .nil)
    ⟨_,ys,yv,rfl,rfl,hys,hz,w11⟩
   exact thn ap fun _ s12 ⟨_,H12,I12,_,q12⟩=>again I12 hm q12
theorem Zoy {X:Cx} {pins:List (Addr×Obj)} {σ:St} {Q:VK} {H7:Hp} {s7:Shared} {C D:Addr} (qn:Q (.ref D) H7) (c:∃ m7,s7.heap.Ns C m7∧∀ h8,Heap.SameBut C s7.heap h8→Inv X pins σ H7 { s7 with heap:=h8 }):compPost (model X.prog X.w) X.A X.xe none (EP X pins σ Q) (.ref D) C (.ok .next) s7 :=
 let ⟨m7,hn7,c7⟩:=c
 ⟨m7,hn7,fun h8 sb8=>⟨.ref _,H7,c7 h8 sb8,rfl,qn⟩⟩
theorem Y0 {X:Cx} {tg elt iter:Expr} {ifs:List Expr} {scope:Scope} {cl:List (Str×Addr)} {N:List Str} {fr:List (Option Nat)} {pos:Pos} {wi:TI} {g:TG} {tt:TT} {te:TE}
 (hc:X.calm=true) (L:LcO X scope cl N fr) (hi:PI X tg iter wi) (hg:∀ C s3 H3 fp,PG (blk X scope cl C N s3 H3 fp) tg g)
 (ht:∀ C s3 H3 fp,PIfs (blk X scope cl C N s3 H3 fp) ifs tt) (he:∀ C s3 H3 fp,PE (blk X scope cl C N s3 H3 fp) elt te)
 (hs:∀ x,foldedSetIterable iter X.env x=pure x:=by intro _; rfl):PE X (.ListComp elt [⟨tg,iter,ifs,0⟩] scope pos) (tLC wi g tt te fr):=by
 intro pins s σ H Q I h;rw [eval_ListComp];refine wpAny_comprehension_free (use:=none) rfl hs L.clos L.kind L.names (thn (hi pins s σ H _ I h) fun v s1 h1=>thn h1 fun itv s2 h2=>?_);obtain ⟨it,fp,tn,J,H2,e,I2,T,st2,f2,h⟩:=h2;subst e;obtain ⟨W,⟨m0,w0⟩,turn⟩:=h s2.heap.objs.size (I2.hok.fresh (n9_ _));refine wpAny_newObj_type ?_;refine Zjf (ac:=.lst []) rfl hc L hg I2 T st2 f2 ⟨n56_ _,[],_,.nil,n25_ _ rfl⟩ w0 turn (fun _ _ a b=>codeAny_compStart_list a (b _)) (fun LI s4 t n h=>Zcs LI t n h) (fun H7 s7 qn _ _ c=>Zoy qn c) (Zl8 ht he)
def LcN (n:Nat) (Pv:Nat→St→Hp→Prop) (i m:Nat) (σ:St) (H:Hp):Prop:=i≤n∧m=n - i∧Pv i σ H
theorem Ziq {n i:Nat} {Pv:Nat→St→Hp→Prop} {σ:St} {H:Hp} {D:Addr} {ys:List V} {y:V} (hi:i < n) (hD:H D=some (.lst ys)) (hl:ys.length < sizeLine) (p:Pv (i+1) σ (upd H D (.lst (ys++[y])))) :
 ∃ ys,H D=some (.lst ys)∧ys.length < sizeLine∧∃ m',m' < n - i∧LcN n Pv (i+1) m' σ (upd H D (.lst (ys++[y]))):=⟨ys,hD,hl,n - (i+1),by omega,by omega,rfl,p⟩
end L2
namespace L2
open PySem PySem.Spec PyProof.Rows
section
variable {X:Cx}
def Zqp (i j:Int):Prop:=j≠0∧j.natAbs < 2 ^ 8999
theorem Zmb {a n:Nat} (h:a < 2 ^ n) (hn:0 < n):a.log2 < n:=by
 rcases Nat.eq_zero_or_pos a with rfl | hp
 · simpa using hn
 · exact (Nat.log2_lt (Nat.ne_of_gt hp)).mpr h
theorem Yq:OpR X (binaryOp .FloorDiv) (rI Zqp fun i j=>.int (i.fdiv j)):=opI fun _ _ _ _ _ _ _ hc q=>floordiv_int hc.1 q (.inl (PyProof.noPylong_of_log2 (Nat.lt_trans (Zmb hc.2 (by decide)) (by decide))))
def CMulB (i j:Int):Prop:=i.natAbs < 2 ^ 1000000∧j.natAbs < 2 ^ 1000000
theorem Zie {i:Int} {n:Nat} (h:i.natAbs < 2 ^ n) (hn:0 < n):Builtin.Int.intBits i≤n:=by
 unfold Builtin.Int.intBits;split
 · exact n56_ _
 · exact Zmb h hn
theorem CMulB.ok {i j:Int} (h:CMulB i j):IntMulOk i j:=by
 unfold IntMulOk;have h1:=Zie h.1 (by decide);have h2:=Zie h.2 (by decide)
 have:Builtin.Int.intTooBig (Builtin.Int.intBits i+Builtin.Int.intBits j:Nat)=false:=by
  unfold Builtin.Int.intTooBig bitsLine;refine n17_ ?_;omega
 intro z;rw [n40_] at z;rw [show ((Builtin.Int.intBits i:Int)+(Builtin.Int.intBits j:Int))=((Builtin.Int.intBits i+Builtin.Int.intBits j:Nat):Int) by omega,this] at z;exact absurd z.2 (by decide)
theorem Yi:OpR X (binaryOp .Mult) (rI CMulB fun i j=>.int (i * j)):=opI fun _ _ _ _ _ _ _ hc q=>mul_int q hc.ok
theorem Ze0:∀ {ns:List Int} {us:List Value},Vals (ns.map V.int) us→∀ j (h:j < us.length),∃ t,us[j]=Value.int (ns.getD j 0) t
 | [],_,.nil,j,h=>absurd h (by simp)
 | n :: ns,u :: us,.cons r t,0,h=>by
   obtain ⟨k,rfl⟩:=(show ∃ k,u=Value.int n k from r);exact ⟨k,rfl⟩
 | n :: ns,u :: us,.cons r t,j+1,h=>by
   obtain ⟨k,e⟩:=Ze0 t j (by simpa using h);exact ⟨k,by simpa using e⟩
def eqNs (ns ms:List Int):Bool:=(List.range (min ns.length ms.length)).all (fun j=>ns.getD j 0 == ms.getD j 0) && ns.length == ms.length
theorem Zi7 {ns ms:List Int}:eqNs ns ms=decide (ns=ms):=by
 unfold eqNs
 by_cases h:ns=ms
 · subst h
   simp
 · rw [n17_ h];rw [Bool.and_eq_false_iff]
   by_cases hl:ns.length=ms.length
   · left
     rw [Bool.eq_false_iff];intro z;rw [n48_] at z;apply h
     apply List.ext_getElem hl
     intro i h1 h2
     have:=z i (by simp; omega)
     simpa [h1,h2] using this
   · right
     simpa using hl
def rEqT (K:PySem.W.Frag) (neg:Bool):R2:=fun x y H Q=>∃ (a b:Addr) (ns ms:List Int),x=.ref a∧y=.ref b∧SqT K H a (ns.map V.int)∧SqT K H b (ms.map V.int)∧Q (.bl (if neg then !decide (ns=ms) else decide (ns=ms))) H
theorem Zgq {A:Around} {s:Shared} {ns ms:List Int} {us ws:List Value} (r1:Vals (ns.map V.int) us) (r2:Vals (ms.map V.int) ws) (j:Nat) (h1:j < us.toArray.size) (h2:j < ws.toArray.size):SeqAt.EqAt A s us.toArray[j] ws.toArray[j] (ns.getD j 0 == ms.getD j 0):=by
 simp only [n12_] at h1 h2;simp only [List.getElem_toArray];obtain ⟨t,e⟩:=Ze0 r1 j h1;obtain ⟨t',e'⟩:=Ze0 r2 j h2;rw [e,e'];exact SeqAt.EqAt.int_int _ _ _ _
theorem Zoi (hu:X.A.units < cLine):OpR X (compareOp .Eq) (rEqT X.K false):=by
 intro pins s σ H x y v u Q I rx ry h;obtain ⟨a,b,ns,ms,rfl,rfl,h1,h2,q⟩:=h;cases rx; cases ry
 obtain ⟨us,r1,p1,_⟩:=I.tuple h1;obtain ⟨ws,r2,p2,_⟩:=I.tuple h2;refine SeqAt.eq_tupleAt (e:=fun j=>ns.getD j 0 == ms.getD j 0) p1 p2 hu (fun j h1 h2=>Zgq r1 r2 j h1 h2) ⟨.bl _,H,I,rfl,?_⟩;have l1:=r1.length;have l2:=r2.length;rw [n2_] at l1 l2;rw [n12_,n12_,← l1,← l2];rw [show ((List.range (min ns.length ms.length)).all (fun j=>ns.getD j 0 == ms.getD j 0) && ns.length == ms.length)=eqNs ns ms from rfl,Zi7];exact q
theorem Zqy (hu:X.A.units < cLine):OpR X (compareOp .NotEq) (rEqT X.K true):=by
 intro pins s σ H x y v u Q I rx ry h;obtain ⟨a,b,ns,ms,rfl,rfl,h1,h2,q⟩:=h;cases rx; cases ry
 obtain ⟨us,r1,p1,_⟩:=I.tuple h1;obtain ⟨ws,r2,p2,_⟩:=I.tuple h2;refine SeqAt.RcNeAt.tuples (e:=fun j=>ns.getD j 0 == ms.getD j 0) p1 p2 hu (fun j h1 h2=>Zgq r1 r2 j h1 h2) _ _ _ _ ⟨.bl _,H,I,rfl,?_⟩;have l1:=r1.length;have l2:=r2.length;rw [n2_] at l1 l2;rw [n12_,n12_,← l1,← l2];rw [show ((List.range (min ns.length ms.length)).all (fun j=>ns.getD j 0 == ms.getD j 0) && ns.length == ms.length)=eqNs ns ms from rfl,Zi7];exact q
theorem Y4:Zbe X (.builtin "isinstance") (fun xs H Q=>∃ x T t b,xs=[x,.ty T]∧TyOf X.K H x t∧PySem.W.kitOne X.K t (.type T)=some b∧Q (.bl b) H):=by
 intro pins s σ H xs us Q I r h;obtain ⟨x,T,t,b,rfl,ty,e,q⟩:=h;cases r with
 | cons rx r =>
   cases r with
   | cons ry r =>
     cases r
     cases (show _=Value.type T from ry)
     exact Zl7 I rx ty e fun tk=>⟨.bl b,H,I.tok _,rfl,q⟩
theorem Zcd:∀ {bs:List Bool} {us:List Value} {i:Nat} {v:Value},Vals (bs.map V.bl) us→us[i]? = some v→∃ b,bs[i]? = some b∧v=Value.bool b
 | [],_,i,v,.nil,e=>by simp at e
 | b :: bs,u :: us,0,v,.cons r t,e=>by
   simp at e; subst e;exact ⟨b,rfl,r⟩
 | b :: bs,u :: us,i+1,v,.cons r t,e=>by
   obtain ⟨c,h1,h2⟩:=Zcd t (by simpa using e);exact ⟨c,by simpa using h1,h2⟩
theorem Zef:∀ (bs:List Bool),((List.range bs.length).all fun i=>(bs[i]?).getD true)=bs.all id
 | []=>rfl
 | b :: bs=>by
   rw [n23_,List.range_succ_eq_map,List.all_cons,List.all_map,List.all_cons,← Zef bs];rfl
theorem Zh1 {s:Shared} {h':Heap} {o:Obj} (hk:∀ b x,b∉[s.heap.objs.size]→(s.heap.push o).get? b=some x→h'.get? b=some x):∀ b x,s.heap.get? b=some x→h'.get? b=some x :=
 fun b x e=>hk b x (fun hm=>by rw [n13_.mp hm] at e; exact n98_ _ (n28_ e)) (n4_ _ e)
theorem Xs (hc:X.calm=true):Zbe X (.builtin "all") (fun xs H Q=>∃ (p:Addr) (bs:List Bool),xs=[.ref p]∧SqL X.K H p (bs.map V.bl)∧Q (.bl (bs.all id)) H):=by
 intro pins s σ H xs us Q I r h;obtain ⟨p,bs,rfl,hq,q⟩:=h;cases r with
 | cons rx r =>
   cases r
   cases (show _=Value.ref p from rx)
   obtain ⟨its,rv,pl,hz⟩:=I.list hq;have hl:=pl.isList;have hlt:p < s.heap.objs.size:=by obtain ⟨_,e,_⟩:=hl; exact n28_ e
   have hh:X.A.handled=none:=I.ok.hd hc;refine call_all_walk (wpAny_pyIter_list hl ?_)
   refine ⟨s.heap.objs.size,[s.heap.objs.size,p],[s.heap.objs.size],its.toArray.size,_,_,fun i=>(bs[i]?).getD true,rfl,Walks.list (A:=X.A.in1) hh _ p (n50_ hlt) its.toArray,
    ⟨⟨_,n25_ _ rfl,rfl,rfl⟩,hl.push _⟩,fun i v s' Q' E' hP hQ=>?_,fun h' tk hk=>?_⟩
   · obtain ⟨b,e,rfl⟩:=Zcd rv (show its[i]? = some v by simpa using hP);simp only [e,Option.getD_some] at hQ;exact wpAny_truthy_bool hQ
   · have e:((List.range its.toArray.size).all fun i=>(bs[i]?).getD true)=bs.all id:=by
      rw [n12_,← rv.length,n2_]; exact Zef bs
     rw [e];exact ⟨.bl _,H,I.kept (Zh1 hk),rfl,q⟩
end
structure Cal (P:Program) (w:World) (K:PySem.W.Frag) (mg:Str→Option Value) (base:Heap) (x:Str) (k:Nat) (ps:List Str) (sp:Sp):Prop where
 ex:∃ (f:Addr) (fd:FuncData),FnOk P w K mg base CX0 k f fd ps sp∧mg x=some (.ref f)∧PySem.W.keepIn K (.ref f)=true∧Binds K fd ps []
theorem Zi {X:Cx} {x:Str} {k j:Nat} {ps:List Str} {sp:Sp} {p pos:Pos} {e:Expr} {es:List Expr} {t:TA} (C:Cal X.prog X.w X.K X.mg X.base x k ps sp) (hr:Room j X.A) (hj:k≤j) (hg:Gl X x) (ha:PA X (e :: es) t)
 (hdb:(x == ("__debug__" : Str))=false:=by decide) (he:starEach (e :: es) X.env=(false,eval e X.env) :: starEach es X.env:=by rfl) (hpl:(backTo pos (starEach es X.env)).any (·.1)=false:=by rfl) :
 PE X (.Call (.Name x p) (e :: es) [] pos) (fun σ H Q=>t σ H fun vs H1=>sp vs H1 Q E0):=by
 obtain ⟨f,fd,F,hm,hk,hb⟩:=C.ex;have h:=Zo8 (dvs:=[]) (E:=E0) (p:=p) F (hr.mono hj) hg hm hk hb .nil Zrd ha hdb he hpl;intro pins s σ H Q I hw;refine h pins s σ H Q I ?_;unfold Zp9
 simpa only [List.append_nil] using hw
end L2
namespace L2
open PySem PySem.Spec PyProof.Rows
structure FunD (K:PySem.W.Frag) (x qual:Str) (st:Stmt) (f:Addr) (fd:FuncData):Prop where
 ex:∃ (oc:Value) (od:Option Addr) (dV kV doc pm:Value) (an:Option Addr) (cdv ct:Value) (osl:Array (Option Value)),
  fd=PySem.W.fnOf x qual (Y6 st) (Yr st) (Ze st) dV kV doc pm an cdv ct∧K.lookup f=some ⟨oc,od,.func fd,osl⟩∧PySem.W.codeIn K cdv qual=true
 kp:PySem.W.keepIn K (.ref f)=true
section
variable {P:Program} {w:World} {K:PySem.W.Frag} {mg:Str→Option Value} {base:Heap}
theorem FunD.ok {x qual:Str} {st:Stmt} {f:Addr} {fd:FuncData} {N ps:List Str} {k:Nat} {sp:Sp} (F:FunD K x qual st f fd) (S:FnScope N ps (Ze st)) (len:∀ vs H Q E,sp vs H Q E→vs.length=ps.length)
 (hbody:∀ (cdv:Value) (A:Around) (outer:List Env) (s:Shared) (H:Hp) (vs:List V) (Q:VK) (E:XK),Room k (A.deeper (envOfC qual (Ze st) s.heap.objs.size f cdv))→sp vs H Q E →
   ∃ t,PSs (cxOf CX0 P w K mg base N qual (Ze st) f cdv A outer s H E).nox (Yr st) t∧t { nx:=fun _ H'=>Q .non H',rt:=Q } (Zcy N vs) H):FnOk P w K mg base CX0 (k+1) f fd ps sp:=by
 obtain ⟨oc,od,dV,kV,doc,pm,an,cdv,ct,osl,rfl,lk,hcd⟩:=F.ex;refine Zpn lk hcd S len fun A outer s H vs Q E hr hsp=>?_;obtain ⟨t,h,q⟩:=hbody cdv A outer s H vs Q E hr hsp;exact ⟨t,h.nox,q⟩
theorem Zpm {x qual:Str} {st:Stmt} {f:Addr} {oc:Value} {od an:Option Addr} {osl:Array (Option Value)} {dV kV doc pm cdv ct:Value} (l:K.lookup f=some ⟨oc,od,.func (PySem.W.fnOf x qual (Y6 st) (Yr st) (Ze st) dV kV doc pm an cdv ct),osl⟩)
 (c:PySem.W.codeIn K cdv qual=true) (k:PySem.W.keepIn K (.ref f)=true):FunD K x qual st f (PySem.W.fnOf x qual (Y6 st) (Yr st) (Ze st) dV kV doc pm an cdv ct):=⟨⟨oc,od,dV,kV,doc,pm,an,cdv,ct,osl,rfl,l,c⟩,k⟩
end
def Keep (l:Addr) (H H':Hp):Prop:=∀ b o,b≠l→H b=some o→H' b=some o
theorem Keep.refl (l:Addr) (H:Hp):Keep l H H:=fun _ _ _ h=>h
theorem Keep.trans {l:Addr} {H H1 H2:Hp} (a:Keep l H H1) (b:Keep l H1 H2):Keep l H H2:=fun c o n h=>b c o n (a c o n h)
theorem Keep.new {l p:Addr} {H:Hp} {o:HO} (h:H p=none):Keep l H (upd H p o):=fun b u _ e=>by rw [Zo (Zk e h)]; exact e
theorem Keep.upd {l:Addr} {H:Hp} {o:HO}:Keep l H (upd H l o):=fun b u n e=>by rw [Zo n]; exact e
theorem Same.new {p:Addr} {H:Hp} {o:HO} (h:H p=none):Same H (upd H p o):=fun b u e=>by rw [Zo (Zk e h)]; exact e
theorem Same.keep {l:Addr} {H H':Hp} (s:Same H H'):Keep l H H':=fun b o _ e=>s b o e
end L2
namespace L2
open PySem PySem.Spec PyProof.Rows
theorem Zdg:∀ (xs:List PyData),(PyData.shownAll xs).length=xs.length
 | []=>rfl
 | _ :: xs=>by simp only [PyData.shownAll,n23_,Zdg xs]
section
variable {X:Cx}
end
end L2
namespace L2
open PySem PySem.Spec PyProof.Rows
end L2
namespace L2
open PySem PySem.Spec PyProof.Rows
def Y8 (cells:List (Str×Addr)) (names:List (Str×NameKind)):List (Str×Addr):=((names.filter (fun y=>y.2 == .free)).map fun y=>(y.1,(cells.lookup y.1).getD 0)).reverse
theorem Zcw {env:Env}:∀ (names:List (Str×NameKind)) (acc:List (Str×Addr)),(∀ y∈names,y.2=.free→∃ c,env.cells.lookup y.1=some c) →
 (forIn names acc (fun (x:Str×NameKind) (r:List (Str×Addr))=>do
   if x.2 == .free then do
    let a ← cellOf env x.1
    pure (ForInStep.yield ((x.1,a) :: r))
   else pure (ForInStep.yield r)):Sem (List (Str×Addr)))=pure (Y8 env.cells names++acc)
 | [],acc,_=>rfl
 | (n,k) :: rest,acc,h=>by
   have ih:=fun acc=>Zcw rest acc fun y hy=>h y (n8_ _ hy);rw [List.forIn_cons]
   by_cases hk:k=.free
   · subst hk;obtain ⟨c,hc⟩:=h (n,.free) n7_ rfl;have e:cellOf env n=pure c:=by unfold cellOf; rw [hc]
     have e2:Y8 env.cells ((n,.free) :: rest)=Y8 env.cells rest++[(n,c)]:=by
      unfold Y8;rw [List.filter_cons_of_pos (by rfl),n69_,List.reverse_cons,hc];rfl
     simp only [beq_self_eq_true,if_true,e,pure_bind];rw [ih,e2,List.append_assoc];rfl
   · have b:(k == NameKind.free)=false:=by simpa using hk
     have e2:Y8 env.cells ((n,k) :: rest)=Y8 env.cells rest:=by
      unfold Y8;rw [List.filter_cons_of_neg (by simpa using hk)]
     simp only [b,Bool.false_eq_true,if_false,pure_bind];rw [ih,e2]
theorem Zcz {scope:Scope} {env:Env} (h:∀ y∈scope.names,y.2=.free→∃ c,env.cells.lookup y.1=some c):closureFor scope env=pure (Y8 env.cells scope.names):=by
 have e:=Zcw scope.names [] h;rw [List.append_nil] at e;unfold closureFor
 first
  | (rw [← e]; rfl)
  | (simp only [bind_pure]; exact e)
  | simpa using e
end L2
namespace L2
open PySem PySem.Spec PyProof.Rows
mutual
inductive Dt (N:Addr→Prop) (H:Hp) (k:Nat):V→PyData→Prop
 | non:Dt N H k .non .none
 | bl (b:Bool):Dt N H k (.bl b) (.bool b)
 | int {i:Int}:i.natAbs < 2 ^ k→Dt N H k (.int i) (.int i)
 | str (x:Str):Dt N H k (.str x) (.str x)
 | tup {a:Addr} {xs:List V} {ds:List PyData}:H a=some (.tup xs)→Dts N H k xs ds→Dt N H k (.ref a) (.tuple ds)
 | lst {a:Addr} {xs:List V} {ds:List PyData}:H a=some (.lst xs)→¬ N a→a≠sysModules→Dts N H k xs ds→Dt N H k (.ref a) (.list ds)
 | dic {a:Addr}:H a=some (.dK [])→Dt N H k (.ref a) (.dict [])
inductive Dts (N:Addr→Prop) (H:Hp) (k:Nat):List V→List PyData→Prop
 | nil:Dts N H k [] []
 | cons {x:V} {xs:List V} {d:PyData} {ds:List PyData}:Dt N H k x d→Dts N H k xs ds→Dts N H k (x :: xs) (d :: ds)
end
variable {N:Addr→Prop} {k:Nat}
mutual
theorem Dt.reads {X:Cx} {pins:List (Addr×Obj)} {σ:St} {H:Hp} {s:Shared} (I:Inv X pins σ H s):∀ {v:V} {d:PyData} {u:Value},Dt N H k v d→RelV v u→∃ as,Reads s.heap u d as∧sysModules∉as
 | _,_,_,.non,r=>by cases r; exact ⟨_,.none,by simp⟩
 | _,_,_,.bl b,r=>by cases r; exact ⟨_,.bool b,by simp⟩
 | _,_,_,.int (i:=i) _,r=>by obtain ⟨t,rfl⟩:=r; exact ⟨_,.int i t,by simp⟩
 | _,_,_,.str x,r=>by obtain ⟨t,rfl⟩:=r; exact ⟨_,.str x t,by simp⟩
 | _,_,_,.tup (a:=a) (xs:=xs) h rs,r=>by
   cases r
   obtain ⟨_,its,rv,o,e,hc,n,hd⟩:=(show ObjOk X.prog X.w H s.heap a (.tup xs) from I.hok a _ h);obtain ⟨as,ra,na⟩:=Dts.reads I rs rv;exact ⟨_,.tuple e hc hd (by simpa using ra),na⟩
 | _,_,_,.lst (a:=a) (xs:=xs) h _ ns rs,r=>by
   cases r
   obtain ⟨_,its,n,rv,e⟩:=(show ObjOk X.prog X.w H s.heap a (.lst xs) from I.hok a _ h);obtain ⟨as,ra,na⟩:=Dts.reads I rs rv
   exact ⟨_,.list e rfl rfl (by simpa using ra),by
    intro hm
    rcases n31_.mp hm with e | e
    · exact ns e.symm
    · exact na e⟩
 | _,_,_,.dic (a:=a) h,r=>by
   cases r
   obtain ⟨_,hS,vs,rel,o,es,ep,e,ex,hd,_,he,_⟩:=(show ObjOk X.prog X.w H s.heap a (.dK []) from I.hok a _ h);cases rel
   have hes:es.toList=[]:=by
    generalize es.toList=z at he;cases he
    rfl
   refine ⟨_,.dict (kvs:=[]) (as:=[]) (bs:=[]) e ex.1 hd (by rw [hes]; exact .nil) (by rw [hes]; exact .nil),?_⟩;intro hm
   have:sysModules=a:=by simpa using hm
   rw [this] at hS;simp at hS
theorem Dts.reads {X:Cx} {pins:List (Addr×Obj)} {σ:St} {H:Hp} {s:Shared} (I:Inv X pins σ H s):∀ {vs:List V} {ds:List PyData} {us:List Value},Dts N H k vs ds→Vals vs us→∃ as,ReadsAll s.heap us ds as∧sysModules∉as
 | _,_,_,.nil,.nil=>⟨_,.nil,by simp⟩
 | _,_,_,.cons r rs,.cons q qs=>by
   obtain ⟨as,ra,na⟩:=Dt.reads I r q;obtain ⟨bs,rb,nb⟩:=Dts.reads I rs qs
   exact ⟨_,.cons ra rb,by
    intro hm
    rcases n29_.mp hm with e | e
    · exact na e
    · exact nb e⟩
end
mutual
theorem Dt.same {H H':Hp} (s:Same H H'):∀ {v:V} {d:PyData},Dt N H k v d→Dt N H' k v d
 | _,_,.non=>.non
 | _,_,.bl b=>.bl b
 | _,_,.int h=>.int h
 | _,_,.str x=>.str x
 | _,_,.tup h r=>.tup (s _ _ h) (Dts.same s r)
 | _,_,.lst h n m r=>.lst (s _ _ h) n m (Dts.same s r)
 | _,_,.dic h=>.dic (s _ _ h)
theorem Dts.same {H H':Hp} (s:Same H H'):∀ {vs:List V} {ds:List PyData},Dts N H k vs ds→Dts N H' k vs ds
 | _,_,.nil=>.nil
 | _,_,.cons r rs=>.cons (Dt.same s r) (Dts.same s rs)
end
mutual
theorem Dt.keep {H H':Hp} {l:Addr} {ys:List V} (hN:N l) (hl:H l=some (.lst ys)) (s:Keep l H H'):∀ {v:V} {d:PyData},Dt N H k v d→Dt N H' k v d
 | _,_,.non=>.non
 | _,_,.bl b=>.bl b
 | _,_,.int h=>.int h
 | _,_,.str x=>.str x
 | _,_,.tup h r=>.tup (s _ _ (Zhw h hl (by intro z; cases z)) h) (Dts.keep hN hl s r)
 | _,_,.lst h n m r=>.lst (s _ _ (fun z=>n (z ▸ hN)) h) n m (Dts.keep hN hl s r)
 | _,_,.dic h=>.dic (s _ _ (Zhw h hl (by intro z; cases z)) h)
theorem Dts.keep {H H':Hp} {l:Addr} {ys:List V} (hN:N l) (hl:H l=some (.lst ys)) (s:Keep l H H'):∀ {vs:List V} {ds:List PyData},Dts N H k vs ds→Dts N H' k vs ds
 | _,_,.nil=>.nil
 | _,_,.cons r rs=>.cons (Dt.keep hN hl s r) (Dts.keep hN hl s rs)
end
mutual
theorem Dt.up {H:Hp} {k':Nat} (hk:k≤k'):∀ {v:V} {d:PyData},Dt N H k v d→Dt N H k' v d
 | _,_,.non=>.non
 | _,_,.bl b=>.bl b
 | _,_,.int h=>.int (n16_ h (n11_ (by decide) hk))
 | _,_,.str x=>.str x
 | _,_,.tup h r=>.tup h (Dts.up hk r)
 | _,_,.lst h n m r=>.lst h n m (Dts.up hk r)
 | _,_,.dic h=>.dic h
theorem Dts.up {H:Hp} {k':Nat} (hk:k≤k'):∀ {vs:List V} {ds:List PyData},Dts N H k vs ds→Dts N H k' vs ds
 | _,_,.nil=>.nil
 | _,_,.cons r rs=>.cons (Dt.up hk r) (Dts.up hk rs)
end
theorem Dts.app {H:Hp}:∀ {xs ys:List V} {ds es:List PyData},Dts N H k xs ds→Dts N H k ys es→Dts N H k (xs++ys) (ds++es)
 | _,_,_,_,.nil,h=>h
 | _,_,_,_,.cons r rs,h=>.cons r (Dts.app rs h)
theorem Dts.len {H:Hp}:∀ {xs:List V} {ds:List PyData},Dts N H k xs ds→xs.length=ds.length
 | _,_,.nil=>rfl
 | _,_,.cons _ rs=>by rw [n23_,n23_,Dts.len rs]
theorem Dts.take {H:Hp}:∀ {xs:List V} {ds:List PyData} (n:Nat),Dts N H k xs ds→Dts N H k (xs.take n) (ds.take n)
 | _,_,0,_=>by rw [List.take_zero,List.take_zero]; exact .nil
 | _,_,_+1,.nil=>.nil
 | _,_,n+1,.cons r rs=>by rw [List.take_succ_cons,List.take_succ_cons]; exact .cons r (Dts.take n rs)
theorem Dts.drop {H:Hp}:∀ {xs:List V} {ds:List PyData} (n:Nat),Dts N H k xs ds→Dts N H k (xs.drop n) (ds.drop n)
 | _,_,0,h=>h
 | _,_,_+1,.nil=>.nil
 | _,_,n+1,.cons r rs=>by rw [List.drop_succ_cons,List.drop_succ_cons]; exact Dts.drop n rs
theorem Dts.rev {H:Hp}:∀ {xs:List V} {ds:List PyData},Dts N H k xs ds→Dts N H k xs.reverse ds.reverse
 | _,_,.nil=>.nil
 | _,_,.cons r rs=>by rw [List.reverse_cons,List.reverse_cons]; exact Dts.app (Dts.rev rs) (.cons r .nil)
theorem Dts.get {H:Hp}:∀ {xs:List V} {ds:List PyData} {n:Nat} {v:V},Dts N H k xs ds→xs[n]? = some v→∃ d,ds[n]? = some d∧Dt N H k v d
 | _,_,_,_,.nil,h=>by simp at h
 | _,_,0,_,.cons r rs,h=>by simp at h; subst h; exact ⟨_,rfl,r⟩
 | _,_,n+1,_,.cons r rs,h=>by
   obtain ⟨d,e,q⟩:=Dts.get rs (by simpa using h);exact ⟨d,by simpa using e,q⟩
mutual
def nz:PyData→Nat
 | .none=>1
 | .bool _=>1
 | .int _=>1
 | .str x=>(reprText x).length
 | .list xs=>1+Zr xs
 | .tuple xs=>1+Zr xs
 | .dict _=>1
def Zr:List PyData→Nat
 | []=>0
 | x :: xs=>nz x+1+Zr xs
end
theorem Yx (xs ys:List PyData):Zr (xs++ys)=Zr xs+Zr ys:=by
 induction xs with
 | nil=>simp [Zr]
 | cons x xs ih=>simp only [n80_,Zr,ih]; omega
theorem Zhb (xs:List PyData):Zr xs.reverse=Zr xs:=by
 induction xs with
 | nil=>rfl
 | cons x xs ih=>rw [List.reverse_cons,Yx,ih]; simp only [Zr]; omega
theorem Zj1 (n:Nat) (xs:List PyData):Zr (xs.take n)≤Zr xs:=by
 have:=Yx (xs.take n) (xs.drop n)
 rw [List.take_append_drop] at this;omega
theorem Zj7 (n:Nat) (xs:List PyData):Zr (xs.drop n)≤Zr xs:=by
 have:=Yx (xs.take n) (xs.drop n)
 rw [List.take_append_drop] at this;omega
theorem Z9 (xs ys:List PyData):PyData.depthAll (xs++ys)=max (PyData.depthAll xs) (PyData.depthAll ys):=by
 induction xs with
 | nil=>simp [PyData.depthAll]
 | cons x xs ih=>simp only [n80_,PyData.depthAll,ih]; omega
theorem Zcv (xs:List PyData):PyData.depthAll xs.reverse=PyData.depthAll xs:=by
 induction xs with
 | nil=>rfl
 | cons x xs ih=>rw [List.reverse_cons,Z9,ih]; simp only [PyData.depthAll]; omega
theorem Zbw (n:Nat) (xs:List PyData):PyData.depthAll (xs.take n)≤PyData.depthAll xs:=by
 have:=Z9 (xs.take n) (xs.drop n)
 rw [List.take_append_drop] at this;omega
theorem Zbz (n:Nat) (xs:List PyData):PyData.depthAll (xs.drop n)≤PyData.depthAll xs:=by
 have:=Z9 (xs.take n) (xs.drop n)
 rw [List.take_append_drop] at this;omega
theorem Zcb {i:Int} {n:Nat} (h:i.natAbs < 2 ^ n) (hn:n < 1920):i.natAbs.log2 < 1920:=by
 rcases Nat.eq_zero_or_pos n with rfl | hp
 · have:i.natAbs=0:=by simpa using h
   rw [this]; decide
 · by_cases h0:i.natAbs=0
   · rw [h0]; decide
   · exact Nat.lt_trans ((Nat.log2_lt h0).mpr h) hn
mutual
theorem Dt.showable {H:Hp} (hk:k < 1920):∀ {v:V} {d:PyData},Dt N H k v d→d.showable=true
 | _,_,.non=>rfl
 | _,_,.bl b=>rfl
 | _,_,.int h=>n14_ (Zcb h hk)
 | _,_,.str x=>rfl
 | _,_,.tup h r=>Dts.showable hk r
 | _,_,.lst h n m r=>Dts.showable hk r
 | _,_,.dic h=>rfl
theorem Dts.showable {H:Hp} (hk:k < 1920):∀ {vs:List V} {ds:List PyData},Dts N H k vs ds→PyData.showableAll ds=true
 | _,_,.nil=>rfl
 | _,_,.cons r rs=>by
   show (_ && _)=true
   rw [Dt.showable hk r,Dts.showable hk rs]; rfl
end
mutual
theorem Dt.shownLen {H:Hp} (hk:k < 1920):∀ {v:V} {d:PyData},Dt N H k v d→d.shown.length≤2000 * nz d
 | _,_,.non=>by decide +kernel
 | _,_,.bl true=>by decide +kernel
 | _,_,.bl false=>by decide +kernel
 | _,_,.int (i:=i) h=>by
   have:=int_text_length_le (by decide) (Zcb h hk)
   show (Str.ofString (toString i)).length≤2000 * 1
   rw [PySem.ofString_length];omega
 | _,_,.str x=>by
   show (reprText x).length≤2000 * (reprText x).length
   omega
 | _,_,.tup (ds:=ds) h r=>by
   have:=Dts.shownLen hk r
   have z:=tupleText_len_le (PyData.shownAll ds);rw [Zdg] at z;show (tupleText (PyData.shownAll ds)).length≤2000 * (1+Zr ds)
   omega
 | _,_,.lst (ds:=ds) h n m r=>by
   have:=Dts.shownLen hk r
   have z:=listText_len_le (PyData.shownAll ds);rw [Zdg] at z;show (listText (PyData.shownAll ds)).length≤2000 * (1+Zr ds)
   omega
 | _,_,.dic h=>by decide +kernel
theorem Dts.shownLen {H:Hp} (hk:k < 1920):∀ {vs:List V} {ds:List PyData},Dts N H k vs ds→((PyData.shownAll ds).map (·.length)).sum+2 * ds.length≤2000 * Zr ds
 | _,_,.nil=>by simp [PyData.shownAll,Zr]
 | _,_,.cons r rs=>by
   have a:=Dt.shownLen hk r;have b:=Dts.shownLen hk rs;simp only [PyData.shownAll,Zr,n69_,n57_,n23_];omega
end
section
variable {X:Cx}
theorem Xo {j:Nat} (hr:Room j X.A):Zbe X (.builtin "repr") (fun xs H Q=>∃ N k v d,xs=[v]∧Dt N H k v d∧k < 1920∧d.depth≤20∧nz d≤8000∧Q (.str d.shown) H):=by
 intro pins s σ H xs us Q I r h;obtain ⟨N,k,v,d,rfl,rd,hk,h3,h4,q⟩:=h;have h1:=rd.showable hk
 have hz:d.shown.length≤sizeLine:=by
  have:=rd.shownLen hk
  have e:sizeLine=16777216:=sizeLine_eq;omega
 cases r with
 | cons rx r =>
   cases r
   have hu:=hr.un;have R:=Dt.reads I rd rx
   have go:∀ a,RelV v (Value.ref a)→wpAny (model X.prog X.w) X.A (call (.builtin "repr") [Value.ref a]) (EP X pins σ Q) X.xe s:=fun a rx=>by
    obtain ⟨as,ra,na⟩:=Dt.reads I rd rx;exact repr_of_reads' ra h1 (fun _=>na) hr.gd (by omega) (fun _ _ e=>e) (fun h' u tk hk=>⟨.str _,H,I.kept hk,⟨_,rfl⟩,q⟩) hz
   cases rd with
   | non=>cases (show _=Value.none from rx); exact PySem.P.repr_of_none ⟨.str _,H,I.tok _,⟨_,rfl⟩,q⟩
   | bl b=>cases (show _=Value.bool b from rx); exact PySem.P.repr_of_bool ⟨.str _,H,I.tok _,⟨_,rfl⟩,q⟩
   | int hi=>obtain ⟨t,rfl⟩:=(show ∃ t,_=Value.int _ t from rx); exact PySem.P.repr_of_int (Zcb hi hk) ⟨.str _,H,I.tok _,⟨_,rfl⟩,q⟩
   | str x=>obtain ⟨t,rfl⟩:=(show ∃ t,_=Value.str x t from rx); exact PySem.P.repr_of_str ⟨.str _,H,I.tok _,⟨_,rfl⟩,q⟩ hz
   | tup h rs=>cases (show _=Value.ref _ from rx); exact go _ rx
   | lst h n m rs=>cases (show _=Value.ref _ from rx); exact go _ rx
   | dic h=>cases (show _=Value.ref _ from rx); exact go _ rx
end
end L2
namespace HT
open PySem PyProof.Rows
section
variable {prog:Program} {w:World} {A:Around} {E:Value→Shared→Prop} {s:Shared}
theorem Zhy (n:Nat):Builtin.Slice.sliceAdjust none none (-1) (n:Int)=((n:Int) - 1,-1):=by
 unfold Builtin.Slice.sliceAdjust
 simp
theorem Zhu (n:Nat):Builtin.Slice.slicePlaces ((n:Int) - 1) (-1) (-1)=n:=by
 unfold Builtin.Slice.slicePlaces;have h1:¬ ((-1:Int) > 0):=by omega
 simp only [h1,if_false];split
 · rw [show -(-1:Int)=1 by decide,Int.ediv_one]; omega
 · omega
theorem Zck {sl:Addr} {n:Nat} {t:Tok} {Q:Int×Int×Nat→Shared→Prop} (hs:s.heap.IsSliceOf sl .none .none (.int (-1) t))
 (h:Q ((n:Int) - 1,-1,n) s):wpAny (model prog w) A (Builtin.Slice.sliceApplied (.ref sl) (pure (n:Int))) Q E s:=by
 obtain ⟨os,hos,hcs,hds⟩:=id hs;unfold Builtin.Slice.sliceApplied Builtin.Slice.sliceFields;refine n3_ (n3_ (wpAny_field hos hds (x:=.none) rfl (n3_ (wpAny_field hos hds (x:=.none) rfl (n3_ (wpAny_field hos hds (x:=.int (-1) t) rfl (n20_ ?_)))))));refine n3_ (slicePart_int ?_);show wpAny _ _ (if ((-1:Int) == 0)=true then _ else _) _ _ s
 rw [if_neg (by decide)];refine n3_ (slicePart_none (n3_ (slicePart_none (n3_ (n20_ ?_)))));show wpAny _ _ (match Builtin.Slice.sliceAdjust none none (-1) (n:Int) with | (lo,hi)=>pure (lo,(-1:Int),Builtin.Slice.slicePlaces lo hi (-1))) _ _ s
 rw [Zhy n];show wpAny _ _ (pure ((n:Int) - 1,(-1:Int),Builtin.Slice.slicePlaces ((n:Int) - 1) (-1) (-1))) _ _ s
 rw [Zhu];exact n20_ h
theorem Zod {α β:Type} (f:α→Option β) (g:α→β):∀ (xs:List α),(∀ x∈xs,f x=some (g x))→xs.filterMap f=xs.map g
 | [],_=>rfl
 | x :: xs,h=>by
   rw [List.filterMap_cons,h x (n7_ ..),Zod f g xs (fun y hy=>h y (n8_ _ hy))];rfl
theorem Zmg (xs:Array Value):((List.range xs.size).filterMap fun (m:Nat)=>xs[(((xs.size:Int) - 1)+(m:Int) * (-1)).toNat]?).toArray=xs.toList.reverse.toArray:=by
 congr 1
 refine List.ext_getElem? fun i=>?_
 have e:((List.range xs.size).filterMap fun (m:Nat)=>xs[(((xs.size:Int) - 1)+(m:Int) * (-1)).toNat]?)=(List.range xs.size).map (fun m=>xs.getD (xs.size - 1 - m) .none):=by
  refine Zod _ _ _ fun m hm=>?_;have hm':m < xs.size:=List.mem_range.mp hm;have z:(((xs.size:Int) - 1)+(m:Int) * (-1)).toNat=xs.size - 1 - m:=by omega
  have hlt:xs.size - 1 - m < xs.size:=by omega
  rw [z,Array.getElem?_eq_getElem hlt,Array.getD,dif_pos hlt];rfl
 rw [e,n5_]
 by_cases hi:i < xs.size
 · have hlt:xs.size - 1 - i < xs.size:=by omega
   rw [List.getElem?_range hi,List.getElem?_reverse (by simpa using hi),Array.length_toList,Array.getElem?_toList,Array.getElem?_eq_getElem hlt];show some (xs.getD (xs.size - 1 - i) .none)=_
   rw [Array.getD,dif_pos hlt];rfl
 · rw [n94_ (by simpa using hi),n94_ (by simpa using hi)];rfl
theorem getItem_tuple_back {t sl:Addr} {items:Array Value} {tk:Tok} {Q:Value→Shared→Prop} (ht:IsTup s.heap t items) (hs:s.heap.IsSliceOf sl .none .none (.int (-1) tk))
 (h:Q (.ref s.heap.objs.size) { s with heap:=s.heap.push { cls:=.type "tuple",data:=.seq items.toList.reverse.toArray } })
 (hsz:items.size≤sizeLine):wpAny (model prog w) A (getItem (.ref t) (.ref sl)) Q E s:=by
 have htake:sizeOk (.seq items.toList.reverse.toArray):=by
  show items.toList.reverse.toArray.size≤sizeLine
  rw [n12_,List.length_reverse,Array.length_toList];omega
 obtain ⟨os,hos,hcs,hds⟩:=id hs;have hTs:s.TypeIs (.ref sl) "slice" := ⟨os,hos,hcs⟩;unfold getItem
 try with_reducible refine n86_ ?_
 first | refine n3_ (n20_ ?_) | skip
 refine n3_ (wpAny_sequenceKey ht.typeIs (by decide) ?_)
 refine n3_ (wpAny_callSpecial?_slot (name:=Str.ofString "__getitem__") ht.typeIs PyProof.Rows.slot_tuple_getitem
  (wpAny_call_entry PyProof.Rows.slot_tuple_getitem ht.typeIs entry_tuple_getitem ?_ (args_tuple_getitem _ _)))
 show wpAny _ _ (Builtin.Tuple.tupleItemsOf (.ref t) >>= _) _ _ s
 refine n3_ (tupleItemsOf_ ht ?_);refine n3_ (wpAny_typeOf hTs ?_);rw [if_pos (by decide)];refine n3_ (Zck hs ?_)
 have hno:¬ (((items.size:Int) - 1 == 0 && (-1:Int) == 1 && items.size == items.size)=true):=by
  intro q;rw [n40_,n40_] at q;exact absurd q.1.2 (by decide)
 show wpAny _ _ (if ((items.size:Int) - 1 == 0 && (-1:Int) == 1 && items.size == items.size)=true then _ else _) _ _ s
 rw [if_neg hno,Zmg]
 first
  | exact n3_ (m:=Builtin.Tuple.tupleExact _) (wpAny_newObj_type (n20_ ⟨_,rfl,n20_ h⟩) htake)
  | exact n3_ (m:=Builtin.Tuple.tupleExact _) (wpAny_newObj_type (n3_ (n20_ (n20_ ⟨_,rfl,n20_ h⟩))) htake)
  | exact n3_ (n3_ (m:=Builtin.Tuple.tupleExact _) (wpAny_newObj_type (n20_ (n20_ ⟨_,rfl,n20_ h⟩)) htake))
  | exact n3_ (n3_ (m:=Builtin.Tuple.tupleExact _) (wpAny_newObj_type (n20_ ⟨_,rfl,n20_ h⟩) htake))
theorem getItem_tuple_whole {t sl:Addr} {items:Array Value} {vl vu:Value} {lo hi:Option Int} {Q:Value→Shared→Prop} (ht:IsTup s.heap t items) (hs:s.heap.IsSliceOf sl vl vu .none) (pl:IsPart vl lo) (pu:IsPart vu hi)
 (hw:sIx items.size 0 lo=0∧sIx items.size items.size hi=items.size)
 (h:Q (.ref t) s):wpAny (model prog w) A (getItem (.ref t) (.ref sl)) Q E s:=by
 obtain ⟨os,hos,hcs,hds⟩:=id hs;have hTs:s.TypeIs (.ref sl) "slice" := ⟨os,hos,hcs⟩;unfold getItem
 try with_reducible refine n86_ ?_
 first | refine n3_ (n20_ ?_) | skip
 refine n3_ (wpAny_sequenceKey ht.typeIs (by decide) ?_)
 refine n3_ (wpAny_callSpecial?_slot (name:=Str.ofString "__getitem__") ht.typeIs PyProof.Rows.slot_tuple_getitem
  (wpAny_call_entry PyProof.Rows.slot_tuple_getitem ht.typeIs entry_tuple_getitem ?_ (args_tuple_getitem _ _)))
 show wpAny _ _ (Builtin.Tuple.tupleItemsOf (.ref t) >>= _) _ _ s
 refine n3_ (tupleItemsOf_ ht ?_);refine n3_ (wpAny_typeOf hTs ?_);rw [if_pos (by decide)];refine n3_ (Zas hs pl pu ?_);rw [hw.1,hw.2];have hyes:(((0:Nat):Int) == 0 && (1:Int) == 1 && (items.size - 0) == items.size)=true:=by simp
 show wpAny _ _ (if (((0:Nat):Int) == 0 && (1:Int) == 1 && (items.size - 0) == items.size)=true then _ else _) _ _ s
 rw [if_pos hyes];have hx:(Builtin.Tuple.tupleIsExact (.ref t))=(do pure ((← typeOf (.ref t)) == .type "tuple")):=by first | rfl | (unfold Builtin.Tuple.tupleIsExact; rfl)
 rw [hx];refine n3_ (n3_ (wpAny_typeOf ht.typeIs (n20_ ?_)));rw [if_pos (by decide)];exact n3_ (wpAny_rule (n20_ ⟨_,rfl,n20_ h⟩))
end
end HT
namespace L2
open PySem PySem.Spec PyProof.Rows
section
variable {X:Cx} {e:Expr} {es:List Expr} {te:TE} {t:TA} {pos p2:Pos}
theorem vrev:∀ {xs:List V} {us:List Value},Vals xs us→Vals xs.reverse us.reverse:=by
 have app:∀ {xs ys:List V} {us ws:List Value},Vals xs us→Vals ys ws→Vals (xs++ys) (us++ws):=by
  intro xs ys us ws h1 h2
  induction h1 with
  | nil=>exact h2
  | cons r _ ih=>exact .cons r ih
 intro xs us h
 induction h with
 | nil=>exact .nil
 | cons r _ ih=>rw [List.reverse_cons,List.reverse_cons]; exact app ih (.cons r .nil)
def Zos (te:TE) (K:PySem.W.Frag):TE:=fun σ H Q=>te σ H fun x H1=>∃ a xs,x=.ref a∧SqT K H1 a xs∧∀ p,H1 p=none→Q (.ref p) (upd H1 p (.tup xs.reverse))
theorem Zha {st:Expr} (hst:PE X st (fun _ H Q=>Q (.int (-1)) H)) (he:PE X e te):PE X (.Subscript e (.Slice none none (some st) p2) pos) (Zos te X.K):=by
 intro pins s σ H Q I h;refine Subscript_ (thn (he pins s σ H _ I h) fun v s1 ⟨x,H1,I1,r1,q1⟩=>?_);refine wpAny_Slice ?_;rw [evalPart_none,evalPart_some];refine n20_ (n20_ ?_);obtain ⟨a,xs,rfl,hx,q⟩:=q1;refine thn (hst pins s1 σ H1 (fun v H'=>v=.int (-1)∧H'=H1) I1 ⟨rfl,rfl⟩) fun u s3 ⟨y,H3,I3,ry,ey,eH⟩=>?_;subst ey eH;obtain ⟨tk,rfl⟩:=ry;cases r1
 have I4:Inv X pins σ H3 { s3 with heap:=s3.heap.push { cls:=.type "slice",data:=.fields #[.none,.none,.int (-1) tk] } }:=I3.kept (t':=s3.toks) fun b ob q=>n4_ _ q;obtain ⟨its,r,ht,hz⟩:=I4.tuple hx;have hlen:its.toArray.size=xs.length:=by rw [n12_]; exact r.length.symm
 show wpAny (model X.prog X.w) X.A (subscriptTail e (.Slice none none (some st) p2) (.ref a) (.ref s3.heap.objs.size)) (EP X pins σ Q) X.xe { s3 with heap:=s3.heap.push { cls:=.type "slice",data:=.fields #[.none,.none,.int (-1) tk] } }
 refine tail_any (ops:=[.ref a,.ref s3.heap.objs.size]) ht.typeIs PyProof.Rows.slot_tuple_getitem.lookup ?_ (by with_unfolding_all rfl);refine HT.getItem_tuple_back ht (Heap.IsSliceOf.new ..) ?_ (by rw [hlen]; exact hz);refine ⟨.ref _,_,I4.laid (t':=s3.toks) (o:=.tup xs.reverse) (fun b ob q=>n4_ _ q) (n9_ _) ?_,rfl,q _ (I4.hok.fresh (n9_ _))⟩;exact ⟨by rw [List.length_reverse]; exact hz,_,vrev r,IsTup.new _ _⟩
def Zq6:R2:=fun x y H Q=>∃ a b xs ys,x=.ref a∧y=.ref b∧H a=some (.tup xs)∧H b=some (.tup ys)∧xs.length+ys.length≤sizeLine∧∀ p H',Same H H'→H' p=some (.tup (xs++ys))→Q (.ref p) H'
theorem Zaw:OpR X (binaryOp .Add) Zq6:=by
 intro pins s σ H x y v u Q I rx ry h;obtain ⟨a,b,xs,ys,rfl,rfl,ha,hb,hz,q⟩:=h;cases rx
 cases ry
 obtain ⟨its,r1,p1,_⟩:=I.tuple (SqT.of ha);obtain ⟨its2,r2,p2,_⟩:=I.tuple (SqT.of hb)
 by_cases hx:xs=[]
 · subst hx;have e:its=[]:=r1.nil_iff.mpr rfl;subst e;obtain ⟨⟨cls,dd,data,sl⟩,ho,hc,n,hd⟩:=id p1;obtain ⟨⟨cls2,dd2,data2,sl2⟩,ho2,hc2,n2,hd2⟩:=id p2;simp only at hc hd hc2 hd2;subst hc hd hc2 hd2
   exact concat_meets ⟨_,ho,rfl⟩ ⟨_,ho2,rfl⟩ noFill_tuple_add seq_tuple_add PySem.F.slot_tuple_add PySem.F.entry_tuple_add (PySem.F.args_tuple_add_2 _ _)
    (tuple_addW0 a b _ its2.toArray n n2 dd dd2 sl sl2 (by simp)) ⟨ho,ho2,⟨.ref b,H,I,rfl,q b H (Same.refl H) hb⟩⟩
 · refine Zou pins s σ H (.ref a) (.ref b) _ _ Q I rfl rfl ⟨a,b,xs,ys,rfl,rfl,SqT.of ha,SqT.of hb,hx,hz,?_,?_⟩
   · rintro rfl
     exact q a H (Same.refl H) (by rw [List.append_nil]; exact ha)
   · intro _ p hp;exact q p _ (Same.new hp) Zc
def rSlU:V→Option Int→Option Int→Hp→VK→Prop:=fun x lo hi H Q=>∃ a xs,x=.ref a∧H a=some (.tup xs)∧∀ p H',Same H H'→H' p=some (.tup (cutV xs lo hi))→Q (.ref p) H'
theorem Zdv:SlR X rSlU:=by
 intro pins s σ H x v vl vu lo hi sl Q I rx hs pl pu h;obtain ⟨a,xs,rfl,hx,q⟩:=h
 by_cases hw:HT.sIx xs.length 0 lo=0∧HT.sIx xs.length xs.length hi=xs.length
 · cases rx
   obtain ⟨its,r,ht,hz⟩:=I.tuple (SqT.of hx);have hlen:its.toArray.size=xs.length:=by rw [n12_]; exact r.length.symm
   refine ⟨"tuple",_,PyProof.Rows.slot_tuple_getitem.lookup,ht.typeIs,?_⟩;refine HT.getItem_tuple_whole ht hs pl pu (by rw [hlen]; exact hw) ⟨.ref a,H,I,rfl,q a H (Same.refl H) ?_⟩;unfold cutV;rw [hw.1,hw.2,List.drop_zero,Nat.sub_zero,n67_];exact hx
 · exact Zqw pins s σ H _ _ vl vu lo hi sl Q I rx hs pl pu ⟨a,xs,rfl,SqT.of hx,hw,fun p hp=>q p _ (Same.new hp) Zc⟩
def rNe0 (K:PySem.W.Frag):R2:=fun x y H Q=>∃ a b xs,x=.ref a∧y=.ref b∧SqT K H a xs∧SqT K H b []∧Q (.bl (!decide (xs=[]))) H
theorem Zmd (hu:X.A.units < cLine):OpR X (compareOp .NotEq) (rNe0 X.K):=by
 intro pins s σ H x y v u Q I rx ry h;obtain ⟨a,b,xs,rfl,rfl,h1,h2,q⟩:=h;cases rx; cases ry
 obtain ⟨us,r1,p1,_⟩:=I.tuple h1;obtain ⟨ws,r2,p2,_⟩:=I.tuple h2;have l1:=r1.length;have e:ws=[]:=r2.nil_iff.mpr rfl;subst e;refine SeqAt.RcNeAt.tuples (e:=fun j=>true) p1 p2 hu (fun j h1 h2=>absurd h2 (by simp)) _ _ _ _ ⟨.bl _,H,I,rfl,?_⟩
 have z:(!((List.range (min us.toArray.size (([]:List Value).toArray).size)).all (fun _=>true) && us.toArray.size == (([]:List Value).toArray).size))=(!decide (xs=[])):=by
  rw [n12_,← l1];cases xs <;> simp
 rw [z];exact q
theorem Zqh {j:Nat} {pa pb:Pos}:PE X (.UnaryOp .USub (.Constant (.int 1) j pa) pb) (fun _ H Q=>Q (.int (-1)) H):=fun pins s σ H Q I h=>Zfu Zb6 Zf pins s σ H Q I ⟨1,rfl,h⟩
theorem Zq3:PE X e (fun _ _ _=>False):=fun _ _ _ _ _ _ h=>h.elim
theorem Zif {pins:List (Addr×Obj)} {σ:St} {H:Hp} {s:Shared} (I:Inv X pins σ H s):sysModules < s.heap.objs.size:=by
 have h:mainGlobals < s.heap.objs.size:=(I.mod.glob.keeps I.bk).lt;exact Nat.lt_trans (by decide) h
def Zrp (t:TA):TE:=fun σ H Q=>t σ H fun xs H1=>xs.length≤sizeLine∧∀ p,H1 p=none→p≠sysModules→Q (.ref p) (upd H1 p (.lst xs))
theorem Zfn (h:PA X es t):PE X (.List es pos) (Zrp t):=by
 intro pins s σ H Q I hq;refine wpAny_List_spliced (thn (h pos pins s σ H _ I hq) fun us s1 ⟨xs,H1,I1,r,z,q⟩=>⟨by rw [← r.length]; exact z,?_⟩);have hf:H1 s1.heap.objs.size=none:=I1.hok.fresh (n9_ _);refine ⟨.ref s1.heap.objs.size,upd H1 s1.heap.objs.size (.lst xs),I1.laid (t':=s1.toks) (fun b u e=>n4_ _ e) (n9_ _) ?_,rfl,q _ hf (Nat.ne_of_gt (Zif I1))⟩;exact ⟨z,us,0,r,n25_ _ rfl⟩
theorem Zca:Zbe X (.type "list") (fun xs H Q=>∃ p ys,xs=[.ref p]∧(SqL X.K H p ys∨SqT X.K H p ys)∧∀ l,H l=none→l≠sysModules→Q (.ref l) (upd H l (.lst ys))):=by
 intro pins s σ H xs us Q I r h;obtain ⟨p,ys,rfl,hq,q⟩:=h;obtain ⟨u,rfl,rx⟩:=Zkd r;cases rx
 have fin:∀ (its:List Value),Vals ys its→ys.length≤sizeLine→∀ (h':Heap) (c':Nat),(∀ b o',s.heap.get? b=some o'→h'.get? b=some o') →
  h'.get? s.heap.objs.size=some { cls:=.type "list",dict:=none,data:=.seq its.toArray c',slots:=#[] }→EP X pins σ Q (.ref s.heap.objs.size) { s with heap:=h' }:=fun its r' hz h' c' kp e =>
  ⟨.ref s.heap.objs.size,_,I.laid (t':=s.toks) kp (n9_ _) (show ObjOk X.prog X.w _ h' _ (.lst ys) from ⟨hz,its,c',r',e⟩),rfl,q _ (I.hok.fresh (n9_ _)) (Nat.ne_of_gt (Zif I))⟩
 rcases hq with hq | hq
 · obtain ⟨its,r',pl,hz⟩:=I.list hq;have hlen:=r'.length;obtain ⟨o,ho,hc,n,hd⟩:=pl.isList;exact call_list_seq p (.inl rfl) ho hc hd (fun h' c' kp e=>fin its r' hz h' c' kp e) (by simp only [n12_] <;> omega)
 · obtain ⟨its,r',pl,hz⟩:=I.tuple hq;have hlen:=r'.length;obtain ⟨o,ho,hc,n,hd⟩:=pl;exact call_list_seq p (.inr rfl) ho hc hd (fun h' c' kp e=>fin its r' hz h' c' kp e) (by simp only [n12_] <;> omega)
def Zro:TE:=fun _ H Q=>∀ p,H p=none→Q (.ref p) (upd H p (.dK []))
theorem Zot:PE X (.Dict [] [] pos) Zro:=fun pins s σ H Q I h =>
 wpAny_Dict_empty ⟨.ref s.heap.objs.size,_,I.laid (a:=s.heap.objs.size) (o:=.dK []) (t':=s.toks) (fun _ _ q=>n4_ _ q) (n9_ _)
  ⟨n56_ _,beq_eq_false_iff_ne.mpr (Ne.symm (n50_ (Zif I))),[],.nil,Heap.DictOf.new s.heap⟩,rfl,h _ (I.hok.fresh (n9_ _))⟩
end
theorem Zpy {K:PySem.W.Frag} {a D:Addr} {xs:List V} {g:TG} {tt:TT} {te:TE} {σ0:St} {H:Hp} {Q:VK} (Pv:Nat→St→Hp→Prop) (h0:Pv 0 σ0 (upd H D (.lst []))) (hx:∀ i σ H,i≤xs.length→Pv i σ H→SqT K H a xs)
 (hs:∀ i x σ2 H2,xs[i]? = some x→Pv i σ2 H2→g x σ2 H2 fun σ4 H4=>tt σ4 H4 fun b H5=>if b=true then te σ4 H5 fun y H6=>∃ ys,H6 D=some (.lst ys)∧ys.length < sizeLine ∧
   ∃ m',m' < xs.length - i∧LcN xs.length Pv (i+1) m' σ4 (upd H6 D (.lst (ys++[y]))) else ∃ m',m' < xs.length - i∧LcN xs.length Pv (i+1) m' σ4 H5)
 (hd:∀ σ2 H2,Pv xs.length σ2 H2→Q (.ref D) H2) :
 LcGo (Itt K a) g tt te σ0 H D Q:=by
 refine ⟨LcN xs.length Pv,⟨_,n56_ _,rfl,h0⟩,?_⟩;rintro i m σ2 H2 ⟨hi,rfl,p⟩
 have sq:=hx i σ2 H2 hi p
 by_cases hlt:i < xs.length
 · right
   refine ⟨⟨xs,xs[i],sq,n0_ hlt⟩,?_⟩;rintro x H3 ⟨rfl,hy⟩
   exact hs i x σ2 H3 (hy xs sq) p
 · left
   have e:i=xs.length:=by omega
   subst e;exact ⟨⟨xs,sq,n9_ _⟩,hd σ2 H2 p⟩
end L2
namespace L2
open PySem PySem.Spec PyProof.Rows
def isI:PyData→Bool
 | .int _=>true
 | _=>false
def isT:PyData→Bool
 | .tuple _=>true
 | _=>false
def isFr:PyData→Bool
 | .tuple [.int a,.int b]=>decide (1≤b) && decide (Int.gcd a b=1)
 | _=>false
section
variable {K:PySem.W.Frag} {N:Addr→Prop} {k:Nat} {H:Hp} {v:V} {d:PyData}
theorem Dt.isI (h:Dt N H k v d):(∃ i,v=.int i∧d=.int i∧i.natAbs < 2 ^ k)∨L2.isI d=false:=by
 cases h with
 | int hi=>exact .inl ⟨_,rfl,rfl,hi⟩
 | _=>exact .inr rfl
theorem Dt.isT (h:Dt N H k v d):(∃ a xs ds,v=.ref a∧d=.tuple ds∧H a=some (.tup xs)∧Dts N H k xs ds)∨L2.isT d=false:=by
 cases h with
 | tup h r=>exact .inl ⟨_,_,_,rfl,rfl,h,r⟩
 | _=>exact .inr rfl
theorem Dt.ty (h:Dt N H k v d):∃ t,TyOf K H v t∧PySem.W.kitOne K t (.type "tuple")=some (L2.isT d):=by
 cases h with
 | non=>exact ⟨_,TyOf.non,rfl⟩
 | bl b=>exact ⟨_,TyOf.bl b,rfl⟩
 | int hi=>exact ⟨_,TyOf.int _,rfl⟩
 | str x=>exact ⟨_,TyOf.str x,rfl⟩
 | tup h r=>exact ⟨_,TyOf.tup h,rfl⟩
 | lst h n m r=>exact ⟨_,TyOf.lst h,rfl⟩
 | dic h=>exact ⟨_,TyOf.dK h,rfl⟩
theorem Dts.len0 {xs:List V} {ds:List PyData} (h:Dts N H k xs ds) (hl:xs.length≠2):L2.isFr (.tuple ds)=false:=by
 have e:=h.len
 match ds,e with
 | [],_=>rfl
 | [d],_=>cases d <;> rfl
 | [_,_],e=>exact absurd e hl
 | d :: d2 :: _ :: _,_=>cases d <;> cases d2 <;> rfl
theorem fr_1 {d e:PyData} (h:L2.isI d=false):L2.isFr (.tuple [d,e])=false:=by
 cases d <;> first | rfl | (cases h)
theorem fr_2 {d e:PyData} (h:L2.isI e=false):L2.isFr (.tuple [d,e])=false:=by
 cases d <;> cases e <;> first | rfl | (cases h)
theorem Zok {i j:Int} (hj:0 < j):decide ([(Rat.divInt i j).num,((Rat.divInt i j).den:Int)]=[i,j])=(decide (1≤j) && decide (Int.gcd i j=1)):=by
 rw [n14_ (show 1≤j by omega),n87_];refine decide_eq_decide.mpr ⟨fun h=>?_,fun h=>?_⟩
 · injection h with h1 h2
   injection h2 with h2 _
   have:=FM.gcd_one (Rat.divInt i j)
   rw [h1,h2] at this;exact this
 · have hb:j≠0:=by omega
   have a:=FM.low_num (t:=i) hb;have b:=FM.low_den (t:=i) hb;rw [if_pos hj,h] at a;rw [h] at b;rw [← a,← b];have e1:Int.fdiv i ((1:Nat):Int)=i:=by simp
   have e2:Int.fdiv (j.natAbs:Int) ((1:Nat):Int)=j:=by
    rw [show ((1:Nat):Int)=1 from rfl,Int.fdiv_one]; omega
   rw [e1,e2]
theorem Zfw {xs:List V} {r:Int} (h0:0≤r) (h1:r < xs.length):∃ v,atI xs r=some v∧v∈xs:=by
 obtain ⟨n,rfl⟩:=n75_ h0;have hn:n < xs.length:=by omega
 exact ⟨xs[n],Yu (n0_ hn),n36_ hn⟩
def Dom (N:Addr→Prop) (H:Hp):Prop:=∀ b,N b→∃ o,H b=some o
theorem Dom.same {H':Hp} (h:Dom N H) (s:Same H H'):Dom N H':=fun b z=>let ⟨o,e⟩:=h b z; ⟨o,s b o e⟩
theorem Dom.keep {H':Hp} {l:Addr} {o:HO} (h:Dom N H) (s:Keep l H H') (hl:H' l=some o):Dom N H':=fun b z=>by
 by_cases e:b=l
 · subst e; exact ⟨_,hl⟩
 · obtain ⟨o,q⟩:=h b z; exact ⟨o,s b o e q⟩
theorem Dom.new {p:Addr} (h:Dom N H) (n:H p=none):¬ N p:=fun z=>by
 obtain ⟨o,e⟩:=h p z;rw [n] at e; cases e
variable {n m:Nat}
theorem Zjs (xs:List V) (r:Nat):cutV xs none (some (r:Int))=xs.take r:=by
 unfold cutV;rw [HT.sIx_none,HT.sIx_nat,List.drop_zero,Nat.sub_zero]
 by_cases h:r≤xs.length
 · rw [Nat.min_eq_left h]
 · rw [Nat.min_eq_right (by omega),n67_,List.take_of_length_le (by omega)]
theorem Ze5 (xs:List V) (r:Nat):cutV xs (some (r:Int)) none=xs.drop r:=by
 unfold cutV;rw [HT.sIx_none,HT.sIx_nat]
 by_cases h:r≤xs.length
 · rw [Nat.min_eq_left h,List.take_of_length_le (by rw [n72_]; omega)]
 · rw [Nat.min_eq_right (by omega),List.drop_of_length_le (show xs.length≤r by omega)]
   simp
theorem Zd0:∀ {ds:List PyData} {r:Nat} {d:PyData},ds[r]? = some d→Zr ds=Zr (ds.take r)+(nz d+1)+Zr (ds.drop (r+1))∧d.depth≤PyData.depthAll ds
 | [],_,_,h=>by simp at h
 | x :: xs,0,d,h=>by
   simp at h; subst h;refine ⟨by simp [Zr],?_⟩;simp only [PyData.depthAll]; omega
 | x :: xs,r+1,d,h=>by
   obtain ⟨a,b⟩:=Zd0 (ds:=xs) (r:=r) (d:=d) (by simpa using h);refine ⟨?_,?_⟩
   · simp only [List.take_succ_cons,List.drop_succ_cons,Zr]; omega
   · simp only [PyData.depthAll]; omega
theorem Zgd:∀ (ds:List PyData),ds.length≤Zr ds
 | []=>n9_ _
 | x :: xs=>by have:=Zgd xs; simp only [n23_,Zr]; omega
end
end L2
namespace L2
open PySem PySem.Spec PyProof.Rows
section
variable {N:Addr→Prop} {k n m:Nat} {H:Hp} {p:Addr}
mutual
theorem Dt.more (hp:H p=none):∀ {v:V} {d:PyData},Dt N H k v d→Dt (fun b=>N b∨b=p) H k v d
 | _,_,.non=>.non
 | _,_,.bl b=>.bl b
 | _,_,.int h=>.int h
 | _,_,.str x=>.str x
 | _,_,.tup h r=>.tup h (Dts.more hp r)
 | _,_,.lst h n m r=>.lst h (fun z=>z.elim n (fun e=>Zk h hp e)) m (Dts.more hp r)
 | _,_,.dic h=>.dic h
theorem Dts.more (hp:H p=none):∀ {vs:List V} {ds:List PyData},Dts N H k vs ds→Dts (fun b=>N b∨b=p) H k vs ds
 | _,_,.nil=>.nil
 | _,_,.cons r rs=>.cons (Dt.more hp r) (Dts.more hp rs)
end
end
end L2
namespace L2
open PySem PySem.Spec PyProof.Rows
section
variable {X:Cx}
theorem Zk6:MtR X "int.bit_length" (fun x vs H Q=>∃ i:Int,x=.int i∧vs=[]∧Q (.int (Builtin.Int.intBits i)) H):=by
 intro pins s σ H x vs v us Q I rx rv h;obtain ⟨i,rfl,rfl,q⟩:=h;obtain ⟨t,rfl⟩:=rx;cases rv
 exact call_int_bit_length ⟨.int _,H,I.tok _,⟨_,rfl⟩,q⟩
theorem Zlo {x:Str} {i:Int} {pos:Pos} (h:∃ t,X.mg x=some (.int i t)) (hg:Gl X x) (hd:(x == ("__debug__" : Str))=false:=by decide):PE X (.Name x pos) (tC (.int i)):=by
 obtain ⟨t,h⟩:=h;exact Zcm hg h ⟨t,rfl⟩ hd
end
end L2
namespace L2
open PySem PySem.Spec PyProof.Rows
section
variable {X:Cx} {pins:List (Addr×Obj)} {σ:List (Option V)} {H:Hp} {s:Shared} {h':Heap}
theorem Inv.turnNew {t':Nat} {ch:List Addr} {a:Addr} {o:HO} (I:Inv X pins σ H s) (k:∀ b u,b∉ch→s.heap.get? b=some u→h'.get? b=some u) (hf:∀ b∈ch,FpOk X pins H b)
 (ha:s.heap.objs.size≤a) (new:ObjOk X.prog X.w (upd H a o) h' a o):Inv X pins σ (upd H a o) { s with heap:=h',toks:=t' }:=by
 have fa:H a=none:=I.hok.fresh ha;have na:∀ b u,H b=some u→b≠a:=fun b u e=>Zk e fa;have nc:∀ b u,H b=some u→b∉ch:=fun b u e z=>by rw [(hf b z).1] at e; cases e
 have la:∀ b u,s.heap.get? b=some u→b≠a:=fun b u e=>n50_ (n16_ (n28_ e) ha)
 refine I.step (g':=s.gens) (d':=s.drawn) (ch:=ch) (fun b hb=>?_) (fun b u _ _ hc e _=>k b u hc e) (fun b u _ _ hc e _=>⟨u.slots,k b u hc e⟩) (fun b u _ e n=>by rw [Zo (la b u e)]; exact n)
  (fun b u hc e=>⟨u,k b u hc e⟩) (fun b xs e=>by rw [Zo (na b _ e)]; exact e) (fun b u v e=>by rw [Zo (na b _ e)]; exact e) (fun b ps e=>⟨#[],by rw [Zo (na b _ e),e]; simp⟩) (fun m hm=>?_) (fun b u e=>?_) I.bare
 · obtain ⟨f0,f1,f2,f3,f4,f5⟩:=hf b hb;exact ⟨f3,f1,f4,f5⟩
 · obtain ⟨u,es,ep,hu,r⟩:=hm;exact ⟨u,es,ep,k _ u (fun z=>(hf _ z).2.1 rfl) hu,r⟩
 · by_cases hb:b=a
   · subst hb; rw [Zc] at e; cases e; exact new
   · rw [Zo hb] at e;refine (I.hok b u e).stay (fun c v hc q=>k c v ?_ q) (fun c q=>by rw [Zo (na c _ q)]; exact q) fun c xs q=>by rw [Zo (na c _ q)]; exact q
     rcases hc with z | z
     · rw [z]; exact nc b u e
     · exact nc c _ z
theorem Inv.turnOnly {t':Nat} {ch:List Addr} (I:Inv X pins σ H s) (k:∀ b u,b∉ch→s.heap.get? b=some u→h'.get? b=some u) (hf:∀ b∈ch,FpOk X pins H b):Inv X pins σ H { s with heap:=h',toks:=t' }:=by
 have nc:∀ b u,H b=some u→b∉ch:=fun b u e z=>by rw [(hf b z).1] at e; cases e
 refine I.step (g':=s.gens) (d':=s.drawn) (ch:=ch) (fun b hb=>?_) (fun b u _ _ hc e _=>k b u hc e) (fun b u _ _ hc e _=>⟨u.slots,k b u hc e⟩) (fun _ _ _ _ n=>n)
  (fun b u hc e=>⟨u,k b u hc e⟩) (fun _ _ e=>e) (fun _ _ _ e=>e) (fun b ps e=>⟨#[],by rw [e]; simp⟩) (fun m hm=>?_) (fun b u e=>?_) I.bare
 · obtain ⟨f0,f1,f2,f3,f4,f5⟩:=hf b hb;exact ⟨f3,f1,f4,f5⟩
 · obtain ⟨u,es,ep,hu,r⟩:=hm;exact ⟨u,es,ep,k _ u (fun z=>(hf _ z).2.1 rfl) hu,r⟩
 · refine (I.hok b u e).stay (fun c v hc q=>k c v ?_ q) (fun _ q=>q) fun _ _ q=>q
   rcases hc with z | z
   · rw [z]; exact nc b u e
   · exact nc c _ z
end
inductive SK where
 | l
 | t
def SK.Sq (K:PySem.W.Frag) (H:Hp) (a:Addr) (xs:List V):SK→Prop
 | .l=>SqL K H a xs
 | .t=>SqT K H a xs
def SK.Is (h:Heap) (a:Addr) (vs:Array Value):SK→Prop
 | .l=>h.IsList a vs
 | .t=>h.IsTuple a vs
def SK.It (h:Heap) (it a:Addr) (i:Nat):SK→Prop
 | .l=>h.IsListIter it a i
 | .t=>h.IsTupleIter it a i
def SK.name:SK→String
 | .l => "list_iterator"
 | .t => "tuple_iterator"
abbrev SK.obj (k:SK) (a:Addr):Obj:={ cls:=.type k.name,data:=.fields #[.ref a,.int 0 0] }
theorem SK.It.ex {k:SK} {h:Heap} {it a:Addr} {i:Nat} (x:k.It h it a i):∃ o,h.get? it=some o∧o.cls=.type k.name∧o.data=.fields #[.ref a,.int i 0]:=by
 cases k <;> exact x
theorem SK.It.of {k:SK} {h:Heap} {it a:Addr} {i:Nat} (x:∃ o,h.get? it=some o∧o.cls=.type k.name∧o.data=.fields #[.ref a,.int i 0]):k.It h it a i:=by
 cases k <;> exact x
theorem SK.It.at {k:SK} {h h':Heap} {it a:Addr} {i:Nat} (x:k.It h it a i) (f:∀ o,h.get? it=some o→h'.get? it=some o):k.It h' it a i:=by
 obtain ⟨o,e,r⟩:=x.ex;exact .of ⟨o,f o e,r⟩
theorem SK.Is.ex {k:SK} {h:Heap} {a:Addr} {vs:Array Value} (x:k.Is h a vs):∃ o n,h.get? a=some o∧o.data=.seq vs n:=by
 cases k with
 | l=>obtain ⟨o,e,_,n,d⟩:=(show h.IsList a vs from x); exact ⟨o,n,e,d⟩
 | t=>obtain ⟨o,e,_,n,d⟩:=(show h.IsTuple a vs from x); exact ⟨o,n,e,d⟩
theorem SK.Is.at {k:SK} {h h':Heap} {a:Addr} {vs:Array Value} (x:k.Is h a vs) (f:∀ o,h.get? a=some o→h'.get? a=some o):k.Is h' a vs:=by
 cases k with
 | l=>obtain ⟨o,e,r⟩:=(show h.IsList a vs from x); exact (⟨o,f o e,r⟩:h'.IsList a vs)
 | t=>obtain ⟨o,e,r⟩:=(show h.IsTuple a vs from x); exact (⟨o,f o e,r⟩:h'.IsTuple a vs)
theorem SK.Sq.is {k:SK} {X:Cx} {pins:List (Addr×Obj)} {σ:St} {H:Hp} {s:Shared} {a:Addr} {xs:List V} (q:k.Sq X.K H a xs) (I:Inv X pins σ H s):∃ its,Vals xs its∧k.Is s.heap a its.toArray:=by
 cases k with
 | l=>obtain ⟨its,rv,p,_⟩:=I.list (show SqL X.K H a xs from q); exact ⟨its,rv,p.isList⟩
 | t=>obtain ⟨its,rv,p,_⟩:=I.tuple (show SqT X.K H a xs from q); exact ⟨its,rv,p⟩
theorem SK.Sq.inj {k:SK} {X:Cx} {pins:List (Addr×Obj)} {σ:St} {H:Hp} {s:Shared} {a:Addr} {xs ys:List V} (q:k.Sq X.K H a xs) (r:k.Sq X.K H a ys) (I:Inv X pins σ H s):xs=ys:=by
 cases k with
 | l=>exact I.list_inj q r
 | t=>exact I.tuple_inj q r
section
variable {prog:Program} {w:World} {A:Around} {E:Value→Shared→Prop} {s:Shared}
theorem SK.draw {k:SK} {it a:Addr} {i:Nat} {vs:Array Value} {x:Value} {Q:Value→Shared→Prop} (hi:k.It s.heap it a i) (ha:k.Is s.heap a vs) (hx:vs[i]? = some x)
 (q:∀ h1,k.It h1 it a (i+1)→Heap.SameBut it s.heap h1→Q x { s with heap:=h1 }):wpAny (model prog w) A (n64_ (.ref it)) Q E s:=by
 cases k with
 | l=>exact wpAny_nextOf_list_item hi ha hx q
 | t =>
   have hi':s.heap.IsTupleIter it a i:=hi;obtain ⟨o,e,c,d⟩:=id hi';obtain ⟨oa,ea,_,n,da⟩:=(show s.heap.IsTuple a vs from ha);unfold n64_;refine n3_ (wpAny_callSpecial?_slot (name:=Str.ofString "__next__") hi'.typeIs F.slot_tuple_iterator_next (wpAny_call_entry F.slot_tuple_iterator_next hi'.typeIs F.entry_tuple_iterator_next ?_ (F.args_tuple_iterator_next_1 _)));refine n3_ (m:=field (.ref it) 0) (wpAny_field e d (x:=.ref a) rfl ?_);show wpAny _ _ (if (Value.ref a == Value.none)=true then _ else _) _ _ s
   rw [if_neg (show ¬ ((Value.ref a == Value.none)=true) from n30_)];refine n3_ (m:=field (.ref it) 1) (wpAny_field e d (x:=.int i 0) rfl ?_);refine n3_ (m:=seqItems? (.ref a)) (wpAny_seqItems ea da ?_);simp only [n65_,hx];refine n3_ (wpAny_setField e d (by simp) (n20_ ⟨x,rfl,n20_ (q _ (SK.It.of ?_) (Heap.SameBut.update ..))⟩));exact ⟨_,Heap.get?_update_self _ e (Obj.isFreed_of_fields (Obj.data_mapFields d _)),(Obj.cls_mapFields ..).trans c,by rw [Obj.data_mapFields d]; simp [rawInt]⟩
theorem SK.dry {k:SK} {it a:Addr} {i:Nat} {vs:Array Value} {Q:Value→Shared→Prop} (hh:A.handled=none) (hi:k.It s.heap it a i) (ha:k.Is s.heap a vs) (hx:vs[i]? = none)
 (q:∀ h1 e,Heap.ExtBut it s.heap h1→(∃ o,h1.get? e=some o∧o.cls=.type "StopIteration")→E (.ref e) { s with heap:=h1 }):wpAny (model prog w) A (n64_ (.ref it)) Q E s:=by
 cases k with
 | l=>exact wpAny_nextOf_list_end hh hi ha hx q
 | t =>
   have hi':s.heap.IsTupleIter it a i:=hi;obtain ⟨o,e,c,d⟩:=id hi';obtain ⟨oa,ea,_,n,da⟩:=(show s.heap.IsTuple a vs from ha);unfold n64_;refine n3_ (wpAny_callSpecial?_slot (name:=Str.ofString "__next__") hi'.typeIs F.slot_tuple_iterator_next (wpAny_call_entry F.slot_tuple_iterator_next hi'.typeIs F.entry_tuple_iterator_next ?_ (F.args_tuple_iterator_next_1 _)));refine n3_ (m:=field (.ref it) 0) (wpAny_field e d (x:=.ref a) rfl ?_);show wpAny _ _ (if (Value.ref a == Value.none)=true then _ else _) _ _ s
   rw [if_neg (show ¬ ((Value.ref a == Value.none)=true) from n30_)];refine n3_ (m:=field (.ref it) 1) (wpAny_field e d (x:=.int i 0) rfl ?_);refine n3_ (m:=seqItems? (.ref a)) (wpAny_seqItems ea da ?_);simp only [n65_,hx];refine n3_ (wpAny_rule (n3_ (wpAny_setField e d (by simp) ?_)));refine n3_ (m:=newExc (.type "StopIteration") []) ?_;simp only [newExc,newTuple];refine n3_ (wpAny_newObj_type (n3_ (m:=firstArgMember _ _) (wpAny_of_eq (a:=Value.none) (by first | rfl | (simp only [firstArgMember]; rfl)) (wpAny_newObj_type ?_ (by size_fits)))) (by size_fits));simp only [raiseNew];refine n3_ (wpAny_handled ?_)
   first | rw [show A.in1.handled=none from hh] | rw [hh]
   refine n3_ (n20_ (wpAny_throw (q _ _ (((Heap.SameBut.update ..).extBut.push _).push _) ⟨_,n25_ _ rfl,rfl⟩)))
theorem SK.iter {k:SK} {a:Addr} {vs:Array Value} {Q:Value→Shared→Prop} (ha:k.Is s.heap a vs) (q:Q (.ref s.heap.objs.size) { s with heap:=s.heap.push (k.obj a) }):wpAny (model prog w) A (pyIter (.ref a)) Q E s:=by
 cases k with
 | l=>exact wpAny_pyIter_list ha q
 | t=>exact wpAny_pyIter_tuple ha q
end
end L2
namespace L2
open PySem PySem.Spec PyProof.Rows
structure ZP (z t o i j a b:Addr):Prop where
 tz:t≠z
 oz:o≠z
 iz:i≠z
 jz:j≠z
 to:t≠o
 ti:t≠i
 tj:t≠j
 oi:o≠i
 oj:o≠j
 ij:i≠j
 az:a≠z
 ao:a≠o
 ai:a≠i
 aj:a≠j
 bz:b≠z
 bo:b≠o
 bi:b≠i
 bj:b≠j
section
variable {prog:Program} {w:World} {A:Around} {E:Value→Shared→Prop} {s:Shared} {k l:SK}
theorem Znt {z t o i j a b:Addr} {m n:Nat} {xs ys:Array Value} {x y c d:Value} {Q:Value→Shared→Prop} (D:ZP z t o i j a b)
 (hz:IsZip s.heap z t o .none) (ht:IsPair s.heap t (.ref i) (.ref j)) (ho:IsPair s.heap o c d)
 (hi:k.It s.heap i a m) (hj:l.It s.heap j b n) (ha:k.Is s.heap a xs) (hb:l.Is s.heap b ys) (hx:xs[m]? = some x) (hy:ys[n]? = some y)
 (q:∀ h1,IsZip h1 z t o (rawInt s.heap.objs.size)→IsPair h1 o x y→k.It h1 i a (m+1)→l.It h1 j b (n+1)→IsPair h1 s.heap.objs.size x y→h1.objs.size=s.heap.objs.size+1 →
   (∀ e u,e≠z→e≠o→e≠i→e≠j→s.heap.get? e=some u→h1.get? e=some u)→Q (.ref s.heap.objs.size) { s with heap:=h1 }) :
 wpAny (model prog w) A (Builtin.«zip.__next__» ⟨[.ref z],[]⟩) (fun fin s'=>∃ v,fin=.done (.ret v)∧Q v s') E s:=by
 refine n3_ (m:=field (.ref z) 2) (wpAny_field hz rfl (x:=.bool false) rfl ?_);refine n3_ (m:=field (.ref z) 3) (wpAny_field hz rfl (x:=.ref t) rfl (n3_ (wpAny_seqItems ht rfl ?_)));refine n3_ (m:=n90_ (.ref z)) ?_;unfold n90_;refine n3_ (wpAny_field hz rfl (x:=.none) rfl (n20_ ?_));simp only [if_true];refine n3_ (wpAny_rule (n3_ (wpAny_field hz rfl (x:=.ref o) rfl (n3_ (wpAny_setField_rec hz (by simp) fun h1 z1 s1=>?_)))));replace z1:IsZip h1 z t o .ellipsis:=z1;refine n3_ ?_;simp only [List.zipIdx_cons,List.zipIdx_nil,List.forIn_cons,List.forIn_nil];refine n3_ (n3_ (wpAny_onRaise (n3_ (m:=n64_ (.ref i)) ?_)));refine SK.draw (hi.at fun u e=>s1.extBut _ _ D.iz e) (ha.at fun u e=>s1.extBut _ _ D.az e) hx fun h2 i2 s2=>n20_ ?_;have o2:IsPair h2 o c d:=s2.extBut _ _ D.oi (s1.extBut _ _ D.oz ho);refine n3_ (wpAny_seqItems o2 rfl (n3_ (wpAny_updateSeq_pair o2 fun h3 o3 s3=>?_)));replace o3:IsPair h3 o x d:=o3;refine n3_ (wpAny_letGo (n20_ (n3_ (n3_ (wpAny_onRaise (n3_ (m:=n64_ (.ref j)) ?_))))));refine SK.draw (hj.at fun u e=>s3.extBut _ _ D.oj.symm (s2.extBut _ _ D.ij.symm (s1.extBut _ _ D.jz e))) (hb.at fun u e=>s3.extBut _ _ D.bo (s2.extBut _ _ D.bi (s1.extBut _ _ D.bz e))) hy fun h4 j4 s4=>n20_ ?_;have o4:IsPair h4 o x d:=s4.extBut _ _ D.oj o3;refine n3_ (wpAny_seqItems o4 rfl (n3_ (wpAny_updateSeq_pair o4 fun h5 o5 s5=>?_)));replace o5:IsPair h5 o x y:=o5;refine n3_ (wpAny_letGo (n20_ (n20_ (n3_ (wpAny_seqItems o5 rfl (n3_ (wpAny_newTuple ?_)))))));have sz:h5.objs.size=s.heap.objs.size:=by rw [s5.1,s4.1,s3.1,s2.1,s1.1]
 have z5:IsZip h5 z t o .ellipsis:=s5.extBut _ _ D.oz.symm (s4.extBut _ _ D.jz.symm (s3.extBut _ _ D.oz.symm (s2.extBut _ _ D.iz.symm z1)));have k5:∀ e u,e≠z→e≠o→e≠i→e≠j→s.heap.get? e=some u→h5.get? e=some u:=fun e u e1 e2 e3 e4 g=>s5.extBut _ _ e2 (s4.extBut _ _ e4 (s3.extBut _ _ e2 (s2.extBut _ _ e3 (s1.extBut _ _ e1 g))));have i5:k.It h5 i a (m+1):=i2.at fun u e=>s5.extBut _ _ D.oi.symm (s4.extBut _ _ D.ij (s3.extBut _ _ D.oi.symm e));have j5:l.It h5 j b (n+1):=j4.at fun u e=>s5.extBut _ _ D.oj.symm e;have zl:z < h5.objs.size:=n28_ z5;refine n3_ (m:=Builtin.SmallTypes.ownedTupleHandOut (.ref z) (.ref h5.objs.size)) ?_;unfold Builtin.SmallTypes.ownedTupleHandOut;have z6:IsZip (h5.push { cls:=.type "tuple",data:=.seq #[x,y] }) z t o .ellipsis:=n4_ _ z5;refine n3_ (wpAny_setField_rec z6 (by simp) fun h7 z7 s7=>?_);replace z7:IsZip h7 z t o (rawInt h5.objs.size):=z7;refine wpAny_setField_rec z7 (by simp) fun h8 z8 s8=>?_;replace z8:IsZip h8 z t o (rawInt h5.objs.size):=z8;have up:∀ e u,e≠z→h5.get? e=some u→h8.get? e=some u:=fun e u e1 g=>s8.extBut _ _ e1 (s7.extBut _ _ e1 (n4_ _ g));have T8:IsPair h8 h5.objs.size x y:=s8.extBut _ _ (Nat.ne_of_gt zl) (s7.extBut _ _ (Nat.ne_of_gt zl) (n25_ _ rfl));have l8:h8.objs.size=h5.objs.size+1:=by rw [s8.1,s7.1,n84_]
 rw [sz] at z8 T8 l8;refine n20_ ⟨_,rfl,?_⟩;show Q (.ref h5.objs.size) _
 rw [sz];exact q h8 z8 (up _ _ D.oz o5) (i5.at fun u e=>up _ u D.iz e) (j5.at fun u e=>up _ u D.jz e) T8 l8 fun e u e1 e2 e3 e4 g=>up e u e1 (k5 e u e1 e2 e3 e4 g)
theorem Zpc {z t o i j a b:Addr} {m n:Nat} {xs ys:Array Value} {c d:Value} {Q:Fin→Shared→Prop} (hh:A.handled=none) (D:ZP z t o i j a b)
 (hz:IsZip s.heap z t o .none) (ht:IsPair s.heap t (.ref i) (.ref j)) (ho:IsPair s.heap o c d)
 (hi:k.It s.heap i a m) (hj:l.It s.heap j b n) (ha:k.Is s.heap a xs) (hb:l.Is s.heap b ys) (hx:xs[m]? = none∨ys[n]? = none)
 (q:∀ h1 e,(∀ e u,e≠z→e≠o→e≠i→e≠j→s.heap.get? e=some u→h1.get? e=some u)→(∃ u,h1.get? e=some u∧u.cls=.type "StopIteration")→E (.ref e) { s with heap:=h1 }) :
 wpAny (model prog w) A (Builtin.«zip.__next__» ⟨[.ref z],[]⟩) Q E s:=by
 refine n3_ (m:=field (.ref z) 2) (wpAny_field hz rfl (x:=.bool false) rfl ?_);refine n3_ (m:=field (.ref z) 3) (wpAny_field hz rfl (x:=.ref t) rfl (n3_ (wpAny_seqItems ht rfl ?_)));refine n3_ (m:=n90_ (.ref z)) ?_;unfold n90_;refine n3_ (wpAny_field hz rfl (x:=.none) rfl (n20_ ?_));simp only [if_true];refine n3_ (wpAny_rule (n3_ (wpAny_field hz rfl (x:=.ref o) rfl (n3_ (wpAny_setField_rec hz (by simp) fun h1 z1 s1=>?_)))));replace z1:IsZip h1 z t o .ellipsis:=z1;refine n3_ ?_;simp only [List.zipIdx_cons,List.zipIdx_nil,List.forIn_cons,List.forIn_nil];refine n3_ (n3_ (wpAny_onRaise (n3_ (m:=n64_ (.ref i)) ?_)));cases hm:xs[m]? with
 | none =>
   refine SK.dry hh (hi.at fun u e=>s1.extBut _ _ D.iz e) (ha.at fun u e=>s1.extBut _ _ D.az e) hm fun h2 e s2 ⟨u,g,cu⟩=>?_;have z2:IsZip h2 z t o .ellipsis:=s2 _ _ D.iz.symm z1;have ez:e≠z:=fun r=>by subst r; rw [z2] at g; cases g; simp at cu
   exact wpAny_setField_rec z2 (by simp) fun h3 _ s3=>q h3 e (fun e' u' e1 _ e3 _ r=>s3.extBut _ _ e1 (s2 _ _ e3 (s1.extBut _ _ e1 r))) ⟨u,s3.extBut _ _ ez g,cu⟩
 | some x =>
   have hn:ys[n]? = none:=by rcases hx with r | r; (rw [hm] at r; cases r); exact r
   refine SK.draw (hi.at fun u e=>s1.extBut _ _ D.iz e) (ha.at fun u e=>s1.extBut _ _ D.az e) hm fun h2 i2 s2=>n20_ ?_;have o2:IsPair h2 o c d:=s2.extBut _ _ D.oi (s1.extBut _ _ D.oz ho);refine n3_ (wpAny_seqItems o2 rfl (n3_ (wpAny_updateSeq_pair o2 fun h3 o3 s3=>?_)));refine n3_ (wpAny_letGo (n20_ (n3_ (n3_ (wpAny_onRaise (n3_ (m:=n64_ (.ref j)) ?_))))));refine SK.dry hh (hj.at fun u e=>s3.extBut _ _ D.oj.symm (s2.extBut _ _ D.ij.symm (s1.extBut _ _ D.jz e))) (hb.at fun u e=>s3.extBut _ _ D.bo (s2.extBut _ _ D.bi (s1.extBut _ _ D.bz e))) hn fun h4 e s4 ⟨u,g,cu⟩=>?_;have z4:IsZip h4 z t o .ellipsis:=s4 _ _ D.jz.symm (s3.extBut _ _ D.oz.symm (s2.extBut _ _ D.iz.symm z1));have ez:e≠z:=fun r=>by subst r; rw [z4] at g; cases g; simp at cu
   exact wpAny_setField_rec z4 (by simp) fun h5 _ s5=>q h5 e (fun e' u' e1 e2 e3 e4 r=>s5.extBut _ _ e1 (s4 _ _ e4 (s3.extBut _ _ e2 (s2.extBut _ _ e3 (s1.extBut _ _ e1 r))))) ⟨u,s5.extBut _ _ ez g,cu⟩
theorem Zfb {z t o i j a b:Addr} {m n:Nat} {xs ys:Array Value} {x y c d:Value} {Q:Option Value→Shared→Prop} (D:ZP z t o i j a b)
 (hz:IsZip s.heap z t o .none) (ht:IsPair s.heap t (.ref i) (.ref j)) (ho:IsPair s.heap o c d)
 (hi:k.It s.heap i a m) (hj:l.It s.heap j b n) (ha:k.Is s.heap a xs) (hb:l.Is s.heap b ys) (hx:xs[m]? = some x) (hy:ys[n]? = some y)
 (q:∀ h1,IsZip h1 z t o (rawInt s.heap.objs.size)→IsPair h1 o x y→k.It h1 i a (m+1)→l.It h1 j b (n+1)→IsPair h1 s.heap.objs.size x y→h1.objs.size=s.heap.objs.size+1 →
   (∀ e u,e≠z→e≠o→e≠i→e≠j→s.heap.get? e=some u→h1.get? e=some u)→Q (some (.ref s.heap.objs.size)) { s with heap:=h1 }) :
 wpAny (model prog w) A (pyNext (.ref z)) Q E s:=by
 have hT:s.TypeIs (.ref z) "zip" := ⟨_,hz,rfl⟩;unfold pyNext
 exact n3_ (wpAny_attempt (wpAny_callSpecial?_slot (name:=Str.ofString "__next__") hT F.slot_zip_next (wpAny_call_entry F.slot_zip_next hT F.entry_zip_next
  (Znt D hz ht ho hi hj ha hb hx hy fun h1 r1 r2 r3 r4 r5 r6 r7=>n20_ (q h1 r1 r2 r3 r4 r5 r6 r7)) (F.args_zip_next_1 _))))
theorem Zhi {z t o i j a b:Addr} {m n:Nat} {xs ys:Array Value} {c d:Value} {Q:Option Value→Shared→Prop} (hh:A.handled=none) (D:ZP z t o i j a b)
 (hz:IsZip s.heap z t o .none) (ht:IsPair s.heap t (.ref i) (.ref j)) (ho:IsPair s.heap o c d)
 (hi:k.It s.heap i a m) (hj:l.It s.heap j b n) (ha:k.Is s.heap a xs) (hb:l.Is s.heap b ys) (hx:xs[m]? = none∨ys[n]? = none)
 (q:∀ h1,(∀ e u,e≠z→e≠o→e≠i→e≠j→s.heap.get? e=some u→h1.get? e=some u)→Q none { s with heap:=h1 }) :
 wpAny (model prog w) A (pyNext (.ref z)) Q E s:=by
 have hT:s.TypeIs (.ref z) "zip" := ⟨_,hz,rfl⟩;unfold pyNext
 refine n3_ (wpAny_attempt (wpAny_callSpecial?_slot (name:=Str.ofString "__next__") hT F.slot_zip_next (wpAny_call_entry F.slot_zip_next hT F.entry_zip_next
  (Zpc hh D hz ht ho hi hj ha hb hx fun h1 e r1 ⟨u,g,cu⟩=>?_) (F.args_zip_next_1 _))))
 exact n3_ (wpAny_isInstance (T := "StopIteration") (b:=true) ⟨u,g,cu⟩ isSubtype_stop (n20_ (q _ r1)))
abbrev zp1 (k:SK) (h:Heap) (a:Addr):Heap:=h.push (k.obj a)
abbrev zp2 (k l:SK) (h:Heap) (a b:Addr):Heap:=(zp1 k h a).push (l.obj b)
abbrev zp3 (k l:SK) (h:Heap) (a b:Addr):Heap:=(zp2 k l h a b).push { cls:=.type "tuple",data:=.seq #[.ref h.objs.size,.ref (zp1 k h a).objs.size] }
abbrev zp4 (k l:SK) (h:Heap) (a b:Addr):Heap:=(zp3 k l h a b).push { cls:=.type "tuple",data:=.seq #[.none,.none] }
abbrev zp5 (k l:SK) (h:Heap) (a b:Addr):Heap:=(zp4 k l h a b).push { cls:=.type "zip",data:=.fields #[.none,.bool false,.bool false,.ref (zp2 k l h a b).objs.size,.ref (zp3 k l h a b).objs.size] }
theorem Zlk (k l:SK) (a b:Addr) (xs ys:Array Value):Meets (Builtin.«zip.__new__» ⟨[.type "zip",.ref a,.ref b],[]⟩) (fun _ R s=>k.Is s.heap a xs∧l.Is s.heap b ys∧R (.ok (.ret (.ref (zp4 k l s.heap a b).objs.size))) { s with heap:=zp5 k l s.heap a b }) :=
 .of_wp fun prog w A R s h=>by
  obtain ⟨hp,g,d,tk,os⟩:=s; obtain ⟨h1,h2,h⟩:=h;have hsub:=sub_zip;have r1:k.Is (Shared.heap ⟨hp,g,d,tk,os⟩) a xs:=h1;have r2:l.Is (Shared.heap ⟨hp.push (k.obj a),g,d,tk,os⟩) b ys:=SK.Is.at h2 fun o e=>n4_ _ e
  wp_walk using SK.iter r1,SK.iter r2
  exact ⟨_,rfl,h⟩
theorem Zir {a b:Addr} {xs ys:Array Value} {Q:Value→Shared→Prop} (ha:k.Is s.heap a xs) (hb:l.Is s.heap b ys)
 (q:∀ h1,IsZip h1 (s.heap.objs.size+4) (s.heap.objs.size+2) (s.heap.objs.size+3) .none→IsPair h1 (s.heap.objs.size+2) (.ref s.heap.objs.size) (.ref (s.heap.objs.size+1)) →
   IsPair h1 (s.heap.objs.size+3) .none .none→k.It h1 s.heap.objs.size a 0→l.It h1 (s.heap.objs.size+1) b 0→h1.objs.size=s.heap.objs.size+5 →
   (∀ c o,s.heap.get? c=some o→h1.get? c=some o)→Q (.ref (s.heap.objs.size+4)) { s with heap:=h1 }) :
 wpAny (model prog w) A (call (.type "zip") [.ref a,.ref b]) Q E s:=by
 refine callType_new F.called_zip (by decide) (F.typeCall_zip_2 _ _) (F.newCall_zip_2 _ _) (fun obj=>F.args_object_init_3 obj _ _) F.entry_zip_new (Zlk k l a b xs ys) ⟨ha,hb,?_⟩;have n1:(zp1 k s.heap a).objs.size=s.heap.objs.size+1:=n84_ ..;have n2:(zp2 k l s.heap a b).objs.size=s.heap.objs.size+2:=by rw [n84_,n1]
 have n3:(zp3 k l s.heap a b).objs.size=s.heap.objs.size+3:=by rw [n84_,n2]
 have n4:(zp4 k l s.heap a b).objs.size=s.heap.objs.size+4:=by rw [n84_,n3]
 have n5:(zp5 k l s.heap a b).objs.size=s.heap.objs.size+5:=by rw [n84_,n4]
 have m5:(zp5 k l s.heap a b).get? (zp4 k l s.heap a b).objs.size=some _:=n25_ _ rfl;have m4:(zp5 k l s.heap a b).get? (zp3 k l s.heap a b).objs.size=some _:=n4_ _ (n25_ _ rfl);have m3:(zp5 k l s.heap a b).get? (zp2 k l s.heap a b).objs.size=some _:=n4_ _ (n4_ _ (n25_ _ rfl));have m2:(zp5 k l s.heap a b).get? (zp1 k s.heap a).objs.size=some _:=n4_ _ (n4_ _ (n4_ _ (n25_ _ rfl)));have m1:(zp5 k l s.heap a b).get? s.heap.objs.size=some _:=n4_ _ (n4_ _ (n4_ _ (n4_ _ (n25_ _ rfl))));show _∧_
 rw [n2,n3,n4] at m5;rw [n1,n2] at m3;rw [n3] at m4;rw [n1] at m2;rw [n4];exact ⟨⟨_,m5,rfl⟩,q _ m5 m3 m4 (.of ⟨_,m1,rfl,rfl⟩) (.of ⟨_,m2,rfl,rfl⟩) n5 fun c o e=>n4_ _ (n4_ _ (n4_ _ (n4_ _ (n4_ _ e))))⟩
end
end L2
namespace L2
open PySem PySem.Spec PyProof.Rows
def Itz (k l:SK) (K:PySem.W.Frag) (a b:Addr):It :=
 ⟨fun i H=>∃ xs ys x y,k.Sq K H a xs∧l.Sq K H b ys∧xs[i]? = some x∧ys[i]? = some y,
  fun i H v H'=>∃ p x y,v=.ref p∧H p=none∧H'=upd H p (.tup [x,y])∧(∀ xs,k.Sq K H a xs→xs[i]? = some x)∧∀ ys,l.Sq K H b ys→ys[i]? = some y,
  fun i H=>∃ xs ys,k.Sq K H a xs∧l.Sq K H b ys∧(xs.length≤i∨ys.length≤i)⟩
theorem Zi4 {P:Program} {w:World} {K:PySem.W.Frag} {es:List Expr} {x1:Nat} {tp:Pos} {k l:SK} {z t o i j a b:Addr} (D:ZP z t o i j a b) :
 Turn P w K (.Tuple es x1 tp) (Itz k l K a b) [z,t,o,i,j] z (fun n h=>IsZip h z t o .none∧IsPair h t (.ref i) (.ref j)∧(∃ c d,IsPair h o c d)∧k.It h i a n∧l.It h j b n) where
 mem:=by simp
 obj:=fun n h st e he=>by
  obtain ⟨h1,h2,⟨c,d,h3⟩,h4,h5⟩:=st;simp only [n31_,n43_,or_false] at he
  rcases he with rfl | rfl | rfl | rfl | rfl
  · exact ⟨_,h1,fun v q=>by cases (show Data.fields _=Data.cell v from q)⟩
  · exact ⟨_,h2,fun v q=>by cases (show Data.seq _ _=Data.cell v from q)⟩
  · exact ⟨_,h3,fun v q=>by cases (show Data.seq _ _=Data.cell v from q)⟩
  · obtain ⟨u,e,_,q⟩:=h4.ex; exact ⟨u,e,fun v r=>by rw [q] at r; cases r⟩
  · obtain ⟨u,e,_,q⟩:=h5.ex; exact ⟨u,e,fun v r=>by rw [q] at r; cases r⟩
 keep:=fun n h h' st f=>by
  obtain ⟨h1,h2,⟨c,d,h3⟩,h4,h5⟩:=st;exact ⟨f z (by simp) _ h1,f t (by simp) _ h2,⟨c,d,f o (by simp) _ h3⟩,h4.at fun u e=>f i (by simp) u e,h5.at fun u e=>f j (by simp) u e⟩
 item:=by
  intro X hP hw hK hc n pins s σ H E I hf st hg;subst hP hw hK;obtain ⟨h1,h2,⟨c,d,h3⟩,h4,h5⟩:=st;obtain ⟨xs,ys,x,y,q1,q2,hx,hy⟩:=hg;obtain ⟨us,ru,pu⟩:=q1.is I;obtain ⟨vs,rv,pv⟩:=q2.is I;obtain ⟨u,hu,ux⟩:=ru.get hx;obtain ⟨v,hv,vy⟩:=rv.get hy;have lt:∀ {e o'},s.heap.get? e=some o'→e≠s.heap.objs.size:=fun e=>n50_ (n28_ e);refine Zfb D h1 h2 h3 h4 h5 pu pv (x:=u) (y:=v) (by simpa using hu) (by simpa using hv) fun g r1 r2 r3 r4 r5 r6 r7=>?_;refine ⟨_,rfl,wpAny_letOwnedTupleGo_zip r1 fun g2 z2 s2=>?_⟩;have hp:H s.heap.objs.size=none:=I.hok.fresh (n9_ _);have T2:IsPair g2 s.heap.objs.size u v:=s2.extBut _ _ (Ne.symm (lt h1)) r5
  have I2:Inv X pins σ (upd H s.heap.objs.size (.tup [x,y])) { s with heap:=g2,toks:=s.toks }:=by
   refine I.turnNew (ch:=[z,o,i,j]) (fun e o' ne q=>?_) (fun e he=>hf e ?_) (n9_ _) ⟨z2_,[u,v],.cons ux (.cons vy .nil),⟨_,T2,rfl,_,rfl⟩⟩
   · simp only [n31_,n43_,or_false,not_or] at ne;exact s2.extBut _ _ ne.1 (r7 e o' ne.1 ne.2.1 ne.2.2.1 ne.2.2.2 q)
   · simp only [n31_,n43_,or_false] at he ⊢
     rcases he with q | q | q | q <;> simp [q]
  refine ⟨.ref s.heap.objs.size,_,I2,rfl,⟨_,x,y,rfl,hp,rfl,fun xs' q=>by rw [q.inj q1 I]; exact hx,fun ys' q=>by rw [q.inj q2 I]; exact hy⟩,⟨z2,?_,⟨u,v,s2.extBut _ _ D.oz r2⟩,r3.at fun u' e=>s2.extBut _ _ D.iz e,r4.at fun u' e=>s2.extBut _ _ D.jz e⟩,fun e he=>?_⟩
  · exact s2.extBut _ _ D.tz (r7 _ _ D.tz D.to D.ti D.tj h2)
  · have ne:e≠s.heap.objs.size:=by
     simp only [n31_,n43_,or_false] at he
     rcases he with rfl | rfl | rfl | rfl | rfl
     · exact lt h1
     · exact lt h2
     · exact lt h3
     · obtain ⟨_,q,_⟩:=h4.ex; exact lt q
     · obtain ⟨_,q,_⟩:=h5.ex; exact lt q
    rw [Zo ne];exact (hf e he).1
 done:=by
  intro X hP hw hK hc n pins s σ H E I hf st hg;subst hP hw hK;obtain ⟨h1,h2,⟨c,d,h3⟩,h4,h5⟩:=st;obtain ⟨xs,ys,q1,q2,hl⟩:=hg;obtain ⟨us,ru,pu⟩:=q1.is I;obtain ⟨vs,rv,pv⟩:=q2.is I;have e1:=ru.length;have e2:=rv.length;refine Zhi (I.ok.hd hc) D h1 h2 h3 h4 h5 pu pv ?_ fun g r=>⟨rfl,?_⟩
  · rcases hl with q | q
    · left; simp; omega
    · right; simp; omega
  · refine I.turnOnly (t':=s.toks) (ch:=[z,o,i,j]) (fun e o' ne q=>?_) (fun e he=>hf e ?_)
    · simp only [n31_,n43_,or_false,not_or] at ne;exact r e o' ne.1 ne.2.1 ne.2.2.1 ne.2.2.2 q
    · simp only [n31_,n43_,or_false] at he ⊢
      rcases he with q | q | q | q <;> simp [q]
 self:=fun _ _ _ _ _ st h=>wpAny_pyIter_zip st.1 h
theorem Zol {n a b:Addr} (la:a < n) (lb:b < n):ZP (n+4) (n+2) (n+3) n (n+1) a b:=by
 constructor <;> (intro h; have h':@Eq Nat _ _:=h; have la':@LT.lt Nat _ _ _:=la; have lb':@LT.lt Nat _ _ _:=lb; clear h la lb; omega)
theorem Zf6:bootBuiltins "zip" = some (.type "zip"):=by decide +kernel
section
variable {X:Cx} {es:List Expr} {x1:Nat} {tp:Pos}
def iZip (k l:SK) (K:PySem.W.Frag) (ta:TA):TI:=fun σ H R=>ta σ H fun vs H1=>∃ a b,vs=[.ref a,.ref b]∧(∃ xs,k.Sq K H1 a xs)∧(∃ ys,l.Sq K H1 b ys)∧R (Itz k l K a b) H1
theorem Inv.fps {pins:List (Addr×Obj)} {σ:St} {H:Hp} {s:Shared} (I:Inv X pins σ H s) {fp:List Addr} (h:∀ b∈fp,s.heap.objs.size≤b):∀ b∈fp,FpOk X pins H b:=fun b hb=>I.fpOk (h b hb) (I.hok.fresh (h b hb))
theorem Zgx (k l:SK) {a b:Expr} {ta:TA} {p pos:Pos} (hg:Gl X "zip") (hm:X.mg "zip" = none) (ha:PA X [a,b] ta) (hs:starEach [a,b] X.env=[(false,eval a X.env),(false,eval b X.env)]:=by rfl) (hs2:starEach [b] X.env=[(false,eval b X.env)]:=by rfl) :
 PI X (.Tuple es x1 tp) (.Call (.Name "zip" p) [a,b] [] pos) (iZip k l X.K ta):=by
 intro pins s σ H R I h;refine Call_ (Zbg I hg hm Zf6 (n66_ (thn (ha pos pins s σ H _ I h) fun us s1 ⟨vs,H1,I1,r1,q1⟩=>?_) (by rw [hs,hs2]) (by rw [hs2]; rfl)));obtain ⟨a,b,e,⟨xs,hx⟩,⟨ys,hy⟩,q⟩:=q1;subst e;cases r1 with
 | cons r rr =>
   cases rr with
   | cons r' rr =>
     cases rr
     cases r
     cases r'
     obtain ⟨us,ru,pu⟩:=hx.is I1;obtain ⟨ws,rw',pw⟩:=hy.is I1;have la:a < s1.heap.objs.size:=by obtain ⟨_,_,e,_⟩:=pu.ex; exact n28_ e
     have lb:b < s1.heap.objs.size:=by obtain ⟨_,_,e,_⟩:=pw.ex; exact n28_ e
     refine Zir pu pw fun h1 m1 m2 m3 m4 m5 m6 m7=>wpAny_pyIter_zip m1 ?_;have I2:Inv X pins σ H1 { s1 with heap:=h1,toks:=s1.toks }:=I1.kept m7;refine ⟨_,_,_,_,H1,rfl,I2,Zi4 (z:=s1.heap.objs.size+4) (t:=s1.heap.objs.size+2) (o:=s1.heap.objs.size+3) (i:=s1.heap.objs.size) (j:=s1.heap.objs.size+1) (k:=k) (l:=l) (a:=a) (b:=b) ?_,⟨m1,m2,⟨_,_,m3⟩,m4,m5⟩,?_,q⟩
     · exact Zol la lb
     · have f1:=I1.fps (fp:=[s1.heap.objs.size+4,s1.heap.objs.size+2,s1.heap.objs.size+3,s1.heap.objs.size,s1.heap.objs.size+1]) (by
        intro e he;simp only [n31_,n43_,or_false] at he
        rcases he with rfl | rfl | rfl | rfl | rfl <;> omega)
       exact f1
end
def Ite (k:SK) (K:PySem.W.Frag) (a:Addr):It :=
 ⟨fun i H=>∃ xs x,k.Sq K H a xs∧xs[i]? = some x,
  fun i H v H'=>∃ p x,v=.ref p∧H p=none∧H'=upd H p (.tup [.int i,x])∧∀ xs,k.Sq K H a xs→xs[i]? = some x,
  fun i H=>∃ xs,k.Sq K H a xs∧xs.length=i⟩
theorem SK.draws {prog:Program} {w:World} {A:Around} {k:SK} (hh:A.handled=none) (it a:Addr) (ne:a≠it) (vs:Array Value):Draws prog w A it [it,a] vs.size (fun i v=>vs[i]? = some v) (fun i h=>k.It h it a i∧k.Is h a vs) where
 live:=fun _ _ st=>let ⟨o,e,_⟩:=st.1.ex; ⟨o,e⟩
 frame:=fun _ _ _ st f=>⟨st.1.at fun o e=>f it (by simp) o e,st.2.at fun o e=>f a (by simp) o e⟩
 item:=fun i s Q E hi st q=>SK.draw st.1 st.2 (x:=vs[i]) (by simp [hi]) fun h1 r1 r2=>q _ h1 s.toks (by simp [hi]) ⟨r1,st.2.at fun o e=>r2.extBut _ _ ne e⟩ r2
 done:=fun s Q E st q=>SK.dry hh st.1 st.2 (by simp) q
theorem Zf4 {P:Program} {w:World} {K:PySem.W.Frag} {es:List Expr} {x1:Nat} {tp:Pos} {k:SK} {e it a:Addr} (n1:e≠it) (n2:a≠e) (n3:a≠it) :
 Turn P w K (.Tuple es x1 tp) (Ite k K a) [e,it] e (fun n h=>(∃ old,IsEnum h e it n old)∧k.It h it a n) where
 mem:=by simp
 obj:=fun n h st b hb=>by
  obtain ⟨⟨old,h1⟩,h2⟩:=st;simp only [n31_,n43_,or_false] at hb
  rcases hb with rfl | rfl
  · exact ⟨_,h1,fun v q=>by cases (show Data.fields _=Data.cell v from q)⟩
  · obtain ⟨u,e,_,q⟩:=h2.ex; exact ⟨u,e,fun v r=>by rw [q] at r; cases r⟩
 keep:=fun n h h' st f=>by
  obtain ⟨⟨old,h1⟩,h2⟩:=st;exact ⟨⟨old,f e (by simp) _ h1⟩,h2.at fun u q=>f it (by simp) u q⟩
 item:=by
  intro X hP hw hK hc n pins s σ H E I hf st hg;subst hP hw hK;obtain ⟨⟨old,h1⟩,h2⟩:=st;obtain ⟨xs,x,q1,hx⟩:=hg;obtain ⟨us,ru,pu⟩:=q1.is I;obtain ⟨u,hu,ux⟩:=ru.get hx;have lt:∀ {b o'},s.heap.get? b=some o'→b≠s.heap.objs.size:=fun e=>n50_ (n28_ e);have hlen:n < us.toArray.size:=by have:=(n34_.mp hu).1; simpa using this
  refine wpAny_pyNext_enum_itemD (SK.draws (k:=k) (show X.A.in1.handled=none from I.ok.hd hc) it a n3 us.toArray) h1 ⟨h2,pu⟩ hlen n1 (by simp [n1,n2.symm]) fun v g tk hv r1 r2 r3 r4 r5=>?_
  have ev:v=u:=by
   have:us[n]? = some v:=by simpa using hv
   rw [hu] at this; exact (Option.some.inj this).symm
  subst ev;refine ⟨_,rfl,wpAny_letOwnedTupleGo_enum r1 fun g2 z2 s2=>?_⟩;have hp:H s.heap.objs.size=none:=I.hok.fresh (n9_ _);have T2:g2.get? s.heap.objs.size=some { cls:=.type "tuple",data:=.seq #[.int n tk,v] }:=s2.extBut _ _ (Ne.symm (lt h1)) r3
  have I2:Inv X pins σ (upd H s.heap.objs.size (.tup [.int n,x])) { s with heap:=g2,toks:=tk+1 }:=by
   refine I.turnNew (ch:=[e,it]) (fun b o' ne q=>?_) (fun b hb=>hf b hb) (n9_ _) ⟨z2_,[.int n tk,v],.cons ⟨tk,rfl⟩ (.cons ux .nil),⟨_,T2,rfl,_,rfl⟩⟩;simp only [n31_,n43_,or_false,not_or] at ne;exact s2.extBut _ _ ne.1 (r5 b o' ne.1 ne.2 q)
  refine ⟨.ref s.heap.objs.size,_,I2,rfl,⟨_,x,rfl,hp,rfl,fun xs' q=>by rw [q.inj q1 I]; exact hx⟩,⟨⟨v,by simpa using z2⟩,r2.1.at fun u' q=>s2.extBut _ _ n1.symm q⟩,fun b hb=>?_⟩
  have ne:b≠s.heap.objs.size:=by
   simp only [n31_,n43_,or_false] at hb
   rcases hb with rfl | rfl
   · exact lt h1
   · obtain ⟨_,q,_⟩:=h2.ex; exact lt q
  rw [Zo ne];exact (hf b hb).1
 done:=by
  intro X hP hw hK hc n pins s σ H E I hf st hg;subst hP hw hK;obtain ⟨⟨old,h1⟩,h2⟩:=st;obtain ⟨xs,q1,hl⟩:=hg;obtain ⟨us,ru,pu⟩:=q1.is I;have e1:=ru.length;have en:us.toArray.size=n:=by rw [n12_]; omega
  subst en;have D:=SK.draws (prog:=X.prog) (w:=X.w) (k:=k) (show X.A.in1.handled=none from I.ok.hd hc) it a n3 us.toArray;refine wpAny_pyNext_enum_endD D h1 ⟨h2,pu⟩ fun g r=>⟨rfl,?_⟩;exact I.turnOnly (t':=s.toks) (ch:=[it]) (fun b o' ne q=>r b o' (by simpa using ne) q) (fun b hb=>hf b (by simp at hb; simp [hb]))
 self:=fun _ _ _ _ _ st h=>by obtain ⟨⟨old,h1⟩,_⟩:=st; exact wpAny_pyIter_enum h1 h
end L2
namespace L2
open PySem PySem.Spec PyProof.Rows
open AutoSeq1 (wpAny_loadPart')
abbrev Ze9 (it:Addr):Obj:={ cls:=.type "enumerate",data:=.fields #[.none,.bool false,.ref it,rawInt 0,.none,.none] }
theorem Zke (k:SK) (a:Addr) (vs:Array Value) (o:Obj):Meets (Builtin.«enumerate.__new__» ⟨[.type "enumerate",.ref a],[]⟩) (fun _ R s=>s.heap.get? a=some o∧k.Is s.heap a vs ∧
 R (.ok (.ret (.ref (s.heap.push (k.obj a)).objs.size))) { s with heap:=(s.heap.push (k.obj a)).push (Ze9 s.heap.objs.size) }) :=
 .of_wp fun prog w A R s h=>by
  obtain ⟨hp,g,d,tk,os⟩:=s; obtain ⟨ho,hk,h⟩:=h;have hsub:=sub_enumerate;have r1:k.Is (Shared.heap ⟨hp,g,d,tk,os⟩) a vs:=hk
  wp_walk using wpAny_loadPart' ho
  refine wpAny_stack_any fun st=>n20_ ?_;split
  · rename_i c _ _ _ _ _
    cases (c == Value.type "enumerate")
    · (wp_walk using wpAny_loadPart' ho,SK.iter r1); exact ⟨_,rfl,h⟩
    · (wp_walk using wpAny_loadPart' ho,SK.iter r1); exact ⟨_,rfl,h⟩
  · (wp_walk using wpAny_loadPart' ho,SK.iter r1); exact ⟨_,rfl,h⟩
section
variable {prog:Program} {w:World} {A:Around} {E:Value→Shared→Prop} {s:Shared} {k:SK}
theorem Zgp {a:Addr} {vs:Array Value} {Q:Value→Shared→Prop} (ha:k.Is s.heap a vs)
 (q:∀ h1,IsEnum h1 (s.heap.objs.size+1) s.heap.objs.size 0 .none→k.It h1 s.heap.objs.size a 0→(∀ b o,s.heap.get? b=some o→h1.get? b=some o)→Q (.ref (s.heap.objs.size+1)) { s with heap:=h1 }) :
 wpAny (model prog w) A (call (.type "enumerate") [.ref a]) Q E s:=by
 obtain ⟨o,n,e,d⟩:=ha.ex;refine callType_new F.called_enumerate (by decide) (F.typeCall_enumerate_1 _) (F.newCall_enumerate_1 _) (fun obj=>F.args_object_init_2 obj _) F.entry_enumerate_new (Zke k a vs o) ⟨e,ha,?_⟩;have n1:(s.heap.push (k.obj a)).objs.size=s.heap.objs.size+1:=n84_ ..;have m2:((s.heap.push (k.obj a)).push (Ze9 s.heap.objs.size)).get? (s.heap.push (k.obj a)).objs.size=some (Ze9 s.heap.objs.size):=n25_ _ rfl;have m1:((s.heap.push (k.obj a)).push (Ze9 s.heap.objs.size)).get? s.heap.objs.size=some (k.obj a):=n4_ _ (n25_ _ rfl);show _∧_
 rw [n1] at m2;rw [n1];exact ⟨⟨_,m2,rfl⟩,q _ m2 (.of ⟨_,m1,rfl,rfl⟩) fun b o' r=>n4_ _ (n4_ _ r)⟩
end
theorem Zet:bootBuiltins "enumerate" = some (.type "enumerate"):=by decide +kernel
section
variable {X:Cx} {es:List Expr} {x1:Nat} {tp:Pos}
def Zrm (k:SK) (K:PySem.W.Frag) (ta:TA):TI:=fun σ H R=>ta σ H fun vs H1=>∃ a,vs=[.ref a]∧(∃ xs,k.Sq K H1 a xs)∧R (Ite k K a) H1
theorem ne3 {n a:Addr} (la:a < n):n+1≠n∧a≠n+1∧a≠n:=by
 have la':@LT.lt Nat _ a n:=la;refine ⟨fun h=>?_,fun h=>?_,fun h=>?_⟩ <;> (have h':@Eq Nat _ _:=h; clear h la; omega)
theorem Zo3 (k:SK) {a:Expr} {ta:TA} {p pos:Pos} (hg:Gl X "enumerate") (hm:X.mg "enumerate" = none) (ha:PA X [a] ta) (hs:starEach [a] X.env=[(false,eval a X.env)]:=by rfl) :
 PI X (.Tuple es x1 tp) (.Call (.Name "enumerate" p) [a] [] pos) (Zrm k X.K ta):=by
 intro pins s σ H R I h;refine Call_ (Zbg I hg hm Zet (n66_ (thn (ha pos pins s σ H _ I h) fun us s1 ⟨vs,H1,I1,r1,q1⟩=>?_) hs rfl));obtain ⟨a,e,⟨xs,hx⟩,q⟩:=q1;subst e;cases r1 with
 | cons r rr =>
   cases rr
   cases r
   obtain ⟨us,ru,pu⟩:=hx.is I1;have la:a < s1.heap.objs.size:=by obtain ⟨_,_,e,_⟩:=pu.ex; exact n28_ e
   refine Zgp pu fun h1 m1 m4 m7=>wpAny_pyIter_enum m1 ?_;have I2:Inv X pins σ H1 { s1 with heap:=h1,toks:=s1.toks }:=I1.kept m7;obtain ⟨z1,z2,z3⟩:=ne3 la;refine ⟨_,_,_,_,H1,rfl,I2,Zf4 (e:=s1.heap.objs.size+1) (it:=s1.heap.objs.size) (k:=k) (a:=a) z1 z2 z3,⟨⟨_,m1⟩,m4⟩,?_,q⟩
   exact I1.fps (fp:=[s1.heap.objs.size+1,s1.heap.objs.size]) (by
    intro e he;simp only [n31_,n43_,or_false] at he
    rcases he with rfl | rfl
    · exact Nat.le_succ _
    · exact n9_ _)
end
theorem Zk2 {J:It} {n:Nat} {D:Addr} {g:TG} {tt:TT} {te:TE} {σ0:St} {H:Hp} {Q:VK} (Pv:Nat→St→Hp→Prop) (h0:Pv 0 σ0 (upd H D (.lst [])))
 (hx:∀ i σ H,i < n→Pv i σ H→J.go i H) (hz:∀ σ H,Pv n σ H→J.stop n H)
 (hs:∀ i x σ2 H2 H3,i < n→J.yld i H2 x H3→Pv i σ2 H2→g x σ2 H3 fun σ4 H4=>tt σ4 H4 fun b H5=>if b=true then te σ4 H5 fun y H6=>∃ ys,H6 D=some (.lst ys)∧ys.length < sizeLine ∧
   ∃ m',m' < n - i∧LcN n Pv (i+1) m' σ4 (upd H6 D (.lst (ys++[y]))) else ∃ m',m' < n - i∧LcN n Pv (i+1) m' σ4 H5)
 (hd:∀ σ2 H2,Pv n σ2 H2→Q (.ref D) H2):LcGo J g tt te σ0 H D Q:=by
 refine ⟨LcN n Pv,⟨_,n56_ _,rfl,h0⟩,?_⟩;rintro i m σ2 H2 ⟨hi,rfl,p⟩
 by_cases hlt:i < n
 · exact .inr ⟨hx i σ2 H2 hlt p,fun x H3 y=>hs i x σ2 H2 H3 hlt y p⟩
 · have e:i=n:=by omega
   subst e;exact .inl ⟨hz σ2 H2 p,hd σ2 H2 p⟩
theorem Zaz {J:It} {n:Nat} {g:TG} {tb:TS} {D:Ends} {σ:St} {H:Hp} (Pv:Nat→St→Hp→Prop) (h0:Pv 0 σ H)
 (hx:∀ i σ H,i < n→Pv i σ H→J.go i H) (hz:∀ σ H,Pv n σ H→J.stop n H)
 (hs:∀ i x σ H H',i < n→J.yld i H x H'→Pv i σ H→g x σ H' fun σ2 H2=>tb { D with nx:=Pv (i+1),ct:=Pv (i+1),bk:=D.nx } σ2 H2) (hd:∀ σ H,Pv n σ H→D.nx σ H) :
 ∃ W:Nat→Nat→St→Hp→Prop,(∃ m,W 0 m σ H)∧∀ i m σ H,W i m σ H →
   (J.stop i H∧D.nx σ H)∨(J.go i H∧∃ N:St→Hp→Prop,(∀ σ' H',N σ' H'→∃ m',m' < m∧W (i+1) m' σ' H')∧∀ x H',J.yld i H x H'→g x σ H' fun σ2 H2=>tb { D with nx:=N,ct:=N,bk:=D.nx } σ2 H2):=by
 refine ⟨fun i m σ H=>m=n - i∧i≤n∧Pv i σ H,⟨n,by simp,n56_ _,h0⟩,?_⟩;rintro i m σ H ⟨rfl,hi,p⟩
 by_cases hlt:i < n
 · exact .inr ⟨hx i σ H hlt p,Pv (i+1),fun σ' H' p'=>⟨n - (i+1),by omega,rfl,hlt,p'⟩,fun x H' y=>hs i x σ H H' hlt y p⟩
 · have e:i=n:=by omega
   subst e;exact .inl ⟨hz σ H p,hd σ H p⟩
end L2
namespace L2
open PySem PySem.Spec PyProof.Rows
section
variable {X:Cx}
theorem Zel:∀ (bs:List Bool),((List.range bs.length).any fun i=>(bs[i]?).getD true)=bs.any id
 | []=>rfl
 | b :: bs=>by
   rw [n23_,List.range_succ_eq_map,List.any_cons,List.any_map,List.any_cons,← Zel bs];rfl
theorem Zmt (hc:X.calm=true):Zbe X (.builtin "any") (fun xs H Q=>∃ (p:Addr) (bs:List Bool),xs=[.ref p]∧SqL X.K H p (bs.map V.bl)∧Q (.bl (bs.any id)) H):=by
 intro pins s σ H xs us Q I r h;obtain ⟨p,bs,rfl,hq,q⟩:=h;cases r with
 | cons rx r =>
   cases r
   cases (show _=Value.ref p from rx)
   obtain ⟨its,rv,pl,hz⟩:=I.list hq;have hl:=pl.isList;have hlt:p < s.heap.objs.size:=by obtain ⟨_,e,_⟩:=hl; exact n28_ e
   have hh:X.A.handled=none:=I.ok.hd hc;refine call_any_walk (wpAny_pyIter_list hl ⟨s.heap.objs.size,[s.heap.objs.size,p],[s.heap.objs.size],its.toArray.size,_,_,fun i=>(bs[i]?).getD true,rfl,Walks.list (A:=X.A.in1) hh _ p (n50_ hlt) its.toArray,⟨⟨_,n25_ _ rfl,rfl,rfl⟩,hl.push _⟩,fun i v s' Q' E' hP hQ=>?_,fun h' tk hk=>?_⟩)
   · obtain ⟨b,e,rfl⟩:=Zcd rv (show its[i]? = some v by simpa using hP);simp only [e,Option.getD_some] at hQ;exact wpAny_truthy_bool hQ
   · have e:((List.range its.toArray.size).any fun i=>(bs[i]?).getD true)=bs.any id:=by
      rw [n12_,← rv.length,n2_]; exact Zel bs
     rw [e];exact ⟨.bl _,H,I.kept (Zh1 hk),rfl,q⟩
theorem Zgk:∀ {ns:List Int} {us:List Value} {i:Nat} {v:Value},Vals (ns.map V.int) us→us[i]? = some v→∃ t,v=.int (ns.getD i 0) t
 | [],_,i,v,.nil,e=>by simp at e
 | n :: ns,_,0,v,.cons r t,e=>by
   obtain ⟨k,rfl⟩:=r
   have:v=.int n k:=by simpa using e.symm
   exact ⟨k,this⟩
 | n :: ns,_,i+1,v,.cons r t,e=>by
   obtain ⟨k,h⟩:=Zgk t (by simpa using e);exact ⟨k,by simpa using h⟩
theorem Zek:∀ (ns:List Int) (acc:List Int),preSum (fun i=>(acc++ns).getD i 0) (acc.length+ns.length)=preSum (fun i=>(acc++ns).getD i 0) acc.length+ns.sum
 | [],acc=>by simp
 | n :: ns,acc=>by
   have:=Zek ns (acc++[n])
   rw [List.append_assoc] at this;simp only [n26_,n23_,n47_,List.singleton_append] at this ⊢;rw [show acc.length+(ns.length+1)=acc.length+(0+1)+ns.length by omega,this]
   have e:preSum (fun i=>(acc++n :: ns).getD i 0) (acc.length+(0+1))=preSum (fun i=>(acc++n :: ns).getD i 0) acc.length+n:=by
    show preSum (fun i=>(acc++n :: ns).getD i 0) acc.length+(acc++n :: ns).getD acc.length 0=_
    congr 1
    simp
   rw [e,n57_,Int.add_assoc]
theorem Zdf (hc:X.calm=true):Zbe X (.builtin "sum") (fun xs H Q=>∃ (p:Addr) (ns:List Int),xs=[.ref p]∧SqL X.K H p (ns.map V.int)∧Q (.int ns.sum) H):=by
 intro pins s σ H xs us Q I r h;obtain ⟨p,ns,rfl,hq,q⟩:=h;cases r with
 | cons rx r =>
   cases r
   cases (show _=Value.ref p from rx)
   obtain ⟨its,rv,pl,hz⟩:=I.list hq;have hl:=pl.isList;have hlt:p < s.heap.objs.size:=by obtain ⟨_,e,_⟩:=hl; exact n28_ e
   have hh:X.A.handled=none:=I.ok.hd hc;refine call_sum_walkG (wpAny_pyIter_list hl ⟨s.heap.objs.size,[s.heap.objs.size,p],[s.heap.objs.size],its.toArray.size,_,_,fun i=>ns.getD i 0,rfl,Walks.list (A:=X.A.in1) hh _ p (n50_ hlt) its.toArray,⟨⟨_,n25_ _ rfl,rfl,rfl⟩,hl.push _⟩,fun b hb=>?_,fun i v hP=>Zgk rv (by simpa using hP),fun h' tk t' hk=>?_⟩)
   · simp only [n31_,n43_,or_false] at hb;show b < (s.heap.push _).objs.size
     rw [n84_]
     rcases hb with rfl | rfl
     · exact Nat.lt_succ_self _
     · exact Nat.lt_succ_of_lt hlt
   · have e:preSum (fun i=>ns.getD i 0) its.toArray.size=ns.sum:=by
      have:=Zek ns []
      simp only [List.nil_append,n47_,Nat.zero_add] at this;rw [n12_,← rv.length,n2_,this];show preSum _ 0+_=_
      simp [preSum]
     rw [e];exact ⟨.int _,H,I.kept (Zh1 hk),⟨_,rfl⟩,q⟩
end
end L2
namespace L2
open PySem PySem.Spec PyProof.Rows
open AutoSeq1 (wpAny_loadPart')
section
variable {X:Cx} {pins:List (Addr×Obj)} {σ:List (Option V)} {H H':Hp} {s:Shared} {h':Heap}
theorem Inv.turnGen {t':Nat} {ch:List Addr} (I:Inv X pins σ H s) (k:∀ b u,b∉ch→s.heap.get? b=some u→h'.get? b=some u) (hf:∀ b∈ch,FpOk X pins H b)
 (old:∀ b u,H b=some u→H' b=some u) (non:∀ b u,s.heap.get? b=some u→H b=none→H' b=none) (new:∀ b u,H b=none→H' b=some u→ObjOk X.prog X.w H' h' b u):Inv X pins σ H' { s with heap:=h',toks:=t' }:=by
 have nc:∀ b u,H b=some u→b∉ch:=fun b u e z=>by rw [(hf b z).1] at e; cases e
 refine I.step (g':=s.gens) (d':=s.drawn) (ch:=ch) (fun b hb=>?_) (fun b u _ _ hc e _=>k b u hc e) (fun b u _ _ hc e _=>⟨u.slots,k b u hc e⟩) (fun b u _ e n=>non b u e n)
  (fun b u hc e=>⟨u,k b u hc e⟩) (fun b xs e=>old b _ e) (fun b u v e=>old b _ e) (fun b ps e=>⟨#[],by rw [old b _ e]; simp⟩) (fun m hm=>?_) (fun b u e=>?_) I.bare
 · obtain ⟨f0,f1,f2,f3,f4,f5⟩:=hf b hb;exact ⟨f3,f1,f4,f5⟩
 · obtain ⟨u,es,ep,hu,r⟩:=hm;exact ⟨u,es,ep,k _ u (fun z=>(hf _ z).2.1 rfl) hu,r⟩
 · cases hb:H b with
   | none=>exact new b u hb e
   | some v =>
     rw [old b v hb] at e;cases e
     refine (I.hok b _ hb).stay (fun c w hc q=>k c w ?_ q) (fun c q=>old c _ q) fun c xs q=>old c _ q
     rcases hc with z | z
     · rw [z]; exact nc b _ hb
     · exact nc c _ z
end
section
variable {X:Cx} {es:List Expr} {x1:Nat} {tp:Pos}
end
end L2
namespace L2
open PySem PySem.Spec PyProof.Rows
def Tk (H H':Hp):Prop:=∀ a xs,H a=some (.tup xs)→H' a=some (.tup xs)
theorem Same.tk {H H':Hp} (s:Same H H'):Tk H H':=fun a xs e=>s a _ e
theorem Tk.of_keep {H H':Hp} {l:Addr} {ys:List V} (k:Keep l H H') (e:H l=some (.lst ys)):Tk H H':=fun a xs q=>k a _ (Zhw q e (by intro z; cases z)) q
theorem Tk.upd_lst {H:Hp} {D:Addr} {ys zs:List V} (e:H D=some (.lst ys)):Tk H (upd H D (.lst zs)):=fun a xs q=>by rw [Zo (Zhw q e (by intro z; cases z))]; exact q
def Al {α:Type} (R:V→α→Prop) (vs:List V) (xs:List α):Prop:=vs.length=xs.length∧∀ (i:Nat) (v:V) (x:α),vs[i]? = some v→xs[i]? = some x→R v x
theorem Al.nil {α:Type} {R:V→α→Prop}:Al R [] []:=⟨rfl,fun i v x e=>by simp at e⟩
theorem Al.snoc {α:Type} {R:V→α→Prop} {vs:List V} {xs:List α} {v:V} {x:α} (h:Al R vs xs) (r:R v x):Al R (vs++[v]) (xs++[x]):=by
 refine ⟨by simp [h.1],fun i w y e1 e2=>?_⟩
 by_cases hi:i < vs.length
 · rw [n63_ hi] at e1;rw [n63_ (by rw [← h.1]; exact hi)] at e2;exact h.2 i w y e1 e2
 · have:i=vs.length:=by
    have:=(n34_.mp e1).1
    simp at this; omega
   subst this;rw [n62_ (n9_ _)] at e1;rw [h.1,n62_ (n9_ _)] at e2;simp at e1 e2;subst e1; subst e2;exact r
theorem Al.imp {α:Type} {R S:V→α→Prop} {vs:List V} {xs:List α} (h:Al R vs xs) (f:∀ v x,R v x→S v x):Al S vs xs:=⟨h.1,fun i v x e1 e2=>f v x (h.2 i v x e1 e2)⟩
theorem Al.get {α:Type} {R:V→α→Prop} {vs:List V} {xs:List α} {i:Nat} {v:V} (h:Al R vs xs) (e:vs[i]? = some v):∃ x,xs[i]? = some x∧R v x:=by
 have hi:i < xs.length:=by rw [← h.1]; exact (n34_.mp e).1
 exact ⟨xs[i],n0_ hi,h.2 i v _ e (n0_ hi)⟩
theorem Al.got {α:Type} {R:V→α→Prop} {vs:List V} {xs:List α} {i:Nat} {x:α} (h:Al R vs xs) (e:xs[i]? = some x):∃ v,vs[i]? = some v∧R v x:=by
 have hi:i < vs.length:=by rw [h.1]; exact (n34_.mp e).1
 exact ⟨vs[i],n0_ hi,h.2 i _ x (n0_ hi) e⟩
theorem Al.bls {vs:List V} {bs:List Bool} (h:Al (fun v b=>v=V.bl b) vs bs):vs=bs.map V.bl:=by
 refine List.ext_getElem? fun i=>?_;rw [n5_];cases e:bs[i]? with
 | none =>
   have:=List.getElem?_eq_none_iff.mp e
   rw [n94_ (by rw [h.1]; exact this)]; rfl
 | some b =>
   obtain ⟨v,ev,rfl⟩:=h.got e;rw [ev]; rfl
theorem Al.ints {vs:List V} {ns:List Int} (h:Al (fun v n=>v=V.int n) vs ns):vs=ns.map V.int:=by
 refine List.ext_getElem? fun i=>?_;rw [n5_];cases e:ns[i]? with
 | none =>
   have:=List.getElem?_eq_none_iff.mp e
   rw [n94_ (by rw [h.1]; exact this)]; rfl
 | some b =>
   obtain ⟨v,ev,rfl⟩:=h.got e;rw [ev]; rfl
theorem Zi0 {J:It} {n:Nat} {D:Addr} {g:TG} {te:TE} {σ0:St} {H:Hp} {Q:VK} {α:Type} (R:Hp→V→α→Prop) (hR:∀ H1 H2 v x,Tk H1 H2→R H1 v x→R H2 v x) (ys_:List α) (hn:ys_.length=n) (hz:n≤1000) (ok:St→Prop) (h0:ok σ0) (hD:H D=none)
 (hgo:∀ i H2,Same H H2→i < n→J.go i H2) (hstop:∀ H2,Same H H2→J.stop n H2)
 (hs:∀ i x σ2 H2 H3 (C:St→V→Hp→Prop),i < n→Same H H2→J.yld i H2 x H3→ok σ2→(∀ σ4 y H5 z,ok σ4→Same H2 H5→ys_[i]? = some z→R H5 y z→C σ4 y H5)→g x σ2 H3 fun σ4 H4=>te σ4 H4 (C σ4))
 (hd:∀ H2 vs,Same H H2→H2 D=some (.lst vs)→Al (R H2) vs ys_→Q (.ref D) H2):LcGo J g tYes te σ0 H D Q:=by
 refine Zk2 (n:=n) (fun i σ H2=>Same H H2∧ok σ∧∃ vs,H2 D=some (.lst vs)∧Al (R H2) vs (ys_.take i)) ⟨Same.new hD,h0,[],Zc,by rw [List.take_zero]; exact .nil⟩ (fun i σ H2 hi p=>hgo i H2 p.1 hi) (fun σ H2 p=>hstop H2 p.1) (fun i x σ2 H2 H3 hi y p=>?_) (fun σ2 H2 p=>?_)
 · obtain ⟨s2,o2,vs,e2,a2⟩:=p
   have:=hs i x σ2 H2 H3 (fun σ4 y H6=>∃ ys,H6 D=some (.lst ys)∧ys.length < sizeLine∧∃ m',m' < n - i∧LcN n (fun i σ H2=>Same H H2∧ok σ∧∃ vs,H2 D=some (.lst vs)∧Al (R H2) vs (ys_.take i)) (i+1) m' σ4 (upd H6 D (.lst (ys++[y])))) hi s2 y o2 ?_
   · exact this
   · intro σ4 v H5 z o4 s5 ez rz;have e5:H5 D=some (.lst vs):=s5 _ _ e2;refine ⟨vs,e5,?_,n - (i+1),by omega,by omega,rfl,fun b o e=>?_,o4,vs++[v],Zc,?_⟩
     · rw [a2.1,n79_,sizeLine_eq]; omega
     · rw [Zo (Zk e hD)]; exact s5 _ _ (s2 _ _ e)
     · have tk:Tk H5 (upd H5 D (.lst (vs++[v]))):=Tk.upd_lst e5;have hi':i < ys_.length:=by omega
       rw [n39_ hi'];rw [n0_ hi'] at ez;cases ez
       exact (a2.imp fun v x r=>hR _ _ v x tk (hR _ _ v x s5.tk r)).snoc (hR _ _ _ _ tk rz)
 · obtain ⟨s2,_,vs,e2,a2⟩:=p;rw [List.take_of_length_le (by omega)] at a2;exact hd H2 vs s2 e2 a2
end L2
namespace L2
open PySem PySem.Spec PyProof.Rows
def SK.At (H:Hp) (a:Addr) (vs:List V):SK→Prop
 | .l=>H a=some (.lst vs)
 | .t=>H a=some (.tup vs)
theorem SK.At.sq {k:SK} {K:PySem.W.Frag} {H:Hp} {a:Addr} {vs:List V} (h:k.At H a vs):k.Sq K H a vs:=by
 cases k with
 | l=>exact SqL.of h
 | t=>exact SqT.of h
theorem SK.At.same {k:SK} {H H':Hp} {a:Addr} {vs:List V} (h:k.At H a vs) (s:Same H H'):k.At H' a vs:=by
 cases k with
 | l=>exact s _ _ h
 | t=>exact s _ _ h
def SK.Itk (K:PySem.W.Frag) (a:Addr):SK→L2.It
 | .l=>Itl K a
 | .t=>Itt K a
theorem Zar {k:SK} {K:PySem.W.Frag} {a:Addr} {H:Hp} {vs:List V} {i:Nat} (h:k.At H a vs) (hi:i < vs.length):(k.Itk K a).go i H:=by
 cases k with
 | l=>exact ⟨vs,vs[i],SqL.of h,n0_ hi⟩
 | t=>exact ⟨vs,vs[i],SqT.of h,n0_ hi⟩
theorem Y5 {k:SK} {K:PySem.W.Frag} {a:Addr} {H:Hp} {vs:List V} {i:Nat} (h:k.At H a vs) (hi:vs.length≤i):(k.Itk K a).stop i H:=by
 cases k with
 | l=>exact ⟨vs,SqL.of h,hi⟩
 | t=>exact ⟨vs,SqT.of h,hi⟩
theorem Xj {k:SK} {K:PySem.W.Frag} {a:Addr} {H H':Hp} {vs:List V} {i:Nat} {x:V} (h:k.At H a vs) (y:(k.Itk K a).yld i H x H'):H'=H∧vs[i]? = some x:=by
 cases k with
 | l=>exact ⟨y.1,y.2 vs (SqL.of h)⟩
 | t=>exact ⟨y.1,y.2 vs (SqT.of h)⟩
theorem lc_T {k:SK} {K:PySem.W.Frag} {a D:Addr} {vs:List V} {te:TE} {u0:Option V} {rest:St} {H:Hp} {Q:VK} {α:Type} (R:Hp→V→α→Prop) (hR:∀ H1 H2 v x,Tk H1 H2→R H1 v x→R H2 v x) (ys:List α) (hn:ys.length=vs.length) (hz:vs.length≤1000) (hD:H D=none) (ha:k.At H a vs)
 (hs:∀ (i:Nat) (w:V) (H2:Hp) (C:V→Hp→Prop),vs[i]? = some w→Same H H2→(∀ y H5 z,Same H2 H5→ys[i]? = some z→R H5 y z→C y H5)→te (some w :: rest) H2 C)
 (hd:∀ H2 us,Same H H2→H2 D=some (.lst us)→Al (R H2) us ys→Q (.ref D) H2):LcGo (k.Itk K a) (Z1 0) tYes te (u0 :: rest) H D Q:=by
 refine Zi0 R hR ys hn hz (fun σ=>∃ u,σ=u :: rest) ⟨_,rfl⟩ hD (fun i H2 s hi=>Zar (ha.same s) hi) (fun H2 s=>Y5 (ha.same s) (n9_ _)) (fun i x σ2 H2 H3 C hi s y o c=>?_) hd;obtain ⟨u,rfl⟩:=o;obtain ⟨rfl,e⟩:=Xj (ha.same s) y;exact hs i x H3 (C (some x :: rest)) e s fun y H5 z s5 ez rz=>c _ y H5 z ⟨_,rfl⟩ s5 ez rz
theorem lc_Z {k l:SK} {K:PySem.W.Frag} {a b D:Addr} {vs ws:List V} {te:TE} {u0 u1:Option V} {rest:St} {H:Hp} {Q:VK} {α:Type} (R:Hp→V→α→Prop) (hR:∀ H1 H2 v x,Tk H1 H2→R H1 v x→R H2 v x) (ys:List α) (hn:ys.length=min vs.length ws.length) (hz:min vs.length ws.length≤1000) (hD:H D=none) (ha:k.At H a vs) (hb:l.At H b ws)
 (hs:∀ (i:Nat) (v w:V) (H2:Hp) (C:V→Hp→Prop),vs[i]? = some v→ws[i]? = some w→Same H H2→(∀ y H5 z,Same H2 H5→ys[i]? = some z→R H5 y z→C y H5)→te (some v :: some w :: rest) H2 C)
 (hd:∀ H2 us,Same H H2→H2 D=some (.lst us)→Al (R H2) us ys→Q (.ref D) H2):LcGo (Itz k l K a b) (gTup K 2 (Z7 (Z1 0) (Z7 (Z1 1) gNil))) tYes te (u0 :: u1 :: rest) H D Q:=by
 refine Zi0 R hR ys hn hz (fun σ=>∃ u u',σ=u :: u' :: rest) ⟨_,_,rfl⟩ hD (fun i H2 s hi=>?_) (fun H2 s=>?_) (fun i x σ2 H2 H3 C hi s y o c=>?_) hd
 · have h1:i < vs.length:=by omega
   have h2:i < ws.length:=by omega
   exact ⟨vs,ws,vs[i],ws[i],(ha.same s).sq,(hb.same s).sq,n0_ h1,n0_ h2⟩
 · exact ⟨vs,ws,(ha.same s).sq,(hb.same s).sq,by omega⟩
 · obtain ⟨u,u',rfl⟩:=o;obtain ⟨p,v,w,rfl,hp,rfl,y1,y2⟩:=y;have s3:Same H2 (upd H2 p (.tup [v,w])):=Same.new hp;refine ⟨p,[v,w],rfl,SqT.of Zc,rfl,v,[w],rfl,w,[],rfl,rfl,?_⟩;exact hs i v w _ (C (some v :: some w :: rest)) (y1 vs (ha.same s).sq) (y2 ws (hb.same s).sq) (s.trans s3) fun y H5 z s5 ez rz=>c _ y H5 z ⟨_,_,rfl⟩ (s3.trans s5) ez rz
end L2
namespace L2
open PySem PySem.Spec PyProof.Rows
abbrev Nms:=List (Str×NameKind)
def relN (sc:Nms) (dn:Nms):Nms:=sc.map fun y=>if y.2 == .free && dn.lookup y.1 == some .cell then (y.1,.cell) else y
def chk (sc dn:Nms) (N XN:List Str) (fr:List (Option Nat)):Bool :=
 sc.all (fun y=>y.2 != .free || dn.lookup y.1 == some .cell) && sc.all (fun y=>y.2 != .local || sc.lookup y.1 == some .local) && sc.all (fun y=>y.2 != .cell || sc.lookup y.1 == some .cell) && (fr.length == N.length) &&
  (List.range fr.length).all fun i=>match fr[i]? with
    | some (some j)=>match N[i]? with
      | some x=>XN[j]? == some x && dn.lookup x == some .cell && (relN sc dn).lookup x == some .cell && sc.all (fun y=>y.1 != x || y.2 != .cell) && sc.any (fun y=>y.1 == x && y.2 == .free)
      | none=>false
    | _=>true
theorem Zbi {cells:List (Str×Addr)} {sc:Nms} {x:Str} (key:(x,NameKind.free)∈sc):∃ c,(Y8 cells sc).lookup x=some c:=by
 have hm:(x,(cells.lookup x).getD 0)∈Y8 cells sc:=by
  unfold Y8;exact List.mem_reverse.mpr (n22_.mpr ⟨(x,.free),List.mem_filter.mpr ⟨key,rfl⟩,rfl⟩)
 cases q:(Y8 cells sc).lookup x with
 | some c'=>exact ⟨c',rfl⟩
 | none =>
   have z:=(List.lookup_eq_none_iff.mp q) _ hm;simp at z
theorem Zfe {sc dn:Nms} {x:Str} {k:NameKind} (hk:k=.cell∨k=.free) (h:(relN sc dn).lookup x=some k):(x,NameKind.free)∈sc∨(x,NameKind.cell)∈sc:=by
 have m:=n38_ h;obtain ⟨⟨n,k'⟩,hm,e⟩:=n22_.mp m
 by_cases hf:k'=.free
 · subst hf
   have:n=x:=by
    dsimp only at e;split at e <;> (injection e)
   subst this;exact .inl hm
 · have b:(k' == NameKind.free)=false:=by simpa using hf
   simp only [b,n85_,Bool.false_eq_true,if_false] at e;injection e with e1 e2
   subst e1 e2
   rcases hk with rfl | rfl
   · exact .inr hm
   · exact absurd rfl hf
theorem Zb2 {scope:Scope} {env:Env} {dn:Nms} (hn:env.scope.names=dn) (hk:env.scope.kind=.function):(relabel scope env).names=relN scope.names dn:=by
 unfold relabel relN;show scope.names.map _=scope.names.map _
 refine List.map_congr_left fun y _=>?_;obtain ⟨n,k⟩:=y;have e:(env.scope.kind == ScopeKind.function)=true:=by rw [hk]; rfl
 have e2:env.kindOf n=dn.lookup n:=by rw [← hn]; rfl
 simp only [e,e2,Bool.and_true]
theorem Z6 {X:Cx} {scope:Scope} {N XN:List Str} {fr:List (Option Nat)} (dn:Nms) (hn:X.env.scope.names=dn) (hk:X.env.scope.kind=.function) (hX:X.N=XN) (hc:∀ x,dn.lookup x=some .cell→∃ c,X.env.cells.lookup x=some c)
 (h:chk scope.names dn N XN fr=true) (hs:scope.kind=.function):LcO X scope (Y8 X.env.cells scope.names) N fr:=by
 unfold chk at h;simp only [n40_] at h;obtain ⟨⟨⟨⟨h1,h2⟩,h3⟩,h4⟩,h5⟩:=h
 have hf:∀ y∈scope.names,y.2=.free→∃ c,X.env.cells.lookup y.1=some c:=fun y hy e=>by
  have:=n48_.mp h1 y hy
  rw [e] at this;exact hc _ (by simpa using this)
 refine ⟨Zcz hf,fun x c e=>?_,fun x e=>?_,hs,fun y hy e=>?_,by simpa using h4,fun i j e=>?_⟩
 · have m:=n38_ e;unfold Y8 at m;obtain ⟨⟨n,k⟩,hm,e2⟩:=n22_.mp (List.mem_reverse.mp m);obtain ⟨h1',h2'⟩:=List.mem_filter.mp hm;obtain ⟨c',hc'⟩:=hf _ h1' (by simpa using h2');injection e2 with e3 e4
   subst e3;rw [hc'] at e4;rw [hc',← e4];rfl
 · rw [Zb2 hn hk] at e
   have:(x,NameKind.free)∈scope.names∨(x,NameKind.cell)∈scope.names:=e.elim (Zfe (.inl rfl)) (Zfe (.inr rfl))
   rcases this with m | m
   · exact .inr (Zbi m)
   · have:=n48_.mp h3 _ m
     exact .inl (by simpa using this)
 · have:=n48_.mp h2 y hy
   rw [e] at this
   simpa using this
 · have hi:i < fr.length:=(n34_.mp e).1
   have:=n48_.mp h5 i (List.mem_range.mpr hi)
   rw [e] at this;cases hx:N[i]? with
   | none=>rw [hx] at this; cases this
   | some x =>
     rw [hx] at this;simp only [n40_,beq_iff_eq] at this;obtain ⟨⟨⟨⟨t1,t2⟩,t3⟩,t4⟩,t5⟩:=this;obtain ⟨⟨z1,z2⟩,m1,m2⟩:=List.any_eq_true.mp t5;simp only [n40_,beq_iff_eq] at m2;obtain ⟨rfl,rfl⟩:=m2;refine ⟨z1,rfl,by rw [hX]; exact t1,.inl (by rw [hn]; exact t2),.inl (by rw [Zb2 hn hk]; exact t3),Zbi m1,fun m=>?_⟩
     have:=n48_.mp t4 _ m
     simp at this
theorem Zbx {cells:List (Str×Addr)} {sc dn:Nms} {x:Str} {n:Nat} (hc:sc.all (fun y=>y.2 != .cell || sc.lookup y.1 == some .cell)=true) (h:(relN sc dn).lookup x=some .cell):∃ c,(cellsFrom n sc (Y8 cells sc)).lookup x=some c:=by
 refine Option.isSome_iff_exists.mp (PySem.W.cellsFrom_some sc n _ ?_)
 rcases Zfe (.inl rfl) h with m | m
 · obtain ⟨c,e⟩:=Zbi (cells:=cells) m;exact .inr (by rw [e]; rfl)
 · have:=n48_.mp hc _ m
   exact .inl (by simpa using this)
theorem Z2 {X:Cx} {scope:Scope} {N:List Str} {fr:List (Option Nat)} (h:scope.names.all (fun y=>y.2 != .cell && y.2 != .free)=true) (hk:scope.kind=.function)
 (hn:∀ y∈scope.names,y.2=.local→scope.names.lookup y.1=some .local) (hl:fr.length=N.length) (hf:fr.all (·.isNone)=true):LcO X scope [] N fr:=by
 have no:∀ y∈scope.names,y.2≠.cell∧y.2≠.free:=fun y hy=>by
  have:=n48_.mp h y hy
  rw [n40_] at this
  simpa using this
 refine ⟨closureFor_none fun x hx=>(no x hx).2,fun x c e=>by simp at e,fun x e=>?_,hk,hn,hl,fun i j e=>?_⟩
 · exfalso
   have key:∀ k,(relabel scope X.env).names.lookup x=some k→k≠.cell∧k≠.free:=fun k e=>by
    obtain ⟨⟨n,k'⟩,hm,e2⟩:=n22_.mp (n38_ e);have b:(k' == NameKind.free)=false:=by simpa using (no _ hm).2
    simp only [b,n85_,Bool.false_eq_true,if_false] at e2;cases e2
    exact no _ hm
   rcases e with e | e
   · exact (key _ e).1 rfl
   · exact (key _ e).2 rfl
 · have:=n48_.mp hf _ (n1_ e)
   cases this
def rNeL (K:PySem.W.Frag):R2:=fun x y H Q=>∃ a b xs,x=.ref a∧y=.ref b∧SqL K H a xs∧SqL K H b []∧Q (.bl (!decide (xs=[]))) H
theorem Zn5 {X:Cx} (hu:X.A.units < cLine):OpR X (compareOp .NotEq) (rNeL X.K):=by
 intro pins s σ H x y v u Q I rx ry h;obtain ⟨a,b,xs,rfl,rfl,h1,h2,q⟩:=h;cases rx; cases ry
 obtain ⟨us,r1,p1,_⟩:=I.list h1;obtain ⟨ws,r2,p2,_⟩:=I.list h2;have l1:=r1.length;have e:ws=[]:=r2.nil_iff.mpr rfl;subst e;cases hx:xs with
 | nil =>
   subst hx;have e:us=[]:=r1.nil_iff.mpr rfl;subst e;exact SeqAt.RcNeAt.lists (e:=fun j=>true) p1.isList p2.isList rfl hu (fun j h1 h2=>absurd h2 (by simp)) _ _ _ _ ⟨.bl _,H,I,rfl,q⟩
 | cons y ys =>
   subst hx;exact SeqAt.RcNeAt.lists_lengths p1.isList p2.isList (by simp at l1; simp [← l1]) hu _ _ _ _ ⟨.bl _,H,I,rfl,q⟩
end L2
namespace L2
open PySem PySem.Spec PyProof.Rows
theorem Zc7 (K:PySem.W.Frag) {X:Cx} (h:X.K=K):IxR X (rIxL K):=h ▸ Yc
theorem Zap (K:PySem.W.Frag) {X:Cx} (h:X.K=K):IxR X (rIxT K):=h ▸ Ym
theorem Ze1 (K:PySem.W.Frag) {X:Cx} (h:X.K=K):OpR X (compareOp .NotIn) (rIn K true):=h ▸ Zgf
theorem Zd2 (K:PySem.W.Frag) {X:Cx} (h:X.K=K):Zbe X (.type "tuple") (fun xs H Q=>∃ p ys,xs=[.ref p]∧((SqL K H p ys∧∀ l,H l=none→Q (.ref l) (upd H l (.tup ys)))∨(SqT K H p ys∧Q (.ref p) H))):=h ▸ Ye
theorem Znv (K:PySem.W.Frag) {X:Cx} {tg l:Expr} {tl:TE} (h:X.K=K) (hl:PE X l tl):PI X tg l (Zqu K tl):=h ▸ Yj hl
theorem Zqm {k:SK} {K:PySem.W.Frag} {a D:Addr} {vs:List V} {te:TE} {u0 u1:Option V} {rest:St} {H:Hp} {Q:VK} {α:Type} (R:Hp→V→α→Prop) (hR:∀ H1 H2 v x,Tk H1 H2→R H1 v x→R H2 v x) (ys:List α) (hn:ys.length=vs.length) (hz:vs.length≤1000) (hD:H D=none) (ha:k.At H a vs)
 (hp:∀ (i:Nat) (w:V),vs[i]? = some w→∃ p x y,w=.ref p∧H p=some (.tup [x,y]))
 (hs:∀ (i:Nat) (p:Addr) (x y:V) (H2:Hp) (C:V→Hp→Prop),vs[i]? = some (.ref p)→H p=some (.tup [x,y])→Same H H2→(∀ y H5 z,Same H2 H5→ys[i]? = some z→R H5 y z→C y H5)→te (some x :: some y :: rest) H2 C)
 (hd:∀ H2 us,Same H H2→H2 D=some (.lst us)→Al (R H2) us ys→Q (.ref D) H2):LcGo (k.Itk K a) (gTup K 2 (Z7 (Z1 0) (Z7 (Z1 1) gNil))) tYes te (u0 :: u1 :: rest) H D Q:=by
 refine Zi0 R hR ys hn hz (fun σ=>∃ u u',σ=u :: u' :: rest) ⟨_,_,rfl⟩ hD (fun i H2 s hi=>Zar (ha.same s) hi) (fun H2 s=>Y5 (ha.same s) (n9_ _)) (fun i x σ2 H2 H3 C hi s y o c=>?_) hd;obtain ⟨u,u',rfl⟩:=o;obtain ⟨rfl,e⟩:=Xj (ha.same s) y;obtain ⟨p,x1,y1,rfl,e2⟩:=hp i x e;exact ⟨p,[x1,y1],rfl,SqT.of (s _ _ e2),rfl,x1,[y1],rfl,y1,[],rfl,rfl,hs i p x1 y1 H3 (C (some x1 :: some y1 :: rest)) e e2 s fun y H5 z s5 ez rz=>c _ y H5 z ⟨_,_,rfl⟩ s5 ez rz⟩
end L2
namespace L2
open PySem PySem.Spec PyProof.Rows
theorem Xp {X:Cx} {x:Str} {pos' spos:Pos} {tg elt iter:Expr} {ifs:List Expr} {scope:Scope} {cl:List (Str×Addr)} {N:List Str} {fr:List (Option Nat)} {pos:Pos} {wi:TI} {g g':TG} {tt:TT} {te:TE}
 (hw:swapsWith (.ListComp elt [⟨tg,iter,ifs,0⟩] scope pos) (some (.Name x pos')) spos.line X.env=pure true)
 (hc:X.calm=true) (hg':PG X (.Name x pos') g') (L:LcO X scope cl N fr) (hi:PI X tg iter wi) (hg:∀ C s3 H3 fp,PG (blk X scope cl C N s3 H3 fp) tg g)
 (ht:∀ C s3 H3 fp,PIfs (blk X scope cl C N s3 H3 fp) ifs tt) (he:∀ C s3 H3 fp,PE (blk X scope cl C N s3 H3 fp) elt te)
 (hs:∀ x,foldedSetIterable iter X.env x=pure x:=by intro _; rfl):PS X (.Assign [.Name x pos'] (.ListComp elt [⟨tg,iter,ifs,0⟩] scope pos) spos) (tAsg (tLC wi g tt te fr) g'):=by
 intro pins s σ H D I h;rw [exec_Assign_Name_used _ _ _ _ hw];refine n3_ (wpAny_standAt (n3_ ?_));rw [arm_evalThenUse_ListComp];refine n3_ (wpAny_comprehension_free (Q:=fun _ s'=>wpAny (model X.prog X.w) X.A (pure ()) (fun _ s''=>wpAny (model X.prog X.w) X.A (pure Flow.next) (SP X pins D) X.xe s'') X.xe s') (use:=some (assign (.Name x pos') X.env)) rfl hs L.clos L.kind L.names (thn (hi pins s σ H _ I h) fun v s1 h1=>thn h1 fun itv s2 h2=>?_));obtain ⟨it,fp,tn,J,H2,e,I2,T,st2,f2,h⟩:=h2;subst e;obtain ⟨W,⟨m0,w0⟩,turn⟩:=h s2.heap.objs.size (I2.hok.fresh (n9_ _));refine wpAny_newObj_type ?_;generalize hs3:({ s2 with heap:=s2.heap.push { cls:=.type "list",dict:=none,data:=.seq ([]:List Value).toArray } }:Shared)=s3;refine Zjf (ac:=.lst []) hs3.symm hc L hg I2 T st2 f2 ⟨n56_ _,[],_,.nil,n25_ _ rfl⟩ w0 turn (fun _ _ a b=>codeAny_compStart_list a (b _)) (fun LI s4 t n h=>Zcs LI t n h) (fun H6 s7 qn I3 fr7 c=>?_) (Zl8 ht he);obtain ⟨m7,hn7,c7⟩:=c;have I8:Inv X pins σ H6 s7:=c7 s7.heap (Heap.SameBut.refl ..)
 have fpC:∀ {H6:Hp},H6 s3.heap.objs.size=none→∀ b∈[s3.heap.objs.size],FpOk X pins H6 b:=fun fr b hb=>by
  rw [n13_] at hb;subst hb;exact I3.fpOk (n9_ _) fr
 obtain ⟨oC,esC,epC,geC,dC,skC,nfC⟩:=hn7
 have I9:=I8.pinned (fpC fr7) (fun b hb=>by
  rw [n13_] at hb;subst hb;exact ⟨oC,geC,fun v z=>by rw [dC] at z; cases z⟩)
 refine thn (hg' _ s7 σ H6 (.ref s2.heap.objs.size) (.ref s2.heap.objs.size) _ I9 rfl qn) fun _ s9 ⟨σ9,H9,I10,q9⟩=>?_;have pC:=I10.pin (s3.heap.objs.size,oC) (n35_ _ (n35_ _ (Zab (n13_.mpr rfl) geC)));refine ⟨m7,⟨oC,esC,epC,pC.1,dC,skC,nfC⟩,fun h' sb=>?_⟩;refine n20_ (n20_ ?_);exact ⟨σ9,H9,I10.unpinned.turnGen (t':=s9.toks) (ch:=[s3.heap.objs.size]) (fun b u nb e=>(sb.2 b (fun z=>nb (by rw [z]; exact n13_.mpr rfl))).trans e) (fpC pC.2.1) (fun _ _ e=>e) (fun _ _ _ e=>e) (fun b u e1 e2=>by rw [e1] at e2; cases e2),q9⟩
end L2
namespace L2
open PySem PySem.Spec PyProof.Rows PySem.W
section
variable {prog:Program} {w:World} {A:Around} {R:Result→Shared→Prop} {I:Addr} {fp wr:List Addr} {n:Nat} {P:Nat→Value→Prop} {St:Nat→Heap→Prop}
theorem Ziu:(toString "min" ++ toString ".loop" : String) = "min.loop" := by decide
end
section
variable {prog:Program} {w:World} {A:Around} {E:Value→Shared→Prop} {s:Shared}
end
section
variable {X:Cx}
end
end L2
namespace L2
open PySem PySem.Spec PyProof.Rows PySem.W
section
variable {X:Cx}
end
def KTu (K:PySem.W.Frag) (a:Addr) (us:List V):Prop:=∃ (o:Obj) (its:Array Value) (n:Nat),K.lookup a=some o∧o.cls=.type "tuple" ∧ o.data=.seq its n∧its.size≤sizeLine∧Vals us its.toList
theorem KTu.sq {K:PySem.W.Frag} {H:Hp} {a:Addr} {us:List V} (h:KTu K a us):SqT K H a us:=.inr h
end L2
namespace L2
open PySem PySem.Spec PyProof.Rows PySem.W
theorem fsc {N P:List Str} {sc:Scope} (h:sc.kind=.function∧sc.isCoroutine=false∧sc.isGenerator=false∧N.Nodup∧N.take P.length=P∧(∀ x∈P,sc.names.lookup x=some .local∨sc.names.lookup x=some .cell)∧∀ y∈sc.names,y.2≠.free):FnScope N P sc:=let ⟨a,b,c,d,e,f,g⟩:=h; ⟨a,b,c,d,e,f,g⟩
end L2
namespace L2
open PySem PySem.Spec PyProof.Rows PySem.W
theorem Zma {X:Cx} (K:PySem.W.Frag) (hK:X.K=K):Zbe X (.builtin "isinstance") (fun xs H Q=>∃ x T t b,xs=[x,.ty T]∧TyOf K H x t∧PySem.W.kitOne K t (.type T)=some b∧Q (.bl b) H):=hK ▸ Y4
end L2
set_option maxHeartbeats 4000000
namespace L2
open PySem PySem.Spec PyProof.Rows
section
variable {M:Model} {A:Around} {E:Value→Shared→Prop} {s:Shared}
def FO (h:Heap) (a:Addr) (C:Value) (d:Option Addr) (vs:Array Value):Prop:=∃ o:Obj,h.get? a=some o∧o.cls=C∧o.dict=d∧o.data=.fields vs
def Fly (h:Heap) (G:Heap) (e T:Addr) (C:Value):Prop :=
 G.get? e=none∧G.get? T=none∧T≠e∧(∃ vs,FO h e C none vs∧vs[1]? = some (.ref T))∧∃ cT dT ts,FO h T cT dT ts∧ts[3]? = some .none
def CX1 (P:Program) (w:World):CXT:=fun outer H s E e s'=>∃ ea T C H',e=.ref ea∧s'.os=s.os∧AllBare s'.gens∧Un (frs outer) [] H H' s.heap s'.heap∧HOk P w H' s'.heap∧Fly s'.heap s.heap ea T (.ref C)∧H' ea=none∧H' T=none∧E (.ref C) none H'
end
section
variable {X:Cx} {E:XK} {pins:List (Addr×Obj)} {σ:St} {H:Hp} {s:Shared} {ea T C:Addr}
end
section
variable {P:Program} {w:World} {K:PySem.W.Frag} {mg:Str→Option Value} {base:Heap} {N:List Str} {qual:Str} {scope:Scope} {f:Addr} {cd:Value} {A:Around} {outer:List Env} {s₀:Shared} {H₀:Hp} {E:XK}
end
end L2
namespace L2
open PySem PySem.Spec PyProof.Rows
def fzO (o:Obj):HO:=.frz o (.own 0)
theorem Zm2 {P:Program} {w:World} {H:Hp} {h:Heap} {a:Addr} {o:Obj} (e:h.get? a=some o):ObjOk P w H h a (fzO o):=⟨e,o,e⟩
def Znc (H:Hp) (c:Addr) (v:V):Prop:=∃ (o:Obj) (u:Value),H c=some (fzO o)∧o.data=.cell (some u)∧RelV v u
def del (H:Hp) (c:Addr):Hp:=fun a=>if a=c then none else H a
theorem Xw {H:Hp} {c a:Addr} (h:a≠c):del H c a=H a:=if_neg h
theorem Zb3 {H:Hp} {c:Addr}:del H c c=none:=if_pos rfl
section
variable {X:Cx} {pins:List (Addr×Obj)} {σ:St} {H:Hp} {s:Shared}
abbrev Cx.fix (X:Cx) (x:Str):Cx:={ X with fn:=fun y=>X.fn y && y != x }
theorem Cx.Ok.fix (ok:X.Ok) (x:Str):(X.fix x).Ok :=
 ⟨ok.mod,ok.kind,ok.glob,ok.blt,ok.above,ok.inj,ok.has,fun y c h e=>ok.cab y c (Bool.and_eq_true_iff.mp h).1 e,ok.hd,ok.frames,ok.stk,ok.exf,ok.bs,ok.bsz,ok.noex,ok.exfs,ok.funs,ok.frf⟩
def tFix (i:Nat) (c:Addr) (t:TE):TE:=fun σ H Q=>∃ v,σ[i]? = some (some v)∧∀ o u,o.data=.cell (some u)→RelV v u→H c=none→t σ (upd H c (fzO o)) fun w H'=>Q w (del H' c)
theorem Inv.fixOn {i:Nat} {x:Str} {c:Addr} {v:V} (I:Inv X pins σ H s) (hN:X.N[i]? = some x) (hk:X.env.scope.names.lookup x=some .cell) (hc:X.env.cells.lookup x=some c) (hf:X.fn x=true) (hv:σ[i]? = some (some v)) :
 H c=none∧(∀ o u,X.H₀ c≠some (.frz o u))∧∃ o u,o.data=.cell (some u)∧RelV v u∧Inv (X.fix x) pins σ (upd H c (fzO o)) s:=by
 obtain ⟨m,hn,hl⟩:=id I.loc;obtain ⟨u,ru,lk⟩:=hl i x v hN hv (.inr (.inl hk));have hH:H c=none:=(I.freeC x c hc).elim id fun z=>by rw [hf] at z; cases z.1
 obtain ⟨o,ho,hd⟩:s.heap.IsCell c (some u):=by
  rcases lk with ⟨k,_⟩ | ⟨_,c',e,z⟩
  · rw [show X.env.kindOf x=some .cell from hk] at k; cases k
  · rw [hc] at e; cases e; exact z
 have hcs:X.s₀.heap.objs.size≤c:=I.ok.cab x c hf hc;have un:∀ b,b≠c→(upd H c (fzO o)) b=H b:=fun b hb=>Zo hb;have ne:∀ b q,H b=some q→b≠c:=fun b q e z=>by rw [z,hH] at e; cases e
 refine ⟨hH,fun o' u' z=>(by have:=I.base.frzs c o' u' z; rw [hH] at this; cases this),o,u,hd,ru,?_⟩;refine ⟨I.ok.fix x,I.os,I.bare,⟨I.base.keep,I.base.slot,fun b q e n hx=>?_,I.base.there,fun b xs e=>?_,fun b w' q e=>?_,fun b ps e=>?_⟩,I.loc,I.cell,?_,fun y c' e=>?_,fun p hp=>?_,fun b q e=>?_,I.len⟩
 · rw [un b fun z=>absurd (n28_ e) (Nat.not_lt.mpr (by rw [z]; exact hcs))]; exact I.base.free b q e n hx
 · have q:=I.base.tups b xs e; rw [un b (ne b _ q)]; exact q
 · have q':=I.base.frzs b w' q e; rw [un b (ne b _ q')]; exact q'
 · obtain ⟨m,q⟩:=I.base.tbls b ps e; exact ⟨m,by rw [un b (ne b _ q)]; exact q⟩
 · rw [un _ (Ne.symm (I.cne x c hc))]; exact I.free
 · by_cases hcc:c'=c
   · have hy:y=x:=I.ok.inj y x c (hcc ▸ e) hc;exact .inr ⟨by show (X.fn y && y != x)=false; rw [hy]; simp,o,_,by rw [hcc,Zc]; rfl⟩
   · rw [un c' hcc];exact (I.freeC y c' e).imp id fun ⟨z,q⟩=>⟨by show (X.fn y && y != x)=false; rw [z]; rfl,q⟩
 · obtain ⟨e,n,r1,r2,d⟩:=I.pin p hp
   have nc:p.1≠c:=fun z=>by
    rw [z,ho] at e;exact d (some u) (by rw [← Option.some.inj e]; exact hd)
   exact ⟨e,(un _ nc).trans n,r1,r2,d⟩
 · by_cases hb:b=c
   · subst hb;rw [Zc] at e; cases e; exact Zm2 ho
   · rw [un b hb] at e;refine (I.hok b q e).stay (fun _ _ _ z=>z) (fun d z=>?_) fun d xs z=>?_
     · rw [un d (ne d _ z)]; exact z
     · rw [un d (ne d _ z)]; exact z
theorem Inv.fixOff {x:Str} {c:Addr} (ok:X.Ok) (hc:X.env.cells.lookup x=some c) (n0:∀ o u,X.H₀ c≠some (.frz o u)) (I2:Inv (X.fix x) pins σ H s):Inv X pins σ (del H c) s:=by
 have kind:H c=none∨∃ o u,H c=some (.frz o u):=(I2.freeC x c hc).imp id fun z=>z.2
 have nt:∀ b q,H b=some q→(∀ o u,q≠.frz o u)→b≠c:=fun b q e n z=>by
  rw [z] at e
  rcases kind with k | ⟨o,u,k⟩
  · rw [k] at e; cases e
  · rw [k] at e; cases e; exact n _ _ rfl
 refine ⟨ok,I2.os,I2.bare,⟨I2.base.keep,I2.base.slot,fun b q e n hx=>?_,I2.base.there,fun b xs e=>?_,fun b w' q e=>?_,fun b ps e=>?_⟩,I2.loc,I2.cell,?_,fun y c' e=>?_,fun p hp=>?_,fun b q e=>?_,I2.len⟩
 · by_cases hb:b=c
   · rw [hb]; exact Zb3
   · rw [Xw hb]; exact I2.base.free b q e n hx
 · have q:=I2.base.tups b xs e; rw [Xw (nt b _ q (by intro _ _ z; cases z))]; exact q
 · have q':=I2.base.frzs b w' q e;have nb:b≠c:=fun z=>n0 w' q (by rw [← z]; exact e);rw [Xw nb]; exact q'
 · obtain ⟨m,q⟩:=I2.base.tbls b ps e; exact ⟨m,by rw [Xw (nt b _ q (by intro _ _ z; cases z))]; exact q⟩
 · by_cases hb:X.env.locals=c
   · rw [hb]; exact Zb3
   · rw [Xw hb]; exact I2.free
 · by_cases hcc:c'=c
   · rw [hcc]; exact .inl Zb3
   · rw [Xw hcc];refine (I2.freeC y c' e).imp id fun ⟨z,q⟩=>⟨?_,q⟩;have hy:y≠x:=fun w=>hcc (Option.some.inj ((w ▸ e).symm.trans hc));have z':(X.fn y && y != x)=false:=z;rw [Bool.and_eq_false_iff] at z';exact z'.elim id fun t=>absurd (bne_eq_false_iff_eq.mp t) hy
 · obtain ⟨e,n,r⟩:=I2.pin p hp;refine ⟨e,?_,r⟩
   by_cases hb:p.1=c
   · rw [hb]; exact Zb3
   · rw [Xw hb]; exact n
 · have hb:b≠c:=fun z=>by rw [z,Zb3] at e; cases e
   rw [Xw hb] at e;refine (I2.hok b q e).stay (fun _ _ _ z=>z) (fun d z=>?_) fun d xs z=>?_
   · rw [Xw (nt d _ z (by intro _ _ t; cases t))]; exact z
   · rw [Xw (nt d _ z (by intro _ _ t; cases t))]; exact z
theorem Zn2 {i:Nat} {x:Str} {c:Addr} {e:Expr} {t:TE} (hN:X.N[i]? = some x) (hk:X.env.scope.names.lookup x=some .cell) (hc:X.env.cells.lookup x=some c) (hf:X.fn x=true) (he:PE (X.fix x) e t):PE X e (tFix i c t):=by
 intro pins s σ H Q I h;obtain ⟨v,hv,h⟩:=h;obtain ⟨hH,n0,o,u,hd,ru,I1⟩:=I.fixOn hN hk hc hf hv;refine wpAny_mono (he pins s σ _ _ I1 (h o u hd ru hH)) (fun r s' q=>?_) fun _ _ z=>z;obtain ⟨w',H',I2,rw',q⟩:=q;exact ⟨w',del H' c,I2.fixOff I.ok hc n0,rw',q⟩
def CodeF (H:Hp) (c:Addr) (q:Str):Prop:=∃ (o:Obj) (vs:Array Value) (t:Tok),H c=some (fzO o)∧o.data=.fields vs∧vs[1]? = some (.str q t)
def TabF (H:Hp) (P:Addr) (q:Str):Prop:=∃ ps:Array Value,H P=some (.tbl ps)∧TriplesOk ps.toList∧∀ pos cv,codeAmong pos ps.toList=some cv→∃ c,cv=.ref c∧CodeF H c q
def BltK (K:PySem.W.Frag) (mg:Str→Option Value):Prop:=∃ (bm:Addr) (o:Obj),mg "__builtins__" = some (.ref bm)∧bm≠builtinsNs∧bm≠mainGlobals∧K.lookup bm=some o∧o.cls=.type "module" ∧ o.dict=some builtinsNs∧o.data=.plain
def LamF (H:Hp) (a:Addr) (q:Str) (params:Arguments) (body:Expr) (scope:Scope) (clos:List (Str×Addr)) (pm:Value):Prop :=
 ∃ (c:Addr) (ct:Value),H a=some (fzO { cls:=.type "function",data:=.func (PySem.W.kla_fn "<lambda>" q params body scope clos pm (.ref c) ct) })∧CodeF H c q
def X8 (P:Addr) (H H':Hp):Prop:=∀ b o,b≠P→H b=some o→H' b=some o
theorem CodeF.keep {P c:Addr} {H':Hp} {q:Str} (x:CodeF H c q) (k:X8 P H H') (n:c≠P):CodeF H' c q:=let ⟨o,vs,t,e,r⟩:=x; ⟨o,vs,t,k _ _ n e,r⟩
theorem CodeF.neP {P c:Addr} {q:Str} {ps:Array Value} (x:CodeF H c q) (e:H P=some (.tbl ps)):c≠P:=fun z=>by
 obtain ⟨o,vs,t,e',_⟩:=x;rw [z,e] at e'; cases e'
theorem Zeq {p:Pos} {a b:Int} {c v:Value}:∀ l:List Value,TriplesOk l→codeAmong p (l++[rawInt a,rawInt b,c])=some v→codeAmong p l=some v∨v=c
 | [],_,h=>by
   right
   simp only [List.nil_append,rawInt,codeAmong] at h;split at h
   · exact (Option.some.inj h).symm
   · cases h
 | .int x t :: .int y u :: z :: r,ht,h=>by
   simp only [n80_,codeAmong] at h ⊢;split at h
   · rename_i q; left; rw [if_pos q]; exact h
   · rename_i q; rw [if_neg q]; exact Zeq r ht h
def tLam (mg:Str→Option Value) (P:Addr) (q:Str) (params:Arguments) (body:Expr) (scope:Scope) (clos:List (Str×Addr)):TE:=fun _ H Q=>TabF H P q∧∀ a H',X8 P H H'→TabF H' P q→H a=none→a≠P→LamF H' a q params body scope clos ((mg "__name__").getD .none)→Q (.ref a) H'
theorem Zpz {params:Arguments} {body:Expr} {scope:Scope} {pos:Pos} {clos:List (Str×Addr)} {cc P:Addr} {q:Str} (hdef:defaultsOf params X.env=([],[])) (hcl:closureFor scope X.env=pure clos) (hcode:X.env.code=.ref cc)
 (hq:X.env.qual ++ "<lambda>" = q) (CK:∀ h,X.K.In h→PySem.W.CodeHd h cc P) (BK:BltK X.K X.mg):PE X (.Lambda params body scope pos) (tLam X.mg P q params body scope clos):=by
 intro pins s σ H Q I h;obtain ⟨⟨ps,hP,ht,hcs⟩,k⟩:=h;have tab:s.heap.get? P=some (PySem.W.tabObj ps):=I.hok P _ hP;have g:s.heap.Ns mainGlobals X.mg:=I.mod.glob.keeps I.bk
 have nB:∀ b o,X.base.get? b=some o→b≠P:=fun b o e z=>by
  have:=(I.bs b o e).2
  rw [z,hP] at this; cases this
 have gP:mainGlobals≠P:=by
  obtain ⟨o,_,_,e,_⟩:=I.mod.glob;exact nB _ o e
 have bat:s.heap.BuiltinsAt X.mg P:=by
  obtain ⟨bm,o,h1,h2,h3,h4,h5⟩:=BK;exact ⟨bm,o,h1,h2,h3,nB _ o (I.mod.kin _ _ h4),I.kIn _ _ h4,h5⟩
 refine PySem.W.kla_eval hdef ?_;rw [hq];cases hc:codeAmong pos ps.toList with
 | some cv =>
   obtain ⟨c,rfl,cf⟩:=hcs pos cv hc;refine PySem.W.kla_makeFunctionHit (mg:=X.mg) hcl I.ok.glob g hcode (CK _ I.kIn) tab ht hc bat fun ctv h' tk kp sz=>?_;have na:H h'.objs.size=none:=I.hok.fresh sz;have un:∀ b o,H b=some o→b≠h'.objs.size:=fun b o e z=>by rw [z,na] at e; cases e
   refine ⟨.ref h'.objs.size,upd H h'.objs.size (fzO _),I.laid (t':=tk) (fun b u e=>n4_ _ (kp b u e)) sz (Zm2 (n25_ h' rfl)),rfl,?_⟩;have kk:X8 P H (upd H h'.objs.size (fzO { cls:=.type "function",data:=.func (PySem.W.kla_fn "<lambda>" q params body scope clos ((X.mg "__name__").getD .none) (.ref c) ctv) })):=fun b o _ e=>by rw [Zo (un b o e)]; exact e
   have cf':∀ {d:Addr},CodeF H d q→CodeF (upd H h'.objs.size (fzO { cls:=.type "function",data:=.func (PySem.W.kla_fn "<lambda>" q params body scope clos ((X.mg "__name__").getD .none) (.ref c) ctv) })) d q:=fun x=>x.keep kk (x.neP hP);refine k _ _ kk ⟨ps,by rw [Zo (un _ _ hP)]; exact hP,ht,fun p v e=>?_⟩ na (fun z=>un _ _ hP z.symm) ⟨c,ctv,Zc,cf' cf⟩;obtain ⟨d,e1,e2⟩:=hcs p v e;exact ⟨d,e1,cf' e2⟩
 | none =>
   refine PySem.W.kla_makeFunction (mg:=X.mg) hcl I.ok.glob g hcode (CK _ I.kIn) tab ht hc gP bat fun c ctv h' tk ext hge hlt hrec htab=>?_;obtain ⟨c0,oc,vs,tq,ec,hoc,hdc,hqc⟩:=hrec;cases ec
   generalize hfo:({ cls:=.type "function",data:=.func (PySem.W.kla_fn "<lambda>" q params body scope clos ((X.mg "__name__").getD .none) (.ref c) ctv) }:Obj)=fo;have ff:fo.isFreed=false:=by rw [← hfo]; rfl
   have nc:H c=none:=I.hok.fresh hge;have sz:s.heap.objs.size≤h'.objs.size:=n19_ hge (n76_ hlt);have na:H h'.objs.size=none:=I.hok.fresh sz;have cP:c≠P:=fun z=>by rw [z,hP] at nc; cases nc
   have aP:h'.objs.size≠P:=fun z=>by rw [z,hP] at na; cases na
   have ac:h'.objs.size≠c:=Nat.ne_of_gt hlt;have kp:∀ b o,b≠P→s.heap.get? b=some o→(h'.push fo).get? b=some o:=fun b o n e=>n4_ _ (ext b o n e);have nP:∀ b,H b=none→b≠P:=fun b n z=>by rw [z,hP] at n; cases n
   generalize hps:ps++#[rawInt pos.line,rawInt pos.col,.ref c]=ps' at htab;generalize hH':upd (upd (upd H P (.tbl ps')) c (fzO oc)) h'.objs.size (fzO fo)=H';have atP:H' P=some (.tbl ps'):=by rw [← hH',Zo (Ne.symm aP),Zo (Ne.symm cP)]; exact Zc
   have atc:H' c=some (fzO oc):=by rw [← hH',Zo (Ne.symm ac)]; exact Zc
   have ata:H' h'.objs.size=some (fzO fo):=by rw [← hH']; exact Zc
   have oth:∀ b,b≠P→b≠c→b≠h'.objs.size→H' b=H b:=fun b h1 h2 h3=>by rw [← hH',Zo h3,Zo h2,Zo h1]
   have tr:∀ b o,b≠P→H b=some o→H' b=some o:=fun b o n e=>by
    rw [oth b n (fun z=>by rw [z,nc] at e; cases e) (fun z=>by rw [z,na] at e; cases e)]; exact e
   have I1:Inv X pins σ H' { s with heap:=h'.push fo,toks:=tk }:=by
    refine I.step (g':=s.gens) (d':=s.drawn) (ch:=[]) (fun _ z=>nomatch z) (fun b o _ _ _ e n=>kp b o (nP b n) e) (fun b o _ _ _ e n=>⟨o.slots,kp b o (nP b n) e⟩) (fun b o _ e n=>?_) (fun b o _ e=>?_) (fun b xs e=>tr b _ ?_ e) (fun b o u e=>tr b _ ?_ e)
     (fun b qs e=>?_) (fun m hm=>?_) (fun b u e=>?_) I.bare
    · have lb:=n28_ e;rw [oth b (nP b n) (n50_ (n16_ lb hge)) (n50_ (n16_ lb sz))]; exact n
    · by_cases hb:b=P
      · exact ⟨_,hb ▸ n4_ _ htab⟩
      · exact ⟨o,kp b o hb e⟩
    · intro z; rw [z,hP] at e; cases e
    · intro z; rw [z,hP] at e; cases e
    · by_cases hb:b=P
      · subst hb; rw [hP] at e; cases e;exact ⟨_,by rw [hps]; exact atP⟩
      · exact ⟨#[],by rw [Array.append_empty]; exact tr b _ hb e⟩
    · obtain ⟨o,es,ep,ho,r⟩:=hm;exact ⟨o,es,ep,kp _ o (nP _ I.free) ho,r⟩
    · by_cases h1:b=P
      · subst h1; rw [atP] at e; cases e;exact n4_ _ htab
      · by_cases h2:b=c
        · subst h2; rw [atc] at e; cases e;exact Zm2 (n4_ _ hoc)
        · by_cases h3:b=h'.objs.size
          · subst h3; rw [ata] at e; cases e;exact Zm2 (n25_ h' ff)
          · rw [oth b h1 h2 h3] at e;refine (I.hok b u e).stay (fun d v hd z=>kp d v ?_ z) (fun d z=>tr d _ ?_ z) fun d xs z=>tr d _ ?_ z
            · rcases hd with r | r
              · rw [r]; exact h1
              · intro z'; rw [z',hP] at r; cases r
            · intro z'; rw [z',hP] at z; cases z
            · intro z'; rw [z',hP] at z; cases z
   have cfc:CodeF H' c q:=⟨oc,vs,tq,atc,hdc,hqc⟩;subst hfo;refine ⟨.ref h'.objs.size,H',I1,rfl,k _ _ tr ⟨ps',atP,?_,fun p v e=>?_⟩ na aP ⟨c,ctv,ata,cfc⟩⟩
   · rw [← hps,Array.toList_append];exact TriplesOk_snoc _ _ _ _ ht
   · rw [← hps,Array.toList_append] at e
     rcases Zeq ps.toList ht e with e' | e'
     · obtain ⟨d,e1,e2⟩:=hcs p v e';exact ⟨d,e1,e2.keep tr (e2.neP hP)⟩
     · exact ⟨c,e',cfc⟩
end
end L2
namespace L2
open PySem PySem.Spec PyProof.Rows
section
variable {P:Program} {w:World} {K:PySem.W.Frag} {mg:Str→Option Value} {base:Heap}
abbrev Zmp (scope:Scope) (L:Addr) (clos:List (Str×Addr)) (q:Str) (a:Addr) (cd:Value):Env:=newEnv scope L mainGlobals clos (q ++ ".<locals>.") (some a) cd none builtinsNs
def cxL (P:Program) (w:World) (K:PySem.W.Frag) (mg:Str→Option Value) (base:Heap) (N:List Str) (env:Env) (A:Around) (outer:List Env) (s:Shared) (H:Hp) (E:XK):Cx where
 prog:=P
 w:=w
 K:=K
 mg:=mg
 base:=base
 A:=A.deeper env
 N:=N
 s₀:=s
 H₀:=H
 env:=env
 outer:=outer
 stack:=env :: outer
 ex:=[]
 calm:=true
 fn:=fun _=>false
 pn:=[]
 xe:=fun e s'=>wpAny (model P w) (A.deeper env) (leaving env e) (fun _ s''=>CX1 P w outer H s E e s'') (fun e' s''=>CX1 P w outer H s E e' s'') s'
end
section
variable {X:Cx}
end
end L2
namespace L2
open PySem PySem.Spec PyProof.Rows
section
variable {P:Program} {w:World} {K:PySem.W.Frag} {mg:Str→Option Value} {base:Heap}
theorem Fun.okC {x qual:Str} {st:Stmt} {f:Addr} {fd:FuncData} {N ps:List Str} {k:Nat} {sp:Sp} (F:Fun K x qual st f fd) (S:FnScope N ps (Ze st)) (len:∀ vs H Q E,sp vs H Q E→vs.length=ps.length)
 (hbody:∀ (cdv:Value),fd.code=cdv→∀ (A:Around) (outer:List Env) (s:Shared) (H:Hp) (vs:List V) (Q:VK) (E:XK),Room k (A.deeper (envOfC qual (Ze st) s.heap.objs.size f cdv))→sp vs H Q E →
   ∃ t,PSs (cxOf CX0 P w K mg base N qual (Ze st) f cdv A outer s H E).nox (Yr st) t∧t { nx:=fun _ H'=>Q .non H',rt:=Q } (Zcy N vs) H):FnOk P w K mg base CX0 (k+1) f fd ps sp:=by
 obtain ⟨oc,od,kV,doc,pm,an,cdv,ct,osl,rfl,lk,hcd⟩:=F.ex;refine Zpn lk hcd S len fun A outer s H vs Q E hr hsp=>?_;obtain ⟨t,h,q⟩:=hbody cdv rfl A outer s H vs Q E hr hsp;exact ⟨t,h.nox,q⟩
end
section
variable {X:Cx}
end
end L2
namespace L2
open PySem PySem.Spec PyProof.Rows
variable {N:Addr→Prop} {k:Nat}
section
variable {H H':Hp} {P c c1:Addr} {q:Str}
theorem CodeF.mv (x:CodeF H c q) (k:∀ o,H c=some (fzO o)→H' c=some (fzO o)):CodeF H' c q:=let ⟨o,vs,t,e,r⟩:=x; ⟨o,vs,t,k o e,r⟩
theorem CodeF.neC (x:CodeF H c q) {o1:Obj} {u:Option Value} (e:H c1=some (fzO o1)) (hd:o1.data=.cell u):c≠c1:=fun z=>by
 obtain ⟨o,vs,t,e',hv,_⟩:=x;rw [z,e] at e'; cases e'; rw [hd] at hv; cases hv
theorem CodeF.neL (x:CodeF H c q) {L:Addr} {xs:List V} (e:H L=some (.lst xs)):c≠L:=fun z=>by
 obtain ⟨o,vs,t,e',_⟩:=x;rw [z,e] at e'; cases e'
theorem TabF.mv (x:TabF H P q) (k0:∀ ps,H P=some (.tbl ps)→H' P=some (.tbl ps)) (k:∀ c,CodeF H c q→CodeF H' c q):TabF H' P q :=
 let ⟨ps,e,t,h⟩:=x
 ⟨ps,k0 _ e,t,fun p v z=>let ⟨d,e1,e2⟩:=h p v z; ⟨d,e1,k _ e2⟩⟩
theorem TabF.same (x:TabF H P q) (s:Same H H'):TabF H' P q:=x.mv (fun _ e=>s _ _ e) fun _ c=>c.mv fun _ e=>s _ _ e
theorem TabF.keepL (x:TabF H P q) {L:Addr} {xs:List V} (e:H L=some (.lst xs)) (s:Keep L H H'):TabF H' P q :=
 x.mv (fun _ z=>s _ _ (fun w=>by rw [w,e] at z; cases z) z) fun _ c=>c.mv fun _ z=>s _ _ (c.neL e) z
theorem TabF.del (x:TabF H P q) {o1:Obj} {u:Option Value} (e:H c1=some (fzO o1)) (hd:o1.data=.cell u):TabF (del H c1) P q :=
 x.mv (fun _ z=>by rw [Xw fun w=>by rw [w,e] at z; cases z]; exact z) fun _ c=>c.mv fun _ z=>by rw [Xw (c.neC e hd)]; exact z
variable {a:Addr} {params:Arguments} {body:Expr} {scope:Scope} {clos:List (Str×Addr)} {pm:Value}
end
variable {N:Addr→Prop} {k:Nat}
section
variable {P1 P2:Addr} {H H1 H2:Hp} {q:Str}
end
end L2
namespace L2
open PySem PySem.Spec PyProof.Rows
theorem Znk {H:Hp} {P:Addr} {q:Str} (e:H P=some (.tbl #[])):TabF H P q:=⟨#[],e,by first | trivial | exact .nil | simp [TriplesOk],fun p v z=>by have z':codeAmong p []=some v:=z; first | (cases z'; done) | simp [codeAmong] at z'⟩
theorem Zly {P:Program} {w:World} {K:PySem.W.Frag} {mg mb:Str→Option Value} {k:Nat} {fa a:Addr} {fd:FuncData} {x:Str} {sp:Sp} {s₁:Shared} {vs:List Value} {ns:List Int} {c1 c2 P1 P2:Addr}
 (KX:K.In s₁.heap) (hns:s₁.heap.Ns mainGlobals mg) (hb:s₁.heap.Ns builtinsNs mb) (hbb:∀ x:Str,x ≠ "__name__" → mb x=bootBuiltins x) (hlim:s₁.heap.NoLimit) (hg:s₁.gens=#[])
 (ha:s₁.heap.get? a=some { cls:=.type "list",data:=.seq vs.toArray }) (hi:IntsAre vs ns) (hl:ns.length≤sizeLine) (hr:Room k callerA)
 (C1:PySem.W.CodeHd s₁.heap c1 P1) (C2:PySem.W.CodeHd s₁.heap c2 P2) (T1:s₁.heap.get? P1=some (PySem.W.tabObj #[])) (T2:s₁.heap.get? P2=some (PySem.W.tabObj #[])) (k1:K.lookup P1=none) (k2:K.lookup P2=none)
 (F:∀ base:Heap,K.In base→base.Ns mainGlobals mg→FnOk P w K mg base CX0 k fa fd [x] sp) (hbind:∀ (s:Shared) (u:Value),BindsTo s fd ⟨[u],[]⟩ [(x,u)])
 (hsp:∀ H:Hp,SqL K H a (ns.map V.int)→H P1=some (.tbl #[])→H P2=some (.tbl #[])→sp [.ref a] H (fun v _=>v=.bl true) fun _ _ _=>False) :
 codeAny (model P w) callerA (.call (.ref fa) ⟨[.ref a],[]⟩) (fun r s'=>r=.ok (.ret (.bool true))∧OldK s₁.heap s'.heap∧s'.os=s₁.os∧AllBare s'.gens) s₁:=by
 have rv:=Zg0 hi;have lenV:=hi.length;have a1:a≠P1:=fun z=>by rw [z,T1] at ha; cases ha
 have a2:a≠P2:=fun z=>by rw [z,T2] at ha; cases ha
 have core:∀ H:Hp,SqL K H a (ns.map V.int)→HOk P w H s₁.heap→(∀ b u,H b=some u→(b=a∧(∃ o xs,u=.frz o (.lst xs))∧K.lookup a=none)∨((b=P1∨b=P2)∧u=.tbl #[]))→H P1=some (.tbl #[])→H P2=some (.tbl #[]) →
  codeAny (model P w) callerA (.call (.ref fa) ⟨[.ref a],[]⟩) (fun r s'=>r=.ok (.ret (.bool true))∧OldK s₁.heap s'.heap∧s'.os=s₁.os∧AllBare s'.gens) s₁:=by
  intro H hS hok hA h1 h2;have base_of:∀ {b:Addr} {o:Obj},s₁.heap.get? b=some o→H b=none→(hidT s₁.heap H).get? b=some o:=fun e n=>Znb e n
  have noA:∀ {b:Addr} {o:Obj} {es:Array DictEntry} {ep:Nat},s₁.heap.get? b=some o→o.data=.dict es ep→H b=none:=fun {b o es ep} e d=>by
   cases q:H b with
   | none=>rfl
   | some u =>
     rcases hA b u q with ⟨rfl,_⟩ | ⟨rfl | rfl,_⟩
     · rw [ha] at e; cases e; cases d
     · rw [T1] at e; cases e; cases d
     · rw [T2] at e; cases e; cases d
  have nsK:∀ {b:Addr} {m:Str→Option Value},s₁.heap.Ns b m→(hidT s₁.heap H).Ns b m:=fun {b m} ⟨o,es,ep,e,d,r⟩=>⟨o,es,ep,base_of e (noA e d),d,r⟩
  have hKb:K.In (hidT s₁.heap H):=fun b o e=>base_of (KX b o e) (by
   cases q:H b with
   | none=>rfl
   | some u =>
     rcases hA b u q with ⟨rfl,_,z⟩ | ⟨rfl | rfl,_⟩
     · rw [z] at e; cases e
     · rw [k1] at e; cases e
     · rw [k2] at e; cases e)
  have hM:Mod K mg (hidT s₁.heap H):=⟨hKb,nsK hns,⟨mb,nsK hb,hbb⟩,let ⟨mc,h1,h2⟩:=hlim; ⟨mc,nsK h1,h2⟩⟩;have e0:Env0 P w K mg (hidT s₁.heap H) callerA [] s₁ H:=⟨rfl,hM,fun b o e=>Zo4 e,Nat.le_of_eq (Zkt _ _),trivial,fun b hb=>absurd (show b∈([]:List Addr) from hb) (by simp),hok,.of_eq hg⟩;refine codeAny_mono ((F _ hKb (nsK hns)).run callerA [] s₁ H ⟨[.ref a],[]⟩ [.ref a] [.ref a] _ _ hr e0 (hbind s₁ (.ref a)) (.cons rfl .nil) (hsp H hS h1 h2)) fun r s' h=>?_;cases r with
  | error e=>exact False.elim h
  | ok fl =>
    cases fl with
    | next=>exact False.elim h
    | brk=>exact False.elim h
    | cont=>exact False.elim h
    | ret u =>
      obtain ⟨v,H',os,bare,un,hok',r',q⟩:=h;have q':v=.bl true:=q;subst q';obtain rfl:u=Value.bool true:=r'
      have tb:∀ (c b:Addr) (o:Obj),PySem.W.CodeHd s₁.heap c b→s₁.heap.get? b=some (PySem.W.tabObj #[])→H b=some (.tbl #[])→s₁.heap.get? b=some o→asItWas s₁.heap s'.heap b o∧∃ o',s'.heap.get? b=some o':=fun c b o hc ht hb e=>by
       obtain ⟨more,e'⟩:=un.tbls b _ hb;have z:s'.heap.get? b=some { cls:=.none,data:=.fields (#[]++more) }:=hok' b _ e';rw [ht] at e;cases e
       exact ⟨.inr (.inl ⟨(hc.tab ht).isCodeTable,rfl,#[],more,rfl,z⟩),_,z⟩
      have all:∀ b o,s₁.heap.get? b=some o→asItWas s₁.heap s'.heap b o∧∃ o',s'.heap.get? b=some o':=fun b o e=>by
       cases q:H b with
       | none =>
         have z:=un.keep b o e q (by intro z; exact absurd (show b∈([]:List Addr) from z) (by simp)) (by simp);exact ⟨.inl z,_,z⟩
       | some u =>
         rcases hA b u q with ⟨rfl,⟨ob,xs,rfl⟩,_⟩ | ⟨rfl | rfl,rfl⟩
         · have z2:=un.frzs _ ob _ q;obtain ⟨e1,_⟩:=hok _ _ q;obtain ⟨e2,_⟩:=hok' _ _ z2;rw [e] at e1; cases e1;exact ⟨.inl e2,_,e2⟩
         · exact tb c1 _ _ C1 T1 h1 e
         · exact tb c2 _ _ C2 T2 h2 e
      exact ⟨rfl,⟨fun b o e=>(all b o e).1,fun b o e=>(all b o e).2⟩,os,bare⟩
 have kT:∀ (H:Hp) b,s₁.heap.get? b=some (PySem.W.tabObj #[])→ObjOk P w H s₁.heap b (.tbl #[]):=fun H b e=>e;cases hk:K.lookup a with
 | some o =>
   have e:=KX a o hk;rw [ha] at e;cases e
   refine core (fun b=>if b=P1∨b=P2 then some (.tbl #[]) else none) (.inr ⟨_,vs.toArray,_,hk,rfl,rfl,rfl,by rw [n12_,lenV]; exact hl,by simpa using rv⟩) (fun b u z=>?_) (fun b u z=>?_) (if_pos (.inl rfl)) (if_pos (.inr rfl))
   · by_cases hb:b=P1∨b=P2
     · have z':=(if_pos hb).symm.trans z;cases z'
       rcases hb with rfl | rfl
       · exact T1
       · exact T2
     · have z':=(if_neg hb).symm.trans z;cases z'
   · by_cases hb:b=P1∨b=P2
     · have z':=(if_pos hb).symm.trans z;cases z'
       exact .inr ⟨hb,rfl⟩
     · have z':=(if_neg hb).symm.trans z;cases z'
 | none =>
   refine core (fun b=>if b=a then some (.frz { cls:=.type "list",data:=.seq vs.toArray } (.lst (ns.map V.int))) else if b=P1∨b=P2 then some (.tbl #[]) else none) (.inl (.inr ⟨{ cls:=.type "list",data:=.seq vs.toArray },if_pos rfl⟩)) (fun b u z=>?_) (fun b u z=>?_) ((if_neg (Ne.symm a1)).trans (if_pos (.inl rfl))) ((if_neg (Ne.symm a2)).trans (if_pos (.inr rfl)))
   · by_cases ha':b=a
     · have z':=(if_pos ha').symm.trans z;cases z'
       subst ha';exact ⟨ha,by rw [n2_]; exact hl,vs,_,rv,ha⟩
     · have z:=(if_neg ha').symm.trans z
       by_cases hb:b=P1∨b=P2
       · have z':=(if_pos hb).symm.trans z;cases z'
         rcases hb with rfl | rfl
         · exact T1
         · exact T2
       · have z':=(if_neg hb).symm.trans z;cases z'
   · by_cases ha':b=a
     · have z':=(if_pos ha').symm.trans z;cases z'
       exact .inl ⟨ha',⟨_,_,rfl⟩,hk⟩
     · have z:=(if_neg ha').symm.trans z
       by_cases hb:b=P1∨b=P2
       · have z':=(if_pos hb).symm.trans z;cases z'
         exact .inr ⟨hb,rfl⟩
       · have z':=(if_neg hb).symm.trans z;cases z'
theorem Zng {l:PySem.W.OpenLaw} {n k:Nat} {q:Program} {loose:List Str} {XP:(Str→Option Value)→Heap→Prop} {YP:World→Heap→Prop} {d:DefRec} {K:Params→PySem.W.Frag} {sp:World→Sp} {x:Str} {c1 c2 P1 P2:Addr}
 (hn:l.most=some n) (hn2:n≤sizeLine) (hdf:d.params.defaults=[]) (hr:Room k callerA)
 (hY:∀ (w:World) (h:Heap),YP w h→(K w.params).In h∧h.get? P1=some (PySem.W.tabObj #[])∧h.get? P2=some (PySem.W.tabObj #[]))
 (hc:∀ P,PySem.W.codeHdIn (K P) c1 P1=true∧PySem.W.codeHdIn (K P) c2 P2=true∧(K P).lookup P1=none∧(K P).lookup P2=none)
 (F:∀ (w:World) (mg:Str→Option Value) (fa:Addr) (h:Heap),(K w.params).In h→h.Ns mainGlobals mg→mg d.name=some (.ref fa) →
   ∃ fd:FuncData,(∀ (s:Shared) (u:Value),BindsTo s fd ⟨[u],[]⟩ [(x,u)]) ∧
     ∀ base:Heap,(K w.params).In base→base.Ns mainGlobals mg→FnOk l.prog w (K w.params) mg base CX0 k fa fd [x] (sp w))
 (hsp:∀ (w:World) (H:Hp) (a:Addr) (ns:List Int),ns.length≤n→SqL (K w.params) H a (ns.map V.int)→H P1=some (.tbl #[])→H P2=some (.tbl #[])→sp w [.ref a] H (fun v _=>v=.bl true) fun _ _ _=>False) :
 PySem.W.WalkO q loose XP YP l.row.toRowW d [] (fun f vs=>PySem.call f vs):=by
 refine Att.attach_call hn hdf fun w s₀ s₁ mg mb fa o pm cd doc a vs ns G Y ho hd hcd hmg hobj hints hlen hg=>?_;obtain ⟨KX,T1,T2⟩:=hY w _ Y;obtain ⟨q1,q2,q3,q4⟩:=hc w.params;obtain ⟨fd,hb,hF⟩:=F w mg fa _ KX G.T.g hmg;exact Zly KX G.T.g G.T.b G.T.builtins G.T.nolimit hg hobj hints (n19_ hlen hn2) hr (PySem.W.codeHd_of_K KX q1) (PySem.W.codeHd_of_K KX q2) T1 T2 q3 q4 hF hb (fun H hS=>hsp w H a ns hlen hS)
end L2
namespace L2
open PySem PySem.Spec PyProof.Rows
section
variable {P:Program} {w:World} {K:PySem.W.Frag} {mg:Str→Option Value} {base:Heap}
def Zgw (P:Program) (w:World) (K:PySem.W.Frag) (mg:Str→Option Value) (base:Heap) (k:Nat) (a:Addr) (sp:V→Hp→VK→XK→Prop):Prop :=
 ∀ (A:Around) (outer:List Env) (s:Shared) (H:Hp) (Q:VK) (E:XK) (v:V) (u:Value),RelV v u→Room k A→Env0 P w K mg base A outer s H→sp v H Q E→codeAny (model P w) A (.call (.ref a) ⟨[u],[]⟩) (CR (CX1 P w) outer P w H s Q E) s
theorem Zpf {q:Str} {params:Arguments} {body:Expr} {scope:Scope} {clos:List (Str×Addr)} {pm:Value} {N:List Str} {k:Nat} {a:Addr} {p1:Str} {sp:V→Hp→VK→XK→Prop} (hk:scope.kind=.function) (hco:scope.isCoroutine=false) (hgen:scope.isGenerator=false)
 (hnc:∀ x∈scope.names,x.2≠.cell) (hb:∀ cd ct u,bindArgs (PySem.W.kla_fn "<lambda>" q params body scope clos pm cd ct) ⟨[u],[]⟩=pure [(p1,u)]) (hp1:scope.names.lookup p1=some .local) (inj:∀ x y c,clos.lookup x=some c→clos.lookup y=some c→x=y)
 (has:∀ x,scope.names.lookup x=some .free→∃ c,clos.lookup x=some c) (hN0:N[0]? = some p1) (hfree:∀ (i:Nat) x,N[i+1]? = some x→scope.names.lookup x=some .free)
 (hf:∀ v H Q E,sp v H Q E→LamF H a q params body scope clos pm∧∀ x c,clos.lookup x=some c→∃ o v,H c=some (fzO o)∧o.data=.cell v)
 (h:∀ (A:Around) (outer:List Env) (s:Shared) (H:Hp) (Q:VK) (E:XK) (cd:Value) (v:V),Room k (A.deeper (Zmp scope s.heap.objs.size clos q a cd))→sp v H Q E →
   ∃ (σ:St) (t:TE),σ.length+1=N.length∧(∀ (i:Nat) x v,N[i+1]? = some x→σ[i]? = some (some v)→∃ c,clos.lookup x=some c∧Znc H c v)∧PE (cxL P w K mg base N (Zmp scope s.heap.objs.size clos q a cd) A outer s H E) body t∧t (some v :: σ) H Q) :
 Zgw P w K mg base (k+1) a sp:=by
 intro A outer s H Q E v u rv hr e0 hs;obtain ⟨⟨c,ct,hA,oc,vs,tq,hc,hdc,hqc⟩,hcl⟩:=hf v H Q E hs;obtain ⟨σ,t,hσ,hloc,pe,ht⟩:=h A outer s H Q E (.ref c) v (hr.deeper _) hs;have lim:s.heap.NoLimit:=e0.mod.nolimit.keeps fun b o e=>(e0.bs b o e).1;refine PySem.W.kla_callFunE hr.depth (e0.hok a _ hA).1 rfl hco hgen rfl ⟨c,oc,vs,tq,rfl,(e0.hok c _ hc).1,hdc,hqc⟩ ?_;rw [hb];refine n20_ (wpAny_newFunctionEnv hnc (fun x hx=>by rw [n13_.mp hx]; exact hp1) (fun h1 hn sb=>?_) hk);have kp:∀ b o,s.heap.get? b=some o→h1.get? b=some o:=fun b o e=>(sb.2 b (n50_ (n28_ e))).trans (n4_ _ e)
 have cel:∀ {x:Str} {d:Addr},clos.lookup x=some d→∃ v,h1.IsCell d v:=fun {x d} e=>by
  obtain ⟨o,v,h1',h2⟩:=hcl x d e;exact ⟨v,o,kp _ _ (e0.hok d _ h1').1,h2⟩
 have nil:∀ b:Addr,b∉([]:List Addr):=fun b z=>by simp at z
 have I:Inv (cxL P w K mg base N (Zmp scope s.heap.objs.size clos q a (.ref c)) A outer s H E) [] (some v :: σ) H { s with heap:=h1,toks:=s.toks+([(p1,u)]:List (Str×Value)).length }:=by
  refine ⟨⟨e0.mod,hk,rfl,rfl,n9_ _,inj,fun x hx=>?_,fun x d z _=>(nomatch z),fun _=>hr.hd,Around.frames_deeper e0.frames,.inr ⟨rfl,rfl⟩,fun b z=>absurd z (nil b),e0.bs,e0.bsz,fun b _ _=>nil b,fun b z=>absurd z (nil b),e0.funs,e0.frf⟩,
   rfl,e0.bare,Un.kept kp,⟨_,hn,fun i x v' e1 e2 _=>?_⟩,fun x d e=>cel e,e0.hok.fresh (n9_ _),fun x d e=>?_,fun p hp=>absurd (show p∈([]:List (Addr×Obj)) from hp) (by simp),e0.hok.kept kp,hσ⟩
  · rcases hx with z | z
    · exact absurd rfl (hnc _ (n38_ (show scope.names.lookup x=some .cell from z)))
    · exact has x z
  · cases i with
    | zero =>
      have ex:p1=x:=Option.some.inj (hN0.symm.trans e1);subst ex;cases e2
      exact ⟨u,rv,.inl ⟨hp1,by simp⟩⟩
    | succ i =>
      obtain ⟨d,e3,o,u',e4,e5,r⟩:=hloc i x v' e1 (by simpa using e2);exact ⟨u',r,.inr ⟨.inr (hfree i x e1),d,e3,o,kp _ _ (e0.hok d _ e4).1,e5⟩⟩
  · obtain ⟨o,v,e1,_⟩:=hcl x d e;exact .inr ⟨rfl,o,_,e1⟩
 refine ⟨lim.keeps kp,PySem.W.kla_codeExpr ?_⟩;refine wpAny_mono (pe [] _ _ H _ I ht) (fun u s' hq=>?_) fun e s' hq=>hq;obtain ⟨v,H',J,r,q'⟩:=hq;exact ⟨v,H',J.os,J.bare,J.base,J.hok,r,q'⟩
end
def mk (kf:Int→Int) (x:Int) (xs:List Int):Int:=xs.foldl (fun b y=>if kf y < kf b then y else b) x
theorem Zor {kf:Int→Int} {x y:Int} {xs:List Int}:mk kf x (xs++[y])=if kf y < kf (mk kf x xs) then y else mk kf x xs:=by
 unfold mk; rw [n82_]; rfl
theorem Zn6 {kf:Int→Int} {x:Int}:∀ (xs:List Int),mk kf x xs∈x :: xs:=fun xs=>by
 induction xs generalizing x with
 | nil=>exact n7_
 | cons y ys ih =>
   have h:=ih (x:=if kf y < kf x then y else x);show mk kf (if kf y < kf x then y else x) ys∈_
   rcases n31_.mp h with h | h
   · rw [h];split
     · exact n8_ _ n7_
     · exact n7_
   · exact n8_ _ (n8_ _ h)
abbrev sO (a b:Value) (c:Nat):Obj:={ cls:=.type "list",dict:=none,data:=.seq #[a,b] c,slots:=#[] }
abbrev XF:XK:=fun _ _ _=>False
structure MinK (X:Cx) (pins:List (Addr×Obj)) (H:Hp) (l q I S:Addr) (x0:Int) (xs:List Int) (kf:Int→Int) (k:Nat) (sp:V→Hp→VK→XK→Prop):Prop where
 hc:X.calm=true
 hr:Room (k+1) X.A
 L:Zgw X.prog X.w X.K X.mg X.base k q sp
 hs:∀ i∈x0 :: xs,sp (.int i) H (fun v H'=>v=.int (kf i)∧H'=H) XF
 hl:SqL X.K H l ((x0 :: xs).map V.int)
 fI:FpOk X pins H I
 fS:FpOk X pins H S
 nI:l≠I
 nS:S≠I
section
variable {X:Cx} {pins:List (Addr×Obj)} {σ:St} {H:Hp} {l q I S:Addr} {x0:Int} {xs:List Int} {kf:Int→Int} {k:Nat} {sp:V→Hp→VK→XK→Prop}
theorem MinK.key (M:MinK X pins H l q I S x0 xs kf k sp) {s:Shared} {oI oS:Obj} {i:Int} {v:Value} (J:Inv X pins σ H s) (hi:i∈x0 :: xs) (rv:RelV (.int i) v) (gI:s.heap.get? I=some oI) (gS:s.heap.get? S=some oS) (dI:∀ v,oI.data≠.cell v) (dS:∀ v,oS.data≠.cell v) {Q:Value→Shared→Prop} {E:Value→Shared→Prop}
 (h:∀ t s',Inv X pins σ H s'→s'.heap.get? I=some oI→s'.heap.get? S=some oS→Q (.int (kf i) t) s'):wpAny (model X.prog X.w) X.A.in1 (call (.ref q) [v]) Q E s:=by
 have Jp:Inv X ((I,oI) :: (S,oS) :: pins) σ H s:=J.pins_of fun p hp=>by
  rcases n31_.mp hp with rfl | hp
  · exact ⟨gI,M.fI.1,M.fI.2.1,M.fI.2.2.1,dI⟩
  · rcases n31_.mp hp with rfl | hp
    · exact ⟨gS,M.fS.1,M.fS.2.1,M.fS.2.2.1,dS⟩
    · exact J.pin p (n35_ _ hp)
 have e:=J.env0;refine wpAny_call (codeAny_mono (M.L X.A.in1 X.stack s H _ _ (.int i) v rv M.hr.in1 ⟨e.frames,e.mod,e.bs,e.bsz,e.funs,e.frf,e.hok,e.bare⟩ (M.hs i hi)) fun r s' hq=>?_);cases r with
 | error e=>obtain ⟨ea,T,C,H',_,_,_,_,_,_,_,_,z⟩:=hq; exact z.elim
 | ok fl =>
   cases fl with
   | ret u =>
     obtain ⟨v',H',J',r',rfl,rfl⟩:=Jp.after hq;obtain ⟨t,rfl⟩:=r';refine h t s' (J'.pins_of fun p hp=>J'.pin p (n35_ _ (n8_ _ (n8_ _ hp)))) ?_ ?_
     · exact (J'.pin (I,oI) (n35_ _ n7_)).1
     · exact (J'.pin (S,oS) (n35_ _ (n8_ _ n7_))).1
   | next=>exact False.elim hq
   | brk=>exact False.elim hq
   | cont=>exact False.elim hq
theorem Zgy {h:Heap} {I l:Addr} {n:Nat} (x:h.IsListIter I l n):∃ o,h.get? I=some o∧(∀ v,o.data≠.cell v)∧∀ h':Heap,h'.get? I=some o→h'.IsListIter I l n:=by
 obtain ⟨o,e,c,d⟩:=x;exact ⟨o,e,fun v z=>(by rw [d] at z; cases z),fun h' e'=>⟨o,e',c,d⟩⟩
theorem Zo6 {a b:Value} {c:Nat}:∀ v,(sO a b c).data≠.cell v:=fun v z=>by cases (show Data.seq _ _=Data.cell v from z)
theorem Zo2 {R:Result→Shared→Prop} {d:Value} (M:MinK X pins H l q I S x0 xs kf k sp)
 (hR:∀ t s',Inv X pins σ H s'→R (.ok (.ret (.int (mk kf x0 xs) t))) s') :
 ∀ (r j:Nat) (s:Shared) (ti tb:Tok) (c:Nat),xs.length - j=r→j≤xs.length→Inv X pins σ H s→s.heap.IsListIter I l (j+1)→s.heap.get? S=some (sO (.int (mk kf x0 (xs.take j)) ti) (.int (kf (mk kf x0 (xs.take j))) tb) c) →
   codeAny (model X.prog X.w) X.A (.builtin "min.loop" ⟨[.ref I,.ref q,.ref S],[("default",d)]⟩) R s:=by
 have hh:X.A.in1.handled=none:=M.hr.hd;intro r
 induction r with
 | zero =>
   intro j s ti tb c hr hj J hit gS;have ej:j=xs.length:=by omega
   obtain ⟨its,rv,pl,_⟩:=J.list M.hl;have hln:its.toArray.size=xs.length+1:=by have:=rv.length; simpa using this.symm
   have W:=Walks.list (prog:=X.prog) (w:=X.w) hh I l M.nI its.toArray;refine codeAny_builtin PySem.F.entry_min_loop ?_;rw [Around.under_plainId PySem.F.plain_min_loop _];show wpAny _ X.A.in1 (seqItems? (.ref S) >>= _) _ _ _
   refine n3_ (wpAny_seqItems gS rfl ?_);show wpAny _ X.A.in1 (tryCatch (pyNext (.ref I)) _ >>= _) _ _ _
   refine n3_ (wpAny_tryCatch (W.done _ _ _ ⟨by rw [hln,← ej]; exact hit,pl.isList⟩ fun h' tk' hk'=>?_));have gS':=hk' S _ (by simpa using M.nS) gS;show wpAny _ X.A.in1 (updateSeq S (fun _=>#[]) >>= _) _ _ _
   refine n3_ ?_;refine wpAny_updateSeq gS' rfl (n3_ (wpAny_letGo (n20_ ?_)));rw [ej,n67_];have J1:Inv X pins σ H { s with heap:=h',toks:=tk' }:=J.turnOnly (ch:=[I]) (fun b u hb e=>hk' b u hb e) fun b hb=>by rw [n13_.mp hb]; exact M.fI
   exact hR ti _ (J1.turnOnly (ch:=[S]) (fun b u hb e=>(n81_ _ _ (by simpa [eq_comm] using hb)).trans e) fun b hb=>by rw [n13_.mp hb]; exact M.fS)
 | succ r ih =>
   intro j s ti tb c hr hj J hit gS;have hlt:j < xs.length:=by omega
   obtain ⟨its,rv,pl,_⟩:=J.list M.hl;have hln:its.toArray.size=xs.length+1:=by have:=rv.length; simpa using this.symm
   have W:=Walks.list (prog:=X.prog) (w:=X.w) hh I l M.nI its.toArray;refine codeAny_builtin PySem.F.entry_min_loop ?_;rw [Around.under_plainId PySem.F.plain_min_loop _];show wpAny _ X.A.in1 (seqItems? (.ref S) >>= _) _ _ _
   refine n3_ (wpAny_seqItems gS rfl ?_);show wpAny _ X.A.in1 (tryCatch (pyNext (.ref I)) _ >>= _) _ _ _
   refine n3_ (wpAny_tryCatch (W.item (j+1) _ _ _ (by rw [hln]; omega) ⟨hit,pl.isList⟩ fun v h' tk' hP hst' hk'=>?_));have hv:its[j+1]? = some v:=by simpa using hP
   have hi:((x0 :: xs).map V.int)[j+1]? = some (.int xs[j]):=by simp [hlt]
   obtain ⟨u,eu,ru⟩:=rv.get hi;rw [hv] at eu;cases eu
   have gS':=hk' S _ (by simpa using M.nS) gS;have J1:Inv X pins σ H { s with heap:=h',toks:=tk' }:=J.turnOnly (ch:=[I]) (fun b u hb e=>hk' b u hb e) fun b hb=>by rw [n13_.mp hb]; exact M.fI
   obtain ⟨oI,gI,dI,kI⟩:=Zgy hst'.1;show wpAny _ X.A.in1 (tryCatch (holding [v] (call (.ref q) [v])) _ >>= _) _ _ _
   refine n3_ (wpAny_tryCatch (n86_ (M.key J1 (n8_ _ (n36_ hlt)) ru gI gS' dI Zo6 fun t2 s2 J2 gI2 gS2=>?_)));obtain ⟨t1,rfl⟩:=ru;show wpAny _ X.A.in1 (tryCatch (holding [_,.int (kf xs[j]) t2] (richCompare .Lt (.int (kf xs[j]) t2) (.int (kf (mk kf x0 (xs.take j))) tb) >>= _)) _ >>= _) _ _ _
   refine n3_ (wpAny_tryCatch (n86_ (n3_ (CmpOf.ints_lt (prog:=X.prog) (w:=X.w) (A:=X.A.in1) (P:=fun i v=>∃ t,v=.int ([kf xs[j],kf (mk kf x0 (xs.take j))].getD i 0) t) (fun i=>[kf xs[j],kf (mk kf x0 (xs.take j))].getD i 0) (fun i v h=>h) 0 1 _ _ _ _ _ ⟨t2,rfl⟩ ⟨tb,rfl⟩ ?_))));refine n3_ (n86_ (wpAny_truthy_bool ?_));refine n3_ (wpAny_letGo (n20_ ?_))
   have stp:mk kf x0 (xs.take (j+1))=if kf xs[j] < kf (mk kf x0 (xs.take j)) then xs[j] else mk kf x0 (xs.take j):=by
    rw [n39_ hlt,Zor]
   show wpAny _ X.A.in1 (if decide (kf xs[j] < kf (mk kf x0 (xs.take j)))=true then _ else _) _ _ _
   by_cases hb:kf xs[j] < kf (mk kf x0 (xs.take j))
   · rw [if_pos hb] at stp;rw [if_pos (n14_ hb)];obtain ⟨c2,hc2⟩:∃ c2,(s2.heap.update S (Obj.mapSeq fun _=>#[.int xs[j] t1,.int (kf xs[j]) t2])).get? S=some (sO (.int xs[j] t1) (.int (kf xs[j]) t2) c2):=⟨_,get?_update_seq gS2 fun _=>#[.int xs[j] t1,.int (kf xs[j]) t2]⟩;refine n3_ ?_;refine wpAny_updateSeq gS2 rfl (n3_ (wpAny_letGo ?_));rw [Ziu];refine n20_ ⟨plainId_quiet PySem.F.plain_min_loop _,ih (j+1) _ t1 t2 c2 (by omega) hlt (J2.turnOnly (ch:=[S]) (fun b u hb e=>(n81_ _ _ (by simpa [eq_comm] using hb)).trans e) fun b hb=>by rw [n13_.mp hb]; exact M.fS) (kI _ ((n81_ _ _ M.nS).trans gI2)) ?_⟩;rw [stp];exact hc2
   · rw [if_neg hb] at stp;rw [if_neg (by rw [n17_ hb]; decide)];refine n3_ (wpAny_letGo ?_);rw [Ziu];refine n20_ ⟨plainId_quiet PySem.F.plain_min_loop _,ih (j+1) _ ti tb c (by omega) hlt J2 (kI _ gI2) ?_⟩;rw [stp];exact gS2
theorem Zjv (a v d:Value):argsOk "min" ⟨[a],[("key",v),("default",d)]⟩:=by unfold argsOk; kernel_rfl
def minV (kf:Int→Int):List Int→V
 | []=>.non
 | x :: xs=>.int (mk kf x xs)
theorem Zmf {s:Shared} {ns:List Int} {Q:Value→Shared→Prop} {E:Value→Shared→Prop} (J:Inv X pins σ H s) (hc:X.calm=true) (hr:Room (k+1) X.A) (L:Zgw X.prog X.w X.K X.mg X.base k q sp)
 (hs:∀ i∈ns,sp (.int i) H (fun v H'=>v=.int (kf i)∧H'=H) XF) (hl:SqL X.K H l (ns.map V.int)) (hQ:∀ v s',RelV (minV kf ns) v→Inv X pins σ H s'→Q v s') :
 wpAny (model X.prog X.w) X.A (call (.builtin "min") [.ref l] [("key",.ref q),("default",.none)]) Q E s:=by
 have hh:X.A.in1.handled=none:=hr.hd;obtain ⟨its,rv,pl,_⟩:=J.list hl;have ll:l < s.heap.objs.size:=let ⟨o,_,e,_⟩:=pl; n28_ e;refine kmk_tree PySem.F.kind_min PySem.F.plain_min PySem.F.entry_min (Zjv _ _ _) ?_;show wpAny _ X.A.in1 (Builtin.Builtins.bindParams "min" ["key","default"] 0 ⟨[],[("key",.ref q),("default",.none)]⟩ >>= _) _ _ s
 refine n3_ (wpAny_of_eq (show Builtin.Builtins.bindParams "min" ["key","default"] 0 ⟨[],[("key",.ref q),("default",.none)]⟩=pure [some (.ref q),some .none] from rfl) ?_);refine n3_ (n20_ ?_);refine n3_ (wpAny_pyIter_list pl.isList ?_);refine n3_ (wpAny_newList ?_ (n56_ _));rw [Ziu];generalize hI:s.heap.objs.size=I;have sS:(s.heap.push { cls:=.type "list_iterator",data:=.fields #[.ref l,.int 0 0] }).objs.size=I+1:=by rw [← hI]; exact size_push' ..
 generalize hh1:((s.heap.push { cls:=.type "list_iterator",data:=.fields #[.ref l,.int 0 0] }).push { cls:=.type "list",data:=.seq [].toArray:Obj })=h1;refine n20_ ⟨plainId_quiet PySem.F.plain_min_loop _,?_⟩;have kp:∀ b o,s.heap.get? b=some o→h1.get? b=some o:=fun b o e=>by rw [← hh1]; exact n4_ _ (n4_ _ e)
 have J1:Inv X pins σ H { s with heap:=h1 }:=J.kept (t':=s.toks) kp;have fI:FpOk X pins H I:=J.fpOk (Nat.le_of_eq hI) (J.hok.fresh (Nat.le_of_eq hI));have fS:FpOk X pins H (I+1):=J.fpOk (by omega) (J.hok.fresh (by omega));have gI:h1.IsListIter I l 0:=⟨_,by rw [← hh1,← hI]; exact n4_ _ (n25_ _ rfl),rfl,rfl⟩;have gS:h1.get? (I+1)=some { cls:=.type "list",dict:=none,data:=.seq #[] 0,slots:=#[] }:=by rw [← hh1,← sS]; exact n25_ _ rfl
 have pl1:h1.IsList l its.toArray:=by obtain ⟨o,n,e,r⟩:=pl; exact PlainL.isList ⟨o,n,kp _ _ e,r⟩
 have nI:l≠I:=by rw [← hI]; exact n50_ ll
 have nS:I+1≠I:=by omega
 have W:=Walks.list (prog:=X.prog) (w:=X.w) hh I l nI its.toArray;have hln:=rv.length;refine codeAny_builtin PySem.F.entry_min_loop ?_;rw [Around.under_plainId PySem.F.plain_min_loop _];rw [sS];show wpAny _ X.A.in1 (seqItems? (.ref (I+1)) >>= _) _ _ _
 refine n3_ (wpAny_seqItems gS rfl ?_);show wpAny _ X.A.in1 (tryCatch (pyNext (.ref I)) _ >>= _) _ _ _
 cases ns with
 | nil =>
   have e0:its.toArray.size=0:=by simpa using hln.symm
   refine n3_ (wpAny_tryCatch (W.done _ _ _ ⟨by rw [e0]; exact gI,pl1⟩ fun h' tk' hk'=>?_));have J2:=J1.turnOnly (h':=h') (t':=tk') (ch:=[I]) (fun b u hb e=>hk' b u hb e) fun b hb=>by rw [n13_.mp hb]; exact fI
   have fin:=hQ .none _ rfl J2;dsimp only
   repeat (any_goals (first | assumption | wp_step))
 | cons x0 xs =>
   have M:MinK X pins H l q I (I+1) x0 xs kf k sp:=⟨hc,hr,L,hs,hl,fI,fS,nI,nS⟩
   have e0:0 < its.toArray.size:=by
    have:(x0 :: xs).length=its.length:=by simpa using hln
    rw [n12_,← this]; simp
   refine n3_ (wpAny_tryCatch (W.item 0 _ _ _ e0 ⟨gI,pl1⟩ fun v h' tk' hP hst' hk'=>?_));have hv:its[0]? = some v:=by simpa using hP
   have hi:((x0 :: xs).map V.int)[0]? = some (.int x0):=rfl;obtain ⟨u,eu,ru⟩:=rv.get hi;rw [hv] at eu;cases eu
   have gS':=hk' (I+1) _ (by simp) gS;have J2:=J1.turnOnly (h':=h') (t':=tk') (ch:=[I]) (fun b u hb e=>hk' b u hb e) fun b hb=>by rw [n13_.mp hb]; exact fI
   obtain ⟨oI,gI',dI,kI⟩:=Zgy hst'.1;show wpAny _ X.A.in1 (tryCatch (holding [v] (call (.ref q) [v])) _ >>= _) _ _ _
   refine n3_ (wpAny_tryCatch (n86_ (M.key J2 n7_ ru gI' gS' dI (fun v z=>by cases (show Data.seq _ _=Data.cell v from z)) fun t2 s2 J3 gI2 gS2=>?_)));obtain ⟨t1,rfl⟩:=ru;obtain ⟨c2,hc2⟩:∃ c2,(s2.heap.update (I+1) (Obj.mapSeq fun _=>#[.int x0 t1,.int (kf x0) t2])).get? (I+1)=some (sO (.int x0 t1) (.int (kf x0) t2) c2):=⟨_,get?_update_seq gS2 fun _=>#[.int x0 t1,.int (kf x0) t2]⟩;show wpAny _ X.A.in1 (updateSeq (I+1) (fun _=>#[.int x0 t1,.int (kf x0) t2]) >>= _) _ _ _
   refine n3_ ?_;refine wpAny_updateSeq gS2 rfl ?_;rw [Ziu];refine n20_ ⟨plainId_quiet PySem.F.plain_min_loop _,Zo2 M (fun t s' J'=>hQ _ s' ⟨t,rfl⟩ J') _ 0 _ t1 t2 c2 rfl (n56_ _) (J3.turnOnly (ch:=[I+1]) (fun b u hb e=>(n81_ _ _ (by simpa [eq_comm] using hb)).trans e) fun b hb=>by rw [n13_.mp hb]; exact fS) (kI _ ((n81_ _ _ nS).trans gI2)) hc2⟩
end
section
variable {M:Model} {A:Around} {E:Value→Shared→Prop} {s:Shared}
theorem Zrs {pos:Pos} {T:String} {xs:List (Bool×Sem Value)} {kw:List (Option Str×Sem Value)} {Q:Value→Shared→Prop} (h1:xs.any (·.1)=false) (h2:kw.any (·.1.isNone)=false)
 (h:wpAny M A (evalArgs (.builtin T) true xs kw) (fun z s₁=>wpAny M A (call (.builtin T) ([]++z.pos) z.kw) Q E s₁) E s):wpAny M A (callWith pos (.builtin T) [] xs kw) Q E s:=by
 unfold callWith;refine n3_ (n86_ (thn h fun z s₁ q=>n3_ (wpAny_standAt ?_)));simp only [h1,h2,Bool.or_false];refine n3_ (n20_ ?_);exact n3_ (thn q fun r s₂ hr=>n3_ (n86_ (wpAny_point (n20_ hr))))
end
section
variable {X:Cx}
def Zrv (P:Program) (w:World) (K:PySem.W.Frag) (mg:Str→Option Value) (base:Heap) (k:Nat) (te:TA) (tl:TE):TE:=fun σ H Q=>te σ H fun xs H1=>tl σ H1 fun y H2=>∃ (l q:Addr) (ns:List Int) (sp:V→Hp→VK→XK→Prop) (kf:Int→Int),xs=[.ref l]∧y=.ref q∧SqL K H2 l (ns.map V.int)∧Zgw P w K mg base k q sp∧(∀ i∈ns,sp (.int i) H2 (fun v H'=>v=.int (kf i)∧H'=H2) XF)∧Q (minV kf ns) H2
theorem Zow {e le:Expr} {te:TA} {tl:TE} {p pos kp kp2 cp:Pos} {i j k:Nat} (P:Program) (w:World) (K:PySem.W.Frag) (mg:Str→Option Value) (base:Heap) (hp:X.prog=P∧X.w=w∧X.K=K∧X.mg=mg∧X.base=base) (hc:X.calm=true) (hr:Room j X.A) (hj:k+1≤j) (hg:Gl X "min") (hm:X.mg "min" = none) (hv:bootBuiltins "min" = some (.builtin "min"))
 (ha:PA X [e] te) (hl:PE X le tl) (hs:starEach [e] X.env=[(false,eval e X.env)]:=by rfl) :
 PE X (.Call (.Name "min" p) [e] [⟨some "key",le,kp⟩,⟨some "default",.Constant .none i cp,kp2⟩] pos) (Zrv P w K mg base k te tl):=by
 obtain ⟨rfl,rfl,rfl,rfl,rfl⟩:=hp;intro pins s σ H Q I h;refine wpAny_Call_Name_kw (Zbg I hg hm hv ?_);refine Zrs (by rw [hs]; rfl) rfl ?_;rw [hs];refine evalArgs_kwB rfl ?_;have h2:=ha pos pins s σ H _ I h;rw [hs] at h2;refine thn h2 fun us s1 ⟨vs,H1,I1,r1,q1⟩=>?_;refine kws_cons (thn (hl pins s1 σ H1 _ I1 q1) fun v s2 ⟨y,H2,I2,ry,l,q,ns,sp,kf,e1,e2,sq,L,hk,hq⟩=>?_);subst e1 e2;obtain rfl:v=.ref q:=ry;cases r1 with
 | cons r rr =>
   cases rr
   cases r
   refine kws_cons (Zhe pins s2 σ H2 (fun v H'=>v=.non∧H'=H2) I2 ⟨rfl,rfl⟩ |> fun z=>thn z fun v3 s3 ⟨x3,H3,I3,rx,ex,eH⟩=>?_);subst ex eH;obtain rfl:v3=.none:=rx;refine kws_nil ?_;exact Zmf I3 hc (hr.mono hj) L hk sq fun v s' rv J=>⟨_,H3,J,rv,hq⟩
end
end L2
namespace L2
open PySem PySem.Spec PyProof.Rows
theorem Zad {J:It} {n:Nat} {D:Addr} {g:TG} {tt:TT} {te:TE} {σ0:St} {H:Hp} {Q:VK} {α:Type} (R:Hp→V→α→Prop) (hR:∀ H1 H2 v x,Keep D H1 H2→(∃ ws,H1 D=some (.lst ws))→R H1 v x→R H2 v x) (f:Nat→Option α) (hz:n≤1000) (Ok:St→Prop) (h0:Ok σ0) (hD:H D=none)
 (hgo:∀ i H2,Same H H2→i < n→J.go i H2) (hst:∀ H2,Same H H2→J.stop n H2)
 (hs:∀ (i:Nat) (x:V) (σ2:St) (H2 H3:Hp) (C:St→V→Hp→Prop) (N:St→Hp→Prop),i < n→Same H H2→(∃ ws,H2 D=some (.lst ws))→J.yld i H2 x H3→Ok σ2→(∀ σ4 y H5 z,Ok σ4→Same H2 H5→f i=some z→R H5 y z→C σ4 y H5)→(∀ σ4 H5,Ok σ4→Same H2 H5→f i=none→N σ4 H5) →
   g x σ2 H3 fun σ4 H4=>tt σ4 H4 fun b H5=>if b=true then te σ4 H5 (C σ4) else N σ4 H5)
 (hd:∀ H2 us,Same H H2→H2 D=some (.lst us)→Al (R H2) us ((List.range n).filterMap f)→Q (.ref D) H2):LcGo J g tt te σ0 H D Q:=by
 refine Zk2 (n:=n) (fun i σ H2=>Same H H2∧Ok σ∧∃ us,H2 D=some (.lst us)∧us.length≤i∧Al (R H2) us ((List.range i).filterMap f)) ⟨Same.new hD,h0,[],Zc,n9_ _,.nil⟩
  (fun i σ H2 hi p=>hgo i H2 p.1 hi) (fun σ H2 p=>hst H2 p.1) (fun i x σ2 H2 H3 hi y p=>?_) (fun σ2 H2 p=>?_)
 · obtain ⟨s2,ok,us,e2,l2,a2⟩:=p
   have rg:(List.range (i+1)).filterMap f=(List.range i).filterMap f++(f i).toList:=by
    rw [List.range_succ,List.filterMap_append];cases e:f i <;> simp [e]
   refine hs i x σ2 H2 H3 _ _ hi s2 ⟨us,e2⟩ y ok (fun σ4 v H5 z ok4 s5 ez rz=>?_) (fun σ4 H5 ok4 s5 ez=>?_)
   · have e5:H5 D=some (.lst us):=s5 _ _ e2;refine ⟨us,e5,by rw [sizeLine_eq]; omega,n - (i+1),by omega,by omega,rfl,fun b o e=>?_,ok4,us++[v],Zc,by simp; omega,?_⟩
     · rw [Zo (Zk e hD)]; exact s5 _ _ (s2 _ _ e)
     · rw [rg,ez];exact (a2.imp fun v x r=>hR _ _ v x Keep.upd ⟨_,e5⟩ (hR _ _ v x s5.keep ⟨_,e2⟩ r)).snoc (hR _ _ _ _ Keep.upd ⟨_,e5⟩ rz)
   · refine ⟨n - (i+1),by omega,by omega,rfl,s2.trans s5,ok4,us,s5 _ _ e2,by omega,?_⟩;rw [rg,ez];simp only [Option.toList,List.append_nil];exact a2.imp fun v x r=>hR _ _ v x s5.keep ⟨_,e2⟩ r
 · obtain ⟨s2,_,us,e2,_,a2⟩:=p;exact hd H2 us s2 e2 a2
section
variable {X:Cx} {tg:Expr}
def iAny (K:PySem.W.Frag) (tl:TE):TI:=fun σ H R=>tl σ H fun x H1=>∃ (a:Addr) (k:SK),x=.ref a∧(∃ xs,k.Sq K H1 a xs)∧R (k.Itk K a) H1
theorem Zak (K:PySem.W.Frag) {l:Expr} {tl:TE} (h:X.K=K) (hl:PE X l tl):PI X tg l (iAny K tl):=by
 subst h;intro pins s σ H R I h;refine thn (hl pins s σ H _ I h) fun v s1 ⟨x,H1,I1,r1,q1⟩=>?_;obtain ⟨a,k,e,⟨xs,hq⟩,q⟩:=q1;subst e;cases r1
 have fp:∀ b∈[s1.heap.objs.size],FpOk X pins H1 b:=fun b hb=>by
  have e:b=s1.heap.objs.size:=by simpa using hb
  subst e;exact I1.fpOk (n9_ _) (I1.hok.fresh (n9_ _))
 cases k with
 | l =>
   obtain ⟨its,rv,p,hz⟩:=I1.list (show SqL X.K H1 a xs from hq);refine wpAny_pyIter_list p.isList ?_;exact ⟨s1.heap.objs.size,[s1.heap.objs.size],_,_,H1,rfl,I1.kept (t':=s1.toks) fun b o e=>n4_ _ e,Zgi a _,⟨_,n25_ _ rfl,rfl,rfl⟩,fp,q⟩
 | t =>
   obtain ⟨its,rv,p,hz⟩:=I1.tuple (show SqT X.K H1 a xs from hq);refine wpAny_pyIter_tuple (show s1.heap.IsTuple a its.toArray from p) ?_;exact ⟨s1.heap.objs.size,[s1.heap.objs.size],_,_,H1,rfl,I1.kept (t':=s1.toks) fun b o e=>n4_ _ e,Zee a _,⟨_,n25_ _ rfl,rfl,rfl⟩,fp,q⟩
end
section
variable {X:Cx} {es:List Expr} {x1:Nat} {tp:Pos}
def Zrn (K:PySem.W.Frag) (ta:TA):TI:=fun σ H R=>ta σ H fun vs H1=>∃ (a b:Addr) (k l:SK),vs=[.ref a,.ref b]∧(∃ xs,k.Sq K H1 a xs)∧(∃ ys,l.Sq K H1 b ys)∧R (Itz k l K a b) H1
theorem Zhr {a b:Expr} {ta:TA} {p pos:Pos} (hg:Gl X "zip") (hm:X.mg "zip" = none) (ha:PA X [a,b] ta) (hs:starEach [a,b] X.env=[(false,eval a X.env),(false,eval b X.env)]:=by rfl) (hs2:starEach [b] X.env=[(false,eval b X.env)]:=by rfl) :
 PI X (.Tuple es x1 tp) (.Call (.Name "zip" p) [a,b] [] pos) (Zrn X.K ta):=by
 intro pins s σ H R I h;refine Call_ (Zbg I hg hm Zf6 (n66_ (thn (ha pos pins s σ H _ I h) fun us s1 ⟨vs,H1,I1,r1,q1⟩=>?_) (by rw [hs,hs2]) (by rw [hs2]; rfl)));obtain ⟨a,b,k,l,e,⟨xs,hx⟩,⟨ys,hy⟩,q⟩:=q1;subst e;cases r1 with
 | cons r rr =>
   cases rr with
   | cons r' rr =>
     cases rr
     cases r
     cases r'
     obtain ⟨us,ru,pu⟩:=hx.is I1;obtain ⟨ws,rw',pw⟩:=hy.is I1;have la:a < s1.heap.objs.size:=by obtain ⟨_,_,e,_⟩:=pu.ex; exact n28_ e
     have lb:b < s1.heap.objs.size:=by obtain ⟨_,_,e,_⟩:=pw.ex; exact n28_ e
     refine Zir pu pw fun h1 m1 m2 m3 m4 m5 m6 m7=>wpAny_pyIter_zip m1 ?_;have I2:Inv X pins σ H1 { s1 with heap:=h1,toks:=s1.toks }:=I1.kept m7;refine ⟨_,_,_,_,H1,rfl,I2,Zi4 (z:=s1.heap.objs.size+4) (t:=s1.heap.objs.size+2) (o:=s1.heap.objs.size+3) (i:=s1.heap.objs.size) (j:=s1.heap.objs.size+1) (k:=k) (l:=l) (a:=a) (b:=b) ?_,⟨m1,m2,⟨_,_,m3⟩,m4,m5⟩,?_,q⟩
     · exact Zol la lb
     · have f1:=I1.fps (fp:=[s1.heap.objs.size+4,s1.heap.objs.size+2,s1.heap.objs.size+3,s1.heap.objs.size,s1.heap.objs.size+1]) (by
        intro e he;simp only [n31_,n43_,or_false] at he
        rcases he with rfl | rfl | rfl | rfl | rfl <;> omega)
       exact f1
def Zp2 (K:PySem.W.Frag) (ta:TA):TI:=fun σ H R=>ta σ H fun vs H1=>∃ (a:Addr) (k:SK),vs=[.ref a]∧(∃ xs,k.Sq K H1 a xs)∧R (Ite k K a) H1
theorem Zfj {a:Expr} {ta:TA} {p pos:Pos} (hg:Gl X "enumerate") (hm:X.mg "enumerate" = none) (ha:PA X [a] ta) (hs:starEach [a] X.env=[(false,eval a X.env)]:=by rfl) :
 PI X (.Tuple es x1 tp) (.Call (.Name "enumerate" p) [a] [] pos) (Zp2 X.K ta):=by
 intro pins s σ H R I h;refine Call_ (Zbg I hg hm Zet (n66_ (thn (ha pos pins s σ H _ I h) fun us s1 ⟨vs,H1,I1,r1,q1⟩=>?_) hs rfl));obtain ⟨a,k,e,⟨xs,hx⟩,q⟩:=q1;subst e;cases r1 with
 | cons r rr =>
   cases rr
   cases r
   obtain ⟨us,ru,pu⟩:=hx.is I1;have la:a < s1.heap.objs.size:=by obtain ⟨_,_,e,_⟩:=pu.ex; exact n28_ e
   refine Zgp pu fun h1 m1 m4 m7=>wpAny_pyIter_enum m1 ?_;have I2:Inv X pins σ H1 { s1 with heap:=h1,toks:=s1.toks }:=I1.kept m7;obtain ⟨z1,z2,z3⟩:=ne3 la;refine ⟨_,_,_,_,H1,rfl,I2,Zf4 (e:=s1.heap.objs.size+1) (it:=s1.heap.objs.size) (k:=k) (a:=a) z1 z2 z3,⟨⟨_,m1⟩,m4⟩,?_,q⟩
   exact I1.fps (fp:=[s1.heap.objs.size+1,s1.heap.objs.size]) (by
    intro e he;simp only [n31_,n43_,or_false] at he
    rcases he with rfl | rfl
    · exact Nat.le_succ _
    · exact n9_ _)
end
def rIxA (K:PySem.W.Frag):R2:=fun x y H Q=>∃ (p:Addr) (xs:List V) (i:Int) (v:V) (k:SK),x=.ref p∧y=.int i∧k.Sq K H p xs∧atI xs i=some v∧Q v H
theorem Zks (K:PySem.W.Frag) {X:Cx} (h:X.K=K):IxR X (rIxA K):=by
 subst h;intro value slice pins s σ H x y v u Q I rx ry q hs;obtain ⟨p,xs,i,w,k,e1,e2,hq,he,q⟩:=q;cases k with
 | l=>exact Yc value slice pins s σ H x y v u Q I rx ry ⟨p,xs,i,w,e1,e2,hq,he,q⟩ hs
 | t=>exact Ym value slice pins s σ H x y v u Q I rx ry ⟨p,xs,i,w,e1,e2,hq,he,q⟩ hs
def Itv (K:PySem.W.Frag) (a:Addr) (n:Nat):It :=
 ⟨fun i H=>∃ xs x,SqL K H a xs∧i < n∧xs[n - 1 - i]? = some x,fun i H v H'=>H'=H∧∀ xs,SqL K H a xs→xs[n - 1 - i]? = some v,fun i _=>i=n⟩
theorem Zm3 {P:Program} {w:World} {K:PySem.W.Frag} {tg:Expr} (a it:Addr) (n:Nat):Turn P w K tg (Itv K a n) [it] it (fun i h=>h.IsRevIter it a ((n:Int) - 1 - i)) where
 mem:=by simp
 obj:=fun i h st b hb=>by
  have e:b=it:=by simpa using hb
  subst e;obtain ⟨o,e,c,d⟩:=st;exact ⟨o,e,fun v z=>by rw [d] at z; cases z⟩
 keep:=fun i h h' st k=>st.at fun o e=>k it (by simp) o e
 item:=by
  intro X hP hw hK hc i pins s σ H E I hf st hg;subst hP hw hK;obtain ⟨xs,x,hq,hi,hx⟩:=hg;obtain ⟨its,rv,p,hz⟩:=I.list hq;obtain ⟨u,hu,ru⟩:=rv.get hx;obtain ⟨f0,f1,f2,f3,f4,f5⟩:=hf it (by simp);have ej:(n:Int) - 1 - i=((n - 1 - i:Nat):Int):=by omega
  rw [ej] at st;refine wpAny_pyNext_rev_item st p.isList (x:=u) (by simpa using hu) fun h' st' sb=>?_;have I1:Inv X pins σ H { s with heap:=h' }:=I.turned (t':=s.toks) (fun b o hb e=>(sb.2 b hb).trans e) f0 f1 f3 f4 f5;obtain ⟨o,e,c,d⟩:=id st';exact ⟨u,rfl,Znr (s:={ s with heap:=h' }) e c d (by decide) ⟨x,H,I1,ru,⟨rfl,fun ys hy=>by rw [I.list_inj hy hq]; exact hx⟩,by rw [show (n:Int) - 1 - ((i+1:Nat):Int)=((n - 1 - i:Nat):Int) - 1 by omega]; exact st',fun b hb=>(hf b hb).1⟩⟩
 done:=by
  intro X hP hw hK hc i pins s σ H E I hf st hg;subst hP hw hK;obtain ⟨f0,f1,f2,f3,f4,f5⟩:=hf it (by simp);have e:i=n:=hg;rw [show (n:Int) - 1 - (i:Int) = -1 by omega] at st;exact wpAny_pyNext_rev_end (I.ok.hd hc) st fun h' eb=>⟨rfl,I.turned (t':=s.toks) (fun b o hb e=>eb b o hb e) f0 f1 f3 f4 f5⟩
 self:=fun _ _ _ _ _ st h=>wpAny_pyIter_revIter st h
section
variable {X:Cx} {tg:Expr}
def iRev (K:PySem.W.Frag) (ta:TA):TI:=fun σ H R=>ta σ H fun vs H1=>∃ (a:Addr) (xs:List V),vs=[.ref a]∧SqL K H1 a xs∧R (Itv K a xs.length) H1
theorem Zps {a:Expr} {ta:TA} {p pos:Pos} (hg:Gl X "reversed") (hm:X.mg "reversed" = none) (hb:bootBuiltins "reversed" = some (.type "reversed")) (ha:PA X [a] ta) (hs:starEach [a] X.env=[(false,eval a X.env)]:=by rfl) :
 PI X tg (.Call (.Name "reversed" p) [a] [] pos) (iRev X.K ta):=by
 intro pins s σ H R I h;refine Call_ (Zbg I hg hm hb (n66_ (thn (ha pos pins s σ H _ I h) fun us s1 ⟨vs,H1,I1,r1,q1⟩=>?_) hs rfl));obtain ⟨a,xs,e,hx,q⟩:=q1;subst e;cases r1 with
 | cons r rr =>
   cases rr
   cases r
   obtain ⟨its,rv,pl,hz⟩:=I1.list hx;refine call_reversed_list pl.isList ?_;have en:(its.toArray.size:Int) - 1=(xs.length:Int) - 1 - ((0:Nat):Int):=by rw [n12_,rv.length]; omega
   refine wpAny_pyIter_revIter (i:=(its.toArray.size:Int) - 1) ⟨_,n25_ _ rfl,rfl,rfl⟩ ?_;refine ⟨s1.heap.objs.size,[s1.heap.objs.size],_,_,H1,rfl,I1.kept (t':=s1.toks) fun b o e=>n4_ _ e,Zm3 a _ xs.length,?_,fun b hb=>?_,q⟩
   · rw [← en];exact ⟨_,n25_ _ rfl,rfl,rfl⟩
   · have e:b=s1.heap.objs.size:=by simpa using hb
     subst e;exact I1.fpOk (n9_ _) (I1.hok.fresh (n9_ _))
end
section
variable {X:Cx}
theorem Ziv:OpR X (inplaceOp .Mult) (rI CMulB fun i j=>.int (i * j)):=opI fun _ _ _ _ _ _ _ hc q=>imul_int q hc.ok
theorem Zmr:OpR X (inplaceOp .FloorDiv) (rI Zqp fun i j=>.int (i.fdiv j)):=opI fun _ _ _ _ _ _ _ hc q=>ifloordiv_int hc.1 q (.inl (PyProof.noPylong_of_log2 (Nat.lt_trans (Zmb hc.2 (by decide)) (by decide))))
end
theorem Zm7 (K:PySem.W.Frag) {X:Cx} (h:X.K=K):SlR X (rSlL K):=h ▸ Zhl
end L2
namespace L2
def gl (k:Int) (ps:List Int):Nat:=ps.foldl (fun c p=>Int.gcd p c) k.natAbs
theorem Zoe:∀ ps:List Int,ps.foldl (fun c p=>Int.gcd p (c:Int)) 1=1
 | []=>rfl
 | p :: ps=>by rw [List.foldl_cons,show Int.gcd p ((1:Nat):Int)=1 from Int.gcd_one_right ..]; exact Zoe ps
theorem Zpa {k p:Int} {ps:List Int}:gl k (ps++[p])=Int.gcd p (gl k ps):=by unfold gl; rw [n82_]; rfl
theorem Zhn {k:Int} {ps:List Int} {i:Nat} (h:gl k (ps.take i)=1):gl k ps=1:=by
 have:gl k ps=(ps.drop i).foldl (fun c p=>Int.gcd p (c:Int)) (gl k (ps.take i)):=by
  unfold gl; rw [← n82_,List.take_append_drop]
 rw [this,h]; exact Zoe _
theorem Zmc {k:Int} (hk:k≠0):∀ ps:List Int,0 < gl k ps∧gl k ps≤k.natAbs:=fun ps=>by
 have:∀ (ps:List Int) (c:Nat),0 < c→0 < ps.foldl (fun c p=>Int.gcd p (c:Int)) c∧ps.foldl (fun c p=>Int.gcd p (c:Int)) c≤c:=by
  intro ps
  induction ps with
  | nil=>intro c h; exact ⟨h,n9_ _⟩
  | cons p ps ih =>
    intro c h;have h1:0 < Int.gcd p (c:Int):=Nat.gcd_pos_of_pos_right _ (by simpa using h);have h2:Int.gcd p (c:Int)≤c:=Nat.le_of_dvd h (Nat.gcd_dvd_right p.natAbs (c:Int).natAbs);rw [List.foldl_cons];exact ⟨(ih _ h1).1,n19_ (ih _ h1).2 h2⟩
 exact this ps _ (Int.natAbs_pos.mpr hk)
theorem Zmj (k:Int):∀ (ps:List Int),((gl k ps:Nat):Int) ∣ k∧∀ p∈ps,((gl k ps:Nat):Int) ∣ p:=fun ps=>by
 have:∀ (ps:List Int) (c:Nat),(ps.foldl (fun c p=>Int.gcd p (c:Int)) c ∣ c)∧∀ p∈ps,((ps.foldl (fun c p=>Int.gcd p (c:Int)) c:Nat):Int) ∣ p:=by
  intro ps
  induction ps with
  | nil=>intro c; exact ⟨Nat.dvd_refl _,fun p hp=>nomatch hp⟩
  | cons p ps ih =>
    intro c;obtain ⟨h1,h2⟩:=ih (Int.gcd p (c:Int));refine ⟨Nat.dvd_trans h1 (Nat.gcd_dvd_right p.natAbs (c:Int).natAbs),fun q hq=>?_⟩
    rcases n31_.mp hq with rfl | hq
    · exact Int.dvd_trans (Int.ofNat_dvd.mpr h1) (Int.gcd_dvd_left ..)
    · exact h2 q hq
 obtain ⟨h1,h2⟩:=this ps k.natAbs;exact ⟨Int.dvd_trans (Int.ofNat_dvd.mpr h1) (Int.natAbs_dvd.mpr (Int.dvd_refl k)),h2⟩
theorem Zik {ps:List Int} {n:Nat} (h:∀ p∈ps,p.natAbs < 2 ^ n):gl 0 ps < 2 ^ n:=by
 have:∀ (ps:List Int) (c:Nat),c < 2 ^ n→(∀ p∈ps,p.natAbs < 2 ^ n)→ps.foldl (fun c p=>Int.gcd p (c:Int)) c < 2 ^ n:=by
  intro ps
  induction ps with
  | nil=>intro c hc _; exact hc
  | cons p ps ih =>
    intro c hc hp;rw [List.foldl_cons];refine ih _ ?_ fun q hq=>hp q (n8_ _ hq)
    by_cases h0:p=0
    · subst h0;rw [Int.gcd_zero_left]; simpa using hc
    · exact n10_ (Nat.le_of_dvd (Int.natAbs_pos.mpr h0) (Nat.gcd_dvd_left ..)) (hp p n7_)
 exact this ps 0 (Nat.two_pow_pos n) h
theorem Znp {ps:List Int}:gl 0 ps=0↔∀ p∈ps,p=0:=by
 constructor
 · intro h p hp
   have:=(Zmj 0 ps).2 p hp
   rw [h] at this;exact Int.zero_dvd.mp this
 · intro h
   have:∀ (ps:List Int),(∀ p∈ps,p=0)→ps.foldl (fun c p=>Int.gcd p (c:Int)) 0=0:=by
    intro ps
    induction ps with
    | nil=>intro _; rfl
    | cons p ps ih =>
      intro hp;rw [List.foldl_cons,hp p n7_];exact ih fun q hq=>hp q (n8_ _ hq)
   exact this ps h
def lcmL (ds:List Int):Int:=ds.foldl (fun m b=>m.fdiv (Int.gcd m b:Int) * b) 1
theorem Zdm {ds:List Int} {b:Int}:lcmL (ds++[b])=(lcmL ds).fdiv (Int.gcd (lcmL ds) b:Int) * b:=by unfold lcmL; rw [n82_]; rfl
theorem Yw {g k:Int} (h:g≠0):(g * k).fdiv g=k:=by rw [n55_]; exact FM.fdiv_mul h
theorem Zdl {m b:Int} (hm:0 < m) (hb:0 < b):0 < m.fdiv (Int.gcd m b:Int) * b∧m ∣ m.fdiv (Int.gcd m b:Int) * b∧b ∣ m.fdiv (Int.gcd m b:Int) * b∧(m.fdiv (Int.gcd m b:Int)).natAbs≤m.natAbs∧∀ c:Int,m ∣ c→b ∣ c→m.fdiv (Int.gcd m b:Int) * b ∣ c:=by
 have hg:(0:Int) < Int.gcd m b:=by have:=FM.gcd_ne (t:=m) (b:=b) (by omega); omega
 have h4:Int.gcd m b * Int.lcm m b=(m * b).natAbs:=(Int.gcd_mul_lcm m b).trans (n27_ m b).symm;have l0:∀ c:Int,m ∣ c→b ∣ c→(Int.lcm m b:Int) ∣ c:=fun c h1 h2=>Int.coe_lcm_dvd h1 h2;obtain ⟨k,hk⟩:=Int.gcd_dvd_left m b;obtain ⟨j,hj⟩:=n83_ m b
 have e2:((Int.gcd m b:Int)) * (Int.lcm m b:Int)=m * b:=by
  have:((Int.gcd m b * Int.lcm m b:Nat):Int)=m * b:=by
   rw [h4]; exact Int.natAbs_of_nonneg (Int.le_of_lt (Int.mul_pos hm hb))
  rwa [Int.natCast_mul] at this
 generalize (Int.gcd m b:Int)=g at *;have e:m.fdiv g=k:=by rw [hk]; exact Yw (by omega)
 rw [e]
 have kp:0 < k:=by
  refine Int.pos_of_mul_pos_left (b:=g) ?_ hg;rw [n55_,← hk]; exact hm
 refine ⟨Int.mul_pos kp hb,⟨j,?_⟩,⟨k,n55_ _ _⟩,?_,fun c h1 h2=>?_⟩
 · rw [hj,hk]; grind
 · rw [hk,n27_]; exact n44_ _ (by omega)
 · have e3:g * (Int.lcm m b:Int)=g * (k * b):=by rw [e2,← Int.mul_assoc,← hk]
   rw [← Int.eq_of_mul_eq_mul_left (by omega) e3];exact l0 c h1 h2
theorem Y9:∀ (ds:List Int),(∀ x∈ds,0 < x)→0 < lcmL ds∧(∀ x∈ds,x ∣ lcmL ds)∧∀ c:Int,(∀ x∈ds,x ∣ c)→lcmL ds ∣ c:=fun ds=>by
 have:∀ (ds:List Int) (m:Int),0 < m→(∀ x∈ds,0 < x)→0 < ds.foldl (fun m b=>m.fdiv (Int.gcd m b:Int) * b) m∧m ∣ ds.foldl (fun m b=>m.fdiv (Int.gcd m b:Int) * b) m∧(∀ x∈ds,x ∣ ds.foldl (fun m b=>m.fdiv (Int.gcd m b:Int) * b) m)∧∀ c:Int,m ∣ c→(∀ x∈ds,x ∣ c)→ds.foldl (fun m b=>m.fdiv (Int.gcd m b:Int) * b) m ∣ c:=by
  intro ds
  induction ds with
  | nil=>intro m hm _; exact ⟨hm,Int.dvd_refl m,fun x hx=>(nomatch hx),fun c h _=>h⟩
  | cons b ds ih =>
    intro m hm hd;obtain ⟨l1,l2,l3,_,l5⟩:=Zdl hm (hd b n7_);obtain ⟨i1,i2,i3,i4⟩:=ih _ l1 fun x hx=>hd x (n8_ _ hx);rw [List.foldl_cons];refine ⟨i1,Int.dvd_trans l2 i2,fun x hx=>?_,fun c h1 h2=>i4 c (l5 c h1 (h2 b n7_)) fun x hx=>h2 x (n8_ _ hx)⟩
    rcases n31_.mp hx with rfl | hx
    · exact Int.dvd_trans l3 i2
    · exact i3 x hx
 intro h;obtain ⟨a,_,b,c⟩:=this ds 1 (by decide) h;exact ⟨a,b,fun z hz=>c z (Int.one_dvd z) hz⟩
theorem Zdu {k:Nat}:∀ (ds:List Int),(∀ x∈ds,0 < x∧x.natAbs < 2 ^ k)→(lcmL ds).natAbs < 2 ^ (k * ds.length+1):=fun ds h=>by
 have:∀ (i:Nat),i≤ds.length→(lcmL (ds.take i)).natAbs < 2 ^ (k * i+1):=by
  intro i
  induction i with
  | zero=>intro _; rw [Nat.mul_zero,List.take_zero]; decide
  | succ i ih =>
    intro hi;have hm:=(Y9 (ds.take i) fun x hx=>(h x (n54_ hx)).1).1;have hb:=h ds[i] (n36_ hi);rw [n39_ hi,Zdm];refine n16_ (FM.natAbs_mul_lt (n10_ (Zdl hm hb.1).2.2.2.1 (ih (by omega))) hb.2) (n11_ (by decide) (by rw [Nat.mul_add]; omega))
 have:=this ds.length (n9_ _)
 rwa [n67_] at this
abbrev tops (qs:List Rat):List Int:=qs.map fun q=>q.num
abbrev bots (qs:List Rat):List Int:=qs.map fun q=>(q.den:Int)
def scl (qs:List Rat):Int×Int:=if gl 0 (tops qs)=0 then (1,1) else (lcmL (bots qs),(gl 0 (tops qs):Int))
def wh (qs:List Rat):List Int:=qs.map fun q=>q.num.fdiv (scl qs).2 * (scl qs).1.fdiv q.den
def prt (t m:Int) (own its:List Int):List Int:=List.zipWith (fun o i=>t * o - m * i) own its
def clr (pl:Nat) (hd:List Int) (x:Int×List Int):Int×List Int :=
 if x.2.getD pl 0=0 then x else (hd.getD pl 0,(prt (hd.getD pl 0) (x.2.getD pl 0) x.2 hd).map fun p=>p.fdiv (gl x.1 (prt (hd.getD pl 0) (x.2.getD pl 0) x.2 hd):Int))
abbrev abV (x:Int):Int:=if x < 0 then -x else x
def hds (ls:List (Int×List Int)) (pl:Nat):List Int:=(List.range ls.length).filterMap fun i=>if (ls.getD i (0,[])).2.getD pl 0=0 then none else some (i:Int)
def hkf (ls:List (Int×List Int)) (pl:Nat) (i:Int):Int:=abV ((ls.getD i.toNat (0,[])).2.getD pl 0)
theorem Zig {ls:List (Int×List Int)} {pl:Nat} {i:Int} (h:i∈hds ls pl):∃ n:Nat,i=n∧n < ls.length∧(ls.getD n (0,[])).2.getD pl 0≠0:=by
 obtain ⟨n,hn,e⟩:=List.mem_filterMap.mp h;split at e
 · cases e
 · cases e; exact ⟨n,rfl,List.mem_range.mp hn,by assumption⟩
def X0 (ls:List (Int×List Int)) (pl:Nat):Option Nat:=match hds ls pl with
 | []=>none
 | x :: xs=>some (mk (hkf ls pl) x xs).toNat
theorem Zah {ls:List (Int×List Int)} {pl n:Nat} (h:X0 ls pl=some n):n < ls.length∧(ls.getD n (0,[])).2.getD pl 0≠0:=by
 unfold X0 at h;split at h
 · cases h
 · rename_i x xs e
   have hm:mk (hkf ls pl) x xs∈hds ls pl:=by rw [e]; exact Zn6 xs
   obtain ⟨m,hm,h1,h2⟩:=Zig hm;cases h
   rw [hm];exact ⟨h1,h2⟩
theorem Zih {ls:List (Int×List Int)} {pl:Nat} (h:X0 ls pl=none):∀ x∈ls,x.2.getD pl 0=0:=by
 unfold X0 at h;split at h
 · rename_i e
   intro x hx;obtain ⟨i,hi,rfl⟩:=n45_ hx
   by_cases z:ls[i].2.getD pl 0=0
   · exact z
   · exfalso
     have gd:ls.getD i (0,[])=ls[i]:=by rw [n6_,n0_ hi]; rfl
     have:(i:Int)∈hds ls pl:=by
      unfold hds;refine List.mem_filterMap.mpr ⟨i,List.mem_range.mpr hi,?_⟩;rw [gd,if_neg z]
     rw [e] at this; cases this
 · cases h
theorem Zk4 (ls:List (Int×List Int)) (pl:Nat):(X0 ls pl=none∧minV (hkf ls pl) (hds ls pl)=.non)∨∃ n:Nat,X0 ls pl=some n∧minV (hkf ls pl) (hds ls pl)=.int n:=by
 unfold X0;split
 · rename_i e; left; rw [e]; exact ⟨rfl,rfl⟩
 · rename_i x xs e
   right
   have hm:mk (hkf ls pl) x xs∈hds ls pl:=by rw [e]; exact Zn6 xs
   obtain ⟨m,hm,_⟩:=Zig hm;refine ⟨_,rfl,?_⟩;rw [e];show V.int (mk (hkf ls pl) x xs)=_
   rw [hm]; rfl
abbrev Stt:=List (Nat×List Int)×List (Int×List Int)
def stp1 (st:Stt) (pl:Nat):Stt:=match X0 st.2 pl with
 | none=>st
 | some at_=>(st.1++[(pl,(st.2.getD at_ (0,[])).2)],(st.2.eraseIdx at_).map (clr pl (st.2.getD at_ (0,[])).2))
def stp (lines:List (List Int)) (n:Nat):Stt:=(List.range n).foldl stp1 ([],lines.map fun l=>(1,l))
theorem Zit {lines:List (List Int)} {n:Nat}:stp lines (n+1)=stp1 (stp lines n) n:=by unfold stp; rw [List.range_succ,n82_]; rfl
theorem Za7 {lines:List (List Int)} {n:Nat} (h:X0 (stp lines n).2 n=none):stp lines (n+1)=stp lines n:=by rw [Zit]; unfold stp1; rw [h]
theorem Zby {lines:List (List Int)} {n a:Nat} (h:X0 (stp lines n).2 n=some a):stp lines (n+1)=((stp lines n).1++[(n,((stp lines n).2.getD a (0,[])).2)],((stp lines n).2.eraseIdx a).map (clr n ((stp lines n).2.getD a (0,[])).2)):=by rw [Zit]; unfold stp1; rw [h]
def levI (m:Int) (q:Rat):Int:=q.num * m.fdiv q.den
def lvd (qs:List Rat):List Int:=qs.map (levI (lcmL (bots qs)))
theorem Zbm (q:Rat):q=(q.num:Rat) / (q.den:Rat):=by
 have:=Rat.mkRat_self q
 rw [Rat.mkRat_eq_div] at this;exact this.symm
theorem Zdp (q:Rat):(q.den:Rat)≠0:=fun z=>q.den_nz (by exact_mod_cast z)
theorem Zhq {m:Int} {q:Rat} (h:(q.den:Int) ∣ m):(levI m q:Rat)=q * m:=by
 obtain ⟨k,rfl⟩:=h;unfold levI;rw [n55_ (q.den:Int),FM.fdiv_mul (FM.den_ne q)];have e:=Zbm q;have hd:=Zdp q;rw [n15_,n15_];generalize (q.num:Rat)=n at *;have hd2:((q.den:Int):Rat)=(q.den:Rat):=by first | rfl | exact n91_ _
 rw [hd2];generalize (q.den:Rat)=dd at *;rw [e]
 grind
theorem Y3 (qs:List Rat):∀ x∈bots qs,0 < x:=fun x hx=>by
 obtain ⟨q,hq,rfl⟩:=n22_.mp hx;exact FM.den_pos q
theorem Ze7 {qs:List Rat} {q:Rat} (h:q∈qs):(q.den:Int) ∣ lcmL (bots qs):=(Y9 _ (Y3 qs)).2.1 _ (n22_.mpr ⟨q,h,rfl⟩)
theorem Zpu {qs:List Rat} {q:Rat} (h:q∈qs):(levI (lcmL (bots qs)) q:Rat)=q * (lcmL (bots qs):Rat):=Zhq (Ze7 h)
theorem Z8 {a:Int} (h:a≠0):(a:Rat)≠0:=fun z=>h (by exact_mod_cast z)
theorem Zbr (a b:Int):Rat.divInt a b=(a:Rat) / (b:Rat):=by rw [Rat.divInt_eq_div]
def dotQ (ws:List Int) (qs:List Rat):Rat:=(List.zipWith (fun (w:Int) (q:Rat)=>(w:Rat) * q) ws qs).sum
theorem Zlb {m:Int}:∀ (ws:List Int) (qs:List Rat),(∀ q∈qs,(q.den:Int) ∣ m)→(((List.zipWith (fun w q=>w * levI m q) ws qs).sum:Int):Rat)=dotQ ws qs * m
 | [],_,_=>by simp [dotQ,Rat.zero_mul]
 | _ :: _,[],_=>by simp [dotQ,Rat.zero_mul]
 | w :: ws,q :: qs,h=>by
   have ih:=Zlb ws qs fun x hx=>h x (n8_ _ hx);have e:=Zhq (h q n7_);unfold dotQ at *;simp only [n51_,n57_];rw [Rat.intCast_add,ih,n15_,e]
   grind
def mxd (ws:List Int) (qs:List Rat) (b:Int):Rat:=dotQ ws qs / (b:Rat)
theorem Zqf {ws:List Int} {qs:List Rat} {b:Int} (hb:b≠0):Rat.divInt (List.zipWith (fun w t=>w * t) ws (lvd qs)).sum (lcmL (bots qs) * b)=mxd ws qs b:=by
 have h0:=(Y9 _ (Y3 qs)).1
 have e:(List.zipWith (fun w t=>w * t) ws (lvd qs))=List.zipWith (fun w q=>w * levI (lcmL (bots qs)) q) ws qs:=by
  unfold lvd; rw [List.zipWith_map_right]
 rw [e,Zbr,Zlb ws qs fun q hq=>Ze7 hq,n15_];unfold mxd;have h1:=Z8 (show lcmL (bots qs)≠0 by omega);have h2:=Z8 hb;generalize dotQ ws qs=x;generalize (lcmL (bots qs):Rat)=m at *;generalize (b:Rat)=c at *
 grind
def trm (pl:Nat) (line:List Int) (xs:List Rat):List (Int×Rat):=((line.drop (pl+1)).zip (xs.drop (pl+1))).filter fun p=>p.1 != 0 && p.2.num != 0
def sumT (ts:List (Int×Rat)):Rat:=(ts.map fun p=>(p.1:Rat) * p.2).sum
def putQ (pl:Nat) (line:List Int) (xs:List Rat):Rat:=((line.getLastD 0:Int) - sumT ((line.drop (pl+1)).zip (xs.drop (pl+1)))) / (line.getD pl 0:Int)
theorem Znq (l:List (Int×Rat)):sumT (l.filter fun p=>p.1 != 0 && p.2.num != 0)=sumT l:=by
 induction l with
 | nil=>rfl
 | cons p l ih =>
   unfold sumT at *;rw [List.filter_cons];split
   · simp only [n69_,n57_,ih]
   · rename_i h
     rw [ih,n69_,n57_]
     have z:(p.1:Rat) * p.2=0:=by
      by_cases h1:p.1=0
      · rw [h1]; simp
      · have h2:p.2.num=0:=by
         have:¬ (p.1 != 0 && p.2.num != 0)=true:=h
         simp only [n40_,bne_iff_ne,ne_eq,not_and,Classical.not_not] at this;exact this h1
        rw [Rat.num_eq_zero.mp h2]; simp
     rw [z,Rat.zero_add]
theorem Zmh {m:Int}:∀ (ts:List (Int×Rat)),(∀ p∈ts,(p.2.den:Int) ∣ m)→(((ts.map fun p=>p.1 * p.2.num * m.fdiv p.2.den).sum:Int):Rat)=sumT ts * m
 | [],_=>by simp [sumT,Rat.zero_mul]
 | p :: ts,h=>by
   have ih:=Zmh ts fun x hx=>h x (n8_ _ hx);have e:=Zhq (h p n7_);unfold sumT at *;unfold levI at e;simp only [n69_,n57_];rw [Rat.intCast_add,ih,Int.mul_assoc,n15_,e]
   grind
theorem Zpe {pl:Nat} {line:List Int} {xs:List Rat} {B:Int} (hB:B=lcmL (bots ((trm pl line xs).map Prod.snd))) (h:line.getD pl 0≠0) :
 Rat.divInt (B * line.getLastD 0 - ((trm pl line xs).map fun p=>p.1 * p.2.num * B.fdiv p.2.den).sum) (B * line.getD pl 0)=putQ pl line xs:=by
 have h0:0 < B:=by rw [hB]; exact (Y9 _ (Y3 _)).1
 have hd:∀ p∈trm pl line xs,(p.2.den:Int) ∣ B:=fun p hp=>by rw [hB]; exact Ze7 (n22_.mpr ⟨p,hp,rfl⟩)
 rw [Zbr,Rat.intCast_sub,Zmh _ hd,n15_,n15_];unfold putQ;rw [show sumT (trm pl line xs)=sumT ((line.drop (pl+1)).zip (xs.drop (pl+1))) from Znq _];have h1:=Z8 (show B≠0 by omega);have h2:=Z8 h;generalize sumT _=x;generalize (B:Rat)=m at *;generalize ((line.getD pl 0:Int):Rat)=c at *;generalize ((line.getLastD 0:Int):Rat)=d at *
 grind
def fil (steps:List (Nat×List Int)) (xs:List Rat):List Rat:=steps.foldr (fun st xs=>xs.set st.1 (putQ st.1 st.2 xs)) xs
def fct (ds:List Int):Int×List Int:=ds.foldl (fun p b=>if 1 < b.fdiv (Int.gcd p.1 b:Int) then (p.1 * b.fdiv (Int.gcd p.1 b:Int),p.2++[b.fdiv (Int.gcd p.1 b:Int)]) else p) (1,[])
def Zcl (fs:List Int):Int:=fs.foldl (· * ·) 1
theorem Zer {fs:List Int} {f:Int}:Zcl (fs++[f])=Zcl fs * f:=by unfold Zcl; rw [n82_]; rfl
theorem Zl1:∀ (ds:List Int),(∀ x∈ds,0 < x)→(fct ds).1=lcmL ds∧Zcl (fct ds).2=lcmL ds∧∀ f∈(fct ds).2,0 < f∧∃ d∈ds,f ∣ d:=fun ds=>by
 suffices H:∀ i,i≤ds.length→(∀ x∈ds,0 < x)→(fct (ds.take i)).1=lcmL (ds.take i)∧Zcl (fct (ds.take i)).2=lcmL (ds.take i)∧∀ f∈(fct (ds.take i)).2,0 < f∧∃ d∈ds,f ∣ d by
  intro h; have:=H ds.length (n9_ _) h; rwa [n67_] at this
 intro i
 induction i with
 | zero=>intro _ _; exact ⟨rfl,rfl,fun f hf=>nomatch hf⟩
 | succ i ih =>
   intro hi h;obtain ⟨i1,i2,i3⟩:=ih (by omega) h;have hb:=h ds[i] (n36_ hi);have hm:=(Y9 (ds.take i) fun x hx=>h x (n54_ hx)).1
   have e:fct (ds.take i++[ds[i]])=if 1 < ds[i].fdiv (Int.gcd (fct (ds.take i)).1 ds[i]:Int) then ((fct (ds.take i)).1 * ds[i].fdiv (Int.gcd (fct (ds.take i)).1 ds[i]:Int),(fct (ds.take i)).2++[ds[i].fdiv (Int.gcd (fct (ds.take i)).1 ds[i]:Int)]) else fct (ds.take i):=by
    unfold fct; rw [n82_]; rfl
   rw [n39_ hi,e,i1,Zdm];generalize lcmL (ds.take i)=m at *;generalize hbb:ds[i]=b at *;have hg:(0:Int) < Int.gcd m b:=by have:=FM.gcd_ne (t:=m) (b:=b) (by omega); omega
   obtain ⟨k,hk⟩:=Int.gcd_dvd_left m b;obtain ⟨j,hj⟩:=n83_ m b;have mem:b∈ds:=by rw [← hbb]; exact n36_ hi
   generalize (Int.gcd m b:Int)=g at *;have e1:m.fdiv g=k:=by rw [hk]; exact Yw (by omega)
   have e2:b.fdiv g=j:=by rw [hj]; exact Yw (by omega)
   rw [e1,e2]
   have jp:0 < j:=by
    refine Int.pos_of_mul_pos_left (b:=g) ?_ hg;rw [n55_,← hj]; exact hb
   have eq:m * j=k * b:=by rw [hk,hj]; grind
   split
   · refine ⟨eq,by rw [Zer,i2,eq],fun f hf=>?_⟩
     rcases n29_.mp hf with hf | hf
     · exact i3 f hf
     · rw [n13_.mp hf];exact ⟨jp,b,mem,⟨g,by rw [hj]; grind⟩⟩
   · have:j=1:=by omega
     subst this;rw [Int.mul_one] at eq;rw [← eq];exact ⟨i1,i2,i3⟩
theorem Znl {q:Rat} {f:Int} (hf:0 < f):(q / (f:Rat)).num=q.num.fdiv (Int.gcd q.num f:Int)∧((q / (f:Rat)).den:Int)=q.den * f.fdiv (Int.gcd q.num f:Int):=by
 have hg:(0:Int) < Int.gcd q.num f:=by have:=FM.gcd_ne (t:=q.num) (b:=f) (by omega); omega
 obtain ⟨k,hk⟩:=Int.gcd_dvd_left q.num f;obtain ⟨j,hj⟩:=n83_ q.num f
 have cop:Int.gcd k j=1:=by
  have h:=Int.gcd_mul_left (Int.gcd q.num f:Int) k j;rw [← hk,← hj] at h;have hn:(Int.gcd q.num f:Int).natAbs=Int.gcd q.num f:=by simp
  rw [hn] at h;have h0:0 < Int.gcd q.num f:=by omega
  exact Nat.eq_of_mul_eq_mul_left h0 (by rw [Nat.mul_one]; exact h.symm)
 have cop2:Int.gcd k (q.den:Int)=1:=by
  have h:=FM.gcd_one q
  have hd:Int.gcd k (q.den:Int) ∣ Int.gcd q.num (q.den:Int):=by
   refine Int.dvd_gcd ?_ (n83_ ..);rw [hk];exact Int.dvd_trans (Int.gcd_dvd_left ..) ⟨(Int.gcd q.num f:Int),by rw [n55_]⟩
  rw [h] at hd;exact Nat.dvd_one.mp hd
 generalize hgg:(Int.gcd q.num f:Int)=g at *;have e1:q.num.fdiv g=k:=by rw [hk]; exact Yw (by omega)
 have e2:f.fdiv g=j:=by rw [hj]; exact Yw (by omega)
 rw [e1,e2]
 have jp:0 < j:=by
  refine Int.pos_of_mul_pos_left (b:=g) ?_ hg;rw [n55_,← hj]; exact hf
 have dp:=FM.den_pos q
 have cop3:Int.gcd k (q.den * j)=1:=by
  have h1:Nat.Coprime k.natAbs (q.den:Int).natAbs:=cop2;have h2:Nat.Coprime k.natAbs j.natAbs:=cop;show Nat.gcd k.natAbs ((q.den:Int) * j).natAbs=1
  rw [n27_];exact Nat.Coprime.mul_right h1 h2
 have eq:q / (f:Rat)=Rat.divInt k (q.den * j):=by
  rw [Zbr,n15_];have e:=Zbm q;have hd:=Zdp q;have hd2:((q.den:Int):Rat)=(q.den:Rat):=by first | rfl | exact n91_ _
  rw [hd2];have hgq:(g:Rat)≠0:=Z8 (by omega);have hjq:(j:Rat)≠0:=Z8 (by omega);have n1:(q.num:Rat)=(g:Rat) * (k:Rat):=by rw [hk,n15_]
  have f1:(f:Rat)=(g:Rat) * (j:Rat):=by rw [hj,n15_]
  rw [f1];rw [n1] at e;generalize (q.den:Rat)=dd at *;rw [e];generalize (g:Rat)=G at *;generalize (k:Rat)=K at *;generalize (j:Rat)=J at *
  grind
 have mk:=FM.fdiv_num (t:=k) (b:=q.den * j) (Int.ne_of_gt (Int.mul_pos dp jp));have md:=FM.fdiv_den (t:=k) (b:=q.den * j) (Int.ne_of_gt (Int.mul_pos dp jp))
 have sg:FM.sg k (q.den * j)=1:=by
  unfold FM.sg;rw [if_neg (by have:=Int.mul_pos dp jp; omega),cop3]; rfl
 rw [sg] at mk md;rw [eq];exact ⟨by rw [← mk]; exact Int.fdiv_one _,by rw [← md]; exact Int.fdiv_one _⟩
theorem Znu {q:Rat} {fs:List Int} {f:Int} (h:∀ x∈fs++[f],0 < x):q / (Zcl (fs++[f]):Rat)=q / (Zcl fs:Rat) / (f:Rat):=by
 rw [Zer,n15_];generalize (Zcl fs:Rat)=a;generalize (f:Rat)=b
 grind
def wid (rows:List (List Rat)):Nat:=match rows with
 | []=>0
 | r :: _=>r.length
def rtv (rows:List (List Rat)) (rights:List Rat):List Rat:=List.zipWith (fun row r=>mxd [(scl row).1] [r] (scl row).2) rows rights
def lns (rows:List (List Rat)) (rights:List Rat):List (List Int):=List.zipWith (fun row t=>wh row++[t]) rows (lvd (rtv rows rights))
def stF (rows:List (List Rat)) (rights:List Rat):Stt:=stp (lns rows rights) (wid rows)
def slv (rows:List (List Rat)) (rights:List Rat):Option (List Rat):=if (stF rows rights).2.any (fun x=>x.2.getD (wid rows) 0 != 0) then none else some ((fil (stF rows rights).1 (List.replicate (wid rows) 0)).map fun x=>x / (Zcl (fct (bots (rtv rows rights))).2:Rat))
def tkn (rows:List (List Rat)) (rights:List Rat):List Nat:=(stF rows rights).1.map Prod.fst
def cols (rows:List (List Rat)) (taken:List Nat):List (List Rat):=taken.map fun p=>rows.map fun r=>r.getD p 0
def mixM (rows:List (List Rat)) (rights:List Rat) (taken:List Nat):Option (List Rat):=slv (cols rows taken++[rights]) (List.replicate taken.length 0++[1])
theorem Zcj (qs:List Rat):(wh qs).length=qs.length:=by simp [wh]
end L2
namespace L2
theorem php:∀ (b a:Nat) (f:Nat→Nat),(∀ i,i < a→f i < b)→b < a→∃ i j,i < j∧j < a∧f i=f j
 | 0,a,f,h,l=>absurd (h 0 l) (Nat.not_lt_zero _)
 | b+1,a,f,h,l=>by
   by_cases e:∃ i,i < a - 1∧f i=f (a - 1)
   · obtain ⟨i,hi,e⟩:=e;exact ⟨i,a - 1,hi,by omega,e⟩
   · have ne:∀ i,i < a - 1→f i≠f (a - 1):=fun i hi z=>e ⟨i,hi,z⟩
     obtain ⟨i,j,hij,hj,q⟩:=php b (a - 1) (fun i=>if f i=b then f (a - 1) else f i) (fun i hi=>by
      have h1:=h i (by omega);have h2:=h (a - 1) (by omega);have h3:=ne i hi;show (if f i=b then f (a - 1) else f i) < b
      split <;> omega) (by omega)
     refine ⟨i,j,hij,by omega,?_⟩;have n1:=ne i (by omega);have n2:=ne j hj;have q':(if f i=b then f (a - 1) else f i)=if f j=b then f (a - 1) else f j:=q
     split at q' <;> split at q' <;> omega
def dg (K k i:Nat):Nat:=i / K ^ k % K
theorem Zn3 {K:Nat} (hK:0 < K):∀ (n i j:Nat),i < K ^ n→j < K ^ n→(∀ k,k < n→dg K k i=dg K k j)→i=j
 | 0,i,j,hi,hj,_=>by rw [Nat.pow_zero] at hi hj; omega
 | n+1,i,j,hi,hj,h=>by
   have h0:=h 0 (by omega);unfold dg at h0;rw [Nat.pow_zero,Nat.div_one,Nat.div_one] at h0
   have sh:∀ k x,dg K k (x / K)=dg K (k+1) x:=fun k x=>by
    unfold dg;rw [Nat.div_div_eq_div_mul,Nat.pow_succ,n92_ K]
   have:=Zn3 hK n (i / K) (j / K) (by rw [Nat.div_lt_iff_lt_mul hK,← Nat.pow_succ]; exact hi) (by rw [Nat.div_lt_iff_lt_mul hK,← Nat.pow_succ]; exact hj) fun k hk=>by
    rw [sh,sh]; exact h (k+1) (by omega)
   rw [← Nat.div_add_mod i K,← Nat.div_add_mod j K,this,h0]
def enc (R:Nat) (vs:List Nat):Nat:=vs.foldr (fun v a=>v+R * a) 0
theorem Zoh {R:Nat}:∀ (vs:List Nat),(∀ v∈vs,v < R)→enc R vs < R ^ vs.length
 | [],_=>by show 0 < 1; decide
 | v :: vs,h=>by
   have ih:=Zoh vs fun x hx=>h x (n8_ _ hx);have hv:=h v n7_;show v+R * enc R vs < R ^ (vs.length+1)
   rw [Nat.pow_succ,n92_ _ R]
   have:R * (enc R vs+1)≤R * R ^ vs.length:=n53_ R ih
   rw [Nat.mul_add] at this;omega
theorem Zkn {R:Nat}:∀ (vs ws:List Nat),vs.length=ws.length→(∀ v∈vs,v < R)→(∀ v∈ws,v < R)→enc R vs=enc R ws→vs=ws
 | [],[],_,_,_,_=>rfl
 | [],_ :: _,l,_,_,_=>by cases l
 | _ :: _,[],l,_,_,_=>by cases l
 | v :: vs,w :: ws,l,h1,h2,e=>by
   have e':v+R * enc R vs=w+R * enc R ws:=e;have hv:=h1 v n7_;have hw:=h2 w n7_
   have m:v=w:=by
    have:=congrArg (· % R) e'
    simp only [Nat.add_mul_mod_self_left] at this
    rwa [Nat.mod_eq_of_lt hv,Nat.mod_eq_of_lt hw] at this
   subst m;have q:R * enc R vs=R * enc R ws:=by omega
   rw [Zkn vs ws (Nat.succ.inj l) (fun x hx=>h1 x (n8_ _ hx)) (fun x hx=>h2 x (n8_ _ hx)) (Nat.eq_of_mul_eq_mul_left (by omega) q)]
def dotI (r u:List Int):Int:=(List.zipWith (· * ·) r u).sum
theorem Zll {M K:Nat}:∀ (r u:List Int),(∀ x∈r,x.natAbs≤M)→(∀ x∈u,x.natAbs≤K)→(dotI r u).natAbs≤u.length * (M * K)
 | [],u,_,_=>by show (0:Int).natAbs≤_; exact n56_ _
 | _ :: _,[],_,_=>by show (0:Int).natAbs≤_; exact n56_ _
 | x :: r,y :: u,h1,h2=>by
   have ih:=Zll r u (fun z hz=>h1 z (n8_ _ hz)) fun z hz=>h2 z (n8_ _ hz);show (x * y+dotI r u).natAbs≤(u.length+1) * (M * K)
   have:=Int.natAbs_add_le (x * y) (dotI r u)
   have m:(x * y).natAbs≤M * K:=by rw [n27_]; exact n59_ (h1 x n7_) (h2 y n7_)
   rw [Nat.add_mul,Nat.one_mul];omega
theorem Zjn:∀ (r u v:List Int),u.length=v.length→dotI r (List.zipWith (· - ·) u v)=dotI r u - dotI r v
 | [],u,v,_=>by show (0:Int)=0 - 0; rfl
 | x :: r,[],[],_=>by show (0:Int)=0 - 0; rfl
 | x :: r,y :: u,z :: v,l=>by
   have ih:=Zjn r u v (Nat.succ.inj l);show x * (y - z)+dotI r (List.zipWith (· - ·) u v)=(x * y+dotI r u) - (x * z+dotI r v)
   rw [ih,Int.mul_sub]; omega
 | x :: r,[],_ :: _,l=>by cases l
 | x :: r,_ :: _,[],l=>by cases l
theorem Zp7 {M s:Nat} (rows:List (List Int)) (hs:rows.length=s) (hM:∀ r∈rows,∀ x∈r,x.natAbs≤M) :
 ∃ v:List Int,v.length=s+1∧(∃ x∈v,x≠0)∧(∀ x∈v,x.natAbs≤(2 * (s+1) * M+1) ^ s)∧∀ r∈rows,dotI r v=0:=by
 obtain ⟨K,hK⟩:∃ K,K=(2 * (s+1) * M+1) ^ s+1:=⟨_,rfl⟩;have K0:0 < K:=by omega
 obtain ⟨B,hB⟩:∃ B,B=(s+1) * (M * (K - 1)):=⟨_,rfl⟩;obtain ⟨u,hu⟩:∃ u:Nat→List Int,u=fun i=>(List.range (s+1)).map fun k=>(dg K k i:Int):=⟨_,rfl⟩;have ul:∀ i,(u i).length=s+1:=fun i=>by rw [hu]; simp
 have ub:∀ i,∀ x∈u i,x.natAbs≤K - 1:=fun i x hx=>by
  rw [hu] at hx;obtain ⟨k,_,rfl⟩:=n22_.mp hx
  have:dg K k i < K:=Nat.mod_lt _ K0
  show dg K k i≤_
  omega
 have db:∀ i,∀ r∈rows,(dotI r (u i)).natAbs≤B:=fun i r hr=>by
  have:=Zll r (u i) (hM r hr) (ub i)
  rw [ul] at this;rw [hB]; exact this
 obtain ⟨f,hf⟩:∃ f:Nat→Nat,f=fun i=>enc (2 * B+1) (rows.map fun r=>(dotI r (u i)+B).toNat):=⟨_,rfl⟩
 have inR:∀ i,∀ v∈rows.map (fun r=>(dotI r (u i)+B).toNat),v < 2 * B+1:=fun i v hv=>by
  obtain ⟨r,hr,rfl⟩:=n22_.mp hv
  have:=db i r hr
  omega
 have lt:(2 * B+1) ^ s < K ^ (s+1):=by
  have h1:2 * B+1≤(2 * (s+1) * M+1) * K:=by
   have e:2 * B=2 * (s+1) * M * (K - 1):=by rw [hB]; rw [← Nat.mul_assoc,← Nat.mul_assoc,Nat.mul_assoc 2]
   have:2 * (s+1) * M * (K - 1)≤2 * (s+1) * M * K:=n53_ _ (by omega)
   rw [Nat.add_mul,Nat.one_mul];omega
  have h2:=Nat.pow_le_pow_left h1 s;rw [Nat.mul_pow] at h2;have h3:(2 * (s+1) * M+1) ^ s * K ^ s < K * K ^ s:=Nat.mul_lt_mul_of_pos_right (by omega) (Nat.pow_pos K0);rw [Nat.pow_succ,n92_ _ K];omega
 obtain ⟨i,j,hij,hj,e⟩:=php ((2 * B+1) ^ s) (K ^ (s+1)) f (fun i _=>by
  rw [hf]
  have:=Zoh _ (inR i)
  rw [n2_,hs] at this;exact this) lt
 rw [hf] at e;have e:=Zkn _ _ (by rw [n2_,n2_]) (inR i) (inR j) e;refine ⟨List.zipWith (· - ·) (u i) (u j),by rw [n33_,ul,ul]; exact n88_ _,?_,fun x hx=>?_,fun r hr=>?_⟩
 · refine Classical.byContradiction fun no=>?_
   have z:∀ k,k < s+1→dg K k i=dg K k j:=fun k hk=>by
    refine Classical.byContradiction fun ne=>no ⟨(dg K k i:Int) - dg K k j,?_,by omega⟩;refine n60_.mpr ⟨k,?_⟩;rw [n24_,hu];simp [hk]
   have:=Zn3 K0 (s+1) i j (by omega) hj z
   omega
 · obtain ⟨k,hk⟩:=n60_.mp hx;rw [n24_] at hk;split at hk
   · rename_i a b ea eb
     cases hk
     rw [hu] at ea eb;have ma:=n1_ ea;have mb:=n1_ eb;obtain ⟨k1,_,rfl⟩:=n22_.mp ma;obtain ⟨k2,_,rfl⟩:=n22_.mp mb;have h1:dg K k1 i < K:=Nat.mod_lt _ K0;have h2:dg K k2 j < K:=Nat.mod_lt _ K0;omega
   · cases hk
 · rw [Zjn _ _ _ (by rw [ul,ul])];have m:(dotI r (u i)+B).toNat=(dotI r (u j)+B).toNat:=List.map_inj_left.mp e r hr
   have:=db i r hr
   have:=db j r hr
   omega
end L2
namespace L2
def ort (z:List Rat) (l:List Int):Prop:=dotQ l z=0
theorem Zu {a:Int} {l:List Int} {b:Rat} {z:List Rat}:dotQ (a :: l) (b :: z)=(a:Rat) * b+dotQ l z:=by
 unfold dotQ; rw [n51_,n57_]
theorem Xg {z:List Rat}:dotQ [] z=0:=by unfold dotQ; rfl
theorem Yo {l:List Int}:dotQ l []=0:=by unfold dotQ; cases l <;> rfl
theorem Zi2 {t m:Int}:∀ (own its:List Int) (z:List Rat),own.length=its.length→dotQ (prt t m own its) z=(t:Rat) * dotQ own z - (m:Rat) * dotQ its z
 | [],[],z,_=>by rw [show prt t m [] []=[] from rfl,Xg]; grind
 | [],_ :: _,z,l=>by cases l
 | _ :: _,[],z,l=>by cases l
 | a :: own,b :: its,[],_=>by rw [Yo,Yo,Yo]; grind
 | a :: own,b :: its,c :: z,l=>by
   have ih:=Zi2 (t:=t) (m:=m) own its z (Nat.succ.inj l);rw [show prt t m (a :: own) (b :: its)=(t * a - m * b) :: prt t m own its from rfl,Zu,Zu,Zu,ih,Rat.intCast_sub,n15_,n15_]
   grind
theorem Ziz {g:Int} (hg:g≠0):∀ (ps:List Int) (z:List Rat),(∀ p∈ps,g ∣ p)→(g:Rat) * dotQ (ps.map fun p=>p.fdiv g) z=dotQ ps z
 | [],z,_=>by rw [List.map_nil,Xg]; grind
 | _ :: _,[],_=>by rw [Yo,Yo]; grind
 | p :: ps,c :: z,h=>by
   have ih:=Ziz hg ps z fun q hq=>h q (n8_ _ hq);obtain ⟨k,rfl⟩:=h p n7_;rw [n69_,Zu,Zu,Yw hg,← ih,n15_]
   grind
theorem Zlg {pl:Nat} {hd:List Int} {x:Int×List Int} (nz:x.1≠0) (hl:x.2.length=hd.length):∃ α β γ:Rat,γ≠0∧∀ z,γ * dotQ (clr pl hd x).2 z=α * dotQ x.2 z+β * dotQ hd z:=by
 by_cases h0:x.2.getD pl 0=0
 · refine ⟨1,0,1,by decide,fun z=>?_⟩
   have:clr pl hd x=x:=by unfold clr; rw [if_pos h0]
   rw [this]; grind
 · have e:(clr pl hd x).2=(prt (hd.getD pl 0) (x.2.getD pl 0) x.2 hd).map fun p=>p.fdiv (gl x.1 (prt (hd.getD pl 0) (x.2.getD pl 0) x.2 hd):Int):=by unfold clr; rw [if_neg h0]
   generalize hP:prt (hd.getD pl 0) (x.2.getD pl 0) x.2 hd=P at *;have g0:=(Zmc nz P).1;have gz:((gl x.1 P:Nat):Int)≠0:=by omega
   refine ⟨(hd.getD pl 0:Int),-((x.2.getD pl 0:Int):Rat),((gl x.1 P:Nat):Int),Z8 gz,fun z=>?_⟩;rw [e,Ziz gz P z fun p hp=>(Zmj x.1 P).2 p hp,← hP,Zi2 _ _ _ hl]
   grind
theorem Zna {pl:Nat} {hd:List Int} {x:Int×List Int} (nz:x.1≠0) (hl:x.2.length=hd.length) {p:Nat} (h1:x.2.getD p 0=0) (h2:hd.getD p 0=0):(clr pl hd x).2.getD p 0=0:=by
 unfold clr;split
 · exact h1
 · show ((prt _ _ x.2 hd).map _).getD p 0=0
   rw [n6_,n5_];unfold prt;rw [n24_]
   by_cases hp:p < x.2.length
   · rw [n0_ hp,n0_ (by omega)];rw [n6_,n0_ hp] at h1;rw [n6_,n0_ (by omega)] at h2;simp only [Option.getD_some] at h1 h2;simp only [h1,h2,Int.mul_zero,Int.sub_self,Option.map_some,Option.getD_some];exact Int.zero_fdiv _
   · rw [n94_ (by omega)]; rfl
theorem Zpk {pl:Nat} {hd:List Int} {x:Int×List Int} (nz:x.1≠0) (hl:x.2.length=hd.length):(clr pl hd x).2.getD pl 0=0:=by
 unfold clr;split
 · assumption
 · show ((prt _ _ x.2 hd).map _).getD pl 0=0
   rw [n6_,n5_];unfold prt;rw [n24_]
   by_cases hp:pl < x.2.length
   · rw [n0_ hp,n0_ (by omega)];rw [n6_,n6_,n0_ hp,n0_ (by omega)];simp only [Option.getD_some,Option.map_some];rw [show hd[pl] * x.2[pl] - x.2[pl] * hd[pl]=0 by rw [n55_]; omega];exact Int.zero_fdiv _
   · rw [n94_ (by omega)]; rfl
structure Ech (lines:List (List Int)) (n i:Nat) (S:Stt):Prop where
 len:∀ x∈S.1,x.2.length=n+1
 zl:∀ x∈S.2,∀ p,p < i→x.2.getD p 0=0
 st:∀ x∈S.1,x.1 < i∧x.2.getD x.1 0≠0∧∀ p,p < x.1→x.2.getD p 0=0
 asc:(S.1.map Prod.fst).Pairwise (· < ·)
 pv:∃ pv:List (List Int),pv.length=S.1.length∧(∀ r∈pv,r∈lines)∧(∀ z,(∀ r∈pv,ort z r)→∀ x∈S.1,ort z x.2)∧∀ x∈S.2,∃ o∈lines,∀ z,(∀ r∈pv,ort z r)→ort z o→ort z x.2
 mixL:∀ x∈S.2,∃ c:List Rat,c.length=lines.length∧∀ z,dotQ x.2 z=(List.zipWith (fun (a:Rat) l=>a * dotQ l z) c lines).sum
theorem Zmo (α β:Rat) (z:List Rat):∀ (c d:List Rat) (lines:List (List Int)),c.length=lines.length→d.length=lines.length →
 (List.zipWith (fun (a:Rat) l=>a * dotQ l z) (List.zipWith (fun x y=>α * x+β * y) c d) lines).sum=α * (List.zipWith (fun (a:Rat) l=>a * dotQ l z) c lines).sum+β * (List.zipWith (fun (a:Rat) l=>a * dotQ l z) d lines).sum
 | [],[],[],_,_=>by simp; grind
 | [],_ :: _,[],_,h=>by cases h
 | _ :: _,_,[],h,_=>by cases h
 | [],_,_ :: _,h,_=>by cases h
 | _ :: _,[],_ :: _,_,h=>by cases h
 | a :: c,b :: d,l :: ls,h1,h2=>by
   have ih:=Zmo α β z c d ls (Nat.succ.inj h1) (Nat.succ.inj h2);simp only [n51_,n57_];rw [ih]
   grind
theorem Zij (z:List Rat):∀ (lines:List (List Int)) (i:Nat) (h:i < lines.length),(List.zipWith (fun (a:Rat) l=>a * dotQ l z) ((List.replicate lines.length (0:Rat)).set i 1) lines).sum=dotQ lines[i] z
 | [],i,h=>by cases h
 | l :: ls,0,_=>by
   rw [n23_,n52_,List.set_cons_zero,n51_,n57_]
   have:∀ ls:List (List Int),(List.zipWith (fun (a:Rat) l=>a * dotQ l z) (List.replicate ls.length (0:Rat)) ls).sum=0:=fun ls=>by
    induction ls with
    | nil=>rfl
    | cons l ls ih=>rw [n23_,n52_,n51_,n57_,ih]; grind
   rw [this,List.getElem_cons_zero]; grind
 | l :: ls,i+1,h=>by
   have ih:=Zij z ls i (Nat.lt_of_succ_lt_succ h);rw [n23_,n52_,List.set_cons_succ,n51_,n57_,ih,List.getElem_cons_succ]; grind
theorem ech {lines:List (List Int)} {n:Nat} (ok:∀ i,i≤n→∀ x∈(stp lines i).2,x.1≠0∧x.2.length=n+1):∀ i,i≤n→Ech lines n i (stp lines i)
 | 0,_=>by
   have mem:∀ x∈(stp lines 0).2,∃ l∈lines,x=(1,l):=fun x hx=>by
    change x∈lines.map _ at hx;obtain ⟨l,hl,rfl⟩:=n22_.mp hx;exact ⟨l,hl,rfl⟩
   refine ⟨fun x hx=>(nomatch hx),fun x hx p hp=>by omega,fun x hx=>(nomatch hx),.nil,⟨[],rfl,fun r hr=>(nomatch hr),fun z _ x hx=>(nomatch hx),fun x hx=>?_⟩,fun x hx=>?_⟩
   · obtain ⟨l,hl,rfl⟩:=mem x hx;exact ⟨l,hl,fun z _ h=>h⟩
   · obtain ⟨l,hl,rfl⟩:=mem x hx;obtain ⟨k,hk,rfl⟩:=n45_ hl;exact ⟨(List.replicate lines.length (0:Rat)).set k 1,by simp,fun z=>(Zij z lines k hk).symm⟩
 | i+1,hi=>by
   have ih:=ech ok i (by omega);have OK:=ok i (by omega);cases e:X0 (stp lines i).2 i with
   | none =>
     have hn:=Zih e;rw [Za7 e];refine ⟨ih.len,fun x hx p hp=>?_,fun x hx=>⟨by have:=(ih.st x hx).1; omega,(ih.st x hx).2⟩,ih.asc,ih.pv,ih.mixL⟩
     by_cases hpi:p < i
     · exact ih.zl x hx p hpi
     · have:p=i:=by omega
       rw [this]; exact hn x hx
   | some a =>
     obtain ⟨ha,hz⟩:=Zah e;rw [Zby e];have gd:(stp lines i).2.getD a (0,[])=(stp lines i).2[a]:=by rw [n6_,n0_ ha]; rfl
     rw [gd] at hz ⊢;have hm:=n36_ ha;generalize hS:stp lines i=S at *;generalize S.2[a]=hd at *;have hh:=OK hd hm;have er:∀ y∈S.2.eraseIdx a,y∈S.2:=fun y hy=>List.mem_of_mem_eraseIdx hy;refine ⟨fun x hx=>?_,fun x hx p hp=>?_,fun x hx=>?_,?_,?_,fun x hx=>?_⟩
     · rcases n29_.mp hx with hx | hx
       · exact ih.len x hx
       · rw [n13_.mp hx]; exact hh.2
     · obtain ⟨y,hy,rfl⟩:=n22_.mp hx;have hy':=OK y (er y hy)
       by_cases hpi:p < i
       · exact Zna hy'.1 (by rw [hy'.2,hh.2]) (ih.zl y (er y hy) p hpi) (ih.zl hd hm p hpi)
       · have:p=i:=by omega
         rw [this]; exact Zpk hy'.1 (by rw [hy'.2,hh.2])
     · rcases n29_.mp hx with hx | hx
       · exact ⟨by have:=(ih.st x hx).1; omega,(ih.st x hx).2⟩
       · rw [n13_.mp hx]; exact ⟨Nat.lt_succ_self i,hz,fun p hp=>ih.zl hd hm p hp⟩
     · show ((S.1++[(i,hd.2)]).map Prod.fst).Pairwise _
       rw [List.map_append,List.pairwise_append];refine ⟨ih.asc,List.pairwise_singleton _ _,fun p hp q hq=>?_⟩;obtain ⟨x,hx,rfl⟩:=n22_.mp hp;rw [n13_.mp hq];exact (ih.st x hx).1
     · obtain ⟨pv,l1,l2,l3,l4⟩:=ih.pv;obtain ⟨o,ho,hoz⟩:=l4 hd hm;refine ⟨pv++[o],by simp [l1],fun r hr=>?_,fun z hz' x hx=>?_,fun x hx=>?_⟩
       · rcases n29_.mp hr with hr | hr
         · exact l2 r hr
         · rw [n13_.mp hr]; exact ho
       · have z1:∀ r∈pv,ort z r:=fun r hr=>hz' r (List.mem_append_left _ hr)
         rcases n29_.mp hx with hx | hx
         · exact l3 z z1 x hx
         · rw [n13_.mp hx];exact hoz z z1 (hz' o (n35_ _ n7_))
       · obtain ⟨y,hy,rfl⟩:=n22_.mp hx;obtain ⟨oy,hoy,hyz⟩:=l4 y (er y hy);refine ⟨oy,hoy,fun z hz' hzo=>?_⟩;have z1:∀ r∈pv,ort z r:=fun r hr=>hz' r (List.mem_append_left _ hr);have y1:=hyz z z1 hzo;have h1:=hoz z z1 (hz' o (n35_ _ n7_));obtain ⟨α,β,γ,g0,mx⟩:=Zlg (pl:=i) (hd:=hd.2) (OK y (er y hy)).1 (by rw [(OK y (er y hy)).2,hh.2]);have m:=mx z;unfold ort at y1 h1 ⊢;rw [y1,h1] at m
         grind
     · obtain ⟨y,hy,rfl⟩:=n22_.mp hx;obtain ⟨c,lc,hc⟩:=ih.mixL y (er y hy);obtain ⟨d,ld,hd'⟩:=ih.mixL hd hm;obtain ⟨α,β,γ,g0,mx⟩:=Zlg (pl:=i) (hd:=hd.2) (OK y (er y hy)).1 (by rw [(OK y (er y hy)).2,hh.2]);refine ⟨List.zipWith (fun x y=>(α / γ) * x+(β / γ) * y) c d,by rw [n33_,lc,ld]; exact n88_ _,fun z=>?_⟩;rw [Zmo _ _ z c d lines lc ld,← hc,← hd'];have m:=mx z;generalize dotQ (clr i hd.2 y).2 z=A at *;generalize dotQ y.2 z=B at *;generalize dotQ hd.2 z=C at *
       grind
end L2
namespace L2
theorem Zan {a:Int} {l:List Int} (h:l≠[]):(a :: l).getLastD 0=l.getLastD 0:=by
 cases l with
 | nil=>exact absurd rfl h
 | cons b l=>rfl
theorem Zlv {D:Rat}:∀ (v Y:List Rat) (l:List Int),l.length=v.length+1→Y.length=v.length→(∀ q,q < v.length→v.getD q 0=D * Y.getD q 0)→dotQ l (v++[-D])=D * sumT (l.zip Y) - D * (l.getLastD 0:Int)
 | [],[],[a],_,_,_=>by
   rw [List.nil_append,Zu,Xg];show (a:Rat) * -D+0=D * 0 - D * (a:Rat)
   grind
 | [],[],[],h,_,_=>by cases h
 | [],[],_ :: _ :: _,h,_,_=>by cases h
 | [],_ :: _,_,_,h,_=>by cases h
 | _ :: _,[],_,_,h,_=>by cases h
 | _ :: _,_ :: _,[],h,_,_=>by cases h
 | b :: v,c :: Y,a :: l,h1,h2,h3=>by
   have ih:=Zlv (D:=D) v Y l (Nat.succ.inj h1) (Nat.succ.inj h2) fun q hq=>h3 (q+1) (Nat.succ_lt_succ hq);have h0:b=D * c:=h3 0 (Nat.succ_pos _);have ln:l≠[]:=fun z=>by rw [z] at h1; simp at h1
   rw [n80_,Zu,ih,Zan ln,h0];show _=D * sumT ((a,c) :: l.zip Y) - _
   unfold sumT;rw [n69_,n57_];generalize (List.map (fun p:Int×Rat=>(p.1:Rat) * p.2) (l.zip Y)).sum=S
   grind
theorem Zip {D:Rat}:∀ (pl:Nat) (line:List Int) (w X:List Rat),line.length=w.length+1→X.length=w.length→pl < w.length→(∀ q,q < pl→line.getD q 0=0)→(∀ q,pl < q→q < w.length→w.getD q 0=D * X.getD q 0) →
 dotQ line (w++[-D])=(line.getD pl 0:Int) * w.getD pl 0+D * sumT ((line.drop (pl+1)).zip (X.drop (pl+1))) - D * (line.getLastD 0:Int)
 | _,[],_,_,h,_,_,_,_=>by cases h
 | _,_ :: _,[],_,_,_,h,_,_=>by cases h
 | _,_ :: _,_ :: _,[],_,h,_,_,_=>by cases h
 | 0,a :: l,b :: v,c :: Y,h1,h2,_,_,h5=>by
   have ih:=Zlv (D:=D) v Y l (Nat.succ.inj h1) (Nat.succ.inj h2) fun q hq=>h5 (q+1) (Nat.succ_pos _) (Nat.succ_lt_succ hq);have ln:l≠[]:=fun z=>by rw [z] at h1; simp at h1
   rw [n80_,Zu,ih,Zan ln];show _=(a:Rat) * b+D * sumT (l.zip Y) - _
   grind
 | pl+1,a :: l,b :: v,c :: Y,h1,h2,h3,h4,h5=>by
   have ih:=Zip (D:=D) pl l v Y (Nat.succ.inj h1) (Nat.succ.inj h2) (Nat.lt_of_succ_lt_succ h3) (fun q hq=>h4 (q+1) (Nat.succ_lt_succ hq)) fun q q1 q2=>h5 (q+1) (Nat.succ_lt_succ q1) (Nat.succ_lt_succ q2);have h0:a=0:=h4 0 (Nat.succ_pos _);have ln:l≠[]:=fun z=>by rw [z] at h1; simp at h1
   rw [n80_,Zu,ih,Zan ln,h0];show ((0:Int):Rat) * b+_=(l.getD pl 0:Int) * v.getD pl 0+D * sumT ((l.drop (pl+1)).zip (Y.drop (pl+1))) - _
   have:((0:Int):Rat)=0:=rfl
   rw [this]
   grind
theorem Zfc (L:List (Nat×List Int)) (xs:List Rat):(fil L xs).length=xs.length:=by
 induction L with
 | nil=>rfl
 | cons x L ih=>show ((fil L xs).set _ _).length=_; rw [n68_,ih]
theorem Ze4 {xs:List Rat} {i j:Nat} {v:Rat} (h:i < xs.length):(xs.set i v).getD j 0=if i=j then v else xs.getD j 0:=by
 rw [n6_,List.getElem?_set];split
 · rename_i e; subst e; first | rfl | (rw [if_pos h]; rfl)
 · rw [n6_]
theorem Zio {n:Nat} {T:List Nat} {w:List Rat} {D:Rat} (hw:w.length=n):∀ (L:List (Nat×List Int)),(L.map Prod.fst).Pairwise (· < ·)→(∀ x∈L,x.1 < n∧x.2.length=n+1∧x.2.getD x.1 0≠0∧∀ p,p < x.1→x.2.getD p 0=0)→(∀ x∈L,ort (w++[-D]) x.2)→(∀ p∈T,p∉L.map Prod.fst→∀ x∈L,p < x.1)→(∀ p,p < n→p∉T→w.getD p 0=0) →
 ∀ p,p < n→(p∈L.map Prod.fst∨p∉T)→w.getD p 0=D * (fil L (List.replicate n 0)).getD p 0
 | [],_,_,_,_,h0,p,hp,h=>by
   rcases h with h | h
   · cases h
   · rw [h0 p hp h];show 0=D * (List.replicate n (0:Rat)).getD p 0
     rw [n6_,n58_,if_pos hp];show 0=D * 0
     grind
 | x :: L,asc,st,or,below,h0,p,hp,h=>by
   have asc':x.1 :: L.map Prod.fst=(x :: L).map Prod.fst:=rfl;rw [← asc',List.pairwise_cons] at asc;have hx:=st x n7_
   have ih:=Zio hw L asc.2 (fun y hy=>st y (n8_ _ hy)) (fun y hy=>or y (n8_ _ hy)) (fun p hp hn y hy=>by
    by_cases e:p=x.1
    · rw [e]; exact asc.1 y.1 (List.mem_map_of_mem hy)
    · exact below p hp (fun z=>by
       rcases n31_.mp z with z | z
       · exact e z
       · exact hn z) y (n8_ _ hy)) h0
   have fl:(fil L (List.replicate n 0)).length=n:=by rw [Zfc,n18_]
   show w.getD p 0=D * ((fil L (List.replicate n 0)).set x.1 (putQ x.1 x.2 (fil L (List.replicate n 0)))).getD p 0
   rw [Ze4 (by rw [fl]; exact hx.1)];split
   · rename_i e
     subst e
     have dt:=Zip (D:=D) x.1 x.2 w (fil L (List.replicate n 0)) (by rw [hw]; exact hx.2.1) (by rw [fl,hw]) (by rw [hw]; exact hx.1) hx.2.2.2 (fun q q1 q2=>by
      refine ih q (by omega) ?_
      by_cases hq:q∈T
      · left
        by_cases hq2:q∈L.map Prod.fst
        · exact hq2
        · exfalso
          have:=below q hq (fun z=>by
           rcases n31_.mp z with z | z
           · omega
           · exact hq2 z) x n7_
          omega
      · right; exact hq)
     have o:=or x n7_;unfold ort at o;rw [o] at dt;unfold putQ;have nz:=Z8 hx.2.2.1;generalize ((x.2.getD x.1 0:Int):Rat)=c at *;generalize ((x.2.getLastD 0:Int):Rat)=d at *;generalize sumT _=S at *;generalize w.getD x.1 0=W at *
     grind
   · rename_i e
     refine ih p hp ?_
     rcases h with h | h
     · rcases n31_.mp h with h | h
       · exact absurd h.symm e
       · exact .inl h
     · exact .inr h
def putA (ps:List Nat) (xs:List Int) (z:List Rat):List Rat:=match ps,xs with
 | p :: ps,x :: xs=>(putA ps xs z).set p (x:Rat)
 | _,_=>z
theorem X1:∀ (ps:List Nat) (xs:List Int) (z:List Rat),(putA ps xs z).length=z.length
 | [],_,_=>rfl
 | _ :: _,[],_=>rfl
 | p :: ps,x :: xs,z=>by show ((putA ps xs z).set _ _).length=_; rw [n68_,X1]
theorem Zc8 {z:List Rat} {q:Nat}:∀ (ps:List Nat) (xs:List Int),(∀ p∈ps,p < z.length)→q∉ps→(putA ps xs z).getD q 0=z.getD q 0
 | [],_,_,_=>rfl
 | _ :: _,[],_,_=>rfl
 | p :: ps,x :: xs,h,hq=>by
   show ((putA ps xs z).set p (x:Rat)).getD q 0=_
   rw [Ze4 (by rw [X1]; exact h p n7_),if_neg fun e=>hq (by rw [e]; exact n7_)];exact Zc8 ps xs (fun p hp=>h p (n8_ _ hp)) fun z=>hq (n8_ _ z)
theorem Zkq {z:List Rat}:∀ (ps:List Nat) (xs:List Int),(∀ p∈ps,p < z.length)→ps.Pairwise (· < ·)→xs.length=ps.length→∀ (k:Nat) (p:Nat) (x:Int),ps[k]? = some p→xs[k]? = some x→(putA ps xs z).getD p 0=(x:Rat)
 | [],_,_,_,_,k,p,x,h,_=>by simp at h
 | _ :: _,[],_,_,h,_,_,_,_,_=>by cases h
 | p0 :: ps,x0 :: xs,h,asc,hl,k,p,x,e1,e2=>by
   show ((putA ps xs z).set p0 (x0:Rat)).getD p 0=_
   rw [Ze4 (by rw [X1]; exact h p0 n7_)];rw [List.pairwise_cons] at asc
   match k,e1,e2 with
   | 0,e1,e2=>cases e1; cases e2; rw [if_pos rfl]
   | k+1,e1,e2 =>
     have m:p∈ps:=n1_ (by simpa using e1);rw [if_neg (by have:=asc.1 p m; omega)];exact Zkq ps xs (fun p hp=>h p (n8_ _ hp)) asc.2 (Nat.succ.inj hl) k p x (by simpa using e1) (by simpa using e2)
theorem Zje:∀ (l:List Int) (z:List Rat) (p:Nat) (x:Rat),p < z.length→z.length≤l.length→dotQ l (z.set p x)=dotQ l z+(l.getD p 0:Int) * (x - z.getD p 0)
 | [],[],_,_,h,_=>by cases h
 | [],_ :: _,_,_,_,h=>by cases h
 | a :: l,[],_,_,h,_=>by cases h
 | a :: l,b :: z,0,x,_,_=>by
   rw [List.set_cons_zero,Zu,Zu];show _=_+(a:Rat) * (x - b)
   grind
 | a :: l,b :: z,p+1,x,h1,h2=>by
   have ih:=Zje l z p x (Nat.lt_of_succ_lt_succ h1) (Nat.le_of_succ_le_succ h2);rw [List.set_cons_succ,Zu,Zu,ih];show _=_+(l.getD p 0:Int) * (x - z.getD p 0)
   grind
theorem Zev:∀ (l:List Int) (n:Nat),dotQ l (List.replicate n 0)=0
 | [],_=>Xg
 | _ :: _,0=>Yo
 | a :: l,n+1=>by rw [n52_,Zu,Zev l n]; grind
theorem Zge {l:List Int} {n:Nat} (hl:n≤l.length):∀ (ps:List Nat) (xs:List Int),(∀ p∈ps,p < n)→ps.Pairwise (· < ·)→xs.length=ps.length→dotQ l (putA ps xs (List.replicate n 0))=((dotI (ps.map fun p=>l.getD p 0) xs:Int):Rat)
 | [],[],_,_,_=>by show dotQ l (List.replicate n 0)=((0:Int):Rat); rw [Zev]; rfl
 | [],_ :: _,_,_,h=>by cases h
 | _ :: _,[],_,_,h=>by cases h
 | p :: ps,x :: xs,h,asc,hl'=>by
   rw [List.pairwise_cons] at asc;have ih:=Zge hl ps xs (fun p hp=>h p (n8_ _ hp)) asc.2 (Nat.succ.inj hl');have hp:=h p n7_;show dotQ l ((putA ps xs (List.replicate n 0)).set p (x:Rat))=_
   rw [Zje _ _ _ _ (by rw [X1,n18_]; exact hp) (by rw [X1,n18_]; exact hl),ih,Zc8 ps xs (fun p hp=>by rw [n18_]; exact h p (n8_ _ hp)) fun z=>by have:=asc.1 p z; omega];have z0:(List.replicate n (0:Rat)).getD p 0=0:=by rw [n6_,n58_,if_pos hp]; rfl
   rw [z0];show _=((l.getD p 0 * x+dotI (ps.map fun p=>l.getD p 0) xs:Int):Rat)
   rw [Rat.intCast_add,n15_]
   grind
theorem Zc6:∀ (l:List Int) (z:List Rat) (c:Rat),l.length=z.length+1→dotQ l (z++[c])=dotQ l z+(l.getD z.length 0:Int) * c
 | [],_,_,h=>by cases h
 | [a],[],c,_=>by rw [List.nil_append,Zu,Xg,Yo]; show (a:Rat) * c+0=0+(a:Rat) * c; grind
 | _ :: _ :: _,[],_,h=>by cases h
 | a :: l,b :: z,c,h=>by
   have ih:=Zc6 l z c (Nat.succ.inj h);rw [n80_,Zu,Zu,ih];show _=_+(l.getD z.length 0:Int) * c
   grind
theorem Zg3 {x:Rat} {P Z:Int} (hP:P≠0) (h:x * (P:Rat)=(Z:Rat)):(x.den:Int) ∣ P∧x.num.natAbs≤Z.natAbs:=by
 have e:=Zbm x;have hd:=Zdp x
 have q:x.num * P=Z * x.den:=by
  have:((x.num * P:Int):Rat)=((Z * x.den:Int):Rat):=by
   rw [n15_,n15_,← h];have hd2:((x.den:Int):Rat)=(x.den:Rat):=by first | rfl | exact n91_ _
   rw [hd2];have key:∀ y n dd p:Rat,dd≠0→y=n / dd→n * p=y * p * dd:=fun y n dd p h1 h2=>by rw [h2]; grind
   exact key _ _ _ _ hd e
  exact_mod_cast this
 have c:=FM.gcd_one x
 have dv:(x.den:Int) ∣ P:=by
  have h1:(x.den:Int) ∣ x.num * P:=⟨Z,by rw [q,n55_]⟩
  have h2:x.den ∣ x.num.natAbs * P.natAbs:=by
   have:=n95_.mpr h1
   rwa [n27_] at this
  have h3:Nat.Coprime x.den x.num.natAbs:=by
   have:Nat.gcd x.num.natAbs x.den=1:=c
   rw [Nat.gcd_comm] at this; exact this
  exact Int.ofNat_dvd_left.mpr (h3.dvd_of_dvd_mul_left h2)
 refine ⟨dv,?_⟩;obtain ⟨k,rfl⟩:=dv;have k0:k≠0:=fun z=>hP (by rw [z,Int.mul_zero])
 have q2:Z=x.num * k:=by
  have:(x.den:Int) * Z=(x.den:Int) * (x.num * k):=by rw [n55_ _ Z,← q]; grind
  exact Int.eq_of_mul_eq_mul_left (FM.den_ne x) this
 rw [q2,n27_];exact Nat.le_mul_of_pos_right _ (by omega)
theorem Zl6 {lines:List (List Int)} {n M:Nat} (ok:∀ i,i≤n→∀ x∈(stp lines i).2,x.1≠0∧x.2.length=n+1) (hl:∀ l∈lines,l.length=n+1) (hM:∀ l∈lines,∀ x∈l,x.natAbs≤M) :
 ∃ D:Int,D≠0∧D.natAbs≤(2 * ((stp lines n).1.length+1) * M+1) ^ (stp lines n).1.length∧∀ x∈fil (stp lines n).1 (List.replicate n 0),∃ Z:Int,x * (D:Rat)=(Z:Rat)∧Z.natAbs≤(2 * ((stp lines n).1.length+1) * M+1) ^ (stp lines n).1.length:=by
 have E:=ech ok n (n9_ _);generalize stp lines n=S at *;obtain ⟨pv,l1,l2,l3,_⟩:=E.pv
 have T1:∀ p∈S.1.map Prod.fst,p < n:=fun p hp=>by
  obtain ⟨x,hx,rfl⟩:=n22_.mp hp;exact (E.st x hx).1
 obtain ⟨v,lv,⟨x0,hx0,x0z⟩,vb,vr⟩:=Zp7 (M:=M) (s:=S.1.length) (pv.map fun r=>(S.1.map Prod.fst).map (fun p=>r.getD p 0)++[r.getD n 0]) (by rw [n2_,l1]) (fun r hr x hx=>by
  obtain ⟨r',hr',rfl⟩:=n22_.mp hr
  have gd:∀ p,p < n+1→(r'.getD p 0).natAbs≤M:=fun p hp=>by
   rw [n6_,n0_ (by rw [hl r' (l2 r' hr')]; exact hp)];exact hM r' (l2 r' hr') _ (n36_ _)
  rcases n29_.mp hx with hx | hx
  · obtain ⟨p,hp,rfl⟩:=n22_.mp hx;exact gd p (by have:=T1 p hp; omega)
  · rw [n13_.mp hx]; exact gd n (by omega))
 have vn:v≠[]:=fun z=>by rw [z] at lv; cases lv
 obtain ⟨X,d,rfl⟩:∃ X d,v=X++[d]:=⟨v.dropLast,v.getLast vn,(List.dropLast_concat_getLast vn).symm⟩;have lX:X.length=S.1.length:=by rw [n26_] at lv; exact Nat.succ.inj lv
 have W:∀ r∈pv,ort (putA (S.1.map Prod.fst) X (List.replicate n 0)++[-((-d:Int):Rat)]) r:=fun r hr=>by
  have q:=vr _ (List.mem_map_of_mem hr);have lr:=hl r (l2 r hr);unfold ort;rw [Zc6 _ _ _ (by rw [X1,n18_]; exact lr),Zge (by omega) _ _ T1 E.asc (by rw [lX,n2_]),X1,n18_]
  have sp:dotI ((S.1.map Prod.fst).map (fun p=>r.getD p 0)++[r.getD n 0]) (X++[d])=dotI ((S.1.map Prod.fst).map fun p=>r.getD p 0) X+r.getD n 0 * d:=by
   unfold dotI;rw [List.zipWith_append (by rw [n2_,n2_,lX]),List.sum_append];show _+(r.getD n 0 * d+0)=_
   rw [Int.add_zero]
  rw [sp] at q;have q':((dotI ((S.1.map Prod.fst).map fun p=>r.getD p 0) X+r.getD n 0 * d:Int):Rat)=0:=by rw [q]; rfl
  rw [Rat.intCast_add,n15_] at q';rw [Rat.intCast_neg];generalize ((dotI ((S.1.map Prod.fst).map fun p=>r.getD p 0) X:Int):Rat)=A at *;generalize ((r.getD n 0:Int):Rat)=B at *;generalize (d:Rat)=C at *
  grind
 have lw:(putA (S.1.map Prod.fst) X (List.replicate n 0)).length=n:=by rw [X1,n18_]
 have U:=Zio (n:=n) (T:=S.1.map Prod.fst) (w:=putA (S.1.map Prod.fst) X (List.replicate n 0)) (D:=((-d:Int):Rat)) lw S.1 E.asc (fun x hx=>⟨(E.st x hx).1,E.len x hx,(E.st x hx).2.1,(E.st x hx).2.2⟩) (fun x hx=>l3 _ W x hx) (fun p hp hn=>absurd hp hn) (fun p hp hT=>by
  rw [Zc8 _ _ (fun q hq=>by rw [n18_]; exact T1 q hq) hT,n6_,n58_,if_pos hp]; rfl)
 have U':∀ p,p < n→(putA (S.1.map Prod.fst) X (List.replicate n 0)).getD p 0=((-d:Int):Rat) * (fil S.1 (List.replicate n 0)).getD p 0:=fun p hp=>U p hp (by
  by_cases h:p∈S.1.map Prod.fst
  · exact .inl h
  · exact .inr h)
 have inn:∀ (k:Nat) (p:Nat) (x:Int),(S.1.map Prod.fst)[k]? = some p→X[k]? = some x→(putA (S.1.map Prod.fst) X (List.replicate n 0)).getD p 0=(x:Rat):=Zkq _ _ (fun q hq=>by rw [n18_]; exact T1 q hq) E.asc (by rw [lX,n2_])
 have dz:d≠0:=fun z=>by
  have:∀ x∈X,x=0:=fun x hx=>by
   obtain ⟨k,hk⟩:=n60_.mp hx;have hk':k < (S.1.map Prod.fst).length:=by rw [n2_,← lX]; exact (n34_.mp hk).1
   have e:=inn k _ x (n0_ hk') hk;rw [U' _ (T1 _ (n36_ hk')),z] at e;have z0:((-0:Int):Rat)=0:=rfl;rw [z0,Rat.zero_mul] at e
   exact_mod_cast e.symm
  rcases n29_.mp hx0 with h | h
  · exact x0z (this x0 h)
  · rw [n13_.mp h] at x0z; exact x0z z
 refine ⟨-d,by omega,by rw [Int.natAbs_neg]; exact vb d (n35_ _ n7_),fun x hx=>?_⟩;obtain ⟨p,hp,rfl⟩:=n45_ hx;have hp':p < n:=by rw [Zfc,n18_] at hp; exact hp
 have u:=U' p hp';have gx:(fil S.1 (List.replicate n 0)).getD p 0=(fil S.1 (List.replicate n 0))[p]:=by rw [n6_,n0_ hp]; rfl
 rw [gx] at u
 obtain ⟨Z,eZ,bZ⟩:∃ Z:Int,(putA (S.1.map Prod.fst) X (List.replicate n 0)).getD p 0=(Z:Rat)∧Z.natAbs≤(2 * (S.1.length+1) * M+1) ^ S.1.length:=by
  by_cases h:p∈S.1.map Prod.fst
  · obtain ⟨k,hk⟩:=n60_.mp h;have hk':k < X.length:=by rw [lX]; have:=(n34_.mp hk).1; rwa [n2_] at this
    exact ⟨X[k],inn k p _ hk (n0_ hk'),vb _ (List.mem_append_left _ (n36_ hk'))⟩
  · refine ⟨0,?_,n56_ _⟩;rw [Zc8 _ _ (fun q hq=>by rw [n18_]; exact T1 q hq) h,n6_,n58_,if_pos hp']; rfl
 rw [eZ] at u;exact ⟨Z,by rw [Rat.mul_comm]; exact u.symm,bZ⟩
end L2
namespace L2
def rdot (a b:List Rat):Rat:=(List.zipWith (· * ·) a b).sum
theorem Yd {a b:Rat} {x y:List Rat}:rdot (a :: x) (b :: y)=a * b+rdot x y:=by unfold rdot; rw [n51_,n57_]
theorem Yy {y:List Rat}:rdot [] y=0:=by unfold rdot; rfl
theorem Xi {x:List Rat}:rdot x []=0:=by unfold rdot; cases x <;> rfl
def lam (qs:List Rat):Rat:=((scl qs).1:Rat) / ((scl qs).2:Rat)
theorem Zo7 (qs:List Rat):0 < (scl qs).1∧0 < (scl qs).2:=by
 unfold scl;split
 · exact ⟨(by decide:(0:Int) < 1),(by decide:(0:Int) < 1)⟩
 · rename_i h
   exact ⟨(Y9 _ (Y3 qs)).1,by show (0:Int) < (gl 0 (tops qs):Int); omega⟩
theorem Zn4 (qs:List Rat):lam qs≠0:=by
 obtain ⟨h1,h2⟩:=Zo7 qs;have n1:=Z8 (show (scl qs).1≠0 by omega);have n2:=Z8 (show (scl qs).2≠0 by omega);unfold lam;intro z;generalize ((scl qs).1:Rat)=a at *;generalize ((scl qs).2:Rat)=b at *
 have:a=a / b * b:=by grind
 rw [z,Rat.zero_mul] at this;exact n1 this
theorem Zoc {qs:List Rat} {q:Rat} (h:q∈qs):((q.num.fdiv (scl qs).2 * (scl qs).1.fdiv q.den:Int):Rat)=lam qs * q:=by
 by_cases hz:gl 0 (tops qs)=0
 · have n0:q.num=0:=Znp.mp hz _ (n22_.mpr ⟨q,h,rfl⟩);have q0:q=0:=Rat.num_eq_zero.mp n0;rw [n0,Int.zero_fdiv,Int.zero_mul,q0];show (0:Rat)=lam qs * 0
   grind
 · have e:scl qs=(lcmL (bots qs),(gl 0 (tops qs):Int)):=by unfold scl; rw [if_neg hz]
   unfold lam;rw [e];obtain ⟨k,hk⟩:=(Zmj 0 (tops qs)).2 q.num (n22_.mpr ⟨q,h,rfl⟩);obtain ⟨j,hj⟩:=Ze7 h;have gz:((gl 0 (tops qs):Nat):Int)≠0:=by omega
   show ((q.num.fdiv ((gl 0 (tops qs):Nat):Int) * (lcmL (bots qs)).fdiv q.den:Int):Rat)=((lcmL (bots qs):Int):Rat) / (((gl 0 (tops qs):Nat):Int):Rat) * q
   have e1:q.num.fdiv ((gl 0 (tops qs):Nat):Int)=k:=by rw [hk]; exact Yw gz
   have e2:(lcmL (bots qs)).fdiv q.den=j:=by rw [hj]; exact Yw (FM.den_ne q)
   rw [e1,e2];have hd:=Zdp q;have en:=Zbm q;have g0:=Z8 gz;have hd2:((q.den:Int):Rat)=(q.den:Rat):=by first | rfl | exact n91_ _
   have n1:(q.num:Rat)=(((gl 0 (tops qs):Nat):Int):Rat) * (k:Rat):=by rw [← n15_,← hk]
   have l1:((lcmL (bots qs):Int):Rat)=(q.den:Rat) * (j:Rat):=by rw [← hd2,← n15_,← hj]
   rw [l1,n15_];rw [n1] at en;generalize (q.den:Rat)=dd at *;generalize ((((gl 0 (tops qs):Nat):Int)):Rat)=G at *;generalize (k:Rat)=k' at *;generalize (j:Rat)=j' at *;rw [en]
   grind
theorem Zom (Q:List Rat):∀ (qs z:List Rat),(∀ q∈qs,q∈Q)→dotQ (qs.map fun q=>q.num.fdiv (scl Q).2 * (scl Q).1.fdiv q.den) z=lam Q * rdot qs z
 | [],z,_=>by rw [List.map_nil,Xg,Yy]; grind
 | _ :: _,[],_=>by rw [Yo,Xi]; grind
 | q :: qs,b :: z,h=>by
   have ih:=Zom Q qs z fun x hx=>h x (n8_ _ hx);rw [n69_,Zu,Yd,ih,Zoc (h q n7_)]
   grind
theorem Zde (qs z:List Rat):dotQ (wh qs) z=lam qs * rdot qs z:=Zom qs qs z fun _ h=>h
theorem Ziw {rows:List (List Rat)} {rights:List Rat} {row:List Rat} {r:Rat}:mxd [(scl row).1] [r] (scl row).2=lam row * r:=by
 unfold mxd;rw [Zu,Xg];unfold lam;generalize ((scl row).1:Rat)=a;generalize ((scl row).2:Rat)=b
 grind
theorem Zis {row:List Rat} {t:Int} {z:List Rat} {ζ:Rat} (hl:z.length=row.length):dotQ (wh row++[t]) (z++[ζ])=lam row * rdot row z+(t:Rat) * ζ:=by
 rw [Zc6 _ _ _ (by rw [n26_,Zcj,hl]; rfl)]
 have e1:dotQ (wh row++[t]) z=dotQ (wh row) z:=by
  have:∀ (a:List Int) (z:List Rat) (t:Int),z.length=a.length→dotQ (a++[t]) z=dotQ a z:=fun a=>by
   induction a with
   | nil=>intro z t h; cases z with | nil=>rw [Yo,Yo] | cons _ _=>cases h
   | cons x a ih=>intro z t h; cases z with
     | nil=>cases h
     | cons b z=>rw [n80_,Zu,Zu,ih z t (Nat.succ.inj h)]
  exact this _ _ _ (by rw [hl,Zcj])
 have e2:(wh row++[t]).getD z.length 0=t:=by
  rw [n6_,n62_ (by rw [Zcj]; omega),Zcj,hl,Nat.sub_self]; rfl
 rw [e1,e2,Zde]
theorem Zgr {n:Nat} {L:Rat} {z:List Rat} {ζ:Rat} (hz:z.length=n):∀ (c:List Rat) (rows:List (List Rat)) (rs:List Rat) (ts:List Int),(∀ r∈rows,r.length=n)→rs.length=rows.length→ts.length=rows.length→(∀ (i:Nat) row r t,rows[i]? = some row→rs[i]? = some r→ts[i]? = some t→((t:Int):Rat)=lam row * r * L) →
 (List.zipWith (fun (a:Rat) l=>a * dotQ l (z++[ζ])) c (List.zipWith (fun row t=>wh row++[t]) rows ts)).sum=(List.zipWith (fun (y:Rat) row=>y * rdot row z) (List.zipWith (fun (a:Rat) row=>a * lam row) c rows) rows).sum+L * ζ * rdot (List.zipWith (fun (a:Rat) row=>a * lam row) c rows) rs
 | [],_,_,_,_,_,_,_=>by rw [n73_,n73_,n73_,Yy]; simp; grind
 | _ :: _,[],_,_,_,_,_,_=>by rw [n73_,n78_,n78_,n78_,Yy]; simp; grind
 | _ :: _,_ :: _,[],_,_,h,_,_=>by cases h
 | _ :: _,_ :: _,_ :: _,[],_,_,h,_=>by cases h
 | a :: c,row :: rows,r :: rs,t :: ts,h1,h2,h3,h4=>by
   have ih:=Zgr (L:=L) (ζ:=ζ) hz c rows rs ts (fun x hx=>h1 x (n8_ _ hx)) (Nat.succ.inj h2) (Nat.succ.inj h3) fun i row r t e1 e2 e3=>h4 (i+1) row r t (by simpa using e1) (by simpa using e2) (by simpa using e3);have t0:=h4 0 row r t rfl rfl rfl;simp only [n51_,n57_];rw [ih,Yd,Zis (by rw [hz,h1 row n7_]),t0];generalize (List.zipWith (fun (y:Rat) row=>y * rdot row z) (List.zipWith (fun (a:Rat) row=>a * lam row) c rows) rows).sum=S;generalize rdot (List.zipWith (fun (a:Rat) row=>a * lam row) c rows) rs=R;generalize lam row=l;generalize rdot row z=d
   grind
theorem Zgh:∀ (row:List Rat) (n p:Nat),row.length=n→p < n→rdot row ((List.replicate n (0:Rat)).set p 1)=row.getD p 0
 | [],n,p,h,hp=>by simp at h; omega
 | a :: row,0,p,h,_=>by cases h
 | a :: row,n+1,0,h,_=>by
   rw [n52_,List.set_cons_zero,Yd]
   have:∀ (r:List Rat) (n:Nat),rdot r (List.replicate n 0)=0:=fun r=>by
    induction r with
    | nil=>intro n; exact Yy
    | cons x r ih=>intro n; cases n with
      | zero=>exact Xi
      | succ n=>rw [n52_,Yd,ih n]; grind
   rw [this];show a * 1+0=a
   grind
 | a :: row,n+1,p+1,h,hp=>by
   rw [n52_,List.set_cons_succ,Yd,Zgh row n p (Nat.succ.inj h) (Nat.lt_of_succ_lt_succ hp)];show a * 0+row.getD p 0=row.getD p 0
   grind
theorem Zmi {n p:Nat} (hp:p < n):∀ (y:List Rat) (rows:List (List Rat)),(∀ r∈rows,r.length=n)→(List.zipWith (fun (y:Rat) row=>y * rdot row ((List.replicate n (0:Rat)).set p 1)) y rows).sum=rdot (rows.map fun r=>r.getD p 0) y
 | [],rows,_=>by rw [n73_,Xi]; rfl
 | _ :: _,[],_=>by rw [n78_,List.map_nil,Yy]; rfl
 | a :: y,r :: rows,h=>by
   rw [n51_,n57_,Zmi hp y rows fun x hx=>h x (n8_ _ hx),Zgh r n p (h r n7_) hp,n69_,Yd]
   grind
theorem Zjc {n:Nat}:∀ (y:List Rat) (rows:List (List Rat)),(List.zipWith (fun (y:Rat) row=>y * rdot row (List.replicate n (0:Rat))) y rows).sum=0
 | [],rows=>by rw [n73_]; rfl
 | _ :: _,[]=>by rw [n78_]; rfl
 | a :: y,r :: rows=>by
   have:∀ (r:List Rat) (n:Nat),rdot r (List.replicate n 0)=0:=fun r=>by
    induction r with
    | nil=>intro n; exact Yy
    | cons x r ih=>intro n; cases n with
      | zero=>exact Xi
      | succ n=>rw [n52_,Yd,ih n]; grind
   rw [n51_,n57_,Zjc y rows,this]; grind
theorem Zew (k:Rat):∀ (a b:List Rat),rdot a (b.map fun x=>x * k)=rdot a b * k
 | [],b=>by rw [Yy,Yy]; grind
 | _ :: _,[]=>by rw [List.map_nil,Xi]; grind
 | x :: a,y :: b=>by rw [n69_,Yd,Yd,Zew k a b]; grind
theorem X9:∀ (a b:List Rat),rdot a b=rdot b a
 | [],b=>by rw [Yy,Xi]
 | _ :: _,[]=>by rw [Yy,Xi]
 | x :: a,y :: b=>by rw [Yd,Yd,X9 a b]; grind
theorem Zml {rows:List (List Rat)} {rights:List Rat} (i:Nat) {row:List Rat} {r:Rat} {t:Int} (e1:rows[i]? = some row) (e2:rights[i]? = some r) (e3:(lvd (rtv rows rights))[i]? = some t):((t:Int):Rat)=lam row * r * ((lcmL (bots (rtv rows rights)):Int):Rat):=by
 have er:(rtv rows rights)[i]? = some (lam row * r):=by unfold rtv; rw [n24_,e1,e2]; exact congrArg some (Ziw (rows:=rows) (rights:=rights))
 unfold lvd at e3;rw [n5_,er] at e3;cases e3
 exact Zpu (n1_ er)
theorem Zf1 {n:Nat}:∀ (x:List Int) (z:List Rat) (ζ:Rat),x.length=n+1→z.length=n→(∀ p,p < n→x.getD p 0=0)→dotQ x (z++[ζ])=(x.getD n 0:Int) * ζ:=fun x z ζ h1 h2 h3=>by
 rw [Zc6 x z ζ (by rw [h1,h2]),h2]
 have:∀ (x:List Int) (z:List Rat),(∀ p,p < z.length→x.getD p 0=0)→dotQ x z=0:=fun x=>by
  induction x with
  | nil=>intro z _; exact Xg
  | cons a x ih=>intro z h; cases z with
    | nil=>exact Yo
    | cons b z =>
      have a0:a=0:=h 0 (Nat.succ_pos _);rw [Zu,ih z fun p hp=>h (p+1) (Nat.succ_lt_succ hp),a0]
      have:((0:Int):Rat)=0:=rfl
      rw [this]; grind
 rw [this x z (by rw [h2]; exact h3)]
 grind
theorem Zm8 {rows:List (List Rat)} {rights:List Rat} (hw:∀ r∈rows,r.length=wid rows) (hr:rights.length=rows.length)
 (ok1:∀ i,i≤wid rows→∀ x∈(stp (lns rows rights) i).2,x.1≠0∧x.2.length=wid rows+1)
 (ok2:∀ i,i≤rows.length→∀ x∈(stp (lns (cols rows (tkn rows rights)++[rights]) (List.replicate (tkn rows rights).length 0++[1])) i).2,x.1≠0∧x.2.length=rows.length+1)
 (hs:slv rows rights=none):∃ ys,mixM rows rights (tkn rows rights)=some ys:=by
 have lrt:(rtv rows rights).length=rows.length:=by unfold rtv; rw [n33_,hr]; exact n88_ _
 have llv:(lvd (rtv rows rights)).length=rows.length:=by unfold lvd; rw [n2_,lrt]
 have E:=ech ok1 (wid rows) (n9_ _)
 obtain ⟨x,hx,xn⟩:∃ x∈(stF rows rights).2,x.2.getD (wid rows) 0≠0:=by
  unfold slv at hs;split at hs
  · rename_i h
    obtain ⟨x,hx,h⟩:=List.any_eq_true.mp h;exact ⟨x,hx,by simpa using h⟩
  · cases hs
 obtain ⟨c,lc,hc⟩:=E.mixL x hx;have zl:=E.zl x hx;have xl:=(ok1 (wid rows) (n9_ _) x hx).2;have SL:=fun (z:List Rat) (ζ:Rat) (hz:z.length=wid rows)=>(hc (z++[ζ])).trans (Zgr (L:=((lcmL (bots (rtv rows rights)):Int):Rat)) (ζ:=ζ) hz c rows rights (lvd (rtv rows rights)) hw hr llv fun i row r t e1 e2 e3=>Zml i e1 e2 e3);obtain ⟨y,hy⟩:∃ y,y=List.zipWith (fun (a:Rat) row=>a * lam row) c rows:=⟨_,rfl⟩;rw [← hy] at SL
 have ly:y.length=rows.length:=by
  have:c.length=rows.length:=by rw [lc]; unfold lns; rw [n33_,llv]; exact n88_ _
  rw [hy,n33_,this]; exact n88_ _
 have ycol:∀ p,p < wid rows→rdot (rows.map fun r=>r.getD p 0) y=0:=fun p hp=>by
  have s:=SL ((List.replicate (wid rows) (0:Rat)).set p 1) 0 (by simp);rw [Zmi hp y rows hw,Zf1 x.2 _ 0 xl (by simp) zl] at s;generalize rdot (rows.map fun r=>r.getD p 0) y=A at *
  grind
 have yr:rdot y rights≠0:=fun z=>by
  have s:=SL (List.replicate (wid rows) (0:Rat)) 1 (by simp);rw [Zjc,Zf1 x.2 _ 1 xl (by simp) zl,z] at s
  have:((x.2.getD (wid rows) 0:Int):Rat)=0:=by
   generalize ((x.2.getD (wid rows) 0:Int):Rat)=A at *
   grind
  exact Z8 xn this
 obtain ⟨R,hR⟩:∃ R,R=cols rows (tkn rows rights)++[rights]:=⟨_,rfl⟩;obtain ⟨G,hG⟩:∃ G:List Rat,G=List.replicate (tkn rows rights).length 0++[1]:=⟨_,rfl⟩
 have tk:∀ p∈tkn rows rights,p < wid rows:=fun p hp=>by
  obtain ⟨s,hs',rfl⟩:=n22_.mp hp;exact (E.st s hs').1
 have lcs:(cols rows (tkn rows rights)).length=(tkn rows rights).length:=by unfold cols; rw [n2_]
 have Rl:∀ r∈R,r.length=rows.length:=fun r h=>by
  rw [hR] at h
  rcases n29_.mp h with h | h
  · obtain ⟨p,_,rfl⟩:=n22_.mp h;rw [n2_]
  · rw [n13_.mp h]; exact hr
 have GR:G.length=R.length:=by rw [hR,hG,n26_,n26_,lcs,n18_]; rfl
 have wR:wid R=rows.length:=by
  cases e:R with
  | nil=>rw [hR] at e; simp at e
  | cons r rs=>exact Rl r (by rw [e]; exact n7_)
 obtain ⟨y',hy'⟩:∃ y',y'=y.map fun v=>v * (rdot y rights)⁻¹:=⟨_,rfl⟩
 have sat:∀ (i:Nat) r g,R[i]? = some r→G[i]? = some g→rdot r y'=g:=fun i r g e1 e2=>by
  rw [hR] at e1;rw [hG] at e2;rw [hy',Zew]
  by_cases hi:i < (tkn rows rights).length
  · rw [n63_ (by rw [lcs]; exact hi)] at e1;rw [n63_ (by rw [n18_]; exact hi),n58_,if_pos hi] at e2;cases e2
    unfold cols at e1;rw [n5_,n0_ hi] at e1;cases e1
    rw [ycol _ (tk _ (n36_ hi))]; grind
  · rw [n62_ (by rw [lcs]; omega),lcs] at e1;rw [n62_ (by rw [n18_]; omega),n18_] at e2
    have i0:i - (tkn rows rights).length=0:=by
     cases z:i - (tkn rows rights).length with
     | zero=>rfl
     | succ z'=>rw [z] at e1; simp at e1
    rw [i0] at e1 e2;cases e1; cases e2
    rw [X9]
    grind
 rw [← hR,← hG] at ok2;have E2:=ech (lines:=lns R G) (n:=rows.length) ok2 rows.length (n9_ _);have lrt2:(rtv R G).length=R.length:=by unfold rtv; rw [n33_,GR]; exact n88_ _
 have llv2:(lvd (rtv R G)).length=R.length:=by unfold lvd; rw [n2_,lrt2]
 have ly':y'.length=rows.length:=by rw [hy',n2_,ly]
 have L0:((lcmL (bots (rtv R G)):Int):Rat)≠0:=Z8 (by have:=(Y9 _ (Y3 (rtv R G))).1; omega)
 have orl:∀ l∈lns R G,dotQ l (y'++[-(((lcmL (bots (rtv R G)):Int):Rat))⁻¹])=0:=fun l hl=>by
  obtain ⟨i,hi,e⟩:=n45_ hl;have e':(lns R G)[i]? = some l:=by rw [← e]; exact n0_ hi
  unfold lns at e';rw [n24_] at e';split at e'
  · rename_i row t er et
    cases e'
    have hi':i < G.length:=by rw [GR]; exact (n34_.mp er).1
    have tv:=Zml i er (n0_ hi') et;rw [Zis (by rw [ly',Rl row (n1_ er)]),sat i row _ er (n0_ hi'),tv];generalize ((lcmL (bots (rtv R G)):Int):Rat)=A at *;generalize lam row=B at *;generalize G[i]=C at *
    grind
  · cases e'
 show ∃ ys,slv (cols rows (tkn rows rights)++[rights]) (List.replicate (tkn rows rights).length 0++[1])=some ys
 rw [← hR,← hG];unfold slv;rw [if_neg ?_]
 · exact ⟨_,rfl⟩
 · intro h;obtain ⟨u,hu,h⟩:=List.any_eq_true.mp h;rw [wR] at h;have hu':u∈(stp (lns R G) rows.length).2:=by have:stF R G=stp (lns R G) (wid R):=rfl; rw [this,wR] at hu; exact hu
   obtain ⟨c2,lc2,hc2⟩:=E2.mixL u hu';have ul:=(ok2 rows.length (n9_ _) u hu').2;have z0:=hc2 (y'++[-(((lcmL (bots (rtv R G)):Int):Rat))⁻¹])
   have sz:∀ (c:List Rat) (ls:List (List Int)),(∀ l∈ls,dotQ l (y'++[-(((lcmL (bots (rtv R G)):Int):Rat))⁻¹])=0)→(List.zipWith (fun (a:Rat) l=>a * dotQ l (y'++[-(((lcmL (bots (rtv R G)):Int):Rat))⁻¹])) c ls).sum=0:=fun c=>by
    induction c with
    | nil=>intro ls _; rw [n73_]; rfl
    | cons a c ih=>intro ls h; cases ls with
      | nil=>rw [n78_]; rfl
      | cons l ls=>rw [n51_,n57_,ih ls fun l hl=>h l (n8_ _ hl),h l n7_]; grind
   rw [sz c2 _ orl,Zf1 u.2 y' _ ul ly' (E2.zl u hu')] at z0;have nz:u.2.getD rows.length 0≠0:=by simpa using h
   have nz':=Z8 nz;generalize ((u.2.getD rows.length 0:Int):Rat)=A at *;generalize ((lcmL (bots (rtv R G)):Int):Rat)=B at *
   grind
end L2
theorem L2.gen_upd {H H1:L2.Hp} {p:PySem.Addr} {o:L2.HO} (g:L2.upd H p o=H1) (n:H p=none):L2.Same H H1∧H1 p=some o:=g▸⟨L2.Same.new n,L2.Zc⟩
namespace My
open PySem PySem.Spec PyProof.Rows L2
def top (i:Nat):Stmt:=PySem.Challenge.pw_platerest_k11_solutions_and_mixes_judged.main.body.getD i (.Pass ⟨0,0,0,0⟩)
theorem Zen:bootBuiltins "abs" = some (.builtin "abs"):=by decide +kernel
theorem Zd1:bootBuiltins "all" = some (.builtin "all"):=by decide +kernel
theorem Zqq:bootBuiltins "any" = some (.builtin "any"):=by decide +kernel
theorem Zl4:bootBuiltins "bool" = some (.type "bool"):=by decide +kernel
theorem Zkm:bootBuiltins "int" = some (.type "int"):=by decide +kernel
theorem Z0:bootBuiltins "isinstance" = some (.builtin "isinstance"):=by decide +kernel
theorem Xa:bootBuiltins "len" = some (.builtin "len"):=by decide +kernel
theorem Zib:bootBuiltins "list" = some (.type "list"):=by decide +kernel
theorem Zn9:bootBuiltins "max" = some (.builtin "max"):=by decide +kernel
theorem Zku:bootBuiltins "min" = some (.builtin "min"):=by decide +kernel
theorem Zcq:bootBuiltins "repr" = some (.builtin "repr"):=by decide +kernel
theorem Zhm:bootBuiltins "reversed" = some (.type "reversed"):=by decide +kernel
theorem Zk7:bootBuiltins "sum" = some (.builtin "sum"):=by decide +kernel
theorem Yk:bootBuiltins "tuple" = some (.type "tuple"):=by decide +kernel
structure Bt (mg:Str→Option Value):Prop where
 b_abs:mg "abs" = none
 b_all:mg "all" = none
 b_any:mg "any" = none
 b_bool:mg "bool" = none
 b_enumerate:mg "enumerate" = none
 b_int:mg "int" = none
 b_isinstance:mg "isinstance" = none
 b_len:mg "len" = none
 b_list:mg "list" = none
 b_max:mg "max" = none
 b_min:mg "min" = none
 b_range:mg "range" = none
 b_repr:mg "repr" = none
 b_reversed:mg "reversed" = none
 b_sum:mg "sum" = none
 b_tuple:mg "tuple" = none
 b_zip:mg "zip" = none
 n_GREAT_BITS:∃ t,mg "GREAT_BITS" = some (.int 4000 t)
 n_MOST_ROWS:∃ t,mg "MOST_ROWS" = some (.int 60 t)
abbrev rt (q:Rat):List V:=[.int q.num,.int q.den]
def Zjt:Sp:=fun vs H Q _=>∃ a b:Int,vs=[.int a,.int b]∧Q (.int (Int.gcd a b)) H
def Zes:Sp:=fun vs H Q _=>∃ a b:Int,vs=[.int a,.int b]∧b.natAbs < 2 ^ 4000∧Q (.int (Int.gcd a b)) H
theorem Y1 {a n:Nat} (h:a < 2 ^ 64) (hn:64≤n:=by decide):a < 2 ^ n:=n16_ h (n11_ (by decide) hn)
theorem Zoo {a:Nat} (h:a < 2 ^ 4000):a < 2 ^ 8999:=n16_ h (n11_ (by decide) (by decide))
theorem Zpg {x y:Int} (h:y.natAbs < 2 ^ 4000):decide ((4000:Int) < if (Builtin.Int.intBits y:Int) < (Builtin.Int.intBits x:Int) then (Builtin.Int.intBits y:Int) else (Builtin.Int.intBits x:Int))=false:=by
 have:=Zie h (by decide)
 refine n17_ ?_;split <;> omega
def Zei:Sp:=fun vs H Q _=>∃ t b:Int,vs=[.int t,.int b]∧b≠0∧b.natAbs < 2 ^ 4000∧∀ (p:Addr) (H':Hp),Same H H'→H' p=some (.tup (rt (Rat.divInt t b)))→Q (.ref p) H'
def Znj (f:Rat→Rat→Rat):Sp:=fun vs H Q _=>∃ (p r:Addr) (x y:Rat),vs=[.ref p,.ref r]∧H p=some (.tup (rt x))∧H r=some (.tup (rt y))∧FM.B 1990 x∧FM.B 1990 y ∧
 ∀ (z:Addr) (H':Hp),Same H H'→H' z=some (.tup (rt (f x y)))→Q (.ref z) H'
theorem Zpx {p q:Rat}:decide (([p.num,(p.den:Int)]:List Int)=[q.num,(q.den:Int)])=decide (p=q):=by
 by_cases h:p=q
 · subst h; simp
 · rw [n17_ h];refine n17_ fun z=>h ?_;injection z with z1 z2
   injection z2 with z2 _
   exact Rat.ext z1 (Int.ofNat.inj z2)
def rNeR (neg:Bool):R2:=fun x y H Q=>∃ (a b:Addr) (p q:Rat),x=.ref a∧y=.ref b∧H a=some (.tup (rt p))∧H b=some (.tup (rt q))∧Q (.bl (if neg then !decide (p=q) else decide (p=q))) H
theorem Zny {X:Cx} (hu:X.A.units+1 < cLine):OpR X (compareOp .NotEq) (rNeR true):=by
 intro pins s σ H x y v u Q I rx ry h;obtain ⟨a,b,p,q,e1,e2,h1,h2,k⟩:=h;refine Zqy (n74_ hu) pins s σ H x y v u Q I rx ry ⟨a,b,[p.num,(p.den:Int)],[q.num,(q.den:Int)],e1,e2,SqT.of h1,SqT.of h2,?_⟩;rw [Zpx]; exact k
theorem Zpv {X:Cx} (hu:X.A.units+1 < cLine):OpR X (compareOp .Eq) (rNeR false):=by
 intro pins s σ H x y v u Q I rx ry h;obtain ⟨a,b,p,q,e1,e2,h1,h2,k⟩:=h;refine Zoi (n74_ hu) pins s σ H x y v u Q I rx ry ⟨a,b,[p.num,(p.den:Int)],[q.num,(q.den:Int)],e1,e2,SqT.of h1,SqT.of h2,?_⟩;rw [Zpx]; exact k
theorem up1 {a:Nat} (h:a < 2 ^ 1990):a < 2 ^ 1000000:=n16_ h (n11_ (by decide) (by decide))
theorem mNN {x y:Rat} (hx:FM.B 1990 x) (hy:FM.B 1990 y):CMulB x.num y.num:=⟨up1 hx.1,up1 hy.1⟩
theorem mND {x y:Rat} (hx:FM.B 1990 x) (hy:FM.B 1990 y):CMulB x.num y.den:=⟨up1 hx.1,up1 hy.2⟩
theorem mDD {x y:Rat} (hx:FM.B 1990 x) (hy:FM.B 1990 y):CMulB x.den y.den:=⟨up1 hx.2,up1 hy.2⟩
theorem Zp8 {x y:Rat} (hx:FM.B 1990 x) (hy:FM.B 1990 y):((x.den:Int) * y.den).natAbs < 2 ^ 4000 :=
 n16_ (FM.natAbs_mul_lt (show (x.den:Int).natAbs < 2 ^ 1990 from hx.2) (show (y.den:Int).natAbs < 2 ^ 1990 from hy.2)) (n11_ (by decide) (by decide))
def StAt (H:Hp) (l:Addr):Prop:=∃ s0 s1 s2:Int,H l=some (.lst [.int s0,.int s1,.int s2])∧0≤s1∧s1 < 4294967296
theorem StAt.keep {H H':Hp} {l m:Addr} (s:StAt H l) (k:Keep m H H') (n:l≠m):StAt H' l:=by
 obtain ⟨a,b,c,h,r⟩:=s;exact ⟨a,b,c,k _ _ n h,r⟩
theorem StAt.same {H H':Hp} {l:Addr} (s:StAt H l) (k:Same H H'):StAt H' l:=by
 obtain ⟨a,b,c,h,r⟩:=s;exact ⟨a,b,c,k _ _ h,r⟩
theorem StAt.new {H:Hp} {l p:Addr} {o:HO} (s:StAt H l) (h:H p=none):StAt (upd H p o) l:=by
 obtain ⟨a,b,c,e,r⟩:=s;exact ⟨a,b,c,by rw [Zo (Zk e h)]; exact e,r⟩
theorem StAt.ne {H:Hp} {l p:Addr} (s:StAt H l) (h:H p=none):l≠p:=by
 obtain ⟨a,b,c,e,r⟩:=s;exact Zk e h
theorem StAt.neT {H:Hp} {l p:Addr} {xs:List V} (s:StAt H l) (h:H p=some (.tup xs)):p≠l:=by
 obtain ⟨a,b,c,e,r⟩:=s;exact Zhw h e (by intro z; cases z)
def Zky (K:PySem.W.Frag):Sp:=fun vs H Q _=>∃ (a:Addr) (ns:List Int) (k:Nat),vs=[.ref a,.int k]∧SqL K H a (ns.map V.int)∧∀ c:Int,Q (.int c) H
def Zi8 (K:PySem.W.Frag):Sp:=fun vs H Q _=>∃ (a:Addr) (ns:List Int) (k:Nat),vs=[.ref a,.int k]∧SqL K H a (ns.map V.int) ∧
 ∀ (p:Addr) (H':Hp),H p=none→Same H H'→StAt H' p→Q (.ref p) H'
def Zg7:Sp:=fun vs H Q _=>∃ (l:Addr) (m:Int),vs=[.ref l,.int m]∧StAt H l∧0 < m∧m.natAbs < 2 ^ 8999∧∀ (r:Int) (H':Hp),0≤r→r < m→Keep l H H'→StAt H' l→Q (.int r) H'
def Zn0:Sp:=fun vs H Q _=>∃ t b:Int,vs=[.int t,.int b]∧b≠0∧b.natAbs < 2 ^ 4000∧∀ (p:Addr) (H':Hp),Same H H'→H' p=some (.tup (rt (Rat.divInt t b)))→Q (.ref p) H'
theorem mulS {a b:Int} (ha:a.natAbs < 2 ^ 64) (hb:b.natAbs < 2 ^ 64):CMulB a b:=⟨n16_ ha (n11_ (by decide) (by decide)),n16_ hb (n11_ (by decide) (by decide))⟩
theorem p64:(2:Nat) ^ 64=18446744073709551616:=by decide
def Zbt:Sp:=fun vs H Q _=>∃ N k v d,vs=[v]∧Dt N H k v d∧Q (.bl (isI d)) H
def Zog:Sp:=fun vs H Q _=>∃ N k v d,vs=[v]∧Dt N H k v d∧k≤4000∧Q (.bl (isFr d)) H
def Zjl:Sp:=fun vs H Q _=>∃ N k v d,vs=[v]∧Dt N H k v d∧k≤4000∧∀ H',Same H H'→Q (.bl (isFr d)) H'
theorem StAt.lst' {H:Hp} {l:Addr} (s:StAt H l):∃ ys,H l=some (.lst ys):=by
 obtain ⟨a,b,c,h,_⟩:=s;exact ⟨_,h⟩
theorem Dt.keepS {N:Addr→Prop} {l:Addr} {H H':Hp} {k:Nat} {v:V} {d:PyData} (hN:N l) (s:StAt H l) (h:Dt N H k v d) (q:Keep l H H'):Dt N H' k v d:=let ⟨_,e⟩:=s.lst'; h.keep hN e q
theorem Dts.keepS {N:Addr→Prop} {l:Addr} {H H':Hp} {k:Nat} {v:List V} {d:List PyData} (hN:N l) (s:StAt H l) (h:Dts N H k v d) (q:Keep l H H'):Dts N H' k v d:=let ⟨_,e⟩:=s.lst'; h.keep hN e q
theorem Zkp {i:Int} {k:Nat} (h:i.natAbs < 2 ^ k) (hk:k≤4000):i.natAbs < 2 ^ 4000:=n16_ h (n11_ (by decide) (by omega))
theorem Dom.keepS {N:Addr→Prop} {l:Addr} {H H':Hp} (h:Dom N H) (s:Keep l H H') (hl:StAt H' l):Dom N H':=let ⟨_,e⟩:=hl.lst'; h.keep s e
theorem dint {N:Addr→Prop} {H:Hp} {k:Nat} (i:Int) (hk:100≤k) (hi:i.natAbs < 2 ^ 100):Dt N H k (.int i) (.int i):=.int (n16_ hi (n11_ (by decide) hk))
theorem dt2 {N:Addr→Prop} {H:Hp} {k:Nat} {p:Addr} {i j:Int} (h:H p=some (.tup [.int i,.int j])) (hi:i.natAbs < 2 ^ k) (hj:j.natAbs < 2 ^ k):Dt N H k (.ref p) (.tuple [.int i,.int j]):=.tup h (.cons (.int hi) (.cons (.int hj) .nil))
theorem Zkv {α:Type} {l:List α} {i:Nat} {x:α} (h:l[i]? = some x):i < l.length:=(n34_.mp h).1
abbrev RB:Hp→V→Bool→Prop:=fun _ v b=>v=V.bl b
theorem hRB:∀ H1 H2 v x,Tk H1 H2→RB H1 v x→RB H2 v x:=fun _ _ _ _ _ e=>e
abbrev RI:Hp→V→Int→Prop:=fun _ v b=>v=V.int b
theorem hRI:∀ H1 H2 v x,Tk H1 H2→RI H1 v x→RI H2 v x:=fun _ _ _ _ _ e=>e
theorem Zh0 {H H':Hp} {a:Addr} (s:Same H H') (h:H' a=none):H a=none:=by
 cases e:H a with
 | none=>rfl
 | some o=>rw [s _ _ e] at h; cases h
def Zg5 (K:PySem.W.Frag) (mg:Str→Option Value) (x:Str) (a b:Int):Prop:=∃ n,mg x=some (.ref n)∧KTu K n [.int a,.int b]
theorem up {a n:Nat} (m:Nat) (h:a < 2 ^ n) (l:n≤m:=by decide):a < 2 ^ m:=n16_ h (n11_ (by decide) l)
def QT (K:PySem.W.Frag) (H:Hp) (a:Addr) (q:Rat):Prop:=H a=some (.tup (rt q))∨KTu K a (rt q)
theorem QT.sq {K:PySem.W.Frag} {H:Hp} {a:Addr} {q:Rat} (h:QT K H a q):SqT K H a (rt q):=h.elim SqT.of KTu.sq
def IsQ (K:PySem.W.Frag) (H:Hp) (v:V) (q:Rat):Prop:=∃ a,v=.ref a∧QT K H a q
theorem hRQ {K:PySem.W.Frag}:∀ H1 H2 v x,Tk H1 H2→IsQ K H1 v x→IsQ K H2 v x:=fun _ _ _ _ t ⟨a,e,h⟩=>⟨a,e,h.imp (fun z=>t _ _ z) id⟩
def IsQh (H:Hp) (v:V) (q:Rat):Prop:=∃ p,v=.ref p∧H p=some (.tup (rt q))
theorem IsQh.tk {H H':Hp} {v:V} {q:Rat} (t:Tk H H') (h:IsQh H v q):IsQh H' v q:=let ⟨p,e,a⟩:=h; ⟨p,e,t _ _ a⟩
def IsRh (H:Hp) (v:V) (qs:List Rat):Prop:=∃ a us,v=.ref a∧H a=some (.tup us)∧Al (IsQh H) us qs
theorem IsRh.tk {H H':Hp} {v:V} {qs:List Rat} (t:Tk H H') (h:IsRh H v qs):IsRh H' v qs:=let ⟨a,us,e,h1,h2⟩:=h; ⟨a,us,e,t _ _ h1,h2.imp fun _ _ r=>r.tk t⟩
theorem lc_Q {k:SK} {K:PySem.W.Frag} {a D:Addr} {us:List V} {qs:List Rat} {te:TE} {u0 u1:Option V} {rest:L2.St} {H:Hp} {Q:VK} {α:Type} (R:Hp→V→α→Prop) (hR:∀ H1 H2 v x,Tk H1 H2→R H1 v x→R H2 v x) (ys:List α) (hn:ys.length=us.length) (hz:us.length≤1000) (hD:H D=none) (ha:k.At H a us) (al:Al (IsQ K H) us qs)
 (hs:∀ (i:Nat) (q:Rat) (H2:Hp) (C:V→Hp→Prop),qs[i]? = some q→Same H H2→(∀ y H5 z,Same H2 H5→ys[i]? = some z→R H5 y z→C y H5)→te (some (.int q.num) :: some (.int q.den) :: rest) H2 C)
 (hd:∀ H2 us,Same H H2→H2 D=some (.lst us)→Al (R H2) us ys→Q (.ref D) H2):LcGo (k.Itk K a) (gTup K 2 (Z7 (Z1 0) (Z7 (Z1 1) gNil))) tYes te (u0 :: u1 :: rest) H D Q:=by
 refine Zi0 R hR ys hn hz (fun σ=>∃ u u',σ=u :: u' :: rest) ⟨_,_,rfl⟩ hD (fun i H2 s hi=>Zar (ha.same s) hi) (fun H2 s=>Y5 (ha.same s) (n9_ _)) (fun i x σ2 H2 H3 C hi s y o c=>?_) hd;obtain ⟨u,u',rfl⟩:=o;obtain ⟨rfl,e⟩:=Xj (ha.same s) y;obtain ⟨q,eq,h⟩:=al.get e;obtain ⟨p,rfl,hp⟩:=hRQ _ _ _ _ s.tk h;exact ⟨p,_,rfl,hp.sq,rfl,_,_,rfl,_,_,rfl,rfl,hs i q H3 (C (some (.int q.num) :: some (.int q.den) :: rest)) eq s fun y H5 z s5 ez rz=>c _ y H5 z ⟨_,_,rfl⟩ s5 ez rz⟩
def Zjg:Sp:=fun vs H Q _=>∃ (l:Addr) (ds:List Int) (k:Nat),vs=[.ref l]∧H l=some (.lst (ds.map V.int))∧(∀ x∈ds,0 < x∧x.natAbs < 2 ^ k)∧k≤4000∧k * ds.length≤900000∧Q (.int (lcmL ds)) H
def Zdj:Sp:=fun vs H Q _=>∃ (l:Addr) (ps:List Int) (k:Int),vs=[.ref l,.int k]∧H l=some (.lst (ps.map V.int))∧(∀ i,i < ps.length→gl k (ps.take i) < 2 ^ 4000)∧Q (.int (gl k ps)) H
def IsSc (K:PySem.W.Frag) (H:Hp) (v:V) (x:Int×Int):Prop:=∃ p,v=.ref p∧(H p=some (.tup [.int x.1,.int x.2])∨KTu K p [.int x.1,.int x.2])
theorem IsSc.tk {K:PySem.W.Frag}:∀ H1 H2 v x,Tk H1 H2→IsSc K H1 v x→IsSc K H2 v x:=fun _ _ _ _ t ⟨p,e,h⟩=>⟨p,e,h.imp (fun z=>t _ _ z) id⟩
theorem IsSc.sq {K:PySem.W.Frag} {H:Hp} {p:Addr} {x:Int×Int} (h:H p=some (.tup [.int x.1,.int x.2])∨KTu K p [.int x.1,.int x.2]):SqT K H p [.int x.1,.int x.2]:=h.elim SqT.of KTu.sq
structure LnB (b:Nat) (qs:List Rat):Prop where
 bd:∀ q∈qs,FM.B b q
 b4:b≤3999
 sz:b * qs.length≤300000
 len:qs.length≤1000
theorem LnB.bots {b:Nat} {qs:List Rat} (h:LnB b qs):∀ x∈bots qs,0 < x∧x.natAbs < 2 ^ b:=fun x hx=>by
 obtain ⟨q,hq,rfl⟩:=n22_.mp hx;exact ⟨FM.den_pos q,(h.bd q hq).2⟩
theorem LnB.tops {b:Nat} {qs:List Rat} (h:LnB b qs):∀ x∈tops qs,x.natAbs < 2 ^ b:=fun x hx=>by
 obtain ⟨q,hq,rfl⟩:=n22_.mp hx;exact (h.bd q hq).1
theorem LnB.lcm {b:Nat} {qs:List Rat} (h:LnB b qs):(lcmL (L2.bots qs)).natAbs < 2 ^ 300001:=by
 have:=Zdu _ h.bots
 rw [n2_] at this;exact up _ this (by have:=h.sz; omega)
theorem Zbf {b:Nat} {qs:List Rat} (h:LnB b qs):0 < (scl qs).1∧(scl qs).1.natAbs < 2 ^ 300001∧0 < (scl qs).2∧(scl qs).2.natAbs < 2 ^ 4000:=by
 unfold scl;split
 · exact ⟨(by decide:(0:Int) < 1),n61_ (by decide),(by decide:(0:Int) < 1),n61_ (by decide)⟩
 · rename_i hn
   refine ⟨(Y9 _ fun x hx=>(h.bots x hx).1).1,h.lcm,?_,?_⟩
   · show (0:Int) < (gl 0 (L2.tops qs):Int); omega
   · exact up 4000 (Zik h.tops) (by have:=h.b4; omega)
def Zin (K:PySem.W.Frag):Sp:=fun vs H Q _=>∃ (a:Addr) (k:SK) (us:List V) (qs:List Rat) (b:Nat),vs=[.ref a]∧k.At H a us∧Al (IsQ K H) us qs∧LnB b qs∧∀ (H':Hp) (v:V),Same H H'→IsSc K H' v (scl qs)→Q v H'
def Zim (K:PySem.W.Frag):Sp:=fun vs H Q _=>∃ (a:Addr) (k:SK) (us:List V) (qs:List Rat) (b:Nat),vs=[.ref a]∧k.At H a us∧Al (IsQ K H) us qs∧LnB b qs∧∀ (H':Hp) (l:Addr),Same H H'→H l=none→H' l=some (.lst ((wh qs).map V.int))→Q (.ref l) H'
theorem Zd8 {a b:Int} (hb:0 < b):(a.fdiv b).natAbs≤a.natAbs:=by
 rw [Int.fdiv_eq_ediv_of_nonneg a (by omega)];exact Int.natAbs_ediv_le_natAbs a b
theorem Yt {a b:Int} {n:Nat} (hb:0 < b) (h:a.natAbs < 2 ^ n):(a.fdiv b).natAbs < 2 ^ n:=n10_ (Zd8 hb) h
theorem Zmu {b:Nat} {qs:List Rat} (h:LnB b qs):∀ x∈wh qs,x.natAbs < 2 ^ 304000:=fun x hx=>by
 obtain ⟨q,hq,rfl⟩:=n22_.mp hx;obtain ⟨h1,h2,h3,h4⟩:=Zbf h;exact up _ (FM.natAbs_mul_lt (Yt h3 (h.bd q hq).1) (Yt (FM.den_pos q) h2)) (by have:=h.b4; omega)
def Zjh (K:PySem.W.Frag):Sp:=fun vs H Q _=>∃ (w:Addr) (ws:List Int) (a:Addr) (k:SK) (us:List V) (qs:List Rat) (b:Nat),vs=[.ref w,.ref a]∧H w=some (.lst (ws.map V.int))∧(∀ x∈ws,x.natAbs < 2 ^ 304000)∧k.At H a us∧Al (IsQ K H) us qs∧LnB b qs∧∀ H',Same H H'→Q (.bl (decide ((List.zipWith (· * ·) ws (wh qs)).sum=0))) H'
def IsLn (H:Hp) (v:V) (x:Int×List Int):Prop:=∃ p l,v=.ref p∧H p=some (.tup [.int x.1,.ref l])∧H l=some (.lst (x.2.map V.int))
theorem IsLn.same {H H':Hp} {v:V} {x:Int×List Int} (s:Same H H') (h:IsLn H v x):IsLn H' v x:=let ⟨p,l,e,h1,h2⟩:=h; ⟨p,l,e,s _ _ h1,s _ _ h2⟩
structure LineOk (n:Nat) (x:Int×List Int):Prop where
 nz:x.1≠0
 kn:x.1.natAbs < 2 ^ 4000
 len:x.2.length=n
 bd:∀ e∈x.2,e.natAbs < 2 ^ 400000
def Zey:Sp:=fun vs H Q _=>∃ (kn:Int) (l hd:Addr) (line head:List Int) (pl:Nat),vs=[.int kn,.ref l,.ref hd,.int pl]∧H l=some (.lst (line.map V.int))∧H hd=some (.lst (head.map V.int))∧LineOk head.length (kn,line)∧(∀ e∈head,e.natAbs < 2 ^ 400000)∧pl < head.length∧head.length≤1000 ∧
 ∀ (H':Hp) (p l':Addr),Same H H'→(l'=l∨H l'=none)→H p=none→H' p=some (.tup [.int (clr pl head (kn,line)).1,.ref l'])→H' l'=some (.lst ((clr pl head (kn,line)).2.map V.int))→Q (.ref p) H'
theorem getI {xs:List Int} {i:Nat} (h:i < xs.length):atI (xs.map V.int) (i:Int)=some (.int (xs.getD i 0)):=by
 refine Yu ?_;rw [n5_,n0_ h,n6_,n0_ h]; rfl
theorem Zms (xs:List Int):xs.map (fun p=>p.fdiv ((1:Nat):Int))=xs:=by
 conv=>rhs; rw [← List.map_id xs]
 refine List.map_congr_left fun x _=>?_;show x.fdiv 1=x
 exact Int.fdiv_one x
abbrev hdPs (p:Pos):Arguments:={ posonlyargs:=[],args:=[{ arg := "at",annotation:=none,pos:=p }],vararg:=none,kwonlyargs:=[],kw_defaults:=[],kwarg:=none,defaults:=[] }
abbrev hdSc:Scope:={ kind:=.function,names:=[("at",.local),("left",.free),("place",.free),("abs",.globalImplicit)],isGenerator:=false,isCoroutine:=false }
abbrev Zk9 (j:Nat) (p0 p1 p2 p3 p4 p5 p6 p7 p8:Pos):Expr:=.Call (.Name "abs" p0) [.Subscript (.Subscript (.Subscript (.Name "left" p1) (.Name "at" p2) p3) (.Constant (.int 1) j p4) p5) (.Name "place" p6) p7] [] p8
theorem Zqc {H:Hp} {c:Addr} {v:V} (h:Znc H c v):∃ o v,H c=some (fzO o)∧o.data=.cell v:=let ⟨o,u,a,b,_⟩:=h; ⟨o,_,a,b⟩
section
variable {P:Program} {w:World} {K:PySem.W.Frag} {mg:Str→Option Value} {base:Heap} {a:Addr} {pm:Value} {q:Str} {j:Nat} {pp p0 p1 p2 p3 p4 p5 p6 p7 p8:Pos} {c1 c2:Addr}
def spHd (a c1 c2:Addr) (q:Str) (pm:Value) (j:Nat) (pp p0 p1 p2 p3 p4 p5 p6 p7 p8:Pos):V→Hp→VK→XK→Prop:=fun v H Q _=>LamF H a q (hdPs pp) (Zk9 j p0 p1 p2 p3 p4 p5 p6 p7 p8) hdSc [("place",c2),("left",c1)] pm ∧
 ∃ (la p l:Addr) (us:List V) (pl n:Nat) (kv:V) (xs:List Int),Znc H c1 (.ref la)∧Znc H c2 (.int pl)∧H la=some (.lst us)∧v=.int n∧us[n]? = some (.ref p)∧H p=some (.tup [kv,.ref l])∧H l=some (.lst (xs.map V.int))∧pl < xs.length∧Q (.int (abV (xs.getD pl 0))) H
theorem Zrr (T:Bt mg) (hne:c1≠c2):Zgw P w K mg base 2 a (spHd a c1 c2 q pm j pp p0 p1 p2 p3 p4 p5 p6 p7 p8):=by
 refine Zpf (k:=1) (N:=["at","left","place"]) (p1 := "at") (q:=q) (params:=hdPs pp) (body:=Zk9 j p0 p1 p2 p3 p4 p5 p6 p7 p8) (scope:=hdSc) (clos:=[("place",c2),("left",c1)]) (pm:=pm) rfl rfl rfl ?_ ?_ rfl ?_ ?_ rfl ?_ ?_ ?_
 · intro x hx; simp only [n31_,n43_,or_false] at hx; rcases hx with rfl | rfl | rfl | rfl <;> (intro z; cases z)
 · intro _ _ _; rfl
 · intro x y d h1 h2;simp only [List.lookup] at h1 h2;split at h1 <;> split at h2
   · rename_i e1 _ e2; exact (beq_iff_eq.mp e1).trans (beq_iff_eq.mp e2).symm
   · rename_i e1 _ e2
     split at h2
     · cases h1; cases h2; exact absurd rfl hne
     · cases h2
   · rename_i e1 _ e2
     split at h1
     · cases h1; cases h2; exact absurd rfl hne
     · cases h1
   · rename_i e1 _ e2
     split at h1
     · split at h2
       · rename_i a1 _ a2; exact (beq_iff_eq.mp a1).trans (beq_iff_eq.mp a2).symm
       · cases h2
     · cases h1
 · intro x hx;simp only [List.lookup] at hx;split at hx
   · cases hx
   · split at hx
     · rename_i e; rw [beq_iff_eq.mp e]; exact ⟨c1,rfl⟩
     · split at hx
       · rename_i e; rw [beq_iff_eq.mp e]; exact ⟨c2,rfl⟩
       · split at hx <;> cases hx
 · intro i x e
   match i,e with
   | 0,e=>cases e; rfl
   | 1,e=>cases e; rfl
   | n+2,e=>simp at e
 · rintro v H Q E ⟨l,la,p,l',us,pl,n,kv,xs,h1,h2,_⟩
   refine ⟨l,fun x d e=>?_⟩;simp only [List.lookup] at e;split at e
   · cases e; exact Zqc h2
   · split at e
     · cases e; exact Zqc h1
     · cases e
 · rintro A outer s H Q E cd v hr ⟨l,la,p,l',us,pl,n,kv,xs,h1,h2,h3,rfl,h4,h5,h6,h7,h8⟩
   refine ⟨[some (.ref la),some (.int pl)],_,rfl,fun i x z e1 e2=>?_,Zj Zbb rfl T.b_abs Zen (Za (Zz Yc (Zz Ym (Zz Yc (pv 1) (pv 0) (fun _ _=>rfl)) Zf (fun _ _=>rfl)) (pv 2) (fun _ _=>rfl)) Zb rfl),?_⟩
   · match i,e1,e2 with
     | 0,e1,e2=>cases e1; cases e2; exact ⟨c1,rfl,h1⟩
     | 1,e1,e2=>cases e1; cases e2; exact ⟨c2,rfl,h2⟩
     | n+2,e1,e2=>simp at e1
   · exact ⟨_,rfl,_,rfl,la,us,n,_,rfl,rfl,SqL.of h3,Yu h4,p,_,1,_,rfl,rfl,SqT.of h5,rfl,_,rfl,l',_,pl,_,rfl,rfl,SqL.of h6,getI h7,_,rfl,h8⟩
end
def Zhj (Ph:Addr):Sp:=fun vs H Q _=>∃ (la:Addr) (us:List V) (ls:List (Int×List Int)) (pl:Nat),vs=[.ref la,.int pl]∧H la=some (.lst us)∧Al (IsLn H) us ls∧(∀ x∈ls,pl < x.2.length)∧ls.length≤1000∧TabF H Ph "head_of.<locals>.<lambda>" ∧
 ∀ H',X8 Ph H H'→TabF H' Ph "head_of.<locals>.<lambda>" → Q (minV (hkf ls pl) (hds ls pl)) H'
theorem Xr {α:Type} {l:List α} {i:Nat} {x z:α} (h:l[i]? = some x):l.getD i z=x:=by rw [n6_,h]; rfl
def IsL (H:Hp) (v:V) (ns:List Int):Prop:=∃ a,v=.ref a∧H a=some (.lst (ns.map V.int))
def IsLnN (N:Addr→Prop) (H:Hp) (v:V) (x:Int×List Int):Prop:=∃ p l,v=.ref p∧¬ N p∧¬ N l∧H p=some (.tup [.int x.1,.ref l])∧H l=some (.lst (x.2.map V.int))
def Zk1 (N:Addr→Prop) (H H':Hp):Prop:=∀ b o,¬ N b→H b=some o→H' b=some o
theorem IsLnN.keep {N:Addr→Prop} {H H':Hp} {v:V} {x:Int×List Int} (k:Zk1 N H H') (h:IsLnN N H v x):IsLnN N H' v x:=let ⟨p,l,e,n1,n2,h1,h2⟩:=h; ⟨p,l,e,n1,n2,k _ _ n1 h1,k _ _ n2 h2⟩
theorem IsLnN.ln {N:Addr→Prop} {H:Hp} {v:V} {x:Int×List Int} (h:IsLnN N H v x):IsLn H v x:=let ⟨p,l,e,_,_,h1,h2⟩:=h; ⟨p,l,e,h1,h2⟩
abbrev stI (x:Nat×List Int):Int×List Int:=((x.1:Int),x.2)
abbrev IsSt (H:Hp) (v:V) (x:Nat×List Int):Prop:=IsLn H v (stI x)
structure StpOk (lines:List (List Int)) (n w:Nat):Prop where
 nw:n≤w
 w1:w≤1000
 l1:lines.length≤1000
 ok:∀ i,i≤n→∀ x∈(stp lines i).2,LineOk w x
theorem Zfx {lines:List (List Int)}:∀ i,(stp lines i).2.length≤lines.length∧(stp lines i).1.length≤i
 | 0=>⟨by show ((lines.map fun l=>((1:Int),l))).length≤_; rw [n2_]; exact n9_ _,n9_ _⟩
 | i+1=>by
   have ih:=Zfx (lines:=lines) i;cases e:X0 (stp lines i).2 i with
   | none=>rw [Za7 e]; exact ⟨ih.1,by omega⟩
   | some a =>
     rw [Zby e];simp only [n2_,n26_,n23_,n47_];refine ⟨?_,by omega⟩
     have:=List.length_eraseIdx_le (stp lines i).2 a
     omega
def Zco (Ph:Addr):Sp:=fun vs H Q _=>∃ (La:Addr) (vs':List V) (lines:List (List Int)) (n w:Nat),vs=[.ref La,.int n]∧H La=some (.lst vs')∧Al (IsL H) vs' lines∧StpOk lines n w∧TabF H Ph "head_of.<locals>.<lambda>" ∧
 ∀ (H':Hp) (p a b:Addr) (us ws:List V),X8 Ph H H'→TabF H' Ph "head_of.<locals>.<lambda>" → H' p=some (.tup [.ref a,.ref b])→H' a=some (.lst us)→Al (IsSt H') us (stp lines n).1→H' b=some (.lst ws)→Al (IsL H') ws ((stp lines n).2.map Prod.snd)→Q (.ref p) H'
theorem Al.erase {α:Type} {R:V→α→Prop} {vs:List V} {xs:List α} (h:Al R vs xs) (k:Nat):Al R (vs.eraseIdx k) (xs.eraseIdx k):=⟨by simp only [List.length_eraseIdx,h.1],fun i v x e1 e2=>by
 rw [List.getElem?_eraseIdx] at e1 e2;split at e1
 · rename_i hi; rw [if_pos hi] at e2; exact h.2 i v x e1 e2
 · rename_i hi; rw [if_neg hi] at e2; exact h.2 (i+1) v x e1 e2⟩
theorem Zk0 {α:Type} (xs:List α):∀ n,(List.range n).filterMap (fun i=>xs[i]?)=xs.take n
 | 0=>rfl
 | n+1=>by
   rw [List.range_succ,List.filterMap_append,Zk0 xs n,List.take_add_one]
   congr 1
theorem Z4 {α:Type} (xs:List α) (n:Nat) (h:n=xs.length):(List.range n).filterMap (fun i=>xs[i]?)=xs:=by
 rw [Zk0,h,n67_]
def Zdt (K:PySem.W.Frag):Sp:=fun vs H Q _=>∃ (a:Addr) (k:SK) (us:List V) (qs:List Rat) (b:Nat),vs=[.ref a]∧k.At H a us∧Al (IsQ K H) us qs∧LnB b qs∧∀ (H':Hp) (p l:Addr),Same H H'→H l=none→H' p=some (.tup [.ref l,.int (lcmL (bots qs))])→H' l=some (.lst ((lvd qs).map V.int))→Q (.ref p) H'
def Zjj (K:PySem.W.Frag):Sp:=fun vs H Q _=>∃ (w:Addr) (kw:SK) (ws:List Int) (a:Addr) (k:SK) (us:List V) (qs:List Rat) (b:Nat) (c:Int),vs=[.ref w,.ref a,.int c]∧kw.At H w (ws.map V.int)∧(∀ x∈ws,x.natAbs < 2 ^ 304000)∧k.At H a us∧Al (IsQ K H) us qs∧LnB b qs∧c≠0∧(lcmL (bots qs) * c).natAbs < 2 ^ 4000 ∧
 ∀ (H':Hp) (v:V),Same H H'→IsQ K H' v (mxd ws qs c)→Q v H'
theorem Zp6 {b:Nat} {qs:List Rat} (h:LnB b qs):∀ x∈lvd qs,x.natAbs < 2 ^ 304000:=fun x hx=>by
 obtain ⟨q,hq,rfl⟩:=n22_.mp hx;exact up _ (FM.natAbs_mul_lt (h.bd q hq).1 (Yt (FM.den_pos q) h.lcm)) (by have:=h.b4; omega)
structure PutOk (pl:Nat) (line:List Int) (xs:List Rat):Prop where
 lt:pl < xs.length
 len:line.length=xs.length+1
 nz:line.getD pl 0≠0
 bd:∀ e∈line,e.natAbs < 2 ^ 400000
 num:∀ x∈xs,x.num.natAbs < 2 ^ 200000
 den:∀ x∈xs,x.den < 2 ^ 4000
 n:xs.length≤200
 sz:(lcmL (bots ((trm pl line xs).map Prod.snd)) * line.getD pl 0).natAbs < 2 ^ 4000
def Zjm (K:PySem.W.Frag):Sp:=fun vs H Q _=>∃ (pl:Nat) (l a:Addr) (line:List Int) (us:List V) (xs:List Rat),vs=[.int pl,.ref l,.ref a]∧H l=some (.lst (line.map V.int))∧H a=some (.lst us)∧Al (IsQ K H) us xs∧PutOk pl line xs∧∀ (H':Hp) (v:V),Same H H'→IsQ K H' v (putQ pl line xs)→Q v H'
theorem QT.same {K:PySem.W.Frag} {H H':Hp} {a:Addr} {q:Rat} (s:Same H H') (h:QT K H a q):QT K H' a q:=h.imp (fun z=>s _ _ z) id
def IsTm (K:PySem.W.Frag) (D:Addr) (H:Hp) (v:V) (x:Int×Rat):Prop:=∃ p f,v=.ref p∧p≠D∧H p=some (.tup [.int x.1,.ref f])∧((f≠D∧H f=some (.tup (rt x.2)))∨KTu K f (rt x.2))
theorem IsTm.keep {K:PySem.W.Frag} {D:Addr} (H1 H2:Hp) (v:V) (x:Int×Rat) (k:Keep D H1 H2) (h:IsTm K D H1 v x):IsTm K D H2 v x:=let ⟨p,f,e,n1,h1,h2⟩:=h; ⟨p,f,e,n1,k _ _ n1 h1,h2.imp (fun z=>⟨z.1,k _ _ z.1 z.2⟩) id⟩
theorem Zl9 {α:Type} (Z:List α) (c:α→Bool) (n:Nat) (h:n=Z.length):(List.range n).filterMap (fun i=>(Z[i]?).filter c)=Z.filter c:=by
 rw [← List.filter_filterMap,Z4 Z n h]
theorem Zkb {line:List Int} (h:line≠[]):atI (line.map V.int) (-1)=some (.int (line.getLastD 0)):=by
 have hl:0 < line.length:=n71_.mpr h;unfold atI
 have e:ixN (line.map V.int).length (-1)=some (line.length - 1):=by
  unfold ixN; rw [n2_]; rw [if_neg (by omega),if_pos (by omega)]; congr 1; omega
 rw [e,Option.bind_some,n5_,← List.getLast?_eq_getElem?,List.getLastD_eq_getLast?];obtain ⟨x,hx⟩:∃ x,line.getLast? = some x:=⟨_,List.getLast?_eq_some_getLast h⟩;rw [hx]; rfl
structure FilOk (steps:List (Nat×List Int)) (xs:List Rat):Prop where
 ok:∀ i,i < steps.length→PutOk (steps.getD i (0,[])).1 (steps.getD i (0,[])).2 (fil (steps.drop (i+1)) xs)
def Zf5 (K:PySem.W.Frag):Sp:=fun vs H Q _=>∃ (s a:Addr) (ss us:List V) (steps:List (Nat×List Int)) (xs:List Rat),vs=[.ref s,.ref a]∧H s=some (.lst ss)∧Al (IsSt H) ss steps∧H a=some (.lst us)∧Al (IsQ K H) us xs∧FilOk steps xs∧∀ (H':Hp) (l:Addr) (us':List V),Same H H'→H' l=some (.lst us')→Al (IsQ K H') us' (fil steps xs)→Q (.ref l) H'
def Zeg:Sp:=fun vs H Q _=>∃ (l:Addr) (ds:List Int),vs=[.ref l]∧H l=some (.lst (ds.map V.int))∧(∀ x∈ds,0 < x∧x.natAbs < 2 ^ 4000)∧ds.length≤200∧∀ (H':Hp) (m:Addr),Same H H'→H' m=some (.lst ((fct ds).2.map V.int))→Q (.ref m) H'
def Zem (K:PySem.W.Frag):Sp:=fun vs H Q _=>∃ (v:V) (q:Rat) (l:Addr) (fs:List Int),vs=[v,.ref l]∧IsQ K H v q∧H l=some (.lst (fs.map V.int))∧(∀ x∈fs,0 < x∧x.natAbs < 2 ^ 4000)∧fs.length≤200∧q.num.natAbs < 2 ^ 200000∧q.den < 2 ^ 4000∧∀ (H':Hp) (v':V),Same H H'→IsQh H' v' (q / (Zcl fs:Rat))→Q v' H'
theorem Zc1 {α:Type} (x:α):∀ n:Nat,(List.replicate n [x]).flatten=List.replicate n x
 | 0=>rfl
 | n+1=>by rw [n52_,List.flatten_cons,Zc1 x n]; rfl
def IsQs (K:PySem.W.Frag) (H:Hp) (v:V) (qs:List Rat):Prop:=∃ a us,v=.ref a∧H a=some (.tup us)∧Al (IsQ K H) us qs
theorem IsQs.tk {K:PySem.W.Frag} {H H':Hp} {v:V} {qs:List Rat} (t:Tk H H') (h:IsQs K H v qs):IsQs K H' v qs:=let ⟨a,us,e,h1,h2⟩:=h; ⟨a,us,e,t _ _ h1,h2.imp fun v x r=>hRQ _ _ _ _ t r⟩
theorem Za5 {D:Addr} {H1 H2:Hp} (k:Keep D H1 H2) (e:∃ ws,H1 D=some (.lst ws)):Tk H1 H2:=fun b xs h=>k _ _ (fun z=>by obtain ⟨ws,e⟩:=e; rw [z,e] at h; cases h) h
theorem Zmx {P:Addr} {q:Str} {H1 H2:Hp} (k:X8 P H1 H2) (t:TabF H1 P q):Tk H1 H2:=fun b xs h=>k _ _ (fun z=>by obtain ⟨ps,e,_⟩:=t; rw [z,e] at h; cases h) h
def Zgo (K:PySem.W.Frag):Sp:=fun vs H Q _=>∃ (a:Addr) (k:SK) (us:List V) (rows:List (List Rat)),vs=[.ref a]∧k.At H a us∧Al (IsQs K H) us rows∧Q (.int (wid rows)) H
structure RtB (b:Nat) (rows:List (List Rat)) (rights:List Rat):Prop where
 rl:rights.length=rows.length
 n:rows.length≤200
 rb:∀ r∈rows,LnB b r
 gb:∀ q∈rights,FM.B b q
 b2:b≤1990
theorem Zh7 {b:Nat} {qs:List Rat} (h:LnB b qs):(scl qs).2.natAbs < 2 ^ (b+1):=by
 unfold scl;split
 · exact n61_ (by omega)
 · exact up _ (Zik h.tops) (by omega)
theorem RtB.mx {b:Nat} {rows:List (List Rat)} {rights:List Rat} (R:RtB b rows rights) {row:List Rat} {r:Rat} (h1:row∈rows) (h2:r∈rights):LnB b [r]∧(scl row).2≠0∧(lcmL (bots [r]) * (scl row).2).natAbs < 2 ^ 4000:=by
 have B1:LnB b [r]:=⟨fun q hq=>by rw [n13_.mp hq]; exact R.gb r h2,by have:=R.b2; omega,by have:=R.b2; simp; omega,by simp⟩;have s:=Zbf (R.rb row h1);refine ⟨B1,by omega,?_⟩;have l:=Zdu _ B1.bots;exact up _ (FM.natAbs_mul_lt l (Zh7 (R.rb row h1))) (by have:=R.b2; simp; omega)
def Zdk (K:PySem.W.Frag):Sp:=fun vs H Q _=>∃ (a g:Addr) (k kg:SK) (us gs:List V) (rows:List (List Rat)) (rights:List Rat) (b:Nat),vs=[.ref a,.ref g]∧k.At H a us∧Al (IsQs K H) us rows∧kg.At H g gs∧Al (IsQ K H) gs rights∧RtB b rows rights ∧
 ∀ (H':Hp) (l:Addr) (es:List V),Same H H'→H l=none→H' l=some (.lst es)→Al (IsQ K H') es (rtv rows rights)→Q (.ref l) H'
def Zcu (K:PySem.W.Frag):Sp:=fun vs H Q _=>∃ (s:Addr) (ss:List V) (steps:List (Nat×List Int)) (n:Nat),vs=[.ref s,.int n,.int 0]∧H s=some (.lst ss)∧Al (IsSt H) ss steps∧steps.length≤1000∧n≤1000∧(∀ x∈steps,x.2.length=n+1)∧FilOk steps (List.replicate n 0) ∧
 ∀ (H':Hp) (l:Addr) (us':List V),Same H H'→H' l=some (.lst us')→Al (IsQ K H') us' (fil steps (List.replicate n 0))→Q (.ref l) H'
structure SeOk (b c:Nat) (rows:List (List Rat)) (rights:List Rat):Prop extends RtB b rows rights where
 wd:∀ r∈rows,r.length=wid rows
 w:wid rows≤190
 eb:LnB c (rtv rows rights)
 so:StpOk (lns rows rights) (wid rows) (wid rows+1)
 fo:FilOk (stF rows rights).1 (List.replicate (wid rows) 0)
 fb:∀ x∈fil (stF rows rights).1 (List.replicate (wid rows) 0),x.num.natAbs < 2 ^ 200000∧x.den < 2 ^ 4000
theorem Zjr {lines:List (List Int)} {n w:Nat} (SO:StpOk lines n w):∀ i,i≤n→∀ x∈(stp lines i).1,x.2.length=w
 | 0,_,x,hx=>nomatch hx
 | i+1,hi,x,hx=>by
   have ih:=Zjr SO i (by omega);cases e:X0 (stp lines i).2 i with
   | none=>rw [Za7 e] at hx; exact ih x hx
   | some a =>
     rw [Zby e] at hx
     rcases n29_.mp hx with hx | hx
     · exact ih x hx
     · rw [n13_.mp hx];obtain ⟨ha,_⟩:=Zah e;have gd:(stp lines i).2.getD a (0,[])=(stp lines i).2[a]:=by rw [n6_,n0_ ha]; rfl
       rw [gd];exact (SO.ok i (by omega) _ (n36_ ha)).len
theorem Zox:∀ (ds:List Int),(fct ds).2.length≤ds.length:=fun ds=>by
 suffices H:∀ i,i≤ds.length→(fct (ds.take i)).2.length≤i by have:=H ds.length (n9_ _); rwa [n67_] at this
 intro i
 induction i with
 | zero=>intro _; exact n9_ _
 | succ i ih =>
   intro hi;have ih:=ih (by omega)
   have e:fct (ds.take i++[ds[i]])=if 1 < ds[i].fdiv (Int.gcd (fct (ds.take i)).1 ds[i]:Int) then ((fct (ds.take i)).1 * ds[i].fdiv (Int.gcd (fct (ds.take i)).1 ds[i]:Int),(fct (ds.take i)).2++[ds[i].fdiv (Int.gcd (fct (ds.take i)).1 ds[i]:Int)]) else fct (ds.take i):=by
    unfold fct; rw [n82_]; rfl
   rw [n39_ hi,e];split
   · rw [n26_]; exact Nat.succ_le_succ ih
   · omega
theorem Zrk {c:Nat} {qs:List Rat} (B:LnB c qs):∀ f∈(fct (bots qs)).2,0 < f∧f.natAbs < 2 ^ 4000:=fun f hf=>by
 obtain ⟨h0,d,hd,dv⟩:=(Zl1 (bots qs) (Y3 qs)).2.2 f hf;have b:=B.bots d hd;refine ⟨h0,n10_ (Nat.le_of_dvd (by omega) (n95_.mpr dv)) (up _ b.2 (by have:=B.b4; omega))⟩
def SolV (K:PySem.W.Frag) (H:Hp) (v:V):Option (List Rat)→Prop
 | none=>v=.non
 | some xs=>IsRh H v xs
theorem SolV.tk {K:PySem.W.Frag} {H H':Hp} {v:V} {o:Option (List Rat)} (t:Tk H H') (h:SolV K H v o):SolV K H' v o:=by
 cases o with
 | none=>exact h
 | some xs=>exact IsRh.tk t h
def Zbo (K:PySem.W.Frag) (Ph:Addr):Sp:=fun vs H Q _=>∃ (a ca g:Addr) (k kg:SK) (us gs:List V) (rows:List (List Rat)) (rights:List Rat) (b c:Nat),vs=[.ref a,.ref ca]∧k.At H a us∧Al (IsQs K H) us rows∧H ca=some (.lst [.ref g])∧kg.At H g gs∧Al (IsQ K H) gs rights∧SeOk b c rows rights∧TabF H Ph "head_of.<locals>.<lambda>" ∧
 ∀ (H':Hp) (p t f:Addr) (v:V),X8 Ph H H'→TabF H' Ph "head_of.<locals>.<lambda>" → H' p=some (.tup [.ref t,.ref f])→H' t=some (.lst ((tkn rows rights).map fun n:Nat=>V.int n))→H' f=some (.lst [v])→SolV K H' v (slv rows rights)→Q (.ref p) H'
def Zba (K:PySem.W.Frag) (Ph:Addr):Sp:=fun vs H Q _=>∃ (a g:Addr) (k kg:SK) (us gs:List V) (rows:List (List Rat)) (rights:List Rat) (b c:Nat),vs=[.ref a,.ref g]∧k.At H a us∧Al (IsQs K H) us rows∧kg.At H g gs∧Al (IsQ K H) gs rights∧SeOk b c rows rights∧TabF H Ph "head_of.<locals>.<lambda>" ∧
 ∀ (H':Hp) (p t:Addr) (v:V),X8 Ph H H'→TabF H' Ph "head_of.<locals>.<lambda>" → H' p=some (.tup [.ref t,v])→H' t=some (.lst ((tkn rows rights).map fun n:Nat=>V.int n))→SolV K H' v (slv rows rights)→Q (.ref p) H'
def Zfp (K:PySem.W.Frag) (Ph:Addr):Sp:=fun vs H Q _=>∃ (a g t:Addr) (k:SK) (us gs:List V) (rows:List (List Rat)) (rights:List Rat) (taken:List Nat) (b c:Nat),vs=[.ref a,.ref g,.ref t]∧k.At H a us∧Al (IsQs K H) us rows∧H g=some (.tup gs)∧Al (IsQ K H) gs rights∧H t=some (.lst (taken.map fun n:Nat=>V.int n))∧rows.length≤1000∧taken.length≤1000∧(∀ p∈taken,∀ r∈rows,p < r.length)∧SeOk b c (cols rows taken++[rights]) (List.replicate taken.length 0++[1])∧TabF H Ph "head_of.<locals>.<lambda>" ∧
 ∀ (H':Hp) (v:V),X8 Ph H H'→TabF H' Ph "head_of.<locals>.<lambda>" → SolV K H' v (mixM rows rights taken)→Q v H'
def bt (β:Nat):Nat→Nat
 | 0=>β
 | i+1=>2 * bt β i+1
def gt (β γ:Nat):Nat→Nat
 | 0=>γ
 | i+1=>gt β γ i+bt β i+1
def eb (β γ n s p:Nat):Nat:=if p < n then bt β s else gt β γ s
structure LB (β γ n s:Nat) (x:Int×List Int):Prop where
 nz:x.1≠0
 kn:x.1.natAbs < 2 ^ bt β s
 len:x.2.length=n+1
 bd:∀ p v,x.2[p]? = some v→v.natAbs < 2 ^ eb β γ n s p
theorem Zpo (β s:Nat):bt β s≤bt β (s+1):=by show _≤2 * bt β s+1; omega
theorem Zri (β γ n s p:Nat):eb β γ n s p≤eb β γ n (s+1) p:=by
 unfold eb;split
 · exact Zpo β s
 · show _≤gt β γ s+bt β s+1; omega
theorem LB.up {β γ n s:Nat} {x:Int×List Int} (h:LB β γ n s x):LB β γ n (s+1) x:=⟨h.nz,My.up _ h.kn (Zpo β s),h.len,fun p v e=>My.up _ (h.bd p v e) (Zri ..)⟩
theorem Zoa {a b:Int} {n:Nat} (ha:a.natAbs < 2 ^ n) (hb:b.natAbs < 2 ^ n):(a - b).natAbs < 2 ^ (n+1):=by
 rw [Nat.pow_succ]; omega
theorem Zhk {l:List Int} {p:Nat} (h:p < l.length):l[p]? = some (l.getD p 0):=by rw [n6_,n0_ h]; rfl
theorem LB.clr {β γ n s pl:Nat} {x y:Int×List Int} (h:LB β γ n s x) (g:LB β γ n s y) (hp:pl < n) (nz:y.2.getD pl 0≠0):LB β γ n (s+1) (clr pl y.2 x):=by
 unfold L2.clr;split
 · exact h.up
 · have t:=g.bd pl _ (Zhk (by have:=g.len; omega));have m:=h.bd pl _ (Zhk (by have:=h.len; omega));have e:eb β γ n s pl=bt β s:=if_pos hp;rw [e] at t m;refine ⟨nz,My.up _ t (Zpo β s),?_,fun p v ev=>?_⟩
   · rw [n2_]; unfold prt; rw [n33_,h.len,g.len]; exact n88_ _
   · change ((prt (y.2.getD pl 0) (x.2.getD pl 0) x.2 y.2).map _)[p]? = some v at ev;rw [n5_] at ev;obtain ⟨u,eu,rfl⟩:=n37_.mp ev;have gp:=(Zmc h.nz (prt (y.2.getD pl 0) (x.2.getD pl 0) x.2 y.2)).1;refine Yt (by omega) ?_;unfold prt at eu;rw [n24_] at eu;split at eu
     · rename_i o i eo ei
       cases eu
       have ho:=h.bd p o eo;have hi:=g.bd p i ei
       have z:eb β γ n (s+1) p=bt β s+eb β γ n s p+1:=by
        unfold eb; split
        · show 2 * bt β s+1=_; omega
        · show gt β γ s+bt β s+1=_; omega
       rw [z];exact Zoa (FM.natAbs_mul_lt t ho) (FM.natAbs_mul_lt m hi)
     · cases eu
structure SI (β γ n m i:Nat) (S:Stt):Prop where
 left:∀ x∈S.2,LB β γ n S.1.length x
 cnt:S.1.length+S.2.length=m
 le:S.1.length≤i
 st:∀ k x,S.1[k]? = some x→x.1 < i∧x.2.getD x.1 0≠0∧LB β γ n k (1,x.2)
theorem Zil {β γ n:Nat} {lines:List (List Int)} (b1:1≤β) (h:∀ l∈lines,l.length=n+1∧∀ p v,l[p]? = some v→v.natAbs < 2 ^ eb β γ n 0 p):∀ i,i≤n→SI β γ n lines.length i (stp lines i)
 | 0,_=>by
   refine ⟨fun x hx=>?_,by show 0+(lines.map fun l=>((1:Int),l)).length=_; simp,n9_ _,fun k x e=>by cases e⟩;change x∈lines.map _ at hx;obtain ⟨l,hl,rfl⟩:=n22_.mp hx;exact ⟨by show (1:Int)≠0; decide,n61_ (by show β≠0; omega),(h l hl).1,(h l hl).2⟩
 | i+1,hi=>by
   have ih:=Zil b1 h i (by omega);cases e:X0 (stp lines i).2 i with
   | none =>
     rw [Za7 e];exact ⟨ih.left,ih.cnt,by have:=ih.le; omega,fun k x e=>⟨by have:=(ih.st k x e).1; omega,(ih.st k x e).2⟩⟩
   | some a =>
     obtain ⟨ha,hz⟩:=Zah e;rw [Zby e];have gd:(stp lines i).2.getD a (0,[])=(stp lines i).2[a]:=by rw [n6_,n0_ ha]; rfl
     rw [gd] at hz ⊢;have hh:=ih.left _ (n36_ ha);generalize hS:stp lines i=S at *;generalize S.2[a]=hd at *;refine ⟨fun x hx=>?_,?_,?_,fun k x ek=>?_⟩
     · change x∈(S.2.eraseIdx a).map (L2.clr i hd.2) at hx;obtain ⟨y,hy,rfl⟩:=n22_.mp hx
       have:=(ih.left y (List.mem_of_mem_eraseIdx hy)).clr hh (by omega) hz
       rw [show (S.1++[(i,hd.2)],(S.2.eraseIdx a).map (L2.clr i hd.2)).1.length=S.1.length+1 by simp];exact this
     · show (S.1++[(i,hd.2)]).length+((S.2.eraseIdx a).map (L2.clr i hd.2)).length=_
       rw [n26_,n2_,List.length_eraseIdx,if_pos ha]
       have:=ih.cnt
       show S.1.length+1+_=_
       omega
     · show (S.1++[(i,hd.2)]).length≤_
       rw [n26_];exact Nat.succ_le_succ ih.le
     · change (S.1++[(i,hd.2)])[k]? = some x at ek
       by_cases hk:k < S.1.length
       · rw [n63_ hk] at ek;exact ⟨by have:=(ih.st k x ek).1; omega,(ih.st k x ek).2⟩
       · rw [n62_ (by omega)] at ek
         have k0:k - S.1.length=0:=by
          cases z:k - S.1.length with
          | zero=>rfl
          | succ z'=>rw [z] at ek; simp at ek
         rw [k0] at ek;cases ek
         have:k=S.1.length:=by omega
         subst this
         exact ⟨Nat.lt_succ_self i,hz,⟨by show (1:Int)≠0; decide,n61_ (by
          have:∀ s,1≤bt β s:=fun s=>by
           induction s with
           | zero=>exact b1
           | succ s ih=>show 1≤2 * bt β s+1; omega
          have:=this S.1.length; omega),hh.len,hh.bd⟩⟩
def pbt (β:Nat):Nat→Nat→Nat
 | _,0=>0
 | k,l+1=>bt β k+pbt β (k+1) l
theorem Zi6 {β k l:Nat} (h:k+l≤5):pbt β k l≤31 * β+26:=by
 match k,l,h with
 | k,0,_=>exact n56_ _
 | 0,1,_=>simp only [pbt,bt]; omega
 | 0,2,_=>simp only [pbt,bt]; omega
 | 0,3,_=>simp only [pbt,bt]; omega
 | 0,4,_=>simp only [pbt,bt]; omega
 | 0,5,_=>simp only [pbt,bt]; omega
 | 1,1,_=>simp only [pbt,bt]; omega
 | 1,2,_=>simp only [pbt,bt]; omega
 | 1,3,_=>simp only [pbt,bt]; omega
 | 1,4,_=>simp only [pbt,bt]; omega
 | 2,1,_=>simp only [pbt,bt]; omega
 | 2,2,_=>simp only [pbt,bt]; omega
 | 2,3,_=>simp only [pbt,bt]; omega
 | 3,1,_=>simp only [pbt,bt]; omega
 | 3,2,_=>simp only [pbt,bt]; omega
 | 4,1,_=>simp only [pbt,bt]; omega
 | 0,l+6,h=>omega
 | 1,l+5,h=>omega
 | 2,l+4,h=>omega
 | 3,l+3,h=>omega
 | 4,l+2,h=>omega
 | k+5,l+1,h=>omega
def ZQ (P:Int) (ξ:Nat) (x:Rat):Prop:=∃ Z:Int,x * (P:Rat)=(Z:Rat)∧Z.natAbs < 2 ^ ξ
theorem Zqa {P:Int} {a ξ:Nat}:∀ (ts:List (Int×Rat)),(∀ p∈ts,p.1.natAbs < 2 ^ a∧ZQ P ξ p.2)→∃ Z:Int,sumT ts * (P:Rat)=(Z:Rat)∧Z.natAbs≤ts.length * 2 ^ (a+ξ)
 | [],_=>⟨0,by simp [sumT,Rat.zero_mul],by simp⟩
 | p :: ts,h=>by
   obtain ⟨Z,e,hZ⟩:=Zqa ts fun q hq=>h q (n8_ _ hq);obtain ⟨h1,Y,e2,hY⟩:=h p n7_;refine ⟨p.1 * Y+Z,?_,?_⟩
   · rw [Rat.intCast_add,n15_,← e,← e2];unfold sumT;rw [n69_,n57_];generalize (List.map (fun p:Int×Rat=>(p.1:Rat) * p.2) ts).sum=S;generalize (P:Rat)=p';generalize (p.1:Rat)=q'
     grind
   · have h3:=FM.natAbs_mul_lt h1 hY;have h4:=Int.natAbs_add_le (p.1 * Y) Z;rw [n23_,Nat.add_mul,Nat.one_mul];omega
structure StG (β:Nat) (n k:Nat) (x:Nat×List Int):Prop where
 lt:x.1 < n
 len:x.2.length=n+1
 nz:x.2.getD x.1 0≠0
 pv:(x.2.getD x.1 0).natAbs < 2 ^ bt β k
 bd:∀ e∈x.2,e.natAbs < 2 ^ 20000
theorem Zoj {β n:Nat} (hn:n≤190) (hβ:31 * β+26≤3980):∀ (L:List (Nat×List Int)) (k:Nat),k+L.length≤5→(∀ j x,L[j]? = some x→StG β n (k+j) x)→(fil L (List.replicate n 0)).length=n∧∃ P:Int,P≠0∧P.natAbs≤2 ^ pbt β k L.length∧∀ x∈fil L (List.replicate n 0),ZQ P (25000 * L.length) x
 | [],k,_,_=>⟨by show (List.replicate n (0:Rat)).length=n; simp,1,by decide,by show 1≤2 ^ 0; decide,fun x hx=>by
    change x∈List.replicate n (0:Rat) at hx;rw [List.eq_of_mem_replicate hx];exact ⟨0,by simp [Rat.zero_mul],Nat.two_pow_pos _⟩⟩
 | x :: L,k,hk,h=>by
   rw [n23_] at hk
   obtain ⟨ln,P,hP,lP,hx⟩:=Zoj hn hβ L (k+1) (by omega) fun j y e=>by
    have:=h (j+1) y (by rw [List.getElem?_cons_succ]; exact e)
    rwa [show k+1+j=k+(j+1) by omega]
   have G:StG β n k x:=h 0 x rfl;have ef:fil (x :: L) (List.replicate n 0)=(fil L (List.replicate n 0)).set x.1 (putQ x.1 x.2 (fil L (List.replicate n 0))):=rfl;rw [ef];generalize fil L (List.replicate n 0)=X at *;have pb:pbt β (k+1) L.length≤31 * β+26:=Zi6 (by omega);have pb2:pbt β k (L.length+1)≤31 * β+26:=Zi6 (by omega);have pe:pbt β k (L.length+1)=bt β k+pbt β (k+1) L.length:=rfl;have hZ:∀ (Z:Int),Z.natAbs < 2 ^ (25000 * L.length)→(Z * x.2.getD x.1 0).natAbs < 2 ^ (25000 * (L.length+1)):=fun Z z=>My.up _ (FM.natAbs_mul_lt z G.pv) (by rw [Nat.mul_add]; omega);refine ⟨by rw [n68_]; exact ln,P * x.2.getD x.1 0,n93_ hP G.nz,?_,fun y hy=>?_⟩
   · rw [n27_,n23_,pe,Nat.add_comm,n49_];exact n59_ lP (n76_ G.pv)
   · rw [n23_]
     rcases List.mem_or_eq_of_mem_set hy with hy | rfl
     · obtain ⟨Z,e,z⟩:=hx y hy;refine ⟨Z * x.2.getD x.1 0,?_,hZ Z z⟩;rw [n15_,n15_,← e];generalize (P:Rat)=p'
       grind
     · obtain ⟨S,eS,hS⟩:=Zqa (P:=P) (a:=20000) (ξ:=25000 * L.length) ((x.2.drop (x.1+1)).zip (X.drop (x.1+1))) fun p hp=>by
        obtain ⟨h1,h2⟩:=List.of_mem_zip hp;exact ⟨G.bd _ (n89_ h1),hx _ (n89_ h2)⟩
       have hl:((x.2.drop (x.1+1)).zip (X.drop (x.1+1))).length≤190:=by
        rw [List.length_zip,n72_,n72_]; omega
       refine ⟨x.2.getLastD 0 * P - S,?_,?_⟩
       · unfold putQ;rw [Rat.intCast_sub,n15_,n15_,← eS];have hz:=Z8 G.nz;generalize sumT _=s at *;generalize ((x.2.getD x.1 0:Int):Rat)=c at *;generalize (P:Rat)=p' at *
         grind
       · have lst:(x.2.getLastD 0).natAbs < 2 ^ 20000:=by
          have:x.2≠[]:=fun z=>by have:=G.len; rw [z] at this; cases this
          rw [List.getLastD_eq_getLast?,List.getLast?_eq_some_getLast this];exact G.bd _ (List.getLast_mem this)
         have l1:(x.2.getLastD 0 * P).natAbs < 2 ^ (25000 * (L.length+1) - 1):=by
          have:P.natAbs < 2 ^ 3981:=n10_ lP (n21_ (by decide) (by omega))
          exact My.up _ (FM.natAbs_mul_lt lst this) (by rw [Nat.mul_add]; omega)
         have l2:S.natAbs < 2 ^ (25000 * (L.length+1) - 1):=by
          have:S.natAbs≤2 ^ 8 * 2 ^ (20000+25000 * L.length):=n19_ hS (n42_ _ (by have:(2:Nat) ^ 8=256:=rfl; omega))
          rw [← n49_] at this;exact n10_ this (n21_ (by decide) (by rw [Nat.mul_add]; omega))
         have:=Zoa l1 l2
         rwa [show 25000 * (L.length+1) - 1+1=25000 * (L.length+1) by omega] at this
theorem Zj2 {β n:Nat} (hn:n≤190) (hβ:31 * β+26≤3980) {L:List (Nat×List Int)} (hk:L.length≤5) (h:∀ j x,L[j]? = some x→StG β n j x):FilOk L (List.replicate n 0)∧∀ x∈fil L (List.replicate n 0),x.num.natAbs < 2 ^ 200000∧x.den < 2 ^ 4000:=by
 have nd:∀ (L:List (Nat×List Int)) (k:Nat),k+L.length≤5→(∀ j x,L[j]? = some x→StG β n (k+j) x)→(fil L (List.replicate n 0)).length=n∧(∀ x∈fil L (List.replicate n 0),x.num.natAbs < 2 ^ 200000∧x.den < 2 ^ 4000)∧∃ P:Int,P≠0∧P.natAbs≤2 ^ pbt β k L.length∧∀ x∈fil L (List.replicate n 0),(x.den:Int) ∣ P:=fun L k hk h=>by
  obtain ⟨ln,P,hP,lP,hx⟩:=Zoj hn hβ L k hk h;have pb:pbt β k L.length≤31 * β+26:=Zi6 (by omega);refine ⟨ln,fun x hx'=>?_,P,hP,lP,fun x hx'=>?_⟩
  · obtain ⟨Z,e,z⟩:=hx x hx';obtain ⟨d,m⟩:=Zg3 hP e;refine ⟨My.up _ (n10_ m z) (by omega),?_⟩
    have:x.den≤P.natAbs:=Nat.le_of_dvd (by omega) (Int.ofNat_dvd_left.mp d)
    exact n10_ (n19_ this lP) (n21_ (by decide) (by omega))
  · obtain ⟨Z,e,z⟩:=hx x hx';exact (Zg3 hP e).1
 refine ⟨⟨fun i hi=>?_⟩,(nd L 0 (by omega) fun j x e=>by rw [Nat.zero_add]; exact h j x e).2.1⟩;have ei:=n0_ hi;have gd:L.getD i (0,[])=L[i]:=by rw [n6_,ei]; rfl
 rw [gd];have G:=h i _ ei
 obtain ⟨ln,nb,P,hP,lP,dv⟩:=nd (L.drop (i+1)) (i+1) (by rw [n72_]; omega) fun j x e=>by
  rw [List.getElem?_drop] at e; exact h _ x e
 refine ⟨by rw [ln]; exact G.lt,by rw [ln]; exact G.len,G.nz,fun e he=>My.up _ (G.bd e he),fun x hx=>(nb x hx).1,fun x hx=>(nb x hx).2,by omega,?_⟩
 have dl:lcmL (bots ((trm L[i].1 L[i].2 (fil (L.drop (i+1)) (List.replicate n 0))).map Prod.snd)) ∣ P:=(Y9 _ (Y3 _)).2.2 P fun z hz=>by
  obtain ⟨q,hq,rfl⟩:=n22_.mp hz;obtain ⟨t,ht,rfl⟩:=n22_.mp hq;exact dv _ (n89_ (List.of_mem_zip (List.mem_filter.mp ht).1).2)
 have l1:=Nat.le_of_dvd (by omega) (n95_.mpr dl);have pe:bt β i+pbt β (i+1) (L.drop (i+1)).length=pbt β i ((L.drop (i+1)).length+1):=rfl;have pb:pbt β i ((L.drop (i+1)).length+1)≤31 * β+26:=Zi6 (by rw [n72_]; omega);rw [n27_];have l2:=n59_ (n19_ l1 lP) (n76_ G.pv);rw [← n49_] at l2;exact n10_ l2 (n21_ (by decide) (by omega))
structure SysOk (rows:List (List Rat)) (rights:List Rat):Prop where
 rl:rights.length=rows.length
 n:rows.length≤60
 wd:∀ r∈rows,r.length=wid rows
 w:wid rows≤190
 rb:∀ r∈rows,∀ q∈r,FM.B 105 q
 lc:∀ r∈rows,(lcmL (bots r)).natAbs < 2 ^ 12
 gb:∀ q∈rights,FM.B 105 q
 mw:rows.length≤5∨wid rows≤5
theorem SysOk.rt {rows:List (List Rat)} {rights:List Rat} (S:SysOk rows rights):RtB 105 rows rights:=⟨S.rl,by have:=S.n; omega,fun r hr=>⟨S.rb r hr,by decide,by rw [S.wd r hr]; have:=S.w; omega,by rw [S.wd r hr]; have:=S.w; omega⟩,S.gb,by decide⟩
theorem Zdy {rows:List (List Rat)} {rights:List Rat} (S:SysOk rows rights) {r:List Rat} (hr:r∈rows):(scl r).1.natAbs < 2 ^ 12:=by
 unfold scl;split
 · exact n61_ (by decide)
 · exact S.lc r hr
theorem SysOk.eb {rows:List (List Rat)} {rights:List Rat} (S:SysOk rows rights):LnB 250 (rtv rows rights):=by
 have hl:(rtv rows rights).length=rows.length:=by unfold rtv; rw [n33_,S.rl]; exact n88_ _
 refine ⟨fun q hq=>?_,by decide,by rw [hl]; have:=S.n; omega,by rw [hl]; have:=S.n; omega⟩;obtain ⟨i,hi,e⟩:=n45_ hq;have e':(rtv rows rights)[i]? = some q:=by rw [← e]; exact n0_ hi
 unfold rtv at e';rw [n24_] at e';split at e'
 · rename_i row r er eg
   cases e'
   have m1:=n1_ er;have m2:=n1_ eg;have so:=Zbf (S.rt.rb row m1);have s2:=Zh7 (S.rt.rb row m1);have s1:=Zdy S m1;have gb:=S.gb r m2;have hP:(r.den:Int) * (scl row).2≠0:=n93_ (FM.den_ne r) (by omega)
   have q:mxd [(scl row).1] [r] (scl row).2 * (((r.den:Int) * (scl row).2:Int):Rat)=(((scl row).1 * r.num:Int):Rat):=by
    unfold mxd dotQ;rw [n15_,n15_];have e:=Zbm r;have hd:=Zdp r;have hs:=Z8 (show (scl row).2≠0 by omega);have hd2:((r.den:Int):Rat)=(r.den:Rat):=by first | rfl | exact n91_ _
    rw [hd2];show (((scl row).1:Rat) * r+0) / _ * _=_
    generalize ((scl row).1:Rat)=a at *;generalize ((scl row).2:Rat)=b at *;generalize (r.num:Rat)=n at *;generalize (r.den:Rat)=dd at *;rw [e]
    grind
   obtain ⟨d,m⟩:=Zg3 hP q;refine ⟨My.up _ (n10_ m (FM.natAbs_mul_lt s1 gb.1)),?_⟩
   have:=Nat.le_of_dvd (by omega) (n95_.mpr d)
   exact My.up _ (n10_ this (FM.natAbs_mul_lt gb.2 s2))
 · cases e'
theorem SysOk.lines {rows:List (List Rat)} {rights:List Rat} (S:SysOk rows rights):(lns rows rights).length=rows.length∧∀ l∈lns rows rights,l.length=wid rows+1∧∀ p v,l[p]? = some v→v.natAbs < 2 ^ My.eb 117 16000 (wid rows) 0 p:=by
 have hl:(rtv rows rights).length=rows.length:=by unfold rtv; rw [n33_,S.rl]; exact n88_ _
 have ll:(lns rows rights).length=rows.length:=by unfold lns lvd; rw [n33_,n2_,hl]; exact n88_ _
 refine ⟨ll,fun l hm=>?_⟩;obtain ⟨i,hi,e⟩:=n45_ hm;have e':(lns rows rights)[i]? = some l:=by rw [← e]; exact n0_ hi
 unfold lns at e';rw [n24_] at e';split at e'
 · rename_i row t er et
   cases e'
   have m1:=n1_ er;have lw:(wh row).length=wid rows:=by rw [Zcj,S.wd row m1]
   refine ⟨by rw [n26_,lw]; rfl,fun p v ev=>?_⟩;unfold My.eb
   by_cases hp:p < wid rows
   · rw [if_pos hp];rw [n63_ (by omega)] at ev;obtain ⟨q,hq,rfl⟩:=n22_.mp (n1_ ev);have so:=Zbf (S.rt.rb row m1);exact My.up 117 (FM.natAbs_mul_lt (Yt so.2.2.1 (S.rb row m1 q hq).1) (Yt (FM.den_pos q) (Zdy S m1)))
   · rw [if_neg hp];rw [n62_ (by omega)] at ev
     have:v=t:=by
      rw [lw] at ev;cases z:p - wid rows with
      | zero=>rw [z] at ev; exact (Option.some.inj ev).symm
      | succ z'=>rw [z] at ev; simp at ev
     subst this;obtain ⟨q,hq,rfl⟩:=n22_.mp (n1_ et);have lc:=Zdu _ S.eb.bots;rw [n2_,hl] at lc;exact My.up 16000 (FM.natAbs_mul_lt (S.eb.bd q hq).1 (Yt (FM.den_pos q) lc)) (by have:=S.n; omega)
 · cases e'
theorem eb_4 {n s p:Nat} (h:s≤5):My.eb 117 16000 n s p≤20000:=by
 unfold My.eb
 match s,h with
 | 0,_=>split <;> simp only [gt,bt] <;> omega
 | 1,_=>split <;> simp only [gt,bt] <;> omega
 | 2,_=>split <;> simp only [gt,bt] <;> omega
 | 3,_=>split <;> simp only [gt,bt] <;> omega
 | 4,_=>split <;> simp only [gt,bt] <;> omega
 | 5,_=>split <;> simp only [gt,bt] <;> omega
theorem bt_4 {s:Nat} (h:s≤5):bt 117 s≤4000:=by
 match s,h with
 | 0,_=>simp only [bt]; omega
 | 1,_=>simp only [bt]; omega
 | 2,_=>simp only [bt]; omega
 | 3,_=>simp only [bt]; omega
 | 4,_=>simp only [bt]; omega
 | 5,_=>simp only [bt]; omega
theorem SysOk.se {rows:List (List Rat)} {rights:List Rat} (S:SysOk rows rights):SeOk 105 250 rows rights:=by
 obtain ⟨ll,hL⟩:=S.lines;have SIs:=Zil (β:=117) (γ:=16000) (n:=wid rows) (lines:=lns rows rights) (by decide) hL
 have s4:∀ i,i≤wid rows→(stp (lns rows rights) i).1.length≤5:=fun i hi=>by
  have h:=SIs i hi;have h1:=h.cnt;have h2:=h.le
  rcases S.mw with m | m <;> omega
 have sn:=s4 (wid rows) (n9_ _)
 have fb:=Zj2 (β:=117) (n:=wid rows) S.w (by decide) (L:=(stF rows rights).1) sn fun j x e=>by
  obtain ⟨h1,h2,h3⟩:=(SIs (wid rows) (n9_ _)).st j x e;have hj:j < (stF rows rights).1.length:=(n34_.mp e).1;have j4:j≤5:=by have:(stF rows rights).1.length≤5:=sn; omega
  have ln:x.2.length=wid rows+1:=h3.len;refine ⟨h1,ln,h2,?_,fun e' he=>?_⟩
  · have:=h3.bd x.1 _ (Zhk (by show _ < x.2.length; omega))
    rwa [show My.eb 117 16000 (wid rows) j x.1=bt 117 j from if_pos h1] at this
  · obtain ⟨p,hp,rfl⟩:=n45_ he;exact My.up _ (h3.bd p _ (n0_ hp)) (eb_4 j4)
 exact { toRtB:=S.rt,wd:=S.wd,w:=S.w,eb:=S.eb,so:=⟨by omega,by have:=S.w; omega,by rw [ll]; have:=S.n; omega,fun i hi x hx=>by
  have h:=(SIs i hi).left x hx;refine ⟨h.nz,My.up _ h.kn (bt_4 (s4 i hi)),h.len,fun e he=>?_⟩;obtain ⟨p,hp,rfl⟩:=n45_ he;exact My.up _ (h.bd p _ (n0_ hp)) (n19_ (eb_4 (s4 i hi)) (by decide))⟩,fo:=fb.1,fb:=fb.2 }
def Dv (c:Int) (n:Nat) (q:Rat):Prop:=∃ z:Int,q * (c:Rat)=(z:Rat)∧z.natAbs≤n
theorem Dv.den {c:Int} {n:Nat} {q:Rat} (h:Dv c n q) (hc:c≠0):(q.den:Int) ∣ c∧q.num.natAbs≤n:=by
 obtain ⟨z,e,b⟩:=h;obtain ⟨h1,h2⟩:=Zg3 hc e;exact ⟨h1,n19_ h2 b⟩
theorem Zda {a:Int} {c:Int} {n:Nat} (h:a ∣ c) (hc:1≤c) (hn:c.natAbs < 2 ^ n):a.natAbs < 2 ^ n:=n10_ (Nat.le_of_dvd (by omega) (n95_.mpr h)) hn
structure RowsOk (rows:List (List Rat)) (rights:List Rat):Prop where
 wd:∀ r∈rows,r.length=wid rows
 w4:wid rows≤4
 m6:rows.length≤6
 rl:rights.length=rows.length
 r60:∀ r∈rows,∀ q∈r,Dv 60 (2 ^ 52) q
 g36:∀ q∈rights,Dv 3600 (2 ^ 104) q
 vals:∃ vs:List Rat,(∀ v∈vs,∃ z:Int,v * ((60:Int):Rat)=(z:Rat))∧∀ (i:Nat) row r,rows[i]? = some row→rights[i]? = some r→i+1 < rows.length→r=rdot row vs
theorem Dv.b103 {c:Int} {n:Nat} {q:Rat} (h:Dv c (2 ^ n) q) (hc:1≤c) (c12:c.natAbs < 2 ^ 12) (hn:n≤104):FM.B 105 q:=by
 obtain ⟨h1,h2⟩:=h.den (by omega);exact ⟨n10_ h2 (n21_ (by decide) (by omega)),My.up 105 (show ((q.den:Int)).natAbs < 2 ^ 12 from Zda h1 hc c12)⟩
theorem Zi1 {c:Int} {qs:List Rat} (hc:1≤c) (h:∀ q∈qs,(q.den:Int) ∣ c):lcmL (bots qs) ∣ c:=(Y9 _ (Y3 qs)).2.2 c fun x hx=>by
 obtain ⟨q,hq,rfl⟩:=n22_.mp hx;exact h q hq
theorem RowsOk.sys {rows:List (List Rat)} {rights:List Rat} (R:RowsOk rows rights):SysOk rows rights:=by
 have m6:=R.m6;have w4:=R.w4;exact ⟨R.rl,by omega,R.wd,by omega,fun r hr q hq=>(R.r60 r hr q hq).b103 (by decide) (by decide) (by decide),fun r hr=>Zda (Zi1 (by decide) fun q hq=>((R.r60 r hr q hq).den (by decide)).1) (by decide) (by decide),fun q hq=>(R.g36 q hq).b103 (by decide) (by decide) (by decide),by omega⟩
theorem RowsOk.tk {rows:List (List Rat)} {rights:List Rat} (R:RowsOk rows rights):(tkn rows rights).length≤wid rows∧∀ p∈tkn rows rights,p < wid rows:=by
 obtain ⟨ll,hL⟩:=R.sys.lines;have SIs:=Zil (β:=117) (γ:=16000) (n:=wid rows) (lines:=lns rows rights) (by decide) hL (wid rows) (n9_ _);have le:=SIs.le;unfold tkn;rw [n2_];refine ⟨le,fun p hp=>?_⟩;obtain ⟨x,hx,rfl⟩:=n22_.mp hp;obtain ⟨i,hi,e⟩:=n45_ hx;exact (SIs.st i x (by rw [← e]; exact n0_ hi)).1
theorem RowsOk.cols {rows:List (List Rat)} {rights:List Rat} (R:RowsOk rows rights):(∀ r∈cols rows (tkn rows rights)++[rights],r.length=rows.length∧∀ q∈r,Dv 3600 (2 ^ 104) q)∧wid (cols rows (tkn rows rights)++[rights])=rows.length∧(cols rows (tkn rows rights)).length=(tkn rows rights).length:=by
 have cm:∀ r∈L2.cols rows (tkn rows rights)++[rights],r.length=rows.length∧∀ q∈r,Dv 3600 (2 ^ 104) q:=fun r hr=>by
  rcases n29_.mp hr with hr | hr
  · obtain ⟨pl,hp,rfl⟩:=n22_.mp hr;refine ⟨by rw [n2_],fun q hq=>?_⟩;obtain ⟨row,hrow,rfl⟩:=n22_.mp hq;have lt:pl < row.length:=by rw [R.wd row hrow]; exact R.tk.2 pl hp
    have m:row.getD pl 0∈row:=by rw [n6_,n0_ lt]; exact n36_ lt
    obtain ⟨z,e,b⟩:=R.r60 row hrow _ m;refine ⟨z * 60,?_,?_⟩
    · rw [n15_,← e];have h1:((3600:Int):Rat)=((60:Int):Rat) * ((60:Int):Rat):=by rw [← n15_]; rfl
      rw [h1]; grind
    · rw [n27_];exact n19_ (n59_ b (show (60:Int).natAbs≤2 ^ 6 by decide)) (by rw [← n49_]; exact n11_ (by decide) (by decide))
  · rw [n13_.mp hr];exact ⟨R.rl,R.g36⟩
 refine ⟨cm,?_,by unfold L2.cols; rw [n2_]⟩;cases e:L2.cols rows (tkn rows rights)++[rights] with
 | nil=>simp at e
 | cons r rs=>exact (cm r (by rw [e]; exact n7_)).1
theorem RowsOk.mixS {rows:List (List Rat)} {rights:List Rat} (R:RowsOk rows rights):SysOk (L2.cols rows (tkn rows rights)++[rights]) (List.replicate (tkn rows rights).length 0++[1]):=by
 obtain ⟨cm,wC,lc⟩:=R.cols;have t:=R.tk.1;have w4:=R.w4;have m6:=R.m6;refine ⟨by rw [n26_,n26_,lc,n18_]; rfl,by rw [n26_,lc]; show _+1≤_; omega,fun r hr=>by rw [wC]; exact (cm r hr).1,by rw [wC]; omega,fun r hr q hq=>((cm r hr).2 q hq).b103 (by decide) (by decide) (by decide),fun r hr=>Zda (Zi1 (by decide) fun q hq=>(((cm r hr).2 q hq).den (by decide)).1) (by decide) (by decide),fun q hq=>?_,?_⟩
 · rcases n29_.mp hq with hq | hq
   · rw [List.eq_of_mem_replicate hq]; exact ⟨by decide,by decide⟩
   · rw [n13_.mp hq]; exact ⟨by decide,by decide⟩
 · left
   rw [n26_,lc];show _+1≤5
   omega
def Zm4 (xs:List Rat):Prop:=∃ C:Int,1≤C∧C.natAbs≤2 ^ 840∧∀ x∈xs,Dv C (2 ^ 840) x
theorem Zrb {s M μ:Nat} (hs:s≤5) (hM:M≤2 ^ μ):(2 * (s+1) * M+1) ^ s≤2 ^ ((μ+4) * s):=by
 rw [Nat.pow_mul];refine Nat.pow_le_pow_left ?_ s;have h1:2 * (s+1) * M≤12 * 2 ^ μ:=n59_ (by omega) hM;have h2:2 ^ (μ+4)=16 * 2 ^ μ:=by rw [n49_,n92_]
 have h3:1≤2 ^ μ:=Nat.one_le_two_pow;omega
theorem Zf8 {rows:List (List Rat)} {rights:List Rat} {μ ν σ:Nat} (S:SysOk rows rights) (s5:(stp (lns rows rights) (wid rows)).1.length≤σ) (σ5:σ≤5) (hM:∀ l∈lns rows rights,∀ x∈l,x.natAbs≤2 ^ μ) (hL:(lcmL (bots (rtv rows rights))).natAbs < 2 ^ ν) (hb:(μ+4) * σ+ν≤840) {xs:List Rat} (h:slv rows rights=some xs):Zm4 xs:=by
 have SE:=S.se;obtain ⟨ll,hLn⟩:=S.lines;have ok:∀ i,i≤wid rows→∀ x∈(stp (lns rows rights) i).2,x.1≠0∧x.2.length=wid rows+1:=fun i hi x hx=>⟨(SE.so.ok i hi x hx).nz,(SE.so.ok i hi x hx).len⟩;obtain ⟨D,D0,DB,hD⟩:=Zl6 (M:=2 ^ μ) ok (fun l hl=>(hLn l hl).1) hM;have KB:(2 * ((stp (lns rows rights) (wid rows)).1.length+1) * 2 ^ μ+1) ^ (stp (lns rows rights) (wid rows)).1.length≤2 ^ ((μ+4) * σ):=n19_ (Zrb (by omega) (n9_ _)) (n11_ (by decide) (n53_ _ s5));have fo:=Zl1 (bots (rtv rows rights)) (Y3 _);have Lp:=(Y9 _ (Y3 (rtv rows rights))).1;unfold slv at h;split at h
 · cases h
 cases h
 rw [fo.2.1];generalize hLL:lcmL (bots (rtv rows rights))=L at *;have DL:D * L≠0:=n93_ D0 (by omega);refine ⟨(D * L).natAbs,by omega,?_,fun x hx=>?_⟩
 · show (D * L).natAbs≤2 ^ 840
   rw [n27_];exact n19_ (n59_ (n19_ DB KB) (n76_ hL)) (by rw [← n49_]; exact n11_ (by decide) hb)
 · obtain ⟨y,hy,rfl⟩:=n22_.mp hx;obtain ⟨Z,eZ,bZ⟩:=hD y hy;have Lz:=Z8 (show L≠0 by omega)
   have e:y / (L:Rat) * ((D * L:Int):Rat)=(Z:Rat):=by
    rw [n15_,← eZ];generalize (L:Rat)=l at *;generalize (D:Rat)=d at *
    grind
   have b840:Z.natAbs≤2 ^ 840:=n19_ (n19_ bZ KB) (n11_ (by decide) (by omega))
   by_cases h0:0≤D * L
   · exact ⟨Z,by rw [show (((D * L).natAbs:Nat):Int)=D * L by omega]; exact e,b840⟩
   · refine ⟨-Z,?_,by rw [Int.natAbs_neg]; exact b840⟩;rw [show (((D * L).natAbs:Nat):Int) = -(D * L) by omega,Rat.intCast_neg,Rat.intCast_neg,← e]
     grind
theorem Zqn {rows:List (List Rat)} {rights:List Rat} (S:SysOk rows rights) {row:List Rat} (h:row∈rows):∀ x∈wh row,x.natAbs≤2 ^ 117:=fun x hx=>by
 obtain ⟨q,hq,rfl⟩:=n22_.mp hx;have so:=Zbf (S.rt.rb row h);exact n76_ (My.up 117 (FM.natAbs_mul_lt (Yt so.2.2.1 (S.rb row h q hq).1) (Yt (FM.den_pos q) (Zdy S h))))
theorem Zlm {rows:List (List Rat)} {rights:List Rat} {l:List Int} (hl:l∈lns rows rights):∃ (i:Nat) (row:List Rat) (t:Int),rows[i]? = some row∧(lvd (rtv rows rights))[i]? = some t∧l=wh row++[t]:=by
 obtain ⟨i,hi,e⟩:=n45_ hl;have e':(lns rows rights)[i]? = some l:=by rw [← e]; exact n0_ hi
 unfold lns at e';rw [n24_] at e';split at e'
 · rename_i row t er et
   cases e'
   exact ⟨i,row,t,er,et,rfl⟩
 · cases e'
theorem Zkl {c:Int}:∀ (ws:List Int) (vs:List Rat),(∀ v∈vs,∃ z:Int,v * (c:Rat)=(z:Rat))→∃ z:Int,dotQ ws vs * (c:Rat)=(z:Rat)
 | [],vs,_=>⟨0,by rw [Xg,Rat.zero_mul]; rfl⟩
 | _ :: _,[],_=>⟨0,by rw [Yo,Rat.zero_mul]; rfl⟩
 | a :: ws,v :: vs,h=>by
   obtain ⟨z,e⟩:=Zkl ws vs fun x hx=>h x (n8_ _ hx);obtain ⟨y,e2⟩:=h v n7_;refine ⟨a * y+z,?_⟩;rw [Zu,Rat.intCast_add,n15_,← e,← e2]
   grind
theorem RowsOk.small {rows:List (List Rat)} {rights:List Rat} (R:RowsOk rows rights) {xs:List Rat} (h:slv rows rights=some xs):Zm4 xs:=by
 have S:=R.sys;have lrt:(rtv rows rights).length=rows.length:=by unfold rtv; rw [n33_,R.rl]; exact n88_ _
 have at_:∀ (i:Nat) q,(rtv rows rights)[i]? = some q→∃ row r,rows[i]? = some row∧rights[i]? = some r∧q=lam row * r:=fun i q e=>by
  unfold rtv at e;rw [n24_] at e;split at e
  · rename_i row r er eg
    cases e
    exact ⟨row,r,er,eg,Ziw (rows:=rows) (rights:=rights)⟩
  · cases e
 obtain ⟨vs,v60,vr⟩:=R.vals
 obtain ⟨e,e1,e2,ed⟩:∃ e:Int,1≤e∧e.natAbs < 2 ^ 65∧∀ q∈rtv rows rights,(q.den:Int) ∣ 60 * e:=by
  have first:∀ (i:Nat) q,(rtv rows rights)[i]? = some q→i+1 < rows.length→(q.den:Int) ∣ 60:=fun i q eq hi=>by
   obtain ⟨row,r,er,eg,rfl⟩:=at_ i q eq
   rw [vr i row r er eg hi,← Zde];obtain ⟨z,ez⟩:=Zkl (wh row) vs v60;exact (Zg3 (by decide) ez).1
  by_cases hm:rows=[]
  · refine ⟨1,by decide,by decide,fun q hq=>?_⟩
    have:rtv rows rights=[]:=List.length_eq_zero_iff.mp (by rw [lrt,hm]; rfl)
    rw [this] at hq; cases hq
  · have hpos:0 < rows.length:=n71_.mpr hm;have hlast:rows.length - 1 < (rtv rows rights).length:=by omega
    refine ⟨((rtv rows rights)[rows.length - 1].den:Int),FM.den_pos _,?_,fun q hq=>?_⟩
    · obtain ⟨row,r,er,eg,eq⟩:=at_ _ _ (n0_ hlast)
      rw [eq];obtain ⟨z,ez,bz⟩:=R.g36 r (n1_ eg);have so:=Zbf (S.rt.rb row (n1_ er))
      have s2:(scl row).2.natAbs < 2 ^ 53:=by
       unfold scl;split
       · exact n61_ (by decide)
       · exact Zik fun p hp=>by
          obtain ⟨q',hq',rfl⟩:=n22_.mp hp;exact n10_ ((R.r60 row (n1_ er) q' hq').den (by decide)).2 (n21_ (by decide) (by decide))
      have h1:lam row * r * ((3600 * (scl row).2:Int):Rat)=(((scl row).1 * z:Int):Rat):=by
       rw [n15_,n15_,← ez];unfold lam;have n2:=Z8 (show (scl row).2≠0 by omega);generalize ((scl row).1:Rat)=A at *;generalize ((scl row).2:Rat)=B at *;generalize ((3600:Int):Rat)=C at *
       grind
      have dv:=(Zg3 (n93_ (by decide) (by omega)) h1).1;refine n10_ (Nat.le_of_dvd (by have:(3600 * (scl row).2)≠0:=n93_ (by decide) (by omega); omega) (n95_.mpr dv)) ?_;exact FM.natAbs_mul_lt (show (3600:Int).natAbs < 2 ^ 12 by decide) s2
    · obtain ⟨i,hi,rfl⟩:=n45_ hq
      by_cases hi':i+1 < rows.length
      · exact Int.dvd_trans (first i _ (n0_ hi) hi') ⟨_,rfl⟩
      · have:i=rows.length - 1:=by omega
        subst this;exact ⟨60,by rw [n55_]⟩
 have Ld:=Zi1 (c:=60 * e) (by omega) ed;have LB:(lcmL (bots (rtv rows rights))).natAbs < 2 ^ 72:=Zda Ld (by omega) (My.up 72 (FM.natAbs_mul_lt (show (60:Int).natAbs < 2 ^ 6 by decide) e2))
 have s4:(stp (lns rows rights) (wid rows)).1.length≤4:=by
  have h1:=R.tk.1;unfold tkn at h1;rw [n2_] at h1;have w4:=R.w4;exact n19_ h1 w4
 refine Zf8 (μ:=188) (ν:=72) (σ:=4) S s4 (by decide) (fun l hl x hx=>?_) LB (by decide) h;obtain ⟨i,row,t,er,et,rfl⟩:=Zlm hl;have mr:=n1_ er
 rcases n29_.mp hx with hx | hx
 · exact n19_ (Zqn S mr x hx) (n11_ (by decide) (by decide))
 · rw [n13_.mp hx];have hi:i < rights.length:=by rw [R.rl]; exact (n34_.mp er).1
   have tv:=Zml i er (n0_ hi) et;obtain ⟨z,ez,bz⟩:=R.g36 _ (n36_ hi);have so:=Zbf (S.rt.rb row mr);have s1:=Zdy S mr
   have h1:lam row * rights[i] * ((3600 * (scl row).2:Int):Rat)=(((scl row).1 * z:Int):Rat):=by
    rw [n15_,n15_,← ez];unfold lam;have n2:=Z8 (show (scl row).2≠0 by omega);generalize ((scl row).1:Rat)=A at *;generalize ((scl row).2:Rat)=B at *;generalize ((3600:Int):Rat)=C at *
    grind
   have h2:((t * (3600 * (scl row).2):Int):Rat)=(((scl row).1 * z * lcmL (bots (rtv rows rights)):Int):Rat):=by
    have l1:((t * (3600 * (scl row).2):Int):Rat)=(t:Rat) * ((3600 * (scl row).2:Int):Rat):=n15_ ..;have l2:(((scl row).1 * z * lcmL (bots (rtv rows rights)):Int):Rat)=(((scl row).1 * z:Int):Rat) * ((lcmL (bots (rtv rows rights)):Int):Rat):=n15_ ..;rw [l1,l2,tv,← h1];generalize ((3600 * (scl row).2:Int):Rat)=A;generalize ((lcmL (bots (rtv rows rights)):Int):Rat)=B
    grind
   have h3:t * (3600 * (scl row).2)=(scl row).1 * z * lcmL (bots (rtv rows rights)):=by exact_mod_cast h2
   have h4:t.natAbs≤(t * (3600 * (scl row).2)).natAbs:=by
    rw [n27_];refine Nat.le_mul_of_pos_right _ ?_
    have:3600 * (scl row).2≠0:=n93_ (by decide) (by omega)
    omega
   rw [h3,n27_,n27_] at h4;have h5:(scl row).1.natAbs * z.natAbs * (lcmL (bots (rtv rows rights))).natAbs≤2 ^ 12 * 2 ^ 104 * 2 ^ 72:=n59_ (n59_ (n76_ s1) bz) (n76_ LB);rw [← n49_,← n49_] at h5;exact n19_ h4 h5
theorem RowsOk.mixSmall {rows:List (List Rat)} {rights:List Rat} (R:RowsOk rows rights) {xs:List Rat} (h:mixM rows rights (tkn rows rights)=some xs):Zm4 xs:=by
 have S:=R.mixS;obtain ⟨cm,wC,lc⟩:=R.cols;unfold mixM at h;generalize hC:L2.cols rows (tkn rows rights)++[rights]=A at *;generalize hG:(List.replicate (tkn rows rights).length (0:Rat)++[1])=G at *
 have at_:∀ q∈rtv A G,q=0∨∃ row∈A,q=lam row:=fun q hq=>by
  obtain ⟨i,hi⟩:=n60_.mp hq;unfold rtv at hi;rw [n24_] at hi;split at hi
  · rename_i row g er eg
    cases hi
    rw [Ziw (rows:=A) (rights:=G)];have mg:=n1_ eg;rw [← hG] at mg
    rcases n29_.mp mg with z | z
    · left; rw [List.eq_of_mem_replicate z]; grind
    · right; exact ⟨row,n1_ er,by rw [n13_.mp z]; grind⟩
  · cases hi
 have one:∀ i,i+1 < (rtv A G).length→(rtv A G)[i]? = some 0:=fun i hi=>by
  have lA:A.length=(tkn rows rights).length+1:=by rw [← hC,n26_,lc]; rfl
  have lG:G.length=A.length:=S.rl;have lr:(rtv A G).length=A.length:=by unfold rtv; rw [n33_,lG]; exact n88_ _
  have e1:=n0_ (show i < A.length by omega);have e2:G[i]? = some 0:=by rw [← hG,n63_ (by rw [n18_]; omega),n58_,if_pos (by omega)]
  unfold rtv;rw [n24_,e1,e2];show some (mxd _ _ _)=some 0
  rw [Ziw (rows:=A) (rights:=G)]
  congr 1
  grind
 have lamB:∀ row∈A,(lam row).num.natAbs < 2 ^ 12∧(lam row).den < 2 ^ 106:=fun row hr=>by
  have so:=Zbf (S.rt.rb row hr);have s2:=Zh7 (S.rt.rb row hr)
  have e:lam row * (((scl row).2:Int):Rat)=(((scl row).1:Int):Rat):=by
   unfold lam;have n2:=Z8 (show (scl row).2≠0 by omega);generalize ((scl row).1:Rat)=A at *;generalize ((scl row).2:Rat)=B at *
   grind
  obtain ⟨d,n⟩:=Zg3 (by omega) e;exact ⟨n10_ n (Zdy S hr),show ((lam row).den:Int).natAbs < 2 ^ 106 from Zda d (by omega) s2⟩
 have den1:∃ e:Int,1≤e∧e.natAbs < 2 ^ 106∧∀ q∈rtv A G,(q.den:Int) ∣ e:=by
  by_cases hm:rtv A G=[]
  · exact ⟨1,by decide,n61_ (by decide),fun q hq=>by rw [hm] at hq; cases hq⟩
  · have hpos:0 < (rtv A G).length:=n71_.mpr hm;have hl:(rtv A G).length - 1 < (rtv A G).length:=by omega
    refine ⟨((rtv A G)[(rtv A G).length - 1].den:Int),FM.den_pos _,?_,fun q hq=>?_⟩
    · rcases at_ _ (n36_ hl) with z | ⟨row,hr,z⟩
      · rw [z]; exact n61_ (by decide)
      · rw [z]; exact (lamB row hr).2
    · obtain ⟨i,hi,rfl⟩:=n45_ hq
      by_cases hi':i+1 < (rtv A G).length
      · have:=one i hi'
        rw [n0_ hi] at this;rw [Option.some.inj this];exact Int.one_dvd _
      · have:i=(rtv A G).length - 1:=by omega
        subst this;exact Int.dvd_refl _
 obtain ⟨e,e1,e2,ed⟩:=den1;have Ld:=Zi1 (c:=e) e1 ed;have LB:=Zda Ld e1 e2
 have lA:A.length≤5:=by
  have h1:=R.tk.1;have w4:=R.w4;rw [← hC,n26_,lc];show _+1≤5
  omega
 have s5:(stp (lns A G) (wid A)).1.length≤5:=by
  obtain ⟨ll,hLn⟩:=S.lines;have SIs:=Zil (β:=117) (γ:=16000) (n:=wid A) (lines:=lns A G) (by decide) hLn (wid A) (n9_ _);have h1:=SIs.cnt;omega
 refine Zf8 (μ:=118) (ν:=106) (σ:=5) S s5 (by decide) (fun l hl x hx=>?_) LB (by decide) h;obtain ⟨i,row,t,er,et,rfl⟩:=Zlm hl
 rcases n29_.mp hx with hx | hx
 · exact n19_ (Zqn S (n1_ er) x hx) (n11_ (by decide) (by decide))
 · rw [n13_.mp hx];unfold lvd at et;rw [n5_] at et;obtain ⟨q,eq,rfl⟩:=n37_.mp et
   rcases at_ q (n1_ eq) with z | ⟨row',hr,z⟩
   · rw [z];show ((0:Int) * _).natAbs≤_
     rw [Int.zero_mul]; exact n56_ _
   · have b:=(lamB row' hr).1;rw [← z] at b;unfold levI;exact n76_ (My.up 118 (FM.natAbs_mul_lt b (Yt (FM.den_pos q) LB)))
theorem RowsOk.mix {rows:List (List Rat)} {rights:List Rat} (R:RowsOk rows rights) (h:slv rows rights=none):∃ ys,mixM rows rights (tkn rows rights)=some ys∧ys.length=rows.length:=by
 have S1:=R.sys.se;have S2:=R.mixS.se;obtain ⟨cm,wC,lc⟩:=R.cols
 obtain ⟨ys,e⟩:=Zm8 R.wd R.rl (fun i hi x hx=>⟨(S1.so.ok i hi x hx).nz,(S1.so.ok i hi x hx).len⟩) (fun i hi x hx=>by
  have:=S2.so.ok i (by rw [wC]; exact hi) x hx
  exact ⟨this.nz,by rw [this.len,wC]⟩) h
 refine ⟨ys,e,?_⟩;unfold mixM slv at e;split at e
 · cases e
 · cases e
   rw [n2_,Zfc,n18_,wC]
theorem Zpd {rows:List (List Rat)} {rights xs:List Rat} (h:slv rows rights=some xs):xs.length=wid rows:=by
 unfold slv at h;split at h
 · cases h
 · cases h
   rw [n2_,Zfc,n18_]
def Xe (n:Nat) (d:PyData):Bool:=match d with
 | .tuple ds=>decide (ds.length=n) && ds.all isFr
 | _=>false
theorem Zff {n:Nat} {d:PyData} (h:isT d=false):Xe n d=false:=by cases d <;> first | rfl | (cases h)
theorem Zjo {n:Nat} {ds:List PyData} (h:ds.length≠n):Xe n (.tuple ds)=false:=by
 show (decide (ds.length=n) && _)=false
 rw [n17_ h]; rfl
theorem Zi3 {n:Nat} {ds:List PyData} (h:ds.length=n):Xe n (.tuple ds)=ds.all isFr:=by
 show (decide (ds.length=n) && _)=_
 rw [n14_ h]; rfl
theorem Zob {ds:List PyData} {i:Nat} {dx:PyData} (h:ds[i]? = some dx):nz dx≤nz (.tuple ds):=by
 have:=(Zd0 h).1
 show _≤1+Zr ds
 omega
def Zhc:Sp:=fun vs H Q _=>∃ N k v d n,vs=[v,.int ((n:Nat):Int)]∧Dt N H k v d∧k≤4000∧nz d≤1000∧∀ H',Same H H'→Q (.bl (Xe n d)) H'
def bot2:List PyData→Int
 | [_,.int j]=>j
 | _=>1
def top2:List PyData→Int
 | [.int i,_]=>i
 | _=>0
mutual
def okB (c:Int) (B:Nat):PyData→Bool
 | .tuple xs=>(!isFr (.tuple xs) || (decide (bot2 xs ∣ c) && decide ((top2 xs * (c / bot2 xs)).natAbs≤B))) && okBs c B xs
 | .none=>true
 | .bool _=>true
 | .int _=>true
 | .str _=>true
 | .list _=>true
 | .dict _=>true
def okBs (c:Int) (B:Nat):List PyData→Bool
 | []=>true
 | x :: xs=>okB c B x && okBs c B xs
end
theorem Ziy {c:Int} {B:Nat}:∀ {xs:List PyData},okBs c B xs=true↔∀ x∈xs,okB c B x=true
 | []=>⟨fun _ x h=>(nomatch h),fun _=>rfl⟩
 | x :: xs=>by
   show (okB c B x && okBs c B xs)=true↔_
   rw [n40_,Ziy (xs:=xs)];exact ⟨fun h y hy=>(n31_.mp hy).elim (fun e=>e ▸ h.1) (h.2 y),fun h=>⟨h x n7_,fun y hy=>h y (n8_ _ hy)⟩⟩
theorem X5 {c:Int} {B:Nat} {xs:List PyData}:okB c B (.tuple xs)=true↔(isFr (.tuple xs)=true→bot2 xs ∣ c∧(top2 xs * (c / bot2 xs)).natAbs≤B)∧∀ x∈xs,okB c B x=true:=by
 show ((!isFr (.tuple xs) || (decide (bot2 xs ∣ c) && decide ((top2 xs * (c / bot2 xs)).natAbs≤B))) && okBs c B xs)=true↔_
 rw [n40_,Ziy];cases isFr (.tuple xs) <;> simp
theorem Zc4 {xs:List PyData} (h:isFr (.tuple xs)=true):∃ i j,xs=[.int i,.int j]∧1≤j∧Int.gcd i j=1:=by
 match xs,h with
 | [],h=>cases h
 | [d],h=>cases d <;> cases h
 | [d,e],h =>
   cases d <;> cases e <;> first | (cases h; done) | skip
   rename_i i j
   have h':(decide (1≤j) && decide (Int.gcd i j=1))=true:=h;rw [n40_] at h';exact ⟨i,j,rfl,n41_ h'.1,n41_ h'.2⟩
 | d :: e :: f :: g,h=>cases d <;> cases e <;> cases h
theorem Zru {i j c e:Int} {B B':Nat} (h1:1≤j) (d:j ∣ c) (b:(i * (c / j)).natAbs≤B) (he:B * e.natAbs≤B'):j ∣ c * e∧(i * (c * e / j)).natAbs≤B':=by
 obtain ⟨k,rfl⟩:=d;rw [Int.mul_ediv_cancel_left _ (by omega)] at b;refine ⟨⟨k * e,by rw [Int.mul_assoc]⟩,?_⟩;rw [Int.mul_assoc,Int.mul_ediv_cancel_left _ (by omega),← Int.mul_assoc,n27_];exact n19_ (n42_ _ b) he
mutual
theorem Za8 {c e:Int} {B B':Nat} (he:B * e.natAbs≤B'):∀ {d:PyData},okB c B d=true→okB (c * e) B' d=true
 | .tuple xs,h=>by
   have h':((!isFr (.tuple xs) || (decide (bot2 xs ∣ c) && decide ((top2 xs * (c / bot2 xs)).natAbs≤B))) && okBs c B xs)=true:=h;rw [n40_] at h';show ((!isFr (.tuple xs) || (decide (bot2 xs ∣ c * e) && decide ((top2 xs * (c * e / bot2 xs)).natAbs≤B'))) && okBs (c * e) B' xs)=true
   rw [n40_];refine ⟨?_,Zgl he h'.2⟩;have e1:=h'.1;cases hf:isFr (.tuple xs) with
   | false=>rfl
   | true =>
     rw [hf] at e1;obtain ⟨i,j,rfl,j1,_⟩:=Zc4 hf
     have:j ∣ c∧(i * (c / j)).natAbs≤B:=by
      have:(decide (j ∣ c) && decide ((i * (c / j)).natAbs≤B))=true:=e1
      rw [n40_] at this;exact ⟨n41_ this.1,n41_ this.2⟩
     have q:=Zru (e:=e) j1 this.1 this.2 he;show (false || (decide (j ∣ c * e) && decide ((i * (c * e / j)).natAbs≤B')))=true
     rw [n14_ q.1,n14_ q.2]; rfl
 | .none,_=>rfl
 | .bool _,_=>rfl
 | .int _,_=>rfl
 | .str _,_=>rfl
 | .list _,_=>rfl
 | .dict _,_=>rfl
theorem Zgl {c e:Int} {B B':Nat} (he:B * e.natAbs≤B'):∀ {xs:List PyData},okBs c B xs=true→okBs (c * e) B' xs=true
 | [],_=>rfl
 | x :: xs,h=>by
   have h':(okB c B x && okBs c B xs)=true:=h;rw [n40_] at h';show (okB (c * e) B' x && okBs (c * e) B' xs)=true
   rw [Za8 he h'.1,Zgl he h'.2]; rfl
end
structure CB where
 c:Int
 n:Nat
structure CB.Ok (C:CB):Prop where
 c1:1≤C.c
 cb:C.c.natAbs≤2 ^ C.n
def OkE (C:CB) (k:Nat) (d:PyData):Prop:=∃ e:Int,1≤e∧e.natAbs < 2 ^ k∧okB (C.c * e) (2 ^ (C.n+k)) d=true
def okC (C:CB) (d:PyData):Prop:=okB C.c (2 ^ C.n) d=true
theorem okE0 {C:CB} {k:Nat} {d:PyData} (h:okC C d) (hk:1≤k):OkE C k d:=⟨1,by decide,n61_ (by omega),Za8 (by show 2 ^ C.n * 1≤_; rw [Nat.mul_one]; exact n11_ (by decide) (by omega)) h⟩
theorem okE1 {C:CB} {k:Nat} {d:PyData} (O:C.Ok) (h:okB 1 1 d=true) (hk:1≤k):OkE C k d:=okE0 (by
 have:=Za8 (c:=1) (e:=C.c) (B:=1) (B':=2 ^ C.n) (by rw [Nat.one_mul]; exact O.cb) h
 rw [Int.one_mul] at this; exact this) hk
theorem OkE.up {C:CB} {k k':Nat} {d:PyData} (h:OkE C k d) (hk:k≤k'):OkE C k' d:=let ⟨e,a,b,c⟩:=h; ⟨e,a,My.up _ b hk,by
 have:=Za8 (e:=1) (B':=2 ^ (C.n+k')) (by show _ * 1≤_; rw [Nat.mul_one]; exact n11_ (by decide) (by omega)) c
 rw [Int.mul_one] at this; exact this⟩
theorem okT {C:CB} {N:Addr→Prop} {H:Hp} {k:Nat} {vs:List V} {xs:List PyData} {e:Int} (O:C.Ok) (h:Dts N H k vs xs) (h1:1≤e) (h2:e.natAbs < 2 ^ k) (hx:∀ x∈xs,okB (C.c * e) (2 ^ (C.n+k)) x=true):OkE C k (.tuple xs):=by
 cases hf:isFr (.tuple xs) with
 | false=>exact ⟨e,h1,h2,X5.mpr ⟨fun z=>by (rw [hf] at z; cases z),hx⟩⟩
 | true =>
   obtain ⟨i,j,rfl,j1,_⟩:=Zc4 hf
   match vs,h with
   | [_,_],.cons a (.cons b .nil) =>
     cases a with
     | int hi =>
       cases b with
       | int hj =>
         refine ⟨j,j1,hj,X5.mpr ⟨fun _=>⟨⟨C.c,n55_ _ _⟩,?_⟩,fun x hx=>?_⟩⟩
         · show (i * (C.c * j / j)).natAbs≤_
           rw [Int.mul_ediv_cancel _ (by omega),n27_,n49_,n92_];exact n59_ O.cb (n76_ hi)
         · simp only [n31_,n43_,or_false] at hx
           rcases hx with rfl | rfl <;> rfl
def TgO (C:CB) (N:Addr→Prop) (H:Hp) (k n m:Nat) (v:V):Prop:=∃ d,Dt N H k v d∧d.depth≤n∧nz d≤m∧OkE C k d
def TgOs (C:CB) (N:Addr→Prop) (H:Hp) (k n m:Nat) (xs:List V):Prop:=∀ v∈xs,TgO C N H k n m v
section
variable {C:CB} {N:Addr→Prop} {H:Hp} {k n m:Nat} {v:V}
theorem TgO.keepS {l:Addr} {H':Hp} (hN:N l) (s:StAt H l) (h:TgO C N H k n m v) (q:Keep l H H'):TgO C N H' k n m v:=let ⟨d,a,b⟩:=h; ⟨d,Dt.keepS hN s a q,b⟩
theorem TgO.up {k' n' m':Nat} (h:TgO C N H k n m v) (hk:k≤k') (hn:n≤n') (hm:m≤m'):TgO C N H k' n' m' v:=let ⟨d,a,b,c,e⟩:=h; ⟨d,a.up hk,n19_ b hn,n19_ c hm,e.up hk⟩
theorem TgOs.nil:TgOs C N H k n m []:=fun v h=>by cases h
theorem TgOs.cons {xs:List V} (h:TgO C N H k n m v) (t:TgOs C N H k n m xs):TgOs C N H k n m (v :: xs):=fun w z=>by
 rcases n31_.mp z with rfl | z
 · exact h
 · exact t w z
theorem TgOs.app {xs ys:List V} (h:TgOs C N H k n m xs) (t:TgOs C N H k n m ys):TgOs C N H k n m (xs++ys):=fun w z=>(n29_.mp z).elim (h w) (t w)
end
def Zkz:Sp:=fun vs H Q _=>∃ C l N,vs=[.ref l]∧CB.Ok C∧StAt H l∧N l∧Dom N H∧∀ H' v,Keep l H H'→StAt H' l→TgO C N H' 100 2 20 v→Q v H'
def Zbs (n:Nat):Sp:=fun vs H Q _=>∃ C l N k v d,vs=[.ref l,v]∧CB.Ok C∧StAt H l∧N l∧Dom N H∧Dt N H k v d∧100≤k∧d.depth≤n∧nz d≤100000∧okC C d∧∀ H' v',Keep l H H'→StAt H' l→TgO C N H' (k+1) (n+2) (2 * nz d+40) v'→Q v' H'
theorem Dts.cutM {N:Addr→Prop} {H:Hp} {k:Nat} {xs:List V} {ds:List PyData} (h:Dts N H k xs ds) (lo hi:Option Int):∃ es,Dts N H k (cutV xs lo hi) es∧Zr es≤Zr ds∧PyData.depthAll es≤PyData.depthAll ds∧∀ x∈es,x∈ds:=by
 refine ⟨_,(h.drop _).take _,?_,?_,fun x hx=>n89_ (n54_ hx)⟩
 · exact n19_ (Zj1 _ _) (Zj7 _ _)
 · exact n19_ (Zbw _ _) (Zbz _ _)
theorem okS {C:CB} {N:Addr→Prop} {H:Hp} {k:Nat} {vs:List V} {xs:List PyData} (O:C.Ok) (h:Dts N H (k+1) vs xs) (hx:∀ x∈xs,okC C x):OkE C (k+1) (.tuple xs):=okT (e:=1) O h (by decide) (n61_ (by omega)) fun x hz=>Za8 (by show 2 ^ C.n * 1≤_; rw [Nat.mul_one]; exact n11_ (by decide) (by omega)) (hx x hz)
def Zdw:PyData→Nat
 | .tuple ds=>ds.length
 | _=>0
def wd1:List PyData→Nat
 | []=>0
 | r :: _=>Zdw r
def Zkc:PyData→Bool
 | .tuple ds=>decide (ds.length≤60) && ds.all isT && ds.all (Xe (wd1 ds))
 | _=>false
def Zrc (dr dg:PyData):Bool:=Zkc dr && Xe (Zdw dr) dg
def frQ:PyData→Rat
 | .tuple [.int i,.int j]=>Rat.divInt i j
 | _=>0
def rowQ:PyData→List Rat
 | .tuple ds=>ds.map frQ
 | _=>[]
theorem fr_Q {K:PySem.W.Frag} {N:Addr→Prop} {H:Hp} {k:Nat} {v:V} {d:PyData} (h:Dt N H k v d) (e:isFr d=true):IsQ K H v (frQ d)∧FM.B k (frQ d)∧∀ c B,okB c B d=true→Dv c B (frQ d):=by
 rcases h.isT with ⟨p,xs,ds,rfl,rfl,hp,hs⟩ | e'
 · obtain ⟨i,j,rfl,j1,g1⟩:=Zc4 e
   match xs,hs with
   | [x,y],.cons a (.cons b .nil) =>
     cases a with
     | int hi =>
       cases b with
       | int hj =>
         have q:=Zok (i:=i) (show 0 < j by omega);rw [n14_ j1,n14_ g1] at q;have q:=n41_ q;injection q with q1 q2
         injection q2 with q2 _
         show IsQ K H _ (Rat.divInt i j)∧FM.B k (Rat.divInt i j)∧_
         refine ⟨⟨p,rfl,.inl ?_⟩,⟨by rw [q1]; exact hi,?_⟩,fun c B hc=>?_⟩
         · rw [rt,q1,q2]; exact hp
         · have:((Rat.divInt i j).den:Int).natAbs < 2 ^ k:=by rw [q2]; exact hj
           exact this
         · obtain ⟨dv,bd⟩:=(X5.mp hc).1 e;change j ∣ c at dv;change (i * (c / j)).natAbs≤B at bd;obtain ⟨m,rfl⟩:=dv;rw [Int.mul_ediv_cancel_left _ (by omega)] at bd;refine ⟨i * m,?_,bd⟩;show Rat.divInt i j * ((j * m:Int):Rat)=((i * m:Int):Rat)
           rw [Zbr,n15_,n15_];have jz:=Z8 (show j≠0 by omega);generalize (i:Rat)=a at *;generalize (j:Rat)=b at *;generalize (m:Rat)=cc at *
           grind
 · have z:isFr d=false:=by cases d <;> first | rfl | (cases e')
   rw [z] at e; cases e
theorem Zoq {K:PySem.W.Frag} {N:Addr→Prop} {H:Hp} {k n:Nat} {v:V} {d:PyData} (h:Dt N H k v d) (e:Xe n d=true):∃ p us,v=.ref p∧H p=some (.tup us)∧Al (IsQ K H) us (rowQ d)∧(rowQ d).length=n∧Zdw d=n∧(∀ q∈rowQ d,FM.B k q)∧∀ c B,okB c B d=true→∀ q∈rowQ d,Dv c B q:=by
 rcases h.isT with ⟨p,xs,ds,rfl,rfl,hp,hs⟩ | e'
 · have e':(decide (ds.length=n) && ds.all isFr)=true:=e;rw [n40_] at e';have hl:=n41_ e'.1;have ha:=n48_.mp e'.2;have hx:=hs.len;refine ⟨p,xs,rfl,hp,⟨by show xs.length=(ds.map frQ).length; rw [n2_]; exact hx,fun i v x e1 e2=>?_⟩,by show (ds.map frQ).length=n; rw [n2_]; exact hl,hl,fun q hq=>?_,fun c B hc q hq=>?_⟩
   · obtain ⟨dx,ed,hd⟩:=hs.get e1;change (ds.map frQ)[i]? = some x at e2;rw [n5_,ed] at e2;cases e2
     exact (fr_Q hd (ha dx (n1_ ed))).1
   · obtain ⟨dx,hm,rfl⟩:=n22_.mp hq;obtain ⟨i,hi,rfl⟩:=n45_ hm;obtain ⟨d',ed,hd⟩:=hs.get (n0_ (show i < xs.length by omega));rw [n0_ hi] at ed;cases ed
     exact (fr_Q (K:=K) hd (ha _ hm)).2.1
   · obtain ⟨dx,hm,rfl⟩:=n22_.mp hq;obtain ⟨i,hi,rfl⟩:=n45_ hm;obtain ⟨d',ed,hd⟩:=hs.get (n0_ (show i < xs.length by omega));rw [n0_ hi] at ed;cases ed
     exact (fr_Q (K:=K) hd (ha _ hm)).2.2 c B ((X5.mp hc).2 _ hm)
 · rw [Zff e'] at e; cases e
theorem Zni {d:PyData} (h:isT d=false):Zkc d=false:=by cases d <;> first | rfl | (cases h)
def Zeu:Sp:=fun vs H Q _=>∃ N k a us ds,vs=[.ref a]∧H a=some (.tup us)∧Dts N H k us ds∧ds.all isT=true∧Q (.int (wd1 ds)) H
def Zgc:Sp:=fun vs H Q _=>∃ N k v d,vs=[v]∧Dt N H k v d∧k≤4000∧nz d≤1000∧∀ H',Same H H'→Q (.bl (Zkc d)) H'
theorem Ze2 {α:Type} {P:α→Prop} {xs:List α} {y:α} (h:∀ x∈xs,P x) (hy:P y):∀ x∈xs++[y],P x:=fun x hx=>(n29_.mp hx).elim (h x) fun z=>by rw [n13_.mp z]; exact hy
def frD (q:Rat):PyData:=.tuple [.int q.num,.int q.den]
def rowD (qs:List Rat):PyData:=.tuple (qs.map frD)
def Zat (ms:List (List Rat)):PyData:=.tuple (ms.map rowD)
theorem Zf9 {α:Type} {N:Addr→Prop} {H:Hp} {k:Nat} {R:V→α→Prop} {f:α→PyData}:∀ {us:List V} {xs:List α},Al R us xs→(∀ v x,x∈xs→R v x→Dt N H k v (f x))→Dts N H k us (xs.map f)
 | [],[],_,_=>.nil
 | [],_ :: _,h,_=>by cases h.1
 | _ :: _,[],h,_=>by cases h.1
 | u :: us,x :: xs,h,g=>.cons (g u x n7_ (h.2 0 u x rfl rfl)) (Zf9 (R:=R) ⟨Nat.succ.inj h.1,fun i v y e1 e2=>h.2 (i+1) v y e1 e2⟩ fun v y hy r=>g v y (n8_ _ hy) r)
theorem Znd {α:Type} {f:α→List PyData} {xs:List α}:isFr (.tuple (xs.map fun x=>.tuple (f x)))=false:=by
 match xs with
 | []=>rfl
 | [x]=>rfl
 | [x,y]=>rfl
 | x :: y :: z :: w=>rfl
theorem Zep (qs:List Rat):nz (rowD qs)=1+6 * qs.length:=by
 show 1+Zr (qs.map frD)=_
 have:Zr (qs.map frD)=6 * qs.length:=by
  induction qs with
  | nil=>rfl
  | cons q qs ih=>show nz (frD q)+1+Zr (qs.map frD)=_; rw [ih,n23_]; show 5+1+_=_; omega
 omega
theorem Zpi {ms:List (List Rat)} {w:Nat} (h:∀ m∈ms,m.length≤w):nz (Zat ms)≤1+ms.length * (2+6 * w):=by
 show 1+Zr (ms.map rowD)≤_
 have:Zr (ms.map rowD)≤ms.length * (2+6 * w):=by
  induction ms with
  | nil=>exact n56_ _
  | cons m ms ih =>
    have i:=ih fun x hx=>h x (n8_ _ hx);have l:=h m n7_;show nz (rowD m)+1+Zr (ms.map rowD)≤_
    rw [Zep,n23_,Nat.add_mul];omega
 omega
theorem Zfr {α:Type} {f:α→PyData} {n:Nat}:∀ {xs:List α},(∀ x∈xs,(f x).depth≤n)→PyData.depthAll (xs.map f)≤n
 | [],_=>n56_ _
 | x :: xs,h=>by
   have:=Zfr (f:=f) (xs:=xs) fun y hy=>h y (n8_ _ hy)
   have:=h x n7_
   show max _ _≤_
   omega
theorem Zbj (qs:List Rat):(rowD qs).depth≤2:=Nat.succ_le_succ (Zfr fun x _=>n9_ 1)
theorem Zmy (ms:List (List Rat)):(Zat ms).depth≤3:=Nat.succ_le_succ (Zfr fun x _=>Zbj x)
def IsRsH (H:Hp) (v:V) (ms:List (List Rat)):Prop:=∃ a us,v=.ref a∧H a=some (.tup us)∧Al (IsRh H) us ms
theorem IsRsH.tk {H H':Hp} {v:V} {ms:List (List Rat)} (t:Tk H H') (h:IsRsH H v ms):IsRsH H' v ms:=let ⟨a,us,e,h1,h2⟩:=h; ⟨a,us,e,t _ _ h1,h2.imp fun _ _ r=>r.tk t⟩
theorem Zon {N:Addr→Prop} {H:Hp} {k:Nat} {v:V} {q:Rat} (h:IsQh H v q) (r:FM.B k q):Dt N H k v (frD q):=by
 obtain ⟨p,rfl,hp⟩:=h;exact dt2 hp r.1 (show ((q.den:Int)).natAbs < 2 ^ k from r.2)
theorem Zcc {N:Addr→Prop} {H:Hp} {k:Nat} {v:V} {qs:List Rat} (h:IsRh H v qs) (r:∀ q∈qs,FM.B k q):Dt N H k v (rowD qs):=by
 obtain ⟨a,us,rfl,ha,al⟩:=h;exact .tup ha (Zf9 al fun v x hx hv=>Zon hv (r x hx))
theorem Zii {N:Addr→Prop} {H:Hp} {k:Nat} {v:V} {ms:List (List Rat)} (h:IsRsH H v ms) (r:∀ m∈ms,∀ q∈m,FM.B k q):Dt N H k v (Zat ms):=by
 obtain ⟨a,us,rfl,ha,al⟩:=h;exact .tup ha (Zf9 al fun v x hx hv=>Zcc hv (r x hx))
theorem Zno (q:Rat):isFr (frD q)=true:=by
 show (decide (1≤(q.den:Int)) && decide (Int.gcd q.num q.den=1))=true
 rw [n14_ (by have:=q.den_pos; omega),n14_ (FM.gcd_one q)]; rfl
theorem Zeh {n:Nat} {qs:List Rat} (h:qs.length=n):Xe n (rowD qs)=true:=by
 show (decide ((qs.map frD).length=n) && (qs.map frD).all isFr)=true
 rw [n14_ (by rw [n2_]; exact h),n87_]
 exact n48_.mpr fun x hx=>by
  obtain ⟨q,_,rfl⟩:=n22_.mp hx;exact Zno q
theorem Zqk {ms:List (List Rat)} {qs:List Rat} (R:RowsOk ms qs):Zrc (Zat ms) (rowD qs)=true:=by
 show (Zkc (Zat ms) && Xe (Zdw (Zat ms)) (rowD qs))=true
 have w:wd1 (ms.map rowD)=wid ms:=by
  cases ms with
  | nil=>rfl
  | cons m ms=>show (m.map frD).length=m.length; rw [n2_]
 have h1:Zkc (Zat ms)=true:=by
  show (decide ((ms.map rowD).length≤60) && (ms.map rowD).all isT && (ms.map rowD).all (Xe (wd1 (ms.map rowD))))=true
  rw [n14_ (by rw [n2_]; have:=R.m6; omega),n87_,w,n40_];refine ⟨n48_.mpr fun x hx=>?_,n48_.mpr fun x hx=>?_⟩
  · obtain ⟨m,_,rfl⟩:=n22_.mp hx; rfl
  · obtain ⟨m,hm,rfl⟩:=n22_.mp hx;exact Zeh (R.wd m hm)
 rw [h1,n87_];exact Zeh (by show qs.length=(ms.map rowD).length; rw [n2_]; exact R.rl)
theorem RowsOk.b {ms:List (List Rat)} {qs:List Rat} (R:RowsOk ms qs):(∀ m∈ms,∀ q∈m,FM.B 105 q)∧∀ q∈qs,FM.B 105 q:=⟨R.sys.rb,R.sys.gb⟩
theorem RowsOk.nz {ms:List (List Rat)} {qs:List Rat} (R:RowsOk ms qs):L2.nz (Zat ms)≤200∧L2.nz (rowD qs)≤50:=by
 have h1:=Zpi (w:=4) (ms:=ms) fun m hm=>by rw [R.wd m hm]; exact R.w4
 have h2:=Zep qs;have m6:=R.m6;have rl:=R.rl;exact ⟨by omega,by omega⟩
def Zja:Sp:=fun vs H Q _=>∃ v u ms qs,vs=[v,u]∧IsRsH H v ms∧IsRh H u qs∧RowsOk ms qs∧∀ H',Same H H'→Q .non H'
def solB (ms:List (List Rat)) (qs:List Rat) (d:PyData):Bool:=Xe (wid ms) d && (List.zipWith (fun row r=>decide (rdot row (rowQ d)=r)) ms qs).all id
def mixB (ms:List (List Rat)) (qs:List Rat) (d:PyData):Bool:=Xe ms.length d && !decide (rdot (rowQ d) qs=0) && ((List.range (wid ms)).map fun p=>decide (rdot (ms.map fun r=>r.getD p 0) (rowQ d)=0)).all id
def Zix (f:List (List Rat)→List Rat→PyData→Bool):Sp:=fun vs H Q _=>∃ N k v u x ms qs d,vs=[v,u,x]∧IsRsH H v ms∧IsRh H u qs∧RowsOk ms qs∧Dt N H k x d∧k≤900∧nz d≤300∧∀ H',Same H H'→Q (.bl (f ms qs d)) H'
theorem wsum {a b:List Rat}:decide ((List.zipWith (· * ·) (wh a) (wh b)).sum=0)=decide (rdot a b=0):=by
 have e:(((List.zipWith (· * ·) (wh a) (wh b)).sum:Int):Rat)=lam a * lam b * rdot a b:=by
  have e1:∀ (x y:List Int),(((List.zipWith (· * ·) x y).sum:Int):Rat)=dotQ x (y.map fun i:Int=>(i:Rat)):=fun x=>by
   induction x with
   | nil=>intro y; rw [n73_,Xg]; rfl
   | cons p x ih=>intro y; cases y with
     | nil=>rw [n78_,List.map_nil,Yo]; rfl
     | cons q y=>rw [n51_,n57_,Rat.intCast_add,n15_,ih y,n69_,Zu]
  have e2:∀ (x y:List Rat),(∀ q∈y,q∈b)→rdot x ((y.map fun q=>q.num.fdiv (scl b).2 * (scl b).1.fdiv q.den).map fun i:Int=>(i:Rat))=lam b * rdot x y:=fun x=>by
   induction x with
   | nil=>intro y _; rw [Yy,Yy]; grind
   | cons p x ih=>intro y h; cases y with
     | nil=>rw [List.map_nil,List.map_nil,Xi]; grind
     | cons q y =>
       rw [n69_,n69_,Yd,Yd,ih y fun z hz=>h z (n8_ _ hz),Zoc (h q n7_)]
       grind
  rw [e1,Zde];have e3:=e2 a b fun _ h=>h;have e4:(wh b)=b.map fun q=>q.num.fdiv (scl b).2 * (scl b).1.fdiv q.den:=rfl;rw [e4,e3]
  grind
 have l1:=Zn4 a;have l2:=Zn4 b;refine decide_eq_decide.mpr ⟨fun z=>?_,fun z=>?_⟩
 · rw [z] at e
   have:((0:Int):Rat)=0:=rfl
   rw [this] at e;generalize lam a=x at *;generalize lam b=y at *;generalize rdot a b=w at *
   have xy:x * y≠0:=fun h=>by
    have:y=0:=by grind
    exact l2 this
   grind
 · rw [z] at e
   have:((((List.zipWith (· * ·) (wh a) (wh b)).sum:Int)):Rat)=0:=by rw [e]; grind
   exact_mod_cast this
theorem Zhf {a b:Rat}:∀ (x y:List Rat),x.length=y.length→rdot (x++[a]) (y++[b])=rdot x y+a * b
 | [],[],_=>by rw [List.nil_append,List.nil_append,Yd,Yy]; grind
 | [],_ :: _,h=>by cases h
 | _ :: _,[],h=>by cases h
 | p :: x,q :: y,h=>by rw [n80_,n80_,Yd,Yd,Zhf x y (Nat.succ.inj h)]; grind
theorem IsRsH.qs {K:PySem.W.Frag} {H:Hp} {v:V} {ms:List (List Rat)} (h:IsRsH H v ms):∃ a us,v=.ref a∧H a=some (.tup us)∧Al (IsQs K H) us ms:=let ⟨a,us,e,h1,h2⟩:=h; ⟨a,us,e,h1,h2.imp fun _ _ ⟨b,ws,e,g1,g2⟩=>⟨b,ws,e,g1,g2.imp fun _ _ ⟨p,e,g⟩=>⟨p,e,.inl g⟩⟩⟩
theorem IsRh.qs {K:PySem.W.Frag} {H:Hp} {v:V} {qs:List Rat} (h:IsRh H v qs):∃ a us,v=.ref a∧H a=some (.tup us)∧Al (IsQ K H) us qs:=let ⟨a,us,e,h1,h2⟩:=h; ⟨a,us,e,h1,h2.imp fun _ _ ⟨p,e,g⟩=>⟨p,e,.inl g⟩⟩
theorem lnbG {b:Nat} {qs:List Rat} (h:∀ q∈qs,FM.B b q) (hb:b≤950) (hl:qs.length≤310):LnB b qs:=⟨h,by omega,n19_ (n59_ hb hl) (by decide),by omega⟩
structure Told (H:Hp) (p a:Addr) (xs:List Rat):Prop where
 row:IsRh H (.ref a) xs
 sm:Zm4 xs
 len:xs.length≤6
 it:(∃ f fs,H p=some (.tup [.str "solved",.ref a,.ref f])∧H f=some (.tup (List.map V.int fs))∧fs.length≤4∧∀ i∈fs,0≤i∧i < 4)∨H p=some (.tup [.str "none",.ref a])
def Zds (Ph:Addr):Sp:=fun vs H Q _=>∃ v u ms qs,vs=[v,u]∧IsRsH H v ms∧IsRh H u qs∧RowsOk ms qs∧TabF H Ph "head_of.<locals>.<lambda>" ∧ ∀ H' p a xs,X8 Ph H H'→TabF H' Ph "head_of.<locals>.<lambda>" → Told H' p a xs→Q (.ref p) H'
theorem StAt.neN {H:Hp} {l p:Addr} (s:StAt H l) (h:H p=none):p≠l:=fun z=>s.ne h z.symm
theorem tkS {H H':Hp} {l:Addr} (k:Keep l H H') (s:StAt H l):Tk H H':=by
 obtain ⟨a,b,c,e,_⟩:=s;exact Tk.of_keep k e
theorem Zlt {J:It} {n:Nat} {l D:Addr} {g:TG} {te:TE} {σ0:L2.St} {H:Hp} {Q:VK} {α:Type} (R:Hp→V→α→Prop) (hR:∀ H1 H2 v x,Tk H1 H2→R H1 v x→R H2 v x) (hz:n≤1000) (ok:L2.St→Prop) (h0:ok σ0) (hD:H D=none) (hl:StAt H l)
 (hgo:∀ i H2,Keep l H H2→i < n→J.go i H2) (hstop:∀ H2,Keep l H H2→J.stop n H2)
 (hs:∀ i x σ2 H2 H3 (C:L2.St→V→Hp→Prop),i < n→Keep l H H2→StAt H2 l→J.yld i H2 x H3→ok σ2→(∀ σ4 y H5 z,ok σ4→Keep l H2 H5→StAt H5 l→R H5 y z→C σ4 y H5)→g x σ2 H3 fun σ4 H4=>te σ4 H4 (C σ4))
 (hd:∀ H2 vs ys,Keep l H H2→StAt H2 l→H2 D=some (.lst vs)→ys.length=n→Al (R H2) vs ys→Q (.ref D) H2):LcGo J g tYes te σ0 H D Q:=by
 have neD:D≠l:=hl.neN hD;refine Zk2 (n:=n) (fun i σ H2=>Keep l H H2∧StAt H2 l∧ok σ∧∃ vs ys,ys.length=i∧H2 D=some (.lst vs)∧Al (R H2) vs ys) ⟨Keep.new hD,hl.new hD,h0,[],[],rfl,Zc,.nil⟩ (fun i σ H2 hi p=>hgo i H2 p.1 hi) (fun σ H2 p=>hstop H2 p.1) (fun i x σ2 H2 H3 hi y p=>?_) (fun σ2 H2 p=>?_)
 · obtain ⟨s2,l2,o2,vs,ys,hy,e2,a2⟩:=p;refine hs i x σ2 H2 H3 (fun σ4 y H6=>∃ ys,H6 D=some (.lst ys)∧ys.length < sizeLine∧∃ m',m' < n - i∧LcN n (fun i σ H2=>Keep l H H2∧StAt H2 l∧ok σ∧∃ vs ys,ys.length=i∧H2 D=some (.lst vs)∧Al (R H2) vs ys) (i+1) m' σ4 (upd H6 D (.lst (ys++[y])))) hi s2 l2 y o2 ?_;intro σ4 v H5 z o4 s5 l5 rz;have e5:H5 D=some (.lst vs):=s5 _ _ neD e2;have tk:Tk H5 (upd H5 D (.lst (vs++[v]))):=Tk.upd_lst e5;refine ⟨vs,e5,?_,n - (i+1),by omega,by omega,rfl,fun b o nb e=>?_,?_,o4,vs++[v],ys++[z],by simp [hy],Zc,?_⟩
   · rw [a2.1,sizeLine_eq]; omega
   · rw [Zo (Zk e hD)]; exact s5 _ _ nb (s2 _ _ nb e)
   · obtain ⟨a,b,c,e,r⟩:=l5;exact ⟨a,b,c,by rw [Zo neD.symm]; exact e,r⟩
   · exact (a2.imp fun v x r=>hR _ _ v x tk (hR _ _ v x (tkS s5 l2) r)).snoc (hR _ _ _ _ tk rz)
 · obtain ⟨s2,l2,_,vs,ys,hy,e2,a2⟩:=p;exact hd H2 vs ys s2 l2 e2 hy a2
def Zgu (n:Nat):Sp:=fun vs H Q _=>∃ l:Addr,vs=[.ref l]∧StAt H l∧∀ (H':Hp) (p:Addr) (q:Rat),Keep l H H'→StAt H' l→H' p=some (.tup (rt q))→FM.B n q∧q.den ∣ 60→Q (.ref p) H'
theorem Zpl (t:Int) {b:Int} (h:b≠0):((Rat.divInt t b).den:Int) ∣ b:=by
 rw [← FM.fdiv_den h]
 have hs:FM.sg t b ∣ b:=by
  unfold FM.sg;split
  · exact Int.neg_dvd.mpr (n83_ t b)
  · exact n83_ t b
 obtain ⟨k,hk⟩:=hs
 have e:b.fdiv (FM.sg t b)=k:=by
  have h0:=FM.sg_ne (t:=t) h;generalize FM.sg t b=g at *;rw [hk,n55_]; exact FM.fdiv_mul h0
 rw [e];exact ⟨_,by rw [n55_]; exact hk⟩
theorem Zpq (t:Int) {b:Int} (h1:1≤b) (h6:b≤6):(Rat.divInt t b).den ∣ 60:=by
 have h:=Zpl t (show b≠0 by omega)
 have h2:b ∣ 60:=by
  have:b=1∨b=2∨b=3∨b=4∨b=5∨b=6:=by omega
  rcases this with rfl | rfl | rfl | rfl | rfl | rfl <;> decide
 exact_mod_cast Int.dvd_trans h h2
theorem Dv.mono {c:Int} {A B:Nat} {x:Rat} (h:Dv c A x) (l:A≤B):Dv c B x:=let ⟨z,e,b⟩:=h; ⟨z,e,n19_ b l⟩
theorem Dv.add {c:Int} {A B:Nat} {x y:Rat} (h:Dv c A x) (g:Dv c B y):Dv c (A+B) (x+y):=by
 obtain ⟨z,e,b⟩:=h;obtain ⟨w,e',b'⟩:=g;refine ⟨z+w,?_,n19_ (Int.natAbs_add_le z w) (Nat.add_le_add b b')⟩;rw [Rat.intCast_add,← e,← e']; grind
theorem Dv.mul {a b:Int} {A B:Nat} {x y:Rat} (h:Dv a A x) (g:Dv b B y):Dv (a * b) (A * B) (x * y):=by
 obtain ⟨z,e,l⟩:=h;obtain ⟨w,e',l'⟩:=g;refine ⟨z * w,?_,by rw [n27_]; exact n59_ l l'⟩;rw [n15_,n15_,← e,← e']; grind
theorem Dv.zero {c:Int} {A:Nat}:Dv c A 0:=⟨0,by rw [Rat.zero_mul]; rfl,n56_ _⟩
theorem Dv.times {c e:Int} {A:Nat} {x:Rat} (h:Dv c A x):Dv (c * e) (A * e.natAbs) x:=by
 obtain ⟨z,e',l⟩:=h;refine ⟨z * e,?_,by rw [n27_]; exact n42_ _ l⟩;rw [n15_,n15_,← e']; grind
theorem Dv.b {c:Int} {A k:Nat} {x:Rat} (h:Dv c A x) (hc:1≤c) (l1:c.natAbs < 2 ^ k) (l2:A < 2 ^ k):FM.B k x:=by
 obtain ⟨d,n⟩:=h.den (by omega);exact ⟨n10_ n l2,show ((x.den:Int)).natAbs < 2 ^ k from Zda d hc l1⟩
theorem Znm {x:Rat} (hb:FM.B 44 x) (hd:x.den ∣ 60):Dv 60 (2 ^ 50) x:=by
 obtain ⟨k,hk⟩:=hd;have k60:k≤60:=Nat.le_of_dvd (by decide) ⟨x.den,by rw [n92_]; exact hk⟩;refine ⟨x.num * k,?_,?_⟩
 · have e:=Zbm x;have hd:=Zdp x
   have h60:((60:Int):Rat)=(x.den:Rat) * ((k:Int):Rat):=by
    have:(60:Int)=(x.den:Int) * (k:Int):=by exact_mod_cast hk
    rw [this,n15_];have hd2:((x.den:Int):Rat)=(x.den:Rat):=by first | rfl | exact n91_ _
    rw [hd2]
   rw [h60,n15_];have key:∀ y n dd kk:Rat,dd≠0→y=n / dd→y * (dd * kk)=n * kk:=fun y n dd kk h1 h2=>by rw [h2]; grind
   exact key _ _ _ _ hd e
 · rw [n27_];exact n19_ (n59_ (n76_ hb.1) (show ((k:Nat):Int).natAbs≤2 ^ 6 by show k≤64; omega)) (by rw [← n49_]; exact n9_ _)
def Zlu:Sp:=fun vs H Q _=>∃ (a:Addr) (us:List V) (qs:List Rat) (c:Int) (A:Nat),vs=[.ref a]∧H a=some (.lst us)∧Al (IsQh H) us qs∧(∀ q∈qs,Dv c A q)∧1≤c∧c.natAbs < 2 ^ 1990∧8 * A < 2 ^ 1990∧qs.length≤8∧∀ (H':Hp) (v:V),Same H H'→IsQh H' v qs.sum→Q v H'
def Zk8:Sp:=fun vs H Q _=>∃ (v w:Addr) (kx ky:SK) (us ws:List V) (xs ys:List Rat) (a b:Int) (A B:Nat),vs=[.ref v,.ref w]∧kx.At H v us∧Al (IsQh H) us xs∧ky.At H w ws∧Al (IsQh H) ws ys∧(∀ x∈xs,Dv a A x)∧(∀ y∈ys,Dv b B y)∧1≤a∧1≤b∧(a * b).natAbs < 2 ^ 1990∧8 * (A * B) < 2 ^ 1990∧A < 2 ^ 1990∧B < 2 ^ 1990∧xs.length≤8∧xs.length=ys.length∧∀ (H':Hp) (r:V),Same H H'→IsQh H' r (rdot xs ys)→Q r H'
theorem Zi5 {c:Int} {A:Nat}:∀ (qs:List Rat),(∀ q∈qs,Dv c A q)→Dv c (qs.length * A) qs.sum
 | [],_=>Dv.zero
 | q :: qs,h=>by
   have:=(h q n7_).add (Zi5 qs fun x hx=>h x (n8_ _ hx))
   rw [n57_,n23_,Nat.add_mul,Nat.one_mul,Nat.add_comm];exact this
theorem Zm1 (qs:List Rat) (q:Rat):(qs++[q]).sum=qs.sum+q:=by rw [List.sum_append]; show _+(q+0)=_; grind
def Zlx:Sp:=fun vs H Q _=>∃ (l:Addr) (n:Nat),vs=[.ref l,.int n]∧StAt H l∧n≤1000∧∀ (H':Hp) (v:V) (ms:List Rat),Keep l H H'→StAt H' l→IsRh H' v ms→ms.length=n→(∀ q∈ms,Dv 60 (2 ^ 50) q)→Q v H'
def Zjb:Sp:=fun vs H Q _=>∃ (l:Addr),vs=[.ref l]∧StAt H l∧∀ (H':Hp) (p:Addr) (v u:V) (ms:List (List Rat)) (qs:List Rat),Keep l H H'→StAt H' l→H' p=some (.tup [v,u])→IsRsH H' v ms→IsRh H' u qs→RowsOk ms qs→Q (.ref p) H'
def Zrl (K:PySem.W.Frag):R2:=fun x y H Q=>∃ a b xs,x=.ref a∧y=.ref b∧SqL K H a xs∧SqL K H b []∧Q (.bl (decide (xs=[]))) H
theorem Zl0 {X:Cx} (hu:X.A.units < cLine):OpR X (compareOp .Eq) (Zrl X.K):=by
 intro pins s σ H x y v u Q I rx ry h;obtain ⟨a,b,xs,rfl,rfl,h1,h2,q⟩:=h;cases rx; cases ry
 obtain ⟨us,r1,p1,_⟩:=I.list h1;obtain ⟨ws,r2,p2,_⟩:=I.list h2;have l1:=r1.length;have e:ws=[]:=r2.nil_iff.mpr rfl;subst e;cases hx:xs with
 | nil =>
   subst hx;have e:us=[]:=r1.nil_iff.mpr rfl;subst e;exact SeqAt.eq_listAt (e:=fun j=>true) p1.isList p2.isList rfl hu (fun j h1 h2=>absurd h2 (by simp)) ⟨.bl _,H,I,rfl,q⟩
 | cons y ys =>
   subst hx;exact SeqAt.eq_list_lengthsAt p1.isList p2.isList (by simp at l1; simp [← l1]) hu ⟨.bl _,H,I,rfl,q⟩
def Zf3:Sp:=fun vs H Q _=>∃ N k v d n,vs=[.int ((n:Nat):Int),v]∧Dt N H k v d∧k≤4000∧nz d≤1000∧∀ H',Same H H'→Q (.bl (Xe n d)) H'
theorem Zld {N:Addr→Prop} {H:Hp} {k n:Nat} {v:V} {d:PyData} (h:Dt N H k v d) (e:Xe n d=true):∃ p us,v=.ref p∧H p=some (.tup us)∧Al (IsQh H) us (rowQ d)∧(rowQ d).length=n∧∀ c B,okB c B d=true→∀ q∈rowQ d,Dv c B q:=by
 obtain ⟨p,us,e1,e2,e3,e4,_,_,e5⟩:=Zoq (K:=([]:PySem.W.Frag)) h e;refine ⟨p,us,e1,e2,e3.imp fun v q r=>?_,e4,e5⟩;obtain ⟨a,rfl,r⟩:=r
 rcases r with r | r
 · exact ⟨a,rfl,r⟩
 · exfalso
   obtain ⟨_,_,_,r,_⟩:=r;cases r
def LawT (d:PyData):Prop:=∃ (E:Int) (B:Nat),1≤E∧okB E B d=true∧(3600 * E).natAbs < 2 ^ 1990∧8 * (2 ^ 104 * B) < 2 ^ 1990
def Zfd (f:List (List Rat)→List Rat→PyData→Bool):Sp:=fun vs H Q _=>∃ N k v u x ms qs d,vs=[v,u,x]∧IsRsH H v ms∧IsRh H u qs∧RowsOk ms qs∧Dt N H k x d∧k≤4000∧nz d≤300∧LawT d∧∀ H',Same H H'→Q (.bl (f ms qs d)) H'
theorem Zc5 {us:List V} {n:Nat} (p:Nat→Bool) (h:us.length=((List.range n).filterMap fun i=>if p i=true then none else some ()).length):decide (us=[])=(List.range n).all p:=by
 cases e:(List.range n).all p with
 | true =>
   have:(List.range n).filterMap (fun i=>if p i=true then none else some ())=[]:=by
    rw [List.filterMap_eq_nil_iff];intro i hi;rw [if_pos (n48_.mp e i hi)]
   rw [this] at h;exact n14_ (List.eq_nil_of_length_eq_zero h)
 | false =>
   refine n17_ fun z=>?_;rw [z] at h;have hn:(List.range n).filterMap (fun i=>if p i=true then none else some ())=[]:=List.eq_nil_of_length_eq_zero h.symm
   have:(List.range n).all p=true:=n48_.mpr fun i hi=>by
    have:=List.filterMap_eq_nil_iff.mp hn i hi
    cases q:p i with
    | true=>rfl
    | false=>simp [q] at this
   rw [this] at e; cases e
theorem Zn7 {g:List Rat→Rat→Bool} {ms:List (List Rat)} {qs:List Rat} (h:qs.length=ms.length):(List.range ms.length).all (fun i=>g (ms.getD i []) (qs.getD i 0))=(List.zipWith g ms qs).all id:=by
 rw [Bool.eq_iff_iff,n48_,n48_];constructor
 · intro z x hx;obtain ⟨i,hi⟩:=n60_.mp hx;rw [n24_] at hi;split at hi
   · rename_i m q em eq
     cases hi
     have:=z i (List.mem_range.mpr (Zkv em))
     rw [Xr em,Xr eq] at this;exact this
   · cases hi
 · intro z i hi;have hi':=List.mem_range.mp hi;have em:=n0_ hi';have eq:=n0_ (show i < qs.length by omega);rw [Xr em,Xr eq];exact z _ (n60_.mpr ⟨i,by rw [n24_,em,eq]⟩)
mutual
theorem Dt.less {N:Addr→Prop} {p:Addr} {H:Hp} {k:Nat}:∀ {v:V} {d:PyData},Dt (fun b=>N b∨b=p) H k v d→Dt N H k v d
 | _,_,.non=>.non
 | _,_,.bl b=>.bl b
 | _,_,.int h=>.int h
 | _,_,.str x=>.str x
 | _,_,.tup h r=>.tup h (Dts.less r)
 | _,_,.lst h n m r=>.lst h (fun z=>n (.inl z)) m (Dts.less r)
 | _,_,.dic h=>.dic h
theorem Dts.less {N:Addr→Prop} {p:Addr} {H:Hp} {k:Nat}:∀ {vs:List V} {ds:List PyData},Dts (fun b=>N b∨b=p) H k vs ds→Dts N H k vs ds
 | _,_,.nil=>.nil
 | _,_,.cons a b=>.cons (Dt.less a) (Dts.less b)
end
theorem Zql {c:Int} {B:Nat} {x:Rat} (h:Dv c B x) (hc:c≠0):okB c B (frD x)=true:=by
 obtain ⟨z,e,b⟩:=h;obtain ⟨dv,_⟩:=Zg3 hc e;refine X5.mpr ⟨fun _=>⟨dv,?_⟩,fun y hy=>?_⟩
 · show (x.num * (c / (x.den:Int))).natAbs≤B
   obtain ⟨m,rfl⟩:=dv;rw [Int.mul_ediv_cancel_left _ (FM.den_ne x)]
   have:((x.num * m:Int):Rat)=(z:Rat):=by
    rw [← e,n15_,n15_];have en:=Zbm x;have hd:=Zdp x;have hd2:((x.den:Int):Rat)=(x.den:Rat):=by first | rfl | exact n91_ _
    rw [hd2];have key:∀ y n dd k:Rat,dd≠0→y=n / dd→n * k=y * (dd * k):=fun y n dd k h1 h2=>by rw [h2]; grind
    exact key _ _ _ _ hd en
   have:x.num * m=z:=by exact_mod_cast this
   rw [this]; exact b
 · simp only [n31_,n43_,or_false] at hy
   rcases hy with rfl | rfl <;> rfl
theorem Zia {c:Int} {B:Nat} {xs:List Rat} (h:∀ x∈xs,Dv c B x) (hc:c≠0):okB c B (rowD xs)=true:=X5.mpr ⟨fun z=>by (rw [show isFr (.tuple (xs.map frD))=false from Znd] at z; cases z),fun y hy=>by
 obtain ⟨x,hx,rfl⟩:=n22_.mp hy;exact Zql (h x hx) hc⟩
theorem Zo5 {C:CB} {k:Nat} {d:PyData} (O:C.Ok) (c8:C.c.natAbs≤2 ^ 846) (n8:C.n≤890) (hk:k≤900) (h:OkE C k d):LawT d:=by
 obtain ⟨e,e1,e2,ok⟩:=h.up hk;have c1:=O.c1;have p:0 < C.c * e:=Int.mul_pos (by omega) (by omega);refine ⟨C.c * e,_,by omega,ok,?_,?_⟩
 · rw [n27_,n27_];have h1:C.c.natAbs * e.natAbs≤2 ^ 846 * 2 ^ 900:=n59_ c8 (n76_ e2);refine n10_ (n59_ (show (3600:Int).natAbs≤2 ^ 12 by decide) h1) ?_;rw [← n49_,← n49_];exact n21_ (by decide) (by decide)
 · have e8:(8:Nat)=2 ^ 3:=rfl;rw [e8,← n49_,← n49_];exact n21_ (by decide) (by omega)
def Th (N:Addr→Prop) (H:Hp) (v:V):Prop:=∃ d,Dt N H 900 v d∧d.depth≤8∧nz d≤300∧LawT d
theorem Th.same {N:Addr→Prop} {H H':Hp} {v:V} (h:Th N H v) (s:Same H H'):Th N H' v:=let ⟨d,a,b⟩:=h; ⟨d,a.same s,b⟩
theorem Th.keepS {N:Addr→Prop} {H H':Hp} {v:V} {l:Addr} (h:Th N H v) (hN:N l) (s:StAt H l) (k:Keep l H H'):Th N H' v:=let ⟨d,a,b⟩:=h; ⟨d,Dt.keepS hN s a k,b⟩
theorem Th.more {N:Addr→Prop} {H:Hp} {v:V} {p:Addr} (h:Th N H v) (n:H p=none):Th (fun b=>N b∨b=p) H v:=let ⟨d,a,b⟩:=h; ⟨d,a.more n,b⟩
theorem Th.less {N:Addr→Prop} {H:Hp} {v:V} {p:Addr} (h:Th (fun b=>N b∨b=p) H v):Th N H v:=by
 have _:=@Dts.less N p H;obtain ⟨d,a,b⟩:=h;exact ⟨d,Dt.less a,b⟩
theorem Th.keepL {N:Addr→Prop} {H H':Hp} {v:V} {l:Addr} {ys:List V} (h:Th N H v) (hN:N l) (e:H l=some (.lst ys)) (k:Keep l H H'):Th N H' v:=let ⟨d,a,b⟩:=h; ⟨d,a.keep hN e k,b⟩
theorem Zhv {N:Addr→Prop} {H:Hp} {v:V} {d:PyData} {C:CB} {k j:Nat} (h:Dt N H k v d) (hk:k≤900) (e:d.depth≤8) (n:nz d≤300) (O:C.Ok) (c8:C.c.natAbs≤2 ^ 846) (n8:C.n≤890) (hj:j≤900) (ok:OkE C j d):Th N H v:=⟨d,h.up hk,e,n,Zo5 O c8 n8 hj ok⟩
theorem Zed {N:Addr→Prop} {H:Hp} {v:V} {xs:List Rat} {C:CB} (h:IsRh H v xs) (O:C.Ok) (c8:C.c.natAbs≤2 ^ 846) (n8:C.n≤890) (l:xs.length≤20) (dv:∀ x∈xs,Dv C.c (2 ^ C.n) x):Th N H v:=by
 have c1:=O.c1;have b:∀ x∈xs,FM.B 891 x:=fun x hx=>(dv x hx).b c1 (n10_ c8 (n21_ (by decide) (by decide))) (n21_ (by decide) (by omega));exact Zhv (Zcc h b) (by decide) (n19_ (Zbj xs) (by decide)) (by rw [Zep]; omega) O c8 n8 (j:=1) (by decide) (okE0 (Zia dv (by omega)) (by decide))
def ThV (N:Addr→Prop) (H:Hp) (vs:List V):Prop:=∀ v∈vs,Th N H v
theorem ThV.same {N:Addr→Prop} {H H':Hp} {vs:List V} (h:ThV N H vs) (s:Same H H'):ThV N H' vs:=fun v hv=>(h v hv).same s
theorem ThV.keepS {N:Addr→Prop} {H H':Hp} {vs:List V} {l:Addr} (h:ThV N H vs) (hN:N l) (s:StAt H l) (k:Keep l H H'):ThV N H' vs:=fun v hv=>(h v hv).keepS hN s k
theorem ThV.cons {N:Addr→Prop} {H:Hp} {v:V} {vs:List V} (h:Th N H v) (t:ThV N H vs):ThV N H (v :: vs):=fun x hx=>by
 rcases n31_.mp hx with rfl | hx
 · exact h
 · exact t x hx
theorem ThV.nil {N:Addr→Prop} {H:Hp}:ThV N H []:=fun v h=>by cases h
theorem ThV.app {N:Addr→Prop} {H:Hp} {vs ws:List V} (h:ThV N H vs) (t:ThV N H ws):ThV N H (vs++ws):=fun x hx=>(n29_.mp hx).elim (h x) (t x)
theorem Told.tk {H H':Hp} {p a:Addr} {xs:List Rat} (T:Told H p a xs) (t:Tk H H'):Told H' p a xs:=⟨T.row.tk t,T.sm,T.len,T.it.elim (fun ⟨f,fs,h1,h2,r⟩=>.inl ⟨f,fs,t _ _ h1,t _ _ h2,r⟩) fun h=>.inr (t _ _ h)⟩
theorem Told.at1 {H:Hp} {p a:Addr} {xs:List Rat} (T:Told H p a xs):∃ ts,H p=some (.tup ts)∧atI ts 1=some (.ref a):=T.it.elim (fun ⟨f,fs,h1,_⟩=>⟨_,h1,rfl⟩) fun h=>⟨_,h,rfl⟩
theorem Told.th {N:Addr→Prop} {H:Hp} {p a:Addr} {xs:List Rat} {C:CB} {C0:Int} (T:Told H p a xs) (hC:C.c=60 * C0) (hn:C.n=890) (C1:1≤C0) (C8:C0.natAbs≤2 ^ 840) (O:C.Ok) (c8:C.c.natAbs≤2 ^ 846) (dv:∀ x∈xs,Dv C.c (2 ^ C.n) x):Th N H (.ref p):=by
 have c1:=O.c1;have b:∀ x∈xs,FM.B 891 x:=fun x hx=>(dv x hx).b c1 (n10_ c8 (n21_ (by decide) (by decide))) (n21_ (by decide) (by omega));have D:Dt N H 891 (.ref a) (rowD xs):=Zcc T.row b;have okr:=Zia (B:=2 ^ C.n) dv (show C.c≠0 by omega);have l6:=T.len;have nr:=Zep xs
 rcases T.it with ⟨f,fs,h1,h2,l4,bf⟩ | h1
 · have Df:Dts N H 891 (fs.map V.int) (fs.map PyData.int):=Zf9 (R:=fun v i=>v=V.int i) ⟨by rw [n2_],fun i v x e1 e2=>by rw [n5_,e2] at e1; exact (Option.some.inj e1).symm⟩ fun v i hi e=>by
    rw [e];exact .int (n16_ (show i.natAbs < 2 ^ 2 by have:=bf i hi; show _ < 4; omega) (n11_ (by decide) (by decide)))
   have nf:Zr (fs.map PyData.int)=2 * fs.length:=by
    clear Df bf h2 l4
    induction fs with
    | nil=>rfl
    | cons i fs ih=>show 1+1+Zr (fs.map PyData.int)=_; rw [ih,n23_]; omega
   have df:PyData.depthAll (fs.map PyData.int)≤0:=Zfr fun x _=>n9_ 0;have dr:=Zbj xs
   have okf:okB C.c (2 ^ C.n) (.tuple (fs.map PyData.int))=true:=X5.mpr ⟨fun hf=>by
    obtain ⟨i,j,e,j1,_⟩:=Zc4 hf
    have hij:∀ x∈[i,j],0≤x∧x < 4:=fun x hx=>by
     have m:PyData.int x∈fs.map PyData.int:=by rw [e]; simp only [n31_,n43_,or_false] at hx ⊢; rcases hx with rfl | rfl; exact .inl rfl; exact .inr rfl
     obtain ⟨y,hy,ey⟩:=n22_.mp m;cases ey
     exact bf _ hy
    have hi:=hij i n7_;have hj:=hij j (n8_ _ n7_);rw [e]
    have jd:j ∣ C.c:=by
     rw [hC];refine Int.dvd_trans ?_ ⟨C0,rfl⟩
     have:j=1∨j=2∨j=3:=by omega
     rcases this with rfl | rfl | rfl <;> decide
    refine ⟨jd,?_⟩;show (i * (C.c / j)).natAbs≤_
    rw [n27_,hn];have q:(C.c / j).natAbs≤2 ^ 846:=n19_ (Int.natAbs_ediv_le_natAbs _ _) c8;exact n19_ (n59_ (show i.natAbs≤2 ^ 2 by show _≤4; omega) q) (by rw [← n49_]; exact n11_ (by decide) (by decide)),fun x hx=>by
    obtain ⟨y,_,rfl⟩:=n22_.mp hx; rfl⟩
   refine Zhv (d:=.tuple [.str "solved",rowD xs,.tuple (fs.map PyData.int)]) (.tup h1 (.cons (.str _) (.cons D (.cons (.tup h2 Df) .nil)))) (by decide) ?_ ?_ O c8 (by omega) (j:=1) (by decide) (okE0 (X5.mpr ⟨fun z=>(nomatch z),fun x hx=>?_⟩) (by decide))
   · show max 0 (max (rowD xs).depth (max (PyData.depthAll (fs.map PyData.int)+1) 0))+1≤8
     omega
   · have h9:nz (.str "solved")≤10:=by decide +kernel
     show 1+(nz (.str "solved")+1+(nz (rowD xs)+1+(1+Zr (fs.map PyData.int)+1+0)))≤300
     omega
   · simp only [n31_,n43_,or_false] at hx
     rcases hx with rfl | rfl | rfl
     · rfl
     · exact okr
     · exact okf
 · have dr:=Zbj xs;refine Zhv (d:=.tuple [.str "none",rowD xs]) (.tup h1 (.cons (.str _) (.cons D .nil))) (by decide) ?_ ?_ O c8 (by omega) (j:=1) (by decide) (okE0 (X5.mpr ⟨fun z=>(nomatch z),fun x hx=>?_⟩) (by decide))
   · show max 0 (max (rowD xs).depth 0)+1≤8
     omega
   · have h9:nz (.str "none")≤10:=by decide +kernel
     show 1+(nz (.str "none")+1+(nz (rowD xs)+1+0))≤300
     omega
   · simp only [n31_,n43_,or_false] at hx
     rcases hx with rfl | rfl
     · rfl
     · exact okr
theorem Zo0 {α:Type} {R:V→α→Prop} {v:V} {x:α} (r:R v x) (n:Nat):Al R (List.replicate n v) (List.replicate n x):=⟨by rw [n18_,n18_],fun i u y e1 e2=>by
 rw [n58_] at e1 e2;split at e1
 · rename_i h; rw [if_pos h] at e2; cases e1; cases e2; exact r
 · cases e1⟩
structure LJ (Ph l:Addr) (H0:Hp) (rs rt:V) (ms:List (List Rat)) (qs:List Rat) (p a:Addr) (xs:List Rat) (H:Hp):Prop where
 st:StAt H l
 rs:IsRsH H rs ms
 rt:IsRh H rt qs
 td:Told H p a xs
 kp:X8 Ph H0 H
 th:TabF H Ph "head_of.<locals>.<lambda>"
section
variable {Ph l p a:Addr} {H0 H H':Hp} {rs rt:V} {ms:List (List Rat)} {qs xs:List Rat}
theorem LJ.same (I:LJ Ph l H0 rs rt ms qs p a xs H) (s:Same H H'):LJ Ph l H0 rs rt ms qs p a xs H':=⟨I.st.same s,I.rs.tk s.tk,I.rt.tk s.tk,I.td.tk s.tk,fun b o n e=>s _ _ (I.kp b o n e),I.th.same s⟩
theorem LJ.keep (I:LJ Ph l H0 rs rt ms qs p a xs H) (n:H0 l=none) (k:Keep l H H') (s':StAt H' l):LJ Ph l H0 rs rt ms qs p a xs H' :=
 have t:=tkS k I.st
 let ⟨_,e⟩:=I.st.lst'
 ⟨s',I.rs.tk t,I.rt.tk t,I.td.tk t,fun b o n' e'=>k _ _ (Zk e' n) (I.kp b o n' e'),I.th.keepL e k⟩
theorem LJ.nn (I:LJ Ph l H0 rs rt ms qs p a xs H) {p':Addr} (n:H p'=none):H0 p'=none:=by
 cases e:H0 p' with
 | none=>rfl
 | some o =>
   exfalso
   by_cases h1:p'=Ph
   · obtain ⟨ps,h,_⟩:=I.th; rw [← h1,n] at h; cases h
   · rw [I.kp p' o h1 e] at n; cases n
theorem LJ.upd (I:LJ Ph l H0 rs rt ms qs p a xs H) {L:Addr} {us ys:List V} (e:H L=some (.lst us)) (n:H0 L=none) (nl:l≠L):LJ Ph l H0 rs rt ms qs p a xs (upd H L (.lst ys)) :=
 have t:Tk H (L2.upd H L (.lst ys)):=Tk.upd_lst e
 ⟨I.st.keep Keep.upd nl,I.rs.tk t,I.rt.tk t,I.td.tk t,fun b o n' e'=>by rw [Zo (Zk e' n)]; exact I.kp b o n' e',I.th.keepL e Keep.upd⟩
end
theorem Al.revR {α:Type} {R:V→α→Prop}:∀ {vs:List V} {xs:List α},Al R vs xs→Al R vs.reverse xs.reverse:=fun {vs xs} h=>⟨by rw [List.length_reverse,List.length_reverse,h.1],fun i v x e1 e2=>by
 have hi:i < vs.length:=by have:=(n34_.mp e1).1; rwa [List.length_reverse] at this
 rw [List.getElem?_reverse hi] at e1;rw [List.getElem?_reverse (by rw [← h.1]; exact hi),← h.1] at e2;exact h.2 _ v x e1 e2⟩
def Zjp (K:PySem.W.Frag) (Ph:Addr):Sp:=fun vs H Q _=>∃ (a:Addr) (ns:List Int),vs=[.ref a]∧SqL K H a (ns.map V.int)∧ns.length≤63∧TabF H Ph "head_of.<locals>.<lambda>" ∧ ∀ H',Q (.bl true) H'
theorem Zq2 {K:PySem.W.Frag} {P1 a:Addr} {H H':Hp} {xs:List V} {q1:Str} (h:SqL K H a xs) (g:X8 P1 H H') (t1:TabF H P1 q1):SqL K H' a xs:=by
 obtain ⟨p1,e1,_⟩:=t1
 rcases h with (h | ⟨o,h⟩) | h
 · exact .inl (.inl (g _ _ (fun z=>by rw [z,e1] at h; cases h) h))
 · exact .inl (.inr ⟨o,g _ _ (fun z=>by rw [z,e1] at h; cases h) h⟩)
 · exact .inr h
section
variable (P:Program) (w:World) (K:PySem.W.Frag) (mg:Str→Option Value) (base:Heap)
abbrev a0_:=Cal P w K mg base "plain_divisor" 1 ["one","other"] Zjt
abbrev a1_:=Cal P w K mg base "divisor" 2 ["one","other"] Zes
abbrev a2_:=Cal P w K mg base "in_common" 3 ["parts","known"] Zdj
abbrev a3_:=Cal P w K mg base "multiple" 3 ["bottoms"] Zjg
abbrev a4_:=Cal P w K mg base "scale_of" 4 ["line"] (Zin K)
abbrev a5_:=Cal P w K mg base "whole" 5 ["line"] (Zim K)
abbrev a6_:=Cal P w K mg base "cleared" 4 ["known","line","head","place"] Zey
abbrev a7_:=Cal P w K mg base "levelled" 4 ["parts"] (Zdt K)
abbrev a8_:=Cal P w K mg base "reduced" 3 ["top","bottom"] Zei
abbrev a9_:=Cal P w K mg base "put_at" 4 ["place","line","found"] (Zjm K)
abbrev a10_:=Cal P w K mg base "mixed" 5 ["weights","parts","bottom"] (Zjj K)
abbrev a11_:=Cal P w K mg base "filled" 5 ["steps","found"] (Zf5 K)
abbrev a12_:=Cal P w K mg base "factors_of" 3 ["bottoms"] Zeg
abbrev a13_:=Cal P w K mg base "lowered" 3 ["part","factors"] (Zem K)
abbrev a14_:=Cal P w K mg base "places_of" 1 ["rows"] (Zgo K)
abbrev a15_:=Cal P w K mg base "rights_to" 6 ["rows","rights"] (Zdk K)
abbrev a16_:=Cal P w K mg base "settled_by" 6 ["steps","places","at"] (Zcu K)
abbrev a17_:=Cal P w K mg base "is_whole" 1 ["thing"] Zbt
abbrev a18_:=Cal P w K mg base "is_fraction" 3 ["thing"] Zog
abbrev a19_:=Cal P w K mg base "_law_cell_at" 1 ["_law_script","_law_k"] (Zky K)
abbrev a20_:=Cal P w K mg base "_law_low" 1 ["_law_top","_law_bottom"] Zn0
abbrev a21_:=Cal P w K mg base "_law_whole" 1 ["_law_thing"] Zbt
abbrev a22_:=Cal P w K mg base "_law_choice" 1 ["_law_state_here","_law_many"] Zg7
abbrev a23_:=Cal P w K mg base "_law_odd" 2 ["_law_state_here"] Zkz
abbrev a24_:=Cal P w K mg base "are_fractions" 4 ["thing","many"] Zhc
abbrev a25_:=Cal P w K mg base "places_of" 1 ["rows"] Zeu
abbrev a26_:=Cal P w K mg base "are_rows" 5 ["thing"] Zgc
abbrev a27_:=Cal P w K mg base "look_at_rows" 6 ["rows","rights"] Zja
abbrev a28_:=Cal P w K mg base "comes_to_nought" 6 ["weights","line"] (Zjh K)
abbrev a29_:=Cal P w K mg base "_law_add" 2 ["_law_one","_law_other"] (Znj (·+·))
abbrev a30_:=Cal P w K mg base "_law_mul" 2 ["_law_one","_law_other"] (Znj (· * ·))
abbrev a31_:=Cal P w K mg base "_law_total" 3 ["_law_some"] Zlu
abbrev a32_:=Cal P w K mg base "_law_fraction" 2 ["_law_state_here"] (Zgu 44)
abbrev a33_:=Cal P w K mg base "_law_dot" 4 ["_law_row_here","_law_other"] Zk8
abbrev a34_:=Cal P w K mg base "_law_row" 3 ["_law_state_here","_law_many"] Zlx
abbrev a35_:=Cal P w K mg base "_law_is_fraction" 2 ["_law_thing"] Zjl
abbrev a36_:=Cal P w K mg base "_law_is_row" 4 ["_law_many","_law_thing"] Zf3
abbrev a37_:=Cal P w K mg base "_law_bent" 5 ["_law_state_here","_law_thing"] (Zbs 2)
abbrev a38_:=Cal P w K mg base "_law_is_mix" 5 ["_law_rows_here","_law_rights","_law_thing"] (Zfd mixB)
abbrev a39_:=Cal P w K mg base "_law_is_solution" 5 ["_law_rows_here","_law_rights","_law_thing"] (Zfd solB)
abbrev a40_:=Cal P w K mg base "_law_rows" 5 ["_law_state_here"] Zjb
abbrev a41_:=Cal P w K mg base "_law_state" 2 ["_law_script","_law_k"] (Zi8 K)
abbrev a42_:=Cal P w K mg base "is_mix" 7 ["rows","rights","thing"] (Zix mixB)
abbrev a43_:=Cal P w K mg base "is_solution" 7 ["rows","rights","thing"] (Zix solB)
end
section
variable {P:Program} {w:World} {K:PySem.W.Frag} {mg:Str→Option Value} {base:Heap} {f:Addr} {fd:FuncData} (T:Bt mg)
include T
abbrev Xq:Stmt:=top 3
theorem Zc0 (F:Fun K "plain_divisor" "plain_divisor" Xq f fd):FnOk P w K mg base CX0 1 f fd ["one","other"] Zjt:=by
 have sc:FnScope ["one","other"] ["one","other"] (Ze Xq):=fsc (by decide +kernel);refine F.ok sc (fun vs H Q E h=>by obtain ⟨a,b,rfl,_⟩:=h;rfl) fun cdv A outer s H vs Q E hr h=>?_;obtain ⟨a,b,rfl,q⟩:=h;have nd:=sc.nd;refine' ⟨_,?term,?read⟩
 case term=>refine' @Zd _ _ _ _ _ ?g1 (Zg (Zm (Zj Zbb rfl T.b_abs Zen (Za (pv 0) Zb rfl))));case g1=>refine' @Zfg _ _ _ _ _ _ PassesOwn.never ?g2 ?g3;(case g2=>refine' @Z5 _ _ _ (pv 1) (fun _=>rfl));case g3=>refine' @Zg _ _ _ ?g4;case g4=>refine' @Zjk _ _ (0) (1) _ _ _ _ _ _ _ _ _ _ _ rfl nd rfl rfl (by decide) rfl rfl (Za (pv 1) (Za (Zq Zay (pv 0) (pv 1)) Zb rfl) rfl) rfl (by rfl)
 refine Zfy (fun σ H'=>∃ x y:Int,σ=[some (.int x),some (.int y)]∧H'=H∧Int.gcd x y=Int.gcd a b) (fun σ _=>match σ with | [_,some (.int y)]=>y.natAbs | _=>0) ⟨a,b,rfl,rfl,rfl⟩ ?_ ?_
 · rintro σ H' ⟨x,y,rfl,rfl,e⟩
   refine ⟨_,rfl,(y != 0),rfl,?_⟩
   by_cases hy:y=0
   · subst hy;refine iteF ?_;refine ⟨_,rfl,x,rfl,?_⟩
     have z:(if x < 0 then -x else x)=(Int.gcd a b:Int):=by
      rw [← e,Int.gcd_zero_right];split <;> omega
     rw [z];exact q
   · rw [show (y != 0)=true by simpa using hy];refine iteT ?_;refine ⟨_,rfl,_,rfl,_,rfl,x,y,rfl,rfl,hy,_,_,rfl,⟨y,x.fmod y,rfl,rfl,by rw [FM.gcd_fmod hy]; exact e⟩,FM.fmod_abs_lt hy⟩
 · rintro σ H' Q1 Q2 hq ⟨v,e,k,t,q'⟩
   exact ⟨v,e,k,t,hq _ _ q'⟩
abbrev Zdb:Stmt:=top 7
theorem Zjz (F:Fun K "divisor" "divisor" Zdb f fd) (Cy_:a0_ P w K mg base):FnOk P w K mg base CX0 2 f fd ["one","other"] Zes:=by
 have sc:FnScope ["one","other","half"] ["one","other"] (Ze Zdb):=fsc (by decide +kernel);refine F.ok sc (fun vs H Q E h=>by obtain ⟨a,b,rfl,_⟩:=h;rfl) fun cdv A outer s H vs Q E hr h=>?_;obtain ⟨a,b,rfl,hb,q⟩:=h;refine' ⟨_,?term,?read⟩
 case term=>refine' @Zd _ _ _ _ _ ?g1 (Zg (Zm (Zi Cy_ hr (by decide) rfl (Za (pv 0) (Za (pv 1) Zb rfl) rfl))));case g1=>refine' @Zfg _ _ _ _ _ _ PassesOwn.never ?g2 Zdx;case g2=>refine' @Zt _ _ _ _ _ _ _ _ Ze6 ?g3 (Zlo T.n_GREAT_BITS rfl) (Zy _);case g3=>refine' @Zj _ _ _ _ _ _ _ _ _ (Zg2 rfl) rfl T.b_min Zku ?g4 (by decide) (by decide) (by rfl) (by rfl);case g4=>refine' @Za _ _ _ _ _ ?g5 ?g6 rfl;(case g5=>refine' @Znz _ _ _ _ _ _ _ _ _ PySem.F.plainAttrs_int PySem.F.slot_int_bit_length PySem.F.type_int_bit_length Zk6 (pv 0) (by rfl) (by rfl));case g6=>refine' @Za _ _ _ _ _ ?g7 Zb rfl;case g7=>refine' @Znz _ _ _ _ _ _ _ _ _ PySem.F.plainAttrs_int PySem.F.slot_int_bit_length PySem.F.type_int_bit_length Zk6 (pv 1) (by rfl) (by rfl)
 refine Zfy (fun σ H'=>σ=[some (.int a),some (.int b),none]∧H'=H) (fun σ _=>0) ⟨rfl,rfl⟩ ?_ ?_
 · rintro σ H' ⟨rfl,rfl⟩
   refine ⟨_,rfl,rfl,_,rfl,rfl,_,rfl,rfl,_,rfl,rfl,_,_,rfl,_,_,rfl,rfl,_,rfl,?_⟩;rw [Zpg hb];refine iteF ?_;exact ⟨_,rfl,_,rfl,a,b,rfl,q⟩
 · rintro σ H' Q1 Q2 hq ⟨v1,e1,t1,i1,a1,n1,v2,e2,t2,i2,a2,n2,i,j,e3,i4,j4,e4,e5,b,e6,q'⟩
   exact ⟨v1,e1,t1,i1,a1,n1,v2,e2,t2,i2,a2,n2,i,j,e3,i4,j4,e4,e5,b,e6,hq _ _ q'⟩
abbrev Zdi:Stmt:=top 16
theorem Zjx (F:Fun K "reduced" "reduced" Zdi f fd) (Cc_:a1_ P w K mg base):FnOk P w K mg base CX0 3 f fd ["top","bottom"] Zei:=by
 have sc:FnScope ["top","bottom","common"] ["top","bottom"] (Ze Zdi):=fsc (by decide +kernel);refine F.ok sc (fun vs H Q E h=>by obtain ⟨t,b,rfl,_⟩:=h;rfl) fun cdv A outer s H vs Q E hr h=>?_;obtain ⟨t,b,rfl,hb,hz,q⟩:=h;have nd:=sc.nd;refine' ⟨_,?term,?read⟩
 case term=>refine' @Zd _ _ _ _ _ ?g1 ?g2;(case g1=>refine' @Zs _ _ (2) _ _ _ _ nd rfl (Or.inl rfl) (Zi Cc_ hr (by decide) rfl (Za (pv 0) (Za (pv 1) Zb rfl) rfl)) (by rfl) (by first | exact Or.inl rfl | exact Or.inr rfl | assumption));case g2=>refine' @Zd _ _ _ _ _ ?g3 (Zg (Zm (Zv (Za (Zq Yq (pv 0) (pv 2)) (Za (Zq Yq (pv 1) (pv 2)) Zb rfl) rfl))));case g3=>refine' @Y7 _ _ _ _ _ _ _ _ (Zt Zka (pv 1) Zf (Zy _)) ?g4 Z3;case g4=>refine' @Zg _ _ _ ?g5;case g5=>refine' @Zs _ _ (2) _ _ _ _ nd rfl (Or.inl rfl) (Zfu Zb6 (pv 2)) (by rfl) (by first | exact Or.inl rfl | exact Or.inr rfl | assumption)
 refine ⟨_,rfl,_,rfl,t,b,rfl,hz,?_⟩;have hg:=FM.gcd_ne (t:=t) hb;have hgz:(Int.gcd t b) < 2 ^ 8999:=n10_ (Nat.gcd_le_right _ (Int.natAbs_pos.mpr hb)) (Zoo hz);have hsg:FM.sg t b≠0:=FM.sg_ne hb
 have hsz:(FM.sg t b).natAbs < 2 ^ 8999:=by
  unfold FM.sg;split
  · rw [Int.natAbs_neg]; exact hgz
  · exact hgz
 have fin:∀ g:Int,g=FM.sg t b→∀ p,H p=none→Q (.ref p) (upd H p (.tup [.int (t.fdiv g),.int (b.fdiv g)])):=by
  rintro g rfl p hp
  rw [FM.fdiv_num hb,FM.fdiv_den hb];exact q p _ (Same.new hp) Zc
 refine ⟨_,rfl,_,_,rfl,rfl,_,rfl,?_⟩;refine ite2 (fun hlt=>?_) (fun hlt=>?_)
 · have hlt':b < 0:=n41_ hlt;have e:-(Int.gcd t b:Int)=FM.sg t b:=by unfold FM.sg; rw [if_pos hlt']
   refine ⟨_,rfl,_,rfl,?_⟩;refine ⟨_,rfl,_,rfl,t,_,rfl,rfl,⟨by rw [e]; exact hsg,by rw [e]; exact hsz⟩,_,rfl,_,rfl,b,_,rfl,rfl,⟨by rw [e]; exact hsg,by rw [e]; exact hsz⟩,z2_,?_⟩;exact fin _ e
 · have hlt':¬ b < 0:=fun z=>hlt (n14_ z);have e:(Int.gcd t b:Int)=FM.sg t b:=by unfold FM.sg; rw [if_neg hlt']
   refine ⟨_,rfl,_,rfl,t,_,rfl,rfl,⟨by rw [e]; exact hsg,by rw [e]; exact hsz⟩,_,rfl,_,rfl,b,_,rfl,rfl,⟨by rw [e]; exact hsg,by rw [e]; exact hsz⟩,z2_,?_⟩;exact fin _ e
abbrev Zcf:Stmt:=top 15
theorem Zh6 (F:Fun K "multiple" "multiple" Zcf f fd) (Cc_:a1_ P w K mg base):FnOk P w K mg base CX0 3 f fd ["bottoms"] Zjg:=by
 have sc:FnScope ["bottoms","many","bottom"] ["bottoms"] (Ze Zcf):=fsc (by decide +kernel);refine F.ok sc (fun vs H Q E h=>by obtain ⟨l,ds,k,rfl,_⟩:=h;rfl) fun cdv A outer s H vs Q E hr h=>?_;obtain ⟨l,ds,k,rfl,hl,hd,hk4,h9,q⟩:=h;have nd:=sc.nd;refine' ⟨_,?term,?read⟩
 case term=>refine' @Zd _ _ _ _ _ ?g1 ?g2;(case g1=>refine' @Zs _ _ (1) _ _ _ _ nd rfl (Or.inl rfl) Zf (by rfl) (by first | exact Or.inl rfl | exact Or.inr rfl | assumption));case g2=>refine' @Zd _ _ _ _ _ ?g3 (Zg (Zm (pv 1)));case g3=>refine' @Zae _ _ _ _ _ _ _ _ PassesOwn.never rfl (Yj (pv 0)) (Zn (i:=2) nd rfl (Or.inl rfl)) ?g4 (by intro _ ; rfl);case g4=>refine' @Zg _ _ _ ?g5;case g5=>refine' @Zs _ _ (1) _ _ _ _ nd rfl (Or.inl rfl) (Zq Yi (Zq Yq (pv 1) (Zi Cc_ hr (by decide) rfl (Za (pv 1) (Za (pv 2) Zb rfl) rfl))) (pv 2)) (by rfl) (by first | exact Or.inl rfl | exact Or.inr rfl | assumption)
 refine ⟨_,rfl,l,rfl,⟨_,SqL.of hl⟩,?_⟩;refine Zaz (n:=ds.length) (fun i σ H2=>H2=H∧∃ (x:Option V),σ=[some (.ref l),some (.int (lcmL (ds.take i))),x]) ⟨rfl,_,rfl⟩ (fun i σ H2 hi p=>⟨_,V.int ds[i],SqL.of (p.1 ▸ hl),by simp [hi]⟩) (fun σ H2 p=>⟨_,SqL.of (p.1 ▸ hl),by simp⟩) (fun i x σ H2 H3 hi y p=>?_) (fun σ H2 p=>?_)
 · obtain ⟨rfl,x',rfl⟩:=p;obtain ⟨rfl,y2⟩:=y;have ex:=y2 _ (SqL.of hl);rw [n5_,n0_ hi] at ex;cases ex
   obtain ⟨b0,b64⟩:=hd ds[i] (n36_ hi);have hm:=(Y9 (ds.take i) fun x hx=>(hd x (n54_ hx)).1).1;have sz:=Zdu (k:=k) (ds.take i) fun x hx=>hd x (n54_ hx);have ki:k * (ds.take i).length≤900000:=n19_ (n53_ k (by rw [n79_]; omega)) h9;have hg:=FM.gcd_ne (t:=lcmL (ds.take i)) (b:=ds[i]) (by omega);have gz:(Int.gcd (lcmL (ds.take i)) ds[i]) < 2 ^ k:=n10_ (Nat.gcd_le_right _ (by omega)) b64;have st:=Zdl hm b0;refine ⟨_,rfl,_,rfl,_,rfl,_,ds[i],rfl,up 4000 b64 hk4,_,_,rfl,rfl,⟨hg,up 8999 gz (by omega)⟩,_,rfl,_,_,rfl,rfl,⟨up 1000000 (n10_ st.2.2.2.1 sz) (by omega),up 1000000 b64 (by omega)⟩,?_⟩;refine ⟨rfl,some (.int ds[i]),?_⟩;rw [n39_ hi,Zdm];rfl
 · obtain ⟨rfl,x',rfl⟩:=p;rw [n67_];exact ⟨_,rfl,q⟩
abbrev Zbn:Stmt:=top 27
theorem Zgg (F:Fun K "in_common" "in_common" Zbn f fd) (Cc_:a1_ P w K mg base):FnOk P w K mg base CX0 3 f fd ["parts","known"] Zdj:=by
 have sc:FnScope ["parts","known","common","part"] ["parts","known"] (Ze Zbn):=fsc (by decide +kernel);refine F.ok sc (fun vs H Q E h=>by obtain ⟨l,ps,k,rfl,_⟩:=h;rfl) fun cdv A outer s H vs Q E hr h=>?_;obtain ⟨l,ps,k,rfl,hl,hG,q⟩:=h;have nd:=sc.nd;refine' ⟨_,?term,?read⟩
 case term=>refine' @Zd _ _ _ _ _ ?g1 ?g2;(case g1=>refine' @Zs _ _ (2) _ _ _ _ nd rfl (Or.inl rfl) (Zj Zbb rfl T.b_abs Zen (Za (pv 1) Zb rfl)) (by rfl) (by first | exact Or.inl rfl | exact Or.inr rfl | assumption));case g2=>refine' @Zd _ _ _ _ _ ?g3 (Zg (Zm (pv 2)));case g3=>refine' @Zae _ _ _ _ _ _ _ _ PassesOwn.never rfl (Yj (pv 0)) (Zn (i:=3) nd rfl (Or.inl rfl)) ?g4 (by intro _ ; rfl);case g4=>refine' @Zd _ _ _ _ _ ?g5 ?g6;(case g5=>refine' @Y7 _ _ _ _ _ _ _ _ (Zt Zho (pv 2) Zf (Zy _)) (Zg Znf) Z3);case g6=>refine' @Zg _ _ _ ?g7;case g7=>refine' @Zs _ _ (2) _ _ _ _ nd rfl (Or.inl rfl) (Zi Cc_ hr (by decide) rfl (Za (pv 3) (Za (pv 2) Zb rfl) rfl)) (by rfl) (by first | exact Or.inl rfl | exact Or.inr rfl | assumption)
 refine ⟨_,rfl,_,rfl,?_⟩;refine ⟨_,rfl,l,rfl,⟨_,SqL.of hl⟩,?_⟩
 have e0:(if k < 0 then -k else k)=((gl k (ps.take 0):Nat):Int):=by
  rw [List.take_zero]; show _=((k.natAbs:Nat):Int); split <;> omega
 refine Zaz (n:=ps.length) (fun i σ H2=>H2=H∧∃ (x:Option V),σ=[some (.ref l),some (.int k),some (.int (gl k (ps.take i))),x]) ⟨rfl,none,by rw [e0]; rfl⟩ (fun i σ H2 hi p=>⟨_,V.int ps[i],SqL.of (p.1 ▸ hl),by simp [hi]⟩) (fun σ H2 p=>⟨_,SqL.of (p.1 ▸ hl),by simp⟩) (fun i x σ H2 H3 hi y p=>?_) (fun σ H2 p=>?_)
 · obtain ⟨rfl,x',rfl⟩:=p;obtain ⟨rfl,y2⟩:=y;have ex:=y2 _ (SqL.of hl);rw [n5_,n0_ hi] at ex;cases ex
   refine ⟨_,rfl,rfl,_,rfl,?_⟩;refine ite2 (fun h1=>?_) (fun h1=>?_)
   · have g1:gl k (ps.take i)=1:=by
      have:=V.int.inj (n41_ h1); omega
     refine ⟨_,rfl,?_⟩;rw [g1,← Zhn g1];exact q
   · refine ⟨_,rfl,_,rfl,ps[i],_,rfl,hG i hi,?_⟩;refine ⟨rfl,some (.int ps[i]),?_⟩;rw [n39_ hi,Zpa];rfl
 · obtain ⟨rfl,x',rfl⟩:=p;rw [n67_];exact ⟨_,rfl,q⟩
abbrev Zb8:Stmt:=top 28
theorem Zh3 (F:Fun K "scale_of" "scale_of" Zb8 f fd) (O1:Zg5 K mg "ONE" 1 1) (Co_:a2_ P w K mg base) (Cj_:a3_ P w K mg base):FnOk P w K mg base CX0 4 f fd ["line"] (Zin K):=by
 have sc:FnScope ["line","common"] ["line"] (Ze Zb8):=fsc (by decide +kernel);refine F.ok sc (fun vs H Q E h=>by obtain ⟨a,k,us,qs,b,rfl,_⟩:=h;rfl) fun cdv A outer s H vs Q E hr h=>?_;obtain ⟨a,k,us,qs,b,rfl,ha,al,B,q⟩:=h;have nd:=sc.nd;obtain ⟨o_,hog,hok⟩:=O1;refine' ⟨_,?term,?read⟩
 case term=>refine' @Zd _ _ _ _ _ ?g1 ?g2;(case g1=>refine' @Zs _ _ (1) _ _ _ _ nd rfl (Or.inl rfl) ?g3 (by rfl) (by first | exact Or.inl rfl | exact Or.inr rfl | assumption);case g3=>refine' @Zi _ _ _ _ _ _ _ _ _ _ _ Co_ hr (by decide) rfl ?g4 (by decide) (by rfl) (by rfl);case g4=>refine' @Za _ _ _ _ _ ?g5 (Za Zf Zb rfl) rfl;case g5=>refine' @Y0 _ _ _ _ _ _ _ (["top","bottom"]) ([none,none]) _ _ ((gTup K 2 (Z7 (Z1 0) (Z7 (Z1 1) gNil)))) _ _ rfl (Z2 (by decide) rfl (by decide) rfl rfl) (Zak K rfl (pv 0)) (fun _ _ _ _=>Yb (n:=2) rfl (Zh (pgB 0) (Zh (pgB 1) Zx))) (fun _ _ _ _=>Zl) (fun _ _ _ _=>pv 0) (by intro _ ; rfl));case g2=>refine' @Zg _ _ _ ?g6;case g6=>refine' @Zm _ _ _ _ ?g7;case g7=>refine' @Zal _ _ _ _ _ _ _ _ ?g8 ?g9 ?ga;(case g8=>refine' @Z5 _ _ _ (pv 1) (fun _=>rfl));(case g9=>refine' @Zv _ _ _ _ _ ?gb;case gb=>refine' @Za _ _ _ _ _ ?gc (Za (pv 1) Zb rfl) rfl;case gc=>refine' @Zi _ _ _ _ _ _ _ _ _ _ _ Cj_ hr (by decide) rfl ?gd (by decide) (by rfl) (by rfl);case gd=>refine' @Za _ _ _ _ _ ?ge Zb rfl;case ge=>refine' @Y0 _ _ _ _ _ _ _ (["top","bottom"]) ([none,none]) _ _ ((gTup K 2 (Z7 (Z1 0) (Z7 (Z1 1) gNil)))) _ _ rfl (Z2 (by decide) rfl (by decide) rfl rfl) (Zak K rfl (pv 0)) (fun _ _ _ _=>Yb (n:=2) rfl (Zh (pgB 0) (Zh (pgB 1) Zx))) (fun _ _ _ _=>Zl) (fun _ _ _ _=>pv 1) (by intro _ ; rfl));case ga=>refine' @Zcm _ _ _ _ _ rfl hog (show RelV (.ref o_) (Value.ref o_) from rfl) (by decide)
 refine ⟨_,rfl,a,k,rfl,⟨_,ha.sq⟩,fun D nD=>?_⟩;refine lc_Q (k:=k) (us:=us) RI hRI (tops qs) (by simp [al.1]) (by rw [al.1]; exact B.len) nD ha al (fun i x' H2 C ex s2 c=>?_) (fun H2 us' s2 e2 a2=>?_)
 · exact ⟨_,rfl,c _ _ _ (Same.refl _) (by rw [n5_,ex]; rfl) rfl⟩
 rw [a2.ints] at e2;refine ⟨D,_,0,rfl,e2,fun i hi=>up 4000 (Zik fun p hp=>B.tops p (n54_ hp)) (by have:=B.b4; omega),?_⟩;refine ⟨_,rfl,_,rfl,?_⟩
 by_cases hz:gl 0 (tops qs)=0
 · rw [hz];refine iteF ?_;refine q H2 _ s2 ⟨o_,rfl,.inr ?_⟩;unfold scl; rw [if_pos hz]; exact hok
 · rw [show (((gl 0 (tops qs):Nat):Int) != 0)=true by simpa using hz];refine iteT ?_;have al2:Al (IsQ K H2) us qs:=al.imp fun v x r=>hRQ _ _ _ _ s2.tk r;refine ⟨_,rfl,a,k,rfl,⟨_,(ha.same s2).sq⟩,fun E nE=>?_⟩;refine lc_Q (k:=k) (us:=us) RI hRI (bots qs) (by simp [al.1]) (by rw [al.1]; exact B.len) nE (ha.same s2) al2 (fun i x' H4 C ex s4 c=>?_) (fun H4 us'' s4 e4 a4=>?_)
   · exact ⟨_,rfl,c _ _ _ (Same.refl _) (by rw [n5_,ex]; rfl) rfl⟩
   rw [a4.ints] at e4;refine ⟨E,_,b,rfl,e4,B.bots,by have:=B.b4; omega,by rw [n2_]; have:=B.sz; omega,?_⟩;refine ⟨_,rfl,z2_,fun p np=>?_⟩;refine q _ _ (s2.trans (s4.trans (Same.new np))) ⟨p,rfl,.inl ?_⟩;unfold scl; rw [if_neg hz]; exact Zc
abbrev Zfm:Stmt:=top 29
theorem Zne (F:Fun K "whole" "whole" Zfm f fd) (Cp_:a4_ P w K mg base):FnOk P w K mg base CX0 5 f fd ["line"] (Zim K):=by
 have sc:FnScope ["line","many","common"] ["line"] (Ze Zfm):=fsc (by decide +kernel);refine F.ok sc (fun vs H Q E h=>by obtain ⟨a,k,us,qs,b,rfl,_⟩:=h;rfl) fun cdv A outer s H vs Q E hr h=>?_;obtain ⟨a,k,us,qs,b,rfl,ha,al,B,q⟩:=h;have nd:=sc.nd;refine' ⟨_,?term,?read⟩
 case term=>refine' @Zd _ _ _ _ _ ?g1 ?g2;(case g1=>refine' @Zac _ _ _ _ _ _ (Zi Cp_ hr (by decide) rfl (Za (pv 0) Zb rfl)) ?g3 (by rfl) (by rfl) (by rfl);case g3=>refine' @Yb _ _ _ _ _ (2) rfl (Zh (Zn (i:=1) nd rfl (Or.inr rfl)) (Zh (Zn (i:=2) nd rfl (Or.inr rfl)) Zx)) (by rfl) (by rfl));case g2=>refine' @Zg _ _ _ ?g4;case g4=>refine' @Zm _ _ _ _ ?g5;case g5=>refine' @Y0 _ _ _ _ _ _ _ (["top","bottom","common","many"]) ([none,none,some 2,some 1]) _ _ ((gTup K 2 (Z7 (Z1 0) (Z7 (Z1 1) gNil)))) _ _ rfl (Z6 (XN:=["line","many","common"]) (Scope.names (Ze Zfm)) rfl rfl rfl (fun _ h=>Zw h) (by decide +kernel) rfl) (Zak K rfl (pv 0)) (fun _ _ _ _=>Yb (n:=2) rfl (Zh (pgB 0) (Zh (pgB 1) Zx))) (fun _ _ _ _=>Zl) (fun _ _ _ _=>Zq Yi (Zq Yq (pv 0) (pv 2)) (Zq Yq (pv 3) (pv 1))) (by intro _ ; rfl)
 obtain ⟨c1,c2,c3,c4⟩:=Zbf B;refine ⟨_,rfl,a,k,us,qs,b,rfl,ha,al,B,fun H1 v s1 ⟨p,e,hp⟩=>?_⟩;subst e;refine ⟨p,_,rfl,IsSc.sq hp,rfl,_,_,rfl,_,_,rfl,rfl,?_⟩;have al2:Al (IsQ K H1) us qs:=al.imp fun v x r=>hRQ _ _ _ _ s1.tk r;refine ⟨_,rfl,a,k,rfl,⟨_,(ha.same s1).sq⟩,fun D nD=>?_⟩;refine lc_Q (k:=k) (us:=us) RI hRI (wh qs) (by simp [wh,al.1]) (by rw [al.1]; exact B.len) nD (ha.same s1) al2 (fun i x' H2 C ex s2 c=>?_) (fun H2 us' s2 e2 a2=>?_)
 · have hm:=n1_ ex;have hx:=B.bd x' hm;refine ⟨_,rfl,_,rfl,_,_,rfl,rfl,⟨by omega,up 8999 c4⟩,_,rfl,_,rfl,_,_,rfl,rfl,⟨FM.den_ne x',up 8999 (show (x'.den:Int).natAbs < 2 ^ b from hx.2) (by have:=B.b4; omega)⟩,_,_,rfl,rfl,⟨up 1000000 (Yt c3 hx.1) (by have:=B.b4; omega),up 1000000 (Yt (FM.den_pos x') c2)⟩,c _ _ _ (Same.refl _) (by unfold wh; rw [n5_,ex]; rfl) rfl⟩
 rw [a2.ints] at e2;exact q H2 D (s1.trans s2) (Zh0 s1 nD) e2
abbrev Xf:Stmt:=top 30
theorem Zb4 (F:Fun K "comes_to_nought" "comes_to_nought" Xf f fd) (Ck_:a5_ P w K mg base):FnOk P w K mg base CX0 6 f fd ["weights","line"] (Zjh K):=by
 have sc:FnScope ["weights","line"] ["weights","line"] (Ze Xf):=fsc (by decide +kernel);refine F.ok sc (fun vs H Q E h=>by obtain ⟨w,ws,a,k,us,qs,b,rfl,_⟩:=h;rfl) fun cdv A outer s H vs Q E hr h=>?_;obtain ⟨w,ws,a,k,us,qs,b,rfl,hw,hws,ha,al,B,q⟩:=h;have hu:=Zfs hr;refine' ⟨_,?term,?read⟩
 case term=>refine' @Zg _ _ _ ?g1;case g1=>refine' @Zm _ _ _ _ ?g2;case g2=>refine' @Zaq _ _ _ _ _ _ _ _ Zho ?g3 Zf (Zy _);case g3=>refine' @Zj _ _ _ _ _ _ _ _ _ (Zdf rfl) rfl T.b_sum Zk7 ?g4 (by decide) (by decide) (by rfl) (by rfl);case g4=>refine' @Za _ _ _ _ _ ?g5 Zb rfl;case g5=>refine' @Y0 _ _ _ _ _ _ _ (["weight","part"]) ([none,none]) _ _ ((gTup K 2 (Z7 (Z1 0) (Z7 (Z1 1) gNil)))) _ _ rfl (Z2 (by decide) rfl (by decide) rfl rfl) ?g6 (fun _ _ _ _=>Yb (n:=2) rfl (Zh (pgB 0) (Zh (pgB 1) Zx))) (fun _ _ _ _=>Zl) (fun _ _ _ _=>Zq Yi (pv 0) (pv 1)) (by intro _ ; rfl);case g6=>refine' @Zgx _ _ _ _ .l .l _ _ _ _ _ rfl T.b_zip (Za (pv 0) (Za (Zi Ck_ hr (by decide) rfl (Za (pv 1) Zb rfl)) Zb rfl) rfl) (by rfl) (by rfl)
 refine ⟨_,rfl,_,rfl,a,k,us,qs,b,rfl,ha,al,B,fun H1 l s1 nl hl=>?_⟩;refine ⟨w,l,rfl,⟨_,SqL.of (s1 _ _ hw)⟩,⟨_,SqL.of hl⟩,fun D nD=>?_⟩;have hlen:(wh qs).length=qs.length:=by simp [wh]
 refine lc_Z (k:=.l) (l:=.l) (vs:=ws.map V.int) (ws:=(wh qs).map V.int) RI hRI (List.zipWith (· * ·) ws (wh qs)) (by simp) (by simp [hlen]; have:=B.len; omega) nD (s1 _ _ hw) hl (fun i v u H2 C hv hu s2 c=>?_) (fun H2 us' s2 e2 a2=>?_)
 · rw [n5_] at hv hu;obtain ⟨x,ex,rfl⟩:=n37_.mp hv;obtain ⟨y,ey,rfl⟩:=n37_.mp hu;exact ⟨_,rfl,_,rfl,x,y,rfl,rfl,⟨up 1000000 (hws x (n1_ ex)),up 1000000 (Zmu B y (n1_ ey))⟩,c _ _ _ (Same.refl _) (by rw [n24_,ex,ey]) rfl⟩
 · rw [a2.ints] at e2;refine ⟨D,_,rfl,SqL.of e2,rfl,?_⟩;rw [show decide (V.int (List.zipWith (· * ·) ws (wh qs)).sum=V.int 0)=decide ((List.zipWith (· * ·) ws (wh qs)).sum=0) from decide_eq_decide.mpr ⟨V.int.inj,fun z=>by rw [z]⟩];exact q H2 (s1.trans s2)
abbrev Za3:Stmt:=top 32
theorem Zkg (F:Fun K "cleared" "cleared" Za3 f fd) (Co_:a2_ P w K mg base):FnOk P w K mg base CX0 4 f fd ["known","line","head","place"] Zey:=by
 have sc:FnScope ["known","line","head","place","many","top","parts","common"] ["known","line","head","place"] (Ze Za3):=fsc (by decide +kernel);refine F.ok sc (fun vs H Q E h=>by obtain ⟨kn,l,hd,line,head,pl,rfl,_⟩:=h;rfl) fun cdv A outer s H vs Q E hr h=>?_;obtain ⟨kn,l,hd,line,head,pl,rfl,hl,hh,LO,hB,hpl,h1k,q⟩:=h;have nd:=sc.nd;have hu:=Zfs hr;refine' ⟨_,?term,?read⟩
 case term=>refine' @Zd _ _ _ _ _ ?g1 ?g2;(case g1=>refine' @Zs _ _ (4) _ _ _ _ nd rfl (Or.inr rfl) ?g3 (by rfl) (by first | exact Or.inl rfl | exact Or.inr rfl | assumption);case g3=>refine' @Zz _ _ _ _ _ _ _ Yc (pv 1) (pv 3) (fun _ _=>rfl));case g2=>refine' @Zd _ _ _ _ _ ?g4 ?g5;(case g4=>refine' @Y7 _ _ _ _ _ _ _ _ (Zt Zho (pv 4) Zf (Zy _)) (Zg (Zm (Zv (Za (pv 0) (Za (pv 1) Zb rfl) rfl)))) Z3);case g5=>refine' @Zd _ _ _ _ _ ?g6 ?g7;(case g6=>refine' @Zs _ _ (5) _ _ _ _ nd rfl (Or.inr rfl) ?g8 (by rfl) (by first | exact Or.inl rfl | exact Or.inr rfl | assumption);case g8=>refine' @Zz _ _ _ _ _ _ _ Yc (pv 2) (pv 3) (fun _ _=>rfl));case g7=>refine' @Zd _ _ _ _ _ ?g9 ?ga;(case g9=>refine' @Xp _ _ _ _ _ _ _ _ _ _ (["own","its","top","many"]) ([none,none,some 5,some 4]) _ _ ((gTup K 2 (Z7 (Z1 0) (Z7 (Z1 1) gNil)))) _ _ _ rfl rfl (Zn (i:=6) nd rfl (Or.inl rfl)) (Z6 (XN:=["known","line","head","place","many","top","parts","common"]) (Scope.names (Ze Za3)) rfl rfl rfl (fun _ h=>Zw h) (by decide +kernel) rfl) ?gb (fun _ _ _ _=>Yb (n:=2) rfl (Zh (pgB 0) (Zh (pgB 1) Zx))) (fun _ _ _ _=>Zl) (fun _ _ _ _=>Zq Zgn (Zq Yi (pv 2) (pv 0)) (Zq Yi (pv 3) (pv 1))) (by intro _ ; rfl);case gb=>refine' @Zgx _ _ _ _ .l .l _ _ _ _ _ rfl T.b_zip (Za (pv 1) (Za (pv 2) Zb rfl) rfl) (by rfl) (by rfl));case ga=>refine' @Zd _ _ _ _ _ ?gc ?gd;(case gc=>refine' @Zs _ _ (7) _ _ _ _ nd rfl (Or.inr rfl) (Zi Co_ hr (by decide) rfl (Za (pv 6) (Za (pv 0) Zb rfl) rfl)) (by rfl) (by first | exact Or.inl rfl | exact Or.inr rfl | assumption));case gd=>refine' @Zd _ _ _ _ _ ?ge (Zg (Zm (Zv (Za (pv 5) (Za (pv 6) Zb rfl) rfl))));case ge=>refine' @Y7 _ _ _ _ _ _ _ _ (Zt Ze6 (pv 7) Zf (Zy _)) ?gf Z3;case gf=>refine' @Zg _ _ _ ?gg;case gg=>refine' @Xp _ _ _ _ _ _ _ _ _ _ (["part","common"]) ([none,some 7]) _ _ _ _ _ _ rfl rfl (Zn (i:=6) nd rfl (Or.inl rfl)) (Z6 (XN:=["known","line","head","place","many","top","parts","common"]) (Scope.names (Ze Za3)) rfl rfl rfl (fun _ h=>Zw h) (by decide +kernel) rfl) (Yj (pv 6)) (fun _ _ _ _=>pgB 0) (fun _ _ _ _=>Zl) (fun _ _ _ _=>Zq Yq (pv 0) (pv 1)) (by intro _ ; rfl)
 have ll:line.length=head.length:=LO.len;refine ⟨_,rfl,_,rfl,l,_,pl,_,rfl,rfl,SqL.of hl,getI (by omega),?_⟩;refine ⟨_,rfl,rfl,_,rfl,?_⟩;refine ite2 (fun hz=>?_) (fun hz=>?_)
 · have h0:line.getD pl 0=0:=V.int.inj (n41_ hz);have ec:clr pl head (kn,line)=(kn,line):=by unfold clr; rw [if_pos h0]
   refine ⟨_,rfl,_,rfl,z2_,fun p np=>?_⟩;rw [ec] at q;exact q _ p l (Same.new np) (.inl rfl) np Zc (Same.new np _ _ hl)
 · have h0:line.getD pl 0≠0:=fun z=>hz (n14_ (by rw [z]));refine ⟨_,rfl,_,rfl,hd,_,pl,_,rfl,rfl,SqL.of hh,getI hpl,?_⟩;generalize ht:head.getD pl 0=t at *;generalize hm:line.getD pl 0=m at *;have tB:t.natAbs < 2 ^ 400000:=by rw [← ht,n6_,n0_ hpl]; exact hB _ (n36_ hpl)
   have mB:m.natAbs < 2 ^ 400000:=by rw [← hm,n6_,n0_ (by omega)]; exact LO.bd _ (n36_ _)
   refine ⟨_,rfl,_,rfl,l,hd,rfl,⟨_,SqL.of hl⟩,⟨_,SqL.of hh⟩,fun D nD=>?_⟩;have lp:(prt t m line head).length=head.length:=by simp [prt,ll]
   refine lc_Z (k:=.l) (l:=.l) (vs:=line.map V.int) (ws:=head.map V.int) RI hRI (prt t m line head) (by simp [lp,ll]) (by simp; omega) nD hl hh (fun i v u H2 C hv hu s2 c=>?_) (fun H2 us' s2 e2 a2=>?_)
   · rw [n5_] at hv hu;obtain ⟨x,ex,rfl⟩:=n37_.mp hv;obtain ⟨y,ey,rfl⟩:=n37_.mp hu;have xB:=LO.bd x (n1_ ex);have yB:=hB y (n1_ ey);exact ⟨_,rfl,_,rfl,t,x,rfl,rfl,⟨up 1000000 tB,up 1000000 xB⟩,_,rfl,_,rfl,m,y,rfl,rfl,⟨up 1000000 mB,up 1000000 yB⟩,_,_,rfl,rfl,c _ _ _ (Same.refl _) (by unfold prt; rw [n24_,ex,ey]) rfl⟩
   · rw [a2.ints] at e2;have gp:=Zmc LO.nz;have g4:∀ ps,gl kn ps < 2 ^ 4000:=fun ps=>n10_ (gp ps).2 LO.kn;refine ⟨_,rfl,_,rfl,D,_,kn,rfl,e2,fun i hi=>g4 _,?_⟩
     have ec:clr pl head (kn,line)=(t,(prt t m line head).map fun p=>p.fdiv (gl kn (prt t m line head):Int)):=by
      unfold clr; rw [show (kn,line).2.getD pl 0=m from hm,if_neg h0,ht]
     rw [ec] at q;generalize hg:gl kn (prt t m line head)=g at *;have g0:0 < g:=by rw [← hg]; exact (gp _).1
     have g9:g < 2 ^ 8999:=by rw [← hg]; exact up 8999 (g4 _)
     refine ⟨_,rfl,_,_,rfl,rfl,_,rfl,?_⟩;refine ite2 (fun h1=>?_) (fun h1=>?_)
     · refine ⟨_,rfl,D,rfl,⟨_,SqL.of e2⟩,fun E nE=>?_⟩;refine lc_T (k:=.l) (vs:=(prt t m line head).map V.int) RI hRI ((prt t m line head).map fun p=>p.fdiv (g:Int)) (by simp) (by simp; omega) nE e2 (fun i v H4 C hv s4 c=>?_) (fun H4 us4 s4 e4 a4=>?_)
       · rw [n5_] at hv;obtain ⟨x,ex,rfl⟩:=n37_.mp hv;exact ⟨_,rfl,_,rfl,x,_,rfl,rfl,⟨by omega,g9⟩,c _ _ _ (Same.refl _) (by rw [n5_,ex]; rfl) rfl⟩
       · rw [a4.ints] at e4;refine ⟨_,rfl,_,rfl,z2_,fun p np=>?_⟩;exact q _ p E (s2.trans (s4.trans (Same.new np))) (.inr (Zh0 s2 nE)) (Zh0 (s2.trans s4) np) Zc (Same.new np _ _ e4)
     · have h1':¬ ((1:Int) < (g:Int)):=fun z=>h1 (n14_ z);have e1:g=1:=by omega
       subst e1;rw [Zms] at q;refine ⟨_,rfl,_,rfl,z2_,fun p np=>?_⟩;exact q _ p D (s2.trans (Same.new np)) (.inr nD) (Zh0 s2 np) Zc (Same.new np _ _ e2)
abbrev Xx:Stmt:=top 31
theorem Zkh (F:Fun K "head_of" "head_of" Xx f fd) {cc Ph:Addr} (hcd:fd.code=.ref cc) (CK:∀ h,K.In h→PySem.W.CodeHd h cc Ph) (BK:BltK K mg):FnOk P w K mg base CX0 5 f fd ["left","place"] (Zhj Ph):=by
 have sc:FnScope ["left","place","heads"] ["left","place"] (Ze Xx):=fsc (by decide +kernel);refine F.okC sc (fun vs H Q E h=>?_) (fun cdv ecd A outer s H vs Q E hr h=>?_)
 · obtain ⟨la,us,ls,pl,rfl,_⟩:=h;rfl
 · obtain ⟨la,us,ls,pl,rfl,hl,al,hpl,h1k,tb,q⟩:=h;have nd:=sc.nd;refine' ⟨_,?term,?read⟩
   case term=>refine' @Zd _ _ _ _ _ ?g1 (Zg (Zm (Zn2 (i:=0) rfl rfl rfl rfl (Zn2 (i:=1) rfl rfl rfl rfl (Zow (k:=2) P w K mg base ⟨rfl,rfl,rfl,rfl,rfl⟩ rfl hr (by decide) rfl T.b_min Zku (Za (pv 2) Zb rfl) (Zpz (cc:=cc) (P:=Ph) (q := "head_of.<locals>.<lambda>") rfl rfl (ecd.symm.trans hcd) rfl CK BK))))));case g1=>refine' @Xp _ _ _ _ _ _ _ _ _ _ (["at","known","line","place"]) ([none,none,none,some 1]) _ _ ((gTup K 2 (Z7 (Z1 0) (Z7 (gTup K 2 (Z7 (Z1 1) (Z7 (Z1 2) gNil))) gNil)))) _ _ _ rfl rfl (Zn (i:=2) nd rfl (Or.inl rfl)) (Z6 (XN:=["left","place","heads"]) (Scope.names (Ze Xx)) rfl rfl rfl (fun _ h=>Zw h) (by decide +kernel) rfl) ?g2 (fun _ _ _ _=>Yb (n:=2) rfl (Zh (pgB 0) (Zh (Yb (n:=2) rfl (Zh (pgB 1) (Zh (pgB 2) Zx))) Zx))) (fun _ _ _ _=>Zb0 (Zt Zd3 (Zz (Zc7 K rfl) (pv 2) (pv 3) (fun _ _=>rfl)) Zf (Zy _))) (fun _ _ _ _=>pv 0) (by intro _ ; rfl);case g2=>refine' @Zo3 _ _ _ _ .l _ _ _ _ rfl T.b_enumerate (Za (pv 0) Zb rfl) (by rfl)
   case read =>
    have lu:=al.1;refine ⟨_,rfl,la,rfl,⟨_,SqL.of hl⟩,fun D nD=>?_⟩;refine Zad (n:=us.length) (fun _ v (x:Int)=>v=V.int x) (fun _ _ _ _ _ _ e=>e) (fun i=>if (ls.getD i (0,[])).2.getD pl 0=0 then none else some (i:Int)) (by omega) (fun σ=>∃ a b c,σ=[a,b,c,some (.int pl)]) ⟨_,_,_,rfl⟩ nD (fun i H2 s hi=>⟨us,us[i],SqL.of (s _ _ hl),n0_ hi⟩) (fun H2 s=>⟨us,SqL.of (s _ _ hl),rfl⟩) (fun i x σ2 H2 H3 C N hi s2 _ y ok c n=>?_) (fun H2 us2 s2 e2 a2=>?_)
    · obtain ⟨a1,a2,a3,rfl⟩:=ok;obtain ⟨p,w',rfl,np,rfl,y1⟩:=y;have ew:=y1 us (SqL.of (s2 _ _ hl));obtain ⟨x,ex,p',l',rfl,hp',hl'⟩:=al.get ew;have s3:Same H2 (upd H2 p (.tup [.int i,.ref p'])):=Same.new np;have gd:=Xr (z:=((0:Int),([]:List Int))) ex;rw [gd] at c n;refine ⟨p,_,rfl,SqT.of Zc,rfl,_,_,rfl,_,_,rfl,p',_,rfl,SqT.of (s3 _ _ (s2 _ _ hp')),rfl,_,_,rfl,_,_,rfl,rfl,rfl,?_⟩;refine ⟨_,rfl,_,rfl,l',_,pl,_,rfl,rfl,SqL.of (s3 _ _ (s2 _ _ hl')),getI (hpl x (n1_ ex)),rfl,_,rfl,?_⟩
      by_cases hz:x.2.getD pl 0=0
      · rw [n14_ (show V.int (x.2.getD pl 0)=.int 0 by rw [hz])];exact iteF (n _ _ ⟨_,_,_,rfl⟩ s3 (if_pos hz))
      · rw [n17_ (show ¬ V.int (x.2.getD pl 0)=.int 0 from fun z=>hz (V.int.inj z))];exact iteT ⟨_,rfl,c _ _ _ _ ⟨_,_,_,rfl⟩ s3 (if_neg hz) rfl⟩
    · rw [lu] at a2;rw [show us2=(hds ls pl).map V.int from Al.ints (ns:=hds ls pl) a2] at e2;refine ⟨_,rfl,fun o1 u1 hd1 r1 nc1=>⟨_,rfl,fun o2 u2 hd2 r2 nc2=>?_⟩⟩;have c12:s.heap.objs.size+1≠s.heap.objs.size+1+1:=n50_ (Nat.lt_succ_self _);generalize hc1:s.heap.objs.size+1=c1 at *;generalize hc2:c1+1=c2 at *;have nc2':H2 c2=none:=by rw [Zo (Ne.symm c12)] at nc2; exact nc2
      have sF:Same H2 (upd (upd H2 c1 (fzO o1)) c2 (fzO o2)):=(Same.new nc1).trans (Same.new nc2);have z1:upd (upd H2 c1 (fzO o1)) c2 (fzO o2) c1=some (fzO o1):=by rw [Zo c12]; exact Zc
      have z2:upd (upd H2 c1 (fzO o1)) c2 (fzO o2) c2=some (fzO o2):=Zc;generalize upd (upd H2 c1 (fzO o1)) c2 (fzO o2)=GF at sF z1 z2 ⊢;have S2:=s2.trans sF;refine ⟨_,rfl,tb.same S2,fun aL H5 kp tb5 naL nP lam=>?_⟩
      have nPt:∀ b o,(∀ ps,o≠HO.tbl ps)→GF b=some o→b≠Ph:=fun b o n e z=>by
       obtain ⟨ps,h,_⟩:=tb.same S2;rw [z,h] at e; exact n _ (Option.some.inj e).symm
      have k5:∀ b o,(∀ ps,o≠HO.tbl ps)→GF b=some o→H5 b=some o:=fun b o n e=>kp b o (nPt b o n e) e;have y1:=k5 _ _ (by intro ps z; cases z) z1;have y2:=k5 _ _ (by intro ps z; cases z) z2;obtain ⟨q',pm',j',pp,p0,p1,p2,p3,p4,p5,p6,p7,p8,lam⟩:∃ q' pm' j' pp p0 p1 p2 p3 p4 p5 p6 p7 p8,LamF H5 aL q' (hdPs pp) (Zk9 j' p0 p1 p2 p3 p4 p5 p6 p7 p8) hdSc [("place",c2),("left",c1)] pm':=⟨_,_,_,_,_,_,_,_,_,_,_,_,_,lam⟩;refine ⟨D,aL,hds ls pl,spHd aL c1 c2 q' pm' j' pp p0 p1 p2 p3 p4 p5 p6 p7 p8,hkf ls pl,rfl,rfl,SqL.of (k5 _ _ (by intro ps z; cases z) (sF _ _ e2)),Zrr T c12,fun i hi=>?_,?_⟩
      · obtain ⟨n,rfl,hn,hz⟩:=Zig hi;obtain ⟨w',ew,p',l',rfl,hp',hl'⟩:=al.got (n0_ hn);have gd:=Xr (z:=((0:Int),([]:List Int))) (n0_ hn);refine ⟨lam,la,p',l',us,pl,n,_,_,⟨o1,u1,y1,hd1,r1⟩,⟨o2,u2,y2,hd2,r2⟩,k5 _ _ (by intro ps z; cases z) (S2 _ _ hl),rfl,ew,k5 _ _ (by intro ps z; cases z) (S2 _ _ hp'),k5 _ _ (by intro ps z; cases z) (S2 _ _ hl'),hpl _ (n36_ hn),?_,rfl⟩;unfold hkf;rw [n65_,gd]
      · have dk:∀ b o,H2 b=some o→b≠Ph→del (del H5 c2) c1 b=some o:=fun b o e n=>by
         have n1:b≠c1:=Zk e nc1;have n2:b≠c2:=Zk e nc2';rw [Xw n1,Xw n2]; exact kp b o n (sF _ _ e)
        refine q _ (fun b o n e=>dk b o (s2 _ _ e) n) ?_;have t1:TabF (del H5 c2) Ph "head_of.<locals>.<lambda>" := tb5.del y2 hd2;exact t1.del (by rw [Xw c12]; exact y1) hd1
abbrev Zb1:Stmt:=top 33
theorem Zj5 (F:Fun K "stepped" "stepped" Zb1 f fd) {Ph:Addr} (Cap_:a6_ P w K mg base) (Caq_:Cal P w K mg base "head_of" 5 ["left","place"] (Zhj Ph)):FnOk P w K mg base CX0 6 f fd ["lines","places"] (Zco Ph):=by
 have sc:FnScope ["lines","places","steps","left","place","at","head"] ["lines","places"] (Ze Zb1):=fsc (by decide +kernel);refine F.ok sc (fun vs H Q E h=>by obtain ⟨La,vs',lines,n,w,rfl,_⟩:=h;rfl) fun cdv A outer s H vs Q E hr h=>?_;obtain ⟨La,vs',lines,n,w',rfl,hL,al,SO,tb,q⟩:=h;have nd:=sc.nd;refine' ⟨_,?term,?read⟩
 case term=>refine' @Zd _ _ _ _ _ ?g1 ?g2;(case g1=>refine' @Zs _ _ (2) _ _ _ _ nd rfl (Or.inl rfl) ?g3 (by rfl) (by first | exact Or.inl rfl | exact Or.inr rfl | assumption);case g3=>refine' @Yz _ _ _ _ Zb);case g2=>refine' @Zd _ _ _ _ _ ?g4 ?g5;(case g4=>refine' @Xp _ _ _ _ _ _ _ _ _ _ (["line"]) ([none]) _ _ _ _ _ _ rfl rfl (Zn (i:=3) nd rfl (Or.inl rfl)) (Z2 (by decide) rfl (by decide) rfl rfl) (Yj (pv 0)) (fun _ _ _ _=>pgB 0) (fun _ _ _ _=>Zl) (fun _ _ _ _=>Zv (Za Zf (Za (pv 0) Zb rfl) rfl)) (by intro _ ; rfl));case g5=>refine' @Zd _ _ _ _ _ ?g6 ?g7;(case g6=>refine' @Zae _ _ _ _ _ _ _ _ PassesOwn.never rfl ?g8 (Zn (i:=4) nd rfl (Or.inr rfl)) ?g9 (by intro _ ; rfl);(case g8=>refine' @Y2 _ _ _ _ _ _ rfl T.b_range (Za (pv 1) Zb rfl) (by rfl));case g9=>refine' @Zd _ _ _ _ _ ?ga ?gb;(case ga=>refine' @Zs _ _ (5) _ _ _ _ nd rfl (Or.inl rfl) (Zi Caq_ hr (by decide) rfl (Za (pv 3) (Za (pv 4) Zb rfl) rfl)) (by rfl) (by first | exact Or.inl rfl | exact Or.inr rfl | assumption));case gb=>refine' @Zg _ _ _ ?gc;case gc=>refine' @Y7 _ _ _ _ _ _ _ _ (Zt Zo1 (pv 5) Zhe (Zy _)) ?gd Z3;case gd=>refine' @Zd _ _ _ _ _ ?ge ?gf;(case ge=>refine' @Zs _ _ (6) _ _ _ _ nd rfl (Or.inr rfl) ?gg (by rfl) (by first | exact Or.inl rfl | exact Or.inr rfl | assumption);case gg=>refine' @Zz _ _ _ _ _ _ _ Ym ?gh Zf (fun _ _=>rfl);case gh=>refine' @Zft _ _ _ _ _ _ _ _ _ _ _ _ PySem.F.plainAttrs_list PySem.F.slot_list_pop PySem.F.type_list_pop Zmw (pv 3) (Za (pv 5) Zb rfl) (by rfl) (by rfl) (by rfl) (by rfl) (by rfl));case gf=>refine' @Zd _ _ _ _ _ ?gi ?gj;(case gi=>refine' @Xu _ _ _ _ ?gk (by rfl);case gk=>refine' @Zft _ _ _ _ _ _ _ _ _ _ _ _ PySem.F.plainAttrs_list PySem.F.slot_list_append PySem.F.type_list_append Xd (pv 2) (Za (Zv (Za (pv 4) (Za (pv 6) Zb rfl) rfl)) Zb rfl) (by rfl) (by rfl) (by rfl) (by rfl) (by rfl));case gj=>refine' @Zg _ _ _ ?gl;case gl=>refine' @Xp _ _ _ _ _ _ _ _ _ _ (["known","line","head","place"]) ([none,none,some 6,some 4]) _ _ ((gTup K 2 (Z7 (Z1 0) (Z7 (Z1 1) gNil)))) _ _ _ rfl rfl (Zn (i:=3) nd rfl (Or.inl rfl)) (Z6 (XN:=["lines","places","steps","left","place","at","head"]) (Scope.names (Ze Zb1)) rfl rfl rfl (fun _ h=>Zw h) (by decide +kernel) rfl) (Yj (pv 3)) (fun _ _ _ _=>Yb (n:=2) rfl (Zh (pgB 0) (Zh (pgB 1) Zx))) (fun _ _ _ _=>Zl) (fun _ _ _ _=>Zi Cap_ hr (by decide) rfl (Za (pv 0) (Za (pv 1) (Za (pv 2) (Za (pv 3) Zb rfl) rfl) rfl) rfl)) (by intro _ ; rfl));case g7=>refine' @Zg _ _ _ ?gm;case gm=>refine' @Zm _ _ _ _ ?gn;case gn=>refine' @Zv _ _ _ _ _ ?go;case go=>refine' @Za _ _ _ _ _ (pv 2) ?gp rfl;case gp=>refine' @Za _ _ _ _ _ ?gq Zb rfl;case gq=>refine' @Y0 _ _ _ _ _ _ _ (["known","line"]) ([none,none]) _ _ ((gTup K 2 (Z7 (Z1 0) (Z7 (Z1 1) gNil)))) _ _ rfl (Z2 (by decide) rfl (by decide) rfl rfl) (Yj (pv 3)) (fun _ _ _ _=>Yb (n:=2) rfl (Zh (pgB 0) (Zh (pgB 1) Zx))) (fun _ _ _ _=>Zl) (fun _ _ _ _=>pv 1) (by intro _ ; rfl)
 have lv:=al.1;refine ⟨z0_,fun sa nsa=>?_⟩;have s0:Same H (upd H sa (.lst [])):=Same.new nsa;refine ⟨_,rfl,La,rfl,⟨_,SqL.of (s0 _ _ hL)⟩,fun D nD=>?_⟩;have hsa0:(upd H sa (.lst [])) sa=some (.lst []):=Zc;have tb0:=tb.same s0;generalize upd H sa (.lst [])=H0 at s0 nD hsa0 tb0 ⊢
 have nPh:∀ {G:Hp} {b:Addr} {o:HO},TabF G Ph "head_of.<locals>.<lambda>" → (∀ ps,o≠HO.tbl ps)→G b=some o→b≠Ph:=fun t n e z=>by
  obtain ⟨ps,h,_⟩:=t;rw [z,h] at e; exact n _ (Option.some.inj e).symm
 refine Zad (n:=vs'.length) (IsLnN fun b=>b=sa∨b=D∨b=Ph) (fun H1 H2 v x k _ h=>h.keep fun b o n e=>k b o (fun z=>n (.inr (.inl z))) e) (fun i=>(lines.map fun l=>((1:Int),l))[i]?) (by have:=SO.l1; omega) (fun σ=>∃ a,σ=[a]) ⟨_,rfl⟩ nD (fun i H2 s hi=>Zar (k:=.l) (show SK.l.At H2 La vs' from s _ _ (s0 _ _ hL)) hi) (fun H2 s=>Y5 (k:=.l) (show SK.l.At H2 La vs' from s _ _ (s0 _ _ hL)) (n9_ _)) (fun i x σ2 H2 H3 C N hi s2 eD y ok c n=>?_) (fun H2 ws s2 e2 a2=>?_)
 · obtain ⟨a1,rfl⟩:=ok;obtain ⟨ws',eD⟩:=eD;obtain ⟨rfl,ex⟩:=Xj (k:=.l) (show SK.l.At H2 La vs' from s2 _ _ (s0 _ _ hL)) y;obtain ⟨ln,el,l,rfl,hl⟩:=al.get ex;refine Xz ?_;refine ⟨_,rfl,z2_,fun p np=>?_⟩;have hl2:=s2 _ _ (s0 _ _ hl);have sa2:=s2 _ _ hsa0;have tb2:=tb0.same s2;refine c _ _ _ (1,ln) ⟨_,rfl⟩ (Same.new np) (by rw [n5_,el]; rfl) ⟨p,l,rfl,?_,?_,Zc,Same.new np _ _ hl2⟩
   · obtain ⟨ps,htb,_⟩:=tb2;rintro (rfl | rfl | rfl)
     · rw [sa2] at np; cases np
     · rw [eD] at np; cases np
     · rw [htb] at np; cases np
   · rintro (rfl | rfl | z)
     · rw [s0 _ _ hl] at hsa0;rw [hl] at nsa; cases nsa
     · rw [s0 _ _ hl] at nD; cases nD
     · exact nPh tb2 (by intro ps z; cases z) hl2 z
 rw [Z4 _ _ (by rw [n2_]; exact lv)] at a2;refine ⟨_,rfl,_,rfl,by omega,by have:=SO.nw; have:=SO.w1; omega,?_⟩;refine Zaa (fun i σ H2=>∃ sa la us ws x1 x2 x3,σ=[some (.ref La),some (.int n),some (.ref sa),some (.ref la),x1,x2,x3]∧X8 Ph H H2∧TabF H2 Ph "head_of.<locals>.<lambda>" ∧ H sa=none∧H la=none∧sa≠la∧H2 sa=some (.lst us)∧H2 la=some (.lst ws)∧Al (fun v x=>IsLnN (fun b=>b=sa∨b=la∨b=Ph) H2 v (stI x)) us (stp lines i).1∧Al (IsLnN (fun b=>b=sa∨b=la∨b=Ph) H2) ws (stp lines i).2) ?_ (fun i σ H2 hi p=>?_) (fun σ H2 p=>?_)
 · exact ⟨sa,D,[],ws,_,_,_,rfl,fun b o _ e=>s2 _ _ (s0 _ _ e),tb0.same s2,nsa,Zh0 s0 nD,fun z=>(by rw [z,nD] at hsa0; cases hsa0),s2 _ _ hsa0,e2,.nil,a2⟩
 · clear s0 nsa hsa0 tb0 nD s2 e2 a2;obtain ⟨sa,la,us,ws,x1,x2,x3,rfl,kp,tb2,nsa,nla,sl,hsa,hla,aS,aL⟩:=p;have hin:i < n:=by simpa using hi
   have i0:(0:Int)+(i:Int)=i:=by omega
   rw [i0];have OK:=SO.ok i (by omega);have lens:=Zfx (lines:=lines) i;have l1:=SO.l1; have w1:=SO.w1; have nw:=SO.nw;refine ⟨_,rfl,_,rfl,la,ws,(stp lines i).2,i,rfl,hla,aL.imp fun v x r=>r.ln,fun x hx=>by rw [(OK x hx).len]; omega,by omega,tb2,fun H3 kp3 tb3=>?_⟩;have kN3:Zk1 (fun b=>b=sa∨b=la∨b=Ph) H2 H3:=fun b o n e=>kp3 b o (fun z=>n (.inr (.inr z))) e;have kp13:X8 Ph H H3:=fun b o n e=>kp3 b o n (kp b o n e);have aS3:=aS.imp fun v x r=>r.keep kN3;have aL3:=aL.imp fun v x r=>r.keep kN3;have hsa3:=kp3 _ _ (nPh tb2 (by intro ps z; cases z) hsa) hsa;have hla3:=kp3 _ _ (nPh tb2 (by intro ps z; cases z) hla) hla;refine ⟨_,rfl,rfl,_,rfl,?_⟩
   rcases Zk4 (stp lines i).2 i with ⟨e1,e2⟩ | ⟨at_,e1,e2⟩
   · rw [e2,n14_ rfl];refine iteF ?_;exact ⟨sa,la,us,ws,_,_,_,rfl,kp13,tb3,nsa,nla,sl,hsa3,hla3,by rw [Za7 e1]; exact aS3,by rw [Za7 e1]; exact aL3⟩
   · rw [e2,n17_ (by intro z; cases z)];refine iteT ?_;obtain ⟨ha,_⟩:=Zah e1;have st:=Zby e1;generalize hS:stp lines i=S at *;obtain ⟨w',ew,pw,hl,rfl,np1,np2,hpw,hhl⟩:=aL3.got (n0_ ha);have gd:S.2.getD at_ (0,[])=S.2[at_]:=by rw [n6_,n0_ ha]; rfl
     rw [gd] at st;have OKh:=OK _ (n36_ ha);generalize S.2[at_]=hd at *;have lw:=aL3.1;refine ⟨_,rfl,.inl ⟨rfl,_,SqL.of hla3⟩,_,rfl,la,ws,(at_:Int),at_,_,rfl,rfl,hla3,by omega,by omega,seqIndex_of (by omega) (by omega),ew,?_⟩;have kN4:Zk1 (fun b=>b=sa∨b=la∨b=Ph) H3 (upd H3 la (.lst (ws.eraseIdx at_))):=fun b o n e=>by rw [Zo fun z=>n (.inr (.inl z))]; exact e
     have hla4:upd H3 la (.lst (ws.eraseIdx at_)) la=some (.lst (ws.eraseIdx at_)):=Zc;have hsa4:upd H3 la (.lst (ws.eraseIdx at_)) sa=some (.lst us):=by rw [Zo sl]; exact hsa3
     have tb4:TabF (upd H3 la (.lst (ws.eraseIdx at_))) Ph "head_of.<locals>.<lambda>" := tb3.keepL hla3 Keep.upd;have kp4:X8 Ph H (upd H3 la (.lst (ws.eraseIdx at_))):=fun b o n e=>by rw [Zo (Zk e nla)]; exact kp13 b o n e
     generalize upd H3 la (.lst (ws.eraseIdx at_))=H4 at kN4 hla4 hsa4 tb4 kp4 ⊢;refine ⟨pw,_,1,_,rfl,rfl,SqT.of (kN4 _ _ np1 hpw),rfl,?_⟩;refine ⟨_,rfl,.inl ⟨rfl,_,SqL.of hsa4⟩,_,rfl,_,rfl,z2_,fun p np=>⟨sa,us,_,rfl,rfl,Same.new np _ _ hsa4,by rw [aS3.1,sizeLine_eq]; omega,?_⟩⟩;have nep:∀ {b:Addr} {o:HO},H4 b=some o→b≠p:=fun e z=>by rw [z,np] at e; cases e
     generalize hH5:upd (upd H4 p (.tup [.int (i:Int),.ref hl])) sa (.lst (us++[.ref p]))=H5;have nps:p≠sa:=fun z=>nep hsa4 z.symm;have kN5:Zk1 (fun b=>b=sa∨b=la∨b=Ph) H4 H5:=fun b o n e=>by rw [← hH5,Zo fun z=>n (.inl z),Zo (nep e)]; exact e
     have hsa5:H5 sa=some (.lst (us++[.ref p])):=by rw [← hH5]; exact Zc
     have hla5:H5 la=some (.lst (ws.eraseIdx at_)):=by rw [← hH5,Zo (Ne.symm sl),Zo (nep hla4)]; exact hla4
     have hp5:H5 p=some (.tup [.int (i:Int),.ref hl]):=by rw [← hH5,Zo nps]; exact Zc
     have tb5:TabF H5 Ph "head_of.<locals>.<lambda>" := by rw [← hH5]; exact (tb4.same (Same.new np)).keepL (Same.new np _ _ hsa4) Keep.upd
     have kp5:X8 Ph H H5:=fun b o n e=>by rw [← hH5,Zo (Zk e nsa),Zo (nep (kp4 b o n e))]; exact kp4 b o n e
     clear hH5;have kN35:Zk1 (fun b=>b=sa∨b=la∨b=Ph) H3 H5:=fun b o n e=>kN5 b o n (kN4 b o n e);have aS5:=aS3.imp fun v x r=>r.keep kN35;have aL5:=Al.erase (aL3.imp fun v x r=>r.keep kN35) at_
     have hhl5:=kN35 _ _ np2 hhl;have nlaP:la≠Ph:=nPh tb5 (by intro ps z; cases z) hla5
     have npN:¬ (p=sa∨p=la∨p=Ph):=by
      rintro (z | z | z)
      · exact nps z
      · exact nep hla4 z.symm
      · exact nPh tb5 (by intro ps z; cases z) hp5 z
     refine ⟨_,rfl,la,rfl,⟨_,SqL.of hla5⟩,fun D nD=>?_⟩;have lw5:=aL5.1;refine Zad (n:=(ws.eraseIdx at_).length) (IsLnN fun b=>b=sa∨b=D∨b=Ph) (fun H1 H2 v x k _ h=>h.keep fun b o n e=>k b o (fun z=>n (.inr (.inl z))) e) (fun j=>((S.2.eraseIdx at_).map (clr i hd.2))[j]?) (by rw [lw5]; have:=List.length_eraseIdx_le S.2 at_; omega) (fun σ=>∃ a b,σ=[a,b,some (.ref hl),some (.int i)]) ⟨_,_,rfl⟩ nD (fun j H2 s hj=>Zar (k:=.l) (show SK.l.At H2 la _ from s _ _ hla5) hj) (fun H2 s=>Y5 (k:=.l) (show SK.l.At H2 la _ from s _ _ hla5) (n9_ _)) (fun j x σ2 H6 H7 C N hj s6 eD y ok c n=>?_) (fun H6 ws6 s6 e6 a6=>?_)
     · obtain ⟨a1,a2,rfl⟩:=ok;obtain ⟨wsD,eD⟩:=eD;obtain ⟨rfl,ex⟩:=Xj (k:=.l) (show SK.l.At H6 la _ from s6 _ _ hla5) y;obtain ⟨ln,el,p1,l1',rfl,m1,m2,hp1,hl1⟩:=aL5.get ex;refine ⟨p1,_,rfl,SqT.of (s6 _ _ hp1),rfl,_,_,rfl,_,_,rfl,rfl,?_⟩;have OKl:=OK ln (List.mem_of_mem_eraseIdx (n1_ el));refine Zam ?_;refine ⟨_,rfl,_,rfl,_,rfl,_,rfl,ln.1,l1',hl,ln.2,hd.2,i,rfl,s6 _ _ hl1,s6 _ _ hhl5,by rw [OKh.len]; exact OKl,OKh.bd,by rw [OKh.len]; omega,by rw [OKh.len]; omega,fun H8 p8 l8 s8 hor np8 hp8 hl8=>?_⟩;have sa6:=s6 _ _ hsa5;have tb6:=tb5.same s6;refine c _ _ _ (clr i hd.2 ln) ⟨_,_,rfl⟩ s8 (by rw [n5_,el]; rfl) ⟨p8,l8,rfl,?_,?_,hp8,hl8⟩
       · obtain ⟨ps,htb,_⟩:=tb6;rintro (rfl | rfl | rfl)
         · rw [sa6] at np8; cases np8
         · rw [eD] at np8; cases np8
         · rw [htb] at np8; cases np8
       · rcases hor with rfl | nl8
         · rintro (z | rfl | z)
           · exact m2 (.inl z)
           · rw [hl1] at nD; cases nD
           · exact m2 (.inr (.inr z))
         · obtain ⟨ps,htb,_⟩:=tb6;rintro (rfl | rfl | rfl)
           · rw [sa6] at nl8; cases nl8
           · rw [eD] at nl8; cases nl8
           · rw [htb] at nl8; cases nl8
     · rw [Z4 _ _ (by rw [n2_]; exact lw5)] at a6
       have nD2:∀ b o,H6 b=some o→(b=sa∨b=D∨b=Ph)→(b=sa∨b=la∨b=Ph)∨b=D:=fun b o _ z=>by
        rcases z with z | z | z
        · exact .inl (.inl z)
        · exact .inr z
        · exact .inl (.inr (.inr z))
       have toD:∀ {v:V} {x:Int×List Int},IsLnN (fun b=>b=sa∨b=la∨b=Ph) H5 v x→IsLnN (fun b=>b=sa∨b=D∨b=Ph) H6 v x:=fun {v x} ⟨p',l',e,n1,n2,h1,h2⟩ =>
        ⟨p',l',e,fun z=>(by
         rcases z with z | z | z
         · exact n1 (.inl z)
         · rw [z,nD] at h1; cases h1
         · exact n1 (.inr (.inr z))),fun z=>(by
         rcases z with z | z | z
         · exact n2 (.inl z)
         · rw [z,nD] at h2; cases h2
         · exact n2 (.inr (.inr z))),s6 _ _ h1,s6 _ _ h2⟩
       refine ⟨sa,D,us++[.ref p],ws6,_,_,_,rfl,fun b o n e=>s6 _ _ (kp5 b o n e),tb5.same s6,nsa,?_,fun z=>(by rw [z,nD] at hsa5; cases hsa5),s6 _ _ hsa5,e6,?_,?_⟩
       · cases e:H D with
         | none=>rfl
         | some o =>
           by_cases z:D=Ph
           · obtain ⟨ps,htb,_⟩:=tb5;rw [z,htb] at nD; cases nD
           · have:=kp5 D o z e
             rw [nD] at this; cases this
       · rw [st];exact (aS5.imp fun v x r=>toD r).snoc (toD ⟨p,hl,rfl,npN,np2,hp5,hhl5⟩)
       · rw [st]; exact a6
 · clear s0 nsa hsa0 tb0 nD s2 e2 a2;obtain ⟨sa,la,us,ws,x1,x2,x3,rfl,kp,tb2,nsa,nla,sl,hsa,hla,aS,aL⟩:=p;have ln:=aL.1;have lens:=Zfx (lines:=lines) n;have l1:=SO.l1;simp only [n65_] at aS aL ln;refine ⟨_,rfl,_,rfl,la,rfl,⟨_,SqL.of hla⟩,fun D nD=>?_⟩;refine Zad (n:=ws.length) (fun H v (x:List Int)=>∃ l,v=V.ref l∧l≠D∧H l=some (.lst (x.map V.int))) (fun H1 H2 v x k _ ⟨l,e,n,h⟩=>⟨l,e,n,k _ _ n h⟩) (fun j=>((stp lines n).2.map Prod.snd)[j]?) (by omega) (fun σ=>∃ a b,σ=[a,b]) ⟨_,_,rfl⟩ nD (fun j H2 s hj=>Zar (k:=.l) (show SK.l.At H2 la _ from s _ _ hla) hj) (fun H2 s=>Y5 (k:=.l) (show SK.l.At H2 la _ from s _ _ hla) (n9_ _)) (fun j x σ2 H6 H7 C N hj s6 eD y ok c n=>?_) (fun H6 ws6 s6 e6 a6=>?_)
   · obtain ⟨a1,a2,rfl⟩:=ok;obtain ⟨rfl,ex⟩:=Xj (k:=.l) (show SK.l.At H6 la _ from s6 _ _ hla) y;obtain ⟨x,el,p1,l1',rfl,m1,m2,hp1,hl1⟩:=aL.get ex;refine ⟨p1,_,rfl,SqT.of (s6 _ _ hp1),rfl,_,_,rfl,_,_,rfl,rfl,?_⟩;refine Zam ?_;exact ⟨_,rfl,c _ _ _ x.2 ⟨_,_,rfl⟩ (Same.refl _) (by rw [n5_,el]; rfl) ⟨l1',rfl,fun z=>(by rw [z,nD] at hl1; cases hl1),s6 _ _ hl1⟩⟩
   · rw [Z4 _ _ (by rw [n2_]; exact ln)] at a6;refine ⟨z2_,fun p np=>?_⟩;have s7:Same H6 (upd H6 p (.tup [.ref sa,.ref D])):=Same.new np;refine q _ p sa D us ws6 (fun b o n e=>s7 _ _ (s6 _ _ (kp b o n e))) ((tb2.same s6).same s7) Zc (s7 _ _ (s6 _ _ hsa)) (aS.imp fun v x r=>(r.ln.same s6).same s7) (s7 _ _ e6) (a6.imp fun v x ⟨l,e,_,h⟩=>⟨l,e,s7 _ _ h⟩)
abbrev Zbc:Stmt:=top 19
theorem Zic (F:Fun K "levelled" "levelled" Zbc f fd) (Cj_:a3_ P w K mg base):FnOk P w K mg base CX0 4 f fd ["parts"] (Zdt K):=by
 have sc:FnScope ["parts","many"] ["parts"] (Ze Zbc):=fsc (by decide +kernel);refine F.ok sc (fun vs H Q E h=>by obtain ⟨a,k,us,qs,b,rfl,_⟩:=h;rfl) fun cdv A outer s H vs Q E hr h=>?_;obtain ⟨a,k,us,qs,b,rfl,ha,al,B,q⟩:=h;have nd:=sc.nd;refine' ⟨_,?term,?read⟩
 case term=>refine' @Zd _ _ _ _ _ ?g1 ?g2;(case g1=>refine' @Zs _ _ (1) _ _ _ _ nd rfl (Or.inr rfl) ?g3 (by rfl) (by first | exact Or.inl rfl | exact Or.inr rfl | assumption);case g3=>refine' @Zi _ _ _ _ _ _ _ _ _ _ _ Cj_ hr (by decide) rfl ?g4 (by decide) (by rfl) (by rfl);case g4=>refine' @Za _ _ _ _ _ ?g5 Zb rfl;case g5=>refine' @Y0 _ _ _ _ _ _ _ (["top","bottom"]) ([none,none]) _ _ ((gTup K 2 (Z7 (Z1 0) (Z7 (Z1 1) gNil)))) _ _ rfl (Z2 (by decide) rfl (by decide) rfl rfl) (Zak K rfl (pv 0)) (fun _ _ _ _=>Yb (n:=2) rfl (Zh (pgB 0) (Zh (pgB 1) Zx))) (fun _ _ _ _=>Zl) (fun _ _ _ _=>pv 1) (by intro _ ; rfl));case g2=>refine' @Zg _ _ _ ?g6;case g6=>refine' @Zm _ _ _ _ ?g7;case g7=>refine' @Zv _ _ _ _ _ ?g8;case g8=>refine' @Za _ _ _ _ _ ?g9 (Za (pv 1) Zb rfl) rfl;case g9=>refine' @Y0 _ _ _ _ _ _ _ (["top","bottom","many"]) ([none,none,some 1]) _ _ ((gTup K 2 (Z7 (Z1 0) (Z7 (Z1 1) gNil)))) _ _ rfl (Z6 (XN:=["parts","many"]) (Scope.names (Ze Zbc)) rfl rfl rfl (fun _ h=>Zw h) (by decide +kernel) rfl) (Zak K rfl (pv 0)) (fun _ _ _ _=>Yb (n:=2) rfl (Zh (pgB 0) (Zh (pgB 1) Zx))) (fun _ _ _ _=>Zl) (fun _ _ _ _=>Zq Yi (pv 0) (Zq Yq (pv 2) (pv 1))) (by intro _ ; rfl)
 refine ⟨_,rfl,a,k,rfl,⟨_,ha.sq⟩,fun D nD=>?_⟩;refine lc_Q (k:=k) (us:=us) RI hRI (bots qs) (by simp [al.1]) (by rw [al.1]; exact B.len) nD ha al (fun i x' H2 C ex s2 c=>?_) (fun H2 us' s2 e2 a2=>?_)
 · exact ⟨_,rfl,c _ _ _ (Same.refl _) (by rw [n5_,ex]; rfl) rfl⟩
 rw [a2.ints] at e2;refine ⟨D,_,b,rfl,e2,B.bots,by have:=B.b4; omega,by rw [n2_]; have:=B.sz; omega,?_⟩;have al2:Al (IsQ K H2) us qs:=al.imp fun v x r=>hRQ _ _ _ _ s2.tk r;refine ⟨_,rfl,a,k,rfl,⟨_,(ha.same s2).sq⟩,fun E nE=>?_⟩;refine lc_Q (k:=k) (us:=us) RI hRI (lvd qs) (by simp [lvd,al.1]) (by rw [al.1]; exact B.len) nE (ha.same s2) al2 (fun i x' H4 C ex s4 c=>?_) (fun H4 us'' s4 e4 a4=>?_)
 · have hx:=B.bd x' (n1_ ex);exact ⟨_,rfl,_,rfl,_,rfl,_,_,rfl,rfl,⟨FM.den_ne x',up 8999 (show (x'.den:Int).natAbs < 2 ^ b from hx.2) (by have:=B.b4; omega)⟩,_,_,rfl,rfl,⟨up 1000000 hx.1 (by have:=B.b4; omega),up 1000000 (Yt (FM.den_pos x') B.lcm)⟩,c _ _ _ (Same.refl _) (by unfold lvd; rw [n5_,ex]; rfl) rfl⟩
 rw [a4.ints] at e4;refine ⟨_,rfl,z2_,fun p np=>?_⟩;exact q _ p E (s2.trans (s4.trans (Same.new np))) (Zh0 s2 nE) Zc (Same.new np _ _ e4)
abbrev Zb7:Stmt:=top 20
theorem Zns (F:FunD K "mixed" "mixed" Zb7 f fd) (Cq_:a7_ P w K mg base) (Cu_:a8_ P w K mg base):FnOk P w K mg base CX0 5 f fd ["weights","parts","bottom"] (Zjj K):=by
 have sc:FnScope ["weights","parts","bottom","tops","many"] ["weights","parts","bottom"] (Ze Zb7):=fsc (by decide +kernel);refine F.ok sc (fun vs H Q E h=>by obtain ⟨w,kw,ws,a,k,us,qs,b,c,rfl,_⟩:=h;rfl) fun cdv A outer s H vs Q E hr h=>?_;obtain ⟨w,kw,ws,a,k,us,qs,b,c,rfl,hw,hws,ha,al,B,hc0,hc4,q⟩:=h;have nd:=sc.nd;have hu:=Zfs hr;refine' ⟨_,?term,?read⟩
 case term=>refine' @Zd _ _ _ _ _ ?g1 ?g2;(case g1=>refine' @Zac _ _ _ _ _ _ (Zi Cq_ hr (by decide) rfl (Za (pv 1) Zb rfl)) ?g3 (by rfl) (by rfl) (by rfl);case g3=>refine' @Yb _ _ _ _ _ (2) rfl (Zh (Zn (i:=3) nd rfl (Or.inl rfl)) (Zh (Zn (i:=4) nd rfl (Or.inl rfl)) Zx)) (by rfl) (by rfl));case g2=>refine' @Zg _ _ _ ?g4;case g4=>refine' @Zm _ _ _ _ ?g5;case g5=>refine' @Zi _ _ _ _ _ _ _ _ _ _ _ Cu_ hr (by decide) rfl ?g6 (by decide) (by rfl) (by rfl);case g6=>refine' @Za _ _ _ _ _ ?g7 (Za (Zq Yi (pv 4) (pv 2)) Zb rfl) rfl;case g7=>refine' @Zj _ _ _ _ _ _ _ _ _ (Zdf rfl) rfl T.b_sum Zk7 ?g8 (by decide) (by decide) (by rfl) (by rfl);case g8=>refine' @Za _ _ _ _ _ ?g9 Zb rfl;case g9=>refine' @Y0 _ _ _ _ _ _ _ (["weight","top"]) ([none,none]) _ _ ((gTup K 2 (Z7 (Z1 0) (Z7 (Z1 1) gNil)))) _ _ rfl (Z2 (by decide) rfl (by decide) rfl rfl) (Zhr rfl T.b_zip (Za (pv 0) (Za (pv 3) Zb rfl) rfl)) (fun _ _ _ _=>Yb (n:=2) rfl (Zh (pgB 0) (Zh (pgB 1) Zx))) (fun _ _ _ _=>Zl) (fun _ _ _ _=>Zq Yi (pv 0) (pv 1)) (by intro _ ; rfl)
 refine ⟨_,rfl,a,k,us,qs,b,rfl,ha,al,B,fun H1 p l s1 nl hp hl=>?_⟩;refine ⟨p,_,rfl,SqT.of hp,rfl,_,_,rfl,_,_,rfl,rfl,?_⟩;refine ⟨_,rfl,_,rfl,w,l,kw,.l,rfl,⟨_,(hw.same s1).sq⟩,⟨_,SqL.of hl⟩,fun D nD=>?_⟩;have lq:(lvd qs).length=qs.length:=by simp [lvd]
 refine lc_Z (k:=kw) (l:=.l) (vs:=ws.map V.int) (ws:=(lvd qs).map V.int) RI hRI (List.zipWith (fun w t=>w * t) ws (lvd qs)) (by simp) (by simp [lq]; have:=B.len; omega) nD (hw.same s1) hl (fun i v u H2 C hv hu s2 c=>?_) (fun H2 us' s2 e2 a2=>?_)
 · rw [n5_] at hv hu;obtain ⟨x,ex,rfl⟩:=n37_.mp hv;obtain ⟨y,ey,rfl⟩:=n37_.mp hu;exact ⟨_,rfl,_,rfl,x,y,rfl,rfl,⟨up 1000000 (hws x (n1_ ex)),up 1000000 (Zp6 B y (n1_ ey))⟩,c _ _ _ (Same.refl _) (by rw [n24_,ex,ey]) rfl⟩
 · rw [a2.ints] at e2;have m0:=(Y9 _ (Y3 qs)).1;have cB:c.natAbs < 2 ^ 4000:=n10_ (by rw [n27_]; exact n44_ _ (by omega)) hc4;refine ⟨D,_,rfl,SqL.of e2,_,rfl,_,rfl,_,_,rfl,rfl,⟨up 1000000 B.lcm,up 1000000 cB⟩,_,_,rfl,n93_ (by omega) hc0,hc4,fun p2 H3 s3 h3=>?_⟩;rw [Zqf hc0] at h3;exact q H3 _ (s1.trans (s2.trans s3)) ⟨p2,rfl,.inl h3⟩
abbrev Zc3:Stmt:=top 34
theorem Zln (F:Fun K "put_at" "put_at" Zc3 f fd) (Cj_:a3_ P w K mg base) (Cu_:a8_ P w K mg base):FnOk P w K mg base CX0 4 f fd ["place","line","found"] (Zjm K):=by
 have sc:FnScope ["place","line","found","terms","bottom","others"] ["place","line","found"] (Ze Zc3):=fsc (by decide +kernel);refine F.ok sc (fun vs H Q E h=>by obtain ⟨pl,l,a,line,us,xs,rfl,_⟩:=h;rfl) fun cdv A outer s H vs Q E hr h=>?_;obtain ⟨pl,l,a,line,us,xs,rfl,hl,ha,al,PO,q⟩:=h;have nd:=sc.nd;refine' ⟨_,?term,?read⟩
 case term=>refine' @Zd _ _ _ _ _ ?g1 ?g2;(case g1=>refine' @Xp _ _ _ _ _ _ _ _ _ _ (["many","part"]) ([none,none]) _ _ ((gTup K 2 (Z7 (Z1 0) (Z7 (Z1 1) gNil)))) _ _ _ rfl rfl (Zn (i:=3) nd rfl (Or.inl rfl)) (Z2 (by decide) rfl (by decide) rfl rfl) ?g3 (fun _ _ _ _=>Yb (n:=2) rfl (Zh (pgB 0) (Zh (pgB 1) Zx))) (fun _ _ _ _=>Zb0 (PW.pt (Zex (Zt Zd3 (pv 0) Zf (Zy _)) (Zdd (Zt Zd3 (Zz (Zap K rfl) (pv 1) Zf (fun _ _=>rfl)) Zf (Zy _)))))) (fun _ _ _ _=>Zv (Za (pv 0) (Za (pv 1) Zb rfl) rfl)) (by intro _ ; rfl);case g3=>refine' @Zgx _ _ _ _ .l .l _ _ _ _ _ rfl T.b_zip ?g4 (by rfl) (by rfl);case g4=>refine' @Za _ _ _ _ _ ?g5 ?g6 rfl;(case g5=>refine' @X2 _ _ _ _ _ _ _ _ _ _ Zhl (pv 1) (Za4 (Zq Xm (pv 0) Zf)) Zax);case g6=>refine' @Za _ _ _ _ _ ?g7 Zb rfl;case g7=>refine' @X2 _ _ _ _ _ _ _ _ _ _ Zhl (pv 2) (Za4 (Zq Xm (pv 0) Zf)) Zax);case g2=>refine' @Zd _ _ _ _ _ ?g8 ?g9;(case g8=>refine' @Zs _ _ (4) _ _ _ _ nd rfl (Or.inr rfl) ?ga (by rfl) (by first | exact Or.inl rfl | exact Or.inr rfl | assumption);case ga=>refine' @Zi _ _ _ _ _ _ _ _ _ _ _ Cj_ hr (by decide) rfl ?gb (by decide) (by rfl) (by rfl);case gb=>refine' @Za _ _ _ _ _ ?gc Zb rfl;case gc=>refine' @Y0 _ _ _ _ _ _ _ (["many","part"]) ([none,none]) _ _ ((gTup K 2 (Z7 (Z1 0) (Z7 (Z1 1) gNil)))) _ _ rfl (Z2 (by decide) rfl (by decide) rfl rfl) (Yj (pv 3)) (fun _ _ _ _=>Yb (n:=2) rfl (Zh (pgB 0) (Zh (pgB 1) Zx))) (fun _ _ _ _=>Zl) (fun _ _ _ _=>Zz (Zap K rfl) (pv 1) Zf (fun _ _=>rfl)) (by intro _ ; rfl));case g9=>refine' @Zd _ _ _ _ _ ?gd ?ge;(case gd=>refine' @Zs _ _ (5) _ _ _ _ nd rfl (Or.inl rfl) ?gf (by rfl) (by first | exact Or.inl rfl | exact Or.inr rfl | assumption);case gf=>refine' @Zj _ _ _ _ _ _ _ _ _ (Zdf rfl) rfl T.b_sum Zk7 ?gg (by decide) (by decide) (by rfl) (by rfl);case gg=>refine' @Za _ _ _ _ _ ?gh Zb rfl;case gh=>refine' @Y0 _ _ _ _ _ _ _ (["many","part","bottom"]) ([none,none,some 4]) _ _ ((gTup K 2 (Z7 (Z1 0) (Z7 (Z1 1) gNil)))) _ _ rfl (Z6 (XN:=["place","line","found","terms","bottom","others"]) (Scope.names (Ze Zc3)) rfl rfl rfl (fun _ h=>Zw h) (by decide +kernel) rfl) (Yj (pv 3)) (fun _ _ _ _=>Yb (n:=2) rfl (Zh (pgB 0) (Zh (pgB 1) Zx))) (fun _ _ _ _=>Zl) (fun _ _ _ _=>Zq Yi (Zq Yi (pv 0) (Zz (Zap K rfl) (pv 1) Zf (fun _ _=>rfl))) (Zq Yq (pv 2) (Zz (Zap K rfl) (pv 1) Zf (fun _ _=>rfl)))) (by intro _ ; rfl));case ge=>refine' @Zg _ _ _ ?gi;case gi=>refine' @Zm _ _ _ _ ?gj;case gj=>refine' @Zi _ _ _ _ _ _ _ _ _ _ _ Cu_ hr (by decide) rfl ?gk (by decide) (by rfl) (by rfl);case gk=>refine' @Za _ _ _ _ _ ?gl ?gm rfl;(case gl=>refine' @Zq _ _ _ _ _ _ _ _ Zgn ?gn (pv 5);case gn=>refine' @Zq _ _ _ _ _ _ _ _ Yi (pv 4) ?go;case go=>refine' @Zz _ _ _ _ _ _ _ Yc (pv 1) (Zfu Zb6 Zf) (fun _ _=>rfl));case gm=>refine' @Za _ _ _ _ _ ?gp Zb rfl;case gp=>refine' @Zq _ _ _ _ _ _ _ _ Yi (pv 4) ?gq;case gq=>refine' @Zz _ _ _ _ _ _ _ Yc (pv 1) (pv 0) (fun _ _=>rfl)
 have lu:=al.1;have ll:=PO.len;have hpl:=PO.lt;have n2:=PO.n;refine ⟨_,rfl,_,rfl,_,_,rfl,rfl,_,rfl,l,_,rfl,SqL.of hl,fun l2 nl2=>?_⟩;rw [show ((pl:Int)+1)=((pl+1:Nat):Int) from rfl,Ze5];generalize gG:upd H l2 (.lst ((line.map V.int).drop (pl+1)))=H1;obtain ⟨s1,h2⟩:=gen_upd gG nl2;refine ⟨_,rfl,_,rfl,_,_,rfl,rfl,_,rfl,a,_,rfl,SqL.of (s1 _ _ ha),fun a2 na2=>?_⟩;rw [show ((pl:Int)+1)=((pl+1:Nat):Int) from rfl,Ze5];generalize gG:upd H1 a2 (.lst (us.drop (pl+1)))=H2;obtain ⟨s2,h3⟩:=gen_upd gG na2;have S2:=s1.trans s2;rw [← List.map_drop] at h2;have h2':=s2 _ _ h2;refine ⟨l2,a2,rfl,⟨_,SqL.of h2'⟩,⟨_,SqL.of h3⟩,fun D nD=>?_⟩;have aq:Al (IsQ K H2) us xs:=al.imp fun v x r=>hRQ _ _ _ _ S2.tk r;refine Zad (n:=((line.drop (pl+1)).zip (xs.drop (pl+1))).length) (IsTm K D) (fun H1 H2 v x k _ h=>h.keep H1 H2 v x k) (fun i=>(((line.drop (pl+1)).zip (xs.drop (pl+1)))[i]?).filter fun p=>p.1 != 0 && p.2.num != 0) (by simp; omega) (fun σ=>∃ a b,σ=[a,b]) ⟨_,_,rfl⟩ nD (fun i H3 s hi=>?_) (fun H3 s=>?_) (fun i x σ2 H3 H4 C N hi s3 eD y ok c n=>?_) (fun H3 ts s3 e3 a3=>?_)
 · rw [List.length_zip,n72_,n72_] at hi;exact ⟨_,_,_,_,SqL.of (s _ _ h2'),SqL.of (s _ _ h3),n0_ (by simp; omega),n0_ (by simp; omega)⟩
 · refine ⟨_,_,SqL.of (s _ _ h2'),SqL.of (s _ _ h3),?_⟩
   simp; omega
 · obtain ⟨a1,a2',rfl⟩:=ok;obtain ⟨wsD,eD⟩:=eD;obtain ⟨p,v,u,rfl,np,rfl,y1,y2⟩:=y;have ev:=y1 _ (SqL.of (s3 _ _ h2'));have eu:=y2 _ (SqL.of (s3 _ _ h3));rw [n5_] at ev;obtain ⟨m,em,rfl⟩:=n37_.mp ev;rw [List.getElem?_drop] at eu;obtain ⟨x,ex,f',rfl,hf⟩:=aq.get eu;have ex':(xs.drop (pl+1))[i]? = some x:=by rw [List.getElem?_drop]; exact ex
   have ez:((line.drop (pl+1)).zip (xs.drop (pl+1)))[i]? = some (m,x):=List.getElem?_zip_eq_some.mpr ⟨em,ex'⟩;rw [ez] at c n;have s4:Same H3 (upd H3 p (.tup [.int m,.ref f'])):=Same.new np;have hf4:=hf.same (s3.trans s4);refine ⟨p,_,rfl,SqT.of Zc,rfl,_,_,rfl,_,_,rfl,rfl,?_⟩;refine ⟨_,rfl,rfl,_,rfl,?_⟩
   by_cases m0:m=0
   · rw [n14_ (show V.int m=.int 0 by rw [m0])];refine iteF (iteF ?_);exact n _ _ ⟨_,_,rfl⟩ s4 (by simp [m0])
   · rw [n17_ (show ¬ V.int m=.int 0 from fun z=>m0 (V.int.inj z))];refine iteT ⟨_,rfl,f',_,0,_,rfl,rfl,hf4.sq,rfl,rfl,_,rfl,?_⟩
     by_cases x0:x.num=0
     · rw [n14_ (show V.int x.num=.int 0 by rw [x0])];refine iteF ?_;exact n _ _ ⟨_,_,rfl⟩ s4 (by simp [Rat.num_eq_zero.mp x0])
     · rw [n17_ (show ¬ V.int x.num=.int 0 from fun z=>x0 (V.int.inj z))];refine iteT ⟨_,rfl,_,rfl,z2_,fun p5 np5=>?_⟩;refine c _ _ _ (m,x) ⟨_,_,rfl⟩ (s4.trans (Same.new np5)) (by simp [m0,x0]) ⟨p5,f',rfl,?_,Zc,?_⟩
       · rintro rfl; rw [s4 _ _ eD] at np5; cases np5
       · exact hf.imp (fun z=>⟨fun z'=>(by rw [← z',s3 _ _ z] at eD; cases eD),Same.new np5 _ _ (s4 _ _ (s3 _ _ z))⟩) id
 · rw [Zl9 _ _ _ rfl] at a3;have tl:(trm pl line xs).length≤200:=n19_ (List.length_filter_le _ _) (by simp; omega);change Al (IsTm K D H3) ts (trm pl line xs) at a3;have lt3:=a3.1
   have mem:∀ p∈trm pl line xs,p.1∈line∧p.2∈xs:=fun p hp=>by
    have h:=List.mem_filter.mp hp;exact ⟨n89_ (List.of_mem_zip h.1).1,n89_ (List.of_mem_zip h.1).2⟩
   have prs:∀ (i:Nat) (w:V),ts[i]? = some w→∃ p x y,w=.ref p∧H3 p=some (.tup [x,y]):=fun i w e=>by
    obtain ⟨x,_,p,f',rfl,_,h,_⟩:=a3.get e;exact ⟨p,_,_,rfl,h⟩
   have pr:∀ {i:Nat} {p:Addr} {x y:V},ts[i]? = some (.ref p)→H3 p=some (.tup [x,y])→∃ t f',(trm pl line xs)[i]? = some t∧x=.int t.1∧y=.ref f'∧QT K H3 f' t.2:=fun e hp=>by
    obtain ⟨t,et,p',f',e1,_,h,hf⟩:=a3.get e;cases e1
    rw [hp] at h;cases h
    exact ⟨t,f',et,rfl,rfl,hf.imp (fun z=>z.2) id⟩
   refine ⟨_,rfl,D,rfl,⟨_,SqL.of e3⟩,fun E nE=>?_⟩;refine Zqm (k:=.l) (vs:=ts) RI hRI (bots ((trm pl line xs).map Prod.snd)) (by simp [lt3]) (by omega) nE e3 prs (fun i p x y H4 C hw hp s4 c=>?_) (fun H4 us4 s4 e4 a4=>?_)
   · obtain ⟨t,f',et,rfl,rfl,hf⟩:=pr hw hp;exact ⟨_,rfl,f',_,1,_,rfl,rfl,(hf.same s4).sq,rfl,c _ _ _ (Same.refl _) (by rw [n5_,n5_,et]; rfl) rfl⟩
   · rw [a4.ints] at e4
     have bb:∀ x∈bots ((trm pl line xs).map Prod.snd),0 < x∧x.natAbs < 2 ^ 4000:=fun x hx=>by
      obtain ⟨q',hq,rfl⟩:=n22_.mp hx;obtain ⟨t,ht,rfl⟩:=n22_.mp hq;exact ⟨FM.den_pos _,PO.den _ (mem t ht).2⟩
     refine ⟨E,_,4000,rfl,e4,bb,n9_ _,by simp; omega,?_⟩;have szB:=PO.sz;have B0:=(Y9 _ (Y3 ((trm pl line xs).map Prod.snd))).1;have key:=Zpe (pl:=pl) (line:=line) (xs:=xs) rfl PO.nz;generalize lcmL (bots ((trm pl line xs).map Prod.snd))=B at szB B0 key ⊢;have c4:(line.getD pl 0).natAbs < 2 ^ 4000:=n10_ (by rw [n27_]; exact n44_ _ (by omega)) szB;have B4:B.natAbs < 2 ^ 4000:=n10_ (by rw [n27_]; exact Nat.le_mul_of_pos_right _ (Int.natAbs_pos.mpr PO.nz)) szB;refine ⟨_,rfl,D,rfl,⟨_,SqL.of (s4 _ _ e3)⟩,fun E2 nE2=>?_⟩;refine Zqm (k:=.l) (vs:=ts) RI hRI ((trm pl line xs).map fun p=>p.1 * p.2.num * B.fdiv p.2.den) (by simp [lt3]) (by omega) nE2 (s4 _ _ e3) (fun i w e=>let ⟨p,x,y,e1,h1⟩:=prs i w e; ⟨p,x,y,e1,s4 _ _ h1⟩) (fun i p x y H5 C hw hp s5 c=>?_) (fun H5 us5 s5 e5 a5=>?_)
     · obtain ⟨p',x',y',e1,h1⟩:=prs _ _ hw;cases e1
       have h1':=s4 _ _ h1;rw [hp] at h1';cases h1'
       obtain ⟨t,f',et,rfl,rfl,hf⟩:=pr hw h1;have hf5:=hf.same (s4.trans s5);have ht:=mem t (n1_ et);have m1:=PO.bd _ ht.1;have m2:=PO.num _ ht.2;refine ⟨_,rfl,_,rfl,f',_,0,_,rfl,rfl,hf5.sq,rfl,_,_,rfl,rfl,⟨up 1000000 m1,up 1000000 m2⟩,_,rfl,_,rfl,f',_,1,_,rfl,rfl,hf5.sq,rfl,_,_,rfl,rfl,⟨FM.den_ne _,up 8999 (show (t.2.den:Int).natAbs < 2 ^ 4000 from PO.den _ ht.2)⟩,_,_,rfl,rfl,⟨up 1000000 (FM.natAbs_mul_lt m1 m2),up 1000000 (Yt (FM.den_pos _) B4)⟩,c _ _ _ (Same.refl _) (by rw [n5_,et]; rfl) rfl⟩
     · rw [a5.ints] at e5;refine ⟨E2,_,rfl,SqL.of e5,?_⟩;have hl5:=s5 _ _ (s4 _ _ (s3 _ _ (S2 _ _ hl)))
       have lastB:(line.getLastD 0).natAbs < 2 ^ 400000:=by
        have hne:line≠[]:=by intro z; rw [z] at ll; simp at ll
        rw [List.getLastD_eq_getLast?,List.getLast?_eq_some_getLast hne];exact PO.bd _ (List.getLast_mem hne)
       refine ⟨_,rfl,_,rfl,_,rfl,l,_,-1,_,rfl,rfl,SqL.of hl5,Zkb (by intro z; rw [z] at ll; simp at ll),_,_,rfl,rfl,⟨up 1000000 B4,up 1000000 lastB⟩,_,rfl,_,_,rfl,rfl,_,rfl,_,rfl,_,rfl,l,_,pl,_,rfl,rfl,SqL.of hl5,getI (by omega),_,_,rfl,rfl,⟨up 1000000 B4,up 1000000 c4⟩,_,_,rfl,n93_ (by omega) PO.nz,szB,fun p6 H6 s6 h6=>?_⟩;rw [key] at h6;exact q H6 _ (S2.trans (s3.trans (s4.trans (s5.trans s6)))) ⟨p6,rfl,.inl h6⟩
abbrev Za1:Stmt:=top 37
theorem Zf0 (F:Fun K "factors_of" "factors_of" Za1 f fd) (Cc_:a1_ P w K mg base):FnOk P w K mg base CX0 3 f fd ["bottoms"] Zeg:=by
 have sc:FnScope ["bottoms","many","found","bottom","factor"] ["bottoms"] (Ze Za1):=fsc (by decide +kernel);refine F.ok sc (fun vs H Q E h=>by obtain ⟨l,ds,rfl,_⟩:=h;rfl) fun cdv A outer s H vs Q E hr h=>?_;obtain ⟨l,ds,rfl,hl,hd,h2,q⟩:=h;have nd:=sc.nd;refine' ⟨_,?term,?read⟩
 case term=>refine' @Zd _ _ _ _ _ ?g1 ?g2;(case g1=>refine' @Zs _ _ (1) _ _ _ _ nd rfl (Or.inl rfl) Zf (by rfl) (by first | exact Or.inl rfl | exact Or.inr rfl | assumption));case g2=>refine' @Zd _ _ _ _ _ ?g3 ?g4;(case g3=>refine' @Zs _ _ (2) _ _ _ _ nd rfl (Or.inl rfl) ?g5 (by rfl) (by first | exact Or.inl rfl | exact Or.inr rfl | assumption);case g5=>refine' @Yz _ _ _ _ Zb);case g4=>refine' @Zd _ _ _ _ _ ?g6 (Zg (Zm (pv 2)));case g6=>refine' @Zae _ _ _ _ _ _ _ _ PassesOwn.never rfl (Yj (pv 0)) (Zn (i:=3) nd rfl (Or.inl rfl)) ?g7 (by intro _ ; rfl);case g7=>refine' @Zd _ _ _ _ _ ?g8 ?g9;(case g8=>refine' @Zs _ _ (4) _ _ _ _ nd rfl (Or.inl rfl) (Zq Yq (pv 3) (Zi Cc_ hr (by decide) rfl (Za (pv 1) (Za (pv 3) Zb rfl) rfl))) (by rfl) (by first | exact Or.inl rfl | exact Or.inr rfl | assumption));case g9=>refine' @Zg _ _ _ ?ga;case ga=>refine' @Y7 _ _ _ _ _ _ _ _ (Zt Ze6 (pv 4) Zf (Zy _)) ?gb Z3;case gb=>refine' @Zd _ _ _ _ _ ?gc ?gd;(case gc=>refine' @Zkx _ _ (1) _ _ _ _ _ _ nd rfl (Or.inl rfl) (pv 4) Ziv (by first | exact Or.inl rfl | exact Or.inr rfl | assumption));case gd=>refine' @Zg _ _ _ ?ge;case ge=>refine' @Xu _ _ _ _ ?gf (by rfl);case gf=>refine' @Zft _ _ _ _ _ _ _ _ _ _ _ _ PySem.F.plainAttrs_list PySem.F.slot_list_append PySem.F.type_list_append Xd (pv 2) (Za (pv 4) Zb rfl) (by rfl) (by rfl) (by rfl) (by rfl) (by rfl)
 refine ⟨z0_,fun fa nfa=>?_⟩;generalize gG:upd H fa (.lst [])=H0;obtain ⟨s0,hfa⟩:=gen_upd gG nfa;refine ⟨_,rfl,l,rfl,⟨_,SqL.of (s0 _ _ hl)⟩,?_⟩;have nl:l≠fa:=Zk hl nfa;refine Zaz (n:=ds.length) (fun i σ H2=>Keep fa H0 H2∧H2 fa=some (.lst ((fct (ds.take i)).2.map V.int))∧(fct (ds.take i)).2.length≤i∧∃ (x y:Option V),σ=[some (.ref l),some (.int (fct (ds.take i)).1),some (.ref fa),x,y]) ⟨Keep.refl _ _,hfa,n9_ _,none,none,rfl⟩ (fun i σ H2 hi p=>⟨_,V.int ds[i],SqL.of (p.1 _ _ nl (s0 _ _ hl)),by simp [hi]⟩) (fun σ H2 p=>⟨_,SqL.of (p.1 _ _ nl (s0 _ _ hl)),by simp⟩) (fun i x σ H2 H3 hi y p=>?_) (fun σ H2 p=>?_)
 · obtain ⟨kf,hf,lf,x',y',rfl⟩:=p;obtain ⟨rfl,y2⟩:=y;have ex:=y2 _ (SqL.of (kf _ _ nl (s0 _ _ hl)));rw [n5_,n0_ hi] at ex;cases ex
   obtain ⟨b0,b4⟩:=hd ds[i] (n36_ hi);have fo:=Zl1 (ds.take i) fun x hx=>(hd x (n54_ hx)).1;have m0:=(Y9 (ds.take i) fun x hx=>(hd x (n54_ hx)).1).1;have mB:=Zdu (k:=4000) (ds.take i) fun x hx=>hd x (n54_ hx);have li:(ds.take i).length≤200:=by rw [n79_]; omega
   have st:fct (ds.take (i+1))=if 1 < ds[i].fdiv (Int.gcd (fct (ds.take i)).1 ds[i]:Int) then ((fct (ds.take i)).1 * ds[i].fdiv (Int.gcd (fct (ds.take i)).1 ds[i]:Int),(fct (ds.take i)).2++[ds[i].fdiv (Int.gcd (fct (ds.take i)).1 ds[i]:Int)]) else fct (ds.take i):=by
    rw [n39_ hi]; unfold fct; rw [n82_]; rfl
   rw [fo.1] at st;rw [fo.1];generalize lcmL (ds.take i)=m at *;have hg:=FM.gcd_ne (t:=m) (b:=ds[i]) (by omega);have gz:(Int.gcd m ds[i]) < 2 ^ 4000:=n10_ (Nat.gcd_le_right _ (by omega)) b4;refine ⟨_,rfl,_,rfl,_,rfl,m,ds[i],rfl,b4,_,_,rfl,rfl,⟨hg,up 8999 gz⟩,?_⟩;have jB:(ds[i].fdiv (Int.gcd m ds[i]:Int)).natAbs < 2 ^ 4000:=Yt (by omega) b4;refine ⟨_,rfl,_,_,rfl,rfl,_,rfl,?_⟩;refine ite2 (fun h1=>?_) (fun h1=>?_)
   · rw [if_pos (n41_ h1)] at st;refine ⟨_,rfl,_,rfl,_,_,rfl,rfl,⟨up 1000000 mB (by omega),up 1000000 jB⟩,?_⟩;refine ⟨_,rfl,.inl ⟨rfl,_,SqL.of hf⟩,_,rfl,fa,_,_,rfl,rfl,hf,by rw [n2_,sizeLine_eq]; omega,?_⟩;refine ⟨fun b o n e=>by rw [Zo n]; exact kf b o n e,?_,?_,some (.int ds[i]),some (.int (ds[i].fdiv (Int.gcd m ds[i]:Int))),?_⟩
     · rw [st,List.map_append]; exact Zc
     · rw [st,n26_]; exact Nat.succ_le_succ lf
     · rw [st]; rfl
   · have st':fct (ds.take (i+1))=fct (ds.take i):=by rw [st,if_neg fun z=>h1 (n14_ z)]
     refine ⟨kf,by rw [st']; exact hf,by rw [st']; omega,some (.int ds[i]),some (.int (ds[i].fdiv (Int.gcd m ds[i]:Int))),?_⟩;rw [st',fo.1]; rfl
 · obtain ⟨kf,hf,lf,x',y',rfl⟩:=p;rw [n67_] at hf;exact ⟨_,rfl,q H2 fa (fun b o e=>kf _ _ (Zk e nfa) (s0 _ _ e)) hf⟩
abbrev Zdq:Stmt:=top 38
theorem Zj9 (F:Fun K "lowered" "lowered" Zdq f fd) (Cc_:a1_ P w K mg base):FnOk P w K mg base CX0 3 f fd ["part","factors"] (Zem K):=by
 have sc:FnScope ["part","factors","top","bottom","factor","common"] ["part","factors"] (Ze Zdq):=fsc (by decide +kernel);refine F.ok sc (fun vs H Q E h=>by obtain ⟨v,q,l,fs,rfl,_⟩:=h;rfl) fun cdv A outer s H vs Q E hr h=>?_;obtain ⟨v,x,l,fs,rfl,hv,hl,hf,h2,hn,hdn,q⟩:=h;have nd:=sc.nd;refine' ⟨_,?term,?read⟩
 case term=>refine' @Zd _ _ _ _ _ ?g1 ?g2;(case g1=>refine' @Zac _ _ _ _ _ _ (pv 0) ?g3 (by rfl) (by rfl) (by rfl);case g3=>refine' @Yb _ _ _ _ _ (2) rfl (Zh (Zn (i:=2) nd rfl (Or.inl rfl)) (Zh (Zn (i:=3) nd rfl (Or.inl rfl)) Zx)) (by rfl) (by rfl));case g2=>refine' @Zd _ _ _ _ _ ?g4 (Zg (Zm (Zv (Za (pv 2) (Za (pv 3) Zb rfl) rfl))));case g4=>refine' @Zae _ _ _ _ _ _ _ _ PassesOwn.never rfl (Yj (pv 1)) (Zn (i:=4) nd rfl (Or.inl rfl)) ?g5 (by intro _ ; rfl);case g5=>refine' @Zd _ _ _ _ _ ?g6 ?g7;(case g6=>refine' @Zs _ _ (5) _ _ _ _ nd rfl (Or.inl rfl) (Zi Cc_ hr (by decide) rfl (Za (pv 2) (Za (pv 4) Zb rfl) rfl)) (by rfl) (by first | exact Or.inl rfl | exact Or.inr rfl | assumption));case g7=>refine' @Zd _ _ _ _ _ ?g8 ?g9;(case g8=>refine' @Zkx _ _ (2) _ _ _ _ _ _ nd rfl (Or.inl rfl) (pv 5) Zmr (by first | exact Or.inl rfl | exact Or.inr rfl | assumption));case g9=>refine' @Zg _ _ _ ?ga;case ga=>refine' @Zkx _ _ (3) _ _ _ _ _ _ nd rfl (Or.inl rfl) (Zq Yq (pv 4) (pv 5)) Ziv (by first | exact Or.inl rfl | exact Or.inr rfl | assumption)
 obtain ⟨p,rfl,hp⟩:=hv;refine ⟨_,rfl,p,_,rfl,hp.sq,rfl,_,_,rfl,_,_,rfl,rfl,?_⟩;refine ⟨_,rfl,l,rfl,⟨_,SqL.of hl⟩,?_⟩;refine Zaz (n:=fs.length) (fun i σ H2=>H2=H∧∃ (z:Rat) (a b:Option V),z=x / (Zcl (fs.take i):Rat)∧z.num.natAbs < 2 ^ 200000∧z.den < 2 ^ (4000 * (i+1))∧σ=[some (.ref p),some (.ref l),some (.int z.num),some (.int z.den),a,b]) ⟨rfl,x,none,none,?_,hn,by simpa using hdn,rfl⟩ (fun i σ H2 hi p=>⟨_,V.int fs[i],SqL.of (p.1 ▸ hl),by simp [hi]⟩) (fun σ H2 p=>⟨_,SqL.of (p.1 ▸ hl),by simp⟩) (fun i y σ H2 H3 hi yl p=>?_) (fun σ H2 p=>?_)
 · rw [List.take_zero];show x=x / ((1:Int):Rat)
   have:((1:Int):Rat)=1:=rfl
   rw [this]; grind
 · obtain ⟨rfl,z,a',b',ez,zn,zd,rfl⟩:=p;obtain ⟨rfl,y2⟩:=yl;have ex:=y2 _ (SqL.of hl);rw [n5_,n0_ hi] at ex;cases ex
   obtain ⟨f0,f4⟩:=hf fs[i] (n36_ hi);have ls:=Znl (q:=z) f0;have hg:=FM.gcd_ne (t:=z.num) (b:=fs[i]) (by omega);have gz:(Int.gcd z.num fs[i]) < 2 ^ 4000:=n10_ (Nat.gcd_le_right _ (by omega)) f4;have gp:(0:Int) < (Int.gcd z.num fs[i]:Int):=by omega
   have jB:(fs[i].fdiv (Int.gcd z.num fs[i]:Int)).natAbs < 2 ^ 4000:=Yt gp f4;have hi2:4000 * (i+1)≤800000:=by omega
   refine ⟨_,rfl,_,rfl,z.num,fs[i],rfl,f4,?_⟩;refine ⟨_,rfl,_,rfl,_,_,rfl,rfl,⟨hg,up 8999 gz⟩,?_⟩;refine ⟨_,rfl,_,rfl,_,rfl,_,_,rfl,rfl,⟨hg,up 8999 gz⟩,_,_,rfl,rfl,⟨up 1000000 (show (z.den:Int).natAbs < 2 ^ (4000 * (i+1)) from zd) (by omega),up 1000000 jB⟩,?_⟩;refine ⟨rfl,z / (fs[i]:Rat),some (.int fs[i]),some (.int (Int.gcd z.num fs[i])),?_,?_,?_,by rw [ls.1,ls.2]; rfl⟩
   · rw [n39_ hi,Znu (fun y hy=>?_),ez]
     rcases n29_.mp hy with h | h
     · exact (hf y (n54_ h)).1
     · rw [n13_.mp h]; exact f0
   · rw [ls.1]; exact Yt gp zn
   · have:=FM.natAbs_mul_lt (show (z.den:Int).natAbs < 2 ^ (4000 * (i+1)) from zd) jB
     rw [← ls.2] at this;exact n16_ (show _ < _ from this) (n11_ (by decide) (by omega))
 · obtain ⟨rfl,z,a',b',ez,zn,zd,rfl⟩:=p;rw [n67_] at ez;refine ⟨_,rfl,_,rfl,z2_,fun p2 np2=>?_⟩;exact q _ _ (Same.new np2) ⟨p2,rfl,by rw [← ez]; exact Zc⟩
abbrev Zfh:Stmt:=top 35
theorem Zmn (F:Fun K "filled" "filled" Zfh f fd) (Cat_:a9_ P w K mg base):FnOk P w K mg base CX0 5 f fd ["steps","found"] (Zf5 K):=by
 have sc:FnScope ["steps","found","told","place","line"] ["steps","found"] (Ze Zfh):=fsc (by decide +kernel);refine F.ok sc (fun vs H Q E h=>by obtain ⟨s,a,ss,us,steps,xs,rfl,_⟩:=h;rfl) fun cdv A outer s H vs Q E hr h=>?_;obtain ⟨s',a,ss,us,steps,xs,rfl,hs,als,ha,al,FO,q⟩:=h;have nd:=sc.nd;refine' ⟨_,?term,?read⟩
 case term=>refine' @Zd _ _ _ _ _ ?g1 ?g2;(case g1=>refine' @Zs _ _ (2) _ _ _ _ nd rfl (Or.inl rfl) (Yn Zca rfl T.b_list Zib (Za (pv 1) Zb rfl)) (by rfl) (by first | exact Or.inl rfl | exact Or.inr rfl | assumption));case g2=>refine' @Zd _ _ _ _ _ ?g3 (Zg (Zm (pv 2)));case g3=>refine' @Zae _ _ _ _ _ _ _ _ PassesOwn.never rfl (Zps rfl T.b_reversed Zhm (Za (pv 0) Zb rfl)) ?g4 ?g5 (by intro _ ; rfl);(case g4=>refine' @Yb _ _ _ _ _ (2) rfl (Zh (Zn (i:=3) nd rfl (Or.inl rfl)) (Zh (Zn (i:=4) nd rfl (Or.inl rfl)) Zx)) (by rfl) (by rfl));case g5=>refine' @Zg _ _ _ ?g6;case g6=>refine' @Zac _ _ _ _ _ _ (Zi Cat_ hr (by decide) rfl (Za (pv 3) (Za (pv 4) (Za (pv 2) Zb rfl) rfl) rfl)) ?g7 (by rfl) (by rfl) (by rfl);case g7=>refine' @Zg1 _ _ _ _ _ _ _ (pv 2) (pv 3) Zbv (by intro _ ; rfl)
 refine ⟨_,rfl,a,us,rfl,.inl (SqL.of ha),fun t nt _=>?_⟩;generalize gG:upd H t (.lst us)=H0;obtain ⟨s0,ht⟩:=gen_upd gG nt;have lss:=als.1;have nst:s'≠t:=Zk hs nt;refine ⟨_,rfl,s',ss,rfl,SqL.of (s0 _ _ hs),?_⟩;refine Zaz (n:=ss.length) (fun i σ H2=>Keep t H0 H2∧∃ (ts:List V) (x y:Option V),H2 t=some (.lst ts)∧Al (IsQ K H2) ts (fil (steps.drop (ss.length - i)) xs)∧σ=[some (.ref s'),some (.ref a),some (.ref t),x,y]) ⟨Keep.refl _ _,us,none,none,ht,?_,rfl⟩ (fun i σ H2 hi p=>⟨ss,ss[ss.length - 1 - i],SqL.of (p.1 _ _ nst (s0 _ _ hs)),hi,n0_ (by omega)⟩) (fun σ H2 p=>rfl) (fun i y σ H2 H3 hi yl p=>?_) (fun σ H2 p=>?_)
 · rw [Nat.sub_zero,List.drop_of_length_le (by omega)];exact al.imp fun v x r=>hRQ _ _ _ _ s0.tk r
 · obtain ⟨kt,ts,x,y',ht2,alt,rfl⟩:=p;obtain ⟨rfl,y2⟩:=yl;have ey:=y2 _ (SqL.of (kt _ _ nst (s0 _ _ hs)));have hk:ss.length - 1 - i < steps.length:=by omega
   obtain ⟨stp,es,pp,l,rfl,hpp,hl⟩:=als.get ey;have npt:pp≠t:=Zk hpp nt;have nlt:l≠t:=Zk hl nt;have eg:steps.getD (ss.length - 1 - i) (0,[])=stp:=Xr es;have PO:=FO.ok _ hk;rw [eg,show ss.length - 1 - i+1=ss.length - i by omega] at PO;refine ⟨pp,_,rfl,SqT.of (kt _ _ npt (s0 _ _ hpp)),rfl,_,_,rfl,_,_,rfl,rfl,?_⟩;refine ⟨_,rfl,_,rfl,_,rfl,stp.1,l,t,stp.2,ts,_,rfl,kt _ _ nlt (s0 _ _ hl),ht2,alt,PO,fun H4 v s4 hv=>?_⟩;have lt':=alt.1;have PL:=PO.lt;refine ⟨_,rfl,_,rfl,t,ts,(stp.1:Int),stp.1,rfl,rfl,s4 _ _ ht2,by unfold ixN; rw [if_pos (by omega),if_pos (by omega),n65_],?_⟩;refine ⟨fun b o n e=>by rw [Zo n]; exact s4 _ _ (kt b o n e),ts.set stp.1 v,_,_,Zc,?_,rfl⟩
   have dr:steps.drop (ss.length - (i+1))=stp :: steps.drop (ss.length - i):=by
    have h1:=List.drop_eq_getElem_cons hk;rw [show ss.length - 1 - i+1=ss.length - i by omega] at h1;rw [show ss.length - (i+1)=ss.length - 1 - i by omega,h1]
    congr 1
    exact Option.some.inj ((n0_ hk).symm.trans es)
   rw [dr];show Al _ _ ((fil (steps.drop (ss.length - i)) xs).set stp.1 (putQ stp.1 stp.2 (fil (steps.drop (ss.length - i)) xs)))
   have tk5:Tk H4 (upd H4 t (.lst (ts.set stp.1 v))):=Tk.upd_lst (s4 _ _ ht2);refine ⟨by rw [n68_,n68_]; exact lt',fun j w' x' e1 e2=>?_⟩;rw [List.getElem?_set] at e1 e2
   by_cases hj:stp.1=j
   · rw [if_pos hj] at e1 e2;rw [if_pos (by omega)] at e1 e2;cases e1; cases e2
     exact hRQ _ _ _ _ tk5 hv
   · rw [if_neg hj] at e1 e2;exact hRQ _ _ _ _ tk5 (hRQ _ _ _ _ s4.tk (alt.2 j w' x' e1 e2))
 · obtain ⟨kt,ts,x,y',ht2,alt,rfl⟩:=p;rw [Nat.sub_self,List.drop_zero] at alt;exact ⟨_,rfl,q H2 t ts (fun b o e=>kt _ _ (Zk e nt) (s0 _ _ e)) ht2 alt⟩
abbrev Zbk:Stmt:=top 24
theorem Zga (F:Fun K "places_of" "places_of" Zbk f fd):FnOk P w K mg base CX0 1 f fd ["rows"] (Zgo K):=by
 have sc:FnScope ["rows"] ["rows"] (Ze Zbk):=fsc (by decide +kernel);refine F.ok sc (fun vs H Q E h=>by obtain ⟨a,k,us,rows,rfl,_⟩:=h;rfl) fun cdv A outer s H vs Q E hr h=>?_;obtain ⟨a,k,us,rows,rfl,ha,al,q⟩:=h;refine' ⟨_,?term,?read⟩
 case term=>refine' @Zg _ _ _ ?g1;case g1=>refine' @Zm _ _ _ _ ?g2;case g2=>refine' @Zal _ _ _ _ _ _ _ _ ?g3 ?g4 Zf;(case g3=>refine' @Z5 _ _ _ (pv 0) (fun _=>rfl));case g4=>refine' @Zj _ _ _ _ _ _ _ _ _ Zp rfl T.b_len Xa ?g5 (by decide) (by decide) (by rfl) (by rfl);case g5=>refine' @Za _ _ _ _ _ ?g6 Zb rfl;case g6=>refine' @Zz _ _ _ _ _ _ _ (Zks K rfl) (pv 0) Zf (fun _ _=>rfl)
 have lu:=al.1
 have tr:TruV K (.ref a) H (!us.isEmpty):=by
  cases k with
  | l=>exact .inl ⟨us,SqL.of ha,rfl⟩
  | t=>exact .inr (.inl ⟨us,SqT.of ha,rfl⟩)
 refine ⟨_,rfl,_,tr,?_⟩;cases us with
 | nil =>
   obtain rfl:rows=[]:=List.length_eq_zero_iff.mp lu.symm;exact iteF q
 | cons u us =>
   cases rows with
   | nil=>simp at lu
   | cons r rows =>
     obtain ⟨p,ps,rfl,hp,alp⟩:=al.2 0 u r rfl rfl;refine iteT ⟨_,rfl,a,_,0,_,k,rfl,rfl,ha.sq,Yu (show (V.ref p :: us)[0]? = some (.ref p) from rfl),p,_,rfl,.inr (SqT.of hp),?_⟩;rw [alp.1];exact q
abbrev Zbl:Stmt:=top 36
theorem Zg9 (F:Fun K "rights_to" "rights_to" Zbl f fd) (Cay_:a10_ P w K mg base) (Cp_:a4_ P w K mg base):FnOk P w K mg base CX0 6 f fd ["rows","rights"] (Zdk K):=by
 have sc:FnScope ["rows","rights","scales"] ["rows","rights"] (Ze Zbl):=fsc (by decide +kernel);refine F.ok sc (fun vs H Q E h=>by obtain ⟨a,g,k,kg,us,gs,rows,rights,b,rfl,_⟩:=h;rfl) fun cdv A outer s H vs Q E hr h=>?_;obtain ⟨a,g,k,kg,us,gs,rows,rights,b,rfl,ha,al,hg,alg,RB,q⟩:=h;have nd:=sc.nd;refine' ⟨_,?term,?read⟩
 case term=>refine' @Zd _ _ _ _ _ ?g1 ?g2;(case g1=>refine' @Xp _ _ _ _ _ _ _ _ _ _ (["row"]) ([none]) _ _ _ _ _ _ rfl rfl (Zn (i:=2) nd rfl (Or.inl rfl)) (Z2 (by decide) rfl (by decide) rfl rfl) (Zak K rfl (pv 0)) (fun _ _ _ _=>pgB 0) (fun _ _ _ _=>Zl) (fun _ _ _ _=>Zi Cp_ hr (by decide) rfl (Za (pv 0) Zb rfl)) (by intro _ ; rfl));case g2=>refine' @Zg _ _ _ ?g3;case g3=>refine' @Zm _ _ _ _ ?g4;case g4=>refine' @Y0 _ _ _ _ _ _ _ (["right","many","common"]) ([none,none,none]) _ _ ((gTup K 2 (Z7 (gTup K 2 (Z7 (Z1 1) (Z7 (Z1 2) gNil))) (Z7 (Z1 0) gNil)))) _ _ rfl (Z2 (by decide) rfl (by decide) rfl rfl) (Zhr rfl T.b_zip (Za (pv 2) (Za (pv 1) Zb rfl) rfl)) (fun _ _ _ _=>Yb (n:=2) rfl (Zh (Yb (n:=2) rfl (Zh (pgB 1) (Zh (pgB 2) Zx))) (Zh (pgB 0) Zx))) (fun _ _ _ _=>Zl) (fun _ _ _ _=>Zi Cay_ hr (by decide) rfl (Za (Zv (Za (pv 1) Zb rfl)) (Za (Zv (Za (pv 0) Zb rfl)) (Za (pv 2) Zb rfl) rfl) rfl)) (by intro _ ; rfl)
 have lu:=al.1;have lg:=alg.1;have rl:=RB.rl;have n2:=RB.n;refine ⟨_,rfl,a,k,rfl,⟨_,ha.sq⟩,fun D nD=>?_⟩;refine lc_T (k:=k) (vs:=us) (IsSc K) IsSc.tk (rows.map scl) (by simp [lu]) (by omega) nD ha (fun i w H2 C hw s2 c=>?_) (fun H2 ss s2 e2 a2=>?_)
 · obtain ⟨row,er,p,ps,rfl,hp,alp⟩:=al.get hw;exact ⟨_,rfl,p,.t,ps,row,b,rfl,s2 _ _ hp,alp.imp fun v x r=>hRQ _ _ _ _ s2.tk r,RB.rb row (n1_ er),fun H5 v s5 h5=>c _ _ _ s5 (by rw [n5_,er]; rfl) h5⟩
 have lss:=a2.1;rw [n2_] at lss;refine ⟨_,rfl,_,rfl,D,g,.l,kg,rfl,⟨_,SqL.of e2⟩,⟨_,(hg.same s2).sq⟩,fun E nE=>?_⟩;refine Zad (n:=rows.length) (IsQ K) (fun H1 H2 v x k e r=>hRQ _ _ _ _ (Za5 k e) r) (fun i=>(rtv rows rights)[i]?) (by omega) (fun σ=>∃ a b c,σ=[a,b,c]) ⟨_,_,_,rfl⟩ nE (fun i H3 s hi=>⟨ss,gs,ss[i],gs[i],SqL.of (s _ _ e2),((hg.same s2).same s).sq,n0_ (by omega),n0_ (by omega)⟩) (fun H3 s=>⟨ss,gs,SqL.of (s _ _ e2),((hg.same s2).same s).sq,by omega⟩) (fun i x σ2 H3 H4 C N hi s3 eD y ok c n=>?_) (fun H3 es s3 e3 a3=>?_)
 · obtain ⟨a1,a2',a3,rfl⟩:=ok;obtain ⟨p,v,u,rfl,np,rfl,y1,y2⟩:=y;have ev:=y1 ss (SqL.of (s3 _ _ e2));have eu:=y2 gs ((hg.same s2).same s3).sq;obtain ⟨sc,es,p1,rfl,h1⟩:=a2.get ev;rw [n5_] at es;obtain ⟨row,er,rfl⟩:=n37_.mp es;obtain ⟨r,eg,f',rfl,hf⟩:=alg.get eu;have s4:Same H3 (upd H3 p (.tup [.ref p1,.ref f'])):=Same.new np;have S4:=s2.trans (s3.trans s4);have h1':SqT K (upd H3 p (.tup [.ref p1,.ref f'])) p1 [.int (scl row).1,.int (scl row).2]:=h1.elim (fun z=>SqT.of (s4 _ _ (s3 _ _ z))) KTu.sq;obtain ⟨m1,m2,m3⟩:=RB.mx (n1_ er) (n1_ eg);refine ⟨p,_,rfl,SqT.of Zc,rfl,_,_,rfl,p1,_,rfl,h1',rfl,_,_,rfl,_,_,rfl,rfl,_,_,rfl,rfl,?_⟩;refine Zam ?_;refine ⟨_,rfl,z1_,fun p5 np5=>?_⟩;have s5:Same _ (upd (upd H3 p (.tup [.ref p1,.ref f'])) p5 (.tup [.int (scl row).1])):=Same.new np5;have h5:upd (upd H3 p (.tup [.ref p1,.ref f'])) p5 (.tup [.int (scl row).1]) p5=some (.tup [.int (scl row).1]):=Zc;generalize upd (upd H3 p (.tup [.ref p1,.ref f'])) p5 (.tup [.int (scl row).1])=H5 at s5 h5 ⊢;refine ⟨_,rfl,z1_,fun p6 np6=>?_⟩;generalize gG:upd H5 p6 (.tup [.ref f'])=H6;obtain ⟨s6,h6⟩:=gen_upd gG np6;have S6:=S4.trans (s5.trans s6);refine ⟨_,rfl,p5,.t,[(scl row).1],p6,.t,[.ref f'],[r],b,(scl row).2,rfl,s6 _ _ h5,fun z hz=>?_,h6,?_,m1,m2,m3,fun H7 v s7 h7=>?_⟩
   · rw [n13_.mp hz];exact up _ (Zbf (RB.rb row (n1_ er))).2.1
   · refine ⟨rfl,fun j v' x' e1 e2=>?_⟩;cases j with
     | zero=>cases e1; cases e2; exact ⟨f',rfl,hf.imp (fun z=>S6 _ _ z) id⟩
     | succ j=>simp at e1
   · exact c _ _ _ _ ⟨_,_,_,rfl⟩ (s4.trans (s5.trans (s6.trans s7))) (by unfold rtv; rw [n24_,er,eg]) h7
 · rw [Z4 _ _ (by unfold rtv; rw [n33_]; omega)] at a3;exact q H3 E es (s2.trans s3) (Zh0 s2 nE) e3 a3
abbrev X3:Stmt:=top 39
theorem Ze3 (F:Fun K "settled_by" "settled_by" X3 f fd) (N0:Zg5 K mg "NOUGHT" 0 1) (Cau_:a11_ P w K mg base):FnOk P w K mg base CX0 6 f fd ["steps","places","at"] (Zcu K):=by
 have sc:FnScope ["steps","places","at","lines"] ["steps","places","at"] (Ze X3):=fsc (by decide +kernel);refine F.ok sc (fun vs H Q E h=>by obtain ⟨s,ss,steps,n,rfl,_⟩:=h;rfl) fun cdv A outer s H vs Q E hr h=>?_;obtain ⟨s',ss,steps,n,rfl,hs,als,h1k,n1k,hlen,FO,q⟩:=h;have nd:=sc.nd;obtain ⟨n_,hng,hnk⟩:=N0;refine' ⟨_,?term,?read⟩
 case term=>refine' @Zd _ _ _ _ _ ?g1 ?g2;(case g1=>refine' @Xp _ _ _ _ _ _ _ _ _ _ (["place","line","places","at"]) ([none,none,some 1,some 2]) _ _ ((gTup K 2 (Z7 (Z1 0) (Z7 (Z1 1) gNil)))) _ _ _ rfl rfl (Zn (i:=3) nd rfl (Or.inl rfl)) (Z6 (XN:=["steps","places","at","lines"]) (Scope.names (Ze X3)) rfl rfl rfl (fun _ h=>Zw h) (by decide +kernel) rfl) (Yj (pv 0)) (fun _ _ _ _=>Yb (n:=2) rfl (Zh (pgB 0) (Zh (pgB 1) Zx))) (fun _ _ _ _=>Zl) (fun _ _ _ _=>Zv (Za (pv 0) (Za (Zq Zdh (X2 (Zm7 K rfl) (pv 1) Zax (Za4 (pv 2))) (Yz (Za (Zz (Zc7 K rfl) (pv 1) (Zq Xm (pv 2) (pv 3)) (fun _ _=>rfl)) Zb rfl))) Zb rfl) rfl)) (by intro _ ; rfl));case g2=>refine' @Zg _ _ _ ?g3;case g3=>refine' @Zm _ _ _ _ ?g4;case g4=>refine' @Zi _ _ _ _ _ _ _ _ _ _ _ Cau_ hr (by decide) rfl ?g5 (by decide) (by rfl) (by rfl);case g5=>refine' @Za _ _ _ _ _ (pv 3) ?g6 rfl;case g6=>refine' @Za _ _ _ _ _ ?g7 Zb rfl;case g7=>refine' @Zq _ _ _ _ _ _ _ _ Zko ?g8 (pv 1);case g8=>refine' @Yz _ _ _ _ ?g9;case g9=>refine' @Za _ _ _ _ _ ?ga Zb rfl;case ga=>refine' @Zcm _ _ _ _ _ rfl hng (show RelV (.ref n_) (Value.ref n_) from rfl) (by decide)
 have lss:=als.1;refine ⟨_,rfl,s',rfl,⟨_,SqL.of hs⟩,fun D nD=>?_⟩;refine Zad (n:=ss.length) (IsLnN fun b=>b=D) (fun H1 H2 v x k _ h=>h.keep fun b o n e=>k b o n e) (fun i=>(steps.map stI)[i]?) (by omega) (fun σ=>∃ a b,σ=[a,b,some (.int n),some (.int 0)]) ⟨_,_,rfl⟩ nD (fun j H2 s hj=>Zar (k:=.l) (show SK.l.At H2 s' _ from s _ _ hs) hj) (fun H2 s=>Y5 (k:=.l) (show SK.l.At H2 s' _ from s _ _ hs) (n9_ _)) (fun j x σ2 H2 H3 C N hj s2 eD y ok c n'=>?_) (fun H2 ts s2 e2 a2=>?_)
 · obtain ⟨a1,a2,rfl⟩:=ok;obtain ⟨wsD,eD⟩:=eD;obtain ⟨rfl,ex⟩:=Xj (k:=.l) (show SK.l.At H2 s' _ from s2 _ _ hs) y;obtain ⟨st,est,p,l,rfl,hp,hl⟩:=als.get ex;have ll:=hlen st (n1_ est);change H l=some (.lst (st.2.map V.int)) at hl;have hl2:=s2 _ _ hl;refine ⟨p,_,rfl,SqT.of (s2 _ _ hp),rfl,_,_,rfl,_,_,rfl,rfl,?_⟩;refine Zam ?_;refine ⟨_,rfl,_,rfl,_,rfl,_,rfl,l,_,rfl,SqL.of hl2,fun l4 nl4=>?_⟩;rw [Zjs];generalize gG:upd H3 l4 (.lst ((st.2.map V.int).take n))=H4;obtain ⟨s4,h4⟩:=gen_upd gG nl4;refine ⟨_,rfl,_,rfl,_,rfl,_,_,rfl,rfl,l,_,(n:Int),_,rfl,rfl,SqL.of (s4 _ _ hl2),getI (by omega),z1_,fun l5 nl5=>?_⟩;generalize gG:upd H4 l5 (.lst [.int (st.2.getD n 0)])=H5;obtain ⟨s5,h5⟩:=gen_upd gG nl5;refine ⟨l4,l5,_,_,rfl,rfl,s5 _ _ h4,h5,by simp only [n79_,n2_,n23_,n47_,sizeLine_eq]; omega,fun l6 nl6=>?_⟩
   have ecat:(st.2.map V.int).take n++[.int (st.2.getD n 0)]=st.2.map V.int:=by
    rw [n6_,n0_ (show n < st.2.length by omega),← List.map_take];show (st.2.take n).map V.int++[st.2[n]].map V.int=_
    rw [← List.map_append,← n39_ (show n < st.2.length by omega),List.take_of_length_le (by omega)]
   rw [ecat];generalize gG:upd H5 l6 (.lst (st.2.map V.int))=H6;obtain ⟨s6,h6⟩:=gen_upd gG nl6;refine ⟨z2_,fun p7 np7=>?_⟩;refine c _ _ _ (stI st) ⟨_,_,rfl⟩ (s4.trans (s5.trans (s6.trans (Same.new np7)))) (by rw [n5_,est]; rfl) ⟨p7,l6,rfl,?_,?_,Zc,Same.new np7 _ _ h6⟩
   · intro z; rw [z,s6 _ _ (s5 _ _ (s4 _ _ eD))] at np7; cases np7
   · intro z; rw [z,s5 _ _ (s4 _ _ eD)] at nl6; cases nl6
 · rw [Z4 _ _ (by rw [n2_]; exact lss)] at a2;refine ⟨_,rfl,z1_,fun l3 nl3=>?_⟩;generalize gG:upd H2 l3 (.lst [.ref n_])=H3;obtain ⟨s3,h3⟩:=gen_upd gG nl3;refine ⟨_,rfl,l3,(n:Int),_,rfl,rfl,h3,by omega,by omega,by simp only [n23_,n47_,n65_,sizeLine_eq]; omega,fun l4 nl4=>?_⟩
   have er:(List.replicate (n:Int).toNat [V.ref n_]).flatten=List.replicate n (V.ref n_):=by
    rw [n65_]; exact Zc1 _ n
   rw [er];generalize gG:upd H3 l4 (.lst (List.replicate n (.ref n_)))=H4;obtain ⟨s4,h4⟩:=gen_upd gG nl4;have S24:=s3.trans s4;refine ⟨D,l4,ts,_,steps,List.replicate n 0,rfl,S24 _ _ e2,⟨by rw [a2.1,n2_],fun i v x e1 e2'=>?_⟩,h4,⟨by rw [n18_,n18_],fun i v x e1 e2'=>?_⟩,FO,fun H5 l us' s5 h5 a5=>q H5 l us' (s2.trans (S24.trans s5)) h5 a5⟩
   · have:=a2.2 i v (stI x) e1 (by rw [n5_,e2']; rfl)
     exact (this.ln).same S24
   · rw [n58_] at e1 e2';split at e1
     · rename_i hi
       rw [if_pos hi] at e2';cases e1; cases e2'
       exact ⟨n_,rfl,.inr hnk⟩
     · cases e1
abbrev Yh:Stmt:=top 40
theorem Zdz (F:Fun K "settled_each" "settled_each" Yh f fd) {Ph:Addr} (Caf_:a12_ P w K mg base) (Cq_:a7_ P w K mg base) (Car_:a13_ P w K mg base) (Ce_:a14_ P w K mg base) (Cam_:a15_ P w K mg base) (Cag_:a16_ P w K mg base) (Cas_:Cal P w K mg base "stepped" 6 ["lines","places"] (Zco Ph)) (Ck_:a5_ P w K mg base):FnOk P w K mg base CX0 7 f fd ["rows","columns"] (Zbo K Ph):=by
 have sc:FnScope ["rows","columns","places","ends","tops","lines","steps","left","found","at","parts","factors"] ["rows","columns"] (Ze Yh):=fsc (by decide +kernel);refine F.ok sc (fun vs H Q E h=>by obtain ⟨a,ca,g,k,kg,us,gs,rows,rights,b,c,rfl,_⟩:=h;rfl) fun cdv A outer s H vs Q E hr h=>?_;obtain ⟨a,ca,g,k,kg,us,gs,rows,rights,b,c,rfl,ha,al,hca,hg,alg,SO,tb,q⟩:=h;have nd:=sc.nd;refine' ⟨_,?term,?read⟩
 case term=>refine' @Zd _ _ _ _ _ ?g1 ?g2;(case g1=>refine' @Zs _ _ (2) _ _ _ _ nd rfl (Or.inr rfl) (Zi Ce_ hr (by decide) rfl (Za (pv 0) Zb rfl)) (by rfl) (by first | exact Or.inl rfl | exact Or.inr rfl | assumption));case g2=>refine' @Zd _ _ _ _ _ ?g3 ?g4;(case g3=>refine' @Xp _ _ _ _ _ _ _ _ _ _ (["rights","rows"]) ([none,some 0]) _ _ _ _ _ _ rfl rfl (Zn (i:=3) nd rfl (Or.inl rfl)) (Z6 (XN:=["rows","columns","places","ends","tops","lines","steps","left","found","at","parts","factors"]) (Scope.names (Ze Yh)) rfl rfl rfl (fun _ h=>Zw h) (by decide +kernel) rfl) (Yj (pv 1)) (fun _ _ _ _=>pgB 0) (fun _ _ _ _=>Zl) (fun _ _ _ _=>Zi Cam_ hr (by decide) rfl (Za (pv 1) (Za (pv 0) Zb rfl) rfl)) (by intro _ ; rfl));case g4=>refine' @Zd _ _ _ _ _ ?g5 ?g6;(case g5=>refine' @Zs _ _ (4) _ _ _ _ nd rfl (Or.inr rfl) ?g7 (by rfl) (by first | exact Or.inl rfl | exact Or.inr rfl | assumption);case g7=>refine' @Y0 _ _ _ _ _ _ _ (["parts"]) ([none]) _ _ _ _ _ rfl (Z2 (by decide) rfl (by decide) rfl rfl) (Yj (pv 3)) (fun _ _ _ _=>pgB 0) (fun _ _ _ _=>Zl) (fun _ _ _ _=>Zz (Zap K rfl) (Zi Cq_ hr (by decide) rfl (Za (pv 0) Zb rfl)) Zf (fun _ _=>rfl)) (by intro _ ; rfl));case g6=>refine' @Zd _ _ _ _ _ ?g8 ?g9;(case g8=>refine' @Xp _ _ _ _ _ _ _ _ _ _ (["at","row","tops"]) ([none,none,some 4]) _ _ ((gTup K 2 (Z7 (Z1 0) (Z7 (Z1 1) gNil)))) _ _ _ rfl rfl (Zn (i:=5) nd rfl (Or.inl rfl)) (Z6 (XN:=["rows","columns","places","ends","tops","lines","steps","left","found","at","parts","factors"]) (Scope.names (Ze Yh)) rfl rfl rfl (fun _ h=>Zw h) (by decide +kernel) rfl) (Zfj rfl T.b_enumerate (Za (pv 0) Zb rfl)) (fun _ _ _ _=>Yb (n:=2) rfl (Zh (Zn (i:=0) (show List.Nodup (["at","row","tops"]:List Str) by decide) rfl (Or.inr rfl) (Or.inl rfl)) (Zh (pgB 1) Zx))) (fun _ _ _ _=>Zl) (fun _ _ _ _=>Zq Zdh (Zi Ck_ hr (by decide) rfl (Za (pv 1) Zb rfl)) (Y0 (N:=["column","at"]) (fr:=[none,some 0]) rfl (Z6 (XN:=["at","row","tops"]) (relN _ (Scope.names (Ze Yh))) rfl rfl rfl (fun _ h=>Zbx (by decide +kernel) h) (by decide +kernel) rfl) (Znv K rfl (pv 2)) (fun _ _ _ _=>pgB 0) (fun _ _ _ _=>Zl) (fun _ _ _ _=>Zz (Zc7 K rfl) (pv 0) (pv 1) (fun _ _=>rfl)))) (by intro _ ; rfl));case g9=>refine' @Zd _ _ _ _ _ ?ga ?gb;(case ga=>refine' @Zac _ _ _ _ _ _ (Zi Cas_ hr (by decide) rfl (Za (pv 5) (Za (pv 2) Zb rfl) rfl)) ?gc (by rfl) (by rfl) (by rfl);case gc=>refine' @Yb _ _ _ _ _ (2) rfl (Zh (Zn (i:=6) nd rfl (Or.inl rfl)) (Zh (Zn (i:=7) nd rfl (Or.inl rfl)) Zx)) (by rfl) (by rfl));case gb=>refine' @Zd _ _ _ _ _ ?gd ?ge;(case gd=>refine' @Zs _ _ (8) _ _ _ _ nd rfl (Or.inl rfl) ?gf (by rfl) (by first | exact Or.inl rfl | exact Or.inr rfl | assumption);case gf=>refine' @Yz _ _ _ _ Zb);case ge=>refine' @Zd _ _ _ _ _ ?gg ?gh;(case gg=>refine' @Zae _ _ _ _ _ _ _ _ PassesOwn.never rfl (Zfj rfl T.b_enumerate (Za (pv 3) Zb rfl)) ?gi ?gj (by intro _ ; rfl);(case gi=>refine' @Yb _ _ _ _ _ (2) rfl (Zh (Zn (i:=9) nd rfl (Or.inr rfl)) (Zh (Zn (i:=10) nd rfl (Or.inl rfl)) Zx)) (by rfl) (by rfl));case gj=>refine' @Zg _ _ _ ?gk;case gk=>refine' @Y7 _ _ _ _ _ _ _ _ ?gl ?gm ?gn;(case gl=>refine' @Z5 _ _ _ ?go (fun _=>rfl);case go=>refine' @Zj _ _ _ _ _ _ _ _ _ (Zmt rfl) rfl T.b_any Zqq ?gp (by decide) (by decide) (by rfl) (by rfl);case gp=>refine' @Za _ _ _ _ _ ?gq Zb rfl;case gq=>refine' @Y0 _ _ _ _ _ _ _ (["line","places","at"]) ([none,some 2,some 9]) _ _ _ _ _ rfl (Z6 (XN:=["rows","columns","places","ends","tops","lines","steps","left","found","at","parts","factors"]) (Scope.names (Ze Yh)) rfl rfl rfl (fun _ h=>Zw h) (by decide +kernel) rfl) (Yj (pv 7)) (fun _ _ _ _=>pgB 0) (fun _ _ _ _=>Zl) (fun _ _ _ _=>Zaq Zd3 (Zz (Zc7 K rfl) (pv 0) (Zq Xm (pv 1) (pv 2)) (fun _ _=>rfl)) Zf (Zy _)) (by intro _ ; rfl));(case gm=>refine' @Zg _ _ _ ?gr;case gr=>refine' @Xu _ _ _ _ ?gs (by rfl);case gs=>refine' @Zft _ _ _ _ _ _ _ _ _ _ _ _ PySem.F.plainAttrs_list PySem.F.slot_list_append PySem.F.type_list_append Xd (pv 8) (Za Zhe Zb rfl) (by rfl) (by rfl) (by rfl) (by rfl) (by rfl));case gn=>refine' @Zd _ _ _ _ _ ?gt ?gu;(case gt=>refine' @Zs _ _ (11) _ _ _ _ nd rfl (Or.inr rfl) ?gv (by rfl) (by first | exact Or.inl rfl | exact Or.inr rfl | assumption);case gv=>refine' @Zi _ _ _ _ _ _ _ _ _ _ _ Caf_ hr (by decide) rfl ?gw (by decide) (by rfl) (by rfl);case gw=>refine' @Za _ _ _ _ _ ?gx Zb rfl;case gx=>refine' @Y0 _ _ _ _ _ _ _ (["top","bottom"]) ([none,none]) _ _ ((gTup K 2 (Z7 (Z1 0) (Z7 (Z1 1) gNil)))) _ _ rfl (Z2 (by decide) rfl (by decide) rfl rfl) (Yj (pv 10)) (fun _ _ _ _=>Yb (n:=2) rfl (Zh (pgB 0) (Zh (pgB 1) Zx))) (fun _ _ _ _=>Zl) (fun _ _ _ _=>pv 1) (by intro _ ; rfl));case gu=>refine' @Zg _ _ _ ?gy;case gy=>refine' @Xu _ _ _ _ ?gz (by rfl);case gz=>refine' @Zft _ _ _ _ _ _ _ _ _ _ _ _ PySem.F.plainAttrs_list PySem.F.slot_list_append PySem.F.type_list_append Xd (pv 8) ?g10 (by rfl) (by rfl) (by rfl) (by rfl) (by rfl);case g10=>refine' @Za _ _ _ _ _ ?g11 Zb rfl;case g11=>refine' @Yn _ _ _ _ _ _ _ _ _ Ye rfl T.b_tuple Yk ?g12 (by decide) (by decide) (by rfl) (by rfl);case g12=>refine' @Za _ _ _ _ _ ?g13 Zb rfl;case g13=>refine' @Y0 _ _ _ _ _ _ _ (["part","factors"]) ([none,some 11]) _ _ _ _ _ rfl (Z6 (XN:=["rows","columns","places","ends","tops","lines","steps","left","found","at","parts","factors"]) (Scope.names (Ze Yh)) rfl rfl rfl (fun _ h=>Zw h) (by decide +kernel) rfl) (Yj (Zi Cag_ hr (by decide) rfl (Za (pv 6) (Za (pv 2) (Za (pv 9) Zb rfl) rfl) rfl))) (fun _ _ _ _=>pgB 0) (fun _ _ _ _=>Zl) (fun _ _ _ _=>Zi Car_ hr (by decide) rfl (Za (pv 0) (Za (pv 1) Zb rfl) rfl)) (by intro _ ; rfl));case gh=>refine' @Zg _ _ _ ?g14;case g14=>refine' @Zm _ _ _ _ ?g15;case g15=>refine' @Zv _ _ _ _ _ ?g16;case g16=>refine' @Za _ _ _ _ _ ?g17 (Za (pv 8) Zb rfl) rfl;case g17=>refine' @Y0 _ _ _ _ _ _ _ (["place","line"]) ([none,none]) _ _ ((gTup K 2 (Z7 (Z1 0) (Z7 (Z1 1) gNil)))) _ _ rfl (Z2 (by decide) rfl (by decide) rfl rfl) (Yj (pv 6)) (fun _ _ _ _=>Yb (n:=2) rfl (Zh (pgB 0) (Zh (pgB 1) Zx))) (fun _ _ _ _=>Zl) (fun _ _ _ _=>pv 0) (by intro _ ; rfl)
 have lu:=al.1;have lg:=alg.1;have rl:=SO.rl;have n2:=SO.n;refine ⟨_,rfl,a,k,us,rows,rfl,ha,al,?_⟩;refine ⟨_,rfl,ca,rfl,⟨_,SqL.of hca⟩,fun D nD=>?_⟩;refine Zad (n:=1) (fun H v (x:List Rat)=>∃ l es,v=V.ref l∧l≠D∧H l=some (.lst es)∧Al (IsQ K H) es x) (fun H1 H2 v x k e ⟨l,es,e1,n,h,r⟩=>⟨l,es,e1,n,k _ _ n h,r.imp fun v x r=>hRQ _ _ _ _ (Za5 k e) r⟩) (fun i=>some (rtv rows rights)) (by decide) (fun σ=>∃ x,σ=[x,some (.ref a)]) ⟨_,rfl⟩ nD (fun i H2 s hi=>Zar (k:=.l) (show SK.l.At H2 ca [.ref g] from s _ _ hca) hi) (fun H2 s=>Y5 (k:=.l) (show SK.l.At H2 ca [.ref g] from s _ _ hca) (n9_ _)) (fun i x σ2 H2 H3 C N hi s2 eD y ok c' n=>?_) (fun H2 us2 s2 e2 a2=>?_)
 · obtain ⟨a1,rfl⟩:=ok;obtain ⟨wsD,eD⟩:=eD;obtain ⟨rfl,ex⟩:=Xj (k:=.l) (show SK.l.At H2 ca [.ref g] from s2 _ _ hca) y;obtain rfl:i=0:=by omega
   cases ex
   refine Xz ?_;refine ⟨_,rfl,_,rfl,a,g,k,kg,us,gs,rows,rights,b,rfl,ha.same s2,al.imp fun v x r=>IsQs.tk s2.tk r,hg.same s2,alg.imp fun v x r=>hRQ _ _ _ _ s2.tk r,SO.toRtB,fun H5 l es s5 nl hl ae=>?_⟩;exact c' _ _ _ _ ⟨_,rfl⟩ s5 rfl ⟨l,es,rfl,fun z=>(by rw [z,eD] at nl; cases nl),hl,ae⟩
 obtain ⟨le,es,rfl,nle,hle,ale⟩:∃ l es,us2=[V.ref l]∧l≠D∧H2 l=some (.lst es)∧Al (IsQ K H2) es (rtv rows rights):=by
  have h1:=a2.1
  match us2,h1 with
  | [u],_ =>
    obtain ⟨l,es,e1,r⟩:=a2.2 0 u _ rfl rfl;exact ⟨l,es,by rw [e1],r⟩
 clear a2;have lrt:(rtv rows rights).length=rows.length:=by unfold rtv; rw [n33_]; omega
 have ha2:=ha.same s2;have al2:=al.imp fun v x (r:IsQs K H v x)=>IsQs.tk s2.tk r;have tb2:=tb.same s2;clear ha al hca hg alg nD;refine ⟨_,rfl,D,rfl,⟨_,SqL.of e2⟩,fun E nE=>?_⟩;refine Zad (n:=1) (fun H v (x:List Int)=>∃ l,v=V.ref l∧l≠E∧H l=some (.lst (x.map V.int))) (fun H1 H2 v x k e ⟨l,e1,n,h⟩=>⟨l,e1,n,k _ _ n h⟩) (fun i=>some (lvd (rtv rows rights))) (by decide) (fun σ=>∃ x,σ=[x]) ⟨_,rfl⟩ nE (fun i H3 s hi=>Zar (k:=.l) (show SK.l.At H3 D [.ref le] from s _ _ e2) hi) (fun H3 s=>Y5 (k:=.l) (show SK.l.At H3 D [.ref le] from s _ _ e2) (n9_ _)) (fun i x σ2 H3 H4 C N hi s3 eE y ok c' n=>?_) (fun H3 us3 s3 e3 a3=>?_)
 · obtain ⟨a1,rfl⟩:=ok;obtain ⟨wsE,eE⟩:=eE;obtain ⟨rfl,ex⟩:=Xj (k:=.l) (show SK.l.At H3 D [.ref le] from s3 _ _ e2) y;obtain rfl:i=0:=by omega
   cases ex
   refine Xz ?_;refine ⟨_,rfl,le,.l,es,rtv rows rights,c,rfl,s3 _ _ hle,ale.imp fun v x r=>hRQ _ _ _ _ s3.tk r,SO.eb,fun H5 p l s5 nl hp hl=>?_⟩;exact ⟨p,_,0,_,rfl,rfl,SqT.of hp,rfl,c' _ _ _ _ ⟨_,rfl⟩ s5 rfl ⟨l,rfl,fun z=>(by rw [z,eE] at nl; cases nl),hl⟩⟩
 obtain ⟨lt,rfl,hlt⟩:∃ l,us3=[V.ref l]∧H3 l=some (.lst ((lvd (rtv rows rights)).map V.int)):=by
  have h1:=a3.1
  match us3,h1 with
  | [u],_ =>
    obtain ⟨l,e1,_,r⟩:=a3.2 0 u _ rfl rfl;exact ⟨l,by rw [e1],r⟩
 clear a3;have llv:(lvd (rtv rows rights)).length=rows.length:=by unfold lvd; rw [n2_,lrt]
 have S13:=s2.trans s3;have ha3:=ha2.same s3;have al3:=al2.imp fun v x (r:IsQs K H2 v x)=>IsQs.tk s3.tk r;have tb3:=tb2.same s3;have hD3:=s3 _ _ e2;have hle3:=s3 _ _ hle;have ale3:=ale.imp fun v x (r:IsQ K H2 v x)=>hRQ _ _ _ _ s3.tk r;clear ha2 al2 tb2 e2 hle ale nE;refine ⟨_,rfl,a,k,rfl,⟨_,ha3.sq⟩,fun F nF=>?_⟩;refine Zad (n:=rows.length) (fun H v (x:List Int)=>∃ l,v=V.ref l∧l≠F∧H l=some (.lst (x.map V.int))) (fun H1 H2 v x k e ⟨l,e1,n,h⟩=>⟨l,e1,n,k _ _ n h⟩) (fun i=>(lns rows rights)[i]?) (by omega) (fun σ=>∃ x y,σ=[x,y,some (.ref E)]) ⟨_,_,rfl⟩ nF (fun i H4 s hi=>⟨us,us[i],(ha3.same s).sq,n0_ (by omega)⟩) (fun H4 s=>⟨us,(ha3.same s).sq,lu⟩) (fun i x σ2 H4 H5 C N hi s4 eF y ok c' n=>?_) (fun H4 us4 s4 e4 a4=>?_)
 · obtain ⟨a1,a2,rfl⟩:=ok;obtain ⟨wsF,eF⟩:=eF;obtain ⟨p,w',rfl,np,rfl,y1⟩:=y;have ew:=y1 us ((ha3.same s4).sq);obtain ⟨row,er,pr,ps,rfl,hpr,alp⟩:=al3.get ew;generalize gG:upd H4 p (.tup [.int i,.ref pr])=H5;obtain ⟨s5,hp5⟩:=gen_upd gG np;have S5:=s4.trans s5;refine ⟨p,_,rfl,SqT.of hp5,rfl,_,_,rfl,_,_,rfl,rfl,?_⟩;refine Zam ?_;refine ⟨_,rfl,pr,.t,ps,row,b,rfl,S5 _ _ hpr,alp.imp fun v x r=>hRQ _ _ _ _ S5.tk r,SO.rb row (n1_ er),fun H6 l6 s6 nl6 h6=>?_⟩;have S6:=S5.trans s6;refine ⟨_,rfl,E,rfl,⟨_,SqL.of (S6 _ _ e3)⟩,fun G nG=>?_⟩;refine lc_T (k:=.l) (vs:=[.ref lt]) RI hRI [(lvd (rtv rows rights)).getD i 0] rfl (by show 1≤1000; decide) nG (show SK.l.At H6 E _ from S6 _ _ e3) (fun j w'' H7 C' hw s7 cc=>?_) (fun H7 us7 s7 e7 a7=>?_)
   · cases j with
     | zero =>
       cases hw
       exact ⟨_,rfl,_,rfl,lt,_,(i:Int),_,rfl,rfl,SqL.of (s7 _ _ (S6 _ _ hlt)),getI (by omega),cc _ _ _ (Same.refl _) rfl rfl⟩
     | succ j=>simp at hw
   · rw [a7.ints] at e7;refine ⟨l6,G,_,_,rfl,rfl,s7 _ _ h6,e7,?_,fun l8 nl8=>?_⟩
     · have:=Zcj row; have:=SO.wd row (n1_ er); have:=SO.w; simp only [n2_,n23_,n47_,sizeLine_eq]; omega
     have s8:=Same.new (o:=.lst ((wh row).map V.int++[(lvd (rtv rows rights)).getD i 0].map V.int)) nl8;refine c' _ _ _ (wh row++[(lvd (rtv rows rights)).getD i 0]) ⟨_,_,rfl⟩ (s5.trans (s6.trans (s7.trans s8))) ?_ ⟨l8,rfl,fun z=>?_,?_⟩
     · unfold lns;rw [n24_,er,n0_ (show i < (lvd (rtv rows rights)).length by omega),n6_,n0_ (show i < (lvd (rtv rows rights)).length by omega)]; rfl
     · rw [z,s7 _ _ (s6 _ _ (s5 _ _ eF))] at nl8; cases nl8
     · rw [List.map_append]; exact Zc
 have lln:(lns rows rights).length=rows.length:=by unfold lns; rw [n33_,llv]; exact n88_ _
 rw [Z4 _ _ (by rw [lln])] at a4;refine ⟨_,rfl,_,rfl,F,us4,lns rows rights,wid rows,wid rows+1,rfl,e4,a4.imp fun v x ⟨l,e,_,h⟩=>⟨l,e,h⟩,SO.so,tb3.same s4,fun H5 p sa la ss ls kp5 tb5 hp5 hs5 as5 hl5 al5=>?_⟩;refine ⟨p,_,rfl,SqT.of hp5,rfl,_,_,rfl,_,_,rfl,rfl,?_⟩;refine ⟨z0_,fun fa nfa=>?_⟩
 have nPh:∀ {G:Hp} {b:Addr} {o:HO},TabF G Ph "head_of.<locals>.<lambda>" → (∀ ps,o≠HO.tbl ps)→G b=some o→b≠Ph:=fun t n e z=>by
  obtain ⟨ps,h,_⟩:=t;rw [z,h] at e; exact n _ (Option.some.inj e).symm
 have tb4:=tb3.same s4;have kq:∀ b o,(∀ ps,o≠HO.tbl ps)→H3 b=some o→H5 b=some o:=fun b o n e=>kp5 _ _ (nPh tb4 n (s4 _ _ e)) (s4 _ _ e);have tk35:Tk H3 H5:=fun b xs e=>kq _ _ (by intro ps z; cases z) e;have hD5:=kq _ _ (by intro ps z; cases z) hD3;have hle5:=kq _ _ (by intro ps z; cases z) hle3;have ale5:=ale3.imp fun v x (r:IsQ K H3 v x)=>hRQ _ _ _ _ tk35 r;have kH5:X8 Ph H H5:=fun b o n e=>kp5 b o n (s4 _ _ (s3 _ _ (s2 _ _ e)));clear ha3 al3 tb3 hD3 hle3 ale3 tb4 kq tk35 kp5 s4 a4 e4 nF e3 hlt;generalize gG:upd H5 fa (.lst [])=H6;obtain ⟨s6,hfa⟩:=gen_upd gG nfa;have nf:∀ {b:Addr} {o:HO},H5 b=some o→b≠fa:=fun e=>Zk e nfa;have lss:=as5.1;have lls:=al5.1;have lst:=(Zfx (lines:=lns rows rights) (wid rows));have wW:=SO.w;refine ⟨_,rfl,D,.l,rfl,⟨_,SqL.of (s6 _ _ hD5)⟩,?_⟩;refine Zaz (n:=1) (fun i σ H2=>∃ x1 x2 x3,σ=[some (.ref a),some (.ref ca),some (.int (wid rows)),some (.ref D),some (.ref E),some (.ref F),some (.ref sa),some (.ref la),some (.ref fa),x1,x2,x3]∧Keep fa H6 H2∧∃ fs,H2 fa=some (.lst fs)∧(i=0→fs=[])∧(i≠0→∃ v,fs=[v]∧SolV K H2 v (slv rows rights))) ⟨_,_,_,rfl,Keep.refl _ _,[],hfa,fun _=>rfl,fun z=>absurd rfl z⟩ (fun i σ H2 hi p=>?_) (fun σ H2 p=>?_) (fun i x σ H2 H3' hi y p=>?_) (fun σ H2 p=>?_)
 · obtain ⟨_,_,_,_,k2,_⟩:=p;obtain rfl:i=0:=by omega
   exact ⟨[.ref le],.ref le,SqL.of (k2 _ _ (nf hD5) (s6 _ _ hD5)),rfl⟩
 · obtain ⟨_,_,_,_,k2,_⟩:=p;exact ⟨[.ref le],SqL.of (k2 _ _ (nf hD5) (s6 _ _ hD5)),rfl⟩
 · obtain rfl:i=0:=by omega
   obtain ⟨x1,x2,x3,rfl,k2,fs,hf,f0,_⟩:=p;obtain rfl:=f0 rfl;obtain ⟨p,w',rfl,np,rfl,y1⟩:=y;have ew:=y1 _ (SqL.of (k2 _ _ (nf hD5) (s6 _ _ hD5)));cases ew
   have s7:Same H2 (upd H2 p (.tup [.int 0,.ref le])):=Same.new np;have hp7:upd H2 p (.tup [.int 0,.ref le]) p=some (.tup [.int 0,.ref le]):=Zc;have hf7:=s7 _ _ hf;generalize upd H2 p (.tup [.int 0,.ref le])=H7 at s7 hp7 hf7 ⊢;have k57:∀ {b:Addr} {o:HO},H5 b=some o→H7 b=some o:=fun e=>s7 _ _ (k2 _ _ (nf e) (s6 _ _ e));have tk57:Tk H5 H7:=fun b xs e=>k57 e;refine ⟨p,_,rfl,SqT.of hp7,rfl,_,_,rfl,_,_,rfl,rfl,?_⟩;refine ⟨_,rfl,la,rfl,⟨_,SqL.of (k57 hl5)⟩,fun G nG=>?_⟩;have llm:ls.length=(stF rows rights).2.length:=by rw [lls,n2_]; rfl
   refine lc_T (k:=.l) (vs:=ls) RB hRB ((stF rows rights).2.map fun x=>x.2.getD (wid rows) 0 != 0) (by rw [n2_]; exact llm.symm) (by have:=lst.1; have:(lns rows rights).length=rows.length:=lln; rw [llm]; show (stp (lns rows rights) (wid rows)).2.length≤_; omega) nG (show SK.l.At H7 la ls from k57 hl5) (fun j w'' H8 C' hw s8 cc=>?_) (fun H8 us8 s8 e8 a8=>?_)
   · obtain ⟨x,ex,l,rfl,hl⟩:=al5.get hw;rw [n5_] at ex;obtain ⟨ln,eln,rfl⟩:=n37_.mp ex;have LO:=SO.so.ok (wid rows) (n9_ _) ln (n1_ eln);have ll:=LO.len;refine ⟨_,rfl,_,rfl,_,rfl,_,_,rfl,rfl,l,_,(wid rows:Int),_,rfl,rfl,SqL.of (s8 _ _ (k57 hl)),getI (by omega),rfl,?_⟩;refine cc _ _ _ (Same.refl _) (by rw [n5_,show (stF rows rights).2=(stp (lns rows rights) (wid rows)).2 from rfl,eln]; rfl) ?_;show V.bl (!decide (V.int (ln.2.getD (wid rows) 0)=V.int 0))=V.bl (ln.2.getD (wid rows) 0 != 0)
     congr 1
     by_cases hz:ln.2.getD (wid rows) 0=0
     · rw [hz]; rfl
     · rw [n17_ fun z=>hz (V.int.inj z)]; simpa using hz
   have e8':us8=((stF rows rights).2.map fun x=>x.2.getD (wid rows) 0 != 0).map V.bl:=a8.bls;rw [e8'] at e8;refine ⟨G,_,rfl,SqL.of e8,_,rfl,?_⟩;have eany:((stF rows rights).2.map fun x=>x.2.getD (wid rows) 0 != 0).any id=(stF rows rights).2.any fun x=>x.2.getD (wid rows) 0 != 0:=by rw [List.any_map]; rfl
   rw [eany];refine ite2 (fun hy=>?_) (fun hy=>?_)
   · have esl:slv rows rights=none:=by unfold slv; rw [if_pos hy]
     refine ⟨_,rfl,.inl ⟨rfl,_,SqL.of (s8 _ _ hf7)⟩,fa,_,_,rfl,rfl,s8 _ _ hf7,by show 0 < sizeLine; decide,?_⟩;refine ⟨_,_,_,rfl,fun b o n e=>?_,[.non],Zc,fun z=>(nomatch z),fun _=>⟨_,rfl,by rw [esl]; rfl⟩⟩;rw [Zo n];exact s8 _ _ (s7 _ _ (k2 _ _ n e))
   · have esl:slv rows rights=some ((fil (stF rows rights).1 (List.replicate (wid rows) 0)).map fun x=>x / (Zcl (fct (bots (rtv rows rights))).2:Rat)):=by unfold slv; rw [if_neg hy]
     have k58:∀ {b:Addr} {o:HO},H5 b=some o→H8 b=some o:=fun e=>s8 _ _ (k57 e);have tk58:Tk H5 H8:=fun b xs e=>k58 e;have ale8:=ale5.imp fun v x (r:IsQ K H5 v x)=>hRQ _ _ _ _ tk58 r;have lse:=ale5.1;refine ⟨_,rfl,le,rfl,⟨_,SqL.of (k58 hle5)⟩,fun G2 nG2=>?_⟩;refine lc_Q (k:=.l) (us:=es) RI hRI (bots (rtv rows rights)) (by rw [n2_]; exact lse.symm) (by omega) nG2 (show SK.l.At H8 le es from k58 hle5) ale8 (fun i x' H9 C ex s9 cc=>?_) (fun H9 us9 s9 e9 a9=>?_)
     · exact ⟨_,rfl,cc _ _ _ (Same.refl _) (by rw [n5_,ex]; rfl) rfl⟩
     rw [a9.ints] at e9;refine ⟨G2,_,rfl,e9,fun x hx=>⟨(SO.eb.bots x hx).1,up _ (SO.eb.bots x hx).2 (by have:=SO.eb.b4; omega)⟩,by rw [n2_]; omega,fun H10 m s10 hm=>?_⟩;have s810:=s9.trans s10;have k510:∀ {b:Addr} {o:HO},H5 b=some o→H10 b=some o:=fun e=>s810 _ _ (k58 e);have hf10:=s810 _ _ (s8 _ _ hf7);refine ⟨_,rfl,.inl ⟨rfl,_,SqL.of hf10⟩,?_⟩;refine ⟨_,rfl,_,rfl,_,rfl,sa,ss,(stF rows rights).1,wid rows,rfl,k510 hs5,as5.imp fun v x r=>(let ⟨p',l',e',h1,h2⟩:=r; ⟨p',l',e',k510 h1,k510 h2⟩),?_,by omega,fun x hx=>Zjr SO.so _ (n9_ _) x hx,SO.fo,fun H11 l11 us11 s11 h11 a11=>?_⟩
     · show (stp (lns rows rights) (wid rows)).1.length≤1000; omega
     have flen:(fil (stF rows rights).1 (List.replicate (wid rows) 0)).length=wid rows:=by
      have:∀ (L:List (Nat×List Int)) (xs:List Rat),(fil L xs).length=xs.length:=fun L xs=>by
       induction L with
       | nil=>rfl
       | cons x L ih=>show ((fil L xs).set _ _).length=_; rw [n68_,ih]
      rw [this,n18_]
     have lu11:=a11.1;refine ⟨l11,rfl,⟨_,SqL.of h11⟩,fun G3 nG3=>?_⟩;refine lc_T (k:=.l) (vs:=us11) IsQh (fun _ _ _ _ t r=>r.tk t) ((fil (stF rows rights).1 (List.replicate (wid rows) 0)).map fun x=>x / (Zcl (fct (bots (rtv rows rights))).2:Rat)) (by rw [n2_]; exact lu11.symm) (by omega) nG3 (show SK.l.At H11 l11 us11 from h11) (fun j w'' H12 C' hw s12 cc=>?_) (fun H12 us12 s12 e12 a12=>?_)
     · obtain ⟨x,ex,rx⟩:=a11.get hw;obtain ⟨b1,b2⟩:=SO.fb x (n1_ ex);have fl:=Zox (bots (rtv rows rights));rw [n2_] at fl;exact ⟨_,rfl,_,rfl,w'',x,m,_,rfl,hRQ _ _ _ _ s12.tk rx,s12 _ _ (s11 _ _ hm),Zrk SO.eb,by omega,b1,b2,fun H13 v13 s13 r13=>cc _ _ _ s13 (by rw [n5_,ex]; rfl) r13⟩
     have s812:=s810.trans (s11.trans s12);have hf12:=s812 _ _ (s8 _ _ hf7);refine ⟨G3,_,rfl,.inl ⟨SqL.of e12,fun t nt=>?_⟩⟩;have st:=Same.new (o:=.tup us12) nt;refine ⟨fa,_,_,rfl,rfl,st _ _ hf12,by show 0 < sizeLine; decide,?_⟩;have ntf:t≠fa:=fun z=>by rw [z,hf12] at nt; cases nt
     refine ⟨_,_,_,rfl,fun b o n e=>?_,[.ref t],Zc,fun z=>(nomatch z),fun _=>⟨_,rfl,?_⟩⟩
     · rw [Zo n];exact st _ _ (s812 _ _ (s8 _ _ (s7 _ _ (k2 _ _ n e))))
     · rw [esl];refine ⟨t,us12,rfl,by rw [Zo ntf]; exact Zc,a12.imp fun v x r=>?_⟩;exact (r.tk st.tk).tk (Tk.upd_lst (st _ _ hf12))
 · obtain ⟨x1,x2,x3,rfl,k2,fs,hf,_,f1⟩:=p;obtain ⟨v,rfl,hv⟩:=f1 (by decide);have k52:∀ {b:Addr} {o:HO},H5 b=some o→H2 b=some o:=fun e=>k2 _ _ (nf e) (s6 _ _ e);refine ⟨_,rfl,sa,rfl,⟨_,SqL.of (k52 hs5)⟩,fun G nG=>?_⟩;refine Zad (n:=ss.length) RI (fun _ _ _ _ _ _ e=>e) (fun i=>((tkn rows rights).map fun n:Nat=>(n:Int))[i]?) (by show _≤1000; rw [lss]; show (stp (lns rows rights) (wid rows)).1.length≤1000; omega) (fun σ=>∃ x y,σ=[x,y]) ⟨_,_,rfl⟩ nG (fun i H3 s hi=>Zar (k:=.l) (show SK.l.At H3 sa ss from s _ _ (k52 hs5)) hi) (fun H3 s=>Y5 (k:=.l) (show SK.l.At H3 sa ss from s _ _ (k52 hs5)) (n9_ _)) (fun i x σ2 H3 H4 C N hi s3 eD y ok c' n=>?_) (fun H3 us3 s3 e3 a3=>?_)
   · obtain ⟨y1,y2,rfl⟩:=ok;obtain ⟨rfl,ex⟩:=Xj (k:=.l) (show SK.l.At H3 sa ss from s3 _ _ (k52 hs5)) y;obtain ⟨st,est,p',l',rfl,hp',hl'⟩:=as5.get ex;refine ⟨p',_,rfl,SqT.of (s3 _ _ (k52 hp')),rfl,_,_,rfl,_,_,rfl,rfl,?_⟩;refine Zam ?_;refine ⟨_,rfl,c' _ _ _ (st.1:Int) ⟨_,_,rfl⟩ (Same.refl _) ?_ rfl⟩;unfold tkn;rw [n5_,n5_,show (stF rows rights).1=(stp (lns rows rights) (wid rows)).1 from rfl,est]; rfl
   · rw [Z4 _ _ (by unfold tkn; rw [n2_,n2_]; exact lss)] at a3;rw [a3.ints,List.map_map] at e3;refine ⟨_,rfl,z2_,fun pp npp=>?_⟩;have s4:=Same.new (o:=.tup [.ref G,.ref fa]) npp;have s24:=s3.trans s4;have fin:=SolV.tk s24.tk hv;exact q _ pp G fa v (fun b o n e=>s24 _ _ (k52 (kH5 b o n e))) ((((tb5.same s6).keepL hfa k2).same s24)) Zc (s4 _ _ e3) (s24 _ _ hf) fin
abbrev Zdn:Stmt:=top 41
theorem Zkj (F:Fun K "settled" "settled" Zdn f fd) {Ph:Addr} (Caa_:Cal P w K mg base "settled_each" 7 ["rows","columns"] (Zbo K Ph)):FnOk P w K mg base CX0 8 f fd ["rows","rights"] (Zba K Ph):=by
 have sc:FnScope ["rows","rights","taken","found"] ["rows","rights"] (Ze Zdn):=fsc (by decide +kernel);refine F.ok sc (fun vs H Q E h=>by obtain ⟨a,g,k,kg,us,gs,rows,rights,b,c,rfl,_⟩:=h;rfl) fun cdv A outer s H vs Q E hr h=>?_;obtain ⟨a,g,k,kg,us,gs,rows,rights,b,c,rfl,ha,al,hg,alg,SO,tb,q⟩:=h;have nd:=sc.nd;refine' ⟨_,?term,?read⟩
 case term=>refine' @Zd _ _ _ _ _ ?g1 ?g2;(case g1=>refine' @Zac _ _ _ _ _ _ ?g3 ?g4 (by rfl) (by rfl) (by rfl);(case g3=>refine' @Zi _ _ _ _ _ _ _ _ _ _ _ Caa_ hr (by decide) rfl ?g5 (by decide) (by rfl) (by rfl);case g5=>refine' @Za _ _ _ _ _ (pv 0) ?g6 rfl;case g6=>refine' @Za _ _ _ _ _ ?g7 Zb rfl;case g7=>refine' @Yz _ _ _ _ (Za (pv 1) Zb rfl));case g4=>refine' @Yb _ _ _ _ _ (2) rfl (Zh (Zn (i:=2) nd rfl (Or.inl rfl)) (Zh (Zn (i:=3) nd rfl (Or.inl rfl)) Zx)) (by rfl) (by rfl));case g2=>refine' @Zg _ _ _ ?g8;case g8=>refine' @Zm _ _ _ _ ?g9;case g9=>refine' @Zv _ _ _ _ _ ?ga;case ga=>refine' @Za _ _ _ _ _ (pv 2) ?gb rfl;case gb=>refine' @Za _ _ _ _ _ ?gc Zb rfl;case gc=>refine' @Zz _ _ _ _ _ _ _ Yc (pv 3) Zf (fun _ _=>rfl)
 refine ⟨_,rfl,_,rfl,z1_,fun ca nca=>?_⟩;generalize gG:upd H ca (.lst [.ref g])=H1;obtain ⟨s1,hca⟩:=gen_upd gG nca;refine ⟨a,ca,g,k,kg,us,gs,rows,rights,b,c,rfl,ha.same s1,al.imp fun v x r=>IsQs.tk s1.tk r,hca,hg.same s1,alg.imp fun v x r=>hRQ _ _ _ _ s1.tk r,SO,tb.same s1,fun H2 p t f v kp tb2 hp ht hf sv=>?_⟩;refine ⟨p,_,rfl,SqT.of hp,rfl,_,_,rfl,_,_,rfl,rfl,?_⟩;refine ⟨_,rfl,_,rfl,f,_,0,_,rfl,rfl,SqL.of hf,rfl,z2_,fun p3 np3=>?_⟩;have s3:=Same.new (o:=.tup [.ref t,v]) np3;exact q _ p3 t v (fun b o n e=>s3 _ _ (kp b o n (s1 _ _ e))) (tb2.same s3) Zc (s3 _ _ ht) (SolV.tk s3.tk sv)
abbrev Zb5:Stmt:=top 42
theorem Zmm (F:Fun K "mix_of" "mix_of" Zb5 f fd) (N0:Zg5 K mg "NOUGHT" 0 1) (O1:Zg5 K mg "ONE" 1 1) {Ph:Addr} (Cv_:Cal P w K mg base "settled" 8 ["rows","rights"] (Zba K Ph)):FnOk P w K mg base CX0 9 f fd ["rows","rights","taken"] (Zfp K Ph):=by
 have sc:FnScope ["rows","rights","taken","columns","goals"] ["rows","rights","taken"] (Ze Zb5):=fsc (by decide +kernel);refine F.ok sc (fun vs H Q E h=>by obtain ⟨a,g,t,k,us,gs,rows,rights,taken,b,c,rfl,_⟩:=h;rfl) fun cdv A outer s H vs Q E hr h=>?_;obtain ⟨a,g,t,k,us,gs,rows,rights,taken,b,c,rfl,ha,al,hg,alg,ht,r1k,t1k,hpl,SO,tb,q⟩:=h;have nd:=sc.nd;obtain ⟨n_,hng,hnk⟩:=N0;obtain ⟨o_,hog,hok⟩:=O1;refine' ⟨_,?term,?read⟩
 case term=>refine' @Zd _ _ _ _ _ ?g1 ?g2;(case g1=>refine' @Xp _ _ _ _ _ _ _ _ _ _ (["place","rows"]) ([none,some 0]) _ _ _ _ _ _ rfl rfl (Zn (i:=3) nd rfl (Or.inl rfl)) (Z6 (XN:=["rows","rights","taken","columns","goals"]) (Scope.names (Ze Zb5)) rfl rfl rfl (fun _ h=>Zw h) (by decide +kernel) rfl) (Yj (pv 2)) (fun _ _ _ _=>Zn (i:=0) (show List.Nodup (["place","rows"]:List Str) by decide) rfl (Or.inr rfl) (Or.inl rfl)) (fun _ _ _ _=>Zl) (fun _ _ _ _=>Yn (Zd2 K rfl) rfl T.b_tuple Yk (Za (Y0 (N:=["row","place"]) (fr:=[none,some 0]) rfl (Z6 (XN:=["place","rows"]) (relN _ (Scope.names (Ze Zb5))) rfl rfl rfl (fun _ h=>Zbx (by decide +kernel) h) (by decide +kernel) rfl) (Zak K rfl (pv 1)) (fun _ _ _ _=>pgB 0) (fun _ _ _ _=>Zl) (fun _ _ _ _=>Zz (Zap K rfl) (pv 0) (pv 1) (fun _ _=>rfl))) Zb rfl)) (by intro _ ; rfl));case g2=>refine' @Zd _ _ _ _ _ ?g3 ?g4;(case g3=>refine' @Zs _ _ (4) _ _ _ _ nd rfl (Or.inl rfl) ?g5 (by rfl) (by first | exact Or.inl rfl | exact Or.inr rfl | assumption);case g5=>refine' @Zq _ _ _ _ _ _ _ _ Zdh ?g6 ?g7;(case g6=>refine' @Zq _ _ _ _ _ _ _ _ Zko ?g8 (Zj Zp rfl T.b_len Xa (Za (pv 3) Zb rfl));case g8=>refine' @Yz _ _ _ _ ?g9;case g9=>refine' @Za _ _ _ _ _ ?ga Zb rfl;case ga=>refine' @Zcm _ _ _ _ _ rfl hng (show RelV (.ref n_) (Value.ref n_) from rfl) (by decide));case g7=>refine' @Yz _ _ _ _ ?gb;case gb=>refine' @Za _ _ _ _ _ ?gc Zb rfl;case gc=>refine' @Zcm _ _ _ _ _ rfl hog (show RelV (.ref o_) (Value.ref o_) from rfl) (by decide));case g4=>refine' @Zg _ _ _ ?gd;case gd=>refine' @Zm _ _ _ _ ?ge;case ge=>refine' @Zz _ _ _ _ _ _ _ Ym ?gf Zf (fun _ _=>rfl);case gf=>refine' @Zi _ _ _ _ _ _ _ _ _ _ _ Cv_ hr (by decide) rfl ?gg (by decide) (by rfl) (by rfl);case gg=>refine' @Za _ _ _ _ _ ?gh (Za (pv 4) Zb rfl) rfl;case gh=>refine' @Zq _ _ _ _ _ _ _ _ Zdh (pv 3) ?gi;case gi=>refine' @Yz _ _ _ _ (Za (pv 1) Zb rfl)
 have lu:=al.1;refine ⟨_,rfl,t,rfl,⟨_,SqL.of ht⟩,fun D nD=>?_⟩;refine lc_T (k:=.l) (vs:=taken.map fun n:Nat=>V.int n) (IsQs K) (fun _ _ _ _ t r=>IsQs.tk t r) (cols rows taken) (by unfold cols; rw [n2_,n2_]) (by rw [n2_]; exact t1k) nD (show SK.l.At H t _ from ht) (fun i w' H2 C hw s2 cc=>?_) (fun H2 us2 s2 e2 a2=>?_)
 · rw [n5_] at hw;obtain ⟨pl,epl,rfl⟩:=n37_.mp hw;refine ⟨_,rfl,a,k,rfl,⟨_,(ha.same s2).sq⟩,fun E nE=>?_⟩;refine lc_T (k:=k) (vs:=us) (IsQ K) hRQ (rows.map fun r=>r.getD pl 0) (by rw [n2_]; exact lu.symm) (by omega) nE (ha.same s2) (fun j w'' H3 C' hw s3 c3=>?_) (fun H3 us3 s3 e3 a3=>?_)
   · obtain ⟨row,er,pr,ps,rfl,hpr,alp⟩:=al.get hw;have lp:=alp.1;have lt:=hpl pl (n1_ epl) row (n1_ er);obtain ⟨u,eu,ru⟩:=alp.got (n0_ lt);have S3:=s2.trans s3;refine ⟨_,rfl,_,rfl,pr,ps,(pl:Int),u,rfl,rfl,SqT.of (S3 _ _ hpr),Yu eu,c3 _ _ (row.getD pl 0) (Same.refl _) (by rw [n5_,er]; rfl) ?_⟩;rw [n6_,n0_ lt];exact hRQ _ _ _ _ S3.tk ru
   · refine ⟨E,us3,rfl,.inl ⟨SqL.of e3,fun p np=>?_⟩⟩;have s4:=Same.new (o:=.tup us3) np;refine cc _ _ (rows.map fun r=>r.getD pl 0) (s3.trans s4) (by unfold cols; rw [n5_,epl]; rfl) ⟨p,us3,rfl,Zc,a3.imp fun v x r=>hRQ _ _ _ _ s4.tk r⟩
 have l2:=a2.1;have lc:(cols rows taken).length=taken.length:=by unfold cols; rw [n2_]
 refine ⟨z1_,fun l3 nl3=>?_⟩;generalize gG:upd H2 l3 (.lst [.ref n_])=H3;obtain ⟨s3,h3⟩:=gen_upd gG nl3;refine ⟨_,rfl,D,us2,rfl,.inl (SqL.of (s3 _ _ e2)),l3,(us2.length:Int),_,rfl,rfl,h3,by omega,by omega,by simp only [n23_,n47_,n65_,sizeLine_eq]; omega,fun l4 nl4=>?_⟩
 have er:(List.replicate (us2.length:Int).toNat [V.ref n_]).flatten=List.replicate us2.length (V.ref n_):=by
  rw [n65_]; exact Zc1 _ us2.length
 rw [er];generalize gG:upd H3 l4 (.lst (List.replicate us2.length (.ref n_)))=H4;obtain ⟨s4,h4⟩:=gen_upd gG nl4;refine ⟨z1_,fun l5 nl5=>?_⟩;generalize gG:upd H4 l5 (.lst [.ref o_])=H5;obtain ⟨s5,h5⟩:=gen_upd gG nl5;refine ⟨l4,l5,_,_,rfl,rfl,s5 _ _ h4,h5,by simp only [n18_,n23_,n47_,sizeLine_eq]; omega,fun l6 nl6=>?_⟩;generalize gG:upd H5 l6 (.lst (List.replicate us2.length (.ref n_)++[.ref o_]))=H6;obtain ⟨s6,h6⟩:=gen_upd gG nl6;have S26:=s3.trans (s4.trans (s5.trans s6));refine ⟨_,rfl,_,rfl,z1_,fun l7 nl7=>?_⟩;generalize gG:upd H6 l7 (.lst [.ref g])=H7;obtain ⟨s7,h7⟩:=gen_upd gG nl7;refine ⟨D,l7,_,_,rfl,rfl,s7 _ _ (S26 _ _ e2),h7,by simp only [n23_,n47_,sizeLine_eq]; omega,fun l8 nl8=>?_⟩;generalize gG:upd H7 l8 (.lst (us2++[.ref g]))=H8;obtain ⟨s8,h8⟩:=gen_upd gG nl8;have S28:=S26.trans (s7.trans s8);have S18:=s2.trans S28;have aR:Al (IsQs K H8) (us2++[.ref g]) (cols rows taken++[rights]):=(a2.imp fun v x r=>IsQs.tk S28.tk r).snoc ⟨g,gs,rfl,S18 _ _ hg,alg.imp fun v x r=>hRQ _ _ _ _ S18.tk r⟩
 have aG:Al (IsQ K H8) (List.replicate us2.length (.ref n_)++[.ref o_]) (List.replicate taken.length 0++[1]):=by
  refine Al.snoc ⟨by rw [n18_,n18_]; omega,fun i v x e1 e2'=>?_⟩ ⟨o_,rfl,.inr hok⟩;rw [n58_] at e1 e2';split at e1
  · rename_i hi
    rw [if_pos (by omega)] at e2';cases e1; cases e2'
    exact ⟨n_,rfl,.inr hnk⟩
  · cases e1
 refine ⟨_,rfl,l8,l6,.l,.l,_,_,_,_,b,c,rfl,h8,aR,s8 _ _ (s7 _ _ h6),aG,SO,tb.same S18,fun H9 p t' v kp tb9 hp ht' sv=>?_⟩;exact ⟨p,_,1,_,rfl,rfl,SqT.of hp,rfl,q H9 v (fun b o n e=>kp b o n (S18 _ _ e)) tb9 sv⟩
abbrev Zcr:Stmt:=top 14
theorem Zh8 (F:Fun K "is_whole" "is_whole" Zcr f fd):FnOk P w K mg base CX0 1 f fd ["thing"] Zbt:=by
 have sc:FnScope ["thing"] ["thing"] (Ze Zcr):=fsc (by decide +kernel);refine F.ok sc (fun vs H Q E h=>by obtain ⟨N,k,v,d,rfl,_⟩:=h;rfl) fun cdv A outer s H vs Q E hr h=>?_;obtain ⟨N,k,v,d,rfl,h,q⟩:=h;refine' ⟨_,?term,?read⟩
 case term=>refine' @Zg _ _ _ ?g1;case g1=>refine' @Zm _ _ _ _ ?g2;case g2=>refine' @Zgz _ _ _ _ _ _ _ (Zj Y4 rfl T.b_isinstance Z0 (Za (pv 0) (Za (Xk (v:=.ty "int") rfl T.b_int Zkm rfl) Zb rfl) rfl)) ?g3;case g3=>refine' @Zjd _ _ _ _ _ ?g4;case g4=>refine' @Zop _ _ _ _ (Zj Y4 rfl T.b_isinstance Z0 (Za (pv 0) (Za (Xk (v:=.ty "bool") rfl T.b_bool Zl4 rfl) Zb rfl) rfl))
 cases h with
 | non=>exact ⟨_,rfl,_,_,_,_,rfl,TyOf.non,rfl,false,rfl,iteF q⟩
 | bl b=>exact ⟨_,rfl,_,_,_,_,rfl,TyOf.bl b,rfl,true,rfl,iteT ⟨_,rfl,_,_,_,_,rfl,TyOf.bl b,rfl,true,rfl,q⟩⟩
 | int hi=>exact ⟨_,rfl,_,_,_,_,rfl,TyOf.int _,rfl,true,rfl,iteT ⟨_,rfl,_,_,_,_,rfl,TyOf.int _,rfl,false,rfl,q⟩⟩
 | str x=>exact ⟨_,rfl,_,_,_,_,rfl,TyOf.str x,rfl,false,rfl,iteF q⟩
 | tup h r=>exact ⟨_,rfl,_,_,_,_,rfl,TyOf.tup h,rfl,false,rfl,iteF q⟩
 | lst h n m r=>exact ⟨_,rfl,_,_,_,_,rfl,TyOf.lst h,rfl,false,rfl,iteF q⟩
 | dic h=>exact ⟨_,rfl,_,_,_,_,rfl,TyOf.dK h,rfl,false,rfl,iteF q⟩
abbrev Zaj:Stmt:=top 17
theorem Zd7 (F:Fun K "is_fraction" "is_fraction" Zaj f fd) (Cc_:a1_ P w K mg base) (Cz_:a17_ P w K mg base):FnOk P w K mg base CX0 3 f fd ["thing"] Zog:=by
 have sc:FnScope ["thing","top","bottom"] ["thing"] (Ze Zaj):=fsc (by decide +kernel);refine F.ok sc (fun vs H Q E h=>by obtain ⟨N,k,v,d,rfl,_⟩:=h;rfl) fun cdv A outer s H vs Q E hr h=>?_;obtain ⟨N,k,v,d,rfl,h,hk,q⟩:=h;have nd:=sc.nd;refine' ⟨_,?term,?read⟩
 case term=>refine' @Zd _ _ _ _ _ ?g1 ?g2;(case g1=>refine' @Y7 _ _ _ _ _ _ _ _ ?g3 (Zg (Zm Zau)) Z3;case g3=>refine' @PW.pt _ _ _ ?g4;case g4=>refine' @Zhh _ _ _ _ _ _ _ ?g5 ?g6;(case g5=>refine' @X4 _ _ _ _ ?g7;case g7=>refine' @Z5 _ _ _ (Zj Y4 rfl T.b_isinstance Z0 (Za (pv 0) (Za (Xk (v:=.ty "tuple") rfl T.b_tuple Yk rfl) Zb rfl) rfl)) (fun _=>rfl));case g6=>refine' @Zeo _ _ _ _ (Zt Zd3 (Zj Zp rfl T.b_len Xa (Za (pv 0) Zb rfl)) Zf (Zy _)));case g2=>refine' @Zd _ _ _ _ _ ?g8 ?g9;(case g8=>refine' @Zac _ _ _ _ _ _ (pv 0) ?ga (by rfl) (by rfl) (by rfl);case ga=>refine' @Yb _ _ _ _ _ (2) rfl (Zh (Zn (i:=1) nd rfl (Or.inl rfl)) (Zh (Zn (i:=2) nd rfl (Or.inl rfl)) Zx)) (by rfl) (by rfl));case g9=>refine' @Zd _ _ _ _ _ ?gb (Zg (Zm (Zaq Zho (Zi Cc_ hr (by decide) rfl (Za (pv 1) (Za (pv 2) Zb rfl) rfl)) Zf (Zy _))));case gb=>refine' @Y7 _ _ _ _ _ _ _ _ ?gc (Zg (Zm Zau)) Z3;case gc=>refine' @PW.pt _ _ _ ?gd;case gd=>refine' @Zhh _ _ _ _ _ _ _ ?ge ?gf;(case ge=>refine' @X4 _ _ _ _ ?gg;case gg=>refine' @Z5 _ _ _ (Zi Cz_ hr (by decide) rfl (Za (pv 1) Zb rfl)) (fun _=>rfl));case gf=>refine' @Zhh _ _ _ _ _ _ _ ?gh ?gi;(case gh=>refine' @X4 _ _ _ _ ?gj;case gj=>refine' @Z5 _ _ _ (Zi Cz_ hr (by decide) rfl (Za (pv 2) Zb rfl)) (fun _=>rfl));case gi=>refine' @Zeo _ _ _ _ (Zt Zka (pv 2) Zf (Zy _))
 rcases h.isT with ⟨p,xs,ds,rfl,rfl,hp,hs⟩ | e
 case inr =>
  obtain ⟨t,ty,ki⟩:=h.ty (K:=K);refine ⟨_,rfl,_,_,t,_,rfl,ty,ki,_,rfl,?_⟩;rw [e];have z:isFr d=false:=by cases d <;> first | rfl | (cases e)
  rw [z] at q;exact iteT (iteT (q))
 refine ⟨_,rfl,_,_,_,_,rfl,TyOf.tup hp,rfl,true,rfl,iteF ?_⟩
 by_cases h2:xs.length=2
 case neg =>
  rw [hs.len0 h2] at q;refine ⟨_,rfl,p,_,rfl,.inr (SqT.of hp),rfl,_,rfl,?_⟩;rw [show decide (V.int (xs.length:Int)=V.int 2)=false from n17_ (fun z=>h2 (by have:=V.int.inj z; omega))];exact iteT q
 obtain ⟨x,y,d1,d2,rfl,rfl,k1,k2⟩:∃ x y d1 d2,xs=[x,y]∧ds=[d1,d2]∧Dt N H k x d1∧Dt N H k y d2:=by
  match xs,ds,hs,h2 with
  | [x,y],[d1,d2],.cons a (.cons b .nil),_=>exact ⟨x,y,d1,d2,rfl,rfl,a,b⟩
 refine ⟨_,rfl,p,_,rfl,.inr (SqT.of hp),rfl,false,rfl,iteF ?_⟩;refine ⟨_,rfl,p,_,rfl,SqT.of hp,rfl,_,_,rfl,_,_,rfl,rfl,?_⟩;refine ⟨_,rfl,N,k,x,d1,rfl,k1,_,rfl,?_⟩
 rcases k1.isI with ⟨i,rfl,rfl,hi⟩ | e1
 case inr =>
  rw [e1]; rw [fr_1 e1] at q;exact iteT (iteT q)
 refine iteF ?_;refine ⟨_,rfl,N,k,y,d2,rfl,k2,_,rfl,?_⟩
 rcases k2.isI with ⟨j,rfl,rfl,hj⟩ | e2
 case inr =>
  rw [e2]; rw [fr_2 e2] at q;exact iteT (iteT q)
 refine iteF ?_;refine ⟨_,rfl,_,_,rfl,rfl,_,rfl,?_⟩;have q':Q (.bl (decide (1≤j) && decide (Int.gcd i j=1))) H:=q;refine ite2 (fun hlt=>?_) (fun hlt=>?_)
 · have z:¬ 1≤j:=by have:=n41_ hlt; omega
   rw [n17_ z] at q';exact q'
 · have z:1≤j:=by have:¬ j < 1:=fun z=>hlt (n14_ z); omega
   rw [n14_ z,n87_] at q';refine ⟨_,rfl,_,rfl,_,_,rfl,Zkp hj hk,rfl,?_⟩;rw [show decide (V.int (Int.gcd i j:Int)=V.int 1)=decide (Int.gcd i j=1) from decide_eq_decide.mpr ⟨fun z=>by have:=V.int.inj z; omega,fun z=>by rw [z]; rfl⟩];exact q'
abbrev Xl:Stmt:=top 18
theorem Zcn (F:Fun K "are_fractions" "are_fractions" Xl f fd) (Cac_:a18_ P w K mg base):FnOk P w K mg base CX0 4 f fd ["thing","many"] Zhc:=by
 have sc:FnScope ["thing","many"] ["thing","many"] (Ze Xl):=fsc (by decide +kernel);refine F.ok sc (fun vs H Q E h=>by obtain ⟨N,k,v,d,n,rfl,_⟩:=h;rfl) fun cdv A outer s H vs Q E hr h=>?_;obtain ⟨N,k,v,d,n,rfl,h,hk,hz,q⟩:=h;refine' ⟨_,?term,?read⟩
 case term=>refine' @Zd _ _ _ _ _ ?g1 ?g2;(case g1=>refine' @Y7 _ _ _ _ _ _ _ _ ?g3 (Zg (Zm Zau)) Z3;case g3=>refine' @PW.pt _ _ _ ?g4;case g4=>refine' @Zhh _ _ _ _ _ _ _ ?g5 ?g6;(case g5=>refine' @X4 _ _ _ _ ?g7;case g7=>refine' @Z5 _ _ _ (Zj Y4 rfl T.b_isinstance Z0 (Za (pv 0) (Za (Xk (v:=.ty "tuple") rfl T.b_tuple Yk rfl) Zb rfl) rfl)) (fun _=>rfl));case g6=>refine' @Zeo _ _ _ _ (Zt Zd3 (Zj Zp rfl T.b_len Xa (Za (pv 0) Zb rfl)) (pv 1) (Zy _)));case g2=>refine' @Zg _ _ _ ?g8;case g8=>refine' @Zm _ _ _ _ ?g9;case g9=>refine' @Zj _ _ _ _ _ _ _ _ _ (Xs rfl) rfl T.b_all Zd1 ?ga (by decide) (by decide) (by rfl) (by rfl);case ga=>refine' @Za _ _ _ _ _ ?gb Zb rfl;case gb=>refine' @Y0 _ _ _ _ _ _ _ (["part"]) ([none]) _ _ _ _ _ rfl (Z2 (by decide) rfl (by decide) rfl rfl) (Zeb (pv 0)) (fun _ _ _ _=>pgB 0) (fun _ _ _ _=>Zl) (fun _ _ _ _=>Zi Cac_ hr (by decide) rfl (Za (pv 0) Zb rfl)) (by intro _ ; rfl)
 rcases h.isT with ⟨a,us,ds,rfl,rfl,ha,hs⟩ | e
 case inr =>
  obtain ⟨t,ty,ki⟩:=h.ty (K:=K);refine ⟨_,rfl,_,_,t,_,rfl,ty,ki,_,rfl,?_⟩;rw [e]; rw [Zff e] at q;exact iteT (iteT (q _ (Same.refl H)))
 refine ⟨_,rfl,_,_,_,_,rfl,TyOf.tup ha,rfl,true,rfl,iteF ?_⟩;have hl:=hs.len;have hz1:1+Zr ds≤1000:=hz;have h1000:us.length≤1000:=by have:=Zgd ds; omega
 refine ⟨_,rfl,a,us,rfl,.inr (SqT.of ha),_,rfl,rfl,_,rfl,?_⟩
 by_cases hn:us.length=n
 case neg =>
  rw [show decide (V.int (us.length:Int)=V.int (n:Nat))=false from n17_ (fun z=>hn (by have:=V.int.inj z; omega))];rw [Zjo (by omega)] at q;exact iteT (q _ (Same.refl H))
 rw [n14_ (show V.int (us.length:Int)=V.int (n:Nat) by rw [hn])];refine iteF ?_;refine ⟨_,rfl,a,rfl,⟨_,SqT.of ha⟩,fun D nD=>?_⟩;refine lc_T (k:=.t) (vs:=us) RB hRB (ds.map isFr) (by simp [hl]) h1000 nD ha (fun i w H2 C hw s2 c=>?_) (fun H2 us' s2 e2 a2=>?_)
 · obtain ⟨dx,ed,hdx⟩:=hs.get hw;have zx:=Zob ed;exact ⟨_,rfl,N,k,w,dx,rfl,hdx.same s2,hk,c _ _ (isFr dx) (Same.refl _) (by rw [n5_,ed]; rfl) rfl⟩
 · rw [a2.bls] at e2;refine ⟨D,ds.map isFr,rfl,SqL.of e2,?_⟩;have z:(ds.map isFr).all id=ds.all isFr:=by rw [List.all_map]; rfl
   rw [z];rw [Zi3 (by omega)] at q;exact q _ s2
abbrev X6:Stmt:=top 47
theorem Zdc (F:Fun K "_law_cell_at" "_law_cell_at" X6 f fd):FnOk P w K mg base CX0 1 f fd ["_law_script","_law_k"] (Zky K):=by
 have sc:FnScope ["_law_script","_law_k"] ["_law_script","_law_k"] (Ze X6):=fsc (by decide +kernel);refine F.ok sc (fun vs H Q E h=>by obtain ⟨a,ns,k,rfl,_⟩:=h;rfl) fun cdv A outer s H vs Q E hr h=>?_;obtain ⟨a,ns,k,rfl,hS,q⟩:=h;refine' ⟨_,?term,?read⟩
 case term=>refine' @Zd _ _ _ _ _ ?g1 (Zg (Zm Zf));case g1=>refine' @Y7 _ _ _ _ _ _ _ _ (Zt Zka (pv 1) (Zj Zp rfl T.b_len Xa (Za (pv 0) Zb rfl)) (Zy _)) ?g2 Z3;case g2=>refine' @Zg _ _ _ ?g3;case g3=>refine' @Zm _ _ _ _ ?g4;case g4=>refine' @Zz _ _ _ _ _ _ _ Yc (pv 0) (pv 1) (fun _ _=>rfl)
 refine ⟨_,rfl,_,rfl,a,_,rfl,.inl hS,_,_,rfl,rfl,_,rfl,?_⟩;refine ite2 (fun hlt=>?_) (fun _=>q 0)
 have hk:k < ns.length:=by
  have z:=n41_ hlt;rw [n2_] at z;omega
 exact ⟨_,rfl,_,rfl,a,_,_,_,rfl,rfl,hS,Yu (by rw [n5_,n0_ hk]; rfl),q _⟩
abbrev Za0:Stmt:=top 48
theorem Zfa (F:Fun K "_law_state" "_law_state" Za0 f fd) (Cab_:a19_ P w K mg base):FnOk P w K mg base CX0 2 f fd ["_law_script","_law_k"] (Zi8 K):=by
 have sc:FnScope ["_law_script","_law_k","_law_cell"] ["_law_script","_law_k"] (Ze Za0):=fsc (by decide +kernel);refine F.ok sc (fun vs H Q E h=>by obtain ⟨a,ns,k,rfl,_⟩:=h;rfl) fun cdv A outer s H vs Q E hr h=>?_;obtain ⟨a,ns,k,rfl,hS,q⟩:=h;have nd:=sc.nd;refine' ⟨_,?term,?read⟩
 case term=>refine' @Zd _ _ _ _ _ ?g1 ?g2;(case g1=>refine' @Zs _ _ (2) _ _ _ _ nd rfl (Or.inl rfl) (Zi Cab_ hr (by decide) rfl (Za (pv 0) (Za (pv 1) Zb rfl) rfl)) (by rfl) (by first | exact Or.inl rfl | exact Or.inr rfl | assumption));case g2=>refine' @Zg _ _ _ ?g3;case g3=>refine' @Zm _ _ _ _ ?g4;case g4=>refine' @Yz _ _ _ _ (Za (Zj (Zg4 rfl) rfl T.b_max Zn9 (Za Zf (Za (Zq Zgn (pv 2) (Zq Zlq Zf Zf)) Zb rfl) rfl)) (Za (Zq Xm (Zq Zay (pv 2) Zf) Zf) (Za Zf Zb rfl) rfl) rfl)
 refine ⟨_,rfl,_,rfl,a,ns,k,rfl,hS,fun c=>?_⟩;refine ⟨_,rfl,_,_,rfl,rfl,⟨by decide,by decide,by decide⟩,_,_,rfl,rfl,_,_,rfl,?_⟩;refine ⟨_,rfl,_,_,rfl,rfl,(by show (2147483629:Int)≠0; decide),_,_,rfl,rfl,(z3_),fun p hp=>q p _ hp (Same.new hp) ⟨_,_,_,Zc,?_,?_⟩⟩
 · have:=n70_ c (b:=2147483629) (by decide)
   omega
 · have:=n96_ c (b:=2147483629) (by decide)
   omega
abbrev Zao:Stmt:=top 49
theorem Zd9 (F:Fun K "_law_choice" "_law_choice" Zao f fd):FnOk P w K mg base CX0 1 f fd ["_law_state_here","_law_many"] Zg7:=by
 have sc:FnScope ["_law_state_here","_law_many","_law_found","_law_mixed"] ["_law_state_here","_law_many"] (Ze Zao):=fsc (by decide +kernel);refine F.ok sc (fun vs H Q E h=>by obtain ⟨l,m,rfl,_⟩:=h;rfl) fun cdv A outer s H vs Q E hr h=>?_;obtain ⟨l,m,rfl,⟨s0,s1,s2,hl,h0,h1⟩,hm,hz,q⟩:=h;have nd:=sc.nd;refine' ⟨_,?term,?read⟩
 case term=>refine' @Zd _ _ _ _ _ ?g1 ?g2;(case g1=>refine' @Y7 _ _ _ _ _ _ _ _ ?g3 ?g4 Z3;(case g3=>refine' @Zt _ _ _ _ _ _ _ _ Ze6 ?g5 Zf (Zy _);case g5=>refine' @Zz _ _ _ _ _ _ _ Yc (pv 0) Zf (fun _ _=>rfl));case g4=>refine' @Zd _ _ _ _ _ ?g6 ?g7;(case g6=>refine' @Zs _ _ (2) _ _ _ _ nd rfl (Or.inl rfl) ?g8 (by rfl) (by first | exact Or.inl rfl | exact Or.inr rfl | assumption);case g8=>refine' @Zq _ _ _ _ _ _ _ _ Zay ?g9 (pv 1);case g9=>refine' @Zz _ _ _ _ _ _ _ Yc (pv 0) Zf (fun _ _=>rfl));case g7=>refine' @Zd _ _ _ _ _ ?ga (Zg (Zm (pv 2)));case ga=>refine' @Zac _ _ _ _ _ _ ?gb ?gc (by rfl) (by rfl) (by rfl);(case gb=>refine' @Zq _ _ _ _ _ _ _ _ Yq ?gd (pv 1);case gd=>refine' @Zz _ _ _ _ _ _ _ Yc (pv 0) Zf (fun _ _=>rfl));case gc=>refine' @Zg1 _ _ _ _ _ _ _ (pv 0) Zf Zbv (by intro _ ; rfl));case g2=>refine' @Zd _ _ _ _ _ ?ge ?gf;(case ge=>refine' @Zac _ _ _ _ _ _ ?gg ?gh (by rfl) (by rfl) (by rfl);(case gg=>refine' @Zq _ _ _ _ _ _ _ _ Xm ?gi Zf;case gi=>refine' @Zz _ _ _ _ _ _ _ Yc (pv 0) Zf (fun _ _=>rfl));case gh=>refine' @Zg1 _ _ _ _ _ _ _ (pv 0) Zf Zbv (by intro _ ; rfl));case gf=>refine' @Zd _ _ _ _ _ ?gj ?gk;(case gj=>refine' @Zac _ _ _ _ _ _ ?gl ?gm (by rfl) (by rfl) (by rfl);(case gl=>refine' @Zq _ _ _ _ _ _ _ _ Zay ?gn Zf;case gn=>refine' @Zq _ _ _ _ _ _ _ _ Xm ?go ?gp;(case go=>refine' @Zq _ _ _ _ _ _ _ _ Xm ?gq Zf;case gq=>refine' @Zq _ _ _ _ _ _ _ _ Yi ?gr Zf;case gr=>refine' @Zz _ _ _ _ _ _ _ Yc (pv 0) Zf (fun _ _=>rfl));case gp=>refine' @Zz _ _ _ _ _ _ _ Yc (pv 0) Zf (fun _ _=>rfl));case gm=>refine' @Zg1 _ _ _ _ _ _ _ (pv 0) Zf Zbv (by intro _ ; rfl));case gk=>refine' @Zd _ _ _ _ _ ?gs ?gt;(case gs=>refine' @Zs _ _ (3) _ _ _ _ nd rfl (Or.inl rfl) ?gu (by rfl) (by first | exact Or.inl rfl | exact Or.inr rfl | assumption);case gu=>refine' @Zq _ _ _ _ _ _ _ _ Zay ?gv Zf;case gv=>refine' @Zq _ _ _ _ _ _ _ _ Xm ?gw Zf;case gw=>refine' @Zq _ _ _ _ _ _ _ _ Xm ?gx ?gy;(case gx=>refine' @Zq _ _ _ _ _ _ _ _ Yi ?gz ?g10;(case gz=>refine' @Zz _ _ _ _ _ _ _ Yc (pv 0) Zf (fun _ _=>rfl));case g10=>refine' @Zz _ _ _ _ _ _ _ Yc (pv 0) Zf (fun _ _=>rfl));case gy=>refine' @Zq _ _ _ _ _ _ _ _ Yi Zf ?g11;case g11=>refine' @Zz _ _ _ _ _ _ _ Yc (pv 0) Zf (fun _ _=>rfl));case gt=>refine' @Zd _ _ _ _ _ ?g12 (Zg (Zm (Zq Zay (Zq Yq (pv 3) Zf) (pv 1))));case g12=>refine' @Zs _ _ (3) _ _ _ _ nd rfl (Or.inl rfl) (Zq Zay (Zq Xm (Zq Yi (pv 3) (pv 3)) (Zq Yi Zf (pv 3))) Zf) (by rfl) (by first | exact Or.inl rfl | exact Or.inr rfl | assumption)
 have hm0:m≠0:=by omega
 refine ⟨_,rfl,l,_,0,_,rfl,rfl,SqL.of hl,rfl,_,_,rfl,rfl,_,rfl,?_⟩;refine ite2 (fun _=>?_) (fun _=>?_)
 · refine ⟨_,rfl,l,_,0,_,rfl,rfl,SqL.of hl,rfl,_,rfl,_,_,rfl,rfl,hm0,?_⟩;refine ⟨_,rfl,l,_,0,_,rfl,rfl,SqL.of hl,rfl,_,rfl,_,_,rfl,rfl,⟨hm0,hz⟩,?_⟩;refine ⟨_,rfl,l,_,0,0,rfl,rfl,hl,rfl,?_⟩;exact ⟨_,rfl,q _ _ (n70_ _ hm) (n96_ _ hm) Keep.upd ⟨_,_,_,Zc,h0,h1⟩⟩
 ·
  refine ⟨_,rfl,l,_,2,_,rfl,rfl,SqL.of hl,rfl,_,_,rfl,rfl,?_⟩;refine ⟨_,rfl,l,_,2,2,rfl,rfl,hl,rfl,?_⟩;refine ⟨_,rfl,l,_,1,_,rfl,rfl,SqL.of Zc,rfl,_,_,rfl,rfl,mulS (by rw [p64]; omega) (by decide),_,_,rfl,rfl,?_⟩;refine ⟨_,rfl,l,_,2,_,rfl,rfl,SqL.of Zc,rfl,_,_,rfl,rfl,_,_,rfl,rfl,(by show (2147483647:Int)≠0; decide),?_⟩;refine ⟨_,rfl,l,_,1,1,rfl,rfl,Zc,rfl,?_⟩;generalize hs:Int.fmod (s1 * 48271+29+(s2+1)) 2147483647=u;have u0:0≤u:=by rw [← hs]; exact n70_ _ (by decide)
  have u1:u < 2147483647:=by rw [← hs]; exact n96_ _ (by decide)
  refine ⟨_,rfl,l,_,1,_,rfl,rfl,SqL.of Zc,rfl,_,rfl,l,_,1,_,rfl,rfl,SqL.of Zc,rfl,u,u,by rw [← hs],by rw [← hs],mulS (by rw [p64]; omega) (by rw [p64]; omega),?_⟩;refine ⟨_,rfl,l,_,1,_,rfl,rfl,SqL.of Zc,rfl,39373,u,rfl,by rw [← hs],mulS (by decide) (by rw [p64]; omega),_,_,rfl,rfl,_,_,rfl,rfl,_,_,rfl,rfl,(by show (2147483629:Int)≠0; decide),?_⟩;generalize hv:Int.fmod (u * u+39373 * u+7) 2147483629=v;have v0:0≤v:=by rw [← hv]; exact n70_ _ (by decide)
  have v1:v < 2147483629:=by rw [← hv]; exact n96_ _ (by decide)
  refine ⟨_,rfl,_,rfl,v,v,by rw [← hv],by rw [← hv],mulS (by rw [p64]; omega) (by rw [p64]; omega),_,rfl,50021,v,rfl,by rw [← hv],mulS (by decide) (by rw [p64]; omega),_,_,rfl,rfl,_,_,rfl,rfl,(by show (2147483587:Int)≠0; decide),?_⟩;refine ⟨_,rfl,_,_,rfl,rfl,⟨by decide,Y1 (by decide)⟩,_,rfl,_,_,rfl,rfl,hm0,?_⟩;exact q _ _ (n70_ _ hm) (n96_ _ hm) (Keep.upd.trans Keep.upd) ⟨_,u,_,by rw [← hs]; exact Zc,u0,by omega⟩
abbrev Zce:Stmt:=top 50
theorem Zht (F:Fun K "_law_low" "_law_low" Zce f fd):FnOk P w K mg base CX0 1 f fd ["_law_top","_law_bottom"] Zn0:=by
 have sc:FnScope ["_law_top","_law_bottom","_law_one","_law_other"] ["_law_top","_law_bottom"] (Ze Zce):=fsc (by decide +kernel);refine F.ok sc (fun vs H Q E h=>by obtain ⟨t,b,rfl,_⟩:=h;rfl) fun cdv A outer s H vs Q E hr h=>?_;obtain ⟨t,b,rfl,hb,hz,q⟩:=h;have nd:=sc.nd;refine' ⟨_,?term,?read⟩
 case term=>refine' @Zd _ _ _ _ _ ?g1 ?g2;(case g1=>refine' @Zjk _ _ (2) (3) _ _ _ _ _ _ _ _ _ _ _ rfl nd rfl rfl (by decide) rfl rfl (Za (Zj Zbb rfl T.b_abs Zen (Za (pv 0) Zb rfl)) (Za (Zj Zbb rfl T.b_abs Zen (Za (pv 1) Zb rfl)) Zb rfl) rfl) rfl (by rfl));case g2=>refine' @Zd _ _ _ _ _ ?g3 ?g4;(case g3=>refine' @Zfg _ _ _ _ _ _ PassesOwn.never (Zt Ze6 (pv 3) Zf (Zy _)) ?g5;case g5=>refine' @Zg _ _ _ ?g6;case g6=>refine' @Zjk _ _ (2) (3) _ _ _ _ _ _ _ _ _ _ _ rfl nd rfl rfl (by decide) rfl rfl (Za (pv 3) (Za (Zq Zay (pv 2) (pv 3)) Zb rfl) rfl) rfl (by rfl));case g4=>refine' @Zg _ _ _ ?g7;case g7=>refine' @Zm _ _ _ _ ?g8;case g8=>refine' @Zv _ _ _ _ _ ?g9;case g9=>refine' @Za _ _ _ _ _ ?ga (Za (Zq Yq (Zj Zbb rfl T.b_abs Zen (Za (pv 1) Zb rfl)) (pv 2)) Zb rfl) rfl;case ga=>refine' @Zal _ _ _ _ _ _ _ _ (Zt Ze6 (pv 1) Zf (Zy _)) (Zq Yq (pv 0) (pv 2)) (Zq Zgn Zf (Zq Yq (pv 0) (pv 2)))
 have hg:=FM.gcd_ne (t:=t) hb;have hgz:(Int.gcd t b) < 2 ^ 8999:=n10_ (Nat.gcd_le_right _ (Int.natAbs_pos.mpr hb)) (Zoo hz);have ab:∀ x:Int,(if x < 0 then -x else x)=(x.natAbs:Int):=fun x=>by split <;> omega
 refine ⟨_,rfl,t,rfl,_,rfl,b,rfl,_,_,rfl,?_⟩
 refine Zfy (fun σ H'=>∃ x y:Int,σ=[some (.int t),some (.int b),some (.int x),some (.int y)]∧H'=H∧0≤x∧0≤y∧Int.gcd x y=Int.gcd t b) (fun σ _=>match σ with | [_,_,_,some (.int y)]=>y.natAbs | _=>0)
  ⟨_,_,rfl,rfl,by rw [ab]; omega,by rw [ab]; omega,by rw [ab,ab]; simp [Int.gcd]⟩ ?_ ?_
 · rintro σ H' ⟨x,y,rfl,rfl,hx,hy,e⟩
   refine ⟨_,rfl,_,_,rfl,rfl,_,rfl,?_⟩;refine ite2 (fun hlt=>?_) (fun hlt=>?_)
   · have hy':0 < y:=n41_ hlt;have hy0:y≠0:=by omega
     refine ⟨_,rfl,_,rfl,_,rfl,x,y,rfl,rfl,hy0,_,_,rfl,⟨y,x.fmod y,rfl,rfl,hy,n70_ _ hy',by rw [FM.gcd_fmod hy0]; exact e⟩,FM.fmod_abs_lt hy0⟩
   · have hy':¬ 0 < y:=fun z=>hlt (n14_ z);have y0:y=0:=by omega
     subst y0;have x0:x=(Int.gcd t b:Int):=by rw [← e,Int.gcd_zero_right]; omega
     subst x0;refine ⟨_,rfl,_,_,rfl,rfl,_,rfl,?_⟩
     have fin:∀ n:Int,n=(if 0 < b then t.fdiv (Int.gcd t b:Int) else 0 - t.fdiv (Int.gcd t b:Int))→∀ p,H' p=none→Q (.ref p) (upd H' p (.tup [.int n,.int (Int.fdiv (if b < 0 then -b else b) (Int.gcd t b:Int))])):=by
      rintro n rfl p hp
      rw [ab,FM.low_num hb,FM.low_den hb];exact q p _ (Same.new hp) Zc
     refine ite2 (fun hlt=>?_) (fun hlt=>?_)
     · have hb':0 < b:=n41_ hlt;refine ⟨_,rfl,_,rfl,_,_,rfl,rfl,⟨hg,hgz⟩,_,rfl,b,rfl,_,rfl,_,_,rfl,rfl,⟨hg,hgz⟩,z2_,?_⟩;exact fin _ (by rw [if_pos hb'])
     · have hb':¬ 0 < b:=fun z=>hlt (n14_ z);refine ⟨_,rfl,_,rfl,_,_,rfl,rfl,⟨hg,hgz⟩,_,_,rfl,rfl,_,rfl,b,rfl,_,rfl,_,_,rfl,rfl,⟨hg,hgz⟩,z2_,?_⟩;exact fin _ (by rw [if_neg hb'])
 · rintro σ H' Q1 Q2 hq ⟨v,e,i,j,e1,e2,k,e3,q'⟩
   exact ⟨v,e,i,j,e1,e2,k,e3,hq _ _ q'⟩
abbrev Zav:Stmt:=top 58
theorem Zfz (F:Fun K "_law_whole" "_law_whole" Zav f fd):FnOk P w K mg base CX0 1 f fd ["_law_thing"] Zbt:=by
 have sc:FnScope ["_law_thing"] ["_law_thing"] (Ze Zav):=fsc (by decide +kernel);refine F.ok sc (fun vs H Q E h=>by obtain ⟨N,k,v,d,rfl,_⟩:=h;rfl) fun cdv A outer s H vs Q E hr h=>?_;obtain ⟨N,k,v,d,rfl,h,q⟩:=h;refine' ⟨_,?term,?read⟩
 case term=>refine' @Zg _ _ _ ?g1;case g1=>refine' @Zm _ _ _ _ ?g2;case g2=>refine' @Zgz _ _ _ _ _ _ _ (Zj Y4 rfl T.b_isinstance Z0 (Za (pv 0) (Za (Xk (v:=.ty "int") rfl T.b_int Zkm rfl) Zb rfl) rfl)) ?g3;case g3=>refine' @Zjd _ _ _ _ _ ?g4;case g4=>refine' @Zop _ _ _ _ (Zj Y4 rfl T.b_isinstance Z0 (Za (pv 0) (Za (Xk (v:=.ty "bool") rfl T.b_bool Zl4 rfl) Zb rfl) rfl))
 cases h with
 | non=>exact ⟨_,rfl,_,_,_,_,rfl,TyOf.non,rfl,false,rfl,iteF q⟩
 | bl b=>exact ⟨_,rfl,_,_,_,_,rfl,TyOf.bl b,rfl,true,rfl,iteT ⟨_,rfl,_,_,_,_,rfl,TyOf.bl b,rfl,true,rfl,q⟩⟩
 | int hi=>exact ⟨_,rfl,_,_,_,_,rfl,TyOf.int _,rfl,true,rfl,iteT ⟨_,rfl,_,_,_,_,rfl,TyOf.int _,rfl,false,rfl,q⟩⟩
 | str x=>exact ⟨_,rfl,_,_,_,_,rfl,TyOf.str x,rfl,false,rfl,iteF q⟩
 | tup h r=>exact ⟨_,rfl,_,_,_,_,rfl,TyOf.tup h,rfl,false,rfl,iteF q⟩
 | lst h n m r=>exact ⟨_,rfl,_,_,_,_,rfl,TyOf.lst h,rfl,false,rfl,iteF q⟩
 | dic h=>exact ⟨_,rfl,_,_,_,_,rfl,TyOf.dK h,rfl,false,rfl,iteF q⟩
abbrev Xc:Stmt:=top 59
theorem Zbh (F:Fun K "_law_is_fraction" "_law_is_fraction" Xc f fd) (Ch_:a20_ P w K mg base) (Cn_:a21_ P w K mg base):FnOk P w K mg base CX0 2 f fd ["_law_thing"] Zjl:=by
 have sc:FnScope ["_law_thing"] ["_law_thing"] (Ze Xc):=fsc (by decide +kernel);refine F.ok sc (fun vs H Q E h=>by obtain ⟨N,k,v,d,rfl,_⟩:=h;rfl) fun cdv A outer s H vs Q E hr h=>?_;obtain ⟨N,k,v,d,rfl,h,hk,q⟩:=h;have hu:=Zfs hr;refine' ⟨_,?term,?read⟩
 case term=>refine' @Zd _ _ _ _ _ ?g1 ?g2;(case g1=>refine' @Y7 _ _ _ _ _ _ _ _ ?g3 (Zg (Zm Zau)) Z3;case g3=>refine' @PW.pt _ _ _ ?g4;case g4=>refine' @Zhh _ _ _ _ _ _ _ ?g5 ?g6;(case g5=>refine' @X4 _ _ _ _ ?g7;case g7=>refine' @Z5 _ _ _ (Zj Y4 rfl T.b_isinstance Z0 (Za (pv 0) (Za (Xk (v:=.ty "tuple") rfl T.b_tuple Yk rfl) Zb rfl) rfl)) (fun _=>rfl));case g6=>refine' @Zhh _ _ _ _ _ _ _ (Zt Zd3 (Zj Zp rfl T.b_len Xa (Za (pv 0) Zb rfl)) Zf (Zy _)) ?g8;case g8=>refine' @Zeo _ _ _ _ ?g9;case g9=>refine' @X4 _ _ _ _ ?ga;case ga=>refine' @Z5 _ _ _ ?gb (fun _=>rfl);case gb=>refine' @Zj _ _ _ _ _ _ _ _ _ (Xs rfl) rfl T.b_all Zd1 ?gc (by decide) (by decide) (by rfl) (by rfl);case gc=>refine' @Za _ _ _ _ _ ?gd Zb rfl;case gd=>refine' @Y0 _ _ _ _ _ _ _ (["_law_one"]) ([none]) _ _ _ _ _ rfl (Z2 (by decide) rfl (by decide) rfl rfl) (Zeb (pv 0)) (fun _ _ _ _=>pgB 0) (fun _ _ _ _=>Zl) (fun _ _ _ _=>Zi Cn_ hr (by decide) rfl (Za (pv 0) Zb rfl)) (by intro _ ; rfl));case g2=>refine' @Zg _ _ _ ?ge;case ge=>refine' @Zm _ _ _ _ ?gf;case gf=>refine' @Zgz _ _ _ _ _ _ _ ?gg ?gh;(case gg=>refine' @Zaq _ _ _ _ _ _ _ _ Ze6 ?gi Zf (Zy _);case gi=>refine' @Zz _ _ _ _ _ _ _ Ym (pv 0) Zf (fun _ _=>rfl));case gh=>refine' @Zjd _ _ _ _ _ ?gj;case gj=>refine' @Zaq _ _ _ _ _ _ _ _ (Zoi (n74_ hu)) ?gk (pv 0) (Zy _);case gk=>refine' @Zi _ _ _ _ _ _ _ _ _ _ _ Ch_ hr (by decide) rfl ?gl (by decide) (by rfl) (by rfl);case gl=>refine' @Za _ _ _ _ _ ?gm ?gn rfl;(case gm=>refine' @Zz _ _ _ _ _ _ _ Ym (pv 0) Zf (fun _ _=>rfl));case gn=>refine' @Za _ _ _ _ _ ?go Zb rfl;case go=>refine' @Zz _ _ _ _ _ _ _ Ym (pv 0) Zf (fun _ _=>rfl)
 rcases h.isT with ⟨p,xs,ds,rfl,rfl,hp,hs⟩ | e
 case inr =>
  obtain ⟨t,ty,ki⟩:=h.ty (K:=K);refine ⟨_,rfl,_,_,t,_,rfl,ty,ki,_,rfl,?_⟩;rw [e];have z:isFr d=false:=by cases d <;> first | rfl | (cases e)
  rw [z] at q;exact iteT (iteT (q _ (Same.refl H)))
 refine ⟨_,rfl,_,_,_,_,rfl,TyOf.tup hp,rfl,true,rfl,iteF ?_⟩
 by_cases h2:xs.length=2
 case neg =>
  rw [hs.len0 h2] at q;refine ⟨_,rfl,p,_,rfl,.inr (SqT.of hp),rfl,_,rfl,?_⟩;rw [show decide (V.int (xs.length:Int)=V.int 2)=false from n17_ (fun z=>h2 (by have:=V.int.inj z; omega))];exact iteT (iteT (q _ (Same.refl H)))
 obtain ⟨x,y,d1,d2,rfl,rfl,k1,k2⟩:∃ x y d1 d2,xs=[x,y]∧ds=[d1,d2]∧Dt N H k x d1∧Dt N H k y d2:=by
  match xs,ds,hs,h2 with
  | [x,y],[d1,d2],.cons a (.cons b .nil),_=>exact ⟨x,y,d1,d2,rfl,rfl,a,b⟩
 refine ⟨_,rfl,p,_,rfl,.inr (SqT.of hp),rfl,false,rfl,iteF ?_⟩;refine ⟨_,rfl,p,rfl,⟨_,SqT.of hp⟩,fun D nD=>?_⟩;refine Zpy (xs:=[x,y]) (fun n σ2 H2=>Same H H2∧H2 D=some (.lst (([isI d1,isI d2].take n).map V.bl))∧σ2.length=1) ⟨Same.new nD,Zc,rfl⟩ ?_ ?_ ?_
 · rintro n σ2 H2 _ ⟨s2,_,_⟩
   exact SqT.of (s2 _ _ hp)
 · rintro n z σ2 H2 hn ⟨s2,a2,l2⟩
   obtain ⟨u,rfl⟩:∃ u,σ2=[u]:=by
    match σ2,l2 with
    | [u],_=>exact ⟨u,rfl⟩
   refine Xz ?_
   match n,hn with
   | 0,hn =>
     cases (show x=z by simpa using hn)
     refine ⟨_,rfl,N,k,x,d1,rfl,k1.same s2,?_⟩;refine Ziq (by show 0 < 2; decide) a2 (by show 0 < sizeLine; decide) ⟨?_,?_,rfl⟩
     · exact fun b o e=>by rw [Zo (Zk e nD)]; exact s2 b o e
     · rw [Zc]; rfl
   | 1,hn =>
     cases (show y=z by simpa using hn)
     refine ⟨_,rfl,N,k,y,d2,rfl,k2.same s2,?_⟩;refine Ziq (by show 1 < 2; decide) a2 (by show 1 < sizeLine; decide) ⟨?_,?_,rfl⟩
     · exact fun b o e=>by rw [Zo (Zk e nD)]; exact s2 b o e
     · rw [Zc]; rfl
   | n+2,hn=>simp at hn
 · rintro σ2 H2 ⟨s2,a2,_⟩
   refine ⟨D,[isI d1,isI d2],rfl,SqL.of a2,_,rfl,?_⟩
   rcases k1.isI with ⟨i,rfl,rfl,hi⟩ | e1
   case inr =>
    rw [show List.all [isI d1,isI d2] id=false by simp [e1]];have q':=q H2 s2;rw [fr_1 e1] at q';exact iteT q'
   rcases k2.isI with ⟨j,rfl,rfl,hj⟩ | e2
   case inr =>
    rw [show List.all [isI (.int i),isI d2] id=false by simp [e2]];have q':=q H2 s2;rw [fr_2 e2] at q';exact iteT q'
   refine iteF ?_;refine ⟨_,rfl,p,_,1,_,rfl,rfl,SqT.of (s2 _ _ hp),rfl,_,_,rfl,rfl,_,rfl,?_⟩;refine ite2 (fun hlt=>?_) (fun hlt=>?_)
   · have z:0 < j:=n41_ hlt;refine ⟨_,rfl,p,_,0,_,rfl,rfl,SqT.of (s2 _ _ hp),rfl,_,rfl,p,_,1,_,rfl,rfl,SqT.of (s2 _ _ hp),rfl,i,j,rfl,by omega,Zkp hj hk,fun p3 H3 s3 a3=>?_⟩;refine ⟨_,rfl,p3,p,[(Rat.divInt i j).num,((Rat.divInt i j).den:Int)],[i,j],rfl,rfl,SqT.of a3,SqT.of (s3 _ _ (s2 _ _ hp)),?_⟩;rw [if_neg (by decide),Zok z];exact q _ (s2.trans s3)
   · have z:¬ 0 < j:=fun z=>hlt (n14_ z);have q':=q H2 s2
     have e:isFr (.tuple [.int i,.int j])=false:=by
      show (decide (1≤j) && decide (Int.gcd i j=1))=false
      rw [n17_ (by omega)]; rfl
     rw [e] at q';exact q'
abbrev Zb9:Stmt:=top 57
theorem Zh2 (F:Fun K "_law_odd" "_law_odd" Zb9 f fd) (Ca_:a22_ P w K mg base):FnOk P w K mg base CX0 2 f fd ["_law_state_here"] Zkz:=by
 have sc:FnScope ["_law_state_here","_law_some"] ["_law_state_here"] (Ze Zb9):=fsc (by decide +kernel);refine F.ok sc (fun vs H Q E h=>by obtain ⟨C,l,N,rfl,_⟩:=h;rfl) fun cdv A outer s H vs Q E hr h=>?_;obtain ⟨C,l,N,rfl,O,hl,hN,hD,q⟩:=h;have nd:=sc.nd;refine' ⟨_,?term,?read⟩
 case term=>refine' @Zd _ _ _ _ _ ?g1 ?g2;(case g1=>refine' @Zs _ _ (1) _ _ _ _ nd rfl (Or.inl rfl) ?g3 (by rfl) (by first | exact Or.inl rfl | exact Or.inr rfl | assumption);case g3=>refine' @Zfn _ _ _ _ ?g4;case g4=>refine' @Za _ _ _ _ _ Zhe ?g5 rfl;case g5=>refine' @Za _ _ _ _ _ Zau ?g6 rfl;case g6=>refine' @Za _ _ _ _ _ Zau ?g7 rfl;case g7=>refine' @Za _ _ _ _ _ Zf ?g8 rfl;case g8=>refine' @Za _ _ _ _ _ Zf ?g9 rfl;case g9=>refine' @Za _ _ _ _ _ (Zfu Zb6 Zf) ?ga rfl;case ga=>refine' @Za _ _ _ _ _ (Zq Zlq Zf Zf) ?gb rfl;case gb=>refine' @Za _ _ _ _ _ Zji ?gc rfl;case gc=>refine' @Za _ _ _ _ _ Zji ?gd rfl;case gd=>refine' @Za _ _ _ _ _ (Zv Zb) ?ge rfl;case ge=>refine' @Za _ _ _ _ _ ?gf ?gg rfl;(case gf=>refine' @Zfn _ _ _ _ Zb);case gg=>refine' @Za _ _ _ _ _ Zot ?gh rfl;case gh=>refine' @Za _ _ _ _ _ (Zv (Za Zf (Za Zf Zb rfl) rfl)) ?gi rfl;case gi=>refine' @Za _ _ _ _ _ (Zv (Za Zf (Za Zf Zb rfl) rfl)) ?gj rfl;case gj=>refine' @Za _ _ _ _ _ ?gk Zb rfl;case gk=>refine' @Zfn _ _ _ _ (Za Zf (Za Zf Zb rfl) rfl));case g2=>refine' @Zg _ _ _ ?gl;case gl=>refine' @Zm _ _ _ _ ?gm;case gm=>refine' @Zz _ _ _ _ _ _ _ Yc ?gn (Zi Ca_ hr (by decide) rfl (Za (pv 0) (Za Zf Zb rfl) rfl)) (fun _ _=>rfl);case gn=>refine' @Zq _ _ _ _ _ _ _ _ Zdh (pv 1) ?go;case go=>refine' @Zfn _ _ _ _ ?gp;case gp=>refine' @Za _ _ _ _ _ (Zv (Za (Zv (Za Zf (Za Zf Zb rfl) rfl)) Zb rfl)) (Za (Zv (Za Zf (Za Zf Zb rfl) rfl)) (Za (Zv (Za Zf (Za Zf Zb rfl) rfl)) (Za (Zv (Za Zf (Za Zf Zb rfl) rfl)) (Za (Zv (Za Zau (Za Zf Zb rfl) rfl)) Zb rfl) rfl) rfl) rfl) rfl
 refine ⟨_,rfl,_,_,rfl,rfl,⟨by decide,by decide,by decide⟩,z0_,?_⟩;intro p1 n1;generalize hH1:upd H p1 _=H1;have S1:Same H H1:=by (rw [← hH1]; exact Same.new n1)
 have A1:=(congrFun hH1 p1).symm;rw [Zc] at A1;clear hH1;have st1:=(hl).same S1;refine ⟨z0_,?_⟩;intro p2 n2 m2;generalize hH2:upd H1 p2 _=H2;have S2:Same H1 H2:=by (rw [← hH2]; exact Same.new n2)
 have A2:=(congrFun hH2 p2).symm;rw [Zc] at A2;clear hH2;have st2:=(st1).same S2;intro p3 n3;generalize hH3:upd H2 p3 _=H3;have S3:Same H2 H3:=by (rw [← hH3]; exact Same.new n3)
 have A3:=(congrFun hH3 p3).symm;rw [Zc] at A3;clear hH3;have st3:=(st2).same S3;refine ⟨z2_,?_⟩;intro p4 n4;generalize hH4:upd H3 p4 _=H4;have S4:Same H3 H4:=by (rw [← hH4]; exact Same.new n4)
 have A4:=(congrFun hH4 p4).symm;rw [Zc] at A4;clear hH4;have st4:=(st3).same S4;refine ⟨z2_,?_⟩;intro p5 n5;generalize hH5:upd H4 p5 _=H5;have S5:Same H4 H5:=by (rw [← hH5]; exact Same.new n5)
 have A5:=(congrFun hH5 p5).symm;rw [Zc] at A5;clear hH5;have st5:=(st4).same S5;refine ⟨z2_,?_⟩;intro p6 n6 m6;generalize hH6:upd H5 p6 _=H6;have S6:Same H5 H6:=by (rw [← hH6]; exact Same.new n6)
 have A6:=(congrFun hH6 p6).symm;rw [Zc] at A6;clear hH6;have st6:=(st5).same S6;refine ⟨by show 15≤sizeLine; decide,?_⟩;intro p7 n7 m7;generalize hH7:upd H6 p7 _=H7;have S7:Same H6 H7:=by (rw [← hH7]; exact Same.new n7)
 have A7:=(congrFun hH7 p7).symm;rw [Zc] at A7;clear hH7;have st7:=(st6).same S7;refine ⟨_,rfl,z2_,?_⟩;intro p8 n8;generalize hH8:upd H7 p8 _=H8;have S8:Same H7 H8:=by (rw [← hH8]; exact Same.new n8)
 have A8:=(congrFun hH8 p8).symm;rw [Zc] at A8;clear hH8;have st8:=(st7).same S8;refine ⟨z1_,?_⟩;intro p9 n9;generalize hH9:upd H8 p9 _=H9;have S9:Same H8 H9:=by (rw [← hH9]; exact Same.new n9)
 have A9:=(congrFun hH9 p9).symm;rw [Zc] at A9;clear hH9;have st9:=(st8).same S9;refine ⟨z2_,?_⟩;intro p10 n10;generalize hH10:upd H9 p10 _=H10;have S10:Same H9 H10:=by (rw [← hH10]; exact Same.new n10)
 have A10:=(congrFun hH10 p10).symm;rw [Zc] at A10;clear hH10;have st10:=(st9).same S10;refine ⟨z2_,?_⟩;intro p11 n11;generalize hH11:upd H10 p11 _=H11;have S11:Same H10 H11:=by (rw [← hH11]; exact Same.new n11)
 have A11:=(congrFun hH11 p11).symm;rw [Zc] at A11;clear hH11;have st11:=(st10).same S11;refine ⟨z2_,?_⟩;intro p12 n12;generalize hH12:upd H11 p12 _=H12;have S12:Same H11 H12:=by (rw [← hH12]; exact Same.new n12)
 have A12:=(congrFun hH12 p12).symm;rw [Zc] at A12;clear hH12;have st12:=(st11).same S12;refine ⟨z2_,?_⟩;intro p13 n13;generalize hH13:upd H12 p13 _=H13;have S13:Same H12 H13:=by (rw [← hH13]; exact Same.new n13)
 have A13:=(congrFun hH13 p13).symm;rw [Zc] at A13;clear hH13;have st13:=(st12).same S13;refine ⟨z5_,?_⟩;intro p14 n14 m14;generalize hH14:upd H13 p14 _=H14;have S14:Same H13 H14:=by (rw [← hH14]; exact Same.new n14)
 have A14:=(congrFun hH14 p14).symm;rw [Zc] at A14;clear hH14;have st14:=(st13).same S14;refine ⟨p7,p14,_,_,rfl,rfl,(S14 _ _ (S13 _ _ (S12 _ _ (S11 _ _ (S10 _ _ (S9 _ _ (S8 _ _ A7))))))),A14,by show 20≤sizeLine; decide,?_⟩;intro p15 n15;generalize hH15:upd H14 p15 _=H15;have S15:Same H14 H15:=by (rw [← hH15]; exact Same.new n15)
 have A15:=(congrFun hH15 p15).symm;rw [Zc] at A15;clear hH15;have st15:=(st14).same S15;have T1:TgOs C N H15 100 2 20 [.non,.bl true,.bl false,.int 0,.int 1,.int (-1),.int (10 ^ Int.toNat 29),.str "",.str "a",.ref p1,.ref p2,.ref p3,.ref p4,.ref p5,.ref p6]:=(TgOs.cons (⟨_,.non,n32_ rfl,by decide +kernel,okE1 O (by decide +kernel) (by decide)⟩) (TgOs.cons (⟨_,(.bl true),n32_ rfl,by decide +kernel,okE1 O (by decide +kernel) (by decide)⟩) (TgOs.cons (⟨_,(.bl false),n32_ rfl,by decide +kernel,okE1 O (by decide +kernel) (by decide)⟩) (TgOs.cons (⟨_,(dint 0 (by decide) (by decide)),n32_ rfl,by decide +kernel,okE1 O (by decide +kernel) (by decide)⟩) (TgOs.cons (⟨_,(dint 1 (by decide) (by decide)),n32_ rfl,by decide +kernel,okE1 O (by decide +kernel) (by decide)⟩) (TgOs.cons (⟨_,(dint (-1) (by decide) (by decide)),n32_ rfl,by decide +kernel,okE1 O (by decide +kernel) (by decide)⟩) (TgOs.cons (⟨_,(dint (10 ^ Int.toNat 29) (by decide) (by decide)),n32_ rfl,by decide +kernel,okE1 O (by decide +kernel) (by decide)⟩) (TgOs.cons (⟨_,(.str ""),n32_ rfl,by decide +kernel,okE1 O (by decide +kernel) (by decide)⟩) (TgOs.cons (⟨_,(.str "a"),n32_ rfl,by decide +kernel,okE1 O (by decide +kernel) (by decide)⟩) (TgOs.cons (⟨_,.tup (S15 _ _ (S14 _ _ (S13 _ _ (S12 _ _ (S11 _ _ (S10 _ _ (S9 _ _ (S8 _ _ (S7 _ _ (S6 _ _ (S5 _ _ (S4 _ _ (S3 _ _ (S2 _ _ A1)))))))))))))) .nil,n32_ rfl,by decide +kernel,okE1 O (by decide +kernel) (by decide)⟩) (TgOs.cons (⟨_,.lst (S15 _ _ (S14 _ _ (S13 _ _ (S12 _ _ (S11 _ _ (S10 _ _ (S9 _ _ (S8 _ _ (S7 _ _ (S6 _ _ (S5 _ _ (S4 _ _ (S3 _ _ A2))))))))))))) ((hD.same S1).new n2) m2 .nil,n32_ rfl,by decide +kernel,okE1 O (by decide +kernel) (by decide)⟩) (TgOs.cons (⟨_,.dic (S15 _ _ (S14 _ _ (S13 _ _ (S12 _ _ (S11 _ _ (S10 _ _ (S9 _ _ (S8 _ _ (S7 _ _ (S6 _ _ (S5 _ _ (S4 _ _ A3)))))))))))),n32_ rfl,by decide +kernel,okE1 O (by decide +kernel) (by decide)⟩) (TgOs.cons (⟨_,.tup (S15 _ _ (S14 _ _ (S13 _ _ (S12 _ _ (S11 _ _ (S10 _ _ (S9 _ _ (S8 _ _ (S7 _ _ (S6 _ _ (S5 _ _ A4))))))))))) (.cons (dint 0 (by decide) (by decide)) (.cons (dint 1 (by decide) (by decide)) .nil)),n32_ rfl,by decide +kernel,okE1 O (by decide +kernel) (by decide)⟩) (TgOs.cons (⟨_,.tup (S15 _ _ (S14 _ _ (S13 _ _ (S12 _ _ (S11 _ _ (S10 _ _ (S9 _ _ (S8 _ _ (S7 _ _ (S6 _ _ A5)))))))))) (.cons (dint 1 (by decide) (by decide)) (.cons (dint 1 (by decide) (by decide)) .nil)),n32_ rfl,by decide +kernel,okE1 O (by decide +kernel) (by decide)⟩) (TgOs.cons (⟨_,.lst (S15 _ _ (S14 _ _ (S13 _ _ (S12 _ _ (S11 _ _ (S10 _ _ (S9 _ _ (S8 _ _ (S7 _ _ A6))))))))) ((hD.same (S1.trans (S2.trans (S3.trans (S4.trans S5))))).new n6) m6 (.cons (dint 0 (by decide) (by decide)) (.cons (dint 1 (by decide) (by decide)) .nil)),n32_ rfl,by decide +kernel,okE1 O (by decide +kernel) (by decide)⟩) TgOs.nil)))))))))))))))
 have T2:TgOs C N H15 100 2 20 [.ref p9,.ref p10,.ref p11,.ref p12,.ref p13]:=(TgOs.cons (⟨_,.tup (S15 _ _ (S14 _ _ (S13 _ _ (S12 _ _ (S11 _ _ (S10 _ _ A9)))))) (.cons (.tup (S15 _ _ (S14 _ _ (S13 _ _ (S12 _ _ (S11 _ _ (S10 _ _ (S9 _ _ A8))))))) (.cons (dint 0 (by decide) (by decide)) (.cons (dint 1 (by decide) (by decide)) .nil))) .nil),n32_ rfl,by decide +kernel,okE1 O (by decide +kernel) (by decide)⟩) (TgOs.cons (⟨_,.tup (S15 _ _ (S14 _ _ (S13 _ _ (S12 _ _ (S11 _ _ A10))))) (.cons (dint 2 (by decide) (by decide)) (.cons (dint 4 (by decide) (by decide)) .nil)),n32_ rfl,by decide +kernel,okE1 O (by decide +kernel) (by decide)⟩) (TgOs.cons (⟨_,.tup (S15 _ _ (S14 _ _ (S13 _ _ (S12 _ _ A11)))) (.cons (dint 1 (by decide) (by decide)) (.cons (dint 0 (by decide) (by decide)) .nil)),n32_ rfl,by decide +kernel,okE1 O (by decide +kernel) (by decide)⟩) (TgOs.cons (⟨_,.tup (S15 _ _ (S14 _ _ (S13 _ _ A12))) (.cons (dint 0 (by decide) (by decide)) (.cons (dint 2 (by decide) (by decide)) .nil)),n32_ rfl,by decide +kernel,okE1 O (by decide +kernel) (by decide)⟩) (TgOs.cons (⟨_,.tup (S15 _ _ (S14 _ _ A13)) (.cons (.bl true) (.cons (dint 1 (by decide) (by decide)) .nil)),n32_ rfl,by decide +kernel,okE1 O (by decide +kernel) (by decide)⟩) TgOs.nil)))));refine ⟨_,rfl,l,20,rfl,st15,by decide,Y1 (by decide),fun r Hz r0 r1 kz lz=>?_⟩;have TT:=T1.app T2;obtain ⟨v,hv,mv⟩:=Zfw (xs:=[.non,.bl true,.bl false,.int 0,.int 1,.int (-1),.int (10 ^ Int.toNat 29),.str "",.str "a",.ref p1,.ref p2,.ref p3,.ref p4,.ref p5,.ref p6]++[.ref p9,.ref p10,.ref p11,.ref p12,.ref p13]) r0 (by exact r1);exact ⟨p15,_,r,v,rfl,rfl,SqL.of (kz _ _ (fun z=>st14.ne n15 z.symm) A15),hv,q _ _ (((S1.trans (S2.trans (S3.trans (S4.trans (S5.trans (S6.trans (S7.trans (S8.trans (S9.trans (S10.trans (S11.trans (S12.trans (S13.trans (S14.trans S15))))))))))))))).keep.trans kz) lz (TgO.keepS hN st15 (TT v mv) kz)⟩
abbrev Zfk:Nat→Sp|0=>fun _ _ _ _=>False|n+1=>Zbs n
abbrev Xh:Stmt:=top 60
theorem Zag {n:Nat} (F:Fun K "_law_bent" "_law_bent" Xh f fd) (Cah_:Cal P w K mg base "_law_bent" (n+2) ["_law_state_here","_law_thing"] (Zfk n)) (Ca_:a22_ P w K mg base) (Cr_:a23_ P w K mg base) (Cn_:a21_ P w K mg base):FnOk P w K mg base CX0 (n+3) f fd ["_law_state_here","_law_thing"] (Zbs n):=by
 have sc:FnScope ["_law_state_here","_law_thing","_law_at","_law_way","_law_more"] ["_law_state_here","_law_thing"] (Ze Xh):=fsc (by decide +kernel);refine F.ok sc (fun vs H Q E h=>by obtain ⟨C,l,N,k,v,d,rfl,_⟩:=h;rfl) fun cdv A outer s H vs Q E hr h=>?_;obtain ⟨C,l,N,k,v,d,rfl,O,hl,hN,hD,hd,hk,hn,hm,hok,q⟩:=h;have nd:=sc.nd;have hu:=Zfs hr;refine' ⟨_,?term,?read⟩
 case term=>refine' @Zd _ _ _ _ _ ?g1 ?g2;(case g1=>refine' @Y7 _ _ _ _ _ _ _ _ ?g3 ?g4 Z3;(case g3=>refine' @PW.pt _ _ _ ?g5;case g5=>refine' @Zex _ _ _ _ _ _ _ ?g6 ?g7;(case g6=>refine' @Z5 _ _ _ (Zj Y4 rfl T.b_isinstance Z0 (Za (pv 1) (Za (Xk (v:=.ty "tuple") rfl T.b_tuple Yk rfl) Zb rfl) rfl)) (fun _=>rfl));case g7=>refine' @Zex _ _ _ _ _ _ _ (Zt (Zmd (n74_ hu)) (pv 1) (Zv Zb) (Zy _)) ?g8;case g8=>refine' @Zdd _ _ _ _ (Zt Ze6 (Zi Ca_ hr (by omega) rfl (Za (pv 0) (Za Zf Zb rfl) rfl)) Zf (Zy _)));case g4=>refine' @Zd _ _ _ _ _ ?g9 ?ga;(case g9=>refine' @Zs _ _ (2) _ _ _ _ nd rfl (Or.inl rfl) (Zi Ca_ hr (by omega) rfl (Za (pv 0) (Za (Zj Zp rfl T.b_len Xa (Za (pv 1) Zb rfl)) Zb rfl) rfl)) (by rfl) (by first | exact Or.inl rfl | exact Or.inr rfl | assumption));case ga=>refine' @Zg _ _ _ ?gb;case gb=>refine' @Zm _ _ _ _ ?gc;case gc=>refine' @Zq _ _ _ _ _ _ _ _ Zaw ?gd ?ge;(case gd=>refine' @Zq _ _ _ _ _ _ _ _ Zaw ?gf ?gg;(case gf=>refine' @X2 _ _ _ _ _ _ _ _ _ _ Zdv (pv 1) Zax (Za4 (pv 2)));case gg=>refine' @Zv _ _ _ _ _ ?gh;case gh=>refine' @Za _ _ _ _ _ ?gi Zb rfl;case gi=>refine' @Zi _ _ _ _ _ _ _ _ _ _ _ Cah_ hr (by omega) rfl ?gj (by decide) (by rfl) (by rfl);case gj=>refine' @Za _ _ _ _ _ (pv 0) ?gk rfl;case gk=>refine' @Za _ _ _ _ _ ?gl Zb rfl;case gl=>refine' @Zz _ _ _ _ _ _ _ Ym (pv 1) (pv 2) (fun _ _=>rfl));case ge=>refine' @X2 _ _ _ _ _ _ _ _ _ _ Zdv (pv 1) (Za4 (Zq Xm (pv 2) Zf)) Zax);case g2=>refine' @Zd _ _ _ _ _ ?gm ?gn;(case gm=>refine' @Zs _ _ (3) _ _ _ _ nd rfl (Or.inl rfl) (Zi Ca_ hr (by omega) rfl (Za (pv 0) (Za Zf Zb rfl) rfl)) (by rfl) (by first | exact Or.inl rfl | exact Or.inr rfl | assumption));case gn=>refine' @Zd _ _ _ _ _ ?go ?gp;(case go=>refine' @Y7 _ _ _ _ _ _ _ _ ?gq ?gr Z3;(case gq=>refine' @PW.pt _ _ _ ?gs;case gs=>refine' @Zex _ _ _ _ _ _ _ ?gt ?gu;(case gt=>refine' @Z5 _ _ _ (Zj Y4 rfl T.b_isinstance Z0 (Za (pv 1) (Za (Xk (v:=.ty "tuple") rfl T.b_tuple Yk rfl) Zb rfl) rfl)) (fun _=>rfl));case gu=>refine' @Zdd _ _ _ _ (Zt Zka (pv 3) Zf (Zy _)));case gr=>refine' @Zd _ _ _ _ _ ?gv ?gw;(case gv=>refine' @Zs _ _ (4) _ _ _ _ nd rfl (Or.inl rfl) ?gx (by rfl) (by first | exact Or.inl rfl | exact Or.inr rfl | assumption);case gx=>refine' @Yz _ _ _ _ ?gy;case gy=>refine' @Za _ _ _ _ _ ?gz ?g10 rfl;(case gz=>refine' @Zq _ _ _ _ _ _ _ _ Zaw (pv 1) ?g11;case g11=>refine' @X2 _ _ _ _ _ _ _ _ _ _ Zdv (pv 1) (Za4 (Zfu Zb6 Zf)) Zax);case g10=>refine' @Za _ _ _ _ _ ?g12 ?g13 rfl;(case g12=>refine' @X2 _ _ _ _ _ _ _ _ _ _ Zdv (pv 1) Zax (Za4 (Zfu Zb6 Zf)));case g13=>refine' @Za _ _ _ _ _ ?g14 ?g15 rfl;(case g14=>refine' @X2 _ _ _ _ _ _ _ _ _ _ Zdv (pv 1) (Za4 Zf) Zax);case g15=>refine' @Za _ _ _ _ _ ?g16 (Za (Yn Zca rfl T.b_list Zib (Za (pv 1) Zb rfl)) (Za (Zq Zaw (pv 1) (Zv (Za Zf Zb rfl))) Zb rfl) rfl) rfl;case g16=>refine' @Zha _ _ _ _ _ _ Zqh (pv 1));case gw=>refine' @Zd _ _ _ _ _ ?g17 ?g18;(case g17=>refine' @Xu _ _ _ _ ?g19 (by rfl);case g19=>refine' @Zft _ _ _ _ _ _ _ _ _ _ _ _ PySem.F.plainAttrs_list PySem.F.slot_list_append PySem.F.type_list_append Xd (pv 4) (Za (Zq Zaw (pv 1) (Zv (Za (pv 1) Zb rfl))) Zb rfl) (by rfl) (by rfl) (by rfl) (by rfl) (by rfl));case g18=>refine' @Zg _ _ _ ?g1a;case g1a=>refine' @Zm _ _ _ _ ?g1b;case g1b=>refine' @Zz _ _ _ _ _ _ _ Yc (pv 4) (pv 3) (fun _ _=>rfl));case gp=>refine' @Zd _ _ _ _ _ ?g1c (Zg (Zm (Zi Cr_ hr (by omega) rfl (Za (pv 0) Zb rfl))));case g1c=>refine' @Y7 _ _ _ _ _ _ _ _ ?g1d ?g1e Z3;(case g1d=>refine' @PW.pt _ _ _ ?g1f;case g1f=>refine' @Zex _ _ _ _ _ _ _ ?g1g ?g1h;(case g1g=>refine' @Z5 _ _ _ (Zi Cn_ hr (by omega) rfl (Za (pv 1) Zb rfl)) (fun _=>rfl));case g1h=>refine' @Zdd _ _ _ _ (Zt Zka (pv 3) Zf (Zy _)));case g1e=>refine' @Zg _ _ _ ?g1i;case g1i=>refine' @Zm _ _ _ _ ?g1j;case g1j=>refine' @Zq _ _ _ _ _ _ _ _ Xm (pv 1) ?g1k;case g1k=>refine' @Zz _ _ _ _ _ _ _ Yc ?g1l (pv 3) (fun _ _=>rfl);case g1l=>refine' @Yz _ _ _ _ (Za Zf (Za (Zfu Zb6 Zf) (Za Zf (Za Zf (Za (Zfu Zb6 Zf) (Za Zf Zb rfl) rfl) rfl) rfl) rfl) rfl)
 rcases hd.isT with ⟨a,xs,ds,rfl,rfl,ha,hs⟩ | e
 case inr =>
  obtain ⟨t,ty,ki⟩:=hd.ty (K:=K);rw [e] at ki;refine ⟨_,rfl,_,_,t,_,rfl,ty,ki,_,rfl,iteF (iteF ?_)⟩;refine ⟨_,rfl,l,9,rfl,hl,by decide,Y1 (by decide),fun r H1 r0 r1 k1 l1=>?_⟩;have hd1:=Dt.keepS hN hl hd k1;obtain ⟨t',ty',ki'⟩:=hd1.ty (K:=K);rw [e] at ki';refine ⟨_,rfl,_,_,t',_,rfl,ty',ki',_,rfl,iteF (iteF ?_)⟩;refine ⟨_,rfl,N,k,v,d,rfl,hd1,_,rfl,?_⟩
  rcases hd1.isI with ⟨i,rfl,rfl,hi⟩ | e2
  · refine iteT ?_;refine ⟨_,rfl,_,_,rfl,rfl,_,rfl,?_⟩;refine ite2 (fun hlt=>?_) (fun _=>?_)
    · refine ⟨_,rfl,_,rfl,_,rfl,by show 6≤sizeLine; decide,fun p2 n2=>?_⟩;obtain ⟨w,hw,hm⟩:=Zfw (xs:=[V.int 1,V.int (-1),V.int 2,V.int 30,V.int (-101),V.int 5]) r0 (n41_ hlt)
      obtain ⟨c,ec,hc⟩:∃ c,w=.int c∧c.natAbs≤101:=by
       simp only [n31_,n43_,or_false] at hm
       rcases hm with rfl | rfl | rfl | rfl | rfl | rfl <;> exact ⟨_,rfl,by decide⟩
      refine ⟨_,rfl,p2,_,r,w,rfl,rfl,SqL.of Zc,hw,i,c,rfl,ec,?_⟩;refine q _ _ (k1.trans (Keep.new n2)) (l1.new n2) ⟨.int (i+c),.int ?_,n56_ _,by show 1≤_; omega,okE1 O rfl (by omega)⟩;have h1:2 ^ (k+1)=2 * 2 ^ k:=Nat.pow_succ';have h2:2 ^ 7≤2 ^ k:=n11_ (by decide) (by omega);have h3:=Int.natAbs_add_le i c;rw [h1];have h5:(2:Nat) ^ 7=128:=by decide
      omega
    · exact ⟨_,rfl,C,l,N,rfl,O,l1,hN,Dom.keepS hD k1 l1,fun Hy vy ky ly ty=>q _ _ (k1.trans ky) ly (ty.up (by omega) (by omega) (by omega))⟩
  · rw [e2];exact iteF (iteF ⟨_,rfl,C,l,N,rfl,O,l1,hN,Dom.keepS hD k1 l1,fun Hy vy ky ly ty=>q _ _ (k1.trans ky) ly (ty.up (by omega) (by omega) (by omega))⟩)
 have dep:PyData.depthAll ds+1≤n:=hn;obtain ⟨n,rfl⟩:∃ m,n=m+1:=⟨n-1,by omega⟩;have okds:=(X5.mp (show okB _ _ _=true from hok)).2;have hz:1+Zr ds≤100000:=hm;have hlen:xs.length≤100000:=by rw [hs.len]; have:=Zgd ds; omega
 refine ⟨_,rfl,_,_,_,_,rfl,TyOf.tup ha,rfl,true,rfl,iteT ?_⟩;refine ⟨_,rfl,z0_,?_⟩;intro p1 n1;generalize hH1:upd H p1 _=H1;have S1:Same H H1:=by (rw [← hH1]; exact Same.new n1)
 have A1:=(congrFun hH1 p1).symm;rw [Zc] at A1;clear hH1;have st1:=(hl).same S1;refine ⟨a,p1,xs,rfl,rfl,SqT.of (S1 _ _ ha),SqT.of A1,_,rfl,?_⟩
 by_cases hx:xs=[]
 · rw [n14_ hx];refine iteF (iteF ?_);refine ⟨_,rfl,l,9,rfl,st1,by decide,Y1 (by decide),fun r Hc r0 r1 kc lc=>?_⟩;have hc:=kc _ _ (fun z=>by subst z; exact absurd (((st1).neT (S1 _ _ ha)) rfl) id) (S1 _ _ ha);have Kc:Keep l H Hc:=(S1.keep).trans kc;have hsc:Dts N Hc k xs ds:=Dts.keepS hN hl hs Kc;refine ⟨_,rfl,_,_,_,_,rfl,TyOf.tup hc,rfl,true,rfl,iteT ?_⟩;refine ⟨_,rfl,_,_,rfl,rfl,_,rfl,?_⟩;refine ite2 (fun hlt=>?_) (fun _=>?_)
   · refine ⟨_,rfl,_,rfl,_,rfl,_,rfl,a,xs,rfl,hc,fun pc1 Hc1 Sc1 Ac1=>?_⟩;have stc1:=(lc).same Sc1;refine ⟨a,pc1,_,_,rfl,rfl,(Sc1 _ _ hc),Ac1,by have e:=sizeLine_eq; have:=Yv xs (some (-1)) none; (try simp only [n23_,n47_]); omega,fun pc2 Hc2 Sc2 Ac2=>?_⟩;have stc2:=(stc1).same Sc2;refine ⟨_,rfl,_,rfl,_,rfl,a,xs,rfl,(Sc2 _ _ (Sc1 _ _ hc)),fun pc3 Hc3 Sc3 Ac3=>?_⟩;have stc3:=(stc2).same Sc3;refine ⟨_,rfl,_,rfl,a,xs,rfl,(Sc3 _ _ (Sc2 _ _ (Sc1 _ _ hc))),fun pc4 Hc4 Sc4 Ac4=>?_⟩;have stc4:=(stc3).same Sc4;refine ⟨_,rfl,a,xs,rfl,SqT.of (Sc4 _ _ (Sc3 _ _ (Sc2 _ _ (Sc1 _ _ hc)))),?_⟩;intro pc5 nc5;generalize hHc5:upd Hc4 pc5 _=Hc5;have Sc5:Same Hc4 Hc5:=by (rw [← hHc5]; exact Same.new nc5)
     have Ac5:=(congrFun hHc5 pc5).symm;rw [Zc] at Ac5;clear hHc5;have stc5:=(stc4).same Sc5;refine ⟨_,rfl,a,xs,rfl,.inr (SqT.of (Sc5 _ _ (Sc4 _ _ (Sc3 _ _ (Sc2 _ _ (Sc1 _ _ hc)))))),?_⟩;intro pc6 nc6 mc6;generalize hHc6:upd Hc5 pc6 _=Hc6;have Sc6:Same Hc5 Hc6:=by (rw [← hHc6]; exact Same.new nc6)
     have Ac6:=(congrFun hHc6 pc6).symm;rw [Zc] at Ac6;clear hHc6;have stc6:=(stc5).same Sc6;refine ⟨_,rfl,z1_,?_⟩;intro pc7 nc7;generalize hHc7:upd Hc6 pc7 _=Hc7;have Sc7:Same Hc6 Hc7:=by (rw [← hHc7]; exact Same.new nc7)
     have Ac7:=(congrFun hHc7 pc7).symm;rw [Zc] at Ac7;clear hHc7;have stc7:=(stc6).same Sc7;refine ⟨a,pc7,_,_,rfl,rfl,(Sc7 _ _ (Sc6 _ _ (Sc5 _ _ (Sc4 _ _ (Sc3 _ _ (Sc2 _ _ (Sc1 _ _ hc))))))),Ac7,by have e:=sizeLine_eq; have:=Yv xs (some (-1)) none; (try simp only [n23_,n47_]); omega,fun pc8 Hc8 Sc8 Ac8=>?_⟩;have stc8:=(stc7).same Sc8;refine ⟨by show 6≤sizeLine; decide,?_⟩;intro pc9 nc9;generalize hHc9:upd Hc8 pc9 _=Hc9;have Sc9:Same Hc8 Hc9:=by (rw [← hHc9]; exact Same.new nc9)
     have Ac9:=(congrFun hHc9 pc9).symm;rw [Zc] at Ac9;clear hHc9;have stc9:=(stc8).same Sc9;refine ⟨_,rfl,.inl ⟨rfl,_,SqL.of Ac9⟩,_,rfl,_,rfl,z1_,?_⟩;intro pc10 nc10;generalize hHc10:upd Hc9 pc10 _=Hc10;have Sc10:Same Hc9 Hc10:=by (rw [← hHc10]; exact Same.new nc10)
     have Ac10:=(congrFun hHc10 pc10).symm;rw [Zc] at Ac10;clear hHc10;have stc10:=(stc9).same Sc10;refine ⟨a,pc10,_,_,rfl,rfl,(Sc10 _ _ (Sc9 _ _ (Sc8 _ _ (Sc7 _ _ (Sc6 _ _ (Sc5 _ _ (Sc4 _ _ (Sc3 _ _ (Sc2 _ _ (Sc1 _ _ hc)))))))))),Ac10,by have e:=sizeLine_eq; have:=Yv xs (some (-1)) none; (try simp only [n23_,n47_]); omega,fun pc11 Hc11 Sc11 Ac11=>?_⟩;have stc11:=(stc10).same Sc11;have QL:Hc11 pc9=some (.lst [.ref pc2,.ref pc3,.ref pc4,.ref pc5,.ref pc6,.ref pc8]):=(Sc11 _ _ (Sc10 _ _ Ac9));refine ⟨pc9,_,_,rfl,rfl,QL,by show 6 < sizeLine; decide,?_⟩;generalize hHz:upd Hc11 pc9 _=Hz;have Kz:Keep pc9 Hc11 Hz:=by (rw [← hHz]; exact Keep.upd)
     have Az:Hz pc9=some (.lst ([.ref pc2,.ref pc3,.ref pc4,.ref pc5,.ref pc6,.ref pc8]++[.ref pc11])):=by (rw [← hHz]; exact Zc)
     clear hHz;have Sz:Same Hc8 Hz:=fun b o e=>Kz b o (Zk e nc9) ((Sc9.trans (Sc10.trans Sc11)) b o e);have stz:StAt Hz l:=(stc11).keep Kz (fun z=>stc8.ne nc9 z);have dz:Dts N Hz (k+1) xs ds:=(hsc.same ((Sc1.trans (Sc2.trans (Sc3.trans (Sc4.trans (Sc5.trans (Sc6.trans (Sc7.trans Sc8))))))).trans Sz)).up (by omega);obtain ⟨es1,f1,g1,h1,m1⟩:=Dts.cutM dz (some (-1)) none;obtain ⟨es2,f2,g2,h2,m2⟩:=Dts.cutM dz none (some (-1));obtain ⟨es3,f3,g3,h3,m3⟩:=Dts.cutM dz (some 1) none;have U1:TgO C N Hz (k+1) (n+3) (2 * nz (.tuple ds)+40) (.ref pc2):=⟨_,.tup (Sz _ _ (Sc8 _ _ (Sc7 _ _ (Sc6 _ _ (Sc5 _ _ (Sc4 _ _ (Sc3 _ _ Ac2))))))) (dz.app f1),by show PyData.depthAll _+1≤_; rw [Z9]; omega,by show 1+Zr _≤2 * (1+Zr ds)+40; rw [Yx]; omega,okS O (dz.app f1) fun x hx=>(n29_.mp hx).elim (okds x) fun z=>okds x (m1 x z)⟩;have U2:TgO C N Hz (k+1) (n+3) (2 * nz (.tuple ds)+40) (.ref pc3):=⟨_,.tup (Sz _ _ (Sc8 _ _ (Sc7 _ _ (Sc6 _ _ (Sc5 _ _ (Sc4 _ _ Ac3)))))) f2,by show PyData.depthAll _+1≤_; omega,by show 1+Zr _≤2 * (1+Zr ds)+40; omega,okS O f2 fun x hx=>okds x (m2 x hx)⟩;have U3:TgO C N Hz (k+1) (n+3) (2 * nz (.tuple ds)+40) (.ref pc4):=⟨_,.tup (Sz _ _ (Sc8 _ _ (Sc7 _ _ (Sc6 _ _ (Sc5 _ _ Ac4))))) f3,by show PyData.depthAll _+1≤_; omega,by show 1+Zr _≤2 * (1+Zr ds)+40; omega,okS O f3 fun x hx=>okds x (m3 x hx)⟩;have U4:TgO C N Hz (k+1) (n+3) (2 * nz (.tuple ds)+40) (.ref pc5):=⟨_,.tup (Sz _ _ (Sc8 _ _ (Sc7 _ _ (Sc6 _ _ Ac5)))) dz.rev,by show PyData.depthAll _+1≤_; rw [Zcv]; omega,by show 1+Zr _≤2 * (1+Zr ds)+40; rw [Zhb]; omega,okS O dz.rev fun x hx=>okds x (List.mem_reverse.mp hx)⟩;have U5:TgO C N Hz (k+1) (n+3) (2 * nz (.tuple ds)+40) (.ref pc6):=⟨_,.lst (Sz _ _ (Sc8 _ _ (Sc7 _ _ Ac6))) (((Dom.keepS hD Kc lc).same (Sc1.trans (Sc2.trans (Sc3.trans (Sc4.trans Sc5))))).new nc6) mc6 dz,by show PyData.depthAll _+1≤_; omega,by show 1+Zr _≤2 * (1+Zr ds)+40; omega,okE1 O rfl (by omega)⟩;have U6:TgO C N Hz (k+1) (n+3) (2 * nz (.tuple ds)+40) (.ref pc8):=⟨_,.tup (Sz _ _ Ac8) (dz.app (.cons (dint 0 (by omega) (by decide)) .nil)),by show PyData.depthAll _+1≤_; rw [Z9]; simp only [PyData.depthAll,PyData.depth]; omega,by show 1+Zr _≤2 * (1+Zr ds)+40; rw [Yx]; simp only [Zr,nz]; omega,okS O (dz.app (.cons (dint 0 (by omega) (by decide)) .nil)) fun x hx=>(n29_.mp hx).elim (okds x) fun z=>by (rw [n13_.mp z]; rfl)⟩;have hz':Hz a=some (.tup xs):=Sz _ _ (Sc8 _ _ (Sc7 _ _ (Sc6 _ _ (Sc5 _ _ (Sc4 _ _ (Sc3 _ _ (Sc2 _ _ (Sc1 _ _ hc))))))));have U7:TgO C N Hz (k+1) (n+3) (2 * nz (.tuple ds)+40) (.ref pc11):=⟨_,.tup (Kz _ _ (Zhw Ac11 QL (by intro z; cases z)) Ac11) (dz.app (.cons (.tup hz' dz) .nil)),by show PyData.depthAll _+1≤_; rw [Z9]; simp only [PyData.depthAll,PyData.depth]; omega,by show 1+Zr _≤2 * (1+Zr ds)+40; rw [Yx]; simp only [Zr,nz]; omega,okS O (dz.app (.cons (.tup hz' dz) .nil)) fun x hx=>(n29_.mp hx).elim (okds x) fun z=>by (rw [n13_.mp z]; exact hok)⟩
     obtain ⟨w,hw,mw⟩:=Zfw (xs:=[.ref pc2,.ref pc3,.ref pc4,.ref pc5,.ref pc6,.ref pc8]++[.ref pc11]) r0 (by exact n41_ hlt);have TU:=TgOs.app (TgOs.cons U1 (TgOs.cons U2 (TgOs.cons U3 (TgOs.cons U4 (TgOs.cons U5 (TgOs.cons U6 TgOs.nil)))))) (TgOs.cons U7 TgOs.nil);refine ⟨_,rfl,_,rfl,pc9,_,r,w,rfl,rfl,SqL.of Az,hw,q _ _ ?_ stz (TU w mw)⟩;exact fun b o nb e=>Sz b o ((Sc1.trans (Sc2.trans (Sc3.trans (Sc4.trans (Sc5.trans (Sc6.trans (Sc7.trans Sc8))))))) b o (Kc b o nb e))
   · refine ⟨_,rfl,N,k,_,_,rfl,.tup hc hsc,_,rfl,iteF (iteF ?_)⟩;exact ⟨_,rfl,C,l,N,rfl,O,lc,hN,Dom.keepS hD Kc lc,fun Hy vy ky ly ty=>q _ _ (Kc.trans ky) ly (ty.up (by omega) (by omega) (by omega))⟩
 rw [n17_ hx];refine iteT ?_;refine ⟨_,rfl,l,5,rfl,st1,by decide,Y1 (by decide),fun r5 H2 r50 r51 k2 l2=>?_⟩;have K2:Keep l H H2:=S1.keep.trans k2;have h2:H2 a=some (.tup xs):=K2 _ _ (hl.neT ha) ha;refine ⟨_,_,rfl,rfl,_,rfl,?_⟩;refine ite2 (fun _=>?_) (fun _=>?_)
 case refine_2 =>
  refine ⟨_,rfl,l,9,rfl,l2,by decide,Y1 (by decide),fun r Hc r0 r1 kc lc=>?_⟩;have hc:=kc _ _ (fun z=>by subst z; exact absurd (((l2).neT h2) rfl) id) h2;have Kc:Keep l H Hc:=(K2).trans kc;have hsc:Dts N Hc k xs ds:=Dts.keepS hN hl hs Kc;refine ⟨_,rfl,_,_,_,_,rfl,TyOf.tup hc,rfl,true,rfl,iteT ?_⟩;refine ⟨_,rfl,_,_,rfl,rfl,_,rfl,?_⟩;refine ite2 (fun hlt=>?_) (fun _=>?_)
  · refine ⟨_,rfl,_,rfl,_,rfl,_,rfl,a,xs,rfl,hc,fun pc1 Hc1 Sc1 Ac1=>?_⟩;have stc1:=(lc).same Sc1;refine ⟨a,pc1,_,_,rfl,rfl,(Sc1 _ _ hc),Ac1,by have e:=sizeLine_eq; have:=Yv xs (some (-1)) none; (try simp only [n23_,n47_]); omega,fun pc2 Hc2 Sc2 Ac2=>?_⟩;have stc2:=(stc1).same Sc2;refine ⟨_,rfl,_,rfl,_,rfl,a,xs,rfl,(Sc2 _ _ (Sc1 _ _ hc)),fun pc3 Hc3 Sc3 Ac3=>?_⟩;have stc3:=(stc2).same Sc3;refine ⟨_,rfl,_,rfl,a,xs,rfl,(Sc3 _ _ (Sc2 _ _ (Sc1 _ _ hc))),fun pc4 Hc4 Sc4 Ac4=>?_⟩;have stc4:=(stc3).same Sc4;refine ⟨_,rfl,a,xs,rfl,SqT.of (Sc4 _ _ (Sc3 _ _ (Sc2 _ _ (Sc1 _ _ hc)))),?_⟩;intro pc5 nc5;generalize hHc5:upd Hc4 pc5 _=Hc5;have Sc5:Same Hc4 Hc5:=by (rw [← hHc5]; exact Same.new nc5)
    have Ac5:=(congrFun hHc5 pc5).symm;rw [Zc] at Ac5;clear hHc5;have stc5:=(stc4).same Sc5;refine ⟨_,rfl,a,xs,rfl,.inr (SqT.of (Sc5 _ _ (Sc4 _ _ (Sc3 _ _ (Sc2 _ _ (Sc1 _ _ hc)))))),?_⟩;intro pc6 nc6 mc6;generalize hHc6:upd Hc5 pc6 _=Hc6;have Sc6:Same Hc5 Hc6:=by (rw [← hHc6]; exact Same.new nc6)
    have Ac6:=(congrFun hHc6 pc6).symm;rw [Zc] at Ac6;clear hHc6;have stc6:=(stc5).same Sc6;refine ⟨_,rfl,z1_,?_⟩;intro pc7 nc7;generalize hHc7:upd Hc6 pc7 _=Hc7;have Sc7:Same Hc6 Hc7:=by (rw [← hHc7]; exact Same.new nc7)
    have Ac7:=(congrFun hHc7 pc7).symm;rw [Zc] at Ac7;clear hHc7;have stc7:=(stc6).same Sc7;refine ⟨a,pc7,_,_,rfl,rfl,(Sc7 _ _ (Sc6 _ _ (Sc5 _ _ (Sc4 _ _ (Sc3 _ _ (Sc2 _ _ (Sc1 _ _ hc))))))),Ac7,by have e:=sizeLine_eq; have:=Yv xs (some (-1)) none; (try simp only [n23_,n47_]); omega,fun pc8 Hc8 Sc8 Ac8=>?_⟩;have stc8:=(stc7).same Sc8;refine ⟨by show 6≤sizeLine; decide,?_⟩;intro pc9 nc9;generalize hHc9:upd Hc8 pc9 _=Hc9;have Sc9:Same Hc8 Hc9:=by (rw [← hHc9]; exact Same.new nc9)
    have Ac9:=(congrFun hHc9 pc9).symm;rw [Zc] at Ac9;clear hHc9;have stc9:=(stc8).same Sc9;refine ⟨_,rfl,.inl ⟨rfl,_,SqL.of Ac9⟩,_,rfl,_,rfl,z1_,?_⟩;intro pc10 nc10;generalize hHc10:upd Hc9 pc10 _=Hc10;have Sc10:Same Hc9 Hc10:=by (rw [← hHc10]; exact Same.new nc10)
    have Ac10:=(congrFun hHc10 pc10).symm;rw [Zc] at Ac10;clear hHc10;have stc10:=(stc9).same Sc10;refine ⟨a,pc10,_,_,rfl,rfl,(Sc10 _ _ (Sc9 _ _ (Sc8 _ _ (Sc7 _ _ (Sc6 _ _ (Sc5 _ _ (Sc4 _ _ (Sc3 _ _ (Sc2 _ _ (Sc1 _ _ hc)))))))))),Ac10,by have e:=sizeLine_eq; have:=Yv xs (some (-1)) none; (try simp only [n23_,n47_]); omega,fun pc11 Hc11 Sc11 Ac11=>?_⟩;have stc11:=(stc10).same Sc11;have QL:Hc11 pc9=some (.lst [.ref pc2,.ref pc3,.ref pc4,.ref pc5,.ref pc6,.ref pc8]):=(Sc11 _ _ (Sc10 _ _ Ac9));refine ⟨pc9,_,_,rfl,rfl,QL,by show 6 < sizeLine; decide,?_⟩;generalize hHz:upd Hc11 pc9 _=Hz;have Kz:Keep pc9 Hc11 Hz:=by (rw [← hHz]; exact Keep.upd)
    have Az:Hz pc9=some (.lst ([.ref pc2,.ref pc3,.ref pc4,.ref pc5,.ref pc6,.ref pc8]++[.ref pc11])):=by (rw [← hHz]; exact Zc)
    clear hHz;have Sz:Same Hc8 Hz:=fun b o e=>Kz b o (Zk e nc9) ((Sc9.trans (Sc10.trans Sc11)) b o e);have stz:StAt Hz l:=(stc11).keep Kz (fun z=>stc8.ne nc9 z);have dz:Dts N Hz (k+1) xs ds:=(hsc.same ((Sc1.trans (Sc2.trans (Sc3.trans (Sc4.trans (Sc5.trans (Sc6.trans (Sc7.trans Sc8))))))).trans Sz)).up (by omega);obtain ⟨es1,f1,g1,h1,m1⟩:=Dts.cutM dz (some (-1)) none;obtain ⟨es2,f2,g2,h2,m2⟩:=Dts.cutM dz none (some (-1));obtain ⟨es3,f3,g3,h3,m3⟩:=Dts.cutM dz (some 1) none;have U1:TgO C N Hz (k+1) (n+3) (2 * nz (.tuple ds)+40) (.ref pc2):=⟨_,.tup (Sz _ _ (Sc8 _ _ (Sc7 _ _ (Sc6 _ _ (Sc5 _ _ (Sc4 _ _ (Sc3 _ _ Ac2))))))) (dz.app f1),by show PyData.depthAll _+1≤_; rw [Z9]; omega,by show 1+Zr _≤2 * (1+Zr ds)+40; rw [Yx]; omega,okS O (dz.app f1) fun x hx=>(n29_.mp hx).elim (okds x) fun z=>okds x (m1 x z)⟩;have U2:TgO C N Hz (k+1) (n+3) (2 * nz (.tuple ds)+40) (.ref pc3):=⟨_,.tup (Sz _ _ (Sc8 _ _ (Sc7 _ _ (Sc6 _ _ (Sc5 _ _ (Sc4 _ _ Ac3)))))) f2,by show PyData.depthAll _+1≤_; omega,by show 1+Zr _≤2 * (1+Zr ds)+40; omega,okS O f2 fun x hx=>okds x (m2 x hx)⟩;have U3:TgO C N Hz (k+1) (n+3) (2 * nz (.tuple ds)+40) (.ref pc4):=⟨_,.tup (Sz _ _ (Sc8 _ _ (Sc7 _ _ (Sc6 _ _ (Sc5 _ _ Ac4))))) f3,by show PyData.depthAll _+1≤_; omega,by show 1+Zr _≤2 * (1+Zr ds)+40; omega,okS O f3 fun x hx=>okds x (m3 x hx)⟩;have U4:TgO C N Hz (k+1) (n+3) (2 * nz (.tuple ds)+40) (.ref pc5):=⟨_,.tup (Sz _ _ (Sc8 _ _ (Sc7 _ _ (Sc6 _ _ Ac5)))) dz.rev,by show PyData.depthAll _+1≤_; rw [Zcv]; omega,by show 1+Zr _≤2 * (1+Zr ds)+40; rw [Zhb]; omega,okS O dz.rev fun x hx=>okds x (List.mem_reverse.mp hx)⟩;have U5:TgO C N Hz (k+1) (n+3) (2 * nz (.tuple ds)+40) (.ref pc6):=⟨_,.lst (Sz _ _ (Sc8 _ _ (Sc7 _ _ Ac6))) (((Dom.keepS hD Kc lc).same (Sc1.trans (Sc2.trans (Sc3.trans (Sc4.trans Sc5))))).new nc6) mc6 dz,by show PyData.depthAll _+1≤_; omega,by show 1+Zr _≤2 * (1+Zr ds)+40; omega,okE1 O rfl (by omega)⟩;have U6:TgO C N Hz (k+1) (n+3) (2 * nz (.tuple ds)+40) (.ref pc8):=⟨_,.tup (Sz _ _ Ac8) (dz.app (.cons (dint 0 (by omega) (by decide)) .nil)),by show PyData.depthAll _+1≤_; rw [Z9]; simp only [PyData.depthAll,PyData.depth]; omega,by show 1+Zr _≤2 * (1+Zr ds)+40; rw [Yx]; simp only [Zr,nz]; omega,okS O (dz.app (.cons (dint 0 (by omega) (by decide)) .nil)) fun x hx=>(n29_.mp hx).elim (okds x) fun z=>by (rw [n13_.mp z]; rfl)⟩;have hz':Hz a=some (.tup xs):=Sz _ _ (Sc8 _ _ (Sc7 _ _ (Sc6 _ _ (Sc5 _ _ (Sc4 _ _ (Sc3 _ _ (Sc2 _ _ (Sc1 _ _ hc))))))));have U7:TgO C N Hz (k+1) (n+3) (2 * nz (.tuple ds)+40) (.ref pc11):=⟨_,.tup (Kz _ _ (Zhw Ac11 QL (by intro z; cases z)) Ac11) (dz.app (.cons (.tup hz' dz) .nil)),by show PyData.depthAll _+1≤_; rw [Z9]; simp only [PyData.depthAll,PyData.depth]; omega,by show 1+Zr _≤2 * (1+Zr ds)+40; rw [Yx]; simp only [Zr,nz]; omega,okS O (dz.app (.cons (.tup hz' dz) .nil)) fun x hx=>(n29_.mp hx).elim (okds x) fun z=>by (rw [n13_.mp z]; exact hok)⟩
    obtain ⟨w,hw,mw⟩:=Zfw (xs:=[.ref pc2,.ref pc3,.ref pc4,.ref pc5,.ref pc6,.ref pc8]++[.ref pc11]) r0 (by exact n41_ hlt);have TU:=TgOs.app (TgOs.cons U1 (TgOs.cons U2 (TgOs.cons U3 (TgOs.cons U4 (TgOs.cons U5 (TgOs.cons U6 TgOs.nil)))))) (TgOs.cons U7 TgOs.nil);refine ⟨_,rfl,_,rfl,pc9,_,r,w,rfl,rfl,SqL.of Az,hw,q _ _ ?_ stz (TU w mw)⟩;exact fun b o nb e=>Sz b o ((Sc1.trans (Sc2.trans (Sc3.trans (Sc4.trans (Sc5.trans (Sc6.trans (Sc7.trans Sc8))))))) b o (Kc b o nb e))
  · refine ⟨_,rfl,N,k,_,_,rfl,.tup hc hsc,_,rfl,iteF (iteF ?_)⟩;exact ⟨_,rfl,C,l,N,rfl,O,lc,hN,Dom.keepS hD Kc lc,fun Hy vy ky ly ty=>q _ _ (Kc.trans ky) ly (ty.up (by omega) (by omega) (by omega))⟩
 have hpos:0 < xs.length:=by rcases xs with _ | ⟨x,xs⟩; exact absurd rfl hx; simp
 refine ⟨_,rfl,_,rfl,a,xs,rfl,.inr (SqT.of h2),l,xs.length,rfl,l2,by omega,Y1 (by rw [p64]; omega),fun r H3 r0 r1 k3 l3=>?_⟩;obtain ⟨rn,rfl⟩:=n75_ r0;have hrn:rn < xs.length:=by omega
 have K3:Keep l H H3:=K2.trans k3;have h3:H3 a=some (.tup xs):=K3 _ _ (hl.neT ha) ha;refine ⟨_,rfl,_,rfl,_,rfl,a,xs,rfl,h3,fun p4 H4 S4 A4=>?_⟩;rw [Zjs] at A4;have K4:Keep l H H4:=K3.trans S4.keep;obtain ⟨dx,edx,hdx⟩:=hs.get (n0_ hrn);obtain ⟨gn,gd⟩:=Zd0 edx;refine ⟨_,rfl,_,rfl,_,rfl,a,xs,rn,xs[rn],rfl,rfl,SqT.of (S4 _ _ h3),Yu (n0_ hrn),C,l,N,k,xs[rn],dx,rfl,O,l3.same S4,hN,Dom.keepS hD K4 (l3.same S4),Dt.keepS hN hl hdx K4,hk,by omega,by omega,okds dx (n1_ edx),fun H5 v5 k5 l5 t5=>?_⟩;obtain ⟨d5,b5,c5,e5,x5,x51,x52,x5k⟩:=t5;have st4:StAt H4 l:=l3.same S4;have a4:=k5 _ _ (st4.neT A4) A4;have K5:Keep l H H5:=K4.trans k5;refine ⟨z1_,?_⟩;intro p6 n6;generalize hH6:upd H5 p6 _=H6;have S6:Same H5 H6:=by (rw [← hH6]; exact Same.new n6)
 have A6:=(congrFun hH6 p6).symm;rw [Zc] at A6;clear hH6;refine ⟨p4,p6,_,_,rfl,rfl,S6 _ _ a4,A6,by have e:=sizeLine_eq; simp only [n26_,n79_,n72_,n23_,n47_]; omega,fun p7 H7 S7 A7=>?_⟩;have K7:Keep l H H7:=K5.trans (S6.trans S7).keep;have h7:H7 a=some (.tup xs):=K7 _ _ (hl.neT ha) ha;refine ⟨_,rfl,_,rfl,_,_,rfl,rfl,_,rfl,a,xs,rfl,h7,fun p8 H8 S8 A8=>?_⟩;rw [show ((rn:Int)+1)=((rn+1:Nat):Int) from rfl,Ze5] at A8;refine ⟨p7,p8,_,_,rfl,rfl,S8 _ _ A7,A8,by have e:=sizeLine_eq; simp only [n26_,n79_,n72_,n23_,n47_]; omega,fun p9 H9 S9 A9=>?_⟩;have K9:Keep l H H9:=K7.trans (S8.trans S9).keep;have s9:Same H5 H9:=S6.trans (S7.trans (S8.trans S9));have d9:Dts N H9 (k+1) xs ds:=(Dts.keepS hN hl hs K9).up (by omega);refine q _ _ K9 (l5.same s9) ⟨.tuple ((ds.take rn++[d5])++ds.drop (rn+1)),.tup A9 (((d9.take rn).app (.cons (b5.same s9) .nil)).app (d9.drop (rn+1))),?_,?_,?_⟩
 · show PyData.depthAll _+1≤_
   rw [Z9,Z9];have z1:=Zbw rn ds;have z2:=Zbz (rn+1) ds;simp only [PyData.depthAll];omega
 · show 1+Zr _≤2 * (1+Zr ds)+40
   rw [Yx,Yx];simp only [Zr];omega
 · refine okT O (((d9.take rn).app (.cons (b5.same s9) .nil)).app (d9.drop (rn+1))) x51 x52 fun x hx=>?_;have m60:∀ x∈ds,okB (C.c * x5) (2 ^ (C.n+(k+1))) x=true:=fun x hx=>Za8 (by rw [n49_]; exact n53_ _ (n76_ x52)) (okds x hx)
   rcases n29_.mp hx with hx | hx
   · rcases n29_.mp hx with hx | hx
     · exact m60 x (n54_ hx)
     · rw [n13_.mp hx]; exact x5k
   · exact m60 x (n89_ hx)
theorem Zfq (F:Fun K "_law_bent" "_law_bent" Xh f fd):FnOk P w K mg base CX0 2 f fd ["_law_state_here","_law_thing"] (Zfk 0):=by
 have sc:FnScope ["_law_state_here","_law_thing","_law_at","_law_way","_law_more"] ["_law_state_here","_law_thing"] (Ze Xh):=fsc (by decide +kernel);exact F.ok sc (fun _ _ _ _ h=>h.elim) fun _ _ _ _ _ _ _ _ _ h=>h.elim
abbrev Zct:Stmt:=top 24
theorem Zfi (F:Fun K "places_of" "places_of" Zct f fd):FnOk P w K mg base CX0 1 f fd ["rows"] Zeu:=by
 have sc:FnScope ["rows"] ["rows"] (Ze Zct):=fsc (by decide +kernel);refine F.ok sc (fun vs H Q E h=>by obtain ⟨N,k,a,us,ds,rfl,_⟩:=h;rfl) fun cdv A outer s H vs Q E hr h=>?_;obtain ⟨N,k,a,us,ds,rfl,ha,hs,ht,q⟩:=h;refine' ⟨_,?term,?read⟩
 case term=>refine' @Zg _ _ _ ?g1;case g1=>refine' @Zm _ _ _ _ ?g2;case g2=>refine' @Zal _ _ _ _ _ _ _ _ ?g3 ?g4 Zf;(case g3=>refine' @Z5 _ _ _ (pv 0) (fun _=>rfl));case g4=>refine' @Zj _ _ _ _ _ _ _ _ _ Zp rfl T.b_len Xa ?g5 (by decide) (by decide) (by rfl) (by rfl);case g5=>refine' @Za _ _ _ _ _ ?g6 Zb rfl;case g6=>refine' @Zz _ _ _ _ _ _ _ (Zks K rfl) (pv 0) Zf (fun _ _=>rfl)
 refine ⟨_,rfl,_,.inr (.inl ⟨us,SqT.of ha,rfl⟩),?_⟩;cases hs with
 | nil=>exact iteF q
 | cons h hs =>
   rename_i r us' ds' dx
   rcases h.isT with ⟨p,xs,es,rfl,rfl,hp,he⟩ | e
   · refine iteT ⟨_,rfl,a,_,0,_,.t,rfl,rfl,SqT.of ha,Yu rfl,p,_,rfl,.inr (SqT.of hp),?_⟩;rw [he.len];exact q
   · have:=n48_.mp ht _ n7_
     rw [e] at this; cases this
abbrev Zbd:Stmt:=top 25
theorem Zhx (F:Fun K "are_rows" "are_rows" Zbd f fd) (Cb_:a24_ P w K mg base) (Cai_:a25_ P w K mg base):FnOk P w K mg base CX0 5 f fd ["thing"] Zgc:=by
 have sc:FnScope ["thing","places"] ["thing"] (Ze Zbd):=fsc (by decide +kernel);refine F.ok sc (fun vs H Q E h=>by obtain ⟨N,k,v,d,rfl,_⟩:=h;rfl) fun cdv A outer s H vs Q E hr h=>?_;obtain ⟨N,k,v,d,rfl,h,hk,hz,q⟩:=h;have nd:=sc.nd;refine' ⟨_,?term,?read⟩
 case term=>refine' @Zd _ _ _ _ _ ?g1 ?g2;(case g1=>refine' @Y7 _ _ _ _ _ _ _ _ ?g3 (Zg (Zm Zau)) Z3;case g3=>refine' @PW.pt _ _ _ ?g4;case g4=>refine' @Zhh _ _ _ _ _ _ _ ?g5 ?g6;(case g5=>refine' @X4 _ _ _ _ ?g7;case g7=>refine' @Z5 _ _ _ (Zj Y4 rfl T.b_isinstance Z0 (Za (pv 0) (Za (Xk (v:=.ty "tuple") rfl T.b_tuple Yk rfl) Zb rfl) rfl)) (fun _=>rfl));case g6=>refine' @Zeo _ _ _ _ (Zt Ze6 (Zj Zp rfl T.b_len Xa (Za (pv 0) Zb rfl)) (Zlo T.n_MOST_ROWS rfl) (Zy _)));case g2=>refine' @Zd _ _ _ _ _ ?g8 ?g9;(case g8=>refine' @Y7 _ _ _ _ _ _ _ _ ?ga (Zg (Zm Zau)) Z3;case ga=>refine' @X4 _ _ _ _ ?gb;case gb=>refine' @Z5 _ _ _ ?gc (fun _=>rfl);case gc=>refine' @Zj _ _ _ _ _ _ _ _ _ (Xs rfl) rfl T.b_all Zd1 ?gd (by decide) (by decide) (by rfl) (by rfl);case gd=>refine' @Za _ _ _ _ _ ?ge Zb rfl;case ge=>refine' @Y0 _ _ _ _ _ _ _ (["row"]) ([none]) _ _ _ _ _ rfl (Z2 (by decide) rfl (by decide) rfl rfl) (Zeb (pv 0)) (fun _ _ _ _=>pgB 0) (fun _ _ _ _=>Zl) (fun _ _ _ _=>Zj (Zma K rfl) rfl T.b_isinstance Z0 (Za (pv 0) (Za (Xk (v:=.ty "tuple") rfl T.b_tuple Yk rfl) Zb rfl) rfl)) (by intro _ ; rfl));case g9=>refine' @Zd _ _ _ _ _ ?gf ?gg;(case gf=>refine' @Zs _ _ (1) _ _ _ _ nd rfl (Or.inr rfl) (Zi Cai_ hr (by decide) rfl (Za (pv 0) Zb rfl)) (by rfl) (by first | exact Or.inl rfl | exact Or.inr rfl | assumption));case gg=>refine' @Zg _ _ _ ?gh;case gh=>refine' @Zm _ _ _ _ ?gi;case gi=>refine' @Zj _ _ _ _ _ _ _ _ _ (Xs rfl) rfl T.b_all Zd1 ?gj (by decide) (by decide) (by rfl) (by rfl);case gj=>refine' @Za _ _ _ _ _ ?gk Zb rfl;case gk=>refine' @Y0 _ _ _ _ _ _ _ (["row","places"]) ([none,some 1]) _ _ _ _ _ rfl (Z6 (XN:=["thing","places"]) (Scope.names (Ze Zbd)) rfl rfl rfl (fun _ h=>Zw h) (by decide +kernel) rfl) (Zeb (pv 0)) (fun _ _ _ _=>pgB 0) (fun _ _ _ _=>Zl) (fun _ _ _ _=>Zi Cb_ hr (by decide) rfl (Za (pv 0) (Za (pv 1) Zb rfl) rfl)) (by intro _ ; rfl)
 rcases h.isT with ⟨a,us,ds,rfl,rfl,ha,hs⟩ | e
 case inr =>
  obtain ⟨t,ty,ki⟩:=h.ty (K:=K);refine ⟨_,rfl,_,_,t,_,rfl,ty,ki,_,rfl,?_⟩;rw [e]; rw [Zni e] at q;exact iteT (iteT (q _ (Same.refl H)))
 refine ⟨_,rfl,_,_,_,_,rfl,TyOf.tup ha,rfl,true,rfl,iteF ?_⟩;have hl:=hs.len;have hz1:1+Zr ds≤1000:=hz;have h1000:us.length≤1000:=by have:=Zgd ds; omega
 refine ⟨_,rfl,a,us,rfl,.inr (SqT.of ha),_,_,rfl,rfl,_,rfl,?_⟩;have qe:∀ H',Same H H'→Q (.bl (decide (ds.length≤60) && ds.all isT && ds.all (Xe (wd1 ds)))) H':=q;refine ite2 (fun h60=>?_) (fun h60=>?_)
 · have z:¬ ds.length≤60:=by have:(60:Int) < us.length:=n41_ h60; omega
   rw [n17_ z] at qe;exact qe _ (Same.refl H)
 have z:ds.length≤60:=by have:¬ (60:Int) < us.length:=fun z=>h60 (n14_ z); omega
 rw [n14_ z,n87_] at qe;refine ⟨_,rfl,a,rfl,⟨_,SqT.of ha⟩,fun D nD=>?_⟩;refine lc_T (k:=.t) (vs:=us) RB hRB (ds.map isT) (by simp [hl]) h1000 nD ha (fun i w H2 C hw s2 c=>?_) (fun H2 us' s2 e2 a2=>?_)
 · obtain ⟨dx,ed,hdx⟩:=hs.get hw;obtain ⟨t,ty,ki⟩:=(hdx.same s2).ty (K:=K);exact ⟨_,rfl,_,_,t,_,rfl,ty,ki,c _ _ (isT dx) (Same.refl _) (by rw [n5_,ed]; rfl) rfl⟩
 rw [a2.bls] at e2;refine ⟨D,ds.map isT,rfl,SqL.of e2,_,rfl,?_⟩;have z2:(ds.map isT).all id=ds.all isT:=by rw [List.all_map]; rfl
 rw [z2];cases hT:ds.all isT with
 | false =>
   rw [hT,n85_] at qe;exact iteT (qe _ s2)
 | true =>
   rw [hT,n87_] at qe;refine iteF ?_;refine ⟨_,rfl,N,k,a,us,ds,rfl,s2 _ _ ha,hs.same s2,hT,?_⟩;refine ⟨_,rfl,a,rfl,⟨_,SqT.of (s2 _ _ ha)⟩,fun E nE=>?_⟩;refine lc_T (k:=.t) (vs:=us) RB hRB (ds.map (Xe (wd1 ds))) (by simp [hl]) h1000 nE (show SK.t.At H2 a us from s2 _ _ ha) (fun i w H3 C hw s3 c=>?_) (fun H3 us3 s3 e3 a3=>?_)
   · obtain ⟨dx,ed,hdx⟩:=hs.get hw;have zx:=Zob ed;exact ⟨_,rfl,_,rfl,N,k,w,dx,wd1 ds,rfl,hdx.same (s2.trans s3),hk,n19_ zx hz,fun H5 s5=>c _ _ (Xe (wd1 ds) dx) s5 (by rw [n5_,ed]; rfl) rfl⟩
   · rw [a3.bls] at e3;refine ⟨E,_,rfl,SqL.of e3,?_⟩;have z3:(ds.map (Xe (wd1 ds))).all id=ds.all (Xe (wd1 ds)):=by rw [List.all_map]; rfl
     rw [z3];exact qe _ (s2.trans s3)
abbrev X7:Stmt:=top 26
theorem Zc9 (F:Fun K "look_at_rows" "look_at_rows" X7 f fd) (Cb_:a24_ P w K mg base) (Cao_:a26_ P w K mg base):FnOk P w K mg base CX0 6 f fd ["rows","rights"] Zja:=by
 have sc:FnScope ["rows","rights"] ["rows","rights"] (Ze X7):=fsc (by decide +kernel);refine F.ok sc (fun vs H Q E h=>by obtain ⟨v,u,ms,qs,rfl,_⟩:=h;rfl) fun cdv A outer s H vs Q E hr h=>?_;obtain ⟨v,u,ms,qs,rfl,h1,h2,R,q⟩:=h;refine' ⟨_,?term,?read⟩
 case term=>refine' @Zd _ _ _ _ _ ?g1 ?g2;(case g1=>refine' @Y7 _ _ _ _ _ _ _ _ ?g3 Zdx Z3;case g3=>refine' @X4 _ _ _ _ ?g4;case g4=>refine' @Z5 _ _ _ (Zi Cao_ hr (by decide) rfl (Za (pv 0) Zb rfl)) (fun _=>rfl));case g2=>refine' @Zg _ _ _ ?g5;case g5=>refine' @Y7 _ _ _ _ _ _ _ _ ?g6 Zdx Z3;case g6=>refine' @X4 _ _ _ _ ?g7;case g7=>refine' @Z5 _ _ _ (Zi Cb_ hr (by decide) rfl (Za (pv 1) (Za (Zj Zp rfl T.b_len Xa (Za (pv 0) Zb rfl)) Zb rfl) rfl)) (fun _=>rfl)
 have g':(Zkc (Zat ms) && Xe (Zdw (Zat ms)) (rowD qs))=true:=Zqk R;rw [n40_] at g';have D1:Dt (fun _=>False) H 105 v (Zat ms):=Zii h1 R.b.1;have D2:Dt (fun _=>False) H 105 u (rowD qs):=Zcc h2 R.b.2;obtain ⟨n1,n2⟩:=R.nz;obtain ⟨a,us,rfl,ha,al⟩:=h1;have lu:=al.1;refine ⟨_,rfl,_,105,_,_,rfl,D1,by decide,by omega,fun H1 s1=>⟨_,rfl,?_⟩⟩;rw [g'.1];refine iteF ?_;refine ⟨_,rfl,_,rfl,a,us,rfl,.inr (SqT.of (s1 _ _ ha)),_,105,u,rowD qs,Zdw (Zat ms),by rw [show us.length=Zdw (Zat ms) by show us.length=(ms.map rowD).length; rw [n2_]; exact lu],D2.same s1,by decide,by omega,fun H2 s2=>⟨_,rfl,?_⟩⟩;rw [g'.2];exact iteF (q _ (s1.trans s2))
abbrev Zc2:Stmt:=top 43
theorem Zlz (F:Fun K "solved" "solved" Zc2 f fd) {Ph:Addr} (Cg_:a27_ P w K mg base) (Cav_:Cal P w K mg base "mix_of" 9 ["rows","rights","taken"] (Zfp K Ph)) (Ce_:a14_ P w K mg base) (Cv_:Cal P w K mg base "settled" 8 ["rows","rights"] (Zba K Ph)):FnOk P w K mg base CX0 10 f fd ["rows","rights"] (Zds Ph):=by
 have sc:FnScope ["rows","rights","taken","solution","frees"] ["rows","rights"] (Ze Zc2):=fsc (by decide +kernel);refine F.ok sc (fun vs H Q E h=>by obtain ⟨v,u,ms,qs,rfl,_⟩:=h;rfl) fun cdv A outer s H vs Q E hr h=>?_;obtain ⟨v,u,ms,qs,rfl,h1,h2,R,tb,q⟩:=h;have nd:=sc.nd;refine' ⟨_,?term,?read⟩
 case term=>refine' @Zd _ _ _ _ _ ?g1 ?g2;(case g1=>refine' @Xu _ _ _ _ (Zi Cg_ hr (by decide) rfl (Za (pv 0) (Za (pv 1) Zb rfl) rfl)) (by rfl));case g2=>refine' @Zd _ _ _ _ _ ?g3 ?g4;(case g3=>refine' @Zac _ _ _ _ _ _ (Zi Cv_ hr (by decide) rfl (Za (pv 0) (Za (pv 1) Zb rfl) rfl)) ?g5 (by rfl) (by rfl) (by rfl);case g5=>refine' @Yb _ _ _ _ _ (2) rfl (Zh (Zn (i:=2) nd rfl (Or.inr rfl)) (Zh (Zn (i:=3) nd rfl (Or.inl rfl)) Zx)) (by rfl) (by rfl));case g4=>refine' @Zd _ _ _ _ _ ?g6 ?g7;(case g6=>refine' @Y7 _ _ _ _ _ _ _ _ (Zt Zpt (pv 3) Zhe (Zy _)) (Zg (Zm (Zv (Za Zji (Za (Zi Cav_ hr (by decide) rfl (Za (pv 0) (Za (pv 1) (Za (pv 2) Zb rfl) rfl) rfl)) Zb rfl) rfl)))) Z3);case g7=>refine' @Zd _ _ _ _ _ ?g8 (Zg (Zm (Zv (Za Zji (Za (pv 3) (Za (Yn Ye rfl T.b_tuple Yk (Za (pv 4) Zb rfl)) Zb rfl) rfl) rfl))));case g8=>refine' @Xp _ _ _ _ _ _ _ _ _ _ (["place","taken"]) ([none,some 2]) _ _ _ _ _ _ rfl rfl (Zn (i:=4) nd rfl (Or.inl rfl)) (Z6 (XN:=["rows","rights","taken","solution","frees"]) (Scope.names (Ze Zc2)) rfl rfl rfl (fun _ h=>Zw h) (by decide +kernel) rfl) ?g9 (fun _ _ _ _=>pgB 0) (fun _ _ _ _=>Zb0 (Zt (Ze1 K rfl) (pv 0) (pv 1) rfl)) (fun _ _ _ _=>pv 0) (by intro _ ; rfl);case g9=>refine' @Y2 _ _ _ _ _ _ rfl T.b_range (Za (Zi Ce_ hr (by decide) rfl (Za (pv 0) Zb rfl)) Zb rfl) (by rfl)
 refine ⟨_,rfl,_,rfl,v,u,ms,qs,rfl,h1,h2,R,fun H1 s1=>?_⟩;obtain ⟨p,us,rfl,hp,al1⟩:=(h1.tk s1.tk).qs (K:=K);obtain ⟨r,gs,rfl,hr',alg1⟩:=(h2.tk s1.tk).qs (K:=K);have S1:=R.sys;have m6:=R.m6;have w4:=R.w4;have wW:=S1.w;obtain ⟨tl,tlt⟩:=R.tk;refine ⟨_,rfl,_,rfl,p,r,.t,.t,us,gs,ms,qs,105,250,rfl,hp,al1,hr',alg1,S1.se,tb.same s1,fun H2 pp t w' kp tb2 hpp ht sv=>?_⟩
 have np:∀ {G:Hp} {b:Addr} {o:HO},TabF G Ph "head_of.<locals>.<lambda>" → (∀ ps,o≠HO.tbl ps)→G b=some o→b≠Ph:=fun t n e z=>by
  obtain ⟨ps,h,_⟩:=t;rw [z,h] at e; exact n _ (Option.some.inj e).symm
 have k12:∀ b o,(∀ ps,o≠HO.tbl ps)→H1 b=some o→H2 b=some o:=fun b o n e=>kp b o (np (tb.same s1) n e) e;have tk12:Tk H1 H2:=fun b xs e=>k12 b _ (by intro ps z; cases z) e;have al2:=al1.imp fun v x (r:IsQs K H1 v x)=>IsQs.tk tk12 r;have alg2:=alg1.imp fun v x (r:IsQ K H1 v x)=>hRQ _ _ _ _ tk12 r;have hp2:=k12 _ _ (by intro ps z; cases z) hp;have hr2:=k12 _ _ (by intro ps z; cases z) hr';have kp2:X8 Ph H H2:=fun b o n e=>kp b o n (s1 _ _ e);refine ⟨pp,_,rfl,SqT.of hpp,rfl,_,_,rfl,_,_,rfl,rfl,?_⟩;refine ⟨_,rfl,rfl,_,rfl,?_⟩;cases es:slv ms qs with
 | none =>
   rw [es] at sv;obtain rfl:w'=.non:=sv;rw [n14_ rfl];refine iteT ?_;obtain ⟨ys,ey,ly⟩:=R.mix es;refine ⟨_,rfl,_,rfl,_,rfl,p,r,t,.t,us,gs,ms,qs,tkn ms qs,105,250,rfl,hp2,al2,hr2,alg2,ht,by omega,by omega,fun p' hp' r' hr''=>by rw [R.wd r' hr'']; exact tlt p' hp',R.mixS.se,tb2,fun H3 v3 kp3 tb3 sv3=>?_⟩;rw [ey] at sv3;obtain ⟨b,bs,rfl,hb,alb⟩:=id sv3;refine ⟨z2_,fun p4 np4=>?_⟩;have s4:=Same.new (o:=.tup [.str "none",.ref b]) np4;exact q _ p4 b ys (fun b o n e=>s4 _ _ (kp3 b o n (kp2 b o n e))) (tb3.same s4) ⟨IsRh.tk s4.tk sv3,R.mixSmall ey,by omega,.inr Zc⟩
 | some xs =>
   rw [es] at sv;obtain ⟨b,bs,rfl,hb,alb⟩:=id sv;have lx:=Zpd es;rw [n17_ (by intro z; cases z)];refine iteF ?_;refine ⟨_,rfl,p,.t,us,ms,rfl,hp2,al2,?_⟩;refine ⟨_,rfl,by omega,by omega,fun D nD=>?_⟩
   have hfl:((tkn ms qs).map fun n:Nat=>V.int n).all Zfl=true:=n48_.mpr fun x hx=>by
    obtain ⟨n,_,rfl⟩:=n22_.mp hx;rfl
   refine Zad (n:=wid ms) (fun _ v (x:Int)=>v=V.int x) (fun _ _ _ _ _ _ e=>e) (fun i=>if (!inV (.int (0+(i:Int))) ((tkn ms qs).map fun n:Nat=>V.int n))=true then some (0+(i:Int)) else none) (by omega) (fun σ=>∃ x,σ=[x,some (.ref t)]) ⟨_,rfl⟩ nD (fun i H3 s hi=>hi) (fun H3 s=>n9_ _) (fun i x σ2 H3 H4 C N' hi s3 eD y ok c' n'=>?_) (fun H3 us3 s3 e3 a3=>?_)
   · obtain ⟨a1,rfl⟩:=ok;obtain ⟨rfl,rfl⟩:=y;unfold Z1;refine ⟨_,rfl,_,rfl,t,_,rfl,.inl (SqL.of (s3 _ _ ht)),rfl,hfl,_,rfl,?_⟩;show if (!inV (.int (0+(i:Int))) ((tkn ms qs).map fun n:Nat=>V.int n))=true then _ else _
     by_cases hz:(!inV (.int (0+(i:Int))) ((tkn ms qs).map fun n:Nat=>V.int n))=true
     · rw [if_pos hz];exact ⟨_,rfl,c' _ _ _ _ ⟨_,rfl⟩ (Same.refl _) (if_pos hz) rfl⟩
     · rw [if_neg hz];exact n' _ _ ⟨_,rfl⟩ (Same.refl _) (if_neg hz)
   · generalize hF:(List.range (wid ms)).filterMap (fun i:Nat=>if (!inV (.int (0+(i:Int))) ((tkn ms qs).map fun n:Nat=>V.int n))=true then some (0+(i:Int)) else none)=F at a3;have u3:us3=F.map V.int:=Al.ints (ns:=F) a3;have lF:F.length≤4:=by rw [← hF]; exact n19_ (List.length_filterMap_le ..) (by rw [List.length_range]; exact w4)
     have bF:∀ i∈F,0≤i∧i < 4:=fun i hi=>by
      rw [← hF] at hi;obtain ⟨j,hj,e⟩:=List.mem_filterMap.mp hi
      have:=List.mem_range.mp hj
      split at e
      · cases e; omega
      · cases e
     subst u3;refine ⟨_,rfl,_,rfl,D,_,rfl,.inl ⟨SqL.of e3,fun p4 np4=>?_⟩⟩;have s4:=Same.new (o:=.tup (F.map V.int)) np4;have a4:upd H3 p4 (.tup (F.map V.int)) p4=some (.tup (F.map V.int)):=Zc;refine ⟨z3_,fun p5 np5=>?_⟩;have s5:=Same.new (o:=.tup [.str "solved",.ref b,.ref p4]) np5;have s35:=s3.trans (s4.trans s5);exact q _ p5 b xs (fun b o n e=>s35 _ _ (kp2 b o n e)) (tb2.same s35) ⟨IsRh.tk s35.tk sv,R.small es,by omega,.inl ⟨p4,F,Zc,s5 _ _ a4,lF,bF⟩⟩
abbrev Xn:Stmt:=top 44
theorem Zea (F:Fun K "is_solution" "is_solution" Xn f fd) (L1:Zg5 K mg "LESS_ONE" (-1) 1) (Cb_:a24_ P w K mg base) (Cf_:a28_ P w K mg base) (Cg_:a27_ P w K mg base) (Ce_:a14_ P w K mg base) (Ck_:a5_ P w K mg base):FnOk P w K mg base CX0 7 f fd ["rows","rights","thing"] (Zix solB):=by
 have sc:FnScope ["rows","rights","thing","weights"] ["rows","rights","thing"] (Ze Xn):=fsc (by decide +kernel);refine F.ok sc (fun vs H Q E h=>by obtain ⟨N,k,v,u,x,ms,qs,d,rfl,_⟩:=h;rfl) fun cdv A outer s H vs Q E hr h=>?_;obtain ⟨N,k,v,u,x,ms,qs,d,rfl,h1,h2,R,h3,hk,hz3,q⟩:=h;have nd:=sc.nd;obtain ⟨m_,hlg,hlk⟩:=L1;refine' ⟨_,?term,?read⟩
 case term=>refine' @Zd _ _ _ _ _ ?g1 ?g2;(case g1=>refine' @Xu _ _ _ _ (Zi Cg_ hr (by decide) rfl (Za (pv 0) (Za (pv 1) Zb rfl) rfl)) (by rfl));case g2=>refine' @Zd _ _ _ _ _ ?g3 ?g4;(case g3=>refine' @Y7 _ _ _ _ _ _ _ _ ?g5 (Zg (Zm Zau)) Z3;case g5=>refine' @X4 _ _ _ _ ?g6;case g6=>refine' @Z5 _ _ _ (Zi Cb_ hr (by decide) rfl (Za (pv 2) (Za (Zi Ce_ hr (by decide) rfl (Za (pv 0) Zb rfl)) Zb rfl) rfl)) (fun _=>rfl));case g4=>refine' @Zd _ _ _ _ _ ?g7 ?g8;(case g7=>refine' @Zs _ _ (3) _ _ _ _ nd rfl (Or.inr rfl) ?g9 (by rfl) (by first | exact Or.inl rfl | exact Or.inr rfl | assumption);case g9=>refine' @Zi _ _ _ _ _ _ _ _ _ _ _ Ck_ hr (by decide) rfl ?ga (by decide) (by rfl) (by rfl);case ga=>refine' @Za _ _ _ _ _ ?gb Zb rfl;case gb=>refine' @Zq _ _ _ _ _ _ _ _ Zaw (pv 2) ?gc;case gc=>refine' @Zv _ _ _ _ _ ?gd;case gd=>refine' @Za _ _ _ _ _ ?ge Zb rfl;case ge=>refine' @Zcm _ _ _ _ _ rfl hlg (show RelV (.ref m_) (Value.ref m_) from rfl) (by decide));case g8=>refine' @Zg _ _ _ ?gf;case gf=>refine' @Zm _ _ _ _ ?gg;case gg=>refine' @Zj _ _ _ _ _ _ _ _ _ (Xs rfl) rfl T.b_all Zd1 ?gh (by decide) (by decide) (by rfl) (by rfl);case gh=>refine' @Za _ _ _ _ _ ?gi Zb rfl;case gi=>refine' @Y0 _ _ _ _ _ _ _ (["row","right","weights"]) ([none,none,some 3]) _ _ ((gTup K 2 (Z7 (Z1 0) (Z7 (Z1 1) gNil)))) _ _ rfl (Z6 (XN:=["rows","rights","thing","weights"]) (Scope.names (Ze Xn)) rfl rfl rfl (fun _ h=>Zw h) (by decide +kernel) rfl) ?gj (fun _ _ _ _=>Yb (n:=2) rfl (Zh (pgB 0) (Zh (pgB 1) Zx))) (fun _ _ _ _=>Zl) (fun _ _ _ _=>Zi Cf_ hr (by decide) rfl (Za (pv 2) (Za (Zq Zaw (pv 0) (Zv (Za (pv 1) Zb rfl))) Zb rfl) rfl)) (by intro _ ; rfl);case gj=>refine' @Zgx _ _ _ _ .t .t _ _ _ _ _ rfl T.b_zip (Za (pv 0) (Za (pv 1) Zb rfl) rfl) (by rfl) (by rfl)
 refine ⟨_,rfl,_,rfl,v,u,ms,qs,rfl,h1,h2,R,fun H1 s1=>?_⟩;obtain ⟨p,us,rfl,hp,al⟩:=h1.qs (K:=K);obtain ⟨r,gs,rfl,hr',alg⟩:=h2.qs (K:=K);have lu:=al.1;have lg:=alg.1;have rl:=R.rl;have m6:=R.m6;have w4:=R.w4;obtain ⟨rb,gb⟩:=R.b;have wd:=R.wd;have al1:=al.imp fun v x (r:IsQs K H v x)=>IsQs.tk s1.tk r;have alg1:=alg.imp fun v x (r:IsQ K H v x)=>hRQ _ _ _ _ s1.tk r;refine ⟨_,rfl,_,rfl,p,.t,us,ms,rfl,s1 _ _ hp,al1,N,k,x,d,wid ms,rfl,h3.same s1,by omega,by omega,fun H2 s2=>⟨_,rfl,?_⟩⟩;have S2:=s1.trans s2;have qe:∀ H',Same H H'→Q (.bl (Xe (wid ms) d && (List.zipWith (fun row r=>decide (rdot row (rowQ d)=r)) ms qs).all id)) H':=q;cases e3:Xe (wid ms) d with
 | false=>rw [e3,n85_] at qe; exact iteT (qe _ S2)
 | true =>
 rw [e3,n87_] at qe;refine iteF ?_;obtain ⟨px,xs,rfl,hx,alx,lx,_,xb,_⟩:=Zoq (K:=K) h3 e3;have lxs:=alx.1;refine ⟨_,rfl,z1_,fun p3 np3=>?_⟩;generalize gG:upd H2 p3 (.tup [.ref m_])=H3;obtain ⟨s3,a3⟩:=gen_upd gG np3;refine ⟨px,p3,_,_,rfl,rfl,s3 _ _ (S2 _ _ hx),a3,by simp only [n23_,n47_,sizeLine_eq]; omega,fun p4 H4 s4 a4=>?_⟩;have S4:=S2.trans (s3.trans s4);have alw:Al (IsQ K H4) (xs++[.ref m_]) (rowQ d++[-1]):=(alx.imp fun v x r=>hRQ _ _ _ _ S4.tk r).snoc ⟨m_,rfl,.inr hlk⟩;have Bw:LnB (k+1) (rowQ d++[-1]):=lnbG (Ze2 (fun q hq=>(xb q hq).mono (by omega)) ⟨n61_ (by omega),n61_ (by omega)⟩) (by omega) (by rw [n26_]; show _+1≤310; omega);refine ⟨p4,.t,_,_,k+1,rfl,a4,alw,Bw,fun H5 l5 s5 nl5 h5=>?_⟩;have S5:=S4.trans s5;refine ⟨_,rfl,_,rfl,p,r,rfl,⟨_,SqT.of (S5 _ _ hp)⟩,⟨_,SqT.of (S5 _ _ hr')⟩,fun D nD=>?_⟩;refine lc_Z (k:=.t) (l:=.t) (vs:=us) (ws:=gs) RB hRB (List.zipWith (fun row g=>decide (rdot row (rowQ d)=g)) ms qs) (by rw [n33_]; omega) (by omega) nD (S5 _ _ hp) (S5 _ _ hr') (fun i v w H6 C hv hw s6 c=>?_) (fun H6 us6 s6 e6 a6=>?_)
 · obtain ⟨row,er,pr,ps,rfl,hpr,alp⟩:=al.get hv;obtain ⟨g,eg,rg⟩:=alg.get hw;have S6:=S5.trans s6;have mr:=n1_ er;have lr:=wd row mr;have lp:=alp.1;refine ⟨_,rfl,_,rfl,_,rfl,z1_,fun p7 np7=>?_⟩;generalize gG:upd H6 p7 (.tup [w])=H7;obtain ⟨s7,a7⟩:=gen_upd gG np7;refine ⟨pr,p7,_,_,rfl,rfl,s7 _ _ (S6 _ _ hpr),a7,by simp only [n23_,n47_,sizeLine_eq]; omega,fun p8 H8 s8 a8=>?_⟩;have S8:=S6.trans (s7.trans s8);refine ⟨l5,_,p8,.t,_,row++[g],105,rfl,s8 _ _ (s7 _ _ (s6 _ _ h5)),fun x hx=>Zmu Bw x hx,a8,(alp.imp fun v x r=>hRQ _ _ _ _ S8.tk r).snoc (hRQ _ _ _ _ S8.tk rg),lnbG (Ze2 (rb row mr) (gb g (n1_ eg))) (by omega) (by rw [n26_]; show _+1≤310; omega),fun H9 s9=>c _ _ _ (s7.trans (s8.trans s9)) (by rw [n24_,er,eg]) ?_⟩;show V.bl _=V.bl _
   rw [wsum,Zhf _ _ (by omega),X9 row]
   congr 1
   exact decide_eq_decide.mpr ⟨fun z=>by grind,fun z=>by grind⟩
 · rw [a6.bls] at e6;exact ⟨D,_,rfl,SqL.of e6,qe _ (S5.trans s6)⟩
abbrev Za9:Stmt:=top 45
theorem Zl5 (F:Fun K "is_mix" "is_mix" Za9 f fd) (Cb_:a24_ P w K mg base) (Cf_:a28_ P w K mg base) (Cg_:a27_ P w K mg base) (Ce_:a14_ P w K mg base) (Ck_:a5_ P w K mg base):FnOk P w K mg base CX0 7 f fd ["rows","rights","thing"] (Zix mixB):=by
 have sc:FnScope ["rows","rights","thing","weights","columns"] ["rows","rights","thing"] (Ze Za9):=fsc (by decide +kernel);refine F.ok sc (fun vs H Q E h=>by obtain ⟨N,k,v,u,x,ms,qs,d,rfl,_⟩:=h;rfl) fun cdv A outer s H vs Q E hr h=>?_;obtain ⟨N,k,v,u,x,ms,qs,d,rfl,h1,h2,R,h3,hk,hz3,q⟩:=h;have nd:=sc.nd;refine' ⟨_,?term,?read⟩
 case term=>refine' @Zd _ _ _ _ _ ?g1 ?g2;(case g1=>refine' @Xu _ _ _ _ (Zi Cg_ hr (by decide) rfl (Za (pv 0) (Za (pv 1) Zb rfl) rfl)) (by rfl));case g2=>refine' @Zd _ _ _ _ _ ?g3 ?g4;(case g3=>refine' @Y7 _ _ _ _ _ _ _ _ ?g5 (Zg (Zm Zau)) Z3;case g5=>refine' @X4 _ _ _ _ ?g6;case g6=>refine' @Z5 _ _ _ (Zi Cb_ hr (by decide) rfl (Za (pv 2) (Za (Zj Zp rfl T.b_len Xa (Za (pv 0) Zb rfl)) Zb rfl) rfl)) (fun _=>rfl));case g4=>refine' @Zd _ _ _ _ _ ?g7 ?g8;(case g7=>refine' @Zs _ _ (3) _ _ _ _ nd rfl (Or.inr rfl) (Zi Ck_ hr (by decide) rfl (Za (pv 2) Zb rfl)) (by rfl) (by first | exact Or.inl rfl | exact Or.inr rfl | assumption));case g8=>refine' @Zd _ _ _ _ _ ?g9 ?ga;(case g9=>refine' @Y7 _ _ _ _ _ _ _ _ ?gb (Zg (Zm Zau)) Z3;case gb=>refine' @Z5 _ _ _ (Zi Cf_ hr (by decide) rfl (Za (pv 3) (Za (pv 1) Zb rfl) rfl)) (fun _=>rfl));case ga=>refine' @Zd _ _ _ _ _ ?gc ?gd;(case gc=>refine' @Xp _ _ _ _ _ _ _ _ _ _ (["place","rows"]) ([none,some 0]) _ _ _ _ _ _ rfl rfl (Zn (i:=4) nd rfl (Or.inl rfl)) (Z6 (XN:=["rows","rights","thing","weights","columns"]) (Scope.names (Ze Za9)) rfl rfl rfl (fun _ h=>Zw h) (by decide +kernel) rfl) ?ge (fun _ _ _ _=>Zn (i:=0) (show List.Nodup (["place","rows"]:List Str) by decide) rfl (Or.inr rfl) (Or.inl rfl)) (fun _ _ _ _=>Zl) (fun _ _ _ _=>Y0 (N:=["row","place"]) (fr:=[none,some 0]) rfl (Z6 (XN:=["place","rows"]) (relN _ (Scope.names (Ze Za9))) rfl rfl rfl (fun _ h=>Zbx (by decide +kernel) h) (by decide +kernel) rfl) (Zak K rfl (pv 1)) (fun _ _ _ _=>pgB 0) (fun _ _ _ _=>Zl) (fun _ _ _ _=>Zz (Zap K rfl) (pv 0) (pv 1) (fun _ _=>rfl))) (by intro _ ; rfl);case ge=>refine' @Y2 _ _ _ _ _ _ rfl T.b_range (Za (Zi Ce_ hr (by decide) rfl (Za (pv 0) Zb rfl)) Zb rfl) (by rfl));case gd=>refine' @Zg _ _ _ ?gf;case gf=>refine' @Zm _ _ _ _ ?gg;case gg=>refine' @Zj _ _ _ _ _ _ _ _ _ (Xs rfl) rfl T.b_all Zd1 ?gh (by decide) (by decide) (by rfl) (by rfl);case gh=>refine' @Za _ _ _ _ _ ?gi Zb rfl;case gi=>refine' @Y0 _ _ _ _ _ _ _ (["column","weights"]) ([none,some 3]) _ _ _ _ _ rfl (Z6 (XN:=["rows","rights","thing","weights","columns"]) (Scope.names (Ze Za9)) rfl rfl rfl (fun _ h=>Zw h) (by decide +kernel) rfl) (Yj (pv 4)) (fun _ _ _ _=>pgB 0) (fun _ _ _ _=>Zl) (fun _ _ _ _=>Zi Cf_ hr (by decide) rfl (Za (pv 1) (Za (pv 0) Zb rfl) rfl)) (by intro _ ; rfl)
 refine ⟨_,rfl,_,rfl,v,u,ms,qs,rfl,h1,h2,R,fun H1 s1=>?_⟩;obtain ⟨p,us,rfl,hp,al⟩:=h1.qs (K:=K);obtain ⟨r,gs,rfl,hr',alg⟩:=h2.qs (K:=K);have lu:=al.1;have lg:=alg.1;have rl:=R.rl;have m6:=R.m6;have w4:=R.w4;obtain ⟨rb,gb⟩:=R.b;have wd:=R.wd;have al1:=al.imp fun v x (r:IsQs K H v x)=>IsQs.tk s1.tk r;have alg1:=alg.imp fun v x (r:IsQ K H v x)=>hRQ _ _ _ _ s1.tk r;refine ⟨_,rfl,_,rfl,p,us,rfl,.inr (SqT.of (s1 _ _ hp)),N,k,x,d,ms.length,by rw [lu],h3.same s1,by omega,by omega,fun H2 s2=>⟨_,rfl,?_⟩⟩;have S2:=s1.trans s2;have qe:∀ H',Same H H'→Q (.bl (Xe ms.length d && !decide (rdot (rowQ d) qs=0) && ((List.range (wid ms)).map fun p=>decide (rdot (ms.map fun r=>r.getD p 0) (rowQ d)=0)).all id)) H':=q;cases e3:Xe ms.length d with
 | false=>rw [e3,n85_,n85_] at qe; exact iteT (qe _ S2)
 | true =>
 rw [e3,n87_] at qe;refine iteF ?_;obtain ⟨px,xs,rfl,hx,alx,lx,_,xb,_⟩:=Zoq (K:=K) h3 e3;have lxs:=alx.1;have Bw:LnB k (rowQ d):=lnbG xb (by omega) (by omega);refine ⟨_,rfl,px,.t,xs,_,k,rfl,S2 _ _ hx,alx.imp fun v x r=>hRQ _ _ _ _ S2.tk r,Bw,fun H5 l5 s5 nl5 h5=>?_⟩;have S5:=S2.trans s5;refine ⟨_,rfl,_,rfl,l5,_,r,.t,gs,qs,105,rfl,h5,fun x hx=>Zmu Bw x hx,S5 _ _ hr',alg.imp fun v x r=>hRQ _ _ _ _ S5.tk r,lnbG gb (by omega) (by omega),fun H6 s6=>⟨_,rfl,?_⟩⟩;have S6:=S5.trans s6;rw [wsum]
 by_cases hn:rdot (rowQ d) qs=0
 · rw [n14_ hn];rw [n14_ hn] at qe;exact iteT (qe _ S6)
 rw [n17_ hn];rw [n17_ hn] at qe;refine iteF ?_;refine ⟨_,rfl,p,.t,us,ms,rfl,S6 _ _ hp,al.imp fun v x r=>IsQs.tk S6.tk r,?_⟩;refine ⟨_,rfl,by omega,by omega,fun D nD=>?_⟩;refine Zad (n:=wid ms) (fun H v (x:List Rat)=>∃ l es,v=V.ref l∧l≠D∧H l=some (.lst es)∧Al (IsQ K H) es x) (fun H1 H2 v x k e ⟨l,es,e1,n,h,r⟩=>⟨l,es,e1,n,k _ _ n h,r.imp fun v x r=>hRQ _ _ _ _ (Za5 k e) r⟩) (fun i=>some (ms.map fun r=>r.getD i 0)) (by omega) (fun σ=>∃ x,σ=[x,some (.ref p)]) ⟨_,rfl⟩ nD (fun i H3 s hi=>hi) (fun H3 s=>n9_ _) (fun i x σ2 H7 H8 C N' hi s7 eD y ok c' n'=>?_) (fun H7 us7 s7 e7 a7=>?_)
 · obtain ⟨a1,rfl⟩:=ok;obtain ⟨rfl,rfl⟩:=y;obtain ⟨wsD,eD⟩:=eD;refine Xz ?_;have S7:=S6.trans s7;refine ⟨_,rfl,p,.t,rfl,⟨_,SqT.of (S7 _ _ hp)⟩,fun E nE=>?_⟩;refine lc_T (k:=.t) (vs:=us) (IsQ K) hRQ (ms.map fun r=>r.getD i 0) (by rw [n2_]; omega) (by omega) nE (S7 _ _ hp) (fun j w'' H8 C' hw s8 c8=>?_) (fun H8 us8 s8 e8 a8=>?_)
   · obtain ⟨row,er,pr,ps,rfl,hpr,alp⟩:=al.get hw;have mr:=n1_ er;have lt:i < row.length:=by rw [wd row mr]; exact hi
     obtain ⟨u,eu,ru⟩:=alp.got (n0_ lt);have S8:=S7.trans s8;refine ⟨_,rfl,_,rfl,pr,ps,0+(i:Int),u,rfl,rfl,SqT.of (S8 _ _ hpr),by rw [Int.zero_add]; exact Yu eu,c8 _ _ (row.getD i 0) (Same.refl _) (by rw [n5_,er]; rfl) ?_⟩;rw [n6_,n0_ lt];exact hRQ _ _ _ _ S8.tk ru
   · exact c' _ _ _ _ ⟨_,rfl⟩ s8 rfl ⟨E,us8,rfl,fun z=>(by rw [z,eD] at nE; cases nE),e8,a8⟩
 have e0:∀ n:Nat,(List.range n).filterMap (fun i=>some (ms.map fun r=>r.getD i 0))=(List.range n).map fun i=>ms.map fun r=>r.getD i 0:=fun n=>by
  rw [List.filterMap_eq_map']
 rw [e0] at a7;have l7:=a7.1;rw [n2_,List.length_range] at l7;refine ⟨_,rfl,D,rfl,⟨_,SqL.of e7⟩,fun E nE=>?_⟩;refine lc_T (k:=.l) (vs:=us7) RB hRB ((List.range (wid ms)).map fun p=>decide (rdot (ms.map fun r=>r.getD p 0) (rowQ d)=0)) (by rw [n2_,List.length_range]; exact l7.symm) (by omega) nE (show SK.l.At H7 D us7 from e7) (fun j w'' H8 C' hw s8 c8=>?_) (fun H8 us8 s8 e8 a8=>?_)
 · obtain ⟨col,ec,l,es,rfl,_,hl,ales⟩:=a7.get hw;rw [n5_] at ec;obtain ⟨i,ei,rfl⟩:=n37_.mp ec;have hi:i < wid ms:=List.mem_range.mp (n1_ ei);refine ⟨_,rfl,_,rfl,l5,_,l,.l,es,_,105,rfl,s8 _ _ (s7 _ _ (s6 _ _ h5)),fun x hx=>Zmu Bw x hx,s8 _ _ hl,ales.imp fun v x r=>hRQ _ _ _ _ s8.tk r,lnbG (fun q hq=>?_) (by omega) (by rw [n2_]; omega),fun H9 s9=>c8 _ _ _ s9 (by rw [n5_,ei]; rfl) ?_⟩
   · obtain ⟨row,hrow,rfl⟩:=n22_.mp hq;have lt:i < row.length:=by rw [wd row hrow]; exact hi
     have m:row.getD i 0∈row:=by rw [n6_,n0_ lt]; exact n36_ lt
     exact rb row hrow _ m
   · show V.bl _=V.bl _
     rw [wsum,X9]
 · rw [a8.bls] at e8;exact ⟨E,_,rfl,SqL.of e8,qe _ (S6.trans (s7.trans s8))⟩
abbrev Xy:Stmt:=top 55
theorem Zcx (F:Fun K "_law_fraction" "_law_fraction" Xy f fd) (Ca_:a22_ P w K mg base) (Ch_:a20_ P w K mg base):FnOk P w K mg base CX0 2 f fd ["_law_state_here"] (Zgu 44):=by
 have sc:FnScope ["_law_state_here","_law_top","_law_way"] ["_law_state_here"] (Ze Xy):=fsc (by decide +kernel);refine F.ok sc (fun vs H Q E h=>by obtain ⟨l,rfl,_⟩:=h;rfl) fun cdv A outer s H vs Q E hr h=>?_;obtain ⟨l,rfl,hl,q⟩:=h;have nd:=sc.nd;refine' ⟨_,?term,?read⟩
 case term=>refine' @Zd _ _ _ _ _ ?g1 ?g2;(case g1=>refine' @Zs _ _ (1) _ _ _ _ nd rfl (Or.inl rfl) (Zq Zgn (Zi Ca_ hr (by decide) rfl (Za (pv 0) (Za Zf Zb rfl) rfl)) Zf) (by rfl) (by first | exact Or.inl rfl | exact Or.inr rfl | assumption));case g2=>refine' @Zd _ _ _ _ _ ?g3 ?g4;(case g3=>refine' @Zs _ _ (2) _ _ _ _ nd rfl (Or.inl rfl) (Zi Ca_ hr (by decide) rfl (Za (pv 0) (Za Zf Zb rfl) rfl)) (by rfl) (by first | exact Or.inl rfl | exact Or.inr rfl | assumption));case g4=>refine' @Zd _ _ _ _ _ ?g5 ?g6;(case g5=>refine' @Y7 _ _ _ _ _ _ _ _ (Zt Zka (pv 2) Zf (Zy _)) ?g7 Z3;case g7=>refine' @Zg _ _ _ ?g8;case g8=>refine' @Zm _ _ _ _ ?g9;case g9=>refine' @Zz _ _ _ _ _ _ _ Yc ?ga (pv 2) (fun _ _=>rfl);case ga=>refine' @Yz _ _ _ _ (Za (Zv (Za Zf (Za Zf Zb rfl) rfl)) (Za (Zv (Za Zf (Za Zf Zb rfl) rfl)) (Za (Zv (Za (pv 1) (Za Zf Zb rfl) rfl)) Zb rfl) rfl) rfl));case g6=>refine' @Zg _ _ _ ?gb;case gb=>refine' @Zm _ _ _ _ ?gc;case gc=>refine' @Zi _ _ _ _ _ _ _ _ _ _ _ Ch_ hr (by decide) rfl ?gd (by decide) (by rfl) (by rfl);case gd=>refine' @Za _ _ _ _ _ ?ge (Za (Zq Xm Zf (Zi Ca_ hr (by decide) rfl (Za (pv 0) (Za Zf Zb rfl) rfl))) Zb rfl) rfl;case ge=>refine' @Zq _ _ _ _ _ _ _ _ Yi (pv 1) ?gf;case gf=>refine' @Zz _ _ _ _ _ _ _ Yc ?gg (Yn Zkw rfl T.b_int Zkm (Za (Zaq Zho (Zi Ca_ hr (by decide) rfl (Za (pv 0) (Za Zf Zb rfl) rfl)) Zf (Zy _)) Zb rfl)) (fun _ _=>rfl);case gg=>refine' @Yz _ _ _ _ (Za Zf (Za (Zq Xm (Zq Zlq Zf Zf) Zf) Zb rfl) rfl)
 refine ⟨_,rfl,l,19,rfl,hl,by decide,Y1 (by decide),fun r1 H1 a1 b1 k1 l1=>?_⟩;refine ⟨_,_,rfl,rfl,?_⟩;refine ⟨_,rfl,l,5,rfl,l1,by decide,Y1 (by decide),fun r2 H2 a2 b2 k2 l2=>?_⟩;refine ⟨_,rfl,_,_,rfl,rfl,_,rfl,?_⟩;have k12:=k1.trans k2;refine ite2 (fun hlt=>?_) (fun hlt=>?_)
 · have hlt':r2 < 3:=n41_ hlt;refine ⟨z2_,?_⟩;intro p3 n3;generalize hH3:upd H2 p3 _=H3;have S3:Same H2 H3:=by (rw [← hH3]; exact Same.new n3)
   have A3:=(congrFun hH3 p3).symm;rw [Zc] at A3;refine ⟨z2_,?_⟩;intro p4 n4;generalize hH4:upd H3 p4 _=H4;have S4:Same H3 H4:=by (rw [← hH4]; exact Same.new n4)
   have A4:=(congrFun hH4 p4).symm;rw [Zc] at A4;refine ⟨_,rfl,z2_,?_⟩;intro p5 n5;generalize hH5:upd H4 p5 _=H5;have S5:Same H4 H5:=by (rw [← hH5]; exact Same.new n5)
   have A5:=(congrFun hH5 p5).symm;rw [Zc] at A5;refine ⟨z3_,?_⟩;intro p6 n6;generalize hH6:upd H5 p6 _=H6;have S6:Same H5 H6:=by (rw [← hH6]; exact Same.new n6)
   have A6:=(congrFun hH6 p6).symm;rw [Zc] at A6;refine ⟨_,rfl,?_⟩;have hk:Keep l H H6:=k12.trans (((S3.trans S4).trans (S5.trans S6)).keep);have l6:StAt H6 l:=l2.same ((S3.trans S4).trans (S5.trans S6));have B3:=S6 _ _ (S5 _ _ (S4 _ _ A3));have B4:=S6 _ _ (S5 _ _ A4);have B5:=S6 _ _ A5;have hr2:r2=0∨r2=1∨r2=2:=by omega
   have w1:=FM.whole (r1 - 9)
   rcases hr2 with rfl | rfl | rfl
   · exact ⟨p6,_,0,_,rfl,rfl,SqL.of A6,rfl,q _ p3 0 hk l6 B3 ⟨⟨by decide,by decide⟩,by decide⟩⟩
   · exact ⟨p6,_,1,_,rfl,rfl,SqL.of A6,rfl,q _ p4 1 hk l6 B4 ⟨⟨by decide,by decide⟩,by decide⟩⟩
   · refine ⟨p6,_,2,_,rfl,rfl,SqL.of A6,rfl,q _ p5 (Rat.divInt (r1 - 9) 1) hk l6 (by rw [rt,w1.1,w1.2]; exact B5) ⟨⟨?_,?_⟩,Zpq _ (by decide) (by decide)⟩⟩
     · rw [w1.1]; show _ < 17592186044416; omega
     · have:=w1.2; show _ < 17592186044416; omega
 · refine ⟨_,rfl,?_⟩;refine ⟨_,_,rfl,rfl,⟨by decide,by decide,by decide⟩,_,_,rfl,rfl,z2_,?_⟩;intro p3 n3;generalize hH3:upd H2 p3 _=H3;have S3:Same H2 H3:=by (rw [← hH3]; exact Same.new n3)
   have A3:=(congrFun hH3 p3).symm;rw [Zc] at A3;refine ⟨_,rfl,l,9,rfl,l2.same S3,by decide,Y1 (by decide),fun r4 H4 a4 b4 k4 l4=>?_⟩;refine ⟨rfl,.inr ⟨_,rfl,?_⟩⟩;have B3:=k4 _ _ (fun z=>l2.ne n3 z.symm) A3;have hk4:Keep l H H4:=k12.trans (S3.keep.trans k4)
   by_cases h0:V.int r4=V.int 0
   · rw [n14_ h0];refine ⟨p3,_,_,_,rfl,rfl,SqL.of B3,rfl,?_⟩;have hz:(10 ^ Int.toNat 12+7:Int).natAbs≤1000000000007:=by decide
     refine ⟨_,_,rfl,rfl,mulS (by rw [p64]; omega) (by decide),?_⟩;refine ⟨_,rfl,l,6,rfl,l4,by decide,Y1 (by decide),fun r5 H5 a5 b5 k5 l5=>⟨_,_,rfl,rfl,_,_,rfl,by omega,Y1 (by rw [p64]; omega),fun p H6 s6 at6=>?_⟩⟩;refine q _ p _ (hk4.trans (k5.trans s6.keep)) (l5.same s6) at6 ⟨FM.B_divInt (by omega) ?_ ?_,Zpq _ (by omega) (by omega)⟩
     · rw [n27_];have h9:(r1 - 9).natAbs≤9:=by omega
       have:=n59_ h9 hz
       show _ < 17592186044416
       omega
     · show _ < 17592186044416
       omega
   · rw [n17_ h0];refine ⟨p3,_,_,_,rfl,rfl,SqL.of B3,rfl,?_⟩;have hz:(1:Int).natAbs≤1000000000007:=by decide
     refine ⟨_,_,rfl,rfl,mulS (by rw [p64]; omega) (by decide),?_⟩;refine ⟨_,rfl,l,6,rfl,l4,by decide,Y1 (by decide),fun r5 H5 a5 b5 k5 l5=>⟨_,_,rfl,rfl,_,_,rfl,by omega,Y1 (by rw [p64]; omega),fun p H6 s6 at6=>?_⟩⟩;refine q _ p _ (hk4.trans (k5.trans s6.keep)) (l5.same s6) at6 ⟨FM.B_divInt (by omega) ?_ ?_,Zpq _ (by omega) (by omega)⟩
     · rw [n27_];have h9:(r1 - 9).natAbs≤9:=by omega
       have:=n59_ h9 hz
       show _ < 17592186044416
       omega
     · show _ < 17592186044416
       omega
abbrev Zcp:Stmt:=top 51
theorem Zh5 (F:Fun K "_law_add" "_law_add" Zcp f fd) (Ch_:a20_ P w K mg base):FnOk P w K mg base CX0 2 f fd ["_law_one","_law_other"] (Znj (·+·)):=by
 have sc:FnScope ["_law_one","_law_other"] ["_law_one","_law_other"] (Ze Zcp):=fsc (by decide +kernel);refine F.ok sc (fun vs H Q E h=>by obtain ⟨p,r,x,y,rfl,_⟩:=h;rfl) fun cdv A outer s H vs Q E hr h=>?_;obtain ⟨p,r,x,y,rfl,h1,h2,hx,hy,q⟩:=h;refine' ⟨_,?term,?read⟩
 case term=>refine' @Zg _ _ _ ?g1;case g1=>refine' @Zm _ _ _ _ ?g2;case g2=>refine' @Zi _ _ _ _ _ _ _ _ _ _ _ Ch_ hr (by decide) rfl ?g3 (by decide) (by rfl) (by rfl);case g3=>refine' @Za _ _ _ _ _ ?g4 ?g5 rfl;(case g4=>refine' @Zq _ _ _ _ _ _ _ _ Xm ?g6 ?g7;(case g6=>refine' @Zq _ _ _ _ _ _ _ _ Yi ?g8 ?g9;(case g8=>refine' @Zz _ _ _ _ _ _ _ Ym (pv 0) Zf (fun _ _=>rfl));case g9=>refine' @Zz _ _ _ _ _ _ _ Ym (pv 1) Zf (fun _ _=>rfl));case g7=>refine' @Zq _ _ _ _ _ _ _ _ Yi ?ga ?gb;(case ga=>refine' @Zz _ _ _ _ _ _ _ Ym (pv 1) Zf (fun _ _=>rfl));case gb=>refine' @Zz _ _ _ _ _ _ _ Ym (pv 0) Zf (fun _ _=>rfl));case g5=>refine' @Za _ _ _ _ _ ?gc Zb rfl;case gc=>refine' @Zq _ _ _ _ _ _ _ _ Yi ?gd ?ge;(case gd=>refine' @Zz _ _ _ _ _ _ _ Ym (pv 0) Zf (fun _ _=>rfl));case ge=>refine' @Zz _ _ _ _ _ _ _ Ym (pv 1) Zf (fun _ _=>rfl)
 refine ⟨_,rfl,p,_,0,_,rfl,rfl,SqT.of h1,rfl,_,rfl,r,_,1,_,rfl,rfl,SqT.of h2,rfl,_,_,rfl,rfl,mND hx hy,_,rfl,r,_,0,_,rfl,rfl,SqT.of h2,rfl,_,rfl,p,_,1,_,rfl,rfl,SqT.of h1,rfl,_,_,rfl,rfl,mND hy hx,_,_,rfl,rfl,_,rfl,p,_,1,_,rfl,rfl,SqT.of h1,rfl,_,rfl,r,_,1,_,rfl,rfl,SqT.of h2,rfl,_,_,rfl,rfl,mDD hx hy,_,_,rfl,FM.mul_ne,Zp8 hx hy,?_⟩;rw [FM.add_eq];exact q
abbrev Zci:Stmt:=top 52
theorem Zh4 (F:Fun K "_law_mul" "_law_mul" Zci f fd) (Ch_:a20_ P w K mg base):FnOk P w K mg base CX0 2 f fd ["_law_one","_law_other"] (Znj (· * ·)):=by
 have sc:FnScope ["_law_one","_law_other"] ["_law_one","_law_other"] (Ze Zci):=fsc (by decide +kernel);refine F.ok sc (fun vs H Q E h=>by obtain ⟨p,r,x,y,rfl,_⟩:=h;rfl) fun cdv A outer s H vs Q E hr h=>?_;obtain ⟨p,r,x,y,rfl,h1,h2,hx,hy,q⟩:=h;refine' ⟨_,?term,?read⟩
 case term=>refine' @Zg _ _ _ ?g1;case g1=>refine' @Zm _ _ _ _ ?g2;case g2=>refine' @Zi _ _ _ _ _ _ _ _ _ _ _ Ch_ hr (by decide) rfl ?g3 (by decide) (by rfl) (by rfl);case g3=>refine' @Za _ _ _ _ _ ?g4 ?g5 rfl;(case g4=>refine' @Zq _ _ _ _ _ _ _ _ Yi ?g6 ?g7;(case g6=>refine' @Zz _ _ _ _ _ _ _ Ym (pv 0) Zf (fun _ _=>rfl));case g7=>refine' @Zz _ _ _ _ _ _ _ Ym (pv 1) Zf (fun _ _=>rfl));case g5=>refine' @Za _ _ _ _ _ ?g8 Zb rfl;case g8=>refine' @Zq _ _ _ _ _ _ _ _ Yi ?g9 ?ga;(case g9=>refine' @Zz _ _ _ _ _ _ _ Ym (pv 0) Zf (fun _ _=>rfl));case ga=>refine' @Zz _ _ _ _ _ _ _ Ym (pv 1) Zf (fun _ _=>rfl)
 refine ⟨_,rfl,p,_,0,_,rfl,rfl,SqT.of h1,rfl,_,rfl,r,_,0,_,rfl,rfl,SqT.of h2,rfl,_,_,rfl,rfl,mNN hx hy,_,rfl,p,_,1,_,rfl,rfl,SqT.of h1,rfl,_,rfl,r,_,1,_,rfl,rfl,SqT.of h2,rfl,_,_,rfl,rfl,mDD hx hy,_,_,rfl,FM.mul_ne,Zp8 hx hy,?_⟩;rw [FM.mul_eq];exact q
abbrev Za2:Stmt:=top 53
theorem Ze8 (F:Fun K "_law_total" "_law_total" Za2 f fd) (Cs_:a29_ P w K mg base):FnOk P w K mg base CX0 3 f fd ["_law_some"] Zlu:=by
 have sc:FnScope ["_law_some","_law_found","_law_one"] ["_law_some"] (Ze Za2):=fsc (by decide +kernel);refine F.ok sc (fun vs H Q E h=>by obtain ⟨a,us,qs,c,A,rfl,_⟩:=h;rfl) fun cdv A outer s H vs Q E hr h=>?_;obtain ⟨a,us,qs,c,A',rfl,ha,al,hD,hc,c9,A9,h8,q⟩:=h;have nd:=sc.nd;refine' ⟨_,?term,?read⟩
 case term=>refine' @Zd _ _ _ _ _ ?g1 ?g2;(case g1=>refine' @Zs _ _ (1) _ _ _ _ nd rfl (Or.inl rfl) (Zv (Za Zf (Za Zf Zb rfl) rfl)) (by rfl) (by first | exact Or.inl rfl | exact Or.inr rfl | assumption));case g2=>refine' @Zd _ _ _ _ _ ?g3 (Zg (Zm (pv 1)));case g3=>refine' @Zae _ _ _ _ _ _ _ _ PassesOwn.never rfl (Yj (pv 0)) (Zn (i:=2) nd rfl (Or.inl rfl)) ?g4 (by intro _ ; rfl);case g4=>refine' @Zg _ _ _ ?g5;case g5=>refine' @Zs _ _ (1) _ _ _ _ nd rfl (Or.inl rfl) (Zi Cs_ hr (by decide) rfl (Za (pv 1) (Za (pv 2) Zb rfl) rfl)) (by rfl) (by first | exact Or.inl rfl | exact Or.inr rfl | assumption)
 have hl:=al.1;refine ⟨z2_,fun z nz=>?_⟩;have s1:Same H (upd H z (.tup [.int 0,.int 1])):=Same.new nz;have e1:upd H z (.tup [.int 0,.int 1]) z=some (.tup (rt 0)):=Zc;generalize upd H z (.tup [.int 0,.int 1])=H1 at s1 e1 ⊢;refine ⟨_,rfl,a,rfl,⟨_,SqL.of (s1 _ _ ha)⟩,?_⟩;refine Zaz (n:=qs.length) (fun i σ H2=>Same H H2∧∃ v x,σ=[some (.ref a),some v,x]∧IsQh H2 v (qs.take i).sum) ⟨s1,_,_,rfl,z,rfl,e1⟩ (fun i σ H2 hi p=>⟨us,us[i]'(by omega),SqL.of (p.1 _ _ ha),n0_ (by omega)⟩) (fun σ H2 p=>⟨us,SqL.of (p.1 _ _ ha),by omega⟩) (fun i x σ H2 H3 hi y p=>?_) (fun σ H2 p=>?_)
 · obtain ⟨s2,v,x',rfl,p,rfl,hp⟩:=p;obtain ⟨rfl,y2⟩:=y;obtain ⟨g,eg,r,rfl,hr'⟩:=al.get (y2 us (SqL.of (s2 _ _ ha)));have hg:=hD g (n1_ eg);have ht:=Zi5 (qs.take i) fun x hx=>hD x (n54_ hx);have hlen:(qs.take i).length * A'≤8 * A':=n42_ _ (by rw [n79_]; omega);refine ⟨_,rfl,_,rfl,p,r,_,g,rfl,hp,s2 _ _ hr',ht.b hc c9 (by omega),hg.b hc c9 (by omega),fun w H4 s4 hw=>?_⟩;refine ⟨s2.trans s4,_,_,rfl,w,rfl,?_⟩;rw [hw,List.take_succ,eg];show _=some (HO.tup (rt ((qs.take i)++[g]).sum))
   rw [Zm1]
 · obtain ⟨s2,v,x',rfl,hv⟩:=p;rw [n67_] at hv;exact ⟨_,rfl,q _ _ s2 hv⟩
abbrev Zcg:Stmt:=top 54
theorem Zhs (F:Fun K "_law_dot" "_law_dot" Zcg f fd) (Ct_:a30_ P w K mg base) (Caj_:a31_ P w K mg base):FnOk P w K mg base CX0 4 f fd ["_law_row_here","_law_other"] Zk8:=by
 have sc:FnScope ["_law_row_here","_law_other"] ["_law_row_here","_law_other"] (Ze Zcg):=fsc (by decide +kernel);refine F.ok sc (fun vs H Q E h=>by obtain ⟨v,w,kx,ky,us,ws,xs,ys,a,b,A,B,rfl,_⟩:=h;rfl) fun cdv A outer s H vs Q E hr h=>?_;obtain ⟨v,w',kx,ky,us,ws,xs,ys,a,b,A',B,rfl,hv,al,hw,bl,hx,hy,a1,b1,c9,AB,A9,B9,x8,xy,q⟩:=h;refine' ⟨_,?term,?read⟩
 case term=>refine' @Zg _ _ _ ?g1;case g1=>refine' @Zm _ _ _ _ ?g2;case g2=>refine' @Zi _ _ _ _ _ _ _ _ _ _ _ Caj_ hr (by decide) rfl ?g3 (by decide) (by rfl) (by rfl);case g3=>refine' @Za _ _ _ _ _ ?g4 Zb rfl;case g4=>refine' @Y0 _ _ _ _ _ _ _ (["_law_one","_law_its"]) ([none,none]) _ _ ((gTup K 2 (Z7 (Z1 0) (Z7 (Z1 1) gNil)))) _ _ rfl (Z2 (by decide) rfl (by decide) rfl rfl) (Zhr rfl T.b_zip (Za (pv 0) (Za (pv 1) Zb rfl) rfl)) (fun _ _ _ _=>Yb (n:=2) rfl (Zh (pgB 0) (Zh (pgB 1) Zx))) (fun _ _ _ _=>Zl) (fun _ _ _ _=>Zi Ct_ hr (by decide) rfl (Za (pv 0) (Za (pv 1) Zb rfl) rfl)) (by intro _ ; rfl)
 have hl:=al.1;have hl':=bl.1;refine ⟨_,rfl,_,rfl,v,w',kx,ky,rfl,⟨_,hv.sq⟩,⟨_,hw.sq⟩,fun E nE=>?_⟩;have b9:b.natAbs < 2 ^ 1990:=n10_ (by rw [n27_]; exact n44_ _ (by omega)) c9;have a9:a.natAbs < 2 ^ 1990:=n10_ (by rw [n27_]; exact Nat.le_mul_of_pos_right _ (by omega)) c9;refine Zad (n:=us.length) IsQh (fun H1 H2 v x k e r=>r.tk (Za5 k e)) (fun i=>(List.zipWith (· * ·) xs ys)[i]?) (by omega) (fun σ=>∃ a b,σ=[a,b]) ⟨_,_,rfl⟩ nE (fun i H3 s hi=>⟨us,ws,us[i],ws[i],(hv.same s).sq,(hw.same s).sq,n0_ hi,n0_ (by omega)⟩) (fun H3 s=>⟨us,ws,(hv.same s).sq,(hw.same s).sq,by omega⟩) (fun i x σ2 H3 H4 C N hi s3 eD y ok c n=>?_) (fun H3 es s3 e3 a3=>?_)
 · obtain ⟨u1,u2,rfl⟩:=ok;obtain ⟨p,vv,uu,rfl,np,rfl,y1,y2⟩:=y;have ev:=y1 us ((hv.same s3).sq);have eu:=y2 ws ((hw.same s3).sq);obtain ⟨x,ex,px,rfl,hpx⟩:=al.get ev;obtain ⟨y,ey,py,rfl,hpy⟩:=bl.get eu;have s4:Same H3 (upd H3 p (.tup [.ref px,.ref py])):=Same.new np;have S4:=s3.trans s4;refine ⟨p,_,rfl,SqT.of Zc,rfl,_,_,rfl,_,_,rfl,rfl,?_⟩;refine Zam ?_;exact ⟨_,rfl,_,rfl,px,py,x,y,rfl,S4 _ _ hpx,S4 _ _ hpy,(hx x (n1_ ex)).b a1 a9 A9,(hy y (n1_ ey)).b b1 b9 B9,fun z H5 s5 hz=>c _ _ _ _ ⟨_,_,rfl⟩ (s4.trans s5) (by rw [n24_,ex,ey]) ⟨z,rfl,hz⟩⟩
 · rw [Z4 _ _ (by rw [n33_]; omega)] at a3;refine ⟨E,es,_,a * b,A' * B,rfl,e3,a3,fun z hz=>?_,?_,c9,AB,by rw [n33_]; omega,fun H5 r s5 hr=>q _ _ (s3.trans s5) hr⟩
   · obtain ⟨i,hi⟩:=n60_.mp hz;rw [n24_] at hi;split at hi
     · rename_i x y ex ey
       cases hi
       exact (hx x (n1_ ex)).mul (hy y (n1_ ey))
     · cases hi
   · have:=Int.mul_pos (show 0 < a by omega) (show 0 < b by omega)
     omega
abbrev Za6:Stmt:=top 56
theorem Zhz (F:Fun K "_law_row" "_law_row" Za6 f fd) (Cd_:a32_ P w K mg base):FnOk P w K mg base CX0 3 f fd ["_law_state_here","_law_many"] Zlx:=by
 have sc:FnScope ["_law_state_here","_law_many"] ["_law_state_here","_law_many"] (Ze Za6):=fsc (by decide +kernel);refine F.ok sc (fun vs H Q E h=>by obtain ⟨l,n,rfl,_⟩:=h;rfl) fun cdv A outer s H vs Q E hr h=>?_;obtain ⟨l,n,rfl,hl,h1000,q⟩:=h;refine' ⟨_,?term,?read⟩
 case term=>refine' @Zg _ _ _ ?g1;case g1=>refine' @Zm _ _ _ _ ?g2;case g2=>refine' @Yn _ _ _ _ _ _ _ _ _ Ye rfl T.b_tuple Yk ?g3 (by decide) (by decide) (by rfl) (by rfl);case g3=>refine' @Za _ _ _ _ _ ?g4 Zb rfl;case g4=>refine' @Y0 _ _ _ _ _ _ _ (["_law_turn","_law_state_here"]) ([none,some 0]) _ _ _ _ _ rfl (Z6 (XN:=["_law_state_here","_law_many"]) (Scope.names (Ze Za6)) rfl rfl rfl (fun _ h=>Zw h) (by decide +kernel) rfl) ?g5 (fun _ _ _ _=>pgB 0) (fun _ _ _ _=>Zl) (fun _ _ _ _=>Zi Cd_ hr (by decide) rfl (Za (pv 1) Zb rfl)) (by intro _ ; rfl);case g5=>refine' @Y2 _ _ _ _ _ _ rfl T.b_range (Za (pv 1) Zb rfl) (by rfl)
 refine ⟨_,rfl,n,rfl,by omega,by omega,fun D nD=>?_⟩;refine Zlt (n:=n) (l:=l) (fun H v (x:Rat)=>IsQh H v x∧Dv 60 (2 ^ 50) x) (fun H1 H2 v x t r=>⟨r.1.tk t,r.2⟩) h1000 (fun σ=>∃ u,σ=[u,some (.ref l)]) ⟨_,rfl⟩ nD hl (fun i H2 k hi=>hi) (fun H2 k=>n9_ _) (fun i x σ2 H2 H3 C hi k2 l2 y o c=>?_) (fun H2 vs ys k2 l2 e2 hy a2=>?_)
 · obtain ⟨u,rfl⟩:=o;obtain ⟨rfl,rfl⟩:=y;exact ⟨_,rfl,l,rfl,l2,fun H5 p x k5 l5 hp hB=>c _ _ _ x ⟨_,rfl⟩ k5 l5 ⟨⟨p,rfl,hp⟩,Znm hB.1 hB.2⟩⟩
 · refine ⟨D,vs,rfl,.inl ⟨SqL.of e2,fun t nt=>?_⟩⟩;have s3:Same H2 (upd H2 t (.tup vs)):=Same.new nt;refine q _ _ ys (k2.trans s3.keep) (l2.same s3) ⟨t,vs,rfl,Zc,a2.imp fun v x r=>r.1.tk s3.tk⟩ hy (fun x hx=>?_);obtain ⟨i,hi,e⟩:=n45_ hx;obtain ⟨v,_,r⟩:=a2.got (show ys[i]? = some x by rw [n0_ hi,e]);exact r.2
abbrev Xv:Stmt:=top 61
theorem Zhg (F:Fun K "_law_rows" "_law_rows" Xv f fd) (Cs_:a29_ P w K mg base) (Ca_:a22_ P w K mg base) (Ci_:a33_ P w K mg base) (Cd_:a32_ P w K mg base) (Cm_:a34_ P w K mg base):FnOk P w K mg base CX0 5 f fd ["_law_state_here"] Zjb:=by
 have sc:FnScope ["_law_state_here","_law_wide","_law_rows_here","_law_turn","_law_one","_law_other","_law_values","_law_rights"] ["_law_state_here"] (Ze Xv):=fsc (by decide +kernel);refine F.ok sc (fun vs H Q E h=>by obtain ⟨l,rfl,_⟩:=h;rfl) fun cdv A outer s H vs Q E hr h=>?_;obtain ⟨l,rfl,hl,q⟩:=h;have nd:=sc.nd;have hu:=Zfs hr;refine' ⟨_,?term,?read⟩
 case term=>refine' @Zd _ _ _ _ _ ?g1 ?g2;(case g1=>refine' @Zs _ _ (1) _ _ _ _ nd rfl (Or.inr rfl) (Zi Ca_ hr (by decide) rfl (Za (pv 0) (Za Zf Zb rfl) rfl)) (by rfl) (by first | exact Or.inl rfl | exact Or.inr rfl | assumption));case g2=>refine' @Zd _ _ _ _ _ ?g3 ?g4;(case g3=>refine' @Xp _ _ _ _ _ _ _ _ _ _ (["_law_turn","_law_state_here","_law_wide"]) ([none,some 0,some 1]) _ _ _ _ _ _ rfl rfl (Zn (i:=2) nd rfl (Or.inl rfl)) (Z6 (XN:=["_law_state_here","_law_wide","_law_rows_here","_law_turn","_law_one","_law_other","_law_values","_law_rights"]) (Scope.names (Ze Xv)) rfl rfl rfl (fun _ h=>Zw h) (by decide +kernel) rfl) ?g5 (fun _ _ _ _=>pgB 0) (fun _ _ _ _=>Zl) (fun _ _ _ _=>Zi Cm_ hr (by decide) rfl (Za (pv 1) (Za (pv 2) Zb rfl) rfl)) (by intro _ ; rfl);case g5=>refine' @Y2 _ _ _ _ _ _ rfl T.b_range (Za (Zi Ca_ hr (by decide) rfl (Za (pv 0) (Za Zf Zb rfl) rfl)) Zb rfl) (by rfl));case g4=>refine' @Zd _ _ _ _ _ ?g6 ?g7;(case g6=>refine' @Zae _ _ _ _ _ _ _ _ PassesOwn.never rfl ?g8 (Zn (i:=3) nd rfl (Or.inl rfl)) ?g9 (by intro _ ; rfl);(case g8=>refine' @Y2 _ _ _ _ _ _ rfl T.b_range ?ga (by rfl);case ga=>refine' @Za _ _ _ _ _ ?gb Zb rfl;case gb=>refine' @Zal _ _ _ _ _ _ _ _ ?gc (Zi Ca_ hr (by decide) rfl (Za (pv 0) (Za Zf Zb rfl) rfl)) Zf;case gc=>refine' @Zt _ _ _ _ _ _ _ _ (Zn5 (n74_ hu)) (pv 2) ?gd (Zy _);case gd=>refine' @Yz _ _ _ _ Zb);case g9=>refine' @Zd _ _ _ _ _ ?ge ?gf;(case ge=>refine' @Zjk _ _ (4) (5) _ _ _ _ _ _ _ _ _ _ _ rfl nd rfl rfl (by decide) rfl rfl ?gg rfl (by rfl);case gg=>refine' @Za _ _ _ _ _ ?gh ?gi rfl;(case gh=>refine' @Zz _ _ _ _ _ _ _ Yc (pv 2) (Zi Ca_ hr (by decide) rfl (Za (pv 0) (Za (Zj Zp rfl T.b_len Xa (Za (pv 2) Zb rfl)) Zb rfl) rfl)) (fun _ _=>rfl));case gi=>refine' @Za _ _ _ _ _ ?gj Zb rfl;case gj=>refine' @Zz _ _ _ _ _ _ _ Yc (pv 2) (Zi Ca_ hr (by decide) rfl (Za (pv 0) (Za (Zj Zp rfl T.b_len Xa (Za (pv 2) Zb rfl)) Zb rfl) rfl)) (fun _ _=>rfl));case gf=>refine' @Zg _ _ _ ?gk;case gk=>refine' @Xu _ _ _ _ ?gl (by rfl);case gl=>refine' @Zft _ _ _ _ _ _ _ _ _ _ _ _ PySem.F.plainAttrs_list PySem.F.slot_list_append PySem.F.type_list_append Xd (pv 2) ?gm (by rfl) (by rfl) (by rfl) (by rfl) (by rfl);case gm=>refine' @Za _ _ _ _ _ ?gn Zb rfl;case gn=>refine' @Yn _ _ _ _ _ _ _ _ _ Ye rfl T.b_tuple Yk ?go (by decide) (by decide) (by rfl) (by rfl);case go=>refine' @Za _ _ _ _ _ ?gp Zb rfl;case gp=>refine' @Y0 _ _ _ _ _ _ _ (["_law_mine","_law_its"]) ([none,none]) _ _ ((gTup K 2 (Z7 (Z1 0) (Z7 (Z1 1) gNil)))) _ _ rfl (Z2 (by decide) rfl (by decide) rfl rfl) ?gq (fun _ _ _ _=>Yb (n:=2) rfl (Zh (pgB 0) (Zh (pgB 1) Zx))) (fun _ _ _ _=>Zl) (fun _ _ _ _=>Zi Cs_ hr (by decide) rfl (Za (pv 0) (Za (pv 1) Zb rfl) rfl)) (by intro _ ; rfl);case gq=>refine' @Zgx _ _ _ _ .t .t _ _ _ _ _ rfl T.b_zip (Za (pv 4) (Za (pv 5) Zb rfl) rfl) (by rfl) (by rfl));case g7=>refine' @Zd _ _ _ _ _ ?gr ?gs;(case gr=>refine' @Zs _ _ (6) _ _ _ _ nd rfl (Or.inr rfl) (Zi Cm_ hr (by decide) rfl (Za (pv 0) (Za (pv 1) Zb rfl) rfl)) (by rfl) (by first | exact Or.inl rfl | exact Or.inr rfl | assumption));case gs=>refine' @Zd _ _ _ _ _ ?gt ?gu;(case gt=>refine' @Xp _ _ _ _ _ _ _ _ _ _ (["_law_row_here","_law_values"]) ([none,some 6]) _ _ _ _ _ _ rfl rfl (Zn (i:=7) nd rfl (Or.inl rfl)) (Z6 (XN:=["_law_state_here","_law_wide","_law_rows_here","_law_turn","_law_one","_law_other","_law_values","_law_rights"]) (Scope.names (Ze Xv)) rfl rfl rfl (fun _ h=>Zw h) (by decide +kernel) rfl) (Yj (pv 2)) (fun _ _ _ _=>pgB 0) (fun _ _ _ _=>Zl) (fun _ _ _ _=>Zi Ci_ hr (by decide) rfl (Za (pv 0) (Za (pv 1) Zb rfl) rfl)) (by intro _ ; rfl));case gu=>refine' @Zd _ _ _ _ _ ?gv (Zg (Zm (Zv (Za (Yn Ye rfl T.b_tuple Yk (Za (pv 2) Zb rfl)) (Za (Yn Ye rfl T.b_tuple Yk (Za (pv 7) Zb rfl)) Zb rfl) rfl))));case gv=>refine' @Y7 _ _ _ _ _ _ _ _ ?gw ?gx Z3;(case gw=>refine' @PW.pt _ _ _ ?gy;case gy=>refine' @Zex _ _ _ _ _ _ _ ?gz ?g10;(case gz=>refine' @Zt _ _ _ _ _ _ _ _ (Zn5 (n74_ hu)) (pv 7) ?g11 (Zy _);case g11=>refine' @Yz _ _ _ _ Zb);case g10=>refine' @Zdd _ _ _ _ (Zt Zho (Zi Ca_ hr (by decide) rfl (Za (pv 0) (Za Zf Zb rfl) rfl)) Zf (Zy _)));case gx=>refine' @Zg _ _ _ ?g12;case g12=>refine' @Zac _ _ _ _ _ _ (Zi Cd_ hr (by decide) rfl (Za (pv 0) Zb rfl)) ?g13 (by rfl) (by rfl) (by rfl);case g13=>refine' @Zg1 _ _ _ _ _ _ _ (pv 7) (Zfu Zb6 Zf) Zbv (by intro _ ; rfl)
 refine ⟨_,rfl,l,5,rfl,hl,by decide,Y1 (by decide),fun r H1 r0 r1 k1 st1=>?_⟩;obtain ⟨wn,rfl⟩:=n75_ r0;refine ⟨_,rfl,l,5,rfl,st1,by decide,Y1 (by decide),fun r' H2 r0' r1' k2 st2=>?_⟩;obtain ⟨rn,rfl⟩:=n75_ r0';refine ⟨_,rfl,by omega,by omega,fun D nD=>?_⟩;refine Zlt (n:=rn) (l:=l) (fun H v (m:List Rat)=>IsRh H v m∧m.length=wn∧∀ q∈m,Dv 60 (2 ^ 50) q) (fun H1 H2 v x t r=>⟨r.1.tk t,r.2⟩) (by omega) (fun σ=>∃ u,σ=[u,some (.ref l),some (.int wn)]) ⟨_,rfl⟩ nD st2 (fun i H2 k hi=>hi) (fun H2 k=>n9_ _) (fun i x σ2 H7 H8 C hi k2 l2 y o c=>?_) (fun H3 us ms k3 st3 e3 hy a3=>?_)
 · obtain ⟨u,rfl⟩:=o;obtain ⟨rfl,rfl⟩:=y;exact ⟨_,rfl,_,rfl,l,wn,rfl,l2,by omega,fun H9 v m k9 l9 hv hl hr=>c _ _ _ m ⟨_,rfl⟩ k9 l9 ⟨hv,hl,hr⟩⟩
 have nDH:H D=none:=by
  cases e:H D with
  | none=>rfl
  | some o =>
    exfalso
    by_cases z:D=l
    · obtain ⟨ys,e'⟩:=st2.lst';rw [z,e'] at nD; cases nD
    · rw [k2 _ _ z (k1 _ _ z e)] at nD; cases nD
 have nDl:D≠l:=fun z=>by
  obtain ⟨ys,e'⟩:=st2.lst';rw [z,e'] at nD; cases nD
 have luA:us.length=ms.length:=a3.1
 have gA:∀ m∈ms,m.length=wn∧∀ q∈m,Dv 60 (2 ^ 50) q:=fun m hm=>by
  obtain ⟨i,hi,e⟩:=n45_ hm;obtain ⟨v,_,r⟩:=a3.got (show ms[i]? = some m by rw [n0_ hi,e]);exact r.2
 have lA:∀ m∈ms,m.length=wn:=fun m hm=>(gA m hm).1;have dA:∀ m∈ms,∀ q∈m,Dv 60 (2 ^ (50+0)) q:=fun m hm=>(gA m hm).2;refine ⟨_,rfl,z0_,fun e0 ne0=>?_⟩;generalize gG:upd H3 e0 (.lst [])=H4;obtain ⟨s4,e04⟩:=gen_upd gG ne0;have st4:=st3.same s4;refine ⟨D,e0,us,rfl,rfl,SqL.of (s4 _ _ e3),SqL.of e04,_,rfl,?_⟩
 by_cases hne:us=[]
 · rw [n14_ hne];refine iteF ?_;have KA:Keep l H H4:=((k1.trans k2).trans k3).trans s4.keep;have stA:=st4;have eA:=s4 _ _ e3;have aA:Al (IsRh H4) us ms:=a3.imp fun v m r=>r.1.tk s4.tk;refine ⟨_,rfl,by omega,by omega,?_⟩;refine Zaa (fun i σ H5=>∃ x3 x4 x5 us' ms',σ=[some (.ref l),some (.int wn),some (.ref D),x3,x4,x5,none,none]∧Keep l H H5∧StAt H5 l∧H5 D=some (.lst us')∧Al (IsRh H5) us' ms'∧ms'.length≤4+i∧(∀ m∈ms',m.length=wn)∧(∀ m∈ms',∀ q∈m,Dv 60 (2 ^ (50+i)) q)∧(us≠[]→0 < ms'.length)) ⟨_,_,_,us,ms,rfl,KA,stA,eA,aA,by omega,lA,dA,fun z=>by rw [← luA]; exact n71_.mpr z⟩ (fun i σ H5 hi p=>?_) (fun σ H5 p=>?_)
   · obtain ⟨x3,x4,x5,us',ms',rfl,K5,st5,e5,a5,l5,w5,d5,p5⟩:=p;simp at hi
   · obtain ⟨x3,x4,x5,us',ms',rfl,K5,st5,e5,a5,l5,w5,d5,p5⟩:=p;have l6:ms'.length≤6:=n19_ l5 (by show 4+Int.toNat _≤6; omega);have d6:∀ m∈ms',∀ q∈m,Dv 60 (2 ^ 52) q:=fun m hm q hq=>(d5 m hm q hq).mono (n11_ (by decide) (by show 50+Int.toNat _≤52; omega));refine ⟨_,rfl,_,rfl,l,wn,rfl,st5,by omega,fun H6 vv vs k6 st6 hvv lvv dvv=>?_⟩;have a6:Al (IsRh H6) us' ms':=a5.imp fun v m r=>r.tk (tkS k6 st5);have e6:=k6 _ _ nDl e5;have lu':=a6.1;obtain ⟨pv,vu,rfl,hpv,alv⟩:=hvv;refine ⟨_,rfl,D,rfl,⟨_,SqL.of e6⟩,fun E nE=>?_⟩;refine Zad (n:=us'.length) IsQh (fun H1 H2 v x k e r=>r.tk (Za5 k e)) (fun i=>(ms'.map fun m=>rdot m vs)[i]?) (by omega) (fun σ=>∃ a,σ=[a,some (.ref pv)]) ⟨_,rfl⟩ nE (fun i H3 s hi=>Zar (k:=.l) (show SK.l.At H3 D us' from s _ _ e6) hi) (fun H3 s=>Y5 (k:=.l) (show SK.l.At H3 D us' from s _ _ e6) (n9_ _)) (fun i x σ2 H7 H8 C N hi s7 eD y ok c n=>?_) (fun H7 es s7 e7 a7=>?_)
     · obtain ⟨u1,rfl⟩:=ok;obtain ⟨rfl,ex⟩:=Xj (k:=.l) (show SK.l.At H7 D us' from s7 _ _ e6) y;obtain ⟨m,em,pm,mu,rfl,hpm,alm⟩:=a6.get ex;have mm:=n1_ em;refine Xz ?_;refine ⟨_,rfl,_,rfl,pm,pv,.t,.t,mu,vu,m,vs,60,60,2 ^ 52,2 ^ 50,rfl,s7 _ _ hpm,alm.imp fun v x r=>r.tk s7.tk,s7 _ _ hpv,alv.imp fun v x r=>r.tk s7.tk,d6 m mm,dvv,by decide,by decide,by decide,?_,n21_ (by decide) (by decide),n21_ (by decide) (by decide),by rw [w5 m mm]; omega,by rw [w5 m mm,lvv],fun H9 r s9 hr=>c _ _ _ _ ⟨_,rfl⟩ s9 (by rw [n5_,em]; rfl) hr⟩;rw [← n49_];show 2 ^ 3 * _ < _
       rw [← n49_];exact n21_ (by decide) (by decide)
     rw [Z4 _ _ (by rw [n2_]; exact lu')] at a7
     have dR:∀ z∈ms'.map (fun m=>rdot m vs),Dv 3600 (2 ^ 104) z:=fun z hz=>by
      obtain ⟨m,hm,rfl⟩:=n22_.mp hz
      have:=Zi5 (c:=60 * 60) (A:=2 ^ 52 * 2 ^ 50) (List.zipWith (· * ·) m vs) fun z hz=>by
       obtain ⟨j,hj⟩:=n60_.mp hz;rw [n24_] at hj;split at hj
       · rename_i x y ex ey
         cases hj
         exact (d6 m hm x (n1_ ex)).mul (dvv y (n1_ ey))
       · cases hj
      refine (show Dv 3600 _ (rdot m vs) from this).mono ?_;have l4:(List.zipWith (· * ·) m vs).length≤2 ^ 2:=by rw [n33_,w5 m hm]; show _≤4; omega
      exact n19_ (n42_ _ l4) (by rw [← n49_,← n49_]; exact n9_ _)
     have VS:∀ v∈vs,∃ z:Int,v * ((60:Int):Rat)=(z:Rat):=fun v hv=>let ⟨z,e,_⟩:=dvv v hv; ⟨z,e⟩
     have rok:∀ gs:List Rat,gs.length=ms'.length→(∀ z∈gs,Dv 3600 (2 ^ 104) z)→(∀ (i:Nat),i+1 < ms'.length→gs[i]? = (ms'.map fun m=>rdot m vs)[i]?)→RowsOk ms' gs:=fun gs h1 h2 h3=>by
      have w:∀ m∈ms',m.length=wid ms':=fun m hm=>by
       rw [w5 m hm];cases ms' with
       | nil=>cases hm
       | cons m0 ms0=>exact (w5 m0 n7_).symm
      refine ⟨w,?_,l6,h1,d6,h2,vs,VS,fun i row r er eg hi=>?_⟩
      · cases hms:ms' with
        | nil=>exact n56_ _
        | cons m0 ms0 =>
          have:=w5 m0 (by rw [hms]; exact n7_)
          show m0.length≤4
          omega
      · have:=h3 i hi
        rw [eg,n5_,er] at this;exact Option.some.inj this
     have K7:Keep l H H7:=(K5.trans k6).trans s7.keep;have st7:=st6.same s7;have a7m:Al (IsRh H7) us' ms':=a6.imp fun v m r=>r.tk s7.tk;have e7D:=s7 _ _ e6
     have nEl:E≠l:=fun z=>by
      obtain ⟨ys,e'⟩:=st6.lst';rw [z,e'] at nE; cases nE
     have nEH:H E=none:=by
      cases e:H E with
      | none=>rfl
      | some o=>rw [k6 _ _ nEl (K5 _ _ nEl e)] at nE; cases nE
     have nDE:D≠E:=fun z=>by rw [z,nE] at e6; cases e6
     have les:=a7.1;rw [n2_] at les;refine ⟨_,rfl,z0_,fun e1 ne1=>?_⟩;generalize gG:upd H7 e1 (.lst [])=H8;obtain ⟨s8,e18⟩:=gen_upd gG ne1;refine ⟨E,e1,es,rfl,rfl,SqL.of (s8 _ _ e7),SqL.of e18,_,rfl,?_⟩
     by_cases hes:es=[]
     · rw [n14_ hes];refine iteF (iteF ?_);refine ⟨_,rfl,D,us',rfl,.inl ⟨SqL.of (s8 _ _ e7D),fun t1 n1=>?_⟩⟩;have z1:=Same.new (o:=.tup us') n1;refine ⟨_,rfl,E,es,rfl,.inl ⟨SqL.of (z1 _ _ (s8 _ _ e7)),fun t2 n2=>?_⟩⟩;have z2:=Same.new (o:=.tup es) n2;refine ⟨z2_,fun p3 n3=>?_⟩;have z3:=Same.new (o:=.tup [.ref t1,.ref t2]) n3;have z23:=z2.trans z3;have z13:=z1.trans z23;exact q _ p3 (.ref t1) (.ref t2) ms' (ms'.map fun m=>rdot m vs) ((K7.trans s8.keep).trans z13.keep) (((st7.same s8)).same z13) Zc ⟨t1,us',rfl,z23 _ _ Zc,((a7m.imp fun v m r=>r.tk s8.tk)).imp fun v m r=>r.tk z13.tk⟩ ⟨t2,es,rfl,z3 _ _ Zc,((a7.imp fun v m r=>r.tk s8.tk)).imp fun v x r=>r.tk z13.tk⟩ (rok _ (by rw [n2_]) dR (fun _ _=>rfl))
     rw [n17_ hes];refine iteT ?_;refine ⟨_,rfl,l,2,rfl,st7.same s8,by decide,Y1 (by decide),fun r2 H9 r20 r21 k9 st9=>⟨rfl,_,rfl,?_⟩⟩;have K9:Keep l H H9:=(K7.trans s8.keep).trans k9;have e9D:=k9 _ _ nDl (s8 _ _ e7D);have e9E:=k9 _ _ nEl (s8 _ _ e7);have tk79:Tk H7 H9:=fun b xs e=>tkS k9 (st7.same s8) _ _ (s8 _ _ e);refine ite2 (fun _=>?_) (fun _=>?_)
     · refine ⟨_,rfl,l,rfl,st9,fun H10 pf xf k10 st10 hpf hB=>?_⟩;have e10E:=k10 _ _ nEl e9E;have e10D:=k10 _ _ nDl e9D;have tk710:Tk H7 H10:=fun b xs e=>tkS k10 st9 _ _ (tk79 _ _ e);have pe:0 < es.length:=n71_.mpr hes;refine ⟨_,rfl,_,rfl,E,es,(-1:Int),es.length - 1,rfl,rfl,e10E,by unfold ixN; rw [if_neg (by omega),if_pos (by omega)]; congr 1; omega,?_⟩;have tkU:Tk H10 (upd H10 E (.lst (es.set (es.length - 1) (.ref pf)))):=Tk.upd_lst e10E;have fv:=Znm hB.1 hB.2;have KU:Keep l H (upd H10 E (.lst (es.set (es.length - 1) (.ref pf)))):=fun b o n e=>by rw [Zo (Zk e nEH)]; exact k10 _ _ n (K9 b o n e)
       have al_set:Al (IsQh (upd H10 E (.lst (es.set (es.length - 1) (.ref pf))))) (es.set (es.length - 1) (.ref pf)) ((ms'.map fun m=>rdot m vs).set (es.length - 1) xf):=⟨by rw [n68_,n68_,n2_]; exact les,fun j v x ev ex=>by
        rw [List.getElem?_set] at ev ex
        by_cases hj:es.length - 1=j
        · rw [if_pos hj,if_pos (by omega)] at ev;rw [if_pos hj,if_pos (by rw [n2_]; omega)] at ex;cases ev; cases ex
          exact ⟨pf,rfl,tkU _ _ hpf⟩
        · rw [if_neg hj] at ev ex;exact ((a7.2 j v x ev ex).tk tk710).tk tkU⟩
       have dS:∀ z∈(ms'.map fun m=>rdot m vs).set (es.length - 1) xf,Dv 3600 (2 ^ 104) z:=fun z hz=>by
        rcases List.mem_or_eq_of_mem_set hz with hz | rfl
        · exact dR z hz
        · have:=fv.times (e:=60)
          refine (show Dv 3600 _ z from this).mono ?_;exact n19_ (n53_ _ (show (60:Int).natAbs≤2 ^ 6 by decide)) (by rw [← n49_]; exact n11_ (by decide) (by decide))
       have oS:∀ (i:Nat),i+1 < ms'.length→((ms'.map fun m=>rdot m vs).set (es.length - 1) xf)[i]? = (ms'.map fun m=>rdot m vs)[i]?:=fun i hi=>by
        rw [List.getElem?_set,if_neg (by omega)]
       refine ⟨_,rfl,D,us',rfl,.inl ⟨SqL.of (by rw [Zo nDE]; exact e10D),fun t1 n1=>?_⟩⟩;have z1:=Same.new (o:=.tup us') n1;refine ⟨_,rfl,E,(es.set (es.length - 1) (.ref pf)),rfl,.inl ⟨SqL.of (z1 _ _ Zc),fun t2 n2=>?_⟩⟩;have z2:=Same.new (o:=.tup (es.set (es.length - 1) (.ref pf))) n2;refine ⟨z2_,fun p3 n3=>?_⟩;have z3:=Same.new (o:=.tup [.ref t1,.ref t2]) n3;have z23:=z2.trans z3;have z13:=z1.trans z23;exact q _ p3 (.ref t1) (.ref t2) ms' ((ms'.map fun m=>rdot m vs).set (es.length - 1) xf) (KU.trans z13.keep) (((st10.keep Keep.upd (Ne.symm nEl))).same z13) Zc ⟨t1,us',rfl,z23 _ _ Zc,((a7m.imp fun v m r=>(r.tk tk710).tk tkU)).imp fun v m r=>r.tk z13.tk⟩ ⟨t2,(es.set (es.length - 1) (.ref pf)),rfl,z3 _ _ Zc,(al_set).imp fun v x r=>r.tk z13.tk⟩ (rok _ (by rw [n68_,n2_]) dS oS)
     · skip
       refine ⟨_,rfl,D,us',rfl,.inl ⟨SqL.of e9D,fun t1 n1=>?_⟩⟩;have z1:=Same.new (o:=.tup us') n1;refine ⟨_,rfl,E,es,rfl,.inl ⟨SqL.of (z1 _ _ e9E),fun t2 n2=>?_⟩⟩;have z2:=Same.new (o:=.tup es) n2;refine ⟨z2_,fun p3 n3=>?_⟩;have z3:=Same.new (o:=.tup [.ref t1,.ref t2]) n3;have z23:=z2.trans z3;have z13:=z1.trans z23;exact q _ p3 (.ref t1) (.ref t2) ms' (ms'.map fun m=>rdot m vs) (K9.trans z13.keep) ((st9).same z13) Zc ⟨t1,us',rfl,z23 _ _ Zc,((a7m.imp fun v m r=>r.tk tk79)).imp fun v m r=>r.tk z13.tk⟩ ⟨t2,es,rfl,z3 _ _ Zc,((a7.imp fun v m r=>r.tk tk79)).imp fun v x r=>r.tk z13.tk⟩ (rok _ (by rw [n2_]) dR (fun _ _=>rfl))
 · rw [n17_ hne];refine iteT ?_;refine ⟨_,rfl,l,3,rfl,st4,by decide,Y1 (by decide),fun r3 H5 r30 r31 k5 st5=>?_⟩;obtain ⟨tn,rfl⟩:=n75_ r30;have KA:Keep l H H5:=(((k1.trans k2).trans k3).trans s4.keep).trans k5;have stA:=st5;have eA:=k5 _ _ nDl (s4 _ _ e3);have aA:Al (IsRh H5) us ms:=a3.imp fun v m r=>(r.1.tk s4.tk).tk (tkS k5 st4);refine ⟨_,rfl,by omega,by omega,?_⟩;refine Zaa (fun i σ H5=>∃ x3 x4 x5 us' ms',σ=[some (.ref l),some (.int wn),some (.ref D),x3,x4,x5,none,none]∧Keep l H H5∧StAt H5 l∧H5 D=some (.lst us')∧Al (IsRh H5) us' ms'∧ms'.length≤4+i∧(∀ m∈ms',m.length=wn)∧(∀ m∈ms',∀ q∈m,Dv 60 (2 ^ (50+i)) q)∧(us≠[]→0 < ms'.length)) ⟨_,_,_,us,ms,rfl,KA,stA,eA,aA,by omega,lA,dA,fun z=>by rw [← luA]; exact n71_.mpr z⟩ (fun i σ H5 hi p=>?_) (fun σ H5 p=>?_)
   · obtain ⟨x3,x4,x5,us',ms',rfl,K5,st5,e5,a5,l5,w5,d5,p5⟩:=p;have i2:i < 2:=by omega
     have lu':=a5.1;have pos:=p5 hne;refine ⟨_,rfl,_,rfl,_,rfl,D,us',rfl,.inl (SqL.of e5),l,us'.length,rfl,st5,by omega,Y1 (by rw [p64]; omega),fun ra H6 ra0 ra1 k6 st6=>?_⟩;obtain ⟨na,rfl⟩:=n75_ ra0;have e6:=k6 _ _ nDl e5;have na':na < us'.length:=by omega
     refine ⟨D,us',na,us'[na],rfl,rfl,SqL.of e6,Yu (n0_ na'),?_⟩;refine ⟨_,rfl,_,rfl,_,rfl,D,us',rfl,.inl (SqL.of e6),l,us'.length,rfl,st6,by omega,Y1 (by rw [p64]; omega),fun rb H7 rb0 rb1 k7 st7=>?_⟩;obtain ⟨nb,rfl⟩:=n75_ rb0;have e7:=k7 _ _ nDl e6;have nb':nb < us'.length:=by omega
     refine ⟨D,us',nb,us'[nb],rfl,rfl,SqL.of e7,Yu (n0_ nb'),_,_,rfl,?_⟩;have tk57:Tk H5 H7:=fun b xs e=>tkS k7 st6 _ _ (tkS k6 st5 _ _ e);have a7:Al (IsRh H7) us' ms':=a5.imp fun v m r=>r.tk tk57;obtain ⟨ma,ema,pa,va,eva,hpa,ala⟩:=a7.get (n0_ na');obtain ⟨mb,emb,pb,vb,evb,hpb,alb⟩:=a7.get (n0_ nb');have mma:=n1_ ema;have mmb:=n1_ emb;have la:=ala.1;have lb:=alb.1;have wa:=w5 ma mma;have wb:=w5 mb mmb;refine ⟨_,rfl,.inl ⟨rfl,_,SqL.of e7⟩,_,rfl,_,rfl,pa,pb,by rw [eva,evb],⟨_,SqT.of hpa⟩,⟨_,SqT.of hpb⟩,fun E nE=>?_⟩;refine lc_Z (k:=.t) (l:=.t) (vs:=va) (ws:=vb) IsQh (fun _ _ _ _ t r=>r.tk t) (List.zipWith (·+·) ma mb) (by rw [n33_]; omega) (by omega) nE hpa hpb (fun j v w H8 C hv hw s8 c=>?_) (fun H8 us8 s8 e8 a8=>?_)
     · obtain ⟨x,ex,px,rfl,hx⟩:=ala.get hv;obtain ⟨y,ey,py,rfl,hy⟩:=alb.get hw;have b44:∀ (m:List Rat),m∈ms'→∀ z∈m,FM.B 1990 z:=fun m hm z hz=>(d5 m hm z hz).b (by decide) (by decide) (n21_ (by decide) (by omega));exact ⟨_,rfl,_,rfl,px,py,x,y,rfl,s8 _ _ hx,s8 _ _ hy,b44 ma mma x (n1_ ex),b44 mb mmb y (n1_ ey),fun z H9 s9 hz=>c _ _ _ s9 (by rw [n24_,ex,ey]) ⟨z,rfl,hz⟩⟩
     refine ⟨E,us8,rfl,.inl ⟨SqL.of e8,fun t nt=>?_⟩⟩;generalize gG:upd H8 t (.tup us8)=H9;obtain ⟨s9,a9⟩:=gen_upd gG nt;have s79:=s8.trans s9;have e9:=s79 _ _ e7;refine ⟨D,_,_,rfl,rfl,e9,by rw [sizeLine_eq]; omega,?_⟩;have tk9:Tk H9 (upd H9 D (.lst (us'++[.ref t]))):=Tk.upd_lst e9;refine ⟨_,_,_,us'++[.ref t],ms'++[List.zipWith (·+·) ma mb],rfl,fun b o n e=>?_,(st7.same s79).keep Keep.upd (Ne.symm nDl),Zc,?_,by rw [n26_]; show _+1≤_; omega,fun m hm=>?_,fun m hm z hz=>?_,fun _=>by rw [n26_]; show 0 < _+1; omega⟩
     · rw [Zo (Zk e nDH)];exact s79 _ _ (k7 _ _ n (k6 _ _ n (K5 b o n e)))
     · exact ((a7.imp fun v m r=>(r.tk s79.tk).tk tk9).snoc ⟨t,us8,rfl,tk9 _ _ a9,a8.imp fun v x r=>(r.tk s9.tk).tk tk9⟩)
     · rcases n29_.mp hm with hm | hm
       · exact w5 m hm
       · rw [n13_.mp hm,n33_]; omega
     · rcases n29_.mp hm with hm | hm
       · exact (d5 m hm z hz).mono (n11_ (by decide) (by omega))
       · rw [n13_.mp hm] at hz;obtain ⟨j,hj⟩:=n60_.mp hz;rw [n24_] at hj;split at hj
         · rename_i x y ex ey
           cases hj
           refine ((d5 ma mma x (n1_ ex)).add (d5 mb mmb y (n1_ ey))).mono ?_;rw [show 50+(i+1)=(50+i)+1 from rfl,Nat.pow_succ]; omega
         · cases hj
   · obtain ⟨x3,x4,x5,us',ms',rfl,K5,st5,e5,a5,l5,w5,d5,p5⟩:=p;have l6:ms'.length≤6:=n19_ l5 (by show 4+Int.toNat _≤6; omega);have d6:∀ m∈ms',∀ q∈m,Dv 60 (2 ^ 52) q:=fun m hm q hq=>(d5 m hm q hq).mono (n11_ (by decide) (by show 50+Int.toNat _≤52; omega));refine ⟨_,rfl,_,rfl,l,wn,rfl,st5,by omega,fun H6 vv vs k6 st6 hvv lvv dvv=>?_⟩;have a6:Al (IsRh H6) us' ms':=a5.imp fun v m r=>r.tk (tkS k6 st5);have e6:=k6 _ _ nDl e5;have lu':=a6.1;obtain ⟨pv,vu,rfl,hpv,alv⟩:=hvv;refine ⟨_,rfl,D,rfl,⟨_,SqL.of e6⟩,fun E nE=>?_⟩;refine Zad (n:=us'.length) IsQh (fun H1 H2 v x k e r=>r.tk (Za5 k e)) (fun i=>(ms'.map fun m=>rdot m vs)[i]?) (by omega) (fun σ=>∃ a,σ=[a,some (.ref pv)]) ⟨_,rfl⟩ nE (fun i H3 s hi=>Zar (k:=.l) (show SK.l.At H3 D us' from s _ _ e6) hi) (fun H3 s=>Y5 (k:=.l) (show SK.l.At H3 D us' from s _ _ e6) (n9_ _)) (fun i x σ2 H7 H8 C N hi s7 eD y ok c n=>?_) (fun H7 es s7 e7 a7=>?_)
     · obtain ⟨u1,rfl⟩:=ok;obtain ⟨rfl,ex⟩:=Xj (k:=.l) (show SK.l.At H7 D us' from s7 _ _ e6) y;obtain ⟨m,em,pm,mu,rfl,hpm,alm⟩:=a6.get ex;have mm:=n1_ em;refine Xz ?_;refine ⟨_,rfl,_,rfl,pm,pv,.t,.t,mu,vu,m,vs,60,60,2 ^ 52,2 ^ 50,rfl,s7 _ _ hpm,alm.imp fun v x r=>r.tk s7.tk,s7 _ _ hpv,alv.imp fun v x r=>r.tk s7.tk,d6 m mm,dvv,by decide,by decide,by decide,?_,n21_ (by decide) (by decide),n21_ (by decide) (by decide),by rw [w5 m mm]; omega,by rw [w5 m mm,lvv],fun H9 r s9 hr=>c _ _ _ _ ⟨_,rfl⟩ s9 (by rw [n5_,em]; rfl) hr⟩;rw [← n49_];show 2 ^ 3 * _ < _
       rw [← n49_];exact n21_ (by decide) (by decide)
     rw [Z4 _ _ (by rw [n2_]; exact lu')] at a7
     have dR:∀ z∈ms'.map (fun m=>rdot m vs),Dv 3600 (2 ^ 104) z:=fun z hz=>by
      obtain ⟨m,hm,rfl⟩:=n22_.mp hz
      have:=Zi5 (c:=60 * 60) (A:=2 ^ 52 * 2 ^ 50) (List.zipWith (· * ·) m vs) fun z hz=>by
       obtain ⟨j,hj⟩:=n60_.mp hz;rw [n24_] at hj;split at hj
       · rename_i x y ex ey
         cases hj
         exact (d6 m hm x (n1_ ex)).mul (dvv y (n1_ ey))
       · cases hj
      refine (show Dv 3600 _ (rdot m vs) from this).mono ?_;have l4:(List.zipWith (· * ·) m vs).length≤2 ^ 2:=by rw [n33_,w5 m hm]; show _≤4; omega
      exact n19_ (n42_ _ l4) (by rw [← n49_,← n49_]; exact n9_ _)
     have VS:∀ v∈vs,∃ z:Int,v * ((60:Int):Rat)=(z:Rat):=fun v hv=>let ⟨z,e,_⟩:=dvv v hv; ⟨z,e⟩
     have rok:∀ gs:List Rat,gs.length=ms'.length→(∀ z∈gs,Dv 3600 (2 ^ 104) z)→(∀ (i:Nat),i+1 < ms'.length→gs[i]? = (ms'.map fun m=>rdot m vs)[i]?)→RowsOk ms' gs:=fun gs h1 h2 h3=>by
      have w:∀ m∈ms',m.length=wid ms':=fun m hm=>by
       rw [w5 m hm];cases ms' with
       | nil=>cases hm
       | cons m0 ms0=>exact (w5 m0 n7_).symm
      refine ⟨w,?_,l6,h1,d6,h2,vs,VS,fun i row r er eg hi=>?_⟩
      · cases hms:ms' with
        | nil=>exact n56_ _
        | cons m0 ms0 =>
          have:=w5 m0 (by rw [hms]; exact n7_)
          show m0.length≤4
          omega
      · have:=h3 i hi
        rw [eg,n5_,er] at this;exact Option.some.inj this
     have K7:Keep l H H7:=(K5.trans k6).trans s7.keep;have st7:=st6.same s7;have a7m:Al (IsRh H7) us' ms':=a6.imp fun v m r=>r.tk s7.tk;have e7D:=s7 _ _ e6
     have nEl:E≠l:=fun z=>by
      obtain ⟨ys,e'⟩:=st6.lst';rw [z,e'] at nE; cases nE
     have nEH:H E=none:=by
      cases e:H E with
      | none=>rfl
      | some o=>rw [k6 _ _ nEl (K5 _ _ nEl e)] at nE; cases nE
     have nDE:D≠E:=fun z=>by rw [z,nE] at e6; cases e6
     have les:=a7.1;rw [n2_] at les;refine ⟨_,rfl,z0_,fun e1 ne1=>?_⟩;generalize gG:upd H7 e1 (.lst [])=H8;obtain ⟨s8,e18⟩:=gen_upd gG ne1;refine ⟨E,e1,es,rfl,rfl,SqL.of (s8 _ _ e7),SqL.of e18,_,rfl,?_⟩
     by_cases hes:es=[]
     · rw [n14_ hes];refine iteF (iteF ?_);refine ⟨_,rfl,D,us',rfl,.inl ⟨SqL.of (s8 _ _ e7D),fun t1 n1=>?_⟩⟩;have z1:=Same.new (o:=.tup us') n1;refine ⟨_,rfl,E,es,rfl,.inl ⟨SqL.of (z1 _ _ (s8 _ _ e7)),fun t2 n2=>?_⟩⟩;have z2:=Same.new (o:=.tup es) n2;refine ⟨z2_,fun p3 n3=>?_⟩;have z3:=Same.new (o:=.tup [.ref t1,.ref t2]) n3;have z23:=z2.trans z3;have z13:=z1.trans z23;exact q _ p3 (.ref t1) (.ref t2) ms' (ms'.map fun m=>rdot m vs) ((K7.trans s8.keep).trans z13.keep) (((st7.same s8)).same z13) Zc ⟨t1,us',rfl,z23 _ _ Zc,((a7m.imp fun v m r=>r.tk s8.tk)).imp fun v m r=>r.tk z13.tk⟩ ⟨t2,es,rfl,z3 _ _ Zc,((a7.imp fun v m r=>r.tk s8.tk)).imp fun v x r=>r.tk z13.tk⟩ (rok _ (by rw [n2_]) dR (fun _ _=>rfl))
     rw [n17_ hes];refine iteT ?_;refine ⟨_,rfl,l,2,rfl,st7.same s8,by decide,Y1 (by decide),fun r2 H9 r20 r21 k9 st9=>⟨rfl,_,rfl,?_⟩⟩;have K9:Keep l H H9:=(K7.trans s8.keep).trans k9;have e9D:=k9 _ _ nDl (s8 _ _ e7D);have e9E:=k9 _ _ nEl (s8 _ _ e7);have tk79:Tk H7 H9:=fun b xs e=>tkS k9 (st7.same s8) _ _ (s8 _ _ e);refine ite2 (fun _=>?_) (fun _=>?_)
     · refine ⟨_,rfl,l,rfl,st9,fun H10 pf xf k10 st10 hpf hB=>?_⟩;have e10E:=k10 _ _ nEl e9E;have e10D:=k10 _ _ nDl e9D;have tk710:Tk H7 H10:=fun b xs e=>tkS k10 st9 _ _ (tk79 _ _ e);have pe:0 < es.length:=n71_.mpr hes;refine ⟨_,rfl,_,rfl,E,es,(-1:Int),es.length - 1,rfl,rfl,e10E,by unfold ixN; rw [if_neg (by omega),if_pos (by omega)]; congr 1; omega,?_⟩;have tkU:Tk H10 (upd H10 E (.lst (es.set (es.length - 1) (.ref pf)))):=Tk.upd_lst e10E;have fv:=Znm hB.1 hB.2;have KU:Keep l H (upd H10 E (.lst (es.set (es.length - 1) (.ref pf)))):=fun b o n e=>by rw [Zo (Zk e nEH)]; exact k10 _ _ n (K9 b o n e)
       have al_set:Al (IsQh (upd H10 E (.lst (es.set (es.length - 1) (.ref pf))))) (es.set (es.length - 1) (.ref pf)) ((ms'.map fun m=>rdot m vs).set (es.length - 1) xf):=⟨by rw [n68_,n68_,n2_]; exact les,fun j v x ev ex=>by
        rw [List.getElem?_set] at ev ex
        by_cases hj:es.length - 1=j
        · rw [if_pos hj,if_pos (by omega)] at ev;rw [if_pos hj,if_pos (by rw [n2_]; omega)] at ex;cases ev; cases ex
          exact ⟨pf,rfl,tkU _ _ hpf⟩
        · rw [if_neg hj] at ev ex;exact ((a7.2 j v x ev ex).tk tk710).tk tkU⟩
       have dS:∀ z∈(ms'.map fun m=>rdot m vs).set (es.length - 1) xf,Dv 3600 (2 ^ 104) z:=fun z hz=>by
        rcases List.mem_or_eq_of_mem_set hz with hz | rfl
        · exact dR z hz
        · have:=fv.times (e:=60)
          refine (show Dv 3600 _ z from this).mono ?_;exact n19_ (n53_ _ (show (60:Int).natAbs≤2 ^ 6 by decide)) (by rw [← n49_]; exact n11_ (by decide) (by decide))
       have oS:∀ (i:Nat),i+1 < ms'.length→((ms'.map fun m=>rdot m vs).set (es.length - 1) xf)[i]? = (ms'.map fun m=>rdot m vs)[i]?:=fun i hi=>by
        rw [List.getElem?_set,if_neg (by omega)]
       refine ⟨_,rfl,D,us',rfl,.inl ⟨SqL.of (by rw [Zo nDE]; exact e10D),fun t1 n1=>?_⟩⟩;have z1:=Same.new (o:=.tup us') n1;refine ⟨_,rfl,E,(es.set (es.length - 1) (.ref pf)),rfl,.inl ⟨SqL.of (z1 _ _ Zc),fun t2 n2=>?_⟩⟩;have z2:=Same.new (o:=.tup (es.set (es.length - 1) (.ref pf))) n2;refine ⟨z2_,fun p3 n3=>?_⟩;have z3:=Same.new (o:=.tup [.ref t1,.ref t2]) n3;have z23:=z2.trans z3;have z13:=z1.trans z23;exact q _ p3 (.ref t1) (.ref t2) ms' ((ms'.map fun m=>rdot m vs).set (es.length - 1) xf) (KU.trans z13.keep) (((st10.keep Keep.upd (Ne.symm nEl))).same z13) Zc ⟨t1,us',rfl,z23 _ _ Zc,((a7m.imp fun v m r=>(r.tk tk710).tk tkU)).imp fun v m r=>r.tk z13.tk⟩ ⟨t2,(es.set (es.length - 1) (.ref pf)),rfl,z3 _ _ Zc,(al_set).imp fun v x r=>r.tk z13.tk⟩ (rok _ (by rw [n68_,n2_]) dS oS)
     · skip
       refine ⟨_,rfl,D,us',rfl,.inl ⟨SqL.of e9D,fun t1 n1=>?_⟩⟩;have z1:=Same.new (o:=.tup us') n1;refine ⟨_,rfl,E,es,rfl,.inl ⟨SqL.of (z1 _ _ e9E),fun t2 n2=>?_⟩⟩;have z2:=Same.new (o:=.tup es) n2;refine ⟨z2_,fun p3 n3=>?_⟩;have z3:=Same.new (o:=.tup [.ref t1,.ref t2]) n3;have z23:=z2.trans z3;have z13:=z1.trans z23;exact q _ p3 (.ref t1) (.ref t2) ms' (ms'.map fun m=>rdot m vs) (K9.trans z13.keep) ((st9).same z13) Zc ⟨t1,us',rfl,z23 _ _ Zc,((a7m.imp fun v m r=>r.tk tk79)).imp fun v m r=>r.tk z13.tk⟩ ⟨t2,es,rfl,z3 _ _ Zc,((a7.imp fun v m r=>r.tk tk79)).imp fun v x r=>r.tk z13.tk⟩ (rok _ (by rw [n2_]) dR (fun _ _=>rfl))
abbrev Zai:Stmt:=top 62
theorem Zd5 (F:Fun K "_law_is_row" "_law_is_row" Zai f fd) (Cw_:a35_ P w K mg base):FnOk P w K mg base CX0 4 f fd ["_law_many","_law_thing"] Zf3:=by
 have sc:FnScope ["_law_many","_law_thing"] ["_law_many","_law_thing"] (Ze Zai):=fsc (by decide +kernel);refine F.ok sc (fun vs H Q E h=>by obtain ⟨N,k,v,d,n,rfl,_⟩:=h;rfl) fun cdv A outer s H vs Q E hr h=>?_;obtain ⟨N,k,v,d,n,rfl,h,hk,hz,q⟩:=h;refine' ⟨_,?term,?read⟩
 case term=>refine' @Zg _ _ _ ?g1;case g1=>refine' @Zm _ _ _ _ ?g2;case g2=>refine' @Zgz _ _ _ _ _ _ _ (Zj Y4 rfl T.b_isinstance Z0 (Za (pv 1) (Za (Xk (v:=.ty "tuple") rfl T.b_tuple Yk rfl) Zb rfl) rfl)) ?g3;case g3=>refine' @Zgz _ _ _ _ _ _ _ (Zaq Zho (Zj Zp rfl T.b_len Xa (Za (pv 1) Zb rfl)) (pv 0) (Zy _)) ?g4;case g4=>refine' @Zjd _ _ _ _ _ ?g5;case g5=>refine' @Zj _ _ _ _ _ _ _ _ _ (Xs rfl) rfl T.b_all Zd1 ?g6 (by decide) (by decide) (by rfl) (by rfl);case g6=>refine' @Za _ _ _ _ _ ?g7 Zb rfl;case g7=>refine' @Y0 _ _ _ _ _ _ _ (["_law_one"]) ([none]) _ _ _ _ _ rfl (Z2 (by decide) rfl (by decide) rfl rfl) (Zeb (pv 1)) (fun _ _ _ _=>pgB 0) (fun _ _ _ _=>Zl) (fun _ _ _ _=>Zi Cw_ hr (by decide) rfl (Za (pv 0) Zb rfl)) (by intro _ ; rfl)
 rcases h.isT with ⟨a,us,ds,rfl,rfl,ha,hs⟩ | e
 case inr =>
  obtain ⟨t,ty,ki⟩:=h.ty (K:=K);refine ⟨_,rfl,_,_,t,_,rfl,ty,ki,_,rfl,?_⟩;rw [e]; rw [Zff e] at q;exact iteF (q _ (Same.refl H))
 refine ⟨_,rfl,_,_,_,_,rfl,TyOf.tup ha,rfl,true,rfl,iteT ?_⟩;have hl:=hs.len;have hz1:1+Zr ds≤1000:=hz;have h1000:us.length≤1000:=by have:=Zgd ds; omega
 refine ⟨_,rfl,a,us,rfl,.inr (SqT.of ha),_,rfl,rfl,_,rfl,?_⟩
 by_cases hn:us.length=n
 case neg =>
  rw [show decide (V.int (us.length:Int)=V.int (n:Nat))=false from n17_ (fun z=>hn (by have:=V.int.inj z; omega))];rw [Zjo (by omega)] at q;exact iteF (q _ (Same.refl H))
 rw [n14_ (show V.int (us.length:Int)=V.int (n:Nat) by rw [hn])];refine iteT ?_;refine ⟨_,rfl,a,rfl,⟨_,SqT.of ha⟩,fun D nD=>?_⟩;refine lc_T (k:=.t) (vs:=us) RB hRB (ds.map isFr) (by simp [hl]) h1000 nD ha (fun i w H2 C hw s2 c=>?_) (fun H2 us' s2 e2 a2=>?_)
 · obtain ⟨dx,ed,hdx⟩:=hs.get hw;exact ⟨_,rfl,N,k,w,dx,rfl,hdx.same s2,hk,fun H3 s3=>c _ _ (isFr dx) s3 (by rw [n5_,ed]; rfl) rfl⟩
 · rw [a2.bls] at e2;refine ⟨D,ds.map isFr,rfl,SqL.of e2,?_⟩;have z:(ds.map isFr).all id=ds.all isFr:=by rw [List.all_map]; rfl
   rw [z];rw [Zi3 (by omega)] at q;exact q _ s2
abbrev Ys:Stmt:=top 63
theorem Zbp (F:Fun K "_law_is_solution" "_law_is_solution" Ys f fd) (Ci_:a33_ P w K mg base) (Cl_:a36_ P w K mg base):FnOk P w K mg base CX0 5 f fd ["_law_rows_here","_law_rights","_law_thing"] (Zfd solB):=by
 have sc:FnScope ["_law_rows_here","_law_rights","_law_thing"] ["_law_rows_here","_law_rights","_law_thing"] (Ze Ys):=fsc (by decide +kernel);refine F.ok sc (fun vs H Q E h=>by obtain ⟨N,k,v,u,x,ms,qs,d,rfl,_⟩:=h;rfl) fun cdv A outer s H vs Q E hr h=>?_;obtain ⟨N,k,v,u,x,ms,qs,d,rfl,h1,h2,R,h3,hk,hz3,LT,q⟩:=h;have hu:=Zfs hr;refine' ⟨_,?term,?read⟩
 case term=>refine' @Zd _ _ _ _ _ ?g1 ?g2;(case g1=>refine' @Y7 _ _ _ _ _ _ _ _ ?g3 (Zg (Zm Zau)) Z3;case g3=>refine' @X4 _ _ _ _ ?g4;case g4=>refine' @Z5 _ _ _ ?g5 (fun _=>rfl);case g5=>refine' @Zi _ _ _ _ _ _ _ _ _ _ _ Cl_ hr (by decide) rfl ?g6 (by decide) (by rfl) (by rfl);case g6=>refine' @Za _ _ _ _ _ ?g7 (Za (pv 2) Zb rfl) rfl;case g7=>refine' @Zal _ _ _ _ _ _ _ _ (Zt (Zmd (n74_ hu)) (pv 0) (Zv Zb) (Zy _)) ?g8 Zf;case g8=>refine' @Zj _ _ _ _ _ _ _ _ _ Zp rfl T.b_len Xa ?g9 (by decide) (by decide) (by rfl) (by rfl);case g9=>refine' @Za _ _ _ _ _ ?ga Zb rfl;case ga=>refine' @Zz _ _ _ _ _ _ _ Ym (pv 0) Zf (fun _ _=>rfl));case g2=>refine' @Zg _ _ _ ?gb;case gb=>refine' @Zm _ _ _ _ ?gc;case gc=>refine' @Zaq _ _ _ _ _ _ _ _ (Zl0 (n74_ hu)) ?gd ?ge (Zy _);(case gd=>refine' @Y0 _ _ _ _ _ _ _ (["_law_at","_law_row_here","_law_thing","_law_rights"]) ([none,none,some 2,some 1]) _ _ ((gTup K 2 (Z7 (Z1 0) (Z7 (Z1 1) gNil)))) _ _ rfl (Z6 (XN:=["_law_rows_here","_law_rights","_law_thing"]) (Scope.names (Ze Ys)) rfl rfl rfl (fun _ h=>Zw h) (by decide +kernel) rfl) (Zfj rfl T.b_enumerate (Za (pv 0) Zb rfl)) (fun _ _ _ _=>Yb (n:=2) rfl (Zh (pgB 0) (Zh (pgB 1) Zx))) (fun _ _ _ _=>Zb0 (Zt (Zny hu) (Zi Ci_ hr (by decide) rfl (Za (pv 1) (Za (pv 2) Zb rfl) rfl)) (Zz (Zap K rfl) (pv 3) (pv 0) (fun _ _=>rfl)) (Zy _))) (fun _ _ _ _=>pv 0) (by intro _ ; rfl));case ge=>refine' @Yz _ _ _ _ Zb
 obtain ⟨E,B,E1,okd,E9,B9⟩:=LT;obtain ⟨a,us,rfl,ha,al⟩:=h1;obtain ⟨b,gs,rfl,hb,alg⟩:=h2;have lu:=al.1;have lg:=alg.1;have rl:=R.rl;have m6:=R.m6;have w4:=R.w4;have qe:∀ H',Same H H'→Q (.bl (Xe (wid ms) d && (List.zipWith (fun row r=>decide (rdot row (rowQ d)=r)) ms qs).all id)) H':=q;refine ⟨_,rfl,z0_,fun e0 ne0=>?_⟩;generalize gG:upd H e0 (.tup [])=H1;obtain ⟨s1,a1⟩:=gen_upd gG ne0;refine ⟨a,e0,us,rfl,rfl,SqT.of (s1 _ _ ha),SqT.of a1,_,rfl,?_⟩
 by_cases hne:us=[]
 · rw [n14_ hne];refine iteF ?_
   have WW:([V.int 0,x]:List V)=[.int ((wid ms:Nat):Int),x]:=by
    have:ms=[]:=List.length_eq_zero_iff.mp (by rw [← lu,hne]; rfl)
    rw [this]; rfl
   refine ⟨_,rfl,N,k,x,d,wid ms,WW,h3.same s1,hk,by omega,fun H2 s2=>⟨_,rfl,?_⟩⟩;have S2:=s1.trans s2;cases e3:Xe (wid ms) d with
   | false=>rw [e3,n85_] at qe; exact iteT (qe _ S2)
   | true =>
   rw [e3,n87_] at qe;refine iteF ?_;obtain ⟨px,xs,rfl,hx,alx,lx,dvx⟩:=Zld h3 e3;have dx:=dvx E B okd;refine ⟨_,rfl,a,.t,rfl,⟨_,SqT.of (S2 _ _ ha)⟩,fun D nD=>?_⟩;refine Zad (n:=us.length) (fun _ _ (_:Unit)=>True) (fun _ _ _ _ _ _ _=>trivial) (fun i=>if decide (rdot (ms.getD i []) (rowQ d)=qs.getD i 0)=true then none else some ()) (by omega) (fun σ=>∃ u v,σ=[u,v,some (.ref px),some (.ref b)]) ⟨_,_,rfl⟩ nD (fun i H3 s hi=>⟨us,us[i],SqT.of (s _ _ (S2 _ _ ha)),n0_ hi⟩) (fun H3 s=>⟨us,SqT.of (s _ _ (S2 _ _ ha)),rfl⟩) (fun i y σ2 H3 H4 C N' hi s3 eD yl ok c n=>?_) (fun H3 us3 s3 e3' a3=>?_)
   · obtain ⟨u1,u2,rfl⟩:=ok;obtain ⟨p,w',rfl,np,rfl,y1⟩:=yl;have ew:=y1 us (SqT.of (s3 _ _ (S2 _ _ ha)));obtain ⟨m,em,pm,mu,rfl,hpm,alm⟩:=al.get ew;have mm:=n1_ em;have hi2:i < gs.length:=by omega
     obtain ⟨g,eg,pg,epg,hpg⟩:=alg.get (n0_ hi2);generalize gG:upd H3 p (.tup [.int i,.ref pm])=H4;obtain ⟨s4,a4⟩:=gen_upd gG np;have S4:=S2.trans (s3.trans s4);refine ⟨p,_,rfl,SqT.of a4,rfl,_,_,rfl,_,_,rfl,rfl,?_⟩;refine ⟨_,rfl,_,rfl,pm,px,.t,.t,mu,xs,m,rowQ d,60,E,2 ^ 52,B,rfl,S4 _ _ hpm,alm.imp fun v x r=>r.tk S4.tk,S4 _ _ hx,alx.imp fun v x r=>r.tk S4.tk,R.r60 m mm,dx,by decide,E1,?_,?_,n21_ (by decide) (by decide),?_,by rw [R.wd m mm]; omega,by rw [R.wd m mm,lx],fun H5 r s5 ⟨pr,er,hr⟩=>?_⟩
     · rw [n27_];rw [n27_] at E9;exact n10_ (n42_ _ (by decide)) E9
     · exact n10_ (n53_ _ (n42_ _ (n11_ (by decide) (by decide)))) B9
     · exact n10_ (n19_ (n44_ _ (Nat.two_pow_pos 104)) (n44_ _ (by decide))) B9
     have S5:=S4.trans s5;subst er;refine ⟨_,rfl,_,rfl,b,gs,(i:Int),gs[i],rfl,rfl,SqT.of (S5 _ _ hb),Yu (n0_ hi2),pr,pg,rdot m (rowQ d),g,rfl,epg,hr,S5 _ _ hpg,_,rfl,?_⟩;have gm:ms.getD i []=m:=Xr em;have gq:qs.getD i 0=g:=Xr eg;show if (!decide (rdot m (rowQ d)=g))=true then _ else _
     rw [gm,gq] at c n
     by_cases hz:rdot m (rowQ d)=g
     · rw [n14_ hz];exact n _ _ ⟨_,_,rfl⟩ (s4.trans s5) (by rw [n14_ hz]; rfl)
     · rw [n17_ hz];exact ⟨_,rfl,c _ _ _ () ⟨_,_,rfl⟩ (s4.trans s5) (by rw [n17_ hz]; rfl) trivial⟩
   · refine ⟨z0_,fun e9 ne9=>?_⟩;have s9:=Same.new (o:=.lst []) ne9;refine ⟨D,e9,us3,rfl,rfl,SqL.of (s9 _ _ e3'),SqL.of Zc,?_⟩;rw [Zc5 (fun i=>decide (rdot (ms.getD i []) (rowQ d)=qs.getD i 0)) a3.1,lu,Zn7 (g:=fun row r=>decide (rdot row (rowQ d)=r)) rl];exact qe _ (S2.trans (s3.trans s9))
 · rw [n17_ hne];refine iteT ?_;have pos:0 < us.length:=n71_.mpr hne;obtain ⟨m0,em0,p0,mu0,ep0,hp0,alm0⟩:=al.get (n0_ pos);refine ⟨_,rfl,a,us,0,_,rfl,rfl,SqT.of (s1 _ _ ha),Yu (n0_ pos),p0,mu0,by rw [ep0],.inr (SqT.of (s1 _ _ hp0)),?_⟩;have WW:([V.int (mu0.length:Int),x]:List V)=[.int ((wid ms:Nat):Int),x]:=by rw [alm0.1,R.wd m0 (n1_ em0)]
   refine ⟨_,rfl,N,k,x,d,wid ms,WW,h3.same s1,hk,by omega,fun H2 s2=>⟨_,rfl,?_⟩⟩;have S2:=s1.trans s2;cases e3:Xe (wid ms) d with
   | false=>rw [e3,n85_] at qe; exact iteT (qe _ S2)
   | true =>
   rw [e3,n87_] at qe;refine iteF ?_;obtain ⟨px,xs,rfl,hx,alx,lx,dvx⟩:=Zld h3 e3;have dx:=dvx E B okd;refine ⟨_,rfl,a,.t,rfl,⟨_,SqT.of (S2 _ _ ha)⟩,fun D nD=>?_⟩;refine Zad (n:=us.length) (fun _ _ (_:Unit)=>True) (fun _ _ _ _ _ _ _=>trivial) (fun i=>if decide (rdot (ms.getD i []) (rowQ d)=qs.getD i 0)=true then none else some ()) (by omega) (fun σ=>∃ u v,σ=[u,v,some (.ref px),some (.ref b)]) ⟨_,_,rfl⟩ nD (fun i H3 s hi=>⟨us,us[i],SqT.of (s _ _ (S2 _ _ ha)),n0_ hi⟩) (fun H3 s=>⟨us,SqT.of (s _ _ (S2 _ _ ha)),rfl⟩) (fun i y σ2 H3 H4 C N' hi s3 eD yl ok c n=>?_) (fun H3 us3 s3 e3' a3=>?_)
   · obtain ⟨u1,u2,rfl⟩:=ok;obtain ⟨p,w',rfl,np,rfl,y1⟩:=yl;have ew:=y1 us (SqT.of (s3 _ _ (S2 _ _ ha)));obtain ⟨m,em,pm,mu,rfl,hpm,alm⟩:=al.get ew;have mm:=n1_ em;have hi2:i < gs.length:=by omega
     obtain ⟨g,eg,pg,epg,hpg⟩:=alg.get (n0_ hi2);generalize gG:upd H3 p (.tup [.int i,.ref pm])=H4;obtain ⟨s4,a4⟩:=gen_upd gG np;have S4:=S2.trans (s3.trans s4);refine ⟨p,_,rfl,SqT.of a4,rfl,_,_,rfl,_,_,rfl,rfl,?_⟩;refine ⟨_,rfl,_,rfl,pm,px,.t,.t,mu,xs,m,rowQ d,60,E,2 ^ 52,B,rfl,S4 _ _ hpm,alm.imp fun v x r=>r.tk S4.tk,S4 _ _ hx,alx.imp fun v x r=>r.tk S4.tk,R.r60 m mm,dx,by decide,E1,?_,?_,n21_ (by decide) (by decide),?_,by rw [R.wd m mm]; omega,by rw [R.wd m mm,lx],fun H5 r s5 ⟨pr,er,hr⟩=>?_⟩
     · rw [n27_];rw [n27_] at E9;exact n10_ (n42_ _ (by decide)) E9
     · exact n10_ (n53_ _ (n42_ _ (n11_ (by decide) (by decide)))) B9
     · exact n10_ (n19_ (n44_ _ (Nat.two_pow_pos 104)) (n44_ _ (by decide))) B9
     have S5:=S4.trans s5;subst er;refine ⟨_,rfl,_,rfl,b,gs,(i:Int),gs[i],rfl,rfl,SqT.of (S5 _ _ hb),Yu (n0_ hi2),pr,pg,rdot m (rowQ d),g,rfl,epg,hr,S5 _ _ hpg,_,rfl,?_⟩;have gm:ms.getD i []=m:=Xr em;have gq:qs.getD i 0=g:=Xr eg;show if (!decide (rdot m (rowQ d)=g))=true then _ else _
     rw [gm,gq] at c n
     by_cases hz:rdot m (rowQ d)=g
     · rw [n14_ hz];exact n _ _ ⟨_,_,rfl⟩ (s4.trans s5) (by rw [n14_ hz]; rfl)
     · rw [n17_ hz];exact ⟨_,rfl,c _ _ _ () ⟨_,_,rfl⟩ (s4.trans s5) (by rw [n17_ hz]; rfl) trivial⟩
   · refine ⟨z0_,fun e9 ne9=>?_⟩;have s9:=Same.new (o:=.lst []) ne9;refine ⟨D,e9,us3,rfl,rfl,SqL.of (s9 _ _ e3'),SqL.of Zc,?_⟩;rw [Zc5 (fun i=>decide (rdot (ms.getD i []) (rowQ d)=qs.getD i 0)) a3.1,lu,Zn7 (g:=fun row r=>decide (rdot row (rowQ d)=r)) rl];exact qe _ (S2.trans (s3.trans s9))
abbrev Xb:Stmt:=top 64
theorem Zd4 (F:Fun K "_law_is_mix" "_law_is_mix" Xb f fd) (Ci_:a33_ P w K mg base) (Cl_:a36_ P w K mg base):FnOk P w K mg base CX0 5 f fd ["_law_rows_here","_law_rights","_law_thing"] (Zfd mixB):=by
 have sc:FnScope ["_law_rows_here","_law_rights","_law_thing","_law_wide"] ["_law_rows_here","_law_rights","_law_thing"] (Ze Xb):=fsc (by decide +kernel);refine F.ok sc (fun vs H Q E h=>by obtain ⟨N,k,v,u,x,ms,qs,d,rfl,_⟩:=h;rfl) fun cdv A outer s H vs Q E hr h=>?_;obtain ⟨N,k,v,u,x,ms,qs,d,rfl,h1,h2,R,h3,hk,hz3,LT,q⟩:=h;have nd:=sc.nd;have hu:=Zfs hr;refine' ⟨_,?term,?read⟩
 case term=>refine' @Zd _ _ _ _ _ ?g1 ?g2;(case g1=>refine' @Y7 _ _ _ _ _ _ _ _ ?g3 (Zg (Zm Zau)) Z3;case g3=>refine' @PW.pt _ _ _ ?g4;case g4=>refine' @Zhh _ _ _ _ _ _ _ ?g5 ?g6;(case g5=>refine' @X4 _ _ _ _ ?g7;case g7=>refine' @Z5 _ _ _ (Zi Cl_ hr (by decide) rfl (Za (Zj Zp rfl T.b_len Xa (Za (pv 0) Zb rfl)) (Za (pv 2) Zb rfl) rfl)) (fun _=>rfl));case g6=>refine' @Zeo _ _ _ _ (Zt (Zpv hu) (Zi Ci_ hr (by decide) rfl (Za (pv 2) (Za (pv 1) Zb rfl) rfl)) (Zv (Za Zf (Za Zf Zb rfl) rfl)) (Zy _)));case g2=>refine' @Zd _ _ _ _ _ ?g8 ?g9;(case g8=>refine' @Zs _ _ (3) _ _ _ _ nd rfl (Or.inl rfl) ?ga (by rfl) (by first | exact Or.inl rfl | exact Or.inr rfl | assumption);case ga=>refine' @Zal _ _ _ _ _ _ _ _ (Zt (Zmd (n74_ hu)) (pv 0) (Zv Zb) (Zy _)) ?gb Zf;case gb=>refine' @Zj _ _ _ _ _ _ _ _ _ Zp rfl T.b_len Xa ?gc (by decide) (by decide) (by rfl) (by rfl);case gc=>refine' @Za _ _ _ _ _ ?gd Zb rfl;case gd=>refine' @Zz _ _ _ _ _ _ _ Ym (pv 0) Zf (fun _ _=>rfl));case g9=>refine' @Zg _ _ _ ?ge;case ge=>refine' @Zm _ _ _ _ ?gf;case gf=>refine' @Zaq _ _ _ _ _ _ _ _ (Zl0 (n74_ hu)) ?gg ?gh (Zy _);(case gg=>refine' @Y0 _ _ _ _ _ _ _ (["_law_at","_law_thing","_law_rows_here"]) ([none,some 2,some 0]) _ _ _ _ _ rfl (Z6 (XN:=["_law_rows_here","_law_rights","_law_thing","_law_wide"]) (Scope.names (Ze Xb)) rfl rfl rfl (fun _ h=>Zw h) (by decide +kernel) rfl) ?gi (fun _ _ _ _=>Zn (i:=0) (show List.Nodup (["_law_at","_law_thing","_law_rows_here"]:List Str) by decide) rfl (Or.inr rfl) (Or.inl rfl)) (fun _ _ _ _=>Zb0 (Zt (Zny hu) (Zi Ci_ hr (by decide) rfl (Za (pv 1) (Za (Y0 (N:=["_law_row_here","_law_at"]) (fr:=[none,some 0]) rfl (Z6 (XN:=["_law_at","_law_thing","_law_rows_here"]) (relN _ (Scope.names (Ze Xb))) rfl rfl rfl (fun _ h=>Zbx (by decide +kernel) h) (by decide +kernel) rfl) (Zak K rfl (pv 2)) (fun _ _ _ _=>pgB 0) (fun _ _ _ _=>Zl) (fun _ _ _ _=>Zz (Zap K rfl) (pv 0) (pv 1) (fun _ _=>rfl))) Zb rfl) rfl)) (Zv (Za Zf (Za Zf Zb rfl) rfl)) (Zy _))) (fun _ _ _ _=>pv 0) (by intro _ ; rfl);case gi=>refine' @Y2 _ _ _ _ _ _ rfl T.b_range (Za (pv 3) Zb rfl) (by rfl));case gh=>refine' @Yz _ _ _ _ Zb
 obtain ⟨E,B,E1,okd,E9,B9⟩:=LT;obtain ⟨a,us,rfl,ha,al⟩:=h1;obtain ⟨b,gs,rfl,hb,alg⟩:=h2;have lu:=al.1;have lg:=alg.1;have rl:=R.rl;have m6:=R.m6;have w4:=R.w4;have qe:∀ H',Same H H'→Q (.bl (Xe ms.length d && !decide (rdot (rowQ d) qs=0) && ((List.range (wid ms)).map fun p=>decide (rdot (ms.map fun r=>r.getD p 0) (rowQ d)=0)).all id)) H':=q;refine ⟨_,rfl,a,us,rfl,.inr (SqT.of ha),_,rfl,N,k,x,d,ms.length,by rw [lu],h3,hk,by omega,fun H2 S2=>⟨_,rfl,?_⟩⟩;cases e3:Xe ms.length d with
 | false=>rw [e3,n85_,n85_] at qe; exact iteT (iteT (qe _ S2))
 | true =>
 rw [e3,n87_] at qe;refine iteF ?_;obtain ⟨px,xs,rfl,hx,alx,lx,dvx⟩:=Zld h3 e3;have dx:=dvx E B okd;refine ⟨_,rfl,_,rfl,px,b,.t,.t,xs,gs,rowQ d,qs,E,3600,B,2 ^ 104,rfl,S2 _ _ hx,alx.imp fun v x r=>r.tk S2.tk,S2 _ _ hb,alg.imp fun v x r=>r.tk S2.tk,dx,R.g36,E1,by decide,by rw [n55_]; exact E9,by rw [n92_ B]; exact B9,?_,n21_ (by decide) (by decide),by omega,by rw [lx,rl],fun H3 r s3 ⟨pr,er,hr⟩=>?_⟩
 · exact n10_ (n19_ (n44_ _ (Nat.two_pow_pos 104)) (n44_ _ (by decide))) B9
 subst er;refine ⟨z2_,fun z1 nz1=>?_⟩;have s4:Same H3 (upd H3 z1 (.tup [.int 0,.int 1])):=Same.new nz1;refine ⟨pr,z1,rdot (rowQ d) qs,0,rfl,rfl,s4 _ _ hr,Zc,_,rfl,?_⟩;generalize upd H3 z1 (.tup [.int 0,.int 1])=H4 at s4 ⊢;have S4:=S2.trans (s3.trans s4);show if decide (rdot (rowQ d) qs=0)=true then _ else _
 by_cases hn:rdot (rowQ d) qs=0
 · rw [n14_ hn];rw [n14_ hn] at qe;exact qe _ S4
 rw [n17_ hn];rw [n17_ hn] at qe;refine iteF ?_;refine ⟨_,rfl,z0_,fun e0 ne0=>?_⟩;generalize gG:upd H4 e0 (.tup [])=H5;obtain ⟨s5,a5⟩:=gen_upd gG ne0;have SA:=S4.trans s5;refine ⟨a,e0,us,rfl,rfl,SqT.of (SA _ _ ha),SqT.of a5,_,rfl,?_⟩
 by_cases hne:us=[]
 · rw [n14_ hne];refine iteF ?_
   have WW:V.int 0=.int ((wid ms:Nat):Int):=by
    have:ms=[]:=List.length_eq_zero_iff.mp (by rw [← lu,hne]; rfl)
    rw [this]; rfl
   refine ⟨_,rfl,wid ms,by rw [WW],by omega,by omega,fun D nD=>?_⟩;refine Zad (n:=wid ms) (fun _ _ (_:Unit)=>True) (fun _ _ _ _ _ _ _=>trivial) (fun i=>if decide (rdot (ms.map fun r=>r.getD i 0) (rowQ d)=0)=true then none else some ()) (by omega) (fun σ=>∃ u,σ=[u,some (.ref px),some (.ref a)]) ⟨_,rfl⟩ nD (fun i H3 s hi=>hi) (fun H3 s=>n9_ _) (fun i y σ2 H3 H4 C N' hi s3 eD yl ok c n=>?_) (fun H3 us3 s3 e3' a3=>?_)
   · obtain ⟨u1,rfl⟩:=ok;obtain ⟨rfl,rfl⟩:=yl;unfold Z1;have S3:=SA.trans s3;refine ⟨_,rfl,_,rfl,a,.t,rfl,⟨_,SqT.of (S3 _ _ ha)⟩,fun G nG=>?_⟩;refine lc_T (k:=.t) (vs:=us) IsQh (fun _ _ _ _ t r=>r.tk t) (ms.map fun r=>r.getD i 0) (by rw [n2_]; omega) (by omega) nG (S3 _ _ ha) (fun j w'' H8 C' hw s8 c8=>?_) (fun H8 us8 s8 e8 a8=>?_)
     · obtain ⟨row,er,pr,ps,rfl,hpr,alp⟩:=al.get hw;have mr:=n1_ er;have lt:i < row.length:=by rw [R.wd row mr]; exact hi
       obtain ⟨u,eu,ru⟩:=alp.got (n0_ lt);have S8:=S3.trans s8;refine ⟨_,rfl,_,rfl,pr,ps,0+(i:Int),u,rfl,rfl,SqT.of (S8 _ _ hpr),by rw [Int.zero_add]; exact Yu eu,c8 _ _ (row.getD i 0) (Same.refl _) (by rw [n5_,er]; rfl) ?_⟩;rw [n6_,n0_ lt];exact ru.tk S8.tk
     have S8:=S3.trans s8;refine ⟨px,G,.t,.l,xs,us8,rowQ d,ms.map fun r=>r.getD i 0,E,60,B,2 ^ 52,rfl,S8 _ _ hx,alx.imp fun v x r=>r.tk S8.tk,e8,a8,dx,fun z hz=>?_,E1,by decide,?_,?_,?_,n21_ (by decide) (by decide),by omega,by rw [n2_,lx],fun H5 r s5 ⟨pr,er,hr⟩=>?_⟩
     · obtain ⟨row,hrow,rfl⟩:=n22_.mp hz;have lt:i < row.length:=by rw [R.wd row hrow]; exact hi
       have m:row.getD i 0∈row:=by rw [n6_,n0_ lt]; exact n36_ lt
       exact R.r60 row hrow _ m
     · rw [n27_,n92_];rw [n27_] at E9;exact n10_ (n42_ _ (by decide)) E9
     · rw [n92_ B];exact n10_ (n53_ _ (n42_ _ (n11_ (by decide) (by decide)))) B9
     · exact n10_ (n19_ (n44_ _ (Nat.two_pow_pos 104)) (n44_ _ (by decide))) B9
     subst er;refine ⟨z2_,fun z1 nz1=>?_⟩;have s6:=Same.new (o:=.tup [.int 0,.int 1]) nz1;refine ⟨pr,z1,rdot (rowQ d) (ms.map fun r=>r.getD i 0),0,rfl,rfl,s6 _ _ hr,Zc,_,rfl,?_⟩;rw [X9 (rowQ d)];show if (!decide (rdot (ms.map fun r=>r.getD i 0) (rowQ d)=0))=true then _ else _
     have S6:=s8.trans (s5.trans s6)
     by_cases hz:rdot (ms.map fun r=>r.getD i 0) (rowQ d)=0
     · rw [n14_ hz];exact n _ _ ⟨_,rfl⟩ S6 (by rw [n14_ hz]; rfl)
     · rw [n17_ hz];exact ⟨_,rfl,c _ _ _ () ⟨_,rfl⟩ S6 (by rw [n17_ hz]; rfl) trivial⟩
   · refine ⟨z0_,fun e9 ne9=>?_⟩;have s9:=Same.new (o:=.lst []) ne9;refine ⟨D,e9,us3,rfl,rfl,SqL.of (s9 _ _ e3'),SqL.of Zc,?_⟩;rw [Zc5 (fun i=>decide (rdot (ms.map fun r=>r.getD i 0) (rowQ d)=0)) a3.1]
     have:=qe _ (SA.trans (s3.trans s9))
     rw [List.all_map] at this;exact this
 · rw [n17_ hne];refine iteT ?_;have pos:0 < us.length:=n71_.mpr hne;obtain ⟨m0,em0,p0,mu0,ep0,hp0,alm0⟩:=al.get (n0_ pos);refine ⟨_,rfl,a,us,0,_,rfl,rfl,SqT.of (SA _ _ ha),Yu (n0_ pos),p0,mu0,by rw [ep0],.inr (SqT.of (SA _ _ hp0)),?_⟩;have WW:V.int (mu0.length:Int)=.int ((wid ms:Nat):Int):=by rw [alm0.1,R.wd m0 (n1_ em0)]
   refine ⟨_,rfl,wid ms,by rw [WW],by omega,by omega,fun D nD=>?_⟩;refine Zad (n:=wid ms) (fun _ _ (_:Unit)=>True) (fun _ _ _ _ _ _ _=>trivial) (fun i=>if decide (rdot (ms.map fun r=>r.getD i 0) (rowQ d)=0)=true then none else some ()) (by omega) (fun σ=>∃ u,σ=[u,some (.ref px),some (.ref a)]) ⟨_,rfl⟩ nD (fun i H3 s hi=>hi) (fun H3 s=>n9_ _) (fun i y σ2 H3 H4 C N' hi s3 eD yl ok c n=>?_) (fun H3 us3 s3 e3' a3=>?_)
   · obtain ⟨u1,rfl⟩:=ok;obtain ⟨rfl,rfl⟩:=yl;unfold Z1;have S3:=SA.trans s3;refine ⟨_,rfl,_,rfl,a,.t,rfl,⟨_,SqT.of (S3 _ _ ha)⟩,fun G nG=>?_⟩;refine lc_T (k:=.t) (vs:=us) IsQh (fun _ _ _ _ t r=>r.tk t) (ms.map fun r=>r.getD i 0) (by rw [n2_]; omega) (by omega) nG (S3 _ _ ha) (fun j w'' H8 C' hw s8 c8=>?_) (fun H8 us8 s8 e8 a8=>?_)
     · obtain ⟨row,er,pr,ps,rfl,hpr,alp⟩:=al.get hw;have mr:=n1_ er;have lt:i < row.length:=by rw [R.wd row mr]; exact hi
       obtain ⟨u,eu,ru⟩:=alp.got (n0_ lt);have S8:=S3.trans s8;refine ⟨_,rfl,_,rfl,pr,ps,0+(i:Int),u,rfl,rfl,SqT.of (S8 _ _ hpr),by rw [Int.zero_add]; exact Yu eu,c8 _ _ (row.getD i 0) (Same.refl _) (by rw [n5_,er]; rfl) ?_⟩;rw [n6_,n0_ lt];exact ru.tk S8.tk
     have S8:=S3.trans s8;refine ⟨px,G,.t,.l,xs,us8,rowQ d,ms.map fun r=>r.getD i 0,E,60,B,2 ^ 52,rfl,S8 _ _ hx,alx.imp fun v x r=>r.tk S8.tk,e8,a8,dx,fun z hz=>?_,E1,by decide,?_,?_,?_,n21_ (by decide) (by decide),by omega,by rw [n2_,lx],fun H5 r s5 ⟨pr,er,hr⟩=>?_⟩
     · obtain ⟨row,hrow,rfl⟩:=n22_.mp hz;have lt:i < row.length:=by rw [R.wd row hrow]; exact hi
       have m:row.getD i 0∈row:=by rw [n6_,n0_ lt]; exact n36_ lt
       exact R.r60 row hrow _ m
     · rw [n27_,n92_];rw [n27_] at E9;exact n10_ (n42_ _ (by decide)) E9
     · rw [n92_ B];exact n10_ (n53_ _ (n42_ _ (n11_ (by decide) (by decide)))) B9
     · exact n10_ (n19_ (n44_ _ (Nat.two_pow_pos 104)) (n44_ _ (by decide))) B9
     subst er;refine ⟨z2_,fun z1 nz1=>?_⟩;have s6:=Same.new (o:=.tup [.int 0,.int 1]) nz1;refine ⟨pr,z1,rdot (rowQ d) (ms.map fun r=>r.getD i 0),0,rfl,rfl,s6 _ _ hr,Zc,_,rfl,?_⟩;rw [X9 (rowQ d)];show if (!decide (rdot (ms.map fun r=>r.getD i 0) (rowQ d)=0))=true then _ else _
     have S6:=s8.trans (s5.trans s6)
     by_cases hz:rdot (ms.map fun r=>r.getD i 0) (rowQ d)=0
     · rw [n14_ hz];exact n _ _ ⟨_,rfl⟩ S6 (by rw [n14_ hz]; rfl)
     · rw [n17_ hz];exact ⟨_,rfl,c _ _ _ () ⟨_,rfl⟩ S6 (by rw [n17_ hz]; rfl) trivial⟩
   · refine ⟨z0_,fun e9 ne9=>?_⟩;have s9:=Same.new (o:=.lst []) ne9;refine ⟨D,e9,us3,rfl,rfl,SqL.of (s9 _ _ e3'),SqL.of Zc,?_⟩;rw [Zc5 (fun i=>decide (rdot (ms.map fun r=>r.getD i 0) (rowQ d)=0)) a3.1]
     have:=qe _ (SA.trans (s3.trans s9))
     rw [List.all_map] at this;exact this
abbrev Zd6:Stmt:=top 65
theorem Zqs (F:Fun K "law" "law" Zd6 f fd) {Ph:Addr} (Cak_:a37_ P w K mg base) (Cd_:a32_ P w K mg base) (Cad_:a38_ P w K mg base) (Cx_:a39_ P w K mg base) (Ct_:a30_ P w K mg base) (Cr_:a23_ P w K mg base) (Cm_:a34_ P w K mg base) (Can_:a40_ P w K mg base) (Cal_:a41_ P w K mg base) (Caw_:a42_ P w K mg base) (Cae_:a43_ P w K mg base) (Cax_:Cal P w K mg base "solved" 10 ["rows","rights"] (Zds Ph)):FnOk P w K mg base CX0 12 f fd ["_law_script"] (Zjp K Ph):=by
 have sc:FnScope ["_law_script","_law_k","_law_state_here","_law_turn","_law_rows_here","_law_rights","_law_told","_law_by","_law_things","_law_lap","_law_thing","_law_kept"] ["_law_script"] (Ze Zd6):=fsc (by decide +kernel);refine F.ok sc (fun vs H Q E h=>by obtain ⟨a,ns,rfl,_⟩:=h;rfl) fun cdv A outer s H vs Q E hr h=>?_;obtain ⟨a,ns,rfl,hS,hlen,th,q⟩:=h;have nd:=sc.nd;have hu:=Zfs hr;refine' ⟨_,?term,?read⟩
 case term=>refine' @Zd _ _ _ _ _ ?g1 (Zg (Zm Zau));case g1=>refine' @Zae _ _ _ _ _ _ _ _ PassesOwn.never rfl ?g2 (Zn (i:=1) nd rfl (Or.inl rfl)) ?g3 (by intro _ ; rfl);(case g2=>refine' @Y2 _ _ _ _ _ _ rfl T.b_range (Za (Zj (Zg4 rfl) rfl T.b_max Zn9 (Za Zf (Za (Zj (Zg2 rfl) rfl T.b_min Zku (Za (Zj Zp rfl T.b_len Xa (Za (pv 0) Zb rfl)) (Za Zf Zb rfl) rfl)) Zb rfl) rfl)) Zb rfl) (by rfl));case g3=>refine' @Zd _ _ _ _ _ ?g4 ?g5;(case g4=>refine' @Zs _ _ (2) _ _ _ _ nd rfl (Or.inl rfl) (Zi Cal_ hr (by decide) rfl (Za (pv 0) (Za (pv 1) Zb rfl) rfl)) (by rfl) (by first | exact Or.inl rfl | exact Or.inr rfl | assumption));case g5=>refine' @Zg _ _ _ ?g6;case g6=>refine' @Zae _ _ _ _ _ _ _ _ PassesOwn.never rfl ?g7 (Zn (i:=3) nd rfl (Or.inl rfl)) ?g8 (by intro _ ; rfl);(case g7=>refine' @Y2 _ _ _ _ _ _ rfl T.b_range (Za Zf Zb rfl) (by rfl));case g8=>refine' @Zd _ _ _ _ _ ?g9 ?ga;(case g9=>refine' @Zac _ _ _ _ _ _ (Zi Can_ hr (by decide) rfl (Za (pv 2) Zb rfl)) ?gb (by rfl) (by rfl) (by rfl);case gb=>refine' @Yb _ _ _ _ _ (2) rfl (Zh (Zn (i:=4) nd rfl (Or.inl rfl)) (Zh (Zn (i:=5) nd rfl (Or.inl rfl)) Zx)) (by rfl) (by rfl));case ga=>refine' @Zd _ _ _ _ _ ?gc ?gd;(case gc=>refine' @Zs _ _ (6) _ _ _ _ nd rfl (Or.inl rfl) (Zi Cax_ hr (by decide) rfl (Za (pv 4) (Za (pv 5) Zb rfl) rfl)) (by rfl) (by first | exact Or.inl rfl | exact Or.inr rfl | assumption));case gd=>refine' @Zd _ _ _ _ _ ?ge ?gf;(case ge=>refine' @Zs _ _ (7) _ _ _ _ nd rfl (Or.inr rfl) (Zi Cd_ hr (by decide) rfl (Za (pv 2) Zb rfl)) (by rfl) (by first | exact Or.inl rfl | exact Or.inr rfl | assumption));case gf=>refine' @Zd _ _ _ _ _ ?gg ?gh;(case gg=>refine' @Zs _ _ (8) _ _ _ _ nd rfl (Or.inl rfl) ?gi (by rfl) (by first | exact Or.inl rfl | exact Or.inr rfl | assumption);case gi=>refine' @Yz _ _ _ _ ?gj;case gj=>refine' @Za _ _ _ _ _ ?gk ?gl rfl;(case gk=>refine' @Zz _ _ _ _ _ _ _ Ym (pv 6) Zf (fun _ _=>rfl));case gl=>refine' @Za _ _ _ _ _ (pv 6) ?gm rfl;case gm=>refine' @Za _ _ _ _ _ (Zv Zb) ?gn rfl;case gn=>refine' @Za _ _ _ _ _ ?go Zb rfl;case go=>refine' @Yn _ _ _ _ _ _ _ _ _ Ye rfl T.b_tuple Yk ?gp (by decide) (by decide) (by rfl) (by rfl);case gp=>refine' @Za _ _ _ _ _ ?gq Zb rfl;case gq=>refine' @Zq _ _ _ _ _ _ _ _ Zko ?gr (Zj Zp rfl T.b_len Xa (Za (pv 4) Zb rfl));case gr=>refine' @Yz _ _ _ _ (Za (Zv (Za Zf (Za Zf Zb rfl) rfl)) Zb rfl));case gh=>refine' @Zd _ _ _ _ _ ?gs ?gt;(case gs=>refine' @Xu _ _ _ _ ?gu (by rfl);case gu=>refine' @Zft _ _ _ _ _ _ _ _ _ _ _ _ PySem.F.plainAttrs_list PySem.F.slot_list_append PySem.F.type_list_append Xd (pv 8) ?gv (by rfl) (by rfl) (by rfl) (by rfl) (by rfl);case gv=>refine' @Za _ _ _ _ _ ?gw Zb rfl;case gw=>refine' @Yn _ _ _ _ _ _ _ _ _ Ye rfl T.b_tuple Yk ?gx (by decide) (by decide) (by rfl) (by rfl);case gx=>refine' @Za _ _ _ _ _ ?gy Zb rfl;case gy=>refine' @Y0 _ _ _ _ _ _ _ (["_law_one","_law_by"]) ([none,some 7]) _ _ _ _ _ rfl (Z6 (XN:=["_law_script","_law_k","_law_state_here","_law_turn","_law_rows_here","_law_rights","_law_told","_law_by","_law_things","_law_lap","_law_thing","_law_kept"]) (Scope.names (Ze Zd6)) rfl rfl rfl (fun _ h=>Zw h) (by decide +kernel) rfl) ?gz (fun _ _ _ _=>pgB 0) (fun _ _ _ _=>Zl) (fun _ _ _ _=>Zi Ct_ hr (by decide) rfl (Za (pv 1) (Za (pv 0) Zb rfl) rfl)) (by intro _ ; rfl);case gz=>refine' @Zeb _ _ _ _ ?g10;case g10=>refine' @Zz _ _ _ _ _ _ _ Ym (pv 6) Zf (fun _ _=>rfl));case gt=>refine' @Zd _ _ _ _ _ ?g11 ?g12;(case g11=>refine' @Zs _ _ (8) _ _ _ _ nd rfl (Or.inl rfl) ?g13 (by rfl) (by first | exact Or.inl rfl | exact Or.inr rfl | assumption);case g13=>refine' @Zq _ _ _ _ _ _ _ _ Zdh (pv 8) ?g14;case g14=>refine' @Yz _ _ _ _ ?g15;case g15=>refine' @Za _ _ _ _ _ ?g16 ?g17 rfl;(case g16=>refine' @Yn _ _ _ _ _ _ _ _ _ Zca rfl T.b_list Zib ?g18 (by decide) (by decide) (by rfl) (by rfl);case g18=>refine' @Za _ _ _ _ _ ?g19 Zb rfl;case g19=>refine' @Zz _ _ _ _ _ _ _ Ym (pv 6) Zf (fun _ _=>rfl));case g17=>refine' @Za _ _ _ _ _ ?g1a ?g1b rfl;(case g1a=>refine' @Zq _ _ _ _ _ _ _ _ Zaw ?g1c (Zv (Za (Zv (Za Zf (Za Zf Zb rfl) rfl)) Zb rfl));case g1c=>refine' @Zz _ _ _ _ _ _ _ Ym (pv 6) Zf (fun _ _=>rfl));case g1b=>refine' @Za _ _ _ _ _ ?g1d Zb rfl;case g1d=>refine' @Zha _ _ _ _ _ _ Zqh ?g1e;case g1e=>refine' @Zz _ _ _ _ _ _ _ Ym (pv 6) Zf (fun _ _=>rfl));case g12=>refine' @Zd _ _ _ _ _ ?g1f ?g1g;(case g1f=>refine' @Xu _ _ _ _ ?g1h (by rfl);case g1h=>refine' @Zft _ _ _ _ _ _ _ _ _ _ _ _ PySem.F.plainAttrs_list PySem.F.slot_list_append PySem.F.type_list_append Xd (pv 8) ?g1i (by rfl) (by rfl) (by rfl) (by rfl) (by rfl);case g1i=>refine' @Za _ _ _ _ _ ?g1j Zb rfl;case g1j=>refine' @Zi _ _ _ _ _ _ _ _ _ _ _ Cm_ hr (by decide) rfl ?g1k (by decide) (by rfl) (by rfl);case g1k=>refine' @Za _ _ _ _ _ (pv 2) ?g1l rfl;case g1l=>refine' @Za _ _ _ _ _ ?g1m Zb rfl;case g1m=>refine' @Zj _ _ _ _ _ _ _ _ _ Zp rfl T.b_len Xa ?g1n (by decide) (by decide) (by rfl) (by rfl);case g1n=>refine' @Za _ _ _ _ _ ?g1o Zb rfl;case g1o=>refine' @Zz _ _ _ _ _ _ _ Ym (pv 6) Zf (fun _ _=>rfl));case g1g=>refine' @Zd _ _ _ _ _ ?g1p ?g1q;(case g1p=>refine' @Zae _ _ _ _ _ _ _ _ PassesOwn.never rfl ?g1r (Zn (i:=9) nd rfl (Or.inl rfl)) ?g1s (by intro _ ; rfl);(case g1r=>refine' @Y2 _ _ _ _ _ _ rfl T.b_range (Za Zf Zb rfl) (by rfl));case g1s=>refine' @Zg _ _ _ ?g1t;case g1t=>refine' @Zs _ _ (8) _ _ _ _ nd rfl (Or.inl rfl) ?g1u (by rfl) (by first | exact Or.inl rfl | exact Or.inr rfl | assumption);case g1u=>refine' @Zq _ _ _ _ _ _ _ _ Zdh (pv 8) ?g1v;case g1v=>refine' @Yz _ _ _ _ ?g1w;case g1w=>refine' @Za _ _ _ _ _ ?g1x (Za (Zi Cr_ hr (by decide) rfl (Za (pv 2) Zb rfl)) Zb rfl) rfl;case g1x=>refine' @Zi _ _ _ _ _ _ _ _ _ _ _ Cak_ hr (by decide) rfl ?g1y (by decide) (by rfl) (by rfl);case g1y=>refine' @Za _ _ _ _ _ (pv 2) ?g1z rfl;case g1z=>refine' @Za _ _ _ _ _ ?g20 Zb rfl;case g20=>refine' @Zz _ _ _ _ _ _ _ Ym (pv 6) Zf (fun _ _=>rfl));case g1q=>refine' @Zg _ _ _ ?g21;case g21=>refine' @Zae _ _ _ _ _ _ _ _ PassesOwn.never rfl (Yj (pv 8)) (Zn (i:=10) nd rfl (Or.inl rfl)) ?g22 (by intro _ ; rfl);case g22=>refine' @Zd _ _ _ _ _ ?g23 ?g24;(case g23=>refine' @Zs _ _ (11) _ _ _ _ nd rfl (Or.inl rfl) (Zj (Xo hr) rfl T.b_repr Zcq (Za (Zv (Za (pv 4) (Za (pv 5) (Za (pv 10) Zb rfl) rfl) rfl)) Zb rfl)) (by rfl) (by first | exact Or.inl rfl | exact Or.inr rfl | assumption));case g24=>refine' @Zd _ _ _ _ _ ?g25 ?g26;(case g25=>refine' @Y7 _ _ _ _ _ _ _ _ (Zt Zd3 (Zj (Xo hr) rfl T.b_repr Zcq (Za (Zi Cae_ hr (by decide) rfl (Za (pv 4) (Za (pv 5) (Za (pv 10) Zb rfl) rfl) rfl)) Zb rfl)) (Zj (Xo hr) rfl T.b_repr Zcq (Za (Zi Cx_ hr (by decide) rfl (Za (pv 4) (Za (pv 5) (Za (pv 10) Zb rfl) rfl) rfl)) Zb rfl)) (Zy _)) (Zg (Zm Zau)) Z3);case g26=>refine' @Zd _ _ _ _ _ ?g27 ?g28;(case g27=>refine' @Y7 _ _ _ _ _ _ _ _ (Zt Zd3 (Zj (Xo hr) rfl T.b_repr Zcq (Za (Zi Caw_ hr (by decide) rfl (Za (pv 4) (Za (pv 5) (Za (pv 10) Zb rfl) rfl) rfl)) Zb rfl)) (Zj (Xo hr) rfl T.b_repr Zcq (Za (Zi Cad_ hr (by decide) rfl (Za (pv 4) (Za (pv 5) (Za (pv 10) Zb rfl) rfl) rfl)) Zb rfl)) (Zy _)) (Zg (Zm Zau)) Z3);case g28=>refine' @Zg _ _ _ ?g29;case g29=>refine' @Y7 _ _ _ _ _ _ _ _ (Zt Zd3 (Zj (Xo hr) rfl T.b_repr Zcq (Za (Zv (Za (pv 4) (Za (pv 5) (Za (pv 10) Zb rfl) rfl) rfl)) Zb rfl)) (pv 11) (Zy _)) (Zg (Zm Zau)) Z3
 refine ⟨_,rfl,a,_,rfl,.inl hS,_,_,rfl,_,_,rfl,_,rfl,?_,?_,?_⟩
 · split <;> (try split) <;> omega
 · rw [n2_];split <;> (try split) <;> omega
 refine Zaa (fun i σ H1=>∃ x1 x2 x3 x4 x5 x6 x7 x8 x9 x10 x11,σ=[some (.ref a),x1,x2,x3,x4,x5,x6,x7,x8,x9,x10,x11]∧X8 Ph H H1∧TabF H1 Ph "head_of.<locals>.<lambda>") ⟨_,_,_,_,_,_,_,_,_,_,_,rfl,fun _ _ _ e=>e,th⟩ ?_ ?_
 rotate_left
 · rintro σ H1 ⟨x1,x2,x3,x4,x5,x6,x7,x8,x9,x10,x11,rfl,_⟩
   exact q H1
 rintro i σ H1 _ ⟨x1,x2,x3,x4,x5,x6,x7,x8,x9,x10,x11,rfl,kp1,th1⟩
 have hS1:=Zq2 hS kp1 th;refine ⟨_,rfl,_,rfl,a,ns,i,by rw [Int.zero_add],hS1,fun l H2 nl s2 st2=>?_⟩;refine ⟨_,rfl,by omega,by omega,?_⟩;refine Zaa (fun i σ H3=>∃ x1 x3 x4 x5 x6 x7 x8 x9 x10 x11,σ=[some (.ref a),x1,some (.ref l),x3,x4,x5,x6,x7,x8,x9,x10,x11]∧StAt H3 l∧X8 Ph H1 H3∧TabF H3 Ph "head_of.<locals>.<lambda>") ⟨_,_,_,_,_,_,_,_,_,_,rfl,st2,fun _ _ _ e=>s2 _ _ e,th1.same s2⟩ ?_ ?_
 rotate_left
 · rintro σ H3 ⟨x1,x3,x4,x5,x6,x7,x8,x9,x10,x11,rfl,st3,kp3,th3⟩
   exact ⟨_,_,_,_,_,_,_,_,_,_,_,rfl,fun b o n e=>kp3 b o n (kp1 b o n e),th3⟩
 rintro i2 σ H3 _ ⟨x1,x3,x4,x5,x6,x7,x8,x9,x10,x11,rfl,st3,kp3,th3⟩
 refine ⟨_,rfl,l,rfl,st3,fun H4 pp v u ms qs k4 st4 hpp hv hu R=>?_⟩;obtain ⟨_,el3⟩:=st3.lst';have th4:=th3.keepL el3 k4;have kp4:X8 Ph H1 H4:=fun b o n e=>k4 _ _ (Zk e nl) (kp3 b o n e);refine ⟨pp,_,rfl,SqT.of hpp,rfl,_,_,rfl,_,_,rfl,rfl,?_⟩;refine ⟨_,rfl,_,rfl,v,u,ms,qs,rfl,hv,hu,R,th4,fun H5 p ra xs kp5 th5 TD=>?_⟩;have tk45:Tk H4 H5:=Zmx kp5 th4
 have st5:StAt H5 l:=by
  obtain ⟨c1,c2,c3,e,r⟩:=st4;exact ⟨c1,c2,c3,kp5 _ _ (fun z=>by obtain ⟨ps,h,_⟩:=th4; rw [z,h] at e; cases e) e,r⟩
 have I5:LJ Ph l H1 v u ms qs p ra xs H5:=⟨st5,hv.tk tk45,hu.tk tk45,TD,fun b o n e=>kp5 b o n (kp4 b o n e),th5⟩;refine ⟨_,rfl,l,rfl,st5,fun H6 pf xf k6 st6 hpf hB=>?_⟩;have I6:=I5.keep nl k6 st6;obtain ⟨C0,C1,C8,dv0⟩:=I6.td.sm;have lx6:=I6.td.len;have fv:=Znm hB.1 hB.2;obtain ⟨C,hC,hn⟩:∃ C:CB,C.c=60 * C0∧C.n=890:=⟨⟨60 * C0,890⟩,rfl,rfl⟩
 have c8:C.c.natAbs≤2 ^ 846:=by
  rw [hC,n27_];exact n19_ (n59_ (show (60:Int).natAbs≤2 ^ 6 by decide) C8) (by rw [← n49_]; exact n9_ _)
 have O:C.Ok:=⟨by rw [hC]; omega,n19_ c8 (n11_ (by decide) (by omega))⟩;have n8:C.n≤890:=by omega
 have dvx:∀ x∈xs,Dv C.c (2 ^ C.n) x:=fun x hx=>by
  have:=(dv0 x hx).times (e:=60)
  rw [hC,n55_ 60];exact this.mono (n19_ (n53_ _ (show (60:Int).natAbs≤2 ^ 6 by decide)) (by rw [← n49_]; exact n11_ (by decide) (by omega)))
 have dvm:∀ x∈xs,Dv C.c (2 ^ C.n) (xf * x):=fun x hx=>by
  have:=fv.mul (dv0 x hx)
  rw [hC];exact this.mono (by rw [← n49_,hn]; exact n9_ _)
 have m6:=R.m6;obtain ⟨ts,hts,at1⟩:=I6.td.at1;obtain ⟨_,rus,er,hra,alr⟩:=id I6.td.row;cases er
 have lr:=alr.1;obtain ⟨pr,rsu,rfl,hrs,alrs⟩:=id I6.rs;have lrs:=alrs.1;obtain ⟨N,hN⟩:∃ N:Addr→Prop,N=fun b=>b=l:=⟨_,rfl⟩;have Nl:N l:=by rw [hN]
 have DN:∀ {H':Hp},StAt H' l→Dom N H':=fun s b z=>by
  obtain ⟨ys,e⟩:=s.lst';rw [hN] at z;exact ⟨_,by rw [show b=l from z]; exact e⟩
 refine ⟨_,rfl,p,ts,1,_,rfl,rfl,SqT.of ((Same.refl H6) _ _ hts),at1,_,rfl,z0_,fun pa1 na1=>?_⟩;generalize gG:upd H6 pa1 (.tup [])=Ha1;obtain ⟨sa1,aa1⟩:=gen_upd gG na1;refine ⟨z2_,fun pa2 na2=>?_⟩;generalize gG:upd Ha1 pa2 (.tup [.int 0,.int 1])=Ha2;obtain ⟨sa2,aa2⟩:=gen_upd gG na2;refine ⟨z1_,fun pa3 na3=>?_⟩;generalize gG:upd Ha2 pa3 (.lst [.ref pa2])=Ha3;obtain ⟨sa3,aa3⟩:=gen_upd gG na3;refine ⟨_,rfl,pr,rsu,rfl,.inr (SqT.of ((sa1.trans (sa2.trans sa3)) _ _ hrs)),pa3,(rsu.length:Int),_,rfl,rfl,aa3,by omega,by omega,by simp only [n23_,n47_,n65_,sizeLine_eq]; omega,fun pa4 na4=>?_⟩;generalize gG:upd Ha3 pa4 (.lst (List.replicate (rsu.length:Int).toNat [V.ref pa2]).flatten)=Ha4;obtain ⟨sa4,aa4⟩:=gen_upd gG na4;refine ⟨pa4,_,rfl,.inl ⟨SqL.of aa4,?_⟩⟩;intro pa5 na5;generalize gG:upd Ha4 pa5 (.tup (List.replicate (rsu.length:Int).toNat [V.ref pa2]).flatten)=Ha5;obtain ⟨sa5,aa5⟩:=gen_upd gG na5;refine ⟨z4_,fun pa6 na6=>?_⟩;generalize gG:upd Ha5 pa6 (.lst [.ref ra,.ref p,.ref pa1,.ref pa5])=Ha6;obtain ⟨sa6,aa6⟩:=gen_upd gG na6;have er:(List.replicate (rsu.length:Int).toNat [V.ref pa2]).flatten=List.replicate rsu.length (V.ref pa2):=by rw [n65_]; exact Zc1 _ rsu.length
 rw [er] at aa5;have Ib:=I6.same (sa1.trans (sa2.trans (sa3.trans (sa4.trans sa5))));have Q1:Th N Ha5 (.ref ra):=Zed Ib.td.row O c8 n8 (by omega) dvx;have Q2:Th N Ha5 (.ref p):=Ib.td.th hC hn C1 C8 O c8 dvx;have Q3:Th N Ha5 (.ref pa1):=Zhv (d:=.tuple []) (.tup ((sa2.trans (sa3.trans (sa4.trans sa5))) _ _ aa1) .nil) (n56_ _) (by decide) (by decide) O c8 n8 (j:=1) (by decide) (okE1 O rfl (by decide));have Q4:Th N Ha5 (.ref pa5):=Zed (xs:=List.replicate rsu.length 0) ⟨pa5,_,rfl,aa5,Zo0 ⟨pa2,rfl,((sa3.trans (sa4.trans sa5)) _ _ aa2)⟩ rsu.length⟩ O c8 n8 (by rw [n18_]; omega) fun x hx=>by rw [List.eq_of_mem_replicate hx]; exact Dv.zero
 have IL:=I6.same (sa1.trans (sa2.trans (sa3.trans (sa4.trans (sa5.trans sa6)))));refine ⟨_,rfl,.inl ⟨rfl,_,SqL.of aa6⟩,_,rfl,p,ts,1,_,rfl,rfl,SqT.of ((sa1.trans (sa2.trans (sa3.trans (sa4.trans (sa5.trans sa6))))) _ _ hts),at1,?_⟩;refine ⟨ra,rfl,⟨_,SqT.of ((sa1.trans (sa2.trans (sa3.trans (sa4.trans (sa5.trans sa6))))) _ _ hra)⟩,fun G nG=>?_⟩;refine lc_T (k:=.t) (vs:=rus) IsQh (fun _ _ _ _ t r=>r.tk t) (xs.map fun x=>xf * x) (by rw [n2_]; exact lr.symm) (by omega) nG ((sa1.trans (sa2.trans (sa3.trans (sa4.trans (sa5.trans sa6))))) _ _ hra) (fun j w H8 C' hw s8 c8'=>?_) (fun H8 us8 s8 e8 a8=>?_)
 · obtain ⟨x,ex,px,rfl,hpx⟩:=alr.get hw;have S8:=(sa1.trans (sa2.trans (sa3.trans (sa4.trans (sa5.trans sa6))))).trans s8;refine ⟨_,rfl,_,rfl,pf,px,xf,x,rfl,S8 _ _ hpf,S8 _ _ hpx,fv.b (by decide) (by decide) (n21_ (by decide) (by decide)),(dvx x (n1_ ex)).b O.c1 (n10_ c8 (n21_ (by decide) (by decide))) (n21_ (by decide) (by omega)),fun z H9 s9 hz=>c8' _ _ _ s9 (by rw [n5_,ex]; rfl) ⟨z,rfl,hz⟩⟩
 refine ⟨G,us8,rfl,.inl ⟨SqL.of e8,fun t nt=>?_⟩⟩;generalize gG:upd H8 t (.tup us8)=H9;obtain ⟨s9,a9⟩:=gen_upd gG nt;have sL9:=s8.trans s9;have aL9:=sL9 _ _ aa6;refine ⟨pa6,_,_,rfl,rfl,aL9,by show 4 < sizeLine; decide,?_⟩;have I9:=IL.same sL9;have IA:LJ Ph l H1 (.ref pr) u ms qs p ra xs (upd H9 pa6 (.lst ([.ref ra,.ref p,.ref pa1,.ref pa5]++[.ref t]))):=LJ.upd I9 aL9 (Ib.nn na6) (Ib.st.ne na6);have SbA:Same Ha5 (upd H9 pa6 (.lst ([.ref ra,.ref p,.ref pa1,.ref pa5]++[.ref t]))):=fun x o e=>by rw [Zo (Zk e na6)]; exact sL9 _ _ (sa6 _ _ e)
 have tkA:Tk H9 (upd H9 pa6 (.lst ([.ref ra,.ref p,.ref pa1,.ref pa5]++[.ref t]))):=Tk.upd_lst aL9;have eL:upd H9 pa6 (.lst ([.ref ra,.ref p,.ref pa1,.ref pa5]++[.ref t])) pa6=some (.lst ([.ref ra,.ref p,.ref pa1,.ref pa5]++[.ref t])):=Zc;have Q5:Th N (upd H9 pa6 (.lst ([.ref ra,.ref p,.ref pa1,.ref pa5]++[.ref t]))) (.ref t):=Zed (xs:=xs.map fun x=>xf * x) ⟨t,us8,rfl,tkA _ _ a9,a8.imp fun v x r=>(r.tk s9.tk).tk tkA⟩ O c8 n8 (by rw [n2_]; omega) fun x hx=>by (obtain ⟨y,hy,rfl⟩:=n22_.mp hx; exact dvm y hy)
 have PA:ThV N (upd H9 pa6 (.lst ([.ref ra,.ref p,.ref pa1,.ref pa5]++[.ref t]))) ([.ref ra,.ref p,.ref pa1,.ref pa5]++[.ref t]):=ThV.app (.cons (Q1.same SbA) (.cons (Q2.same SbA) (.cons (Q3.same SbA) (.cons (Q4.same SbA) .nil)))) (.cons Q5 .nil);generalize hvA:([.ref ra,.ref p,.ref pa1,.ref pa5]++[.ref t]:List V)=vA at PA IA eL SbA tkA Q5 ⊢;have lvA:vA.length=5:=by rw [← hvA]; rfl
 have nLl:pa6≠l:=fun z=>Ib.st.ne na6 z.symm;generalize upd H9 pa6 (.lst vA)=HA at IA PA eL ⊢;generalize pa6=LA at eL nLl ⊢;obtain ⟨ts',htA,at1A⟩:=IA.td.at1;obtain ⟨_,rus',er',hraA,alrA⟩:=id IA.td.row;cases er'
 have lrA:=alrA.1;refine ⟨_,rfl,_,rfl,p,ts',1,_,rfl,rfl,SqT.of ((Same.refl HA) _ _ htA),at1A,ra,rus',rfl,.inr (SqT.of ((Same.refl HA) _ _ hraA)),fun pb1 nb1 mb1=>?_⟩;generalize gG:upd HA pb1 (.lst rus')=Hb1;obtain ⟨sb1,ab1⟩:=gen_upd gG nb1;refine ⟨_,rfl,p,ts',1,_,rfl,rfl,SqT.of (sb1 _ _ htA),at1A,z2_,fun pb2 nb2=>?_⟩;generalize gG:upd Hb1 pb2 (.tup [.int 0,.int 1])=Hb2;obtain ⟨sb2,ab2⟩:=gen_upd gG nb2;refine ⟨z1_,fun pb3 nb3=>?_⟩;generalize gG:upd Hb2 pb3 (.tup [.ref pb2])=Hb3;obtain ⟨sb3,ab3⟩:=gen_upd gG nb3;refine ⟨ra,pb3,_,_,rfl,rfl,((sb1.trans (sb2.trans sb3)) _ _ hraA),ab3,by simp only [n23_,n47_,sizeLine_eq]; omega,fun pb4 Hb4 sb4 ab4=>?_⟩;refine ⟨_,rfl,p,ts',1,_,rfl,rfl,SqT.of ((sb1.trans (sb2.trans (sb3.trans sb4))) _ _ htA),at1A,ra,rus',rfl,SqT.of ((sb1.trans (sb2.trans (sb3.trans sb4))) _ _ hraA),fun pb5 nb5=>?_⟩;generalize gG:upd Hb4 pb5 (.tup rus'.reverse)=Hb5;obtain ⟨sb5,ab5⟩:=gen_upd gG nb5;refine ⟨z3_,fun pb6 nb6=>?_⟩;generalize gG:upd Hb5 pb6 (.lst [.ref pb1,.ref pb4,.ref pb5])=Hb6;obtain ⟨sb6,ab6⟩:=gen_upd gG nb6;refine ⟨LA,pb6,_,_,rfl,rfl,((sb1.trans (sb2.trans (sb3.trans (sb4.trans (sb5.trans sb6))))) _ _ eL),ab6,by show _+3≤_; rw [lvA,sizeLine_eq]; omega,fun pb7 nb7=>?_⟩;generalize gG:upd Hb6 pb7 (.lst (vA++[.ref pb1,.ref pb4,.ref pb5]))=Hb7;obtain ⟨sb7,ab7⟩:=gen_upd gG nb7;have IQ:=IA.same (sb1.trans (sb2.trans (sb3.trans (sb4.trans (sb5.trans sb6)))));have IM:=IA.same (sb1.trans (sb2.trans (sb3.trans (sb4.trans (sb5.trans (sb6.trans sb7))))));have bx:∀ x∈xs,FM.B 891 x:=fun x hx=>(dvx x hx).b O.c1 (n10_ c8 (n21_ (by decide) (by decide))) (n21_ (by decide) (by omega));have Q6:Th N Hb6 (.ref pb1):=Zhv (d:=.list (xs.map frD)) (.lst ((sb2.trans (sb3.trans (sb4.trans (sb5.trans sb6)))) _ _ ab1) ((DN (IA.same (Same.refl HA)).st).new nb1) mb1 (Zf9 (alrA.imp fun v x r=>r.tk (sb1.trans (sb2.trans (sb3.trans (sb4.trans (sb5.trans sb6))))).tk) fun v x hx hv=>Zon hv (bx x hx))) (by decide) (n19_ (show PyData.depthAll (xs.map frD)+1≤2 from Zbj xs) (by decide)) (by show 1+Zr (xs.map frD)≤300; have:1+Zr (xs.map frD)=1+6 * xs.length:=Zep xs; omega) O c8 n8 (j:=1) (by decide) (okE0 rfl (by decide));have Q7:Th N Hb6 (.ref pb4):=Zed (xs:=xs++[0]) ⟨pb4,_,rfl,((sb5.trans sb6) _ _ ab4),(alrA.imp fun v x r=>r.tk (sb1.trans (sb2.trans (sb3.trans (sb4.trans (sb5.trans sb6))))).tk).snoc ⟨pb2,rfl,((sb3.trans (sb4.trans (sb5.trans sb6))) _ _ ab2)⟩⟩ O c8 n8 (by rw [n26_]; show _+1≤20; omega) (Ze2 dvx Dv.zero);have Q8:Th N Hb6 (.ref pb5):=Zed (xs:=xs.reverse) ⟨pb5,_,rfl,(sb6 _ _ ab5),Al.revR (alrA.imp fun v x r=>r.tk (sb1.trans (sb2.trans (sb3.trans (sb4.trans (sb5.trans sb6))))).tk)⟩ O c8 n8 (by rw [List.length_reverse]; omega) fun x hx=>dvx x (List.mem_reverse.mp hx);have PQ:ThV N Hb6 (vA++[.ref pb1,.ref pb4,.ref pb5]):=ThV.app (PA.same (sb1.trans (sb2.trans (sb3.trans (sb4.trans (sb5.trans sb6)))))) (.cons Q6 (.cons Q7 (.cons Q8 .nil)))
 have PD:ThV (fun b=>N b∨b=pb7) Hb7 (vA++[.ref pb1,.ref pb4,.ref pb5]):=fun v hv=>((PQ v hv).more nb7).same sb7;have eD:=ab7;have nD0:=IQ.nn nb7;have nDl:pb7≠l:=fun z=>IQ.st.ne nb7 z.symm;have lvD:(vA++[V.ref pb1,V.ref pb4,V.ref pb5]).length=8:=by rw [n26_,lvA]; rfl
 generalize (vA++[V.ref pb1,V.ref pb4,V.ref pb5])=vD at eD PD lvD ⊢;obtain ⟨ts2,htD,at1D⟩:=IM.td.at1;obtain ⟨_,rus2,er2,hraD,alrD⟩:=id IM.td.row;cases er2
 have lrD:=alrD.1;generalize Hb7=HD at *;generalize pb7=LD at *;refine ⟨_,rfl,.inl ⟨rfl,_,SqL.of eD⟩,_,rfl,_,rfl,p,ts2,1,_,rfl,rfl,SqT.of htD,at1D,ra,rus2,rfl,.inr (SqT.of hraD),l,rus2.length,rfl,IM.st,by omega,fun HE v9 m9 kE stE hv9 lm9 dm9=>?_⟩;have IE:=IM.keep nl kE stE;have PE':ThV (fun b=>N b∨b=LD) HE vD:=PD.keepS (.inl Nl) IM.st kE;have eE:=kE _ _ nDl eD;refine ⟨LD,_,_,rfl,rfl,eE,by rw [lvD,sizeLine_eq]; omega,?_⟩;have IG:LJ Ph l H1 (.ref pr) u ms qs p ra xs (upd HE LD (.lst (vD++[v9]))):=LJ.upd IE eE nD0 (Ne.symm nDl);have kG:Keep LD HE (upd HE LD (.lst (vD++[v9]))):=Keep.upd;have eG:upd HE LD (.lst (vD++[v9])) LD=some (.lst (vD++[v9])):=Zc;have tG:Tk HE (upd HE LD (.lst (vD++[v9]))):=Tk.upd_lst eE;have Q9:Th N (upd HE LD (.lst (vD++[v9]))) v9:=Zed (hv9.tk tG) O c8 n8 (by omega) fun x hx=>by (have:=(dm9 x hx).times (e:=C0); rw [hC]; exact this.mono (n19_ (n53_ _ C8) (by rw [← n49_,hn]; exact n9_ _)))
 have PG:ThV N (upd HE LD (.lst (vD++[v9]))) (vD++[v9]):=ThV.app (fun v hv=>((PE' v hv).keepL (.inr rfl) eE kG).less) (.cons Q9 .nil);have lvG:(vD++[v9]).length=9:=by rw [n26_,lvD]; rfl
 generalize (vD++[v9])=vG at IG kG eG tG Q9 PG lvG ⊢;generalize upd HE LD (.lst vG)=HG at IG kG eG tG Q9 PG ⊢;clear kG tG Q9;refine ⟨_,rfl,by omega,by omega,?_⟩;refine Zaa (fun i σ H4=>∃ L' vs' x1 x3 x7 x9 x10 x11,σ=[some (.ref a),x1,some (.ref l),x3,some (.ref pr),some u,some (.ref p),x7,some (.ref L'),x9,x10,x11]∧LJ Ph l H1 (.ref pr) u ms qs p ra xs H4∧H4 L'=some (.lst vs')∧ThV N H4 vs'∧vs'.length≤9+2 * i∧L'≠l) ⟨LD,vG,_,_,_,_,_,_,rfl,IG,eG,PG,by omega,nDl⟩ (fun i' σ H4 hi p'=>?_) (fun σ H4 p'=>?_)
 · obtain ⟨L',vs',x1,x3,x7,x9,x10,x11,rfl,I4,e4,P4,lv4,nl4⟩:=p';have hi8:i' < 4:=by simpa using hi
   obtain ⟨ts4,ht4,at4⟩:=I4.td.at1;have nr:=Zep xs;refine ⟨_,rfl,_,rfl,_,rfl,p,ts4,1,_,rfl,rfl,SqT.of ht4,at4,C,l,N,891,.ref ra,rowD xs,rfl,O,I4.st,Nl,DN I4.st,Zcc I4.td.row bx,by decide,Zbj xs,by omega,Zia dvx (by have:=O.c1; omega),fun H5 v5 k5 st5 tg5=>?_⟩;have I5:=I4.keep nl k5 st5;have P5:=P4.keepS Nl I4.st k5;have e5:=k5 _ _ nl4 e4;obtain ⟨d5,h5,dp5,nz5,ok5⟩:=tg5;have B1:Th N H5 v5:=Zhv h5 (by decide) (by omega) (by omega) O c8 n8 (by decide) ok5;refine ⟨_,rfl,C,l,N,rfl,O,I5.st,Nl,DN I5.st,fun H7 v7 k7 st7 tg7=>?_⟩;have I7:=I5.keep nl k7 st7;have P7:=P5.keepS Nl I5.st k7;have e7:=k7 _ _ nl4 e5;have B1':=B1.keepS Nl I5.st k7;obtain ⟨d7,h7,dp7,nz7,ok7⟩:=tg7;have B2:Th N H7 v7:=Zhv h7 (by decide) (by omega) (by omega) O c8 n8 (by decide) ok7;refine ⟨z2_,fun pf1 nf1=>?_⟩;generalize gG:upd H7 pf1 (.lst [v5,v7])=Hf1;obtain ⟨sf1,af1⟩:=gen_upd gG nf1;refine ⟨L',pf1,_,_,rfl,rfl,(sf1 _ _ e7),af1,by show _+2≤_; rw [sizeLine_eq]; omega,fun pf2 nf2=>?_⟩;generalize gG:upd Hf1 pf2 (.lst (vs'++[v5,v7]))=Hf2;obtain ⟨sf2,af2⟩:=gen_upd gG nf2;exact ⟨pf2,_,_,_,_,_,_,_,rfl,I7.same (sf1.trans sf2),af2,ThV.app (P7.same (sf1.trans sf2)) (.cons (B1'.same (sf1.trans sf2)) (.cons (B2.same (sf1.trans sf2)) .nil)),by rw [n26_]; show _+2≤_; omega,fun z=>(I7.same sf1).st.ne nf2 z.symm⟩
 · obtain ⟨L',vs',x1,x3,x7,x9,x10,x11,rfl,I4,e4,P4,lv4,nl4⟩:=p';refine ⟨_,rfl,L',rfl,⟨_,SqL.of e4⟩,?_⟩;refine Zaz (n:=vs'.length) (fun i σ H5=>∃ x1 x3 x7 x9 x10 x11,σ=[some (.ref a),x1,some (.ref l),x3,some (.ref pr),some u,some (.ref p),x7,some (.ref L'),x9,x10,x11]∧LJ Ph l H1 (.ref pr) u ms qs p ra xs H5∧H5 L'=some (.lst vs')∧ThV N H5 vs') ⟨_,_,_,_,_,_,rfl,I4,e4,P4⟩ (fun i' σ H5 hi p'=>?_) (fun σ H5 p'=>?_) (fun i' y σ H5 H6 hi yl p'=>?_) (fun σ H5 p'=>?_)
   · obtain ⟨x1,x3,x7,x9,x10,x11,rfl,I5,e5,P5⟩:=p';exact ⟨vs',_,SqL.of e5,n0_ hi⟩
   · obtain ⟨x1,x3,x7,x9,x10,x11,rfl,I5,e5,P5⟩:=p';exact ⟨vs',SqL.of e5,n9_ _⟩
   · obtain ⟨x1,x3,x7,x9,x10,x11,rfl,I5,e5,P5⟩:=p';obtain ⟨rfl,ye⟩:=yl;have ey:=ye _ (SqL.of e5);obtain ⟨dt,hd,dp,nzd,LT⟩:=P5 y (n1_ ey);have Dr:=(Zii (N:=N) I5.rs R.b.1).up (show 105≤900 by decide);have Dg:=(Zcc (N:=N) I5.rt R.b.2).up (show 105≤900 by decide);obtain ⟨nz1,nz2⟩:=R.nz;have hdp:(PyData.tuple [Zat ms,rowD qs,dt]).depth≤20:=by (have:=Zmy ms; have:=Zbj qs; show max _ (max _ (max _ 0))+1≤20; omega)
     have hnz:nz (PyData.tuple [Zat ms,rowD qs,dt])≤8000:=by show 1+(nz (Zat ms)+1+(nz (rowD qs)+1+(nz dt+1+0)))≤8000; omega
     refine ⟨_,rfl,_,rfl,_,rfl,z3_,fun q1 m1=>?_⟩;generalize gG:upd H6 q1 (.tup [.ref pr,u,y])=G1;obtain ⟨r1,b1⟩:=gen_upd gG m1;refine ⟨N,900,_,.tuple [Zat ms,rowD qs,dt],rfl,.tup b1 (.cons (Dr.same r1) (.cons (Dg.same r1) (.cons (hd.same r1) .nil))),by decide,hdp,hnz,?_⟩;have R1:=r1;refine ⟨_,rfl,_,rfl,_,rfl,N,900,.ref pr,u,y,ms,qs,dt,rfl,I5.rs.tk R1.tk,I5.rt.tk R1.tk,R,hd.same R1,by decide,nzd,fun G1a g1a=>?_⟩;refine ⟨N,900,_,.bool (solB ms qs dt),rfl,.bl _,by decide,n56_ _,by show 1≤8000; decide,?_⟩;have R1a:=R1.trans g1a;refine ⟨_,rfl,_,rfl,_,rfl,N,900,.ref pr,u,y,ms,qs,dt,rfl,I5.rs.tk R1a.tk,I5.rt.tk R1a.tk,R,hd.same R1a,by decide,nzd,LT,fun G1b g1b=>?_⟩;refine ⟨N,900,_,.bool (solB ms qs dt),rfl,.bl _,by decide,n56_ _,by show 1≤8000; decide,rfl,_,rfl,?_⟩;rw [n14_ rfl];refine iteF ?_;have R2:=R1a.trans g1b;refine ⟨_,rfl,_,rfl,_,rfl,N,900,.ref pr,u,y,ms,qs,dt,rfl,I5.rs.tk R2.tk,I5.rt.tk R2.tk,R,hd.same R2,by decide,nzd,fun G2a g2a=>?_⟩;refine ⟨N,900,_,.bool (mixB ms qs dt),rfl,.bl _,by decide,n56_ _,by show 1≤8000; decide,?_⟩;have R2a:=R2.trans g2a;refine ⟨_,rfl,_,rfl,_,rfl,N,900,.ref pr,u,y,ms,qs,dt,rfl,I5.rs.tk R2a.tk,I5.rt.tk R2a.tk,R,hd.same R2a,by decide,nzd,LT,fun G2b g2b=>?_⟩;refine ⟨N,900,_,.bool (mixB ms qs dt),rfl,.bl _,by decide,n56_ _,by show 1≤8000; decide,rfl,_,rfl,?_⟩;rw [n14_ rfl];refine iteF ?_;have R3:=R2a.trans g2b;refine ⟨_,rfl,_,rfl,_,rfl,z3_,fun q4 m4=>?_⟩;have r4:=R3.trans (Same.new (o:=.tup [.ref pr,u,y]) m4);refine ⟨N,900,_,.tuple [Zat ms,rowD qs,dt],rfl,.tup Zc (.cons (Dr.same r4) (.cons (Dg.same r4) (.cons (hd.same r4) .nil))),by decide,hdp,hnz,_,rfl,rfl,_,rfl,?_⟩;rw [n14_ rfl];refine iteF ?_;exact ⟨_,_,_,_,_,_,rfl,I5.same r4,r4 _ _ e5,P5.same r4⟩
   · obtain ⟨x1,x3,x7,x9,x10,x11,rfl,I5,e5,P5⟩:=p';exact ⟨_,_,_,_,_,_,_,_,_,_,rfl,I5.st,I5.kp,I5.th⟩
end
def BkK (K:PySem.W.Frag):Prop:=∃ (bm:Addr) (o:Obj),PySem.W.nsIn K mainGlobals "__builtins__" = some (some (.ref bm))∧bm≠builtinsNs∧bm≠mainGlobals∧K.lookup bm=some o∧o.cls=.type "module" ∧ o.dict=some builtinsNs∧o.data=.plain
theorem BkK.blt {K:PySem.W.Frag} {h:Heap} {mg:Str→Option Value} (z:BkK K) (X:K.In h) (G:h.Ns mainGlobals mg):BltK K mg:=let ⟨bm,o,e,r⟩:=z; ⟨bm,o,n97_ X G e,r⟩
structure Lk (K:PySem.W.Frag) (b:Str) (st:Stmt) (f:Addr):Prop where
 fn:∃ fd,Fun K b b st f fd
 a:PySem.W.nsIn K mainGlobals b=some (some (.ref f))
 k:PySem.W.keepIn K (.ref f)=true
theorem Zra {K:PySem.W.Frag} {b:Str} {st:Stmt} {f:Addr} {od an:Option Addr} {sl:Array (Option Value)} {oc kV dc pm cd ct:Value} (a:PySem.W.nsIn K mainGlobals b=some (some (.ref f))) (l:K.lookup f=some ⟨oc,od,.func (PySem.W.fnOf b b (Y6 st) (Yr st) (Ze st) .none kV dc pm an cd ct),sl⟩) (c:PySem.W.codeIn K cd b=true) (k:PySem.W.keepIn K (.ref f)=true):Lk K b st f:=⟨⟨_,Zlw (st:=st) l c k⟩,a,k⟩
theorem Lk.cal {P:Program} {w:World} {K:PySem.W.Frag} {h:Heap} {mg:Str→Option Value} {base:Heap} {b:Str} {st:Stmt} {f:Addr} {k:Nat} {ps:List Str} {sp:Sp} (L:Lk K b st f) (X:K.In h) (G:h.Ns mainGlobals mg) (ok:∀ {fd},Fun K b b st f fd→FnOk P w K mg base CX0 k f fd ps sp) (hb:∀ (kV doc pm:Value) (an:Option Addr) (cdv ct:Value) (us:List Value),us.length=ps.length→bindArgs (PySem.W.fnOf b b (Y6 st) (Yr st) (Ze st) .none kV doc pm an cdv ct) ⟨us,[]⟩=pure (ps.zip us)):Cal P w K mg base b k ps sp :=
 let ⟨_,F⟩:=L.fn
 ⟨f,_,ok F,n97_ X G L.a,L.k,F.binds (ps:=ps) hb⟩
theorem ln1 {P:List Value→Prop} (h:∀ x0,P [x0]):∀ us:List Value,us.length=1→P us:=fun us e=>match us,e with | [x0],_=>h x0
theorem ln2 {P:List Value→Prop} (h:∀ x0 x1,P [x0,x1]):∀ us:List Value,us.length=2→P us:=fun us e=>match us,e with | [x0,x1],_=>h x0 x1
theorem ln3 {P:List Value→Prop} (h:∀ x0 x1 x2,P [x0,x1,x2]):∀ us:List Value,us.length=3→P us:=fun us e=>match us,e with | [x0,x1,x2],_=>h x0 x1 x2
theorem ln4 {P:List Value→Prop} (h:∀ x0 x1 x2 x3,P [x0,x1,x2,x3]):∀ us:List Value,us.length=4→P us:=fun us e=>match us,e with | [x0,x1,x2,x3],_=>h x0 x1 x2 x3
theorem Zqv {l:PySem.W.OpenLaw} {w:World} {K:PySem.W.Frag} {h:Heap} {mg:Str→Option Value} {fa:Addr} (X:K.In h) (G:h.Ns mainGlobals mg) (hfa:mg "law" = some (.ref fa))
 {f_0:Addr} (h_0:Lk K "plain_divisor" Xq f_0)
 {f_1:Addr} (h_1:Lk K "divisor" Zdb f_1)
 {f_2:Addr} (h_2:Lk K "reduced" Zdi f_2)
 {f_3:Addr} (h_3:Lk K "multiple" Zcf f_3)
 {f_4:Addr} (h_4:Lk K "in_common" Zbn f_4)
 {f_5:Addr} (h_5:Lk K "scale_of" Zb8 f_5)
 {f_6:Addr} (h_6:Lk K "whole" Zfm f_6)
 {f_7:Addr} (h_7:Lk K "comes_to_nought" Xf f_7)
 {f_8:Addr} (h_8:Lk K "cleared" Za3 f_8)
 {f_9 cc_9 P_9:Addr} {od_9 an_9:Option Addr} {sl_9:Array (Option Value)} {oc_9 kV_9 dc_9 pm_9 ct_9:Value} (hd_9:PySem.W.codeHdIn K cc_9 P_9=true)
 (a_9:PySem.W.nsIn K mainGlobals "head_of" = some (some (.ref f_9)))
 (l_9:K.lookup f_9=some ⟨oc_9,od_9,.func (PySem.W.fnOf "head_of" "head_of" (Y6 Xx) (Yr Xx) (Ze Xx) .none kV_9 dc_9 pm_9 an_9 (.ref cc_9) ct_9),sl_9⟩)
 (c_9:PySem.W.codeIn K (.ref cc_9) "head_of" = true) (k_9:PySem.W.keepIn K (.ref f_9)=true)
 {f_10:Addr} (h_10:Lk K "stepped" Zb1 f_10)
 {f_11:Addr} (h_11:Lk K "levelled" Zbc f_11)
 {f_12:Addr} {od_12 an_12:Option Addr} {sl_12:Array (Option Value)} {oc_12 kV_12 dc_12 pm_12 cd_12 ct_12:Value}
 {dT_12:Addr} {dt_12:Tok} {dn_12:Nat} {oo_12:Option Addr} {os_12:Array (Option Value)} {occ_12:Value}
 (a_12:PySem.W.nsIn K mainGlobals "mixed" = some (some (.ref f_12)))
 (l_12:K.lookup f_12=some ⟨oc_12,od_12,.func (PySem.W.fnOf "mixed" "mixed" (Y6 Zb7) (Yr Zb7) (Ze Zb7) (.ref dT_12) kV_12 dc_12 pm_12 an_12 cd_12 ct_12),sl_12⟩)
 (c_12:PySem.W.codeIn K cd_12 "mixed" = true) (k_12:PySem.W.keepIn K (.ref f_12)=true)
 (t_12:K.lookup dT_12=some ⟨occ_12,oo_12,.seq #[.int 1 dt_12] dn_12,os_12⟩)
 {f_13:Addr} (h_13:Lk K "put_at" Zc3 f_13)
 {f_14:Addr} (h_14:Lk K "factors_of" Za1 f_14)
 {f_15:Addr} (h_15:Lk K "lowered" Zdq f_15)
 {f_16:Addr} (h_16:Lk K "filled" Zfh f_16)
 {f_17:Addr} (h_17:Lk K "places_of" Zbk f_17)
 {f_18:Addr} (h_18:Lk K "rights_to" Zbl f_18)
 {f_19:Addr} (h_19:Lk K "settled_by" X3 f_19)
 {f_20:Addr} (h_20:Lk K "settled_each" Yh f_20)
 {f_21:Addr} (h_21:Lk K "settled" Zdn f_21)
 {f_22:Addr} (h_22:Lk K "mix_of" Zb5 f_22)
 {f_23:Addr} (h_23:Lk K "is_whole" Zcr f_23)
 {f_24:Addr} (h_24:Lk K "is_fraction" Zaj f_24)
 {f_25:Addr} (h_25:Lk K "are_fractions" Xl f_25)
 {f_26:Addr} (h_26:Lk K "_law_cell_at" X6 f_26)
 {f_27:Addr} (h_27:Lk K "_law_state" Za0 f_27)
 {f_28:Addr} (h_28:Lk K "_law_choice" Zao f_28)
 {f_29:Addr} (h_29:Lk K "_law_low" Zce f_29)
 {f_30:Addr} (h_30:Lk K "_law_whole" Zav f_30)
 {f_31:Addr} (h_31:Lk K "_law_is_fraction" Xc f_31)
 {f_32:Addr} (h_32:Lk K "_law_odd" Zb9 f_32)
 {f_33:Addr} (h_33:Lk K "_law_bent" Xh f_33)
 {f_34:Addr} (h_34:Lk K "are_rows" Zbd f_34)
 {f_35:Addr} (h_35:Lk K "look_at_rows" X7 f_35)
 {f_36:Addr} (h_36:Lk K "solved" Zc2 f_36)
 {f_37:Addr} (h_37:Lk K "is_solution" Xn f_37)
 {f_38:Addr} (h_38:Lk K "is_mix" Za9 f_38)
 {f_39:Addr} (h_39:Lk K "_law_fraction" Xy f_39)
 {f_40:Addr} (h_40:Lk K "_law_add" Zcp f_40)
 {f_41:Addr} (h_41:Lk K "_law_mul" Zci f_41)
 {f_42:Addr} (h_42:Lk K "_law_total" Za2 f_42)
 {f_43:Addr} (h_43:Lk K "_law_dot" Zcg f_43)
 {f_44:Addr} (h_44:Lk K "_law_row" Za6 f_44)
 {f_45:Addr} (h_45:Lk K "_law_rows" Xv f_45)
 {f_46:Addr} (h_46:Lk K "_law_is_row" Zai f_46)
 {f_47:Addr} (h_47:Lk K "_law_is_solution" Ys f_47)
 {f_48:Addr} (h_48:Lk K "_law_is_mix" Xb f_48)
 {f_law:Addr} {od_law an_law:Option Addr} {sl_law:Array (Option Value)} {oc_law kV_law dc_law pm_law cd_law ct_law:Value}
 (a_law:PySem.W.nsIn K mainGlobals "law" = some (some (.ref f_law)))
 (l_law:K.lookup f_law=some ⟨oc_law,od_law,.func (PySem.W.fnOf "law" "law" (Y6 Zd6) (Yr Zd6) (Ze Zd6) .none kV_law dc_law pm_law an_law cd_law ct_law),sl_law⟩)
 (c_law:PySem.W.codeIn K cd_law "law" = true) (k_law:PySem.W.keepIn K (.ref f_law)=true)
 (z_abs:PySem.W.nsIn K mainGlobals "abs" = some none)
 (z_all:PySem.W.nsIn K mainGlobals "all" = some none)
 (z_any:PySem.W.nsIn K mainGlobals "any" = some none)
 (z_bool:PySem.W.nsIn K mainGlobals "bool" = some none)
 (z_enumerate:PySem.W.nsIn K mainGlobals "enumerate" = some none)
 (z_int:PySem.W.nsIn K mainGlobals "int" = some none)
 (z_isinstance:PySem.W.nsIn K mainGlobals "isinstance" = some none)
 (z_len:PySem.W.nsIn K mainGlobals "len" = some none)
 (z_list:PySem.W.nsIn K mainGlobals "list" = some none)
 (z_max:PySem.W.nsIn K mainGlobals "max" = some none)
 (z_min:PySem.W.nsIn K mainGlobals "min" = some none)
 (z_range:PySem.W.nsIn K mainGlobals "range" = some none)
 (z_repr:PySem.W.nsIn K mainGlobals "repr" = some none)
 (z_reversed:PySem.W.nsIn K mainGlobals "reversed" = some none)
 (z_sum:PySem.W.nsIn K mainGlobals "sum" = some none)
 (z_tuple:PySem.W.nsIn K mainGlobals "tuple" = some none)
 (z_zip:PySem.W.nsIn K mainGlobals "zip" = some none)
 {tn_GREAT_BITS:Tok} (n_GREAT_BITS:PySem.W.nsIn K mainGlobals "GREAT_BITS" = some (some (.int 4000 tn_GREAT_BITS)))
 {tn_MOST_ROWS:Tok} (n_MOST_ROWS:PySem.W.nsIn K mainGlobals "MOST_ROWS" = some (some (.int 60 tn_MOST_ROWS)))
 (bk:BkK K)
 {pr_N0:Addr} (gp_N0:PySem.W.nsIn K mainGlobals "NOUGHT" = some (some (.ref pr_N0))) (ep_N0:KTu K pr_N0 [.int 0,.int 1])
 {pr_O1:Addr} (gp_O1:PySem.W.nsIn K mainGlobals "ONE" = some (some (.ref pr_O1))) (ep_O1:KTu K pr_O1 [.int 1,.int 1])
 {pr_L1:Addr} (gp_L1:PySem.W.nsIn K mainGlobals "LESS_ONE" = some (some (.ref pr_L1))) (ep_L1:KTu K pr_L1 [.int (-1),.int 1])
 : ∃ fd:FuncData,(∀ (s:Shared) (v:Value),BindsTo s fd ⟨[v],[]⟩ [("_law_script",v)])∧∀ base:Heap,K.In base→base.Ns mainGlobals mg→FnOk l.prog w K mg base CX0 12 fa fd ["_law_script"] (Zjp K P_9):=by
 have e:=hfa.symm.trans (n97_ X G a_law);cases e
 have T:Bt mg:=⟨n46_ X G z_abs,n46_ X G z_all,n46_ X G z_any,n46_ X G z_bool,n46_ X G z_enumerate,n46_ X G z_int,n46_ X G z_isinstance,n46_ X G z_len,n46_ X G z_list,n46_ X G z_max,n46_ X G z_min,n46_ X G z_range,n46_ X G z_repr,n46_ X G z_reversed,n46_ X G z_sum,n46_ X G z_tuple,n46_ X G z_zip,⟨_,n97_ X G n_GREAT_BITS⟩,⟨_,n97_ X G n_MOST_ROWS⟩⟩;have N0:Zg5 K mg "NOUGHT" 0 1:=⟨pr_N0,n97_ X G gp_N0,ep_N0⟩;have O1:Zg5 K mg "ONE" 1 1:=⟨pr_O1,n97_ X G gp_O1,ep_O1⟩;have L1:Zg5 K mg "LESS_ONE" (-1) 1:=⟨pr_L1,n97_ X G gp_L1,ep_L1⟩;have BK:BltK K mg:=bk.blt X G;have F_9:=Zlw (st:=Xx) l_9 c_9 k_9;have F_12:=Zpm (st:=Zb7) l_12 c_12 k_12;have F_law:=Zlw (st:=Zd6) l_law c_law k_law;refine ⟨PySem.W.fnOf "law" "law" (Y6 Zd6) (Yr Zd6) (Ze Zd6) .none kV_law dc_law pm_law an_law cd_law ct_law,fun s v=>.of_eq rfl,fun base _ _=>?_⟩;have C_0:a0_ l.prog w K mg base:=h_0.cal X G (fun F=>Zc0 T F) fun _ _ _ _ _ _=>ln2 fun _ _=>rfl;have C_1:a1_ l.prog w K mg base:=h_1.cal X G (fun F=>Zjz T F C_0) fun _ _ _ _ _ _=>ln2 fun _ _=>rfl;have C_2:a8_ l.prog w K mg base:=h_2.cal X G (fun F=>Zjx T F C_1) fun _ _ _ _ _ _=>ln2 fun _ _=>rfl;have C_3:a3_ l.prog w K mg base:=h_3.cal X G (fun F=>Zh6 T F C_1) fun _ _ _ _ _ _=>ln1 fun _=>rfl;have C_4:a2_ l.prog w K mg base:=h_4.cal X G (fun F=>Zgg T F C_1) fun _ _ _ _ _ _=>ln2 fun _ _=>rfl;have C_5:a4_ l.prog w K mg base:=h_5.cal X G (fun F=>Zh3 T F O1 C_4 C_3) fun _ _ _ _ _ _=>ln1 fun _=>rfl;have C_6:a5_ l.prog w K mg base:=h_6.cal X G (fun F=>Zne T F C_5) fun _ _ _ _ _ _=>ln1 fun _=>rfl;have C_7:a28_ l.prog w K mg base:=h_7.cal X G (fun F=>Zb4 T F C_6) fun _ _ _ _ _ _=>ln2 fun _ _=>rfl;have C_8:a6_ l.prog w K mg base:=h_8.cal X G (fun F=>Zkg T F C_4) fun _ _ _ _ _ _=>ln4 fun _ _ _ _=>rfl;have C_9:Cal l.prog w K mg base "head_of" 5 ["left","place"] (Zhj P_9):=⟨f_9,_,Zkh T F_9 rfl (fun _ Y=>PySem.W.codeHd_of_K Y hd_9) BK,n97_ X G a_9,k_9,F_9.binds (ps:=["left","place"]) fun _ _ _ _ _ _=>ln2 fun _ _=>rfl⟩;have C_10:Cal l.prog w K mg base "stepped" 6 ["lines","places"] (Zco P_9):=h_10.cal X G (fun F=>Zj5 T F C_8 C_9) fun _ _ _ _ _ _=>ln2 fun _ _=>rfl;have C_11:a7_ l.prog w K mg base:=h_11.cal X G (fun F=>Zic T F C_3) fun _ _ _ _ _ _=>ln1 fun _=>rfl
 have C_12:a10_ l.prog w K mg base:=⟨f_12,_,Zns T F_12 C_11 C_2,n97_ X G a_12,k_12,fun s us KX hl=>(by
  have h1:us.length=3:=by simpa using hl
  match us,h1 with
  | [u0,u1,u2],_=>first | exact .of_eq rfl | exact BindsTo.of_defaults (T:=dT_12) (items:=#[.int 1 dt_12]) rfl (KX _ _ t_12) rfl rfl rfl)⟩
 have C_13:a9_ l.prog w K mg base:=h_13.cal X G (fun F=>Zln T F C_3 C_2) fun _ _ _ _ _ _=>ln3 fun _ _ _=>rfl;have C_14:a12_ l.prog w K mg base:=h_14.cal X G (fun F=>Zf0 T F C_1) fun _ _ _ _ _ _=>ln1 fun _=>rfl;have C_15:a13_ l.prog w K mg base:=h_15.cal X G (fun F=>Zj9 T F C_1) fun _ _ _ _ _ _=>ln2 fun _ _=>rfl;have C_16:a11_ l.prog w K mg base:=h_16.cal X G (fun F=>Zmn T F C_13) fun _ _ _ _ _ _=>ln2 fun _ _=>rfl;have C_17:a14_ l.prog w K mg base:=h_17.cal X G (fun F=>Zga T F) fun _ _ _ _ _ _=>ln1 fun _=>rfl;have C_18:a15_ l.prog w K mg base:=h_18.cal X G (fun F=>Zg9 T F C_12 C_5) fun _ _ _ _ _ _=>ln2 fun _ _=>rfl;have C_19:a16_ l.prog w K mg base:=h_19.cal X G (fun F=>Ze3 T F N0 C_16) fun _ _ _ _ _ _=>ln3 fun _ _ _=>rfl;have C_20:Cal l.prog w K mg base "settled_each" 7 ["rows","columns"] (Zbo K P_9):=h_20.cal X G (fun F=>Zdz T F C_14 C_11 C_15 C_17 C_18 C_19 C_10 C_6) fun _ _ _ _ _ _=>ln2 fun _ _=>rfl;have C_21:Cal l.prog w K mg base "settled" 8 ["rows","rights"] (Zba K P_9):=h_21.cal X G (fun F=>Zkj T F C_20) fun _ _ _ _ _ _=>ln2 fun _ _=>rfl;have C_22:Cal l.prog w K mg base "mix_of" 9 ["rows","rights","taken"] (Zfp K P_9):=h_22.cal X G (fun F=>Zmm T F N0 O1 C_21) fun _ _ _ _ _ _=>ln3 fun _ _ _=>rfl;have C_23:a17_ l.prog w K mg base:=h_23.cal X G (fun F=>Zh8 T F) fun _ _ _ _ _ _=>ln1 fun _=>rfl;have C_24:a18_ l.prog w K mg base:=h_24.cal X G (fun F=>Zd7 T F C_1 C_23) fun _ _ _ _ _ _=>ln1 fun _=>rfl;have C_x25:a24_ l.prog w K mg base:=h_25.cal X G (fun F=>Zcn T F C_24) fun _ _ _ _ _ _=>ln2 fun _ _=>rfl;have C_26:a19_ l.prog w K mg base:=h_26.cal X G (fun F=>Zdc T F) fun _ _ _ _ _ _=>ln2 fun _ _=>rfl;have C_27:a41_ l.prog w K mg base:=h_27.cal X G (fun F=>Zfa T F C_26) fun _ _ _ _ _ _=>ln2 fun _ _=>rfl;have C_28:a22_ l.prog w K mg base:=h_28.cal X G (fun F=>Zd9 T F) fun _ _ _ _ _ _=>ln2 fun _ _=>rfl;have C_29:a20_ l.prog w K mg base:=h_29.cal X G (fun F=>Zht T F) fun _ _ _ _ _ _=>ln2 fun _ _=>rfl;have C_30:a21_ l.prog w K mg base:=h_30.cal X G (fun F=>Zfz T F) fun _ _ _ _ _ _=>ln1 fun _=>rfl;have C_31:a35_ l.prog w K mg base:=h_31.cal X G (fun F=>Zbh T F C_29 C_30) fun _ _ _ _ _ _=>ln1 fun _=>rfl
 have C_32:a23_ l.prog w K mg base:=h_32.cal X G (fun F=>Zh2 T F C_28) fun _ _ _ _ _ _=>ln1 fun _=>rfl;have C_xI:Cal l.prog w K mg base "_law_bent" 2 ["_law_state_here","_law_thing"] (Zfk 0):=h_33.cal X G (fun F=>Zfq T F) fun _ _ _ _ _ _=>ln2 fun _ _=>rfl;have C_x33:Cal l.prog w K mg base "_law_bent" 3 ["_law_state_here","_law_thing"] (Zbs 0):=h_33.cal X G (fun F=>Zag (n:=0) T F C_xI C_28 C_32 C_30) fun _ _ _ _ _ _=>ln2 fun _ _=>rfl;have C_x34:Cal l.prog w K mg base "_law_bent" 4 ["_law_state_here","_law_thing"] (Zbs 1):=h_33.cal X G (fun F=>Zag (n:=1) T F C_x33 C_28 C_32 C_30) fun _ _ _ _ _ _=>ln2 fun _ _=>rfl;have C_x35:a37_ l.prog w K mg base:=h_33.cal X G (fun F=>Zag (n:=2) T F C_x34 C_28 C_32 C_30) fun _ _ _ _ _ _=>ln2 fun _ _=>rfl;have C_x37:a25_ l.prog w K mg base:=h_17.cal X G (fun F=>Zfi T F) fun _ _ _ _ _ _=>ln1 fun _=>rfl;have C_34:a26_ l.prog w K mg base:=h_34.cal X G (fun F=>Zhx T F C_x25 C_x37) fun _ _ _ _ _ _=>ln1 fun _=>rfl;have C_35:a27_ l.prog w K mg base:=h_35.cal X G (fun F=>Zc9 T F C_x25 C_34) fun _ _ _ _ _ _=>ln2 fun _ _=>rfl;have C_36:Cal l.prog w K mg base "solved" 10 ["rows","rights"] (Zds P_9):=h_36.cal X G (fun F=>Zlz T F C_35 C_22 C_17 C_21) fun _ _ _ _ _ _=>ln2 fun _ _=>rfl;have C_37:a43_ l.prog w K mg base:=h_37.cal X G (fun F=>Zea T F L1 C_x25 C_7 C_35 C_17 C_6) fun _ _ _ _ _ _=>ln3 fun _ _ _=>rfl;have C_38:a42_ l.prog w K mg base:=h_38.cal X G (fun F=>Zl5 T F C_x25 C_7 C_35 C_17 C_6) fun _ _ _ _ _ _=>ln3 fun _ _ _=>rfl;have C_39:a32_ l.prog w K mg base:=h_39.cal X G (fun F=>Zcx T F C_28 C_29) fun _ _ _ _ _ _=>ln1 fun _=>rfl;have C_40:a29_ l.prog w K mg base:=h_40.cal X G (fun F=>Zh5 T F C_29) fun _ _ _ _ _ _=>ln2 fun _ _=>rfl;have C_41:a30_ l.prog w K mg base:=h_41.cal X G (fun F=>Zh4 T F C_29) fun _ _ _ _ _ _=>ln2 fun _ _=>rfl;have C_42:a31_ l.prog w K mg base:=h_42.cal X G (fun F=>Ze8 T F C_40) fun _ _ _ _ _ _=>ln1 fun _=>rfl;have C_43:a33_ l.prog w K mg base:=h_43.cal X G (fun F=>Zhs T F C_41 C_42) fun _ _ _ _ _ _=>ln2 fun _ _=>rfl;have C_44:a34_ l.prog w K mg base:=h_44.cal X G (fun F=>Zhz T F C_39) fun _ _ _ _ _ _=>ln2 fun _ _=>rfl;have C_45:a40_ l.prog w K mg base:=h_45.cal X G (fun F=>Zhg T F C_40 C_28 C_43 C_39 C_44) fun _ _ _ _ _ _=>ln1 fun _=>rfl
 have C_46:a36_ l.prog w K mg base:=h_46.cal X G (fun F=>Zd5 T F C_31) fun _ _ _ _ _ _=>ln2 fun _ _=>rfl;have C_47:a39_ l.prog w K mg base:=h_47.cal X G (fun F=>Zbp T F C_43 C_46) fun _ _ _ _ _ _=>ln3 fun _ _ _=>rfl;have C_48:a38_ l.prog w K mg base:=h_48.cal X G (fun F=>Zd4 T F C_43 C_46) fun _ _ _ _ _ _=>ln3 fun _ _ _=>rfl;exact Zqs T F_law C_x35 C_39 C_48 C_47 C_41 C_32 C_44 C_45 C_27 C_38 C_37 C_36
theorem walk {l:PySem.W.OpenLaw} {q:Program} {loose:List Str} {XP:(Str→Option Value)→Heap→Prop} {YP:World→Heap→Prop} {d:DefRec} {K:Params→PySem.W.Frag} {c1 c2 P1 P2:Addr} (hn:l.most=some 63) (hdf:d.params.defaults=[])
 (hY:∀ (w:World) (h:Heap),YP w h→(K w.params).In h∧h.get? P1=some (PySem.W.tabObj #[])∧h.get? P2=some (PySem.W.tabObj #[]))
 (hc:∀ P,PySem.W.codeHdIn (K P) c1 P1=true∧PySem.W.codeHdIn (K P) c2 P2=true∧(K P).lookup P1=none∧(K P).lookup P2=none)
 (F:∀ (w:World) (mg:Str→Option Value) (fa:Addr) (h:Heap),(K w.params).In h→h.Ns mainGlobals mg→mg d.name=some (.ref fa) →
   ∃ fd:FuncData,(∀ (s:Shared) (u:Value),BindsTo s fd ⟨[u],[]⟩ [("_law_script",u)])∧∀ base:Heap,(K w.params).In base→base.Ns mainGlobals mg→FnOk l.prog w (K w.params) mg base CX0 12 fa fd ["_law_script"] (Zjp (K w.params) P2)) :
 PySem.W.WalkO q loose XP YP l.row.toRowW d [] (fun f vs=>PySem.call f vs) :=
 L2.Zng (n:=63) (k:=12) (x := "_law_script") (sp:=fun w=>Zjp (K w.params) P2) hn (by decide) hdf ⟨rfl,by decide,by decide,rfl⟩ hY hc F fun _ _ a ns hl hS e1 e2=>⟨a,ns,rfl,hS,hl,Znk e2,fun _=>rfl⟩
end My

namespace My
open PySem PySem.W PyProof.Rows L2
set_option maxRecDepth 1000000
set_option maxHeartbeats 0
def gE (P : Params) (n : Str) (t : Tok) (v : Value) : DictEntry := ⟨PySem.PyData.keyHash P n, .str n t, v⟩
def gR (P : Params) (n : Str) (t : Tok) (a : Addr) : DictEntry := gE P n t (.ref a)
def fO (n : Str) (i : Nat) (m : Str) (mt : Tok) (c : Addr) (dv : Value) : Obj := { cls := .type "function", data := .func (PySem.W.fnOf n n (Y6 (top i)) (Yr (top i)) (Ze (top i)) dv .none .none (.str m mt) none (.ref c) .none) }
def cO (n : Str) (a : Tok) (l k : Int) (r s : Addr) (u v : Value) (t : Nat) : Obj := { cls := .type "code", data := .fields (Array.mk [.str n a, .str n (a + 1), .str "/claim/cut.py" (a + 2), .int l 0, .int k 0, .int 0 0, .int 0 0, .int 3 0, .ref r, .bool true, .int 181 0, .ref (r + 1), .none, u, v, .ref s, .int t 0, .int l 0, .str "/claim/cut.py" (t + 1)]) }
def dR (n : Str) (i : Nat) (m : Str) (mt a : Tok) (l k : Int) (r : Addr) (t : Nat) : Frag := [(r + 6, fO n i m mt (r + 5) .none), (r + 5, cO n a l k r (r + 4) (.ref (r + 2)) (.ref (r + 3)) t)]
def dN (n : Str) (i : Nat) (m : Str) (mt a : Tok) (l k : Int) (r : Addr) (t : Nat) : Frag := [(r + 4, fO n i m mt (r + 3) .none), (r + 3, cO n a l k r (r + 2) .none .none t)]
def Zqj (s : Stmt) : Pos := match s with | .FunctionDef _ _ _ _ _ _ _ _ _ p => p | _ => ⟨0, 0, 0, 0⟩
def m0 : Str := "platerest.divisors"
def m1 : Str := "platerest.quotients"
def m2 : Str := "platerest.rows"
def m3 : Str := "law_platerest_k11_solutions_and_mixes_judged"
noncomputable def kK (P : Params) : Frag := (3, { cls := .type "dict", data := (.dict #[gE P "__name__" 165 (.str "law_platerest_k11_solutions_and_mixes_judged" 524),
gE P "__doc__" 166 (.none),
gE P "__package__" 167 (.none),
gE P "__loader__" 168 (.builtin "__main__.__loader__#opaque"),
gE P "__spec__" 169 (.none),
gR P "__annotations__" 170 6,
gR P "__builtins__" 171 4,
gE P "__file__" 173 (.str "/claim/cut.py" 172),
gE P "__cached__" 174 (.none),
gE P "GREAT_BITS" 190 (.int 4000 189),
gE P "FEW_BITS" 192 (.int 200 191),
gR P "plain_divisor" 200 21,
gR P "few_steps" 215 28,
gR P "mixed_by" 230 35,
gR P "shrinking" 250 42,
gR P "divisor" 259 49,
gR P "PlateError" 279 59,
gR P "NoRows" 295 72,
gR P "NOUGHT" 300 75,
gR P "ONE" 303 76,
gR P "is_whole" 310 83,
gR P "multiple" 319 90,
gR P "reduced" 328 97,
gR P "is_fraction" 337 104,
gR P "are_fractions" 343 109,
gR P "levelled" 349 114,
gR P "mixed" 356 120,
gE P "MOST_ROWS" 360 (.int 60 359),
gR P "LESS_ONE" 364 121,
gR P "places_of" 371 128,
gR P "are_rows" 377 133,
gR P "look_at_rows" 385 140,
gR P "in_common" 395 147,
gR P "scale_of" 401 152,
gR P "whole" 407 157,
gR P "comes_to_nought" 413 162,
gR P "head_of" 419 167,
gR P "cleared" 425 172,
gR P "stepped" 431 177,
gR P "put_at" 437 182,
gR P "filled" 448 189,
gR P "rights_to" 454 194,
gR P "factors_of" 465 201,
gR P "lowered" 477 208,
gR P "settled_by" 483 213,
gR P "settled_each" 489 218,
gR P "settled" 499 225,
gR P "mix_of" 505 230,
gR P "solved" 511 235,
gR P "is_solution" 517 240,
gR P "is_mix" 523 245,
gR P "_law_cell_at" 533 252,
gR P "_law_state" 542 259,
gR P "_law_choice" 552 266,
gR P "_law_low" 562 273,
gR P "_law_add" 570 280,
gR P "_law_mul" 578 287,
gR P "_law_total" 587 294,
gR P "_law_dot" 593 299,
gR P "_law_fraction" 602 306,
gR P "_law_row" 608 311,
gR P "_law_odd" 616 318,
gR P "_law_whole" 623 325,
gR P "_law_is_fraction" 629 330,
gR P "_law_bent" 640 337,
gR P "_law_rows" 646 342,
gR P "_law_is_row" 652 347,
gR P "_law_is_solution" 658 352,
gR P "_law_is_mix" 664 357,
gR P "law" 670 362] 70) }) :: (dR "plain_divisor" 3 m0 187 193 4 2 15 198 ++
dR "divisor" 7 m0 187 251 35 2 43 257 ++
dR "reduced" 16 m1 296 320 56 2 91 326 ++
dR "multiple" 15 m1 296 311 51 1 84 317 ++
dR "in_common" 27 m2 357 386 95 2 141 393 ++
dN "scale_of" 28 m2 357 396 102 1 148 399 ++
dN "whole" 29 m2 357 402 105 1 153 405 ++
dN "comes_to_nought" 30 m2 357 408 108 2 158 411 ++
dN "cleared" 32 m2 357 420 113 4 168 423 ++
dN "head_of" 31 m2 357 414 110 2 163 417 ++
dN "stepped" 33 m2 357 426 123 2 173 429 ++
dN "levelled" 19 m1 296 344 72 1 110 347 ++
[(120, fO "mixed" 20 m1 296 119 (.ref 115)), (119, cO "mixed" 351 75 3 116 118 (.none) (.none) 354), (115, { cls := .type "tuple", data := .seq #[.int 1 350] 0 })] ++
dN "put_at" 34 m2 357 432 133 3 178 435 ++
dR "factors_of" 37 m2 357 455 146 1 195 463 ++
dR "lowered" 38 m2 357 466 155 2 202 475 ++
dR "filled" 35 m2 357 438 138 2 183 446 ++
dR "places_of" 24 m2 357 365 81 1 122 369 ++
dN "rights_to" 36 m2 357 449 143 2 190 452 ++
dN "settled_by" 39 m2 357 478 162 3 209 481 ++
dN "settled_each" 40 m2 357 484 165 2 214 487 ++
dR "settled" 41 m2 357 490 179 2 219 497 ++
dN "mix_of" 42 m2 357 500 182 3 226 503 ++
dR "is_whole" 14 m1 296 304 49 1 77 308 ++
dR "is_fraction" 17 m1 296 329 61 1 98 335 ++
dN "are_fractions" 18 m1 296 338 68 2 105 341 ++
dR "_law_cell_at" 47 m3 524 526 209 2 246 531 ++
dR "_law_state" 48 m3 524 534 213 2 253 540 ++
dR "_law_choice" 49 m3 524 543 216 2 260 550 ++
dR "_law_low" 50 m3 524 553 226 2 267 560 ++
dR "_law_whole" 58 m3 524 617 253 1 319 621 ++
dN "_law_is_fraction" 59 m3 524 624 255 1 326 627 ++
dR "_law_odd" 57 m3 524 609 250 1 312 614 ++
dR "_law_bent" 60 m3 524 630 259 2 331 638 ++
dN "are_rows" 25 m2 357 372 83 1 129 375 ++
dR "look_at_rows" 26 m2 357 378 90 2 134 383 ++
dN "solved" 43 m2 357 506 186 2 231 509 ++
dN "is_solution" 44 m2 357 512 193 3 236 515 ++
dN "is_mix" 45 m2 357 518 199 3 241 521 ++
dR "_law_fraction" 55 m3 524 594 242 1 300 600 ++
dR "_law_add" 51 m3 524 563 231 2 274 568 ++
dR "_law_mul" 52 m3 524 571 233 2 281 576 ++
dR "_law_total" 53 m3 524 579 235 1 288 585 ++
dN "_law_dot" 54 m3 524 588 240 2 295 591 ++
dN "_law_row" 56 m3 524 603 248 2 307 606 ++
dN "_law_rows" 61 m3 524 641 271 1 338 644 ++
dN "_law_is_row" 62 m3 524 647 282 2 343 650 ++
dN "_law_is_solution" 63 m3 524 653 284 3 348 656 ++
dN "_law_is_mix" 64 m3 524 659 288 3 353 662 ++
dN "law" 65 m3 524 665 293 1 358 668 ++
[(75, { cls := .type "tuple", data := .seq #[.int 0 298, .int 1 299] 0 })] ++
[(76, { cls := .type "tuple", data := .seq #[.int 1 301, .int 1 302] 0 })] ++
[(121, { cls := .type "tuple", data := .seq #[.int (-1) 362, .int 1 363] 0 })] ++
[(4, { cls := .type "module", dict := some builtinsNs })])
def kA : List Addr := [3, 21, 20, 49, 48, 97, 96, 90, 89, 147, 146, 152, 151, 157, 156, 162, 161, 172, 171, 167, 166, 177, 176, 114, 113, 120, 119, 115, 182, 181, 201, 200, 208, 207, 189, 188, 128, 127, 194, 193, 213, 212, 218, 217, 225, 224, 230, 229, 83, 82, 104, 103, 109, 108, 252, 251, 259, 258, 266, 265, 273, 272, 325, 324, 330, 329, 318, 317, 337, 336, 133, 132, 140, 139, 235, 234, 240, 239, 245, 244, 306, 305, 280, 279, 287, 286, 294, 293, 299, 298, 311, 310, 342, 341, 347, 346, 352, 351, 357, 356, 362, 361, 75, 76, 121, 4]
theorem kAs : ∀ P, kA = (kK P).map (·.1) := fun _ => by kernel_rfl
def kT : List Addr := [164]
theorem kb (P : Params) : BkK (kK P) := ⟨4, { cls := .type "module", dict := some builtinsNs }, by kernel_rfl, by decide, by decide, by kernel_rfl, rfl, rfl, rfl⟩
theorem h3 : ∀ w os, (topK pw 4228 w os).map (fun s => (kA.map s.abs.heap.get?, kT.map s.abs.heap.get?)) = some (((kK w.params).map fun p => some p.2, kT.map fun _ => some (tabObj #[]))) := fun w os => by
  unfold topK topStub;rw [PySem.W.Fast.te4652649595001227023, PySem.W.Fast.te14364793385576792824, PySem.W.Fast.te17154629097778926822, PySem.W.Fast.te12822647523644345616]
  kernel_rfl
theorem left : LeftO pw qq ll (fun s => xlAt qq [] s && recOk (RowW.records (OpenRow.toRowW rr)) s) (Hook.obs (kmHook kK kA kAs kT)) (Hook.val (kmHook kK kA kAs kT)) 4228 :=
  Zid (T0 := bootT) (life := {}) (by kernel_rfl) (by kernel_rfl) (fun s => by kernel_rfl) Zm0 Zlj (Zgv (R := topK pw 4228) h1 h2 h3)
theorem lk4 {P : Params} {b : Str} {i : Nat} {f : Addr} (c : Addr) (m : Str) (mt : Tok) (h : ((kK P).lookup f, PySem.W.nsIn (kK P) mainGlobals b, PySem.W.codeIn (kK P) (.ref c) b, PySem.W.keepIn (kK P) (.ref f)) = (some (fO b i m mt c .none), some (some (.ref f)), true, true)) : Lk (kK P) b (top i) f := Zra (Prod.mk.inj (Prod.mk.inj h).2).1 (Prod.mk.inj h).1 (Prod.mk.inj (Prod.mk.inj (Prod.mk.inj h).2).2).1 (Prod.mk.inj (Prod.mk.inj (Prod.mk.inj h).2).2).2
theorem Zch (P : Params) : PySem.W.codeHdIn (kK P) 166 164 = true := by kernel_rfl
theorem Zj3 (P : Params) : (kK P).lookup 167 = some (fO "head_of" 31 m2 357 166 .none) := by kernel_rfl
theorem Zju (P : Params) : PySem.W.nsIn (kK P) mainGlobals "head_of" = some (some (.ref 167)) := by kernel_rfl
theorem Zkk (P : Params) : PySem.W.codeIn (kK P) (.ref 166) "head_of" = true := by kernel_rfl
theorem Zj6 (P : Params) : PySem.W.keepIn (kK P) (.ref 167) = true := by kernel_rfl
theorem Zmz (P : Params) : (kK P).lookup 120 = some (fO "mixed" 20 m1 296 119 (.ref 115)) := by kernel_rfl
theorem Znw (P : Params) : PySem.W.nsIn (kK P) mainGlobals "mixed" = some (some (.ref 120)) := by kernel_rfl
theorem Zmv (P : Params) : PySem.W.codeIn (kK P) (.ref 119) "mixed" = true := by kernel_rfl
theorem Zm9 (P : Params) : PySem.W.keepIn (kK P) (.ref 120) = true := by kernel_rfl
theorem Znn (P : Params) : (kK P).lookup 115 = some ⟨.type "tuple", none, .seq #[.int 1 350] 0, #[]⟩ := by kernel_rfl
theorem Zq1 (P : Params) : (kK P).lookup 362 = some (fO "law" 65 m3 524 361 .none) := by kernel_rfl
theorem Zqx (P : Params) : PySem.W.nsIn (kK P) mainGlobals "law" = some (some (.ref 362)) := by kernel_rfl
theorem Zp1 (P : Params) : PySem.W.codeIn (kK P) (.ref 361) "law" = true := by kernel_rfl
theorem Zp3 (P : Params) : PySem.W.keepIn (kK P) (.ref 362) = true := by kernel_rfl
theorem kt75 (P : Params) : (kK P).lookup 75 = some ({ cls := .type "tuple", data := .seq #[.int 0 298, .int 1 299] 0 } : Obj) := by kernel_rfl
theorem ke75 (P : Params) : KTu (kK P) 75 [.int 0, .int 1] := ⟨_, _, _, kt75 P, rfl, rfl, (by show 2 ≤ sizeLine; decide), (.cons ⟨_, rfl⟩ (.cons ⟨_, rfl⟩ .nil))⟩
theorem kt76 (P : Params) : (kK P).lookup 76 = some ({ cls := .type "tuple", data := .seq #[.int 1 301, .int 1 302] 0 } : Obj) := by kernel_rfl
theorem ke76 (P : Params) : KTu (kK P) 76 [.int 1, .int 1] := ⟨_, _, _, kt76 P, rfl, rfl, (by show 2 ≤ sizeLine; decide), (.cons ⟨_, rfl⟩ (.cons ⟨_, rfl⟩ .nil))⟩
theorem Zrg (P : Params) : (kK P).lookup 121 = some ({ cls := .type "tuple", data := .seq #[.int (-1) 362, .int 1 363] 0 } : Obj) := by kernel_rfl
theorem Zrh (P : Params) : KTu (kK P) 121 [.int (-1), .int 1] := ⟨_, _, _, Zrg P, rfl, rfl, (by show 2 ≤ sizeLine; decide), (.cons ⟨_, rfl⟩ (.cons ⟨_, rfl⟩ .nil))⟩
theorem hcL : ∀ P, PySem.W.codeHdIn (kK P) 166 164 = true ∧ PySem.W.codeHdIn (kK P) 166 164 = true ∧ (kK P).lookup 164 = none ∧ (kK P).lookup 164 = none := fun P => ⟨Zch P, Zch P, by kernel_rfl, by kernel_rfl⟩
def dL : DefRec := ⟨"law", Y6 (top 65), Yr (top 65), Ze (top 65), Zqj (top 65)⟩
theorem hdL : defOf qq (OpenRow.toRowW rr).name = some (dL, []) := by kernel_rfl
theorem hpL : (OpenRow.toRowW rr).prog.theDef (OpenRow.toRowW rr).name = some (dL.params, dL.body, dL.scope) := by kernel_rfl
theorem hkL : kwWritten? dL.params.kwonlyargs dL.params.kw_defaults = some [] := by kernel_rfl
theorem okL : (chainsOk qq && opensWell (OpenRow.toRowW rr).prog && (frees (OpenRow.toRowW rr) && (OpenRow.toRowW rr).within.isEmpty)) = true := by kernel_rfl
theorem dfL : dL.params.defaults = [] := by kernel_rfl
theorem wkL : WalkO qq ll (XL qq []) (Hook.says (kmHook kK kA kAs kT)) (OpenRow.toRowW rr) dL [] (fun f vs => PySem.call f vs) := by
  refine My.walk (l := PySem.Challenge.rw_platerest_k11_solutions_and_mixes_judged) rfl dfL (fun w h Y => ⟨PySem.W.km_in_of Y, PySem.W.km_tabs_of Y _ (by decide), PySem.W.km_tabs_of Y _ (by decide)⟩) hcL ?F;intro w mg fa h KX G hmg;exact Zqv KX G hmg (lk4 (f:=21) 20 m0 187 (by kernel_rfl)) (lk4 (f:=49) 48 m0 187 (by kernel_rfl)) (lk4 (f:=97) 96 m1 296 (by kernel_rfl)) (lk4 (f:=90) 89 m1 296 (by kernel_rfl)) (lk4 (f:=147) 146 m2 357 (by kernel_rfl)) (lk4 (f:=152) 151 m2 357 (by kernel_rfl)) (lk4 (f:=157) 156 m2 357 (by kernel_rfl)) (lk4 (f:=162) 161 m2 357 (by kernel_rfl)) (lk4 (f:=172) 171 m2 357 (by kernel_rfl)) (Zch _) (Zju _) (Zj3 _) (Zkk _) (Zj6 _) (lk4 (f:=177) 176 m2 357 (by kernel_rfl)) (lk4 (f:=114) 113 m1 296 (by kernel_rfl)) (Znw _) (Zmz _) (Zmv _) (Zm9 _) (Znn _) (lk4 (f:=182) 181 m2 357 (by kernel_rfl)) (lk4 (f:=201) 200 m2 357 (by kernel_rfl)) (lk4 (f:=208) 207 m2 357 (by kernel_rfl)) (lk4 (f:=189) 188 m2 357 (by kernel_rfl)) (lk4 (f:=128) 127 m2 357 (by kernel_rfl)) (lk4 (f:=194) 193 m2 357 (by kernel_rfl)) (lk4 (f:=213) 212 m2 357 (by kernel_rfl)) (lk4 (f:=218) 217 m2 357 (by kernel_rfl)) (lk4 (f:=225) 224 m2 357 (by kernel_rfl)) (lk4 (f:=230) 229 m2 357 (by kernel_rfl)) (lk4 (f:=83) 82 m1 296 (by kernel_rfl)) (lk4 (f:=104) 103 m1 296 (by kernel_rfl)) (lk4 (f:=109) 108 m1 296 (by kernel_rfl)) (lk4 (f:=252) 251 m3 524 (by kernel_rfl)) (lk4 (f:=259) 258 m3 524 (by kernel_rfl)) (lk4 (f:=266) 265 m3 524 (by kernel_rfl)) (lk4 (f:=273) 272 m3 524 (by kernel_rfl)) (lk4 (f:=325) 324 m3 524 (by kernel_rfl)) (lk4 (f:=330) 329 m3 524 (by kernel_rfl)) (lk4 (f:=318) 317 m3 524 (by kernel_rfl)) (lk4 (f:=337) 336 m3 524 (by kernel_rfl)) (lk4 (f:=133) 132 m2 357 (by kernel_rfl)) (lk4 (f:=140) 139 m2 357 (by kernel_rfl)) (lk4 (f:=235) 234 m2 357 (by kernel_rfl)) (lk4 (f:=240) 239 m2 357 (by kernel_rfl)) (lk4 (f:=245) 244 m2 357 (by kernel_rfl)) (lk4 (f:=306) 305 m3 524 (by kernel_rfl)) (lk4 (f:=280) 279 m3 524 (by kernel_rfl)) (lk4 (f:=287) 286 m3 524 (by kernel_rfl)) (lk4 (f:=294) 293 m3 524 (by kernel_rfl)) (lk4 (f:=299) 298 m3 524 (by kernel_rfl)) (lk4 (f:=311) 310 m3 524 (by kernel_rfl)) (lk4 (f:=342) 341 m3 524 (by kernel_rfl)) (lk4 (f:=347) 346 m3 524 (by kernel_rfl)) (lk4 (f:=352) 351 m3 524 (by kernel_rfl)) (lk4 (f:=357) 356 m3 524 (by kernel_rfl)) (Zqx _) (Zq1 _) (Zp1 _) (Zp3 _) (by kernel_rfl) (by kernel_rfl) (by kernel_rfl) (by kernel_rfl) (by kernel_rfl) (by kernel_rfl) (by kernel_rfl) (by kernel_rfl) (by kernel_rfl) (by kernel_rfl) (by kernel_rfl) (by kernel_rfl) (by kernel_rfl) (by kernel_rfl) (by kernel_rfl) (by kernel_rfl) (by kernel_rfl) (tn_GREAT_BITS:=189) (by kernel_rfl) (tn_MOST_ROWS:=359) (by kernel_rfl) (kb _) (by kernel_rfl) (ke75 _) (by kernel_rfl) (ke76 _) (by kernel_rfl) (Zrh _)
end My
open PySem PySem.W PyProof.Rows
set_option maxRecDepth 1000000 in
set_option maxHeartbeats 0 in
theorem PySem.Challenge.cw_platerest_k11_solutions_and_mixes_judged_holds : PySem.Challenge.rw_platerest_k11_solutions_and_mixes_judged.Holds := by
  refine holds_law My.ws fun said => ?_;refine holds_open (q := My.qq) (loose := My.ll) (Xt := fun s => xlAt My.qq [] s && recOk (RowW.records (OpenRow.toRowW My.rr)) s) (XP := XL My.qq []) (Yf := Hook.obs (kmHook My.kK My.kA My.kAs My.kT)) (Ya := Hook.val (kmHook My.kK My.kA My.kAs My.kT)) (YP := Hook.says (kmHook My.kK My.kA My.kAs My.kT)) My.left (Hook.of (kmHook My.kK My.kA My.kAs My.kT)) (Hook.keeps (kmHook My.kK My.kA My.kAs My.kT)) (fun s e => xl_of s (Bool.and_eq_true_iff.mp e).1) XL.keeps My.hdL My.hpL My.hkL (fun s e => recFacts_of (Bool.and_eq_true_iff.mp e).2) rfl said My.okL ⟨rfl, rfl, rfl, rfl, rfl, by decide +kernel⟩ ?hw My.wkL
  case hw => w_witness2
